import PyProof.Rows.All
import Wide.All
import OpenK.AllK
import Wide.FinOn
import Lean
import PyProof.EqAt
import PyProof.EqKinds
import PyProof.TupleCall
import KE.KSortTup
import PyProof.TupleOfGen
import PyProof.ListRange
import PyProof.Rows.ZipGen
import KE.KRevIter
import PyProof.NeKinds
import PyProof.CompUse
import KE.KDictSum
import PyProof.Rows.SortWalk
import PyProof.AttrMissHeap
import KE.KDictOf
import PyProof.StationsW
import PyProof.ExcClass2
import PyProof.ExcBaseAll.ValueError
import OpenK.KOwn
import PyProof.RulesAs
import PyProof.Rows.Catch
import PyProof.ExcAttrAll.ValueError
import KE.KIsAll
import PyProof.NsDelKeeps
import KE.KLam
import KE.KTupSum
import PyProof.EnumStmt
import PyProof.EnumMake
import PyProof.SeqI3
import PyProof.MinMaxWalk
import PyProof.WalkInts
import PyProof.Rows.CallKwBuiltin
import KE.KRevSl
import PyProof.Rows.SetFrom
import PyProof.ListMulRoad
import PyProof.FactsAll.tuple
import PyProof.WalksMore
import PyProof.StrWalks
import PyProof.MeetsStr
import PyProof.StrBlockH
import KE.KIntText
import PyProof.Rows.FStr
import KE.IntTextLaws
import KE.KxText
import PyProof.Rows.StrDigitsNeg
import PyProof.Rows.ReprOcc
import PyProof.StrLawsFirst
import PyProof.StrLawsIn
import PyProof.StrCalls2
import PyProof.StrLawsChain
import PyProof.StrLawsOcc
import PyProof.Rows.SeqMore
import PyProof.Rows.SortStr
import KE.KUnpackStar
import PyProof.StrLawsTight
import PyProof.StrOps2
import PyProof.PureStr
import PyProof.ListStr
import PyProof.StrLawsIdx
import KE.KItemsList
import PyProof.DictTable
import PyProof.DictTruth
import PySem.Challenge.RW_boxballs_k96_names_and_many_rows_at_a_de
set_option maxHeartbeats 4000000
set_option maxRecDepth 100000
set_option Elab.async false
set_option linter.unusedVariables false
set_option linter.all false
open PySem PySem.Spec PyProof.Rows
open Int (emod_lt_of_pos emod_nonneg eq_ofNat_of_zero_le natCast_add toNat_natCast)
open Nat (le_succ le_trans log2_lt lt_irrefl lt_succ_of_lt lt_succ_self ne_of_gt ne_of_lt succ_pos zero_le zero_min)
open PySem.Builtin.Str (occurrences partsBetween strSliceIndices strSub)
open PySem.F (plainAttrs_list plainAttrs_str slot_str_join slot_str_partition slot_str_split type_str_join type_str_partition)
open PySem.Str (empty_append)
open PySem.Str renaming ofString->oS
open PySem.W (CodeHd Looks callWith_K cellsFrom_some codeHdIn codeHd_of_K codeIn emptyDict findIn handedIn hasDictIn instObj keepIn kia_one kitOne kitx_dict kitx_list kla_fn kla_obj km_tabs_of lookIn looks_findIn looks_subIn makesIn methodObj mg_none_of mg_of mroIn nsOkIn plainGet plainGet_of plainOver specialIn subIn tabObj tailIn takerIn typeIn)
open Array (getElem?_toList length_toList toList_extract)
open Bool (and_eq_true eq_false_iff false_eq_true)
open List (all_cons all_eq_true all_map any_cons any_eq_true any_map append_nil count_cons drop_eq_nil_of_le ext_getElem? filterMap_cons filterMap_map filter_append filter_cons_of_neg filter_cons_of_pos filter_nil find?_append find?_cons find?_cons_of_neg find?_cons_of_pos find?_eq_none find?_some forall_mem_cons getD_eq_getElem?_getD getElem?_append_left getElem?_append_right getElem?_drop getElem?_map getElem?_range getElem_mem getLast?_eq_getElem? length_append length_cons length_drop length_map length_nil length_pos_iff length_range length_replicate length_singleton length_take lookup_cons map_append map_congr_left map_cons map_nil map_singleton mem_append mem_append_left mem_append_right mem_cons mem_cons_of_mem mem_cons_self mem_filter mem_map mem_of_getElem? mem_range mem_singleton nil_append nodup_cons not_mem_nil of_mem_zip pairwise_cons pairwise_map range_succ replicate size_toArray sum_cons sum_nil take_add_one take_length take_of_length_le)
open Option (getD_none isSome_map map_eq_some_iff)
open PySem.Heap (get?_push_at get?_push_of_some get?_push_size get?_update_of_ne get?_update_other get?_update_self lt_size size_after_update size_push)
namespace L2
abbrev Key:=Sum Int Str
def keyIs:Key->Value->Bool
 | .inl k,v=>Value.isInt k v
 | .inr x,v=>Value.isStrOf x v
def keyH (w:World):Key->Int
 | .inl k=>hashInt k
 | .inr x=>hashStr w x
theorem keyIs_shape:∀{k:Key} {v:Value},keyIs k v=true->(∃i t,k=Sum.inl i/\v=Value.int i t)\/(∃x t,k=Sum.inr x/\v=Value.str x t)
 | .inl i,v,h=>by
   obtain⟨t,e⟩:=Value.isInt_shape (k:=i) (v:=v) h
   exact .inl ⟨i,t,rfl,e⟩
 | .inr x,v,h=>by
   obtain⟨t,e⟩:=Value.isStrOf_shape (x:=x) (v:=v) h
   exact .inr ⟨x,t,rfl,e⟩
theorem keyIs_int (i:Int)(t:Tok):keyIs (.inl i) (.int i t)=true:=by simp[keyIs,Value.isInt]
theorem keyIs_str (x:Str)(t:Tok):keyIs (.inr x) (.str x t)=true:=by simp[keyIs,Value.isStrOf]
theorem key_ll (a b:Int):decide ((Sum.inl a:Key)=Sum.inl b)=(a==b):=by
 by_cases e:a=b
 ·subst e;simp
 ·have h:¬(Sum.inl a:Key)=Sum.inl b:=fun q=>e (Sum.inl.inj q)
  rw[decide_eq_false h]
  exact(beq_eq_false_iff_ne.mpr e).symm
theorem key_rr (a b:Str):decide ((Sum.inr a:Key)=Sum.inr b)=decide (a=b):=by
 by_cases e:a=b
 ·subst e;simp
 ·have h:¬(Sum.inr a:Key)=Sum.inr b:=fun q=>e (Sum.inr.inj q)
  rw[decide_eq_false h,decide_eq_false e]
theorem key_lr (a:Int)(b:Str):decide ((Sum.inl a:Key)=Sum.inr b)=false:=decide_eq_false (fun q=>nomatch q)
theorem key_rl (a:Str)(b:Int):decide ((Sum.inr a:Key)=Sum.inl b)=false:=decide_eq_false (fun q=>nomatch q)
def mixKind (prog:Program)(w:World):PySem.KeyKind prog w Key where
 is:=keyIs
 hash:=keyH w
 inj:=fun v a b ha hb=>by
  rcases keyIs_shape ha with⟨i,t,rfl,rfl⟩ | ⟨x,t,rfl,rfl⟩
  ·rcases keyIs_shape hb with⟨j,u,rfl,e⟩ | ⟨y,u,rfl,e⟩
   ·injection e with e1 _;rw[e1]
   ·exact nomatch e
  ·rcases keyIs_shape hb with⟨j,u,rfl,e⟩ | ⟨y,u,rfl,e⟩
   ·exact nomatch e
   ·injection e with e1 _;rw[e1]
 byValue:=fun k v h=>by
   rcases keyIs_shape h with⟨i,t,rfl,rfl⟩ | ⟨x,t,rfl,rfl⟩<;>rfl
 pyHash:=fun hv h=>by
  rcases keyIs_shape hv with⟨i,t,rfl,rfl⟩ | ⟨x,t,rfl,rfl⟩
  ·exact wpAny_pyHash_int h
  ·exact wpAny_pyHash_str h
 eqBool:=fun hu hv h=>by
  rcases keyIs_shape hu with⟨i,t,rfl,rfl⟩ | ⟨x,t,rfl,rfl⟩
  ·rcases keyIs_shape hv with⟨j,u,rfl,rfl⟩ | ⟨y,u,rfl,rfl⟩
   ·rw[key_ll]at h;exact wpAny_eqBool_int h
   ·rw[key_lr]at h;exact SeqAt.EqAt.int_str i t y u _ _ _ _ h
  ·rcases keyIs_shape hv with⟨j,u,rfl,rfl⟩ | ⟨y,u,rfl,rfl⟩
   ·rw[key_rl]at h;exact SeqAt.EqAt.str_int x t j u _ _ _ _ h
   ·rw[key_rr]at h;exact wpAny_eqBool_str h
 «strs»:=fun k x t v h=>by
  rcases keyIs_shape h with⟨i,u,rfl,e⟩ | ⟨y,u,rfl,e⟩
  ·exact nomatch e
  ·injection e with e1 _
   subst e1
   cases v<;>rfl
theorem mixKind_int (prog:Program)(w:World)(i:Int)(t:Tok):(mixKind prog w).is (.inl i) (.int i t)=true:=keyIs_int i t
theorem mixKind_str (prog:Program)(w:World)(x:Str)(t:Tok):(mixKind prog w).is (.inr x) (.str x t)=true:=keyIs_str x t
inductive V where
 |non | bl (b:Bool) | int (i:Int) | str (x:Str) | byt (b:Array UInt8) | flt (b:UInt64) | ref (a:Addr) | ty (n:String)
 deriving DecidableEq
def RelV:V->Value->Prop
 | .non,u=>u=Value.none
 | .bl b,u=>u=Value.bool b
 | .int i,u=>∃t,u=Value.int i t
 | .str x,u=>∃t,u=Value.str x t
 | .byt b,u=>∃t,u=Value.bytes b t
 | .flt b,u=>∃t,u=Value.float b t
 | .ref a,u=>u=Value.ref a
 | .ty n,u=>u=Value.type n
abbrev Vals:List V->List Value->Prop:=Paired RelV
theorem Vals.length {xs:List V}{us:List Value}(r:Vals xs us):xs.length=us.length:=Paired.length r
theorem Vals.get:∀{xs:List V} {us:List Value} {i:Nat} {x:V},Vals xs us->xs[i]?=some x->∃u,us[i]?=some u/\RelV x u
 |_,_,_,_,.nil,e=>by simp at e
 |_,_,0,_,.cons r _,e=>by simp at e;subst e;exact⟨_,rfl,r⟩
 |_,_,i+1,x,.cons _ t,e=>by
  obtain⟨u,h1,h2⟩:=Vals.get (i:=i) (x:=x) t (by simpa using e)
  exact⟨u,by simpa using h1,h2⟩
theorem Vals.set {x:V}{u:Value}(r:RelV x u):∀{xs:List V} {us:List Value} (i:Nat),Vals xs us->Vals (xs.set i x) (us.set i u)
 |_,_,_,.nil=>.nil
 |_,_,0,.cons _ t=>.cons r t
 |_,_,i+1,.cons q t=>.cons q (Vals.set r i t)
theorem Vals.append:∀{xs ys:List V} {us ws:List Value},Vals xs us->Vals ys ws->Vals (xs++ys) (us++ws)
 |_,_,_,_,.nil,s=>s
 |_,_,_,_,.cons r t,s=>.cons r (Vals.append t s)
theorem Vals.take:∀{xs:List V} {us:List Value} (n:Nat),Vals xs us->Vals (xs.take n) (us.take n)
 |_,_,0,_=>.nil
 |_,_,_+1,.nil=>.nil
 |_,_,n+1,.cons r t=>.cons r (Vals.take n t)
theorem Vals.drop:∀{xs:List V} {us:List Value} (n:Nat),Vals xs us->Vals (xs.drop n) (us.drop n)
 |_,_,0,r=>r
 |_,_,_+1,.nil=>.nil
 |_,_,n+1,.cons _ t=>Vals.drop n t
theorem Vals.none_of:∀{xs:List V} {us:List Value} {i:Nat},Vals xs us->xs[i]?=none->us[i]?=none:=fun{xs us i} r e=>by
 have h1:=r.length
 have h2:xs.length<=i:=List.getElem?_eq_none_iff.mp e
 exact List.getElem?_eq_none_iff.mpr (by omega)
def RelO:Option V->Option Value->Prop
 |some v,some u=>RelV v u
 |none,none=>True
 |_,_=>False
def KV {κ:Type}:List (κ×V)->List (κ×Value)->Prop:=Paired fun(p:κ×V) (q:κ×Value)=>p.1=q.1/\RelV p.2 q.2
def kV:Key->V
 | .inl i=>.int i
 | .inr x=>.str x
inductive HO where
 |lst (xs:List V)
 |tup (xs:List V)
 |dK (kvs:List (Key×V)) | dT (kvs:List (List Key×V))
 |set (S:Int->Bool) (n:Nat)
 |ins (C dx:Addr) (fs:List (Str×V))
 |own (x:Addr)
 |xd (fs:List (Str×V))
 |met (f x:Addr)
 |rng (lo hi:Int)
 |frz (o:Obj) (u:HO)
 |tbl (ps:Array Value)
 |ext (φ:Heap->Prop)
abbrev Hp:=Addr->Option HO
def upd (H:Hp)(a:Addr)(o:HO):Hp:=fun b=>if b=a then some o else H b
theorem upd_same {H:Hp}{a:Addr}{o:HO}:upd H a o a=some o:=by unfold upd;rw[if_pos rfl]
theorem upd_ne {H:Hp}{a b:Addr}{o:HO}(h:b≠a):upd H a o b=H b:=by unfold upd;rw[if_neg h]
theorem ne_of {H:Hp}{a b:Addr}{o u:HO}(h:H a=some o)(h':H b=some u)(d:o≠u):a≠b:=by
 intro e;subst e;rw[h]at h';exact d (Option.some.inj h')
theorem ne_of_none {H:Hp}{a b:Addr}{o:HO}(h:H a=some o)(h':H b=none):a≠b:=by
 intro e;subst e;rw[h]at h';cases h'
section
variable (P:Program)(w:World)
def ObjOk (H:Hp)(h:Heap)(a:Addr):HO->Prop
 | .lst xs=>xs.length<=sizeLine/\∃(its:List Value) (n:Nat),Vals xs its/\h.get? a=some {cls:=.type "list",data:=.seq its.toArray n}
 | .tup xs=>xs.length<=sizeLine/\∃its:List Value,Vals xs its/\IsTup h a its.toArray
 | .dK kvs=>kvs.length<=sizeLine/\(a==sysModules)=false/\∃vs,KV kvs vs/\h.DictOf (mixKind P w) a vs
 | .dT kvs=>kvs.length<=sizeLine/\(a==sysModules)=false/\∃xs:List (List Key×Addr×Value),
  Paired (fun(p:List Key×V) (q:List Key×Addr×Value)=>p.1=q.1/\H q.2.1=some (.tup (p.1.map kV))/\RelV p.2 q.2.2) kvs xs/\
  ∃o es ep,h.get? a=some o/\o.ExactDict/\o.data=.dict es ep/\es.toList=xs.map (entryOfKey (tupleKind (mixKind P w)))/\(xs.map (·.1)).Nodup
 | .set S n=>h.SetOf (intKind P w) a S n
 | .ins C dx fs=>H dx=some (.own a)/\fs.length<=1000/\dx≠a/\h.get? a=some (instObj C dx)/\
  ∃mA,h.Ns1 dx mA/\(∀f,RelO (fs.lookup f) (mA f))/\PySem.Within mA (fs.map (·.1))
 | .own _=>∃o,h.get? a=some o
 | .xd fs=>∃mA,h.Ns1 a mA/\∀f,RelO (fs.lookup f) (mA f)
 | .rng lo hi=>∃t u v,h.get? a=some {cls:=.type "range",data:=.fields #[.int lo t,.int hi u,.int 1 v]}
 | .frz o u=>h.get? a=some o/\ObjOk H h a u
 | .tbl ps=>h.get? a=some {cls:=.none,data:=.fields ps}
 | .met f x=>h.get? a=some (methodObj (.ref f) (.ref x))
 | .ext φ=>φ h/\(∃o,h.get? a=some o)/\∀h1 h2:Heap,φ h1->(∀o,h1.get? a=some o->h2.get? a=some o)->φ h2
def HOk (H:Hp)(h:Heap):Prop:=∀a o,H a=some o->ObjOk P w H h a o
end
section
variable {P:Program}{w:World}{H H':Hp}{h h':Heap}{a:Addr}{o:HO}
theorem ObjOk.lt (x:ObjOk P w H h a o):a<h.objs.size:=by
 cases o with
 |lst xs=>obtain⟨_,_,_,_,e⟩:=x;exact lt_size e
 |tup xs=>obtain⟨_,_,_,p⟩:=x;exact p.lt
 |dK kvs=>obtain⟨_,_,_,_,o,_,_,e,_⟩:=x;exact lt_size e
 |dT kvs=>obtain⟨_,_,_,_,o,_,_,e,_⟩:=x;exact lt_size e
 |set S n=>obtain⟨o,_,_,_,e,_⟩:=x;exact lt_size e
 |ins C dx fs=>obtain⟨_,_,_,e,_⟩:=x;exact lt_size e
 |own y=>obtain⟨_,e⟩:=x;exact lt_size e
 |xd fs=>obtain⟨_,⟨_,_,_,e,_⟩,_⟩:=x;exact lt_size e
 |rng lo hi=>obtain⟨_,_,_,e⟩:=x;exact lt_size e
 |frz ob u=>obtain⟨e,_⟩:=x;exact lt_size e
 |tbl ps=>exact lt_size (show h.get? a=some _ from x)
 |met f y=>exact lt_size (show h.get? a=some _ from x)
 |ext φ=>obtain⟨_,⟨_,e⟩,_⟩:=x;exact lt_size e
theorem Paired.mapP {α β:Type}{F G:α->β->Prop}:∀{l₁:List α} {l₂:List β},Paired F l₁ l₂->(∀a b,F a b->G a b)->Paired G l₁ l₂
 |_,_,.nil,_=>.nil
 |_,_,.cons r t,f=>.cons (f _ _ r) (Paired.mapP t f)
theorem Paired.imp' {α β:Type}{F G:α->β->Prop}(f:∀a b,F a b->G a b){l₁:List α}{l₂:List β}(r:Paired F l₁ l₂):Paired G l₁ l₂:=Paired.mapP r f
theorem ObjOk.stay (x:ObjOk P w H h a o)(k:∀b u,(b=a\/H b=some (.own a))->h.get? b=some u->h'.get? b=some u)(ho:∀b,H b=some (.own a)->H' b=some (.own a))(ht:∀b xs,H b=some (.tup xs)->H' b=some (.tup xs)):ObjOk P w H' h' a o:=by
 induction o with
 |lst xs=>obtain⟨z,its,n,r,e⟩:=x;exact⟨z,its,n,r,k _ _ (.inl rfl) e⟩
 |tup xs=>obtain⟨z,its,r,ob,e,c⟩:=x;exact⟨z,its,r,ob,k _ _ (.inl rfl) e,c⟩
 |dK kvs=>obtain⟨z,y,vs,r,ob,es,ep,e,c⟩:=x;exact⟨z,y,vs,r,ob,es,ep,k _ _ (.inl rfl) e,c⟩
 |dT kvs=>
  obtain⟨z,y,xs,r,ob,es,ep,e,c⟩:=x
  exact⟨z,y,xs,Paired.mapP r fun p q z=>⟨z.1,ht _ _ z.2.1,z.2.2⟩,ob,es,ep,k _ _ (.inl rfl) e,c⟩
 |set S n=>obtain⟨ob,es,ep,t,e,c⟩:=x;exact⟨ob,es,ep,t,k _ _ (.inl rfl) e,c⟩
 |ins C dx fs=>
  obtain⟨d,z,ne,e,mA,⟨od,es,ep,e2,c⟩,r⟩:=x
  exact⟨ho _ d,z,ne,k _ _ (.inl rfl) e,mA,⟨od,es,ep,k _ _ (.inr d) e2,c⟩,r⟩
 |own y=>obtain⟨ob,e⟩:=x;exact⟨ob,k _ _ (.inl rfl) e⟩
 |xd fs=>obtain⟨mA,⟨od,es,ep,e,c⟩,r⟩:=x;exact⟨mA,⟨od,es,ep,k _ _ (.inl rfl) e,c⟩,r⟩
 |rng lo hi=>obtain⟨t,u,v,e⟩:=x;exact⟨t,u,v,k _ _ (.inl rfl) e⟩
 |frz ob u ih=>obtain⟨e,q⟩:=x;exact⟨k _ _ (.inl rfl) e,ih q⟩
 |tbl ps=>
  have e:h.get? a=some {cls:=.none,data:=.fields ps}:=x
  show h'.get? a=some {cls:=.none,data:=.fields ps}
  exact k a _ (.inl rfl) e
 |met f y=>
  have e:h.get? a=some (methodObj (.ref f) (.ref y)):=x
  show h'.get? a=some (methodObj (.ref f) (.ref y))
  exact k a _ (.inl rfl) e
 |ext φ=>obtain⟨p,⟨o,e⟩,st⟩:=x;exact⟨st _ _ p fun o q=>k _ _ (.inl rfl) q,⟨o,k _ _ (.inl rfl) e⟩,st⟩
theorem HOk.lt (x:HOk P w H h)(e:H a=some o):a<h.objs.size:=(x a o e).lt
theorem HOk.fresh (x:HOk P w H h)(e:h.objs.size<=a):H a=none:=by
 cases q:H a with
 |none=>rfl
 |some u=>exact absurd (Nat.lt_of_lt_of_le (x.lt q) e) (lt_irrefl _)
theorem HOk.kept (x:HOk P w H h)(k:∀b u,h.get? b=some u->h'.get? b=some u):HOk P w H h':=fun a o e=>
 (x a o e).stay (fun b u _ q=>k b u q) (fun _ q=>q) fun _ _ q=>q
theorem HOk.laid (x:HOk P w H h)(k:∀b u,h.get? b=some u->h'.get? b=some u)(hp:h.objs.size<=a)(new:ObjOk P w (upd H a o) h' a o):HOk P w (upd H a o) h':=fun b u e=>by
 have hn:=x.fresh hp
 by_cases hb:b=a
 ·subst hb;rw[upd_same]at e;cases e;exact new
 ·rw[upd_ne hb]at e
  exact(x b u e).stay (fun c v _ q=>k c v q) (fun c q=>by rw[upd_ne (ne_of_none q hn)];exact q) fun c xs q=>by rw[upd_ne (ne_of_none q hn)];exact q
end
def Rd (H:Hp)(a:Addr)(u:HO):Prop:=H a=some u\/∃o,H a=some (.frz o u)
theorem Rd.ok {P:Program}{w:World}{H:Hp}{h:Heap}{a:Addr}{u:HO}(r:Rd H a u)(x:HOk P w H h):ObjOk P w H h a u:=by
 rcases r with r | ⟨o,r⟩
 ·exact x a u r
 ·obtain⟨_,q⟩:=x a _ r
  exact q
def Mut:Option HO->Prop
 |some (.lst _)=>True
 |some (.dK _)=>True
 |some (.dT _)=>True
 |some (.set _ _)=>True
 |some (.ins _ _ _)=>True
 |some (.ext _)=>True
 |_=>False
section
variable {P:Program}{w:World}{H:Hp}{h h':Heap}{x e:Addr}{o':HO}
theorem HOk.write (ok:HOk P w H h)(mu:Mut (H x))(he:e=x\/H e=some (.own x))(k:∀b u,b≠e->h.get? b=some u->h'.get? b=some u)(heo:∃u,h'.get? e=some u)(new:ObjOk P w (upd H x o') h' x o'):HOk P w (upd H x o') h':=fun b u q=>by
 have nown:∀c y,H c=some (.own y)->c≠x:=fun c y r z=>by subst z;rw[r]at mu;exact mu
 have ntup:∀c xs,H c=some (.tup xs)->c≠x:=fun c xs r z=>by subst z;rw[r]at mu;exact mu
 by_cases hb:b=x
 ·subst hb;rw[upd_same]at q;cases q;exact new
 ·rw[upd_ne hb]at q
  by_cases hbe:b=e
  ·have q':H b=some (.own x):=by
    rcases he with z | z
    ·exact absurd (hbe.trans z) hb
    ·rw[hbe];exact z
   rw[q]at q';cases q'
   obtain⟨v,hv⟩:=heo
   exact⟨v,by rw[hbe];exact hv⟩
  ·refine(ok b u q).stay (fun c v hc r=>k c v ?_ r) (fun c r=>by rw[upd_ne (nown c b r)];exact r) fun c xs r=>by rw[upd_ne (ntup c xs r)];exact r
   rcases hc with rfl | hc
   ·exact hbe
   ·rintro rfl
    rcases he with z | z
    ·exact nown c b hc z
    ·rw[hc]at z;cases z;exact hb rfl
end
structure Un (fs ex:List Addr)(H H':Hp)(h h':Heap):Prop where
 keep:∀b o,h.get? b=some o->H b=none->b∉fs->b∉ex->h'.get? b=some o
 slot:∀b o,h.get? b=some o->H b=none->b∈fs->b∉ex->∃sl,h'.get? b=some {o with slots:=sl}
 free:∀b o,h.get? b=some o->H b=none->b∉ex->H' b=none
 there:∀b o,h.get? b=some o->b∉ex->∃o',h'.get? b=some o'
 tups:∀b xs,H b=some (.tup xs)->H' b=some (.tup xs)
 frzs:∀b o u,H b=some (.frz o u)->H' b=some (.frz o u)
 tbls:∀b ps,H b=some (.tbl ps)->∃more,H' b=some (.tbl (ps++more))
section
variable {fs fs' ex ex':List Addr}{H H1 H2:Hp}{h h1 h2 h':Heap}{a x e:Addr}{o:HO}
theorem Un.any (u:Un fs ex H H1 h h1){b:Addr}{ob:Obj}(q:h.get? b=some ob)(n:H b=none)(hx:b∉ex):∃sl,h1.get? b=some {ob with slots:=sl}:=by
 by_cases hb:b∈fs
 ·exact u.slot b ob q n hb hx
 ·exact⟨ob.slots,u.keep b ob q n hb hx⟩
theorem Un.kept (k:∀b u,h.get? b=some u->h'.get? b=some u):Un fs ex H H h h':=
 ⟨fun b ob q _ _ _=>k b ob q,fun b ob q _ _ _=>⟨ob.slots,k b ob q⟩,fun _ _ _ n _=>n,fun b ob q _=>⟨ob,k b ob q⟩,fun _ _ q=>q,fun _ _ _ q=>q,fun _ ps q=>⟨#[],by rw[q];simp⟩⟩
theorem Un.refl:Un fs ex H H h h:=Un.kept fun _ _ q=>q
theorem Un.laid (k:∀b u,h.get? b=some u->h'.get? b=some u)(hp:h.objs.size<=a)(hn:H a=none):Un fs ex H (upd H a o) h h' where
 keep:=fun b u q _ _ _=>k b u q
 slot:=fun b u q _ _ _=>⟨u.slots,k b u q⟩
 free:=fun b u q n _=>by rw[upd_ne (ne_of_lt (Nat.lt_of_lt_of_le (lt_size q) hp))];exact n
 there:=fun b u q _=>⟨u,k b u q⟩
 tups:=fun b xs q=>by rw[upd_ne (ne_of_none q hn)];exact q
 frzs:=fun b u xs q=>by rw[upd_ne (ne_of_none q hn)];exact q
 tbls:=fun b ps q=>⟨#[],by rw[upd_ne (ne_of_none q hn),q];simp⟩
theorem Un.write (mu:Mut (H x))(he:e=x\/H e=some (.own x))(k:∀b u,b≠e->h.get? b=some u->h'.get? b=some u)(heo:∃u,h'.get? e=some u):Un fs ex H (upd H x o) h h':=by
 have hx:∀b,H b=none->b≠x:=fun b n z=>by subst z;rw[n]at mu;exact mu
 have hb:∀b,H b=none->b≠e:=fun b n z=>by
  subst z
  rcases he with r | r
  ·exact hx b n r
  ·rw[n]at r;cases r
 have hm:∀b u,H b=some u->¬Mut (some u)->b≠x:=fun b u q nm z=>by subst z;rw[q]at mu;exact nm mu
 refine⟨fun b u q n _ _=>k b u (hb b n) q,fun b u q n _ _=>⟨u.slots,k b u (hb b n) q⟩,fun b u q n _=>by rw[upd_ne (hx b n)];exact n,fun b u q _=>?_,
  fun b xs q=>by rw[upd_ne (hm b _ q fun z=>z)];exact q,fun b u xs q=>by rw[upd_ne (hm b _ q fun z=>z)];exact q,fun b ps q=>⟨#[],by rw[upd_ne (hm b _ q fun z=>z),q];simp⟩⟩
 by_cases hbe:b=e
 ·subst hbe;exact heo
 ·exact⟨u,k b u hbe q⟩
end
def trk (h:Heap)(H:Hp):List Addr:=(List.range h.objs.size).filter fun a=>(H a).isSome
def allNews (g h:Heap)(L:Addr):List (Addr×Obj):=(List.range h.objs.size).filterMap fun a=>if a=L\/(g.get? a).isSome=true then none else(h.get? a).map fun o=>(a,o)
def rest (g h:Heap)(L d:Addr):List (Addr×Obj):=(allNews g h L).filter fun p=>decide (p.1≠d)
structure Mod (K:W.Frag)(mg:Str->Option Value)(base:Heap):Prop where
 kin:K.In base
 glob:base.Ns mainGlobals mg
 blt:∃mb,base.Ns builtinsNs mb/\∀x:Str,x≠"__name__"->mb x=bootBuiltins x
 nolimit:base.NoLimit
structure Cx where
 prog:Program
 w:World
 K:W.Frag
 mg:Str->Option Value
 base:Heap
 A:Around
 N:List Str
 s₀:Shared
 H₀:Hp
 env:Env
 outer:List Env
 stack:List Env
 ex:List Addr
 fn:Str->Bool
 calm:Bool
 pn:List (Addr×Obj)
 xe:Value->Shared->Prop
def frs (l:List Env):List Addr:=l.filterMap (·.frame)
abbrev Cx.fs (X:Cx):List Addr:=frs X.outer
def Vis (sc:Scope)(x:Str):Prop:=sc.names.lookup x=some .local\/sc.names.lookup x=some .cell\/sc.names.lookup x=some .free
def Loc (sc:Scope)(x:Str):Prop:=sc.names.lookup x=some .local\/sc.names.lookup x=some .cell
def Look (env:Env)(h:Heap)(m:Str->Option Value)(x:Str)(u:Value):Prop:=
 (env.kindOf x=some .local/\m x=some u)\/((env.kindOf x=some .cell\/env.kindOf x=some .free)/\∃c,env.cells.lookup x=some c/\h.IsCell c (some u))
structure Cx.Ok (X:Cx):Prop where
 mod:Mod X.K X.mg X.base
 kind:X.env.scope.kind=.function
 glob:X.env.globals=mainGlobals
 blt:X.env.builtins=builtinsNs
 above:X.s₀.heap.objs.size<=X.env.locals
 inj:∀x y c,X.env.cells.lookup x=some c->X.env.cells.lookup y=some c->x=y
 has:∀x,(X.env.kindOf x=some .cell\/X.env.kindOf x=some .free)->∃c,X.env.cells.lookup x=some c
 cab:∀x c,X.fn x=true->X.env.cells.lookup x=some c->X.s₀.heap.objs.size<=c
 hd:X.calm=true->X.A.handled=none
 frames:X.A.frames=some X.stack
 stk:X.stack=X.outer\/(X.stack=X.env::X.outer/\X.env.frame=some X.env.locals)
 exf:∀b∈X.ex,b≠X.env.locals/\∀x c,X.env.cells.lookup x=some c->c≠b
 bs:∀b o,X.base.get? b=some o->X.s₀.heap.get? b=some o/\X.H₀ b=none
 bsz:X.base.objs.size<=X.s₀.heap.objs.size
 noex:∀b o,X.base.get? b=some o->b∉X.ex
 exfs:∀b∈X.ex,b∉X.fs
 funs:X.s₀.heap.FunFrames X.base X.outer
 frf:∀b∈X.fs,X.H₀ b=none
structure Inv (X:Cx)(pins:List (Addr×Obj))(σ:List (Option V))(H:Hp)(s:Shared):Prop where
 ok:X.Ok
 os:s.os=X.s₀.os
 bare:AllBare s.gens
 base:Un X.fs X.ex X.H₀ H X.s₀.heap s.heap
 loc:∃m,s.heap.Ns X.env.locals m/\∀(i:Nat) (x:Str) (v:V),X.N[i]?=some x->σ[i]?=some (some v)->Vis X.env.scope x->∃u,RelV v u/\Look X.env s.heap m x u
 cell:∀x c,X.env.cells.lookup x=some c->∃v,s.heap.IsCell c v
 free:H X.env.locals=none
 freeC:∀x c,X.env.cells.lookup x=some c->H c=none
 pin:∀p∈X.pn++pins,s.heap.get? p.1=some p.2/\H p.1=none/\p.1≠X.env.locals/\p.1∉X.fs/\∀v,p.2.data≠.cell v
 hok:HOk X.prog X.w H s.heap
 len:σ.length=X.N.length
section
variable {X:Cx}{pins:List (Addr×Obj)}{σ:List (Option V)}{H H':Hp}{s:Shared}{h':Heap}
theorem Cx.Ok.nofr (ok:X.Ok){b:Addr}{o:Obj}(e:X.base.get? b=some o):b∉X.fs:=fun hb=>by
 have:=(ok.funs.mem hb).1
 rw[e]at this;cases this
theorem Inv.bs (I:Inv X pins σ H s):∀b o,X.base.get? b=some o->s.heap.get? b=some o/\H b=none:=fun b o e=>
 ⟨I.base.keep b o (I.ok.bs b o e).1 (I.ok.bs b o e).2 (I.ok.nofr e) (I.ok.noex b o e),I.base.free b o (I.ok.bs b o e).1 (I.ok.bs b o e).2 (I.ok.noex b o e)⟩
theorem Inv.bk (I:Inv X pins σ H s):∀b o,X.base.get? b=some o->s.heap.get? b=some o:=fun b o e=>(I.bs b o e).1
theorem Inv.mod (I:Inv X pins σ H s):Mod X.K X.mg X.base:=I.ok.mod
theorem Inv.kIn (I:Inv X pins σ H s):X.K.In s.heap:=I.ok.mod.kin.keeps I.bk
theorem Inv.lt (I:Inv X pins σ H s):X.env.locals<s.heap.objs.size:=let⟨_,hn,_⟩:=I.loc;hn.lt
theorem Inv.sz (I:Inv X pins σ H s):X.s₀.heap.objs.size<=s.heap.objs.size:=le_trans I.ok.above (Nat.le_of_lt I.lt)
theorem Inv.nofs (I:Inv X pins σ H s){a:Addr}(h:s.heap.objs.size<=a):a∉X.fs:=fun hb=>by
 obtain⟨_,o,ho,_⟩:=I.ok.funs.mem hb
 exact absurd (Nat.lt_of_lt_of_le (lt_size ho) (le_trans I.sz h)) (lt_irrefl _)
theorem Inv.cne (I:Inv X pins σ H s):∀x c,X.env.cells.lookup x=some c->c≠X.env.locals:=fun x c e z=>by
 obtain⟨v,o,ho,hd⟩:=I.cell x c e
 obtain⟨m,⟨o',es,ep,ho',hd',_⟩,_⟩:=I.loc
 rw[z,ho']at ho;cases ho;rw[hd']at hd;cases hd
theorem Inv.funs (I:Inv X pins σ H s):s.heap.FunFrames X.base X.outer:=by
 have all:∀(l:List Env),(∀b∈frs l,b∈X.fs)->X.s₀.heap.FunFrames X.base l->s.heap.FunFrames X.base l:=by
  intro l
  induction l with
  |nil=>intro _ _;trivial
  |cons env r ih=>
   intro hs hl
   obtain⟨hk,⟨L,o,hf,hn,ho,hd⟩,hr⟩:=hl
   have hL:L∈X.fs:=hs L (by unfold frs;rw[filterMap_cons,hf];exact mem_cons_self)
   obtain⟨sl,e⟩:=I.base.slot L o ho (I.ok.frf L hL) hL fun z=>I.ok.exfs L z hL
   exact⟨hk,⟨L,_,hf,hn,e,hd⟩,ih (fun b hb=>hs b (by unfold frs;rw[filterMap_cons,hf];exact mem_cons_of_mem _ hb)) hr⟩
 exact all X.outer (fun _ hb=>hb) I.ok.funs
theorem Inv.stack (I:Inv X pins σ H s):s.heap.FunFrames X.base X.stack:=by
 rcases I.ok.stk with e | ⟨e,hf⟩
 ·rw[e];exact I.funs
 ·rw[e]
  obtain⟨m,hn,_⟩:=I.loc
  refine .cons (by rw[I.ok.kind];decide) hf hn ?_ I.funs
  exact Heap.get?_none_of_le (le_trans I.ok.bsz I.ok.above)
theorem Inv.stkSub (I:Inv X pins σ H s):∀b∈frs X.stack,b∈X.env.locals::X.fs:=fun b hb=>by
 rcases I.ok.stk with e | ⟨e,hf⟩
 ·rw[e]at hb;exact mem_cons_of_mem _ hb
 ·rw[e]at hb
  unfold frs at hb
  rw[filterMap_cons,hf]at hb
  exact hb
theorem Inv.stkFree (I:Inv X pins σ H s):∀b∈frs X.stack,H b=none:=fun b hb=>by
 rcases mem_cons.mp (I.stkSub b hb) with e | hb
 ·rw[e];exact I.free
 ·obtain⟨_,o,ho,_⟩:=I.ok.funs.mem hb
  exact I.base.free b o ho (I.ok.frf b hb) fun z=>I.ok.exfs b z hb
theorem Inv.step {g':Array GenState}{t':Nat}{d':Drawn}{ch:List Addr}(I:Inv X pins σ H s)(hch:∀b∈ch,(b∈X.ex\/X.s₀.heap.objs.size<=b)/\b≠X.env.locals/\(∀x c,X.env.cells.lookup x=some c->c≠b)/\∀p∈X.pn++pins,p.1≠b)(keep:∀b o,b≠X.env.locals->b∉X.fs->b∉ch->s.heap.get? b=some o->H b=none->h'.get? b=some o)(slot:∀b o,b≠X.env.locals->b∈X.fs->b∉ch->s.heap.get? b=some o->H b=none->∃sl,h'.get? b=some {o with slots:=sl})(free:∀b o,b∉ch->s.heap.get? b=some o->H b=none->H' b=none)(there:∀b o,b∉ch->s.heap.get? b=some o->∃o',h'.get? b=some o')(tups:∀b xs,H b=some (.tup xs)->H' b=some (.tup xs))(frzs:∀b o u,H b=some (.frz o u)->H' b=some (.frz o u))(tbls:∀b ps,H b=some (.tbl ps)->∃more,H' b=some (.tbl (ps++more)))(ns:∀m,s.heap.Ns X.env.locals m->h'.Ns X.env.locals m)(hok:HOk X.prog X.w H' h')(hg:AllBare g') :
 Inv X pins σ H' {s with heap:=h',gens:=g',drawn:=d',toks:=t'}:=by
 have neL:∀b o,X.s₀.heap.get? b=some o->b≠X.env.locals:=fun b o e=>ne_of_lt (Nat.lt_of_lt_of_le (lt_size e) I.ok.above)
 have neC:∀b o,X.s₀.heap.get? b=some o->b∉X.ex->b∉ch:=fun b o e hx hb=>by
  rcases(hch b hb).1 with z | z
  ·exact hx z
  ·exact absurd (Nat.lt_of_lt_of_le (lt_size e) z) (lt_irrefl _)
 have cellK:∀x c,X.env.cells.lookup x=some c->∀v,s.heap.IsCell c v->h'.IsCell c v:=fun x c e v ⟨o,ho,hd⟩=>by
  have nch:c∉ch:=fun z=>(hch c z).2.2.1 x c e rfl
  by_cases hc:c∈X.fs
  ·obtain⟨sl,q⟩:=slot c o (I.cne x c e) hc nch ho (I.freeC x c e)
   exact⟨_,q,hd⟩
  ·exact⟨o,keep c o (I.cne x c e) hc nch ho (I.freeC x c e),hd⟩
 refine⟨I.ok,I.os,hg,⟨fun b o e n hb hx=>?_,fun b o e n hb hx=>?_,fun b o e n hx=>?_,fun b o e hx=>?_,fun b xs e=>tups b xs (I.base.tups b xs e),fun b o xs e=>frzs b o xs (I.base.frzs b o xs e),fun b ps e=>?_⟩,?_,fun x c e=>?_,?_,fun x c e=>?_,fun p hp=>?_,hok,I.len⟩
 ·exact keep b o (neL b o e) hb (neC b o e hx) (I.base.keep b o e n hb hx) (I.base.free b o e n hx)
 ·obtain⟨sl,e1⟩:=I.base.slot b o e n hb hx
  obtain⟨sl',e2⟩:=slot b _ (neL b o e) hb (neC b o e hx) e1 (I.base.free b o e n hx)
  exact⟨sl',e2⟩
 ·obtain⟨o',e1⟩:=I.base.there b o e hx
  exact free b o' (neC b o e hx) e1 (I.base.free b o e n hx)
 ·obtain⟨o',e1⟩:=I.base.there b o e hx
  exact there b o' (neC b o e hx) e1
 ·obtain⟨m1,e1⟩:=I.base.tbls b ps e
  obtain⟨m2,e2⟩:=tbls b _ e1
  exact⟨m1++m2,by rw[e2,Array.append_assoc]⟩
 ·obtain⟨m,hn,hl⟩:=I.loc
  refine⟨m,ns m hn,fun i x v e1 e2 e3=>?_⟩
  obtain⟨u,r,l⟩:=hl i x v e1 e2 e3
  refine⟨u,r,?_⟩
  rcases l with l | ⟨k,c,e,z⟩
  ·exact .inl l
  ·exact .inr ⟨k,c,e,cellK x c e _ z⟩
 ·obtain⟨v,z⟩:=I.cell x c e
  exact⟨v,cellK x c e v z⟩
 ·obtain⟨m,⟨o,_,_,ho,_⟩,_⟩:=I.loc
  exact free _ o (fun z=>(hch _ z).2.1 rfl) ho I.free
 ·obtain⟨v,o,ho,hd⟩:=I.cell x c e
  exact free c o (fun z=>(hch c z).2.2.1 x c e rfl) ho (I.freeC x c e)
 ·obtain⟨e,n,ne,nf,d⟩:=I.pin p hp
  have nch:p.1∉ch:=fun z=>(hch p.1 z).2.2.2 p hp rfl
  exact⟨keep p.1 p.2 ne nf nch e n,free p.1 p.2 nch e n,ne,nf,d⟩
theorem Inv.un {t':Nat}(I:Inv X pins σ H s)(u:Un X.fs [] H H' s.heap h')(hok:HOk X.prog X.w H' h'):Inv X pins σ H' {s with heap:=h',toks:=t'}:=by
 obtain⟨m,⟨o,es,ep,ho,r⟩,_⟩:=id I.loc
 obtain⟨sl,hL⟩:=u.any ho I.free (by simp)
 exact I.step (g':=s.gens) (d':=s.drawn) (ch:=[]) (fun _ z=>nomatch z) (fun b o _ hb _ e n=>u.keep b o e n hb (by simp)) (fun b o _ hb _ e n=>u.slot b o e n hb (by simp)) (fun b o _ e n=>u.free b o e n (by simp)) (fun b o _ e=>u.there b o e (by simp)) u.tups u.frzs u.tbls (fun m' hm=>by
  obtain⟨o',es',ep',ho',r'⟩:=hm
  rw[ho]at ho';cases ho'
  exact⟨_,es',ep',hL,r'⟩) hok I.bare
theorem Inv.call {g':Array GenState}{t':Nat}{d':Drawn}{ch:List Addr}(I:Inv X pins σ H s)(u:Un (frs X.stack) ch H H' s.heap h')(hok:HOk X.prog X.w H' h')(hg:AllBare g')(hch:∀b∈ch,(b∈X.ex\/X.s₀.heap.objs.size<=b)/\b≠X.env.locals/\(∀x c,X.env.cells.lookup x=some c->c≠b)/\∀p∈X.pn++pins,p.1≠b) :
 Inv X pins σ H' {s with heap:=h',gens:=g',drawn:=d',toks:=t'}:=by
 obtain⟨m,⟨o,es,ep,ho,r⟩,_⟩:=id I.loc
 obtain⟨sl,hL⟩:=u.any ho I.free fun z=>(hch _ z).2.1 rfl
 exact I.step (ch:=ch) hch (fun b o hL hb hc e n=>u.keep b o e n (fun z=>(mem_cons.mp (I.stkSub b z)).elim hL hb) hc) (fun b o _ _ hc e n=>u.any e n hc) (fun b o hc e n=>u.free b o e n hc) (fun b o hc e=>u.there b o e hc) u.tups u.frzs u.tbls (fun m' hm=>by
  obtain⟨o',es',ep',ho',r'⟩:=hm
  rw[ho]at ho';cases ho'
  exact⟨_,es',ep',hL,r'⟩) hok hg
theorem Inv.turned {t':Nat}{it:Addr}(I:Inv X pins σ H s)(k:∀b o,b≠it->s.heap.get? b=some o->h'.get? b=some o)(hn:H it=none)(hL:it≠X.env.locals)(h1:it∈X.ex\/X.s₀.heap.objs.size<=it)(h2:∀x c,X.env.cells.lookup x=some c->c≠it)(h3:∀p∈X.pn++pins,p.1≠it):Inv X pins σ H {s with heap:=h',toks:=t'}:=by
 have nit:∀b u,H b=some u->b≠it:=fun b u e z=>by rw[z,hn]at e;cases e
 refine I.step (g':=s.gens) (d':=s.drawn) (ch:=[it]) (fun b hb=>?_) (fun b o _ _ hc e _=>k b o (fun z=>hc (by simp[z])) e) (fun b o _ _ hc e _=>⟨o.slots,k b o (fun z=>hc (by simp[z])) e⟩) (fun _ _ _ _ n=>n)
  (fun b o hc e=>⟨o,k b o (fun z=>hc (by simp[z])) e⟩) (fun _ _ e=>e) (fun _ _ _ e=>e) (fun b ps e=>⟨#[],by rw[e];simp⟩) (fun m hm=>?_) (fun b u e=>?_) I.bare
 ·have e:b=it:=by simpa using hb
  subst e
  exact⟨h1,hL,h2,h3⟩
 ·obtain⟨o,es,ep,ho,r⟩:=hm
  exact⟨o,es,ep,k _ o (Ne.symm hL) ho,r⟩
 ·refine(I.hok b u e).stay (fun c v hc q=>k c v ?_ q) (fun _ q=>q) fun _ _ q=>q
  rcases hc with z | z
  ·rw[z];exact nit b u e
  ·exact nit c _ z
theorem Inv.tok (I:Inv X pins σ H s)(t:Nat):Inv X pins σ H {s with toks:=t}:=I.un (h':=s.heap) (t':=t) Un.refl I.hok
theorem Inv.kept {t':Nat}(I:Inv X pins σ H s)(k:∀b u,s.heap.get? b=some u->h'.get? b=some u):Inv X pins σ H {s with heap:=h',toks:=t'}:=I.un (Un.kept k) (I.hok.kept k)
theorem Inv.laid {a:Addr}{o:HO}{t':Nat}(I:Inv X pins σ H s)(k:∀b u,s.heap.get? b=some u->h'.get? b=some u)(hp:s.heap.objs.size<=a)(new:ObjOk X.prog X.w (upd H a o) h' a o) :
 Inv X pins σ (upd H a o) {s with heap:=h',toks:=t'}:=I.un (Un.laid k hp (I.hok.fresh hp)) (I.hok.laid k hp new)
theorem Inv.write {x e:Addr}{o:HO}{t':Nat}(I:Inv X pins σ H s)(mu:Mut (H x))(he:e=x\/H e=some (.own x))(k:∀b u,b≠e->s.heap.get? b=some u->h'.get? b=some u)(heo:∃u,h'.get? e=some u)(new:ObjOk X.prog X.w (upd H x o) h' x o):Inv X pins σ (upd H x o) {s with heap:=h',toks:=t'}:=I.un (Un.write mu he k heo) (I.hok.write mu he k heo new)
theorem Inv.pins_of {pins':List (Addr×Obj)}(I:Inv X pins σ H s)(h:∀p∈pins',s.heap.get? p.1=some p.2/\H p.1=none/\p.1≠X.env.locals/\p.1∉X.fs/\∀v,p.2.data≠.cell v):Inv X pins' σ H s:=
 ⟨I.ok,I.os,I.bare,I.base,I.loc,I.cell,I.free,I.freeC,fun p hp=>(mem_append.mp hp).elim (fun z=>I.pin p (mem_append_left _ z)) (h p),I.hok,I.len⟩
theorem nodup_ix {N:List Str}(hN:N.Nodup){i j:Nat}{x:Str}(a:N[i]?=some x)(b:N[j]?=some x):i=j:=by
 obtain⟨h1,e1⟩:=List.getElem?_eq_some_iff.mp a
 obtain⟨h2,e2⟩:=List.getElem?_eq_some_iff.mp b
 exact(List.getElem_inj hN).mp (e1.trans e2.symm)
theorem store_ok2 {M:Model}{A:Around}{E:Value->Shared->Prop}{i:Nat}{x:Str}{v:V}{u:Value}{Q:Unit->Shared->Prop}(I:Inv X pins σ H s)(hN:X.N.Nodup)(hi:X.N[i]?=some x)(hx:Loc X.env.scope x)(r:RelV v u)(h:∀s',Inv X pins (σ.set i (some v)) H s'->(∃a,Heap.SameBut a s.heap s'.heap/\(a=X.env.locals\/X.env.cells.lookup x=some a))->Q () s')(hf:X.fn x=true\/X.env.scope.names.lookup x=some .local:=by first | exact .inl rfl | exact .inr rfl | assumption):wpAny M A (storeName X.env x u) Q E s:=by
 obtain⟨m,hn,hl⟩:=id I.loc
 have hcls:(X.env.scope.kind==.class||(X.env.scope.kind==.module&&X.env.locals !=X.env.globals))=false:=by rw[I.ok.kind];rfl
 have hiσ:i<σ.length:=by rw[I.len];exact(List.getElem?_eq_some_iff.mp hi).1
 have cne:=I.cne
 have tracked:∀{a:Addr} {h':Heap},(∃o,s.heap.get? a=some o/\H a=none)->Heap.SameBut a s.heap h'->HOk X.prog X.w H h':=fun{a h'} ha hs b ob e=>by
  obtain⟨_,_,hfree⟩:=ha
  refine(I.hok b ob e).stay (fun c w' hc q=>(hs.2 c ?_).trans q) (fun _ q=>q) fun _ _ q=>q
  rintro rfl
  rcases hc with rfl | hc
  ·rw[hfree]at e;cases e
  ·rw[hfree]at hc;cases hc
 rcases hx with hk | hk
 ·refine wpAny_storeName_local hk hn (fun h' hn' hs=>?_) hcls
  obtain⟨oL,_,_,hoL,_⟩:=id hn
  refine h _ ⟨I.ok,I.os,I.bare,⟨fun b o e n hb hx=>?_,fun b o e n hb hx=>?_,I.base.free,fun b o e hx=>?_,I.base.tups,I.base.frzs,I.base.tbls⟩,⟨_,hn',fun j y v' e1 e2 e3=>?_⟩,fun y c e=>?_,I.free,I.freeC,fun p hp=>?_,tracked ⟨oL,hoL,I.free⟩ hs,by simpa using I.len⟩ ⟨_,hs,.inl rfl⟩
  ·exact(hs.2 b (ne_of_lt (Nat.lt_of_lt_of_le (lt_size e) I.ok.above))).trans (I.base.keep b o e n hb hx)
  ·obtain⟨sl,e1⟩:=I.base.slot b o e n hb hx
   exact⟨sl,(hs.2 b (ne_of_lt (Nat.lt_of_lt_of_le (lt_size e) I.ok.above))).trans e1⟩
  ·obtain⟨o',e1⟩:=I.base.there b o e hx
   exact⟨o',(hs.2 b (ne_of_lt (Nat.lt_of_lt_of_le (lt_size e) I.ok.above))).trans e1⟩
  ·by_cases hj:j=i
   ·subst hj
    rw[hi]at e1;cases e1
    rw[List.getElem?_set_self hiσ]at e2
    cases e2
    exact⟨u,r,.inl ⟨hk,by simp⟩⟩
   ·rw[List.getElem?_set_ne (Ne.symm hj)]at e2
    obtain⟨u',r',q⟩:=hl j y v' e1 e2 e3
    refine⟨u',r',?_⟩
    rcases q with⟨k,e⟩ | ⟨k,c,e,z⟩
    ·refine .inl ⟨k,?_⟩
     have:y≠x:=fun e=>hj (nodup_ix hN e1 (e▸hi))
     simp[this,e]
    ·exact .inr ⟨k,c,e,z.sameBut hs (cne y c e)⟩
  ·obtain⟨w',z⟩:=I.cell y c e
   exact⟨w',z.sameBut hs (cne y c e)⟩
  ·obtain⟨e,n,ne,nf,d⟩:=I.pin p hp
   exact⟨(hs.2 p.1 ne).trans e,n,ne,nf,d⟩
 ·have hfn:X.fn x=true:=by
   rcases hf with z | z
   ·exact z
   ·rw[z]at hk;cases hk
  obtain⟨c,hc⟩:=I.ok.has x (.inl hk)
  obtain⟨w',z⟩:=I.cell x c hc
  refine wpAny_storeName_cell I.ok.kind hk hc z (fun h' hc' hs=>?_)
  obtain⟨oc,hoc,hocd⟩:=id z
  refine h {s with heap:=h'} ⟨I.ok,I.os,I.bare,⟨fun b o e n hb hx=>?_,fun b o e n hb hx=>?_,I.base.free,fun b o e hx=>?_,I.base.tups,I.base.frzs,I.base.tbls⟩,⟨m,hn.sameBut hs (Ne.symm (cne x c hc)),fun j y v' e1 e2 e3=>?_⟩,fun y c' e=>?_,I.free,I.freeC,fun p hp=>?_,tracked ⟨oc,hoc,I.freeC x c hc⟩ hs,by simpa using I.len⟩ ⟨c,hs,.inr hc⟩
  ·exact(hs.2 b (ne_of_lt (Nat.lt_of_lt_of_le (lt_size e) (I.ok.cab x c hfn hc)))).trans (I.base.keep b o e n hb hx)
  ·obtain⟨sl,e1⟩:=I.base.slot b o e n hb hx
   exact⟨sl,(hs.2 b (ne_of_lt (Nat.lt_of_lt_of_le (lt_size e) (I.ok.cab x c hfn hc)))).trans e1⟩
  ·obtain⟨o',e1⟩:=I.base.there b o e hx
   exact⟨o',(hs.2 b (ne_of_lt (Nat.lt_of_lt_of_le (lt_size e) (I.ok.cab x c hfn hc)))).trans e1⟩
  ·by_cases hj:j=i
   ·subst hj
    rw[hi]at e1;cases e1
    rw[List.getElem?_set_self hiσ]at e2
    cases e2
    exact⟨u,r,.inr ⟨.inl hk,c,hc,hc'⟩⟩
   ·rw[List.getElem?_set_ne (Ne.symm hj)]at e2
    obtain⟨u',r',q⟩:=hl j y v' e1 e2 e3
    refine⟨u',r',?_⟩
    rcases q with q | ⟨k,c',e,z'⟩
    ·exact .inl q
    ·refine .inr ⟨k,c',e,z'.sameBut hs ?_⟩
     rintro rfl
     exact hj (nodup_ix hN e1 (I.ok.inj _ _ _ e hc▸hi))
  ·by_cases hcc:c'=c
   ·subst hcc;exact⟨_,hc'⟩
   ·obtain⟨w2,z2⟩:=I.cell y c' e
    exact⟨w2,z2.sameBut hs hcc⟩
  ·obtain⟨e,n,ne,nf,d⟩:=I.pin p hp
   refine⟨(hs.2 p.1 ?_).trans e,n,ne,nf,d⟩
   intro q
   rw[q,hoc]at e
   have q':oc=p.2:=Option.some.inj e
   exact d w' (by rw[<-q'];exact hocd)
theorem store_ok {M:Model}{A:Around}{E:Value->Shared->Prop}{i:Nat}{x:Str}{v:V}{u:Value}{Q:Unit->Shared->Prop}(I:Inv X pins σ H s)(hN:X.N.Nodup)(hi:X.N[i]?=some x)(hx:Loc X.env.scope x)(r:RelV v u)(h:∀s',Inv X pins (σ.set i (some v)) H s'->Q () s')(hf:X.fn x=true\/X.env.scope.names.lookup x=some .local:=by first | exact .inl rfl | exact .inr rfl | assumption):wpAny M A (storeName X.env x u) Q E s:=
 store_ok2 I hN hi hx r (fun s' I' _=>h s' I') hf
theorem Inv.call' {s':Shared}{ch:List Addr}(I:Inv X pins σ H s)(ho:s'.os=s.os)(u:Un (frs X.stack) ch H H' s.heap s'.heap)(hok:HOk X.prog X.w H' s'.heap)(hg:AllBare s'.gens)(hch:∀b∈ch,(b∈X.ex\/X.s₀.heap.objs.size<=b)/\b≠X.env.locals/\(∀x c,X.env.cells.lookup x=some c->c≠b)/\∀p∈X.pn++pins,p.1≠b):Inv X pins σ H' s':=by
 obtain⟨h',g',d',t',o'⟩:=s'
 have e:o'=s.os:=ho
 subst e
 exact I.call (g':=g') (t':=t') (d':=d') u hok hg hch
end
abbrev XK:=Value->Option Addr->Hp->Prop
abbrev St:=List (Option V)
abbrev VK:=V->Hp->Prop
abbrev TE:=St->Hp->VK->Prop
abbrev TT:=St->Hp->(Bool->Hp->Prop)->Prop
abbrev TA:=St->Hp->(List V->Hp->Prop)->Prop
structure Ends where
 nx:St->Hp->Prop
 rt:VK
 bk:St->Hp->Prop:=fun _ _=>False
 ct:St->Hp->Prop:=fun _ _=>False
abbrev TS:=Ends->St->Hp->Prop
def EP (X:Cx)(pins:List (Addr×Obj))(σ:St)(Q:VK)(u:Value)(s':Shared):Prop:=∃v H',Inv X pins σ H' s'/\RelV v u/\Q v H'
def TP (X:Cx)(pins:List (Addr×Obj))(σ:St)(Q:Bool->Hp->Prop)(b:Bool)(s':Shared):Prop:=∃H',Inv X pins σ H' s'/\Q b H'
def AP (X:Cx)(pins:List (Addr×Obj))(σ:St)(Q:List V->Hp->Prop)(us:List Value)(s':Shared):Prop:=∃vs H',Inv X pins σ H' s'/\Vals vs us/\Q vs H'
def SP (X:Cx)(pins:List (Addr×Obj))(D:Ends)(f:Flow)(s':Shared):Prop:=
 match f with
 | .next=>∃σ' H',Inv X pins σ' H' s'/\D.nx σ' H'
 | .brk=>∃σ' H',Inv X pins σ' H' s'/\D.bk σ' H'
 | .cont=>∃σ' H',Inv X pins σ' H' s'/\D.ct σ' H'
 | .ret u=>∃v σ' H',Inv X pins σ' H' s'/\RelV v u/\D.rt v H'
def PE (X:Cx)(e:Expr)(t:TE):Prop:=
 ∀(pins:List (Addr×Obj)) (s:Shared) (σ:St) (H:Hp) (Q:VK),Inv X pins σ H s->t σ H Q->wpAny (model X.prog X.w) X.A (eval e X.env) (EP X pins σ Q) X.xe s
def PT (X:Cx)(e:Expr)(t:TT):Prop:=
 ∀(pins:List (Addr×Obj)) (s:Shared) (σ:St) (H:Hp) (Q:Bool->Hp->Prop),Inv X pins σ H s->t σ H Q->wpAny (model X.prog X.w) X.A (isTrue e X.env (eval e X.env)) (TP X pins σ Q) X.xe s
def PW (X:Cx)(e:Expr)(t:TT):Prop:=
 ∀(whole:Sem Value) (pins:List (Addr×Obj)) (s:Shared) (σ:St) (H:Hp) (Q:Bool->Hp->Prop),Inv X pins σ H s->t σ H Q->wpAny (model X.prog X.w) X.A (isTrue e X.env whole) (TP X pins σ Q) X.xe s
theorem PW.pt {X:Cx}{e:Expr}{t:TT}(h:PW X e t):PT X e t:=h _
def PA (X:Cx)(es:List Expr)(t:TA):Prop:=
 ∀(pos:Pos) (pins:List (Addr×Obj)) (s:Shared) (σ:St) (H:Hp) (Q:List V->Hp->Prop),Inv X pins σ H s->t σ H Q->wpAny (model X.prog X.w) X.A (spliced (backTo pos (starEach es X.env))) (AP X pins σ Q) X.xe s
def PS (X:Cx)(st:Stmt)(t:TS):Prop:=
 ∀(pins:List (Addr×Obj)) (s:Shared) (σ:St) (H:Hp) (D:Ends),Inv X pins σ H s->t D σ H->wpAny (model X.prog X.w) X.A (exec st X.env) (SP X pins D) X.xe s
def PSs (X:Cx)(st:List Stmt)(t:TS):Prop:=
 ∀(pins:List (Addr×Obj)) (s:Shared) (σ:St) (H:Hp) (D:Ends),Inv X pins σ H s->t D σ H->wpAny (model X.prog X.w) X.A (execs st X.env) (SP X pins D) X.xe s
theorem thn {α:Type}{t:Sem α}{Q Q':α->Shared->Prop}{M:Model}{A:Around}{E:Value->Shared->Prop}{s:Shared}(h:wpAny M A t Q E s)(hQ:∀a s,Q a s->Q' a s):wpAny M A t Q' E s:=wpAny_mono h hQ fun _ _ x=>x
section
variable {X:Cx}
def tVar (i:Nat):TE:=fun σ H Q=>∃v,σ[i]?=some (some v)/\Q v H
def tC (v:V):TE:=fun _ H Q=>Q v H
theorem pe_var {i:Nat}{x:Str}{pos:Pos}(hN:X.N[i]?=some x)(hv:Vis X.env.scope x)(hd:(x==("__debug__" : Str))=false:=by decide)(hcd:(x==("__classdict__" : Str))=false:=by decide):PE X (.Name x pos) (tVar i):=by
 intro pins s σ H Q I h
 obtain⟨v,e,h⟩:=h
 obtain⟨m,hn,hl⟩:=I.loc
 obtain⟨u,r,l⟩:=hl i x v hN e hv
 have fin:EP X pins σ Q u s:=⟨v,H,I,r,h⟩
 rcases l with⟨hk,hm⟩ | ⟨hk,c,hc,hcell⟩
 ·exact wpAny_Name (wpAny_loadName_local I.ok.kind hk hn hm fin) hd
 ·rcases hk with hk | hk
  ·exact wpAny_Name (wpAny_loadName_cell I.ok.kind hk hc hcell fin) hd
  ·exact wpAny_Name (wpAny_loadName_free I.ok.kind hk hc hcell fin hcd) hd
theorem pe_int {i j pos}:PE X (.Constant (.int i) j pos) (tC (.int i)):=fun _ _ _ H _ I h=>wpAny_Constant_int ⟨.int i,H,I.tok _,⟨_,rfl⟩,h⟩
theorem pe_bl {b j pos}:PE X (.Constant (.bool b) j pos) (tC (.bl b)):=fun _ _ _ H _ I h=>Constant_bool ⟨.bl b,H,I,rfl,h⟩
theorem pe_non {j pos}:PE X (.Constant .none j pos) (tC .non):=fun _ _ _ H _ I h=>Constant_none ⟨.non,H,I,rfl,h⟩
theorem pe_str {x j pos}:PE X (.Constant (.str x) j pos) (tC (.str x)):=fun _ _ _ H _ I h=>Calls.Constant_str ⟨.str x,H,I.tok _,⟨_,rfl⟩,h⟩
def Gl (X:Cx)(x:Str):Prop:=X.env.kindOf x=some .globalImplicit
theorem ld_glob {E:Value->Shared->Prop}{pins:List (Addr×Obj)}{s:Shared}{σ:St}{H:Hp}{x:Str}{u:Value}{pos:Pos}{Q:Value->Shared->Prop}(I:Inv X pins σ H s)(hg:Gl X x)(hm:X.mg x=some u)(h:Q u s)(hd:(x==("__debug__" : Str))=false:=by decide):wpAny (model X.prog X.w) X.A (eval (.Name x pos) X.env) Q E s:=
 Calls.Name_function_global I.ok.kind hg (Calls.loadGlobal_global (by rw[I.ok.glob];exact I.mod.glob.keeps I.bk) hm h) hd
theorem ld_blt {E:Value->Shared->Prop}{pins:List (Addr×Obj)}{s:Shared}{σ:St}{H:Hp}{x:Str}{u:Value}{pos:Pos}{Q:Value->Shared->Prop}(I:Inv X pins σ H s)(hg:Gl X x)(hm:X.mg x=none)(hv:bootBuiltins x=some u)(h:Q u s)(hn:x≠"__name__":=by decide)(hd:(x==("__debug__" : Str))=false:=by decide):wpAny (model X.prog X.w) X.A (eval (.Name x pos) X.env) Q E s:=by
 obtain⟨mb,h1,h2⟩:=I.mod.blt
 exact Calls.Name_function_global I.ok.kind hg (Calls.loadGlobal_builtin (by rw[I.ok.glob];exact I.mod.glob.keeps I.bk) hm (by rw[I.ok.blt];exact h1.keeps I.bk) ((h2 x hn).trans hv) h) hd
theorem pe_glob {x:Str}{v:V}{u:Value}{pos:Pos}(hg:Gl X x)(hm:X.mg x=some u)(r:RelV v u)(hd:(x==("__debug__" : Str))=false:=by decide):PE X (.Name x pos) (tC v):=
 fun _ _ _ H _ I h=>ld_glob I hg hm ⟨v,H,I,r,h⟩ hd
theorem pe_bltn {x:Str}{v:V}{u:Value}{pos:Pos}(hg:Gl X x)(hm:X.mg x=none)(hv:bootBuiltins x=some u)(r:RelV v u)(hn:x≠"__name__":=by decide)(hd:(x==("__debug__" : Str))=false:=by decide):PE X (.Name x pos) (tC v):=
 fun _ _ _ H _ I h=>ld_blt I hg hm hv ⟨v,H,I,r,h⟩ hn hd
variable {a b:Expr}{ta tb:TE}{pos:Pos}
def PC (X:Cx)(op:CmpOp)(a b:Expr)(t:TE):Prop:=
 ∀(pins:List (Addr×Obj)) (s:Shared) (σ:St) (H:Hp) (Q:VK),Inv X pins σ H s->t σ H Q->
  wpAny (model X.prog X.w) X.A (eval a X.env) (fun v s₁=>wpAny (model X.prog X.w) X.A (eval b X.env) (fun u s₂=>wpAny (model X.prog X.w) X.A (compareOp op v u) (EP X pins σ Q) X.xe s₂) X.xe s₁) X.xe s
def tB (t:TE):TT:=fun σ H Q=>t σ H fun x H1=>∃c,x=.bl c/\Q c H1
theorem pt_cmp {op:CmpOp}{t:TE}(h:PC X op a b t)(h1:behindInMarks op b=false:=by first | exact nobehind _ (by decide) (by decide) | rfl):PT X (.Compare a [op] [b] pos) (tB t):=by
 intro pins s σ H Q I hw
 refine wpAny_isTrue_Compare1 (thn (h pins s σ H _ I hw) fun v s1 h1=>thn h1 fun u s2 h2=>thn h2 fun c s3 ⟨x,H1,I1,r1,q1⟩=>?_) h1
 obtain⟨d,rfl,q⟩:=q1
 cases r1
 exact wpAny_truthy_bool ⟨H1,I1,q⟩
variable {tA tB':TT}{rest:List Expr}
def tAnd (t u:TT):TT:=fun σ H Q=>t σ H fun c H1=>if c=true then u σ H1 Q else Q false H1
def tOr (t u:TT):TT:=fun σ H Q=>t σ H fun c H1=>if c=true then Q true H1 else u σ H1 Q
def tNot (t:TT):TT:=fun σ H Q=>t σ H fun c H1=>Q (!c) H1
theorem pw_and1 (ha:PT X a tA):PW X (.BoolOp .And [a] pos) tA:=by
 intro wh pins s σ H Q I h
 refine isTrue_and (thn (ha pins s σ H Q I h) fun c s1 e=>?_)
 cases c with
 |true=>exact isTrue_and_nil e
 |false=>exact e
theorem pw_or1 (ha:PT X a tA):PW X (.BoolOp .Or [a] pos) tA:=by
 intro wh pins s σ H Q I h
 refine isTrue_or (thn (ha pins s σ H Q I h) fun c s1 e=>?_)
 cases c with
 |false=>exact isTrue_or_nil e
 |true=>exact e
theorem pw_and (ha:PT X a tA)(hb:PW X (.BoolOp .And (b::rest) pos) tB'):PW X (.BoolOp .And (a::b::rest) pos) (tAnd tA tB'):=by
 intro wh pins s σ H Q I h
 refine isTrue_and (thn (ha pins s σ H _ I h) fun c s1 ⟨H1,I1,q1⟩=>?_)
 cases c with
 |true=>exact hb wh pins s1 σ H1 Q I1 q1
 |false=>exact⟨H1,I1,q1⟩
theorem pw_or (ha:PT X a tA)(hb:PW X (.BoolOp .Or (b::rest) pos) tB'):PW X (.BoolOp .Or (a::b::rest) pos) (tOr tA tB'):=by
 intro wh pins s σ H Q I h
 refine isTrue_or (thn (ha pins s σ H _ I h) fun c s1 ⟨H1,I1,q1⟩=>?_)
 cases c with
 |true=>exact⟨H1,I1,q1⟩
 |false=>exact hb wh pins s1 σ H1 Q I1 q1
theorem pt_not (ha:PT X a tA):PT X (.UnaryOp .Not a pos) (tNot tA):=by
 intro pins s σ H Q I h
 exact isTrue_not (ha pins s σ H (fun c H1=>Q (!c) H1) I h)
def tIf (t:TT)(ta tb:TE):TE:=fun σ H Q=>t σ H fun c H1=>if c=true then ta σ H1 Q else tb σ H1 Q
theorem pe_ifExp {c:Expr}(hc:PT X c tA)(ha:PE X a ta)(hb:PE X b tb):PE X (.IfExp c a b pos) (tIf tA ta tb):=by
 intro pins s σ H Q I h
 refine wpAny_IfExp (thn (hc pins s σ H _ I h) fun d s1 ⟨H1,I1,q1⟩=>?_)
 cases d with
 |true=>exact ha pins s1 σ H1 Q I1 q1
 |false=>exact hb pins s1 σ H1 Q I1 q1
end
def SqL (K:W.Frag)(H:Hp)(a:Addr)(xs:List V):Prop:=
 Rd H a (.lst xs)\/
  ∃(o:Obj) (its:Array Value) (n:Nat),K.lookup a=some o/\o.cls=.type "list"/\o.dict=none/\o.data=.seq its n/\its.size<=sizeLine/\Vals xs its.toList
def SqT (K:W.Frag)(H:Hp)(a:Addr)(xs:List V):Prop:=
 Rd H a (.tup xs)\/
  ∃(o:Obj) (its:Array Value) (n:Nat),K.lookup a=some o/\o.cls=.type "tuple"/\o.data=.seq its n/\its.size<=sizeLine/\Vals xs its.toList
def absV:Value->Option V
 | .none=>some .non
 | .bool b=>some (.bl b)
 | .int i _=>some (.int i)
 | .str x _=>some (.str x)
 | .bytes b _=>some (.byt b)
 | .float b _=>some (.flt b)
 | .ref a=>some (.ref a)
 | .type n=>some (.ty n)
 |_=>none
theorem RelV.abs {x:V}{u:Value}(r:RelV x u):absV u=some x:=by
 cases x with
 |non=>cases r;rfl
 |bl _=>cases r;rfl
 |int _=>obtain⟨t,rfl⟩:=r;rfl
 |str _=>obtain⟨t,rfl⟩:=r;rfl
 |byt _=>obtain⟨t,rfl⟩:=r;rfl
 |flt _=>obtain⟨t,rfl⟩:=r;rfl
 |ref _=>cases r;rfl
 |ty _=>cases r;rfl
theorem RelV.inj {x y:V}{u:Value}(r:RelV x u)(q:RelV y u):x=y:=Option.some.inj (r.abs.symm.trans q.abs)
theorem Vals.inj:∀{xs ys:List V} {us:List Value},Vals xs us->Vals ys us->xs=ys
 |_,_,_,.nil,.nil=>rfl
 |_,_,_,.cons r t,.cons r' t'=>by rw[r.inj r',Vals.inj t t']
section
variable {X:Cx}{pins:List (Addr×Obj)}{σ:St}{H:Hp}{s:Shared}{a:Addr}{xs ys:List V}
theorem SqL.of {K:W.Frag}(h:H a=some (.lst xs)):SqL K H a xs:=.inl (.inl h)
theorem SqT.of {K:W.Frag}(h:H a=some (.tup xs)):SqT K H a xs:=.inl (.inl h)
theorem Inv.list (I:Inv X pins σ H s)(h:SqL X.K H a xs):∃its:List Value,Vals xs its/\PlainL s.heap a its.toArray/\xs.length<=sizeLine:=by
 rcases h with h | ⟨o,its,n,hk,hc,hd,hs,hz,r⟩
 ·obtain⟨z,its,n,r,e⟩:=h.ok I.hok
  exact⟨its,r,⟨_,n,e,rfl,rfl,rfl⟩,z⟩
 ·refine⟨its.toList,r,⟨o,n,I.kIn a o hk,hc,hd,by simpa using hs⟩,?_⟩
  have e:=r.length
  simp only[length_toList]at e
  omega
theorem Inv.tuple (I:Inv X pins σ H s)(h:SqT X.K H a xs):∃its:List Value,Vals xs its/\IsTup s.heap a its.toArray/\xs.length<=sizeLine:=by
 rcases h with h | ⟨o,its,n,hk,hc,hs,hz,r⟩
 ·obtain⟨z,its,r,p⟩:=h.ok I.hok
  exact⟨its,r,p,z⟩
 ·refine⟨its.toList,r,⟨o,I.kIn a o hk,hc,n,by simpa using hs⟩,?_⟩
  have e:=r.length
  simp only[length_toList]at e
  omega
theorem Inv.list_inj (I:Inv X pins σ H s)(h:SqL X.K H a xs)(h':SqL X.K H a ys):xs=ys:=by
 obtain⟨its,r,⟨o,n,e,_,_,d⟩,_⟩:=I.list h
 obtain⟨its',r',⟨o',n',e',_,_,d'⟩,_⟩:=I.list h'
 rw[e]at e';cases e'
 rw[d]at d'
 injection d' with d1 _
 have:its=its':=by simpa using congrArg Array.toList d1
 subst this
 exact r.inj r'
theorem Inv.tuple_inj (I:Inv X pins σ H s)(h:SqT X.K H a xs)(h':SqT X.K H a ys):xs=ys:=by
 obtain⟨its,r,⟨o,e,_,n,d⟩,_⟩:=I.tuple h
 obtain⟨its',r',⟨o',e',_,n',d'⟩,_⟩:=I.tuple h'
 rw[e]at e';cases e'
 rw[d]at d'
 injection d' with d1 _
 have:its=its':=by simpa using congrArg Array.toList d1
 subst this
 exact r.inj r'
end
abbrev Cx.wish (X:Cx)(E:Value->Shared->Prop):Cx:={X with xe:=E}
abbrev Cx.nox (X:Cx):Cx:=X.wish fun _ _=>False
theorem Cx.Ok.wish {X:Cx}(ok:X.Ok)(E:Value->Shared->Prop):(X.wish E).Ok:=
 ⟨ok.mod,ok.kind,ok.glob,ok.blt,ok.above,ok.inj,ok.has,ok.cab,ok.hd,ok.frames,ok.stk,ok.exf,ok.bs,ok.bsz,ok.noex,ok.exfs,ok.funs,ok.frf⟩
theorem Cx.Ok.unwish {X:Cx}{E:Value->Shared->Prop}(ok:(X.wish E).Ok):X.Ok:=
 ⟨ok.mod,ok.kind,ok.glob,ok.blt,ok.above,ok.inj,ok.has,ok.cab,ok.hd,ok.frames,ok.stk,ok.exf,ok.bs,ok.bsz,ok.noex,ok.exfs,ok.funs,ok.frf⟩
section
variable {X:Cx}{pins:List (Addr×Obj)}{σ:St}{H:Hp}{s:Shared}{E:Value->Shared->Prop}
theorem Inv.wish (I:Inv X pins σ H s)(E:Value->Shared->Prop):Inv (X.wish E) pins σ H s:=⟨I.ok.wish E,I.os,I.bare,I.base,I.loc,I.cell,I.free,I.freeC,I.pin,I.hok,I.len⟩
theorem Inv.unwish (I:Inv (X.wish E) pins σ H s):Inv X pins σ H s:=⟨I.ok.unwish,I.os,I.bare,I.base,I.loc,I.cell,I.free,I.freeC,I.pin,I.hok,I.len⟩
theorem SP.unwish {D:Ends}{f:Flow}{s':Shared}(h:SP (X.wish E) pins D f s'):SP X pins D f s':=by
 cases f with
 |next=>obtain⟨σ',H',I,q⟩:=h;exact⟨σ',H',I.unwish,q⟩
 |brk=>obtain⟨σ',H',I,q⟩:=h;exact⟨σ',H',I.unwish,q⟩
 |cont=>obtain⟨σ',H',I,q⟩:=h;exact⟨σ',H',I.unwish,q⟩
 |ret u=>obtain⟨v,σ',H',I,r,q⟩:=h;exact⟨v,σ',H',I.unwish,r,q⟩
theorem PSs.nox {st:List Stmt}{t:TS}(h:PSs X.nox st t):PSs X st t:=fun pins s σ H D I hw=>
 wpAny_mono (h pins s σ H D (I.wish _) hw) (fun _ _ q=>q.unwish) fun _ _ z=>False.elim z
end
section
variable {X:Cx}{st:Stmt}{rest:List Stmt}{t u:TS}{e:Expr}{te:TE}{pos:Pos}
def tNext:TS:=fun D σ H=>D.nx σ H
def tSeq (t u:TS):TS:=fun D σ H=>t {D with nx:=u D} σ H
theorem pss_nil:PSs X [] tNext:=fun _ _ σ H _ I h=>wpAny_execs_nil ⟨σ,H,I,h⟩
theorem pss_cons (h1:PS X st t)(h2:PSs X rest u):PSs X (st::rest) (tSeq t u):=by
 intro pins s σ H D I h
 refine wpAny_execs_cons (thn (h1 pins s σ H {D with nx:=u D} I h) fun f s1 q=>?_)
 cases f with
 |next=>
  obtain⟨σ',H',I',q⟩:=q
  exact h2 pins s1 σ' H' D I' q
 |ret v=>exact q
 |brk=>exact q
 |cont=>exact q
theorem pss_one (h1:PS X st t):PSs X [st] t:=by
 intro pins s σ H D I h
 refine wpAny_execs_cons (thn (h1 pins s σ H D I h) fun f s1 q=>?_)
 cases f with
 |next=>exact wpAny_execs_nil q
 |ret v=>exact q
 |brk=>exact q
 |cont=>exact q
theorem Inv.quiet {pins:List (Addr×Obj)}{σ:St}{H:Hp}{s:Shared}(I:Inv X pins σ H s):interactive X.env=false:=by simp[interactive,I.ok.kind]
def tDrop (te:TE):TS:=fun D σ H=>te σ H fun _ H1=>D.nx σ H1
theorem ps_expr (he:PE X e te)(hs:swapsWith e none pos.line X.env=pure false:=by rfl):PS X (.Expr e pos) (tDrop te):=by
 intro pins s σ H D I h
 exact wpAny_Expr_any (thn (he pins s σ H _ I h) fun v s1 ⟨x,H1,I1,r1,q1⟩=>⟨σ,H1,I1,q1⟩) I.quiet hs
def tRet (te:TE):TS:=fun D σ H=>te σ H D.rt
theorem ps_ret (he:PE X e te):PS X (.Return (some e) pos) (tRet te):=by
 intro pins s σ H D I h
 exact wpAny_Return_some (thn (he pins s σ H _ I h) fun v s1 ⟨x,H1,I1,r1,q1⟩=>⟨x,σ,H1,I1,r1,q1⟩)
def tIfS (c:TT)(t u:TS):TS:=fun D σ H=>c σ H fun b H1=>if b=true then t D σ H1 else u D σ H1
theorem ps_if {c:Expr}{a b:List Stmt}{tc:TT}(hc:PT X c tc)(ha:PSs X a t)(hb:PSs X b u):PS X (.If c a b pos) (tIfS tc t u):=by
 intro pins s σ H D I h
 refine wpAny_If (thn (hc pins s σ H _ I h) fun d s1 ⟨H1,I1,q1⟩=>?_)
 cases d with
 |true=>exact ha pins s1 σ H1 D I1 q1
 |false=>exact hb pins s1 σ H1 D I1 q1
def tNever:TS:=fun _ _ _=>False
theorem ps_never:PS X st tNever:=fun _ _ _ _ _ _ h=>h.elim
theorem pss_never {sts:List Stmt}:PSs X sts tNever:=fun _ _ _ _ _ _ h=>h.elim
end
abbrev TG:=V->St->Hp->(St->Hp->Prop)->Prop
abbrev TGs:=List V->St->Hp->(St->Hp->Prop)->Prop
def PG (X:Cx)(target:Expr)(t:TG):Prop:=
 ∀(pins:List (Addr×Obj)) (s:Shared) (σ:St) (H:Hp) (v:V) (u:Value) (Q:St->Hp->Prop),Inv X pins σ H s->RelV v u->t v σ H Q->
  wpAny (model X.prog X.w) X.A (assign target X.env u) (fun _ s'=>∃σ' H',Inv X pins σ' H' s'/\Q σ' H') X.xe s
def PGs (X:Cx)(ts:List Expr)(t:TGs):Prop:=
 ∀(pins:List (Addr×Obj)) (s:Shared) (σ:St) (H:Hp) (vs:List V) (us:List Value) (Q:St->Hp->Prop),Inv X pins σ H s->Vals vs us->t vs σ H Q->
  wpAny (model X.prog X.w) X.A (assignInOrder ((assignEach ts X.env).map (·.2)) us) (fun _ s'=>∃σ' H',Inv X pins σ' H' s'/\Q σ' H') X.xe s
abbrev TSet:=V->V->V->Hp->(Hp->Prop)->Prop
def PSet (X:Cx)(t:TSet):Prop:=
 ∀(pins:List (Addr×Obj)) (s:Shared) (σ:St) (H:Hp) (o i v:V) (ov iv u:Value) (Q:Hp->Prop),Inv X pins σ H s->RelV o ov->RelV i iv->RelV v u->t o i v H Q->
  wpAny (model X.prog X.w) X.A (setItem ov iv u) (fun _ s'=>∃H',Inv X pins σ H' s'/\Q H') X.xe s
abbrev TIp:=V->V->Hp->VK->Prop
def PIp (X:Cx)(op:Operator)(t:TIp):Prop:=
 ∀(pins:List (Addr×Obj)) (s:Shared) (σ:St) (H:Hp) (x y:V) (v u:Value) (Q:VK),Inv X pins σ H s->RelV x v->RelV y u->t x y H Q->
  wpAny (model X.prog X.w) X.A (inplaceOp op v u) (EP X pins σ Q) X.xe s
section
variable {X:Cx}{pos:Pos}
def gName (i:Nat):TG:=fun v σ H Q=>Q (σ.set i (some v)) H
theorem pg_name {i:Nat}{x:Str}(hN:X.N.Nodup)(hi:X.N[i]?=some x)(hx:Loc X.env.scope x)(hf:X.fn x=true\/X.env.scope.names.lookup x=some .local:=by first | exact .inl rfl | exact .inr rfl | assumption):PG X (.Name x pos) (gName i):=by
 intro pins s σ H v u Q I r h
 exact wpAny_assign_Name (store_ok I hN hi hx r (fun s' I'=>⟨_,H,I',h⟩) hf)
def gNil:TGs:=fun vs σ H Q=>vs=[]/\Q σ H
def gCons (t:TG)(u:TGs):TGs:=fun vs σ H Q=>∃v r,vs=v::r/\t v σ H fun σ' H'=>u r σ' H' Q
theorem pgs_nil:PGs X [] gNil:=by
 intro pins s σ H vs us Q I r h
 obtain⟨e,h⟩:=h
 subst e
 cases r
 exact assignInOrder_nil ⟨σ,H,I,h⟩
theorem pgs_cons {e:Expr}{es:List Expr}{t:TG}{u:TGs}(h1:PG X e t)(h2:PGs X es u)(hs:(assignEach (e::es) X.env).map (·.2)=assign e X.env::(assignEach es X.env).map (·.2):=by rfl):PGs X (e::es) (gCons t u):=by
 intro pins s σ H vs us Q I r h
 obtain⟨v,vr,e1,h⟩:=h
 subst e1
 cases r with
 |cons r rr=>
  rw[hs]
  refine assignInOrder_cons (thn (h1 pins s σ H _ _ _ I r h) fun _ s1 ⟨σ1,H1,I1,q1⟩=>?_)
  exact h2 pins s1 σ1 H1 _ _ Q I1 rr q1
def gTup (K:W.Frag)(n:Nat)(t:TGs):TG:=fun v σ H Q=>∃a xs,v=.ref a/\SqT K H a xs/\xs.length=n/\t xs σ H Q
theorem pg_tup {es:List Expr}{k:Nat}{t:TGs}{n:Nat}(hc:X.calm=true)(h:PGs X es t)(hn:(assignEach es X.env).length=n:=by rfl)(hst:(assignEach es X.env).findIdx? (·.1)=none:=by rfl):PG X (.Tuple es k pos) (gTup X.K n t):=by
 intro pins s σ H v u Q I r hw
 obtain⟨a,xs,e1,hq,hl,hw⟩:=hw
 subst e1
 cases r
 obtain⟨its,rv,ht,hz⟩:=I.tuple hq
 refine assign_Tuple_tuple (I.ok.hd hc) ht (by simp[hn,<-hl,rv.length]) hst fun h' hx=>?_
 have I1:Inv X pins σ H {s with heap:=h'}:=I.kept (t':=s.toks) fun b o e=>hx b o (ne_of_lt (lt_size e)) e
 exact h pins _ σ H xs _ Q I1 (by simpa using rv) hw
def gSub (to ti:TE)(t:TSet):TG:=fun v σ H Q=>to σ H fun o H1=>ti σ H1 fun i H2=>t o i v H2 fun H3=>Q σ H3
theorem pg_sub {o i:Expr}{to ti:TE}{t:TSet}(ho:PE X o to)(hi:PE X i ti)(hs:PSet X t)(ha:∀v,assign (.Subscript o i pos) X.env v=(do
  let ov <-holding [v] (eval o X.env)
  let iv <-holding [v,ov] (eval i X.env)
  standAt pos
  holding [v,ov,iv] (setItem ov iv v)
  release [v,ov,iv] []):=by intro _;rfl):PG X (.Subscript o i pos) (gSub to ti t):=by
 intro pins s σ H v u Q I r h
 rw[ha]
 refine wpAny_bind (wpAny_holding (thn (ho pins s σ H _ I h) fun ov s1 ⟨x,H1,I1,r1,q1⟩=>?_))
 refine wpAny_bind (wpAny_holding (thn (hi pins s1 σ H1 _ I1 q1) fun iv s2 ⟨y,H2,I2,r2,q2⟩=>?_))
 refine wpAny_bind (wpAny_standAt (wpAny_bind (wpAny_holding (thn (hs pins s2 σ H2 x y v ov iv u _ I2 r1 r2 r q2) fun _ s3 ⟨H3,I3,q3⟩=>?_))))
 exact wpAny_release ⟨σ,H3,I3,q3⟩
def tAsg (te:TE)(g:TG):TS:=fun D σ H=>te σ H fun x H1=>g x σ H1 D.nx
theorem ps_asg {tg e:Expr}{te:TE}{g:TG}(he:PE X e te)(hg:PG X tg g)(hs:swapsWithSole [tg] e pos.line X.env=pure false:=by rfl)(hw:swappedStores [tg] e X.env=pure none:=by rfl)(h1:(assignEach [tg] X.env).map (·.2)=[assign tg X.env]:=by rfl):PS X (.Assign [tg] e pos) (tAsg te g):=by
 intro pins s σ H D I h
 refine wpAny_Assign_stores (thn (he pins s σ H _ I h) fun v s1 ⟨x,H1,I1,r1,q1⟩=>?_) hs hw
 rw[h1]
 exact thn (hg pins s1 σ H1 x v _ I1 r1 q1) fun _ s2 q=>q
theorem ps_set {i:Nat}{x:Str}{e:Expr}{te:TE}{pos':Pos}(hN:X.N.Nodup)(hi:X.N[i]?=some x)(hx:Loc X.env.scope x)(he:PE X e te)(hs:swapsWith e (some (.Name x pos')) pos.line X.env=pure false:=by rfl)(hf:X.fn x=true\/X.env.scope.names.lookup x=some .local:=by first | exact .inl rfl | exact .inr rfl | assumption) :
 PS X (.Assign [.Name x pos'] e pos) (tAsg te (gName i)):=by
 intro pins s σ H D I h
 refine wpAny_Assign_Name (thn (he pins s σ H _ I h) fun v s1 ⟨y,H1,I1,r1,q1⟩=>?_) hs
 exact store_ok I1 hN hi hx r1 (fun s2 I2=>⟨_,H1,I2,q1⟩) hf
def tPar (i j:Nat)(ta:TA):TS:=fun D σ H=>ta σ H fun vs H1=>∃v w,vs=[v,w]/\D.nx ((σ.set i (some v)).set j (some w)) H1
theorem ps_par {i j:Nat}{x y:Str}{a b:Expr}{ta:TA}{px py pt:Pos}{kt k2 pt2}(hc:X.calm=true)(hN:X.N.Nodup)(hi:X.N[i]?=some x)(hj:X.N[j]?=some y)(hij:i≠j)(hx:X.env.scope.names.lookup x=some .local)(hy:X.env.scope.names.lookup y=some .local)(ha:PA X [a,b] ta)(hw:swappedStores [.Tuple [.Name x px,.Name y py] kt pt] (.Tuple [a,b] k2 pt2) X.env=pure (some [x,y]))(hs:swapsWithSole [.Tuple [.Name x px,.Name y py] kt pt] (.Tuple [a,b] k2 pt2) pos.line X.env=pure false:=by rfl) :
 PS X (.Assign [.Tuple [.Name x px,.Name y py] kt pt] (.Tuple [a,b] k2 pt2) pos) (tPar i j ta):=by
 intro pins s σ H D I h
 rw[exec_Assign_arm]
 refine wpAny_bind (wpAny_standAt ?_)
 rw[hs]
 refine wpAny_bind (wpAny_pure ?_)
 rw[if_neg (by decide)]
 refine wpAny_bind (Tuple_ (thn (ha _ pins s σ H _ I h) fun us s1 ⟨vs,H1,I1,r1,q1⟩=>?_))
 obtain⟨v,w,e1,q1⟩:=q1
 subst e1
 obtain⟨u1,u2,rfl,rv,rw'⟩:∃u1 u2,us=[u1,u2]/\RelV v u1/\RelV w u2:=by
  cases r1 with
  |cons p q=>
   cases q with
   |cons p' q'=>
    cases q'
    exact⟨_,_,rfl,p,p'⟩
 refine wpAny_newObj_type ?_ (by show 2<=sizeLine;decide)
 have I2:Inv X pins σ H1 {s1 with heap:=s1.heap.push {cls:=.type "tuple",data:=.seq [u1,u2].toArray}}:=I1.kept (t':=s1.toks) fun b o e=>get?_push_of_some _ e
 rw[hw]
 refine wpAny_bind (wpAny_pure ?_)
 show wpAny (model X.prog X.w) X.A (do rule "assign.swapped-stores";let items <-unpackItems (.ref s1.heap.objs.size) 2 none;assignInOrder [fun v=>bindName X.env y v,fun v=>bindName X.env x v] items.reverse;pure Flow.next) _ _ _
 refine wpAny_bind (wpAny_rule (wpAny_bind (unpackItems_tuple (items:=#[u1,u2]) (I.ok.hd hc) (IsTup.new s1.heap _) fun h' hx'=>?_)))
 have I3:=I2.kept (h':=h') (t':=s1.toks) fun b o e=>hx' b o (ne_of_lt (lt_size e)) e
 show wpAny _ _ (assignInOrder [fun v=>bindName X.env y v,fun v=>bindName X.env x v] [u2,u1] >>= fun _=>pure Flow.next) _ _ _
 refine wpAny_bind (assignInOrder_cons (wpAny_bindName (store_ok I3 hN hj (.inl hy) rw' (fun s2 I4=>?_) (.inr hy))))
 refine assignInOrder_cons (wpAny_bindName (store_ok I4 hN hi (.inl hx) rv (fun s3 I5=>assignInOrder_nil (wpAny_pure ?_)) (.inr hx)))
 rw[List.set_comm _ _ (Ne.symm hij)]at I5
 exact⟨_,H1,I5,q1⟩
def tAug (i:Nat)(te:TE)(ti:TIp):TS:=fun D σ H=>∃x,σ[i]?=some (some x)/\te σ H fun y H1=>ti x y H1 fun z H2=>D.nx (σ.set i (some z)) H2
theorem ps_aug {i:Nat}{x:Str}{e:Expr}{te:TE}{op:Operator}{ti:TIp}{pos':Pos}(hN:X.N.Nodup)(hi:X.N[i]?=some x)(hx:Loc X.env.scope x)(he:PE X e te)(ho:PIp X op ti)(hf:X.fn x=true\/X.env.scope.names.lookup x=some .local:=by first | exact .inl rfl | exact .inr rfl | assumption) :
 PS X (.AugAssign (.Name x pos') op e pos) (tAug i te ti):=by
 intro pins s σ H D I h
 obtain⟨v,e1,h⟩:=h
 obtain⟨m,hn,hl⟩:=I.loc
 have vis:Vis X.env.scope x:=by rcases hx with k | k;exact .inl k;exact .inr (.inl k)
 obtain⟨u,r,l⟩:=hl i x v hi e1 vis
 refine wpAny_AugAssign_Name ?_
 have go:wpAny (model X.prog X.w) X.A (eval e X.env) (fun w s₂=>wpAny (model X.prog X.w) X.A (inplaceOp op u w) (fun r s₃=>wpAny (model X.prog X.w) X.A (storeName X.env x r) (fun _=>SP X pins D .next) X.xe s₃) X.xe s₂) X.xe s:=by
  refine thn (he pins s σ H _ I h) fun w s1 ⟨y,H1,I1,r1,q1⟩=>?_
  refine thn (ho pins s1 σ H1 v y u w _ I1 r r1 q1) fun z s2 ⟨zv,H2,I2,r2,q2⟩=>?_
  exact store_ok I2 hN hi hx r2 (fun s3 I3=>⟨_,H2,I3,q2⟩) hf
 rcases l with⟨hk,hm⟩ | ⟨hk,c,hc,hcell⟩
 ·exact wpAny_loadName_local I.ok.kind hk hn hm go
 ·rcases hk with hk | hk
  ·exact wpAny_loadName_cell I.ok.kind hk hc hcell go
  ·rcases hx with k | k
   ·have:X.env.scope.names.lookup x=some .free:=hk
    rw[k]at this;cases this
   ·have:X.env.scope.names.lookup x=some .free:=hk
    rw[k]at this;cases this
def ipI (f:Int->Int->Int):TIp:=fun x y H Q=>∃i j,x=.int i/\y=.int j/\Q (.int (f i j)) H
theorem ip_add:PIp X .Add (ipI fun i j=>i+j):=by
 intro pins s σ H x y v u Q I r1 r2 h
 obtain⟨i,j,e1,e2,q⟩:=h
 subst e1;subst e2
 obtain⟨t,rfl⟩:=r1
 obtain⟨t',rfl⟩:=r2
 exact iadd_int ⟨.int _,H,I.tok _,⟨_,rfl⟩,q⟩
theorem ip_sub:PIp X .Sub (ipI fun i j=>i - j):=by
 intro pins s σ H x y v u Q I r1 r2 h
 obtain⟨i,j,e1,e2,q⟩:=h
 subst e1;subst e2
 obtain⟨t,rfl⟩:=r1
 obtain⟨t',rfl⟩:=r2
 exact isub_int ⟨.int _,H,I.tok _,⟨_,rfl⟩,q⟩
end
section
variable {X:Cx}{pos:Pos}
end
structure It where
 go:Nat->Hp->Prop
 yld:Nat->Hp->V->Hp->Prop
 stop:Nat->Hp->Prop
def FpOk (X:Cx)(pins:List (Addr×Obj))(H:Hp)(b:Addr):Prop:=
 H b=none/\b≠X.env.locals/\b∉X.fs/\(b∈X.ex\/X.s₀.heap.objs.size<=b)/\(∀x c,X.env.cells.lookup x=some c->c≠b)/\∀p∈X.pn++pins,p.1≠b
theorem Inv.fpOk {X:Cx}{pins:List (Addr×Obj)}{σ:St}{H H':Hp}{s:Shared}{b:Addr}(I:Inv X pins σ H s)(hb:s.heap.objs.size<=b)(hn:H' b=none):FpOk X pins H' b:=by
 refine⟨hn,ne_of_gt (Nat.lt_of_lt_of_le I.lt hb),I.nofs hb,.inr (le_trans I.sz hb),fun x c e z=>?_,fun p hp z=>?_⟩
 ·obtain⟨v,q⟩:=I.cell x c e
  exact absurd (Nat.lt_of_lt_of_le q.lt (by rw[z];exact hb)) (lt_irrefl _)
 ·exact absurd (Nat.lt_of_lt_of_le (lt_size (I.pin p hp).1) (by rw[z];exact hb)) (lt_irrefl _)
structure Turn (P:Program)(w:World)(K:W.Frag)(tg:Expr)(J:It)(fp:List Addr)(it:Addr)(tn:Nat->Heap->Prop):Prop where
 mem:it∈fp
 obj:∀i h,tn i h->∀b∈fp,∃o,h.get? b=some o/\∀v,o.data≠.cell v
 keep:∀i h h',tn i h->(∀b∈fp,∀o,h.get? b=some o->h'.get? b=some o)->tn i h'
 item:∀(X:Cx),X.prog=P->X.w=w->X.K=K->X.calm=true->∀(i:Nat) (pins:List (Addr×Obj)) (s:Shared) (σ:St) (H:Hp) (E:Value->Shared->Prop),Inv X pins σ H s->(∀b∈fp,FpOk X pins H b)->tn i s.heap->J.go i H->
  wpAny (model P w) X.A (pyNext (.ref it)) (fun r s1=>∃u,r=some u/\
   wpAny (model P w) X.A (letOwnedTupleGo tg (.ref it) u) (fun _ s2=>∃x H',Inv X pins σ H' s2/\RelV x u/\J.yld i H x H'/\tn (i+1) s2.heap/\∀b∈fp,H' b=none) E s1) E s
 done:∀(X:Cx),X.prog=P->X.w=w->X.K=K->X.calm=true->∀(i:Nat) (pins:List (Addr×Obj)) (s:Shared) (σ:St) (H:Hp) (E:Value->Shared->Prop),Inv X pins σ H s->(∀b∈fp,FpOk X pins H b)->tn i s.heap->J.stop i H->
   wpAny (model P w) X.A (pyNext (.ref it)) (fun r s1=>r=none/\Inv X pins σ H s1) E s
 self:∀(A:Around) (i:Nat) (s:Shared) (Q:Value->Shared->Prop) (E:Value->Shared->Prop),tn i s.heap->Q (.ref it) s->wpAny (model P w) A (pyIter (.ref it)) Q E s
abbrev TI:=St->Hp->(It->Hp->Prop)->Prop
def PIE (X:Cx)(pins:List (Addr×Obj))(σ:St)(tg:Expr)(R:It->Hp->Prop)(itv:Value)(s2:Shared):Prop:=
 ∃(it:Addr) (fp:List Addr) (tn:Nat->Heap->Prop) (J:It) (H':Hp),itv=.ref it/\Inv X pins σ H' s2/\Turn X.prog X.w X.K tg J fp it tn/\tn 0 s2.heap/\(∀b∈fp,FpOk X pins H' b)/\R J H'
def PI (X:Cx)(tg iter:Expr)(wi:TI):Prop:=
 ∀(pins:List (Addr×Obj)) (s:Shared) (σ:St) (H:Hp) (R:It->Hp->Prop),Inv X pins σ H s->wi σ H R->
  wpAny (model X.prog X.w) X.A (eval iter X.env) (fun v s1=>wpAny (model X.prog X.w) X.A (pyIter v) (PIE X pins σ tg R) X.xe s1) X.xe s
theorem go_of {M:Model}{A:Around}{E:Value->Shared->Prop}{s:Shared}{tg:Expr}{it:Addr}{u:Value}{o:Obj}{n:String}{vs:Array Value}{Q:Unit->Shared->Prop}(ho:s.heap.get? it=some o)(hc:o.cls=.type n)(hd:o.data=.fields vs)(hn:["enumerate","zip","dict_itemiterator","dict_reverseitemiterator","odict_iterator","itertools.zip_longest","itertools.pairwise"].contains n=false)(hQ:Q () s):wpAny M A (letOwnedTupleGo tg (.ref it) u) Q E s:=by
 unfold letOwnedTupleGo
 cases tg<;>first
  |exact wpAny_pure hQ
  |(cases u<;>first
   |exact wpAny_pure hQ
   |(refine wpAny_bind (wpAny_load ho ?_)
     rw[hc,hd]
     show wpAny M A (if(["enumerate","zip","dict_itemiterator","dict_reverseitemiterator","odict_iterator","itertools.zip_longest","itertools.pairwise"].contains n&&vs[0]?==some (rawInt _))=true then _ else _) Q E s
     rw[if_neg (by intro h;rw[hn,Bool.false_and]at h;cases h)]
     exact wpAny_pure hQ))
def Itl (K:W.Frag)(a:Addr):It:=
 ⟨fun i H=>∃xs x,SqL K H a xs/\xs[i]?=some x,fun i H x H'=>H'=H/\∀xs,SqL K H a xs->xs[i]?=some x,fun i H=>∃xs,SqL K H a xs/\xs.length<=i⟩
def Itt (K:W.Frag)(a:Addr):It:=
 ⟨fun i H=>∃xs x,SqT K H a xs/\xs[i]?=some x,fun i H x H'=>H'=H/\∀xs,SqT K H a xs->xs[i]?=some x,fun i H=>∃xs,SqT K H a xs/\xs.length<=i⟩
def Itr (lo:Int)(n:Nat):It:=⟨fun i _=>i<n,fun i H x H'=>H'=H/\x=.int (lo+i),fun i _=>n<=i⟩
theorem turn_list {P:Program}{w:World}{K:W.Frag}{tg:Expr}(a it:Addr):Turn P w K tg (Itl K a) [it] it (fun i h=>h.IsListIter it a i) where
 mem:=by simp
 obj:=fun i h st b hb=>by
  have e:b=it:=by simpa using hb
  subst e
  obtain⟨o,e,c,d⟩:=st
  exact⟨o,e,fun v z=>by rw[d]at z;cases z⟩
 keep:=fun i h h' st k=>st.at fun o e=>k it (by simp) o e
 item:=by
  intro X hP hw hK hc i pins s σ H E I hf st hg
  subst hP hw hK
  obtain⟨xs,x,hq,hx⟩:=hg
  obtain⟨its,rv,p,hz⟩:=I.list hq
  obtain⟨u,hu,ru⟩:=rv.get hx
  obtain⟨f0,f1,f2,f3,f4,f5⟩:=hf it (by simp)
  refine wpAny_pyNext_list_item st p.isList (x:=u) (by simpa using hu) fun h' st' sb=>?_
  have I1:Inv X pins σ H {s with heap:=h'}:=I.turned (t':=s.toks) (fun b o hb e=>(sb.2 b hb).trans e) f0 f1 f3 f4 f5
  obtain⟨o,e,c,d⟩:=id st'
  exact⟨u,rfl,go_of (s:={s with heap:=h'}) e c d (by decide) ⟨x,H,I1,ru,⟨rfl,fun ys hy=>by rw[I.list_inj hy hq];exact hx⟩,st',fun b hb=>(hf b hb).1⟩⟩
 done:=by
   intro X hP hw hK hc i pins s σ H E I hf st hg
   subst hP hw hK
   obtain⟨xs,hq,hx⟩:=hg
   obtain⟨its,rv,p,hz⟩:=I.list hq
   obtain⟨f0,f1,f2,f3,f4,f5⟩:=hf it (by simp)
   have hl:=rv.length
   exact wpAny_pyNext_list_end (I.ok.hd hc) st p.isList (by simp;omega) fun h' eb=>⟨rfl,I.turned (t':=s.toks) (fun b o hb e=>eb b o hb e) f0 f1 f3 f4 f5⟩
 self:=fun _ _ _ _ _ st h=>wpAny_pyIter_listiter st h
theorem turn_tuple {P:Program}{w:World}{K:W.Frag}{tg:Expr}(a it:Addr):Turn P w K tg (Itt K a) [it] it (fun i h=>h.IsTupleIter it a i) where
 mem:=by simp
 obj:=fun i h st b hb=>by
  have e:b=it:=by simpa using hb
  subst e
  obtain⟨o,e,c,d⟩:=st
  exact⟨o,e,fun v z=>by rw[d]at z;cases z⟩
 keep:=fun i h h' st k=>st.at fun o e=>k it (by simp) o e
 item:=by
  intro X hP hw hK hc i pins s σ H E I hf st hg
  subst hP hw hK
  obtain⟨xs,x,hq,hx⟩:=hg
  obtain⟨its,rv,p,hz⟩:=I.tuple hq
  obtain⟨u,hu,ru⟩:=rv.get hx
  obtain⟨f0,f1,f2,f3,f4,f5⟩:=hf it (by simp)
  refine wpAny_pyNext_tuple_item st (show s.heap.IsTuple a its.toArray from p) (x:=u) (by simpa using hu) fun h' st' sb=>?_
  have I1:Inv X pins σ H {s with heap:=h'}:=I.turned (t':=s.toks) (fun b o hb e=>(sb.2 b hb).trans e) f0 f1 f3 f4 f5
  obtain⟨o,e,c,d⟩:=id st'
  exact⟨u,rfl,go_of (s:={s with heap:=h'}) e c d (by decide) ⟨x,H,I1,ru,⟨rfl,fun ys hy=>by rw[I.tuple_inj hy hq];exact hx⟩,st',fun b hb=>(hf b hb).1⟩⟩
 done:=by
   intro X hP hw hK hc i pins s σ H E I hf st hg
   subst hP hw hK
   obtain⟨xs,hq,hx⟩:=hg
   obtain⟨its,rv,p,hz⟩:=I.tuple hq
   obtain⟨f0,f1,f2,f3,f4,f5⟩:=hf it (by simp)
   have hl:=rv.length
   exact wpAny_pyNext_tuple_end (I.ok.hd hc) st (show s.heap.IsTuple a its.toArray from p) (by simp;omega) fun h' eb=>⟨rfl,I.turned (t':=s.toks) (fun b o hb e=>eb b o hb e) f0 f1 f3 f4 f5⟩
 self:=fun _ _ _ _ _ st h=>wpAny_pyIter_tupleiter st h
theorem turn_range {P:Program}{w:World}{K:W.Frag}{tg:Expr}(it:Addr)(lo:Int)(n:Nat):Turn P w K tg (Itr lo n) [it] it (fun i h=>IsRangeIter h it (lo+(i:Nat)*1) ((n:Int) - (i:Nat)) 1) where
 mem:=by simp
 obj:=fun i h st b hb=>by
  have e:b=it:=by simpa using hb
  subst e
  exact⟨_,st,fun v z=>by
   have z':Data.fields _=Data.cell v:=z
   cases z'⟩
 keep:=fun i h h' st k=>k it (by simp) _ st
 item:=by
  intro X hP hw hK hc i pins s σ H E I hf st hg
  subst hP hw hK
  obtain⟨f0,f1,f2,f3,f4,f5⟩:=hf it (by simp)
  have W:=Walks.range (prog:=X.prog) (w:=X.w) (I.ok.hd hc) it lo 1 n
  refine W.item i s _ _ hg st fun v h' tk hv st' kk=>?_
  obtain⟨t,rfl⟩:=hv
  have I1:Inv X pins σ H {s with heap:=h',toks:=tk}:=I.turned (fun b o hb e=>kk b o (by simpa using hb) e) f0 f1 f3 f4 f5
  refine⟨_,rfl,go_of (s:={s with heap:=h',toks:=tk}) (n:="range_iterator") st' rfl rfl (by decide) ⟨.int (lo+i),H,I1,⟨t,?_⟩,⟨rfl,rfl⟩,st',fun b hb=>(hf b hb).1⟩⟩
  rw[Int.mul_one]
 done:=by
   intro X hP hw hK hc i pins s σ H E I hf st hg
   subst hP hw hK
   obtain⟨f0,f1,f2,f3,f4,f5⟩:=hf it (by simp)
   exact wpAny_pyNext_range_end (I.ok.hd hc) st (by have:n<=i:=hg;omega) fun h' eb=>⟨rfl,I.turned (t':=s.toks) (fun b o hb e=>eb b o hb e) f0 f1 f3 f4 f5⟩
 self:=fun _ _ _ _ _ st h=>wpAny_pyIter_rangeiter st h
section
variable {X:Cx}{tg:Expr}
def iList (K:W.Frag)(tl:TE):TI:=fun σ H R=>tl σ H fun x H1=>∃a,x=.ref a/\(∃xs,SqL K H1 a xs)/\R (Itl K a) H1
def iTup (K:W.Frag)(tl:TE):TI:=fun σ H R=>tl σ H fun x H1=>∃a,x=.ref a/\(∃xs,SqT K H1 a xs)/\R (Itt K a) H1
theorem pi_list {l:Expr}{tl:TE}(hl:PE X l tl):PI X tg l (iList X.K tl):=by
 intro pins s σ H R I h
 refine thn (hl pins s σ H _ I h) fun v s1 ⟨x,H1,I1,r1,q1⟩=>?_
 obtain⟨a,e,⟨xs,hq⟩,q⟩:=q1
 subst e
 cases r1
 obtain⟨its,rv,p,hz⟩:=I1.list hq
 refine wpAny_pyIter_list p.isList ?_
 refine⟨s1.heap.objs.size,[s1.heap.objs.size],_,_,H1,rfl,I1.kept (t':=s1.toks) fun b o e=>get?_push_of_some _ e,turn_list a _,⟨_,get?_push_size _ rfl,rfl,rfl⟩,fun b hb=>?_,q⟩
 have e:b=s1.heap.objs.size:=by simpa using hb
 subst e
 exact I1.fpOk (Nat.le_refl _) (I1.hok.fresh (Nat.le_refl _))
theorem pi_tup {l:Expr}{tl:TE}(hl:PE X l tl):PI X tg l (iTup X.K tl):=by
 intro pins s σ H R I h
 refine thn (hl pins s σ H _ I h) fun v s1 ⟨x,H1,I1,r1,q1⟩=>?_
 obtain⟨a,e,⟨xs,hq⟩,q⟩:=q1
 subst e
 cases r1
 obtain⟨its,rv,p,hz⟩:=I1.tuple hq
 refine wpAny_pyIter_tuple (show s1.heap.IsTuple a its.toArray from p) ?_
 refine⟨s1.heap.objs.size,[s1.heap.objs.size],_,_,H1,rfl,I1.kept (t':=s1.toks) fun b o e=>get?_push_of_some _ e,turn_tuple a _,⟨_,get?_push_size _ rfl,rfl,rfl⟩,fun b hb=>?_,q⟩
 have e:b=s1.heap.objs.size:=by simpa using hb
 subst e
 exact I1.fpOk (Nat.le_refl _) (I1.hok.fresh (Nat.le_refl _))
theorem range_it {pins:List (Addr×Obj)}{σ:St}{H:Hp}{s:Shared}{R:It->Hp->Prop}{E:Value->Shared->Prop}{lo hi:Int}{t u v:Tok}{tk:Nat}(I:Inv X pins σ H s)(h1:-(2^62)<=lo)(h2:lo<2^62)(h3:-(2^62)<=hi)(h4:hi<2^62)(q:R (Itr lo (hi - lo).toNat) H):wpAny (model X.prog X.w) X.A (pyIter (.ref s.heap.objs.size)) (PIE X pins σ tg R) E {s with heap:=s.heap.push {cls:=.type "range",data:=.fields #[.int lo t,.int hi u,.int 1 v]},toks:=tk}:=by
 refine wpAny_pyIter_range (IsRange.new ..) (small_one h1 h2 h3 h4) ?_
 have I1:Inv X pins σ H {s with heap:=s.heap.push {cls:=.type "range",data:=.fields #[.int lo t,.int hi u,.int 1 v]},toks:=tk}:=I.kept fun b o e=>get?_push_of_some _ e
 refine⟨(s.heap.push {cls:=.type "range",data:=.fields #[.int lo t,.int hi u,.int 1 v]}).objs.size,[(s.heap.push {cls:=.type "range",data:=.fields #[.int lo t,.int hi u,.int 1 v]}).objs.size],_,_,H,rfl,
  I1.kept (t':=tk) fun b o e=>get?_push_of_some _ e,turn_range _ lo (hi - lo).toNat,?_,fun b hb=>?_,q⟩
 ·have e1:lo+((0:Nat):Int)*1=lo:=by simp
  have e2:(((hi - lo).toNat:Nat):Int) - ((0:Nat):Int)=Builtin.Range.rangeSize lo hi 1:=by rw[rangeSize_one];split<;>omega
  show IsRangeIter _ _ (lo+((0:Nat):Int)*1) ((((hi - lo).toNat:Nat):Int) - ((0:Nat):Int)) 1
  rw[e1,e2]
  exact get?_push_size _ rfl
 ·have e:b=(s.heap.push {cls:=.type "range",data:=.fields #[.int lo t,.int hi u,.int 1 v]}).objs.size:=by simpa using hb
  subst e
  exact I1.fpOk (Nat.le_refl _) (I1.hok.fresh (Nat.le_refl _))
def iRng1 (ta:TA):TI:=fun σ H R=>ta σ H fun vs H1=>∃j:Int,vs=[.int j]/\-(2^62)<=j/\j<2^62/\R (Itr 0 j.toNat) H1
def iRng2 (ta:TA):TI:=fun σ H R=>ta σ H fun vs H1=>∃i j:Int,vs=[.int i,.int j]/\(-(2^62)<=i/\i<2^62/\-(2^62)<=j/\j<2^62)/\R (Itr i (j - i).toNat) H1
theorem pi_range1 {a:Expr}{ta:TA}{p pos:Pos}(hg:Gl X "range")(hm:X.mg "range" = none)(ha:PA X [a] ta)(hs:starEach [a] X.env=[(false,eval a X.env)]:=by rfl):PI X tg (.Call (.Name "range" p) [a] [] pos) (iRng1 ta):=by
 intro pins s σ H R I h
 refine Call_ (ld_blt I hg hm boot_range (callWith_type1 (thn (ha pos pins s σ H _ I h) fun us s1 ⟨vs,H1,I1,r1,q1⟩=>?_) hs rfl))
 obtain⟨j,e,q1,q2,q⟩:=q1
 subst e
 cases r1 with
 |cons r rr=>
  cases rr
  obtain⟨t,rfl⟩:=r
  exact call_range_1 (range_it I1 (by omega) (by omega) q1 q2 (by simpa using q))
theorem pi_range2 {a b:Expr}{ta:TA}{p pos:Pos}(hg:Gl X "range")(hm:X.mg "range" = none)(ha:PA X [a,b] ta)(hs:starEach [a,b] X.env=[(false,eval a X.env),(false,eval b X.env)]:=by rfl)(hs2:starEach [b] X.env=[(false,eval b X.env)]:=by rfl) :
 PI X tg (.Call (.Name "range" p) [a,b] [] pos) (iRng2 ta):=by
 intro pins s σ H R I h
 refine Call_ (ld_blt I hg hm boot_range (callWith_type1 (thn (ha pos pins s σ H _ I h) fun us s1 ⟨vs,H1,I1,r1,q1⟩=>?_) (by rw[hs,hs2]) (by rw[hs2];rfl)))
 obtain⟨i,j,e,⟨q1,q2,q3,q4⟩,q⟩:=q1
 subst e
 cases r1 with
 |cons r rr=>
  cases rr with
  |cons r' rr=>
   cases rr
   obtain⟨t,rfl⟩:=r
   obtain⟨t',rfl⟩:=r'
   exact call_range_2 (range_it I1 q1 q2 q3 q4 q)
def tFor (wi:TI)(g:TG)(tb:TS):TS:=fun D σ H=>wi σ H fun J H1=>∃W:Nat->Nat->St->Hp->Prop,(∃m,W 0 m σ H1)/\∀i m σ H,W i m σ H->
 (J.stop i H/\D.nx σ H)\/(J.go i H/\∃N:St->Hp->Prop,(∀σ' H',N σ' H'->∃m',m'<m/\W (i+1) m' σ' H')/\∀x H',J.yld i H x H'->g x σ H' fun σ2 H2=>tb {D with nx:=N,ct:=N,bk:=D.nx} σ2 H2)
def pinsAt (fp:List Addr)(h:Heap):List (Addr×Obj):=fp.filterMap fun b=>(h.get? b).map fun o=>(b,o)
theorem mem_pinsAt {fp:List Addr}{h:Heap}{b:Addr}{o:Obj}(hb:b∈fp)(e:h.get? b=some o):(b,o)∈pinsAt fp h:=List.mem_filterMap.mpr ⟨b,hb,by rw[e];rfl⟩
theorem of_pinsAt {fp:List Addr}{h:Heap}{p:Addr×Obj}(hp:p∈pinsAt fp h):p.1∈fp/\h.get? p.1=some p.2:=by
 obtain⟨b,hb,e⟩:=List.mem_filterMap.mp hp
 cases q:h.get? b with
 |none=>rw[q]at e;cases e
 |some o=>
  rw[q]at e
  have e':(b,o)=p:=Option.some.inj e
  subst e'
  exact⟨hb,q⟩
theorem Inv.pinned {pins:List (Addr×Obj)}{σ:St}{H:Hp}{s:Shared}{fp:List Addr}(I:Inv X pins σ H s)(hf:∀b∈fp,FpOk X pins H b)(ho:∀b∈fp,∃o,s.heap.get? b=some o/\∀v,o.data≠.cell v):Inv X (pins++pinsAt fp s.heap) σ H s:=
 I.pins_of fun p hp=>(mem_append.mp hp).elim (fun z=>I.pin p (mem_append_right _ z)) fun z=>by
  obtain⟨hb,e⟩:=of_pinsAt z
  obtain⟨f0,f1,f2,_⟩:=hf p.1 hb
  obtain⟨o,e',d⟩:=ho p.1 hb
  rw[e]at e';cases e'
  exact⟨e,f0,f1,f2,d⟩
theorem Inv.unpinned {pins pl:List (Addr×Obj)}{σ:St}{H:Hp}{s:Shared}(I:Inv X (pins++pl) σ H s):Inv X pins σ H s:=I.pins_of fun p hp=>I.pin p (mem_append_right _ (mem_append_left _ hp))
theorem ps_for {iter:Expr}{body:List Stmt}{wi:TI}{g:TG}{tb:TS}{pos:Pos}(hp:PassesOwn (model X.prog X.w) X.A X.env X.xe)(hc:X.calm=true)(hi:PI X tg iter wi)(hg:PG X tg g)(hb:PSs X body tb)(hs:∀x,foldedSetIterable iter X.env x=pure x:=by intro _;rfl):PS X (.For tg iter body [] pos) (tFor wi g tb):=by
 intro pins s σ H D I h
 refine wpAny_For (thn (hi pins s σ H _ I h) fun v s1 h1=>thn h1 fun itv s2 h2=>?_) hs
 obtain⟨it,fp,tn,J,H2,e,I2,T,st2,f2,W,⟨m0,w0⟩,turn⟩:=h2
 subst e
 -- what stays true of the iterator's objects through the loop
 have stat:∀{H':Hp},(∀b∈fp,H' b=none)->∀b∈fp,FpOk X pins H' b:=fun hn b hb=>⟨hn b hb,(f2 b hb).2⟩
 refine codeAny_forLoop_any (fun n s'=>∃i σ' H',Inv X pins σ' H' s'/\tn i s'.heap/\(∀b∈fp,H' b=none)/\W i n σ' H') ?_ m0 ⟨0,σ,H2,I2,st2,fun b hb=>(f2 b hb).1,w0⟩
 rintro n s3 ⟨i,σ3,H3,I3,st3,fr3,w3⟩
 rcases turn i n σ3 H3 w3 with⟨stop,qn⟩ | ⟨go,N,hN,step⟩
 ·refine wpAny_passesOwn hp (thn (T.done X rfl rfl rfl hc i pins s3 σ3 H3 X.xe I3 (stat fr3) st3 stop) fun r s4 ⟨hr,I4⟩=>?_)
  subst hr
  exact wpAny_execs_nil ⟨σ3,H3,I4,qn⟩
 ·refine wpAny_passesOwn hp (thn (T.item X rfl rfl rfl hc i pins s3 σ3 H3 X.xe I3 (stat fr3) st3 go) fun r s4 ⟨u,hr,h4⟩=>?_)
  subst hr
  refine wpAny_passesOwn hp (thn h4 fun _ s5 ⟨x,H5,I5,r5,y5,st5,fr5⟩=>?_)
  have I5':=I5.pinned (stat fr5) (T.obj _ _ st5)
  refine wpAny_passesOwn hp (thn (hg _ s5 σ3 H5 x u _ I5' r5 (step x H5 y5)) fun _ s6 ⟨σ6,H6,I6,q6⟩=>?_)
  refine wpAny_passesOwn hp (thn (hb _ s6 σ6 H6 _ I6 q6) fun f s7 q7=>?_)
  have again:∀{σ7:St} {H7:Hp},Inv X (pins++pinsAt fp s5.heap) σ7 H7 s7->N σ7 H7->∃m,m<n/\∃i σ' H',Inv X pins σ' H' s7/\tn i s7.heap/\(∀b∈fp,H' b=none)/\W i m σ' H':=fun{σ7 H7} I7 n7=>by
   obtain⟨m',hm,w7⟩:=hN σ7 H7 n7
   refine⟨m',hm,i+1,σ7,H7,I7.unpinned,T.keep _ _ _ st5 fun b hb o e=>(I7.pin (b,o) (mem_append_right _ (mem_append_right _ (mem_pinsAt hb e)))).1,fun b hb=>?_,w7⟩
   obtain⟨o,e,d⟩:=T.obj _ _ st5 b hb
   exact(I7.pin (b,o) (mem_append_right _ (mem_append_right _ (mem_pinsAt hb e)))).2.1
  cases f with
  |next=>obtain⟨σ7,H7,I7,n7⟩:=q7;exact again I7 n7
  |cont=>obtain⟨σ7,H7,I7,n7⟩:=q7;exact again I7 n7
  |brk=>obtain⟨σ7,H7,I7,q7⟩:=q7;exact⟨σ7,H7,I7.unpinned,q7⟩
  |ret v=>obtain⟨x7,σ7,H7,I7,r7,q7⟩:=q7;exact⟨x7,σ7,H7,I7.unpinned,r7,q7⟩
end
theorem for_list {K:W.Frag}{a:Addr}{xs:List V}{g:TG}{tb:TS}{D:Ends}{σ:St}{H:Hp}(Pv:Nat->St->Hp->Prop)(h0:Pv 0 σ H)(hl:∀i σ H,i<=xs.length->Pv i σ H->SqL K H a xs)(hs:∀i x σ H,xs[i]?=some x->Pv i σ H->g x σ H fun σ2 H2=>tb {D with nx:=Pv (i+1),ct:=Pv (i+1),bk:=D.nx} σ2 H2)(hd:∀σ H,Pv xs.length σ H->D.nx σ H) :
 ∃W:Nat->Nat->St->Hp->Prop,(∃m,W 0 m σ H)/\∀i m σ H,W i m σ H->
  ((Itl K a).stop i H/\D.nx σ H)\/((Itl K a).go i H/\∃N:St->Hp->Prop,(∀σ' H',N σ' H'->∃m',m'<m/\W (i+1) m' σ' H')/\∀x H',(Itl K a).yld i H x H'->g x σ H' fun σ2 H2=>tb {D with nx:=N,ct:=N,bk:=D.nx} σ2 H2):=by
 refine⟨fun i m σ H=>m=xs.length - i/\i<=xs.length/\Pv i σ H,⟨xs.length,by simp,zero_le _,h0⟩,?_⟩
 rintro i m σ H ⟨rfl,hi,p⟩
 have q:=hl i σ H hi p
 by_cases hlt:i<xs.length
 ·refine .inr ⟨⟨xs,xs[i],q,by simp[hlt]⟩,Pv (i+1),fun σ' H' p'=>⟨xs.length - (i+1),by omega,rfl,hlt,p'⟩,fun x H' y=>?_⟩
  obtain⟨e,y⟩:=y
  subst e
  exact hs i x σ _ (y xs q) p
 ·have e:i=xs.length:=by omega
  subst e
  exact .inl ⟨⟨xs,q,Nat.le_refl _⟩,hd σ H p⟩
theorem for_tup {K:W.Frag}{a:Addr}{xs:List V}{g:TG}{tb:TS}{D:Ends}{σ:St}{H:Hp}(Pv:Nat->St->Hp->Prop)(h0:Pv 0 σ H)(hl:∀i σ H,i<=xs.length->Pv i σ H->SqT K H a xs)(hs:∀i x σ H,xs[i]?=some x->Pv i σ H->g x σ H fun σ2 H2=>tb {D with nx:=Pv (i+1),ct:=Pv (i+1),bk:=D.nx} σ2 H2)(hd:∀σ H,Pv xs.length σ H->D.nx σ H) :
 ∃W:Nat->Nat->St->Hp->Prop,(∃m,W 0 m σ H)/\∀i m σ H,W i m σ H->
  ((Itt K a).stop i H/\D.nx σ H)\/((Itt K a).go i H/\∃N:St->Hp->Prop,(∀σ' H',N σ' H'->∃m',m'<m/\W (i+1) m' σ' H')/\∀x H',(Itt K a).yld i H x H'->g x σ H' fun σ2 H2=>tb {D with nx:=N,ct:=N,bk:=D.nx} σ2 H2):=by
 refine⟨fun i m σ H=>m=xs.length - i/\i<=xs.length/\Pv i σ H,⟨xs.length,by simp,zero_le _,h0⟩,?_⟩
 rintro i m σ H ⟨rfl,hi,p⟩
 have q:=hl i σ H hi p
 by_cases hlt:i<xs.length
 ·refine .inr ⟨⟨xs,xs[i],q,by simp[hlt]⟩,Pv (i+1),fun σ' H' p'=>⟨xs.length - (i+1),by omega,rfl,hlt,p'⟩,fun x H' y=>?_⟩
  obtain⟨e,y⟩:=y
  subst e
  exact hs i x σ _ (y xs q) p
 ·have e:i=xs.length:=by omega
  subst e
  exact .inl ⟨⟨xs,q,Nat.le_refl _⟩,hd σ H p⟩
theorem for_range {lo:Int}{n:Nat}{g:TG}{tb:TS}{D:Ends}{σ:St}{H:Hp}(Pv:Nat->St->Hp->Prop)(h0:Pv 0 σ H)(hs:∀i σ H,i<n->Pv i σ H->g (.int (lo+i)) σ H fun σ2 H2=>tb {D with nx:=Pv (i+1),ct:=Pv (i+1),bk:=D.nx} σ2 H2)(hd:∀σ H,Pv n σ H->D.nx σ H) :
 ∃W:Nat->Nat->St->Hp->Prop,(∃m,W 0 m σ H)/\∀i m σ H,W i m σ H->
  ((Itr lo n).stop i H/\D.nx σ H)\/((Itr lo n).go i H/\∃N:St->Hp->Prop,(∀σ' H',N σ' H'->∃m',m'<m/\W (i+1) m' σ' H')/\∀x H',(Itr lo n).yld i H x H'->g x σ H' fun σ2 H2=>tb {D with nx:=N,ct:=N,bk:=D.nx} σ2 H2):=by
 refine⟨fun i m σ H=>m=n - i/\i<=n/\Pv i σ H,⟨n,by simp,zero_le _,h0⟩,?_⟩
 rintro i m σ H ⟨rfl,hi,p⟩
 by_cases hlt:i<n
 ·refine .inr ⟨hlt,Pv (i+1),fun σ' H' p'=>⟨n - (i+1),by omega,rfl,hlt,p'⟩,fun x H' y=>?_⟩
  obtain⟨e,y⟩:=y
  subst e y
  exact hs i σ _ hlt p
 ·have e:i=n:=by omega
  subst e
  exact .inl ⟨Nat.le_refl _,hd σ H p⟩
abbrev R2:=V->V->Hp->VK->Prop
def OpR (X:Cx)(f:Value->Value->Sem Value)(r:R2):Prop:=
 ∀(pins:List (Addr×Obj)) (s:Shared) (σ:St) (H:Hp) (x y:V) (v u:Value) (Q:VK),Inv X pins σ H s->RelV x v->RelV y u->r x y H Q->
  wpAny (model X.prog X.w) X.A (f v u) (EP X pins σ Q) X.xe s
def UnR (X:Cx)(f:Value->Sem Value)(r:V->Hp->VK->Prop):Prop:=
 ∀(pins:List (Addr×Obj)) (s:Shared) (σ:St) (H:Hp) (x:V) (v:Value) (Q:VK),Inv X pins σ H s->RelV x v->r x H Q->
  wpAny (model X.prog X.w) X.A (f v) (EP X pins σ Q) X.xe s
def CallR (X:Cx)(f:Value)(r:List V->Hp->VK->Prop):Prop:=
 ∀(pins:List (Addr×Obj)) (s:Shared) (σ:St) (H:Hp) (xs:List V) (us:List Value) (Q:VK),Inv X pins σ H s->Vals xs us->r xs H Q->
  wpAny (model X.prog X.w) X.A (call f us) (EP X pins σ Q) X.xe s
def TruR (X:Cx)(r:V->Hp->(Bool->Hp->Prop)->Prop):Prop:=
 ∀(pins:List (Addr×Obj)) (s:Shared) (σ:St) (H:Hp) (x:V) (v:Value) (Q:Bool->Hp->Prop),Inv X pins σ H s->RelV x v->r x H Q->
  wpAny (model X.prog X.w) X.A (truthy v) (TP X pins σ Q) X.xe s
def tOp (r:R2)(ta tb:TE):TE:=fun σ H Q=>ta σ H fun x H1=>tb σ H1 fun y H2=>r x y H2 Q
def tUn (r:V->Hp->VK->Prop)(ta:TE):TE:=fun σ H Q=>ta σ H fun x H1=>r x H1 Q
def rI (C:Int->Int->Prop)(g:Int->Int->V):R2:=fun x y H Q=>∃i j,x=.int i/\y=.int j/\C i j/\Q (g i j) H
def rI0 (g:Int->Int->V):R2:=fun x y H Q=>∃i j,x=.int i/\y=.int j/\Q (g i j) H
def rU (g:Int->V):V->Hp->VK->Prop:=fun x H Q=>∃i,x=.int i/\Q (g i) H
section
variable {X:Cx}{a b c:Expr}{ta tb tc:TE}{pos:Pos}
theorem binT (ha:PE X a ta)(hb:PE X b tb){pins:List (Addr×Obj)}{s:Shared}{σ:St}{H:Hp}{R:V->V->Hp->Prop}(I:Inv X pins σ H s)(h:ta σ H fun x H1=>tb σ H1 fun y H2=>R x y H2){Q:Value->Shared->Prop}{f:Value->Value->Sem Value}(hf:∀v u s2 x y H2,Inv X pins σ H2 s2->RelV x v->RelV y u->R x y H2->wpAny (model X.prog X.w) X.A (f v u) Q X.xe s2) :
 wpAny (model X.prog X.w) X.A (eval a X.env) (fun v s₁=>wpAny (model X.prog X.w) X.A (eval b X.env) (fun u s₂=>wpAny (model X.prog X.w) X.A (f v u) Q X.xe s₂) X.xe s₁) X.xe s:=by
 refine thn (ha pins s σ H _ I h) fun v s1 ⟨x,H1,I1,r1,q1⟩=>?_
 refine thn (hb pins s1 σ H1 _ I1 q1) fun u s2 ⟨y,H2,I2,r2,q2⟩=>?_
 exact hf v u s2 x y H2 I2 r1 r2 q2
theorem pe_op {op:Operator}{r:R2}(ho:OpR X (binaryOp op) r)(ha:PE X a ta)(hb:PE X b tb):PE X (.BinOp a op b pos) (tOp r ta tb):=by
 intro pins s σ H Q I h
 exact wpAny_BinOp (binT ha hb I h fun v u s2 x y H2 I2 rx ry q=>ho pins s2 σ H2 x y v u Q I2 rx ry q)
theorem pe_un {op:UnaryOp}{r:V->Hp->VK->Prop}(ho:UnR X (unaryOp op) r)(ha:PE X a ta):PE X (.UnaryOp op a pos) (tUn r ta):=by
 intro pins s σ H Q I h
 exact UnaryOp_ (thn (ha pins s σ H _ I h) fun v s1 ⟨x,H1,I1,r1,q1⟩=>ho pins s1 σ H1 x v Q I1 r1 q1)
theorem opI {f:Value->Value->Sem Value}{C:Int->Int->Prop}{g:Int->Int->Int}(rule:∀(i j:Int) (t u:Tok) (s:Shared) (Q:Value->Shared->Prop) (E:Value->Shared->Prop),C i j->Q (.int (g i j) s.toks) {s with toks:=s.toks+1}->wpAny (model X.prog X.w) X.A (f (.int i t) (.int j u)) Q E s) :
 OpR X f (rI C fun i j=>.int (g i j)):=by
 intro pins s σ H x y v u Q I rx ry h
 obtain⟨i,j,rfl,rfl,hc,q⟩:=h
 obtain⟨t,rfl⟩:=rx
 obtain⟨t',rfl⟩:=ry
 exact rule i j t t' s _ _ hc ⟨.int (g i j),H,I.tok _,⟨_,rfl⟩,q⟩
theorem opI0 {f:Value->Value->Sem Value}{g:Int->Int->Int}(rule:∀(i j:Int) (t u:Tok) (s:Shared) (Q:Value->Shared->Prop) (E:Value->Shared->Prop),Q (.int (g i j) s.toks) {s with toks:=s.toks+1}->wpAny (model X.prog X.w) X.A (f (.int i t) (.int j u)) Q E s) :
 OpR X f (rI0 fun i j=>.int (g i j)):=by
 intro pins s σ H x y v u Q I rx ry h
 obtain⟨i,j,rfl,rfl,q⟩:=h
 obtain⟨t,rfl⟩:=rx
 obtain⟨t',rfl⟩:=ry
 exact rule i j t t' s _ _ ⟨.int (g i j),H,I.tok _,⟨_,rfl⟩,q⟩
theorem opB0 {f:Value->Value->Sem Value}{g:Int->Int->Bool}(rule:∀(i j:Int) (t u:Tok) (s:Shared) (Q:Value->Shared->Prop) (E:Value->Shared->Prop),Q (.bool (g i j)) s->wpAny (model X.prog X.w) X.A (f (.int i t) (.int j u)) Q E s) :
 OpR X f (rI0 fun i j=>.bl (g i j)):=by
 intro pins s σ H x y v u Q I rx ry h
 obtain⟨i,j,rfl,rfl,q⟩:=h
 obtain⟨t,rfl⟩:=rx
 obtain⟨t',rfl⟩:=ry
 exact rule i j t t' s _ _ ⟨.bl (g i j),H,I,rfl,q⟩
def CDiv (i j:Int):Prop:=0<j/\j<1073741824
def CPow (i j:Int):Prop:=0<=j/\j<=1000000/\i.natAbs<2^64
def CMul (i j:Int):Prop:=(-(2^64)<i/\i<2^64)\/(-(2^64)<j/\j<2^64)
theorem CMul.ok {i j:Int}(h:CMul i j):IntMulOk i j:=by
 rcases h with⟨h1,h2⟩ | ⟨h1,h2⟩
 ·exact .of_left (intBits_le_64 h1 h2)
 ·exact .of_right (intBits_le_64 h1 h2)
theorem op_add:OpR X (binaryOp .Add) (rI0 fun i j=>.int (i+j)):=opI0 fun _ _ _ _ _ _ _ q=>add_int q
theorem op_sub:OpR X (binaryOp .Sub) (rI0 fun i j=>.int (i - j)):=opI0 fun _ _ _ _ _ _ _ q=>sub_int q
theorem op_mul:OpR X (binaryOp .Mult) (rI CMul fun i j=>.int (i*j)):=opI fun _ _ _ _ _ _ _ hc q=>mul_int q hc.ok
theorem op_fdiv:OpR X (binaryOp .FloorDiv) (rI CDiv fun i j=>.int (i / j)):=opI fun i j _ _ _ _ _ hc q=>by
 have h1:(0:Int)<j:=hc.1
 have h2:j<1073741824:=hc.2
 exact floordiv_int (by omega) (by rw[Int.fdiv_eq_ediv_of_nonneg i (by omega)];exact q) (.inl (PyProof.noPylong_small (by omega)))
theorem op_mod:OpR X (binaryOp .Mod) (rI (fun _ j=>0<j) fun i j=>.int (i % j)):=opI fun i j _ _ _ _ _ hc q=>by
 have h1:(0:Int)<j:=hc
 exact mod_int' (by omega) (by rw[Int.fmod_eq_emod_of_nonneg i (by omega)];exact q)
theorem op_pow:OpR X (binaryOp .Pow) (rI CPow fun i j=>.int (i^j.toNat)):=opI fun _ _ _ _ _ _ _ hc q=>pow_int_small hc.1 hc.2.1 hc.2.2 q
theorem unI {f:Value->Sem Value}{g:Int->Int}(rule:∀(i:Int) (t:Tok) (s:Shared) (Q:Value->Shared->Prop) (E:Value->Shared->Prop),Q (.int (g i) s.toks) {s with toks:=s.toks+1}->wpAny (model X.prog X.w) X.A (f (.int i t)) Q E s) :
 UnR X f (rU fun i=>.int (g i)):=by
 intro pins s σ H x v Q I rx h
 obtain⟨i,rfl,q⟩:=h
 obtain⟨t,rfl⟩:=rx
 exact rule i t s _ _ ⟨.int (g i),H,I.tok _,⟨_,rfl⟩,q⟩
theorem un_neg:UnR X (unaryOp .USub) (rU fun i=>.int (-i)):=unI fun _ _ _ _ _ q=>neg_int q
end
def scal:V->V->Bool
 | .non,.non=>true | .non,.int _=>true | .int _,.non=>true | .non,.bl _=>true | .bl _,.non=>true | .non,.str _=>true | .str _,.non=>true
 | .int _,.int _=>true | .bl _,.bl _=>true | .str _,.str _=>true | .byt _,.byt _=>true
 | .int _,.str _=>true | .str _,.int _=>true | .bl _,.str _=>true | .str _,.bl _=>true
 |_,_=>false
def rEq:R2:=fun x y H Q=>scal x y=true/\Q (.bl (decide (x=y))) H
def rNe:R2:=fun x y H Q=>scal x y=true/\Q (.bl (!decide (x=y))) H
theorem dec_int {i j:Int}:decide (V.int i=V.int j)=(i==j):=by
 rw[Bool.eq_iff_iff]
 simp
theorem dec_bl {i j:Bool}:decide (V.bl i=V.bl j)=(i==j):=by
 rw[Bool.eq_iff_iff]
 simp
theorem dec_str {i j:Str}:decide (V.str i=V.str j)=(i==j):=by
 rw[Bool.eq_iff_iff]
 simp
theorem dec_byt {i j:Array UInt8}:decide (V.byt i=V.byt j)=(i.toList==j.toList):=by
 rw[Bool.eq_iff_iff]
 cases i
 cases j
 simp
section
variable {X:Cx}{a b c:Expr}{ta tb tc:TE}{pos:Pos}
theorem fin_bl {pins:List (Addr×Obj)}{σ:St}{H:Hp}{s:Shared}{Q:VK}{k k':Bool}(I:Inv X pins σ H s)(q:Q (.bl k) H)(e:k=k'):EP X pins σ Q (.bool k') s:=by
 subst e
 exact⟨.bl k,H,I,rfl,q⟩
theorem op_eq:OpR X (compareOp .Eq) rEq:=by
 intro pins s σ H x y v u Q I rx ry h
 obtain⟨hs,q⟩:=h
 cases x with
 |non=>
  cases rx
  cases y with
  |non=>cases ry;exact PySem.EqNone.eq_none_none (fin_bl I q (by simp))
  |bl j=>cases ry;exact PySem.EqNone.eq_none_bool (fin_bl I q (by simp))
  |int j=>obtain⟨t',rfl⟩:=ry;exact PySem.EqNone.eq_none_int (fin_bl I q (by simp))
  |str j=>obtain⟨t',rfl⟩:=ry;exact PySem.EqNone.eq_none_str (fin_bl I q (by simp))
  |_=>exact absurd (show false=true from hs) Bool.false_ne_true
 |bl i=>
  cases rx
  cases y with
  |non=>cases ry;exact PySem.EqNone.eq_bool_none (fin_bl I q (by simp))
  |bl j=>cases ry;exact eq_bool (fin_bl I q dec_bl)
  |str j=>obtain⟨t',rfl⟩:=ry;exact PySem.EqMixed.eq_bool_str (fin_bl I q (by simp))
  |_=>exact absurd (show false=true from hs) Bool.false_ne_true
 |int i=>
  obtain⟨t,rfl⟩:=rx
  cases y with
  |non=>cases ry;exact PySem.EqNone.eq_int_none (fin_bl I q (by simp))
  |int j=>obtain⟨t',rfl⟩:=ry;exact eq_int (fin_bl I q dec_int)
  |str j=>obtain⟨t',rfl⟩:=ry;exact PySem.EqMixed.eq_int_str (fin_bl I q (by simp))
  |_=>exact absurd (show false=true from hs) Bool.false_ne_true
 |str i=>
  obtain⟨t,rfl⟩:=rx
  cases y with
  |non=>cases ry;exact PySem.EqNone.eq_str_none (fin_bl I q (by simp))
  |bl j=>cases ry;exact PySem.EqMixed.eq_str_bool (fin_bl I q (by simp))
  |int j=>obtain⟨t',rfl⟩:=ry;exact PySem.EqMixed.eq_str_int (fin_bl I q (by simp))
  |str j=>obtain⟨t',rfl⟩:=ry;exact eq_str (fin_bl I q dec_str)
  |_=>exact absurd (show false=true from hs) Bool.false_ne_true
 |byt i=>
  obtain⟨t,rfl⟩:=rx
  cases y with
  |byt j=>obtain⟨t',rfl⟩:=ry;exact PySem.W.eq_bytes (fin_bl I q dec_byt)
  |_=>exact absurd (show false=true from hs) Bool.false_ne_true
 |_=>cases y<;>exact absurd (show false=true from hs) Bool.false_ne_true
theorem op_ne:OpR X (compareOp .NotEq) rNe:=by
 intro pins s σ H x y v u Q I rx ry h
 obtain⟨hs,q⟩:=h
 cases x with
 |non=>
  cases rx
  cases y with
  |non=>cases ry;exact PySem.EqNone.ne_none_none (fin_bl I q (by simp))
  |bl j=>cases ry;exact PySem.EqNone.ne_none_bool (fin_bl I q (by simp))
  |int j=>obtain⟨t',rfl⟩:=ry;exact PySem.EqNone.ne_none_int (fin_bl I q (by simp))
  |str j=>obtain⟨t',rfl⟩:=ry;exact PySem.EqNone.ne_none_str (fin_bl I q (by simp))
  |_=>exact absurd (show false=true from hs) Bool.false_ne_true
 |bl i=>
  cases rx
  cases y with
  |non=>cases ry;exact PySem.EqNone.ne_bool_none (fin_bl I q (by simp))
  |bl j=>cases ry;exact ne_bool (fin_bl I q (congrArg not dec_bl))
  |str j=>obtain⟨t',rfl⟩:=ry;exact PySem.EqMixed.ne_bool_str (fin_bl I q (by simp))
  |_=>exact absurd (show false=true from hs) Bool.false_ne_true
 |int i=>
  obtain⟨t,rfl⟩:=rx
  cases y with
  |non=>cases ry;exact PySem.EqNone.ne_int_none (fin_bl I q (by simp))
  |int j=>obtain⟨t',rfl⟩:=ry;exact ne_int (fin_bl I q (congrArg not dec_int))
  |str j=>obtain⟨t',rfl⟩:=ry;exact PySem.EqMixed.ne_int_str (fin_bl I q (by simp))
  |_=>exact absurd (show false=true from hs) Bool.false_ne_true
 |str i=>
  obtain⟨t,rfl⟩:=rx
  cases y with
  |non=>cases ry;exact PySem.EqNone.ne_str_none (fin_bl I q (by simp))
  |bl j=>cases ry;exact PySem.EqMixed.ne_str_bool (fin_bl I q (by simp))
  |int j=>obtain⟨t',rfl⟩:=ry;exact PySem.EqMixed.ne_str_int (fin_bl I q (by simp))
  |str j=>obtain⟨t',rfl⟩:=ry;exact ne_str (fin_bl I q (congrArg not dec_str))
  |_=>exact absurd (show false=true from hs) Bool.false_ne_true
 |byt i=>
  obtain⟨t,rfl⟩:=rx
  cases y with
  |byt j=>obtain⟨t',rfl⟩:=ry;exact PySem.W.ne_bytes (fin_bl I q (congrArg not dec_byt))
  |_=>exact absurd (show false=true from hs) Bool.false_ne_true
 |_=>cases y<;>exact absurd (show false=true from hs) Bool.false_ne_true
theorem op_lt:OpR X (compareOp .Lt) (rI0 fun i j=>.bl (decide (i<j))):=opB0 fun _ _ _ _ _ _ _ q=>lt_int q
theorem op_le:OpR X (compareOp .LtE) (rI0 fun i j=>.bl (decide (i<=j))):=opB0 fun _ _ _ _ _ _ _ q=>le_int q
theorem op_gt:OpR X (compareOp .Gt) (rI0 fun i j=>.bl (decide (j<i))):=opB0 fun _ _ _ _ _ _ _ q=>gt_int q
theorem op_ge:OpR X (compareOp .GtE) (rI0 fun i j=>.bl (decide (j<=i))):=opB0 fun _ _ _ _ _ _ _ q=>ge_int q
theorem op_in_str:OpR X (compareOp .In) (fun x y H Q=>∃i j,x=.str i/\y=.str j/\Q (.bl (!(occurrences j i 0 j.length 1).isEmpty)) H):=by
 intro pins s σ H x y v u Q I rx ry h
 obtain⟨i,j,rfl,rfl,q⟩:=h
 obtain⟨t,rfl⟩:=rx
 obtain⟨t',rfl⟩:=ry
 exact in_str (fin_bl I q rfl)
theorem op_isN:OpR X (compareOp .Is) (fun x y H Q=>y=.non/\Q (.bl (decide (x=.non))) H):=by
 intro pins s σ H x y v u Q I rx ry h
 obtain⟨rfl,q⟩:=h
 cases ry
 refine is_none_gen (fin_bl I q ?_)
 cases x<;>first
  |(cases rx;rfl)
  |(obtain⟨t,rfl⟩:=rx;rfl)
theorem nomark (b:Expr){op:CmpOp}(h:op≠.In:=by decide)(h2:op≠.NotIn:=by decide):behindInMarks op b=false:=by
 have e1:(op==CmpOp.In)=false:=by cases op<;>first | rfl | exact absurd rfl h
 have e2:(op==CmpOp.NotIn)=false:=by cases op<;>first | rfl | exact absurd rfl h2
 cases b<;>simp[behindInMarks,e1,e2]
theorem pe_cmpR {op:CmpOp}{r:R2}(ho:OpR X (compareOp op) r)(ha:PE X a ta)(hb:PE X b tb)(hm:behindInMarks op b=false):PE X (.Compare a [op] [b] pos) (tOp r ta tb):=by
 intro pins s σ H Q I h
 exact wpAny_Compare1 (binT ha hb I h fun v u s2 x y H2 I2 rx ry q=>ho pins s2 σ H2 x y v u Q I2 rx ry q) hm
def tTest (t:TE):TT:=fun σ H Q=>t σ H fun x H'=>∃k,x=.bl k/\Q k H'
theorem pt_cmpR {op:CmpOp}{r:R2}(ho:OpR X (compareOp op) r)(ha:PE X a ta)(hb:PE X b tb)(hm:behindInMarks op b=false):PT X (.Compare a [op] [b] pos) (tTest (tOp r ta tb)):=by
 intro pins s σ H Q I h
 refine wpAny_isTrue_Compare1 (thn (ha pins s σ H _ I h) fun v s1 ⟨x,H1,I1,r1,q1⟩=>thn (hb pins s1 σ H1 _ I1 q1) fun u s2 ⟨y,H2,I2,r2,q2⟩=>
  thn (ho pins s2 σ H2 x y v u _ I2 r1 r2 q2) fun c s3 ⟨z,H3,I3,r3,k,e,q3⟩=>?_) hm
 subst e
 cases r3
 exact wpAny_truthy_bool ⟨H3,I3,q3⟩
def tChain (r r':R2)(ta tb tc:TE):TE:=fun σ H Q=>ta σ H fun x H1=>tb σ H1 fun y H2=>r x y H2 fun z H3=>∃k,z=.bl k/\
 (if k=true then tc σ H3 fun w' H4=>r' y w' H4 Q else Q (.bl false) H3)
theorem pe_chain {op op':CmpOp}{r r':R2}(ho:OpR X (compareOp op) r)(ho':OpR X (compareOp op') r')(ha:PE X a ta)(hb:PE X b tb)(hc:PE X c tc)(hm:lastMarks [op,op'] [b,c]=false:=by with_unfolding_all rfl):PE X (.Compare a [op,op'] [b,c] pos) (tChain r r' ta tb tc):=by
 intro pins s σ H Q I h
 refine Compare_chain (thn (ha pins s σ H _ I h) fun v s1 ⟨x,H1,I1,r1,q1⟩=>chain_link (thn (hb pins s1 σ H1 _ I1 q1) fun u s2 ⟨y,H2,I2,r2,q2⟩=>
  thn (ho pins s2 σ H2 x y v u _ I2 r1 r2 q2) fun d s3 ⟨z,H3,I3,r3,k,e,q3⟩=>?_)) hm
 subst e
 cases r3
 refine wpAny_truthy_bool ?_
 cases k with
 |false=>exact ite_ff ⟨.bl false,H3,I3,rfl,q3⟩
 |true=>exact ite_tt (chain_last (thn (hc pins s3 σ H3 _ I3 q3) fun w' s4 ⟨z',H4,I4,r4,q4⟩=>ho' pins s4 σ H4 y z' u w' Q I4 r2 r4 q4))
theorem pt_chain {op op':CmpOp}{r r':R2}(ho:OpR X (compareOp op) r)(ho':OpR X (compareOp op') r')(ha:PE X a ta)(hb:PE X b tb)(hc:PE X c tc)(hm:lastMarks [op,op'] [b,c]=false:=by with_unfolding_all rfl):PT X (.Compare a [op,op'] [b,c] pos) (tTest (tChain r r' ta tb tc)):=by
 intro pins s σ H Q I h
 refine isTrue_chain (thn (ha pins s σ H _ I h) fun v s1 ⟨x,H1,I1,r1,q1⟩=>test_link (thn (hb pins s1 σ H1 _ I1 q1) fun u s2 ⟨y,H2,I2,r2,q2⟩=>
  thn (ho pins s2 σ H2 x y v u _ I2 r1 r2 q2) fun d s3 ⟨z,H3,I3,r3,k,e,q3⟩=>?_)) hm
 subst e
 cases r3
 refine wpAny_truthy_bool ?_
 cases k with
 |false=>
  obtain⟨k',e',q'⟩:=q3
  cases e'
  exact ite_ff ⟨H3,I3,q'⟩
 |true=>
  refine ite_tt (test_last (thn (hc pins s3 σ H3 _ I3 q3) fun w' s4 ⟨z',H4,I4,r4,q4⟩=>thn (ho' pins s4 σ H4 y z' u w' _ I4 r2 r4 q4) fun d' s5 ⟨z2,H5,I5,r5,k2,e2,q5⟩=>?_))
  subst e2
  cases r5
  exact wpAny_truthy_bool ⟨H5,I5,q5⟩
def TruV (K:W.Frag)(x:V)(H:Hp)(k:Bool):Prop:=
 match x with
 | .non=>k=false
 | .bl b=>k=b
 | .int i=>k=(i !=0)
 | .str y=>y.length<=sizeLine/\k=((y.length:Int) !=0)
 | .byt y=>y.size<=sizeLine/\k=((y.size:Int) !=0)
 | .ref p=>(∃xs,SqL K H p xs/\k=!xs.isEmpty)\/(∃xs,SqT K H p xs/\k=!xs.isEmpty)\/∃kvs,H p=some (.dK kvs)/\k=!kvs.isEmpty
 |_=>False
theorem isEmpty_kv {κ:Type}{kvs:List (κ×V)}{vs:List (κ×Value)}(r:KV kvs vs):(!vs.isEmpty)=!kvs.isEmpty:=by
 cases r<;>rfl
theorem isEmpty_of {xs:List V}{its:List Value}(r:Vals xs its):(!its.toArray.isEmpty)=!xs.isEmpty:=by
 cases r<;>simp
theorem line63:(sizeLine:Nat)<2^63:=by rw[sizeLine_eq];decide
theorem tru_ok:TruR X (fun x H Q=>∃k,TruV X.K x H k/\Q k H):=by
 intro pins s σ H x v Q I rx h
 obtain⟨k,e,q⟩:=h
 have hl:=line63
 have hs:sizeLine=16777216:=sizeLine_eq
 cases x with
 |non=>
  cases rx
  have e':k=false:=e
  subst e'
  exact truthy_none ⟨H,I,q⟩
 |bl b=>
  cases rx
  have e':k=b:=e
  subst e'
  exact wpAny_truthy_bool ⟨H,I,q⟩
 |int i=>
  obtain⟨t,rfl⟩:=rx
  have e':k=(i !=0):=e
  subst e'
  exact PySem.P.truthy_int ⟨H,I,q⟩
 |str y=>
  obtain⟨t,rfl⟩:=rx
  obtain⟨hy,e'⟩:y.length<=sizeLine/\k=((y.length:Int) !=0):=e
  subst e'
  exact PySem.P.truthy_str (by omega) ⟨H,I.tok _,q⟩
 |byt y=>
  obtain⟨t,rfl⟩:=rx
  obtain⟨hy,e'⟩:y.size<=sizeLine/\k=((y.size:Int) !=0):=e
  subst e'
  exact PySem.W.truthy_bytes (by omega) ⟨H,I.tok _,q⟩
 |ref p=>
  cases rx
  have e':(∃xs,SqL X.K H p xs/\k=!xs.isEmpty)\/(∃xs,SqT X.K H p xs/\k=!xs.isEmpty)\/∃kvs,H p=some (.dK kvs)/\k=!kvs.isEmpty:=e
  rcases e' with⟨xs,hx,e'⟩ | ⟨xs,hx,e'⟩ | ⟨kvs,hx,e'⟩
  ·subst e'
   obtain⟨its,r,pl,hz⟩:=I.list hx
   have hlen:=r.length
   exact wpAny_truthy_list pl.isList (by simp only[size_toArray];omega) ⟨H,I.tok _,by rw[isEmpty_of r];exact q⟩
  ·subst e'
   obtain⟨its,r,pl,hz⟩:=I.tuple hx
   have hlen:=r.length
   exact truthy_tuple pl (by simp only[size_toArray];omega) ⟨H,I.tok _,by rw[isEmpty_of r];exact q⟩
  ·subst e'
   obtain⟨hz,hS,vs,r,m⟩:kvs.length<=sizeLine/\(p==sysModules)=false/\∃vs,KV kvs vs/\s.heap.DictOf (mixKind X.prog X.w) p vs:=I.hok p _ hx
   have hlen:kvs.length=vs.length:=Paired.length r
   exact wpAny_truthy_dict hS m (by omega) ⟨H,I.tok _,by rw[isEmpty_kv r];exact q⟩
 |_=>exact(show False from e).elim
theorem pt_truth (ha:PE X a ta)(he:∀whole,isTrue a X.env whole=(do let v <-whole;standAt a.pos;holding [v] (truthy v))) :
 PT X a (fun σ H Q=>ta σ H fun x H'=>∃k,TruV X.K x H' k/\Q k H'):=by
 intro pins s σ H Q I h
 exact isTrue_plain (thn (ha pins s σ H _ I h) fun v s1 ⟨x,H1,I1,r1,q1⟩=>tru_ok pins s1 σ H1 x v Q I1 r1 q1) (he _)
theorem op_add_str:OpR X (binaryOp .Add) (fun x y H Q=>∃i j,x=.str i/\y=.str j/\i.length+j.length<=sizeLine/\Q (.str (i++j)) H):=by
 intro pins s σ H x y v u Q I rx ry h
 obtain⟨i,j,rfl,rfl,hz,q⟩:=h
 obtain⟨t,rfl⟩:=rx
 obtain⟨t',rfl⟩:=ry
 exact add_str (fun t' tk=>⟨.str (i++j),H,I.tok _,⟨_,rfl⟩,q⟩) hz
def PlainIxT (b:Expr):Prop:=∀o i,subscripted b false o i=operate [o,i] (getItem o i)
theorem pe_item_str (ha:PE X a ta)(hb:PE X b tb)(hs:PlainIxT b) :
 PE X (.Subscript a b pos) (tOp (fun x y H Q=>∃z i c,x=.str z/\y=.int i/\0<=i/\i<2^63/\i<z.length/\z.cps[i.toNat]?=some c/\Q (.str ⟨#[c]⟩) H) ta tb):=by
 intro pins s σ H Q I h
 refine Subscript_ (binT ha hb I h fun v u s2 x y H2 I2 rx ry q=>?_)
 obtain⟨z,i,c,rfl,rfl,h0,h63,h1,hc,q⟩:=q
 obtain⟨t,rfl⟩:=rx
 obtain⟨t',rfl⟩:=ry
 have e:seqIndex? i z.length=some i.toNat:=PySem.StrLaws.seqIndex_nonneg h0 h1
 exact tail_any (typeIs_str s2 z t) slot_str_getitem.lookup (getItem_str (c:=c) (by
  have e1:decide (i < -(2^63:Int))=false:=decide_eq_false (by omega)
  have e2:decide (i>=2^63)=false:=decide_eq_false (by omega)
  rw[e1,e2]<;>rfl) (by rw[e];exact hc) ⟨.str ⟨#[c]⟩,H2,I2.tok _,⟨_,rfl⟩,q⟩) (hs _ _)
theorem vals1 {x:V}{us:List Value}(r:Vals [x] us):∃u,us=[u]/\RelV x u:=by
 cases r with
 |cons r1 r2=>cases r2;exact⟨_,rfl,r1⟩
theorem vals2 {x y:V}{us:List Value}(r:Vals [x,y] us):∃u w',us=[u,w']/\RelV x u/\RelV y w':=by
 cases r with
 |cons r1 r2=>
  cases r2 with
  |cons r3 r4=>cases r4;exact⟨_,_,rfl,r1,r3⟩
theorem call_max2 (hc:X.calm=true):CallR X (.builtin "max") (fun xs H Q=>∃i j,xs=[.int i,.int j]/\Q (.int (if j>i then j else i)) H):=by
 intro pins s σ H xs us Q I r h
 obtain⟨i,j,rfl,q⟩:=h
 obtain⟨u,w',rfl,⟨t,rfl⟩,⟨t',rfl⟩⟩:=vals2 r
 refine max_two_ints (I.ok.hd hc) fun h' tk k=>⟨_,H,I.kept k,?_,q⟩
 by_cases hj:j>i
 ·rw[if_pos hj,if_pos hj];exact⟨_,rfl⟩
 ·rw[if_neg hj,if_neg hj];exact⟨_,rfl⟩
theorem call_min2 (hc:X.calm=true):CallR X (.builtin "min") (fun xs H Q=>∃i j,xs=[.int i,.int j]/\Q (.int (if j<i then j else i)) H):=by
 intro pins s σ H xs us Q I r h
 obtain⟨i,j,rfl,q⟩:=h
 obtain⟨u,w',rfl,⟨t,rfl⟩,⟨t',rfl⟩⟩:=vals2 r
 refine min_two_ints (I.ok.hd hc) fun h' tk k=>⟨_,H,I.kept k,?_,q⟩
 by_cases hj:j<i
 ·rw[if_pos hj,if_pos hj];exact⟨_,rfl⟩
 ·rw[if_neg hj,if_neg hj];exact⟨_,rfl⟩
theorem call_int1:CallR X (.type "int") (fun xs H Q=>(∃i,xs=[.int i]/\Q (.int i) H)\/∃k,xs=[.bl k]/\Q (.int (if k then 1 else 0)) H):=by
 intro pins s σ H xs us Q I r h
 rcases h with⟨i,rfl,q⟩ | ⟨k,rfl,q⟩
 ·obtain⟨u,rfl,t,rfl⟩:=vals1 r
  exact call_int_int ⟨.int i,H,I,⟨_,rfl⟩,q⟩
 ·obtain⟨u,rfl,r1⟩:=vals1 r
  cases r1
  exact call_int_bool ⟨.int (if k then 1 else 0),H,I.tok _,⟨_,rfl⟩,q⟩
theorem call_str_int:CallR X (.type "str") (fun xs H Q=>∃i,xs=[.int i]/\i.natAbs.log2<1920/\Q (.str (toString i)) H):=by
 intro pins s σ H xs us Q I r h
 obtain⟨i,rfl,hz,q⟩:=h
 obtain⟨u,rfl,t,rfl⟩:=vals1 r
 exact PySem.P.str_of_int hz ⟨.str _,H,I.tok _,⟨_,rfl⟩,q⟩
end
structure ObjM (h:Heap)(x dx C:Addr)(mA:Str->Option Value):Prop where
 obj:h.get? x=some (instObj C dx)
 ns:h.Ns1 dx mA
 ne:dx≠x
theorem lookIn_ns {h:Heap}{dx:Addr}{mA:Str->Option Value}(n:h.Ns1 dx mA):∃od,h.get? dx=some od/\∀name,lookIn name od=some (mA name):=by
 obtain⟨o,es,ep,ho,hd,hk,_,hm⟩:=n
 refine⟨o,ho,fun name=>?_⟩
 have e:=hm name
 unfold nsFind findBy at e
 rw[<-Array.find?_toList]at e
 unfold lookIn
 rw[hd]
 dsimp only
 split
 ·rename_i y q
  rw[q]at e
  exact congrArg some e
 ·rename_i q
  rw[q]at e
  have a:es.toList.any (·.refKey)=false:=by
   rw[List.any_eq_false]
   intro y hy
   obtain⟨z,t,hkey⟩:=hk y (Array.mem_toList_iff.mp hy)
   simp[DictEntry.refKey,hkey]
  have a':¬es.toList.any (·.refKey)=true:=by rw[a];exact Bool.false_ne_true
  rw[if_neg a']
  exact congrArg some e
theorem ObjM.look {h:Heap}{x dx C:Addr}{mA:Str->Option Value}(I:ObjM h x dx C mA):∃od,PySem.W.InstAt h x (instObj C dx) C (some od)/\∀name,lookIn name od=some (mA name):=
 let⟨od,ho,hl⟩:=lookIn_ns I.ns
 ⟨od,⟨I.obj,rfl,rfl,ho⟩,hl⟩
section
variable {prog:Program}{w:World}{A:Around}{E:Value->Shared->Prop}{s:Shared}{K:W.Frag}{x dx C f:Addr}{mA:Str->Option Value}{name:Str}{v:Value}
theorem get_map {expr:Bool}{Q:Value->Shared->Prop}(X:K.In s.heap)(I:ObjM s.heap x dx C mA)(hg:plainGet K C name=true)(hh:hasDictIn K C=true)(ha:findIn K (.ref C) name=some none)(hv:mA name=some v)(hv':handedIn v=true)(h:Q v {s with toks:=s.toks+1}) :
 wpAny (model prog w) A (getAttr (.ref x) name expr) Q E s:=by
 obtain⟨od,J,hl⟩:=I.look
 exact PySem.W.get_value X J (plainGet_of hg).1 (PySem.W.findObj_own hh ha rfl (by rw[hl,hv])) hv' h
theorem get_meth {pl:Sem Bool}{Q:Value×List Value->Shared->Prop}(X:K.In s.heap)(I:ObjM s.heap x dx C mA)(hg:plainGet K C name=true)(hf:findIn K (.ref C) name=some (some (.ref f)))(ht:PySem.W.isFn K (.ref f)=true)(hv:mA name=none)(h:Q (.ref f,[.ref x]) s) :
 wpAny (model prog w) A (getMethod (.ref x) name pl) Q E s:=by
 obtain⟨od,J,hl⟩:=I.look
 exact PySem.W.method_fn X J (plainGet_of hg).1 (plainGet_of hg).2 hf (beq_iff_eq.mp ht) (by show(lookIn name od).map (·.isSome)=some false;rw[hl,hv];rfl) h
theorem set_map {ns:List Str}{Q:Unit->Shared->Prop}(X:K.In s.heap)(I:ObjM s.heap x dx C mA)(hs:findIn K (.ref C) "__setattr__" = some (some (.builtin "object.__setattr__")))(hp:plainOver K C=true)(ht:takerIn K C name=some none)(hh:hasDictIn K C=true)(hw:PySem.Within mA ns)(hsz:ns.length<=sizeLine)(h:∀h',ObjM h' x dx C (fun y=>if y=name then some v else mA y)->Heap.SameBut dx s.heap h'->Q () {s with heap:=h',toks:=s.toks+2}) :
 wpAny (model prog w) A (setAttr (.ref x) name v) Q E s:=by
 obtain⟨od,J,hl⟩:=I.look
 refine PySem.W.set_plain X J hs (PySem.W.osa_open (s:={s with toks:=s.toks+1}) (r:=none) X J hp ht fun b=>?_)
 obtain⟨cd,hc,hd'⟩:=PySem.W.any_some hh
 have hx:s.heap.get? x=some ⟨.ref C,some dx,.plain,#[]⟩:=I.obj
 refine wpAny_bind (wpAny_pure (wpAny_bind (wpAny_bind (wpAny_loadPart hx (wpAny_bind (Looks.here (s:={s with toks:=s.toks+1}) (PySem.W.looks_clsIn X hc) ?_))))))
 rw[hd']
 refine wpAny_pure (a:=some dx) (wpAny_bind (wpAny_pure (wpAny_bind ?_)))
 refine wpAny_nsSet1 (s:={s with toks:=s.toks+1}) I.ns fun h' hn2 hs2=>?_
 obtain⟨oD,esD,epD,hoD,hdD,hcD⟩:=hn2.count (PySem.Within.cons name v hw)
 refine wpAny_bind (wpAny_lookBehind hoD (by rw[hdD];exact pastItsLine_dict (le_trans hcD (by rw[length_cons];omega))) ?_)
 exact wpAny_pure (h _ ⟨(hs2.2 _ (Ne.symm I.ne)).trans I.obj,hn2,I.ne⟩ hs2)
theorem make_map {R:Result->Shared->Prop}{vs:List Value}{kw:List (Str×Value)}(X:K.In s.heap)(hm:makesIn K C=true)(hi:findIn K (.ref C) "__init__" = some (some (.ref f)))(hf:typeIn K (.ref f)=some (.type "function"))(h:codeAny (model prog w) (A.under (.builtin "type.__call__" ⟨.ref C::vs,kw⟩)) (.call (.ref f) ⟨.ref (s.heap.objs.size+1)::vs,kw⟩) (PySem.W.InitBack (s.heap.objs.size+1) R)
  {s with heap:=(s.heap.push emptyDict).push (instObj C s.heap.objs.size)}) :
 codeAny (model prog w) A (.call (.ref C) ⟨vs,kw⟩) R s:=by
 obtain⟨hh,g,d,t,os⟩:=s
 exact PySem.W.make_core (PySem.W.makes_of X hm) (looks_findIn X hi) (fun self=>PySem.W.bind_fn X self hf) (.inl rfl) h
end
def putF (f:Str)(v:V):List (Str×V)->List (Str×V)
 |[]=>[(f,v)]
 |(g,x)::r=>if g=f then(g,v)::r else(g,x)::putF f v r
theorem lookup_putF (f g:Str)(v:V):∀fs:List (Str×V),(putF f v fs).lookup g=if g=f then some v else fs.lookup g
 |[]=>by
  show List.lookup g [(f,v)]=_
  by_cases h:g=f
  ·have hb:(g==f)=true:=beq_iff_eq.mpr h
   simp only[List.lookup,hb,if_pos h]
  ·have hb:(g==f)=false:=beq_eq_false_iff_ne.mpr h
   simp only[List.lookup,hb,if_neg h]
 |(k,x)::r=>by
  have ih:=lookup_putF f g v r
  rw[show putF f v ((k,x)::r)=(if k=f then(k,v)::r else(k,x)::putF f v r) from rfl]
  by_cases hk:k=f
  ·rw[if_pos hk]
   by_cases h:g=k
   ·have hb:(g==k)=true:=beq_iff_eq.mpr h
    simp only[List.lookup,hb,if_pos (h.trans hk)]
   ·have hb:(g==k)=false:=beq_eq_false_iff_ne.mpr h
    simp only[List.lookup,hb,if_neg (fun e:g=f=>h (e.trans hk.symm))]
  ·rw[if_neg hk]
   by_cases h:g=k
   ·have hb:(g==k)=true:=beq_iff_eq.mpr h
    simp only[List.lookup,hb,if_neg (fun e:g=f=>hk (h.symm.trans e))]
   ·have hb:(g==k)=false:=beq_eq_false_iff_ne.mpr h
    simp only[List.lookup,hb]
    exact ih
theorem keys_putF (f:Str)(v:V):∀fs:List (Str×V),f∈(putF f v fs).map (·.1)/\∀g,g∈fs.map (·.1)->g∈(putF f v fs).map (·.1)
 |[]=>⟨by simp[putF],fun g h=>by simp at h⟩
 |(k,x)::r=>by
  obtain⟨i1,i2⟩:=keys_putF f v r
  rw[show putF f v ((k,x)::r)=(if k=f then(k,v)::r else(k,x)::putF f v r) from rfl]
  by_cases hk:k=f
  ·rw[if_pos hk]
   subst hk
   exact⟨by simp,fun g h=>by simpa using h⟩
  ·rw[if_neg hk]
   refine⟨?_,fun g h=>?_⟩
   ·rw[map_cons]
    exact mem_cons_of_mem _ i1
   ·rw[map_cons]at h ⊢
    rcases mem_cons.mp h with e | e
    ·exact mem_cons.mpr (.inl e)
    ·exact mem_cons_of_mem _ (i2 g e)
theorem length_putF (f:Str)(v:V):∀fs:List (Str×V),(putF f v fs).length<=fs.length+1
 |[]=>by simp[putF]
 |(k,x)::r=>by
  have ih:=length_putF f v r
  rw[show putF f v ((k,x)::r)=(if k=f then(k,v)::r else(k,x)::putF f v r) from rfl]
  by_cases hk:k=f
  ·rw[if_pos hk,length_cons,length_cons];omega
  ·rw[if_neg hk,length_cons,length_cons];omega
theorem RelO.some_of {v:V}{o:Option Value}(r:RelO (some v) o):∃u,o=some u/\RelV v u:=by
 cases o with
 |none=>exact(show False from r).elim
 |some u=>exact⟨u,rfl,r⟩
theorem RelO.none_of {o:Option Value}(r:RelO none o):o=none:=by
 cases o with
 |none=>rfl
 |some u=>exact(show False from r).elim
theorem handed_of {v:V}{u:Value}(r:RelV v u):handedIn u=true:=by
 cases v with
 |non=>cases(show u=Value.none from r);rfl
 |bl b=>cases(show u=Value.bool b from r);rfl
 |int i=>obtain⟨t,e⟩:=(show ∃t,u=Value.int i t from r);cases e;rfl
 |str x=>obtain⟨t,e⟩:=(show ∃t,u=Value.str x t from r);cases e;rfl
 |byt b=>obtain⟨t,e⟩:=(show ∃t,u=Value.bytes b t from r);cases e;rfl
 |flt b=>obtain⟨t,e⟩:=(show ∃t,u=Value.float b t from r);cases e;rfl
 |ref a=>cases(show u=Value.ref a from r);rfl
 |ty n=>cases(show u=Value.type n from r);rfl
section
variable {P:Program}{w:World}{H H':Hp}{h h':Heap}{a C dx:Addr}{fs fs':List (Str×V)}
theorem ins_get (hok:HOk P w H h)(e:H a=some (.ins C dx fs)):∃mA,ObjM h a dx C mA/\(∀f,RelO (fs.lookup f) (mA f))/\PySem.Within mA (fs.map (·.1))/\fs.length<=1000/\H dx=some (.own a):=by
 obtain⟨d,z,ne,ob,mA,n,r,q⟩:=(show ObjOk P w H h a (.ins C dx fs) from hok a _ e)
 exact⟨mA,⟨ob,n,ne⟩,r,q,z,d⟩
end
structure Cls (K:W.Frag)(C:Addr):Prop where
 pg:plainGet K C Str.empty=true
 hd:hasDictIn K C=true
 po:plainOver K C=true
 sa:findIn K (.ref C) "__setattr__" = some (some (.builtin "object.__setattr__"))
theorem Cls.get {K:W.Frag}{C:Addr}(c:Cls K C)(f:Str):plainGet K C f=true:=c.pg
def NoAttr (K:W.Frag)(C:Addr)(f:Str):Prop:=findIn K (.ref C) f=some none
theorem NoAttr.taker {K:W.Frag}{C:Addr}{f:Str}(n:NoAttr K C f):takerIn K C f=some none:=by
 unfold takerIn
 rw[show findIn K (.ref C) f=some none from n]
 rfl
structure Con (K:W.Frag)(C:Addr)(f:Str)(v:V)(u:Value):Prop where
 at_:findIn K (.ref C) f=some (some u)
 rel:RelV v u
 get:specialIn K u "__get__" = some none
 cp:PySem.W.copiedNames.contains f=false
structure Meth (K:W.Frag)(C:Addr)(m:Str)(f:Addr):Prop where
 at_:findIn K (.ref C) m=some (some (.ref f))
 fn:PySem.W.isFn K (.ref f)=true
 kp:keepIn K (.ref f)=true
section
variable {X:Cx}{pins:List (Addr×Obj)}{σ:St}{H:Hp}{s:Shared}{a C dx:Addr}{fs:List (Str×V)}{f:Str}{v:V}{A:Around}{E:Value->Shared->Prop}
theorem getattr_ok {b:Bool}{Q:Value->Shared->Prop}(I:Inv X pins σ H s)(e:H a=some (.ins C dx fs))(c:Cls X.K C)(n:NoAttr X.K C f)(l:fs.lookup f=some v)(h:∀u s',Inv X pins σ H s'->RelV v u->Q u s'):wpAny (model X.prog X.w) A (getAttr (.ref a) f b) Q E s:=by
 obtain⟨mA,O,r,_,_,_⟩:=ins_get I.hok e
 obtain⟨u,hu,ru⟩:=RelO.some_of (v:=v) (o:=mA f) (by rw[<-l];exact r f)
 exact get_map I.kIn O (c.get f) c.hd n hu (handed_of ru) (h u _ (I.tok _) ru)
theorem getmeth_ok {m:Str}{g:Addr}{pl:Sem Bool}{Q:Value×List Value->Shared->Prop}(I:Inv X pins σ H s)(e:H a=some (.ins C dx fs))(c:Cls X.K C)(k:Meth X.K C m g)(l:fs.lookup m=none)(h:Q (.ref g,[.ref a]) s):wpAny (model X.prog X.w) A (getMethod (.ref a) m pl) Q E s:=by
 obtain⟨mA,O,r,_,_,_⟩:=ins_get I.hok e
 have hn:mA m=none:=RelO.none_of (by rw[<-l];exact r m)
 exact get_meth I.kIn O (c.get m) k.at_ k.fn hn h
theorem setattr_ok {y:V}{u:Value}{Q:Unit->Shared->Prop}(I:Inv X pins σ H s)(e:H a=some (.ins C dx fs))(c:Cls X.K C)(n:NoAttr X.K C f)(hl:fs.length<1000)(ry:RelV y u)(h:∀s',Inv X pins σ (upd H a (.ins C dx (putF f y fs))) s'->Q () s'):wpAny (model X.prog X.w) A (setAttr (.ref a) f u) Q E s:=by
 obtain⟨mA,O,r,wi,_,ho⟩:=ins_get I.hok e
 have hz:(fs.map (·.1)).length<=sizeLine:=by rw[length_map,sizeLine_eq];omega
 refine set_map I.kIn O c.sa c.po n.taker c.hd wi hz fun h' O' sb=>h _ ?_
 have hd:∃o,h'.get? dx=some o:=let⟨o,_,_,e',_⟩:=O'.ns;⟨o,e'⟩
 refine I.write (x:=a) (e:=dx) (by rw[e];exact True.intro) (.inr ho) (fun b q hb z=>(sb.2 b hb).trans z) hd ?_
 refine⟨by rw[upd_ne O.ne];exact ho,?_,O.ne,O'.obj,_,O'.ns,fun g=>?_,fun g hg=>?_⟩
 ·have:=length_putF f y fs;omega
 ·show RelO ((putF f y fs).lookup g) (if g=f then some u else mA g)
  rw[lookup_putF]
  by_cases q:g=f
  ·rw[if_pos q,if_pos q];exact ry
  ·rw[if_neg q,if_neg q];exact r g
 ·by_cases q:g=f
  ·rw[q];exact(keys_putF f y fs).1
  ·refine(keys_putF f y fs).2 g (wi g fun z=>hg ?_)
   show(if g=f then some u else mA g)=none
   rw[if_neg q];exact z
theorem Inv.made (I:Inv X pins σ H s):Inv X pins σ (upd (upd H s.heap.objs.size (.own (s.heap.objs.size+1))) (s.heap.objs.size+1) (.ins C s.heap.objs.size []))
 {s with heap:=(s.heap.push emptyDict).push (instObj C s.heap.objs.size)}:=by
 have e1:(s.heap.push emptyDict).get? s.heap.objs.size=some emptyDict:=get?_push_size s.heap rfl
 have e2:((s.heap.push emptyDict).push (instObj C s.heap.objs.size)).get? (s.heap.objs.size+1)=some (instObj C s.heap.objs.size):=by
  have:=get?_push_size (s.heap.push emptyDict) (o:=instObj C s.heap.objs.size) rfl
  rwa [size_push]at this
 have e3:(s.heap.push emptyDict).Ns s.heap.objs.size (fun _=>none):=⟨emptyDict,#[],_,e1,rfl,(fun e he=>absurd he (by simp)),fun _=>rfl⟩
 have I1:=I.laid (a:=s.heap.objs.size) (o:=.own (s.heap.objs.size+1)) (h':=s.heap.push emptyDict) (t':=s.toks) (fun b u q=>get?_push_of_some _ q) (Nat.le_refl _) ⟨_,e1⟩
 refine I1.laid (a:=s.heap.objs.size+1) (o:=.ins C s.heap.objs.size []) (t':=s.toks) (fun b u q=>get?_push_of_some _ q) (Nat.le_of_eq (size_push _ _)) ?_
 have ne:s.heap.objs.size≠s.heap.objs.size+1:=ne_of_lt (lt_succ_self _)
 refine⟨by rw[upd_ne ne,upd_same],zero_le _,ne,e2,fun _=>none,(Heap.Ns1.of_empty e3).at fun o q=>get?_push_of_some _ q,fun _=>True.intro,fun y hy=>absurd rfl hy⟩
theorem attr_of {prog:Program}{w:World}{env:Env}{e:Expr}{f:Str}{pos:Pos}{s:Shared}{Q:Value->Shared->Prop}(hb:attributeBase e f env (eval e env)=eval e env)(h:wpAny (model prog w) A (eval e env) (fun o s₁=>wpAny (model prog w) A (getAttr o f true) Q E s₁) E s):wpAny (model prog w) A (eval (.Attribute e f pos) env) Q E s:=
 Attribute_any_ h (by rw[arm_eval_Attribute,hb])
end
def tFld (K:W.Frag)(ta:TE)(f:Str):TE:=fun σ H Q=>ta σ H fun x H1=>∃a C dx fs v,x=.ref a/\H1 a=some (.ins C dx fs)/\Cls K C/\NoAttr K C f/\fs.lookup f=some v/\Q v H1
def sFld (K:W.Frag)(ta tv:TE)(f:Str):TS:=fun D σ H=>tv σ H fun y H1=>ta σ H1 fun x H2=>∃a C dx fs,x=.ref a/\H2 a=some (.ins C dx fs)/\Cls K C/\NoAttr K C f/\fs.length<1000/\
 D.nx σ (upd H2 a (.ins C dx (putF f y fs)))
section
variable {X:Cx}{o e value:Expr}{f:Str}{pos pos' tpos:Pos}{ta tv:TE}
theorem pe_fld (he:PE X e ta)(hb:attributeBase e f X.env (eval e X.env)=eval e X.env):PE X (.Attribute e f pos) (tFld X.K ta f):=by
 intro pins s σ H Q I h
 refine attr_of hb (thn (he pins s σ H _ I h) fun u s1 ⟨x,H1,I1,rx,a,C,dx,fs,v,ex,ea,c,n,l,q⟩=>?_)
 subst ex
 obtain rfl:u=Value.ref a:=rx
 exact getattr_ok I1 ea c n l fun u' s2 I2 ru=>⟨v,H1,I2,ru,q⟩
theorem ps_fld (ha:PE X o ta)(hv:PE X value tv)(hs:swapsWith value (some (.Attribute o f pos')) pos.line X.env=pure false):PS X (.Assign [.Attribute o f pos'] value pos) (sFld X.K ta tv f):=by
 intro pins s σ H D I h
 refine plainObj_wpAny_Assign_Attribute (thn (hv pins s σ H _ I h) fun u s1 ⟨y,H1,I1,ry,q⟩=>thn (ha pins s1 σ H1 _ I1 q) fun ov s2 ⟨x,H2,I2,rx,a,C,dx,fs,ex,ea,c,n,l,q2⟩=>?_) hs
 subst ex
 obtain rfl:ov=Value.ref a:=rx
 exact setattr_ok I2 ea c n l ry fun s3 I3=>⟨σ,_,I3,q2⟩
end
section
variable {X:Cx}{pins:List (Addr×Obj)}{σ:St}{H:Hp}{s:Shared}{A:Around}{E:Value->Shared->Prop}{Q:Value->Shared->Prop}{c:Value}{b:Bool}
inductive TyOf (K:W.Frag)(H:Hp):V->Value->Prop where
 |non:TyOf K H .non (.type "NoneType")
 |bl (x:Bool):TyOf K H (.bl x) (.type "bool")
 |int (i:Int):TyOf K H (.int i) (.type "int")
 |str (x:Str):TyOf K H (.str x) (.type "str")
 |flt (x:UInt64):TyOf K H (.flt x) (.type "float")
 |lst {a:Addr} {xs:List V} (e:H a=some (.lst xs)):TyOf K H (.ref a) (.type "list")
 |frz {a:Addr} {o:Obj} {xs:List V} (e:H a=some (.frz o (.lst xs))):TyOf K H (.ref a) (.type "list")
 |tup {a:Addr} {xs:List V} (e:H a=some (.tup xs)):TyOf K H (.ref a) (.type "tuple")
 |dK {a:Addr} {kvs:List (Key×V)} (e:H a=some (.dK kvs)):TyOf K H (.ref a) (.type "dict")
 |dT {a:Addr} {kvs:List (List Key×V)} (e:H a=some (.dT kvs)):TyOf K H (.ref a) (.type "dict")
 |ins {a C dx:Addr} {fs:List (Str×V)} (e:H a=some (.ins C dx fs)) (cl:Cls K C) (ha:findIn K (.ref C) "__class__" = some (some (.builtin "object.__class__")))
  (hn:specialIn K (.builtin "object.__class__") "__get__" = some (some (.builtin "getset_descriptor.__get__"))) (htk:PySem.W.takesIn K (.builtin "object.__class__")=some true)
  (hm:mroIn K C (.type "object")=some true):TyOf K H (.ref a) (.ref C)
theorem isinst_ok {x:V}{u t:Value}(I:Inv X pins σ H s)(rx:RelV x u)(ty:TyOf X.K H x t)(e:kitOne X.K t c=some b)(h:∀tk,Q (.bool b) {s with toks:=tk}) :
 wpAny (model X.prog X.w) A (call (.builtin "isinstance") [u,c]) Q E s:=by
 cases ty with
 |non=>cases(show u=Value.none from rx);exact kia_one PySem.W.kitx_none I.kIn True.intro e (fun z=>nomatch z) h
 |bl y=>cases(show u=Value.bool y from rx);exact kia_one PySem.W.kitx_bool I.kIn True.intro e (fun z=>nomatch z) h
 |int i=>obtain⟨t,q⟩:=(show ∃t,u=Value.int i t from rx);cases q;exact kia_one PySem.W.kitx_int I.kIn True.intro e (fun z=>nomatch z) h
 |str y=>obtain⟨t,q⟩:=(show ∃t,u=Value.str y t from rx);cases q;exact kia_one PySem.W.kitx_str I.kIn True.intro e (fun z=>nomatch z) h
 |flt y=>obtain⟨t,q⟩:=(show ∃t,u=Value.float y t from rx);cases q;exact kia_one PySem.W.kitx_float I.kIn True.intro e (fun z=>nomatch z) h
 | @lst a xs ea=>
   cases(show u=Value.ref a from rx)
   obtain⟨_,_,n,_,h1⟩:=(show ObjOk X.prog X.w H s.heap a (.lst xs) from I.hok a _ ea)
   exact kia_one kitx_list I.kIn ⟨_,h1,rfl⟩ e (fun z=>nomatch z) h
 | @frz a ob xs ea=>
   cases(show u=Value.ref a from rx)
   obtain⟨_,_,_,n,_,h1⟩:=(show ObjOk X.prog X.w H s.heap a (.frz ob (.lst xs)) from I.hok a _ ea)
   exact kia_one kitx_list I.kIn ⟨_,h1,rfl⟩ e (fun z=>nomatch z) h
 | @tup a xs ea=>
   cases(show u=Value.ref a from rx)
   obtain⟨_,_,_,p⟩:=(show ObjOk X.prog X.w H s.heap a (.tup xs) from I.hok a _ ea)
   obtain⟨o,h1,h2,_⟩:=p
   exact kia_one PySem.W.kitx_tuple I.kIn ⟨o,h1,h2⟩ e (fun z=>nomatch z) h
 | @dK a kvs ea=>
   cases(show u=Value.ref a from rx)
   obtain⟨_,_,vs,_,p⟩:=(show ObjOk X.prog X.w H s.heap a (.dK kvs) from I.hok a _ ea)
   obtain⟨o,es,ep,h1,h2,_⟩:=p
   exact kia_one kitx_dict I.kIn ⟨o,h1,h2.1⟩ e (fun z=>nomatch z) h
 | @dT a kvs ea=>
   cases(show u=Value.ref a from rx)
   obtain⟨_,_,xs,_,o,es,ep,h1,h2,_⟩:=(show ObjOk X.prog X.w H s.heap a (.dT kvs) from I.hok a _ ea)
   exact kia_one kitx_dict I.kIn ⟨o,h1,h2.1⟩ e (fun z=>nomatch z) h
 | @ins a C dx fs ea cl ha hn htk hm=>
   cases(show u=Value.ref a from rx)
   obtain⟨mA,O,_⟩:=ins_get I.hok ea
   obtain⟨od,J,_⟩:=O.look
   exact kia_one (PySem.W.kitx_own (cl.get _) cl.hd ha hn htk hm) I.kIn J e (fun z=>nomatch z) h
end
structure Room (k:Nat)(A:Around):Prop where
 hd:A.handled=none
 dp:A.depth+3*k+5<recursionLimit
 un:A.units+16*k+200<cLine
theorem Room.mono {j k:Nat}{A:Around}(r:Room k A)(h:j<=k):Room j A:=⟨r.hd,by have:=r.dp;omega,by have:=r.un;omega⟩
theorem Room.deeper {k:Nat}{A:Around}(r:Room (k+1) A)(env:Env):Room k (A.deeper env):=
 ⟨r.hd,by have:=r.dp;show A.depth+1+3*k+5<_;omega,by have:=r.un;show A.units+3+16*k+200<_;omega⟩
theorem make_depth {A:Around}{C:Addr}{us:List Value}{kw:List (Str×Value)}:(A.under (.builtin "type.__call__" ⟨.ref C::us,kw⟩)).depth=A.depth+1:=by
 first | rfl | simp[Around.under,Code.weight,Code.isCreation,Code.isGuard,Code.isCaller,Code.frames,Code.isFrame,guardIds]
theorem make_units {A:Around}{C:Addr}{us:List Value}{kw:List (Str×Value)}:(A.under (.builtin "type.__call__" ⟨.ref C::us,kw⟩)).units=A.units+1:=by
 first | rfl | simp[Around.under,Code.cUnits,Code.frames,Code.isFrame]
theorem Room.make {k:Nat}{A:Around}(r:Room (k+1) A)(C:Addr)(us:List Value)(kw:List (Str×Value)):Room k (A.under (.builtin "type.__call__" ⟨.ref C::us,kw⟩)):=
 ⟨r.hd,by have:=r.dp;rw[make_depth];omega,by have:=r.un;rw[make_units];omega⟩
theorem Room.depth {k:Nat}{A:Around}(r:Room k A):A.depth<recursionLimit:=by have:=r.dp;omega
theorem Room.units {k:Nat}{A:Around}(r:Room k A):A.units+64<cLine:=by have:=r.un;omega
theorem Room.units0 {k:Nat}{A:Around}(r:Room k A):A.units<cLine:=by have:=r.un;omega
def tNil:TA:=fun _ H Q=>Q [] H
def tCons (ta:TE)(tr:TA):TA:=fun σ H Q=>ta σ H fun x H1=>tr σ H1 fun xs H2=>Q (x::xs) H2
section
variable {X:Cx}{e:Expr}{es:List Expr}{te:TE}{t:TA}{pos:Pos}
theorem pa_nil:PA X [] tNil:=fun _ _ _ _ H Q I h=>Calls.spliced_nil ⟨[],H,I,.nil,h⟩
theorem pa_cons (ha:PE X e te)(hr:PA X es t)(hs:starEach (e::es) X.env=(false,eval e X.env)::starEach es X.env:=by rfl):PA X (e::es) (tCons te t):=by
 intro pos pins s σ H Q I h
 rw[hs]
 show wpAny _ _ (spliced ((false,eval e X.env)::backTo pos (starEach es X.env))) _ _ s
 refine Calls.spliced_cons (thn (ha pins s σ H _ I h) fun u s1 ⟨x,H1,I1,r1,q1⟩=>?_)
 exact thn (hr pos pins s1 σ H1 _ I1 q1) fun us s2 ⟨xs,H2,I2,r2,q2⟩=>⟨x::xs,H2,I2,.cons r1 r2,q2⟩
def tTup (t:TA):TE:=fun σ H Q=>t σ H fun xs H1=>xs.length<=sizeLine/\∀p,H1 p=none->Q (.ref p) (upd H1 p (.tup xs))
def tLst (t:TA):TE:=fun σ H Q=>t σ H fun xs H1=>xs.length<=sizeLine/\∀p,H1 p=none->Q (.ref p) (upd H1 p (.lst xs))
theorem pe_tup {x1}(h:PA X es t):PE X (.Tuple es x1 pos) (tTup t):=by
 intro pins s σ H Q I hq
 refine wpAny_Tuple_spliced (thn (h pos pins s σ H _ I hq) fun us s1 ⟨xs,H1,I1,r,z,q⟩=>⟨by rw[<-r.length];exact z,?_⟩)
 have hf:H1 s1.heap.objs.size=none:=I1.hok.fresh (Nat.le_refl _)
 refine⟨.ref s1.heap.objs.size,upd H1 s1.heap.objs.size (.tup xs),I1.laid (t':=s1.toks) (fun b u e=>get?_push_of_some _ e) (Nat.le_refl _) ?_,rfl,q _ hf⟩
 exact⟨z,us,r,⟨_,get?_push_size _ rfl,rfl,_,rfl⟩⟩
theorem pe_lst (h:PA X es t):PE X (.List es pos) (tLst t):=by
 intro pins s σ H Q I hq
 refine wpAny_List_spliced (thn (h pos pins s σ H _ I hq) fun us s1 ⟨xs,H1,I1,r,z,q⟩=>⟨by rw[<-r.length];exact z,?_⟩)
 have hf:H1 s1.heap.objs.size=none:=I1.hok.fresh (Nat.le_refl _)
 refine⟨.ref s1.heap.objs.size,upd H1 s1.heap.objs.size (.lst xs),I1.laid (t':=s1.toks) (fun b u e=>get?_push_of_some _ e) (Nat.le_refl _) ?_,rfl,q _ hf⟩
 exact⟨z,us,0,r,get?_push_size _ rfl⟩
end
abbrev Sp:=List V->Hp->VK->XK->Prop
abbrev CXT:=List Env->Hp->Shared->XK->Value->Shared->Prop
structure Env0 (P:Program)(w:World)(K:W.Frag)(mg:Str->Option Value)(base:Heap)(A:Around)(outer:List Env)(s:Shared)(H:Hp):Prop where
 frames:A.frames=some outer
 mod:Mod K mg base
 bs:∀b o,base.get? b=some o->s.heap.get? b=some o/\H b=none
 bsz:base.objs.size<=s.heap.objs.size
 funs:s.heap.FunFrames base outer
 frf:∀b∈frs outer,H b=none
 hok:HOk P w H s.heap
 bare:AllBare s.gens
def CE (outer:List Env)(P:Program)(w:World)(H:Hp)(s:Shared)(Q:VK)(u:Value)(s':Shared):Prop:=
 ∃v H',s'.os=s.os/\AllBare s'.gens/\Un (frs outer) [] H H' s.heap s'.heap/\HOk P w H' s'.heap/\RelV v u/\Q v H'
def CR (CX:CXT)(outer:List Env)(P:Program)(w:World)(H:Hp)(s:Shared)(Q:VK)(E:XK)(r:Result)(s':Shared):Prop:=
 match r with
 | .ok (.ret u)=>CE outer P w H s Q u s'
 | .ok _=>False
 | .error e=>CX outer H s E e s'
structure FnOk (P:Program)(w:World)(K:W.Frag)(mg:Str->Option Value)(base:Heap)(CX:CXT)(k:Nat)(f:Addr)(fd:FuncData)(ps:List Str)(sp:Sp):Prop where
 len:∀vs H Q E,sp vs H Q E->vs.length=ps.length
 run:∀(A:Around) (outer:List Env) (s:Shared) (H:Hp) (args:Args) (us:List Value) (vs:List V) (Q:VK) (E:XK),Room k A->Env0 P w K mg base A outer s H->BindsTo s fd args (ps.zip us)->Vals vs us->sp vs H Q E->
  codeAny (model P w) A (.call (.ref f) args) (CR CX outer P w H s Q E) s
theorem FnOk.imp {P:Program}{w:World}{K:W.Frag}{mg:Str->Option Value}{base:Heap}{CX:CXT}{k:Nat}{f:Addr}{fd:FuncData}{ps:List Str}{sp sp':Sp}(F:FnOk P w K mg base CX k f fd ps sp)(h:∀vs H Q E,sp' vs H Q E->sp vs H Q E):FnOk P w K mg base CX k f fd ps sp':=
 ⟨fun vs H Q E q=>F.len vs H Q E (h _ _ _ _ q),fun A outer s H args us vs Q E hr he hb hv hs=>F.run A outer s H args us vs Q E hr he hb hv (h _ _ _ _ hs)⟩
theorem Env0.make {P:Program}{w:World}{K:W.Frag}{mg:Str->Option Value}{base:Heap}{A:Around}{outer:List Env}{s:Shared}{H:Hp}(e:Env0 P w K mg base A outer s H)(C:Addr)(us:List Value)(kw:List (Str×Value)) :
 Env0 P w K mg base (A.under (.builtin "type.__call__" ⟨.ref C::us,kw⟩)) outer s H:=⟨by first | exact e.frames | (simpa[Around.under,Code.envs,Code.isFrame,pushEnvs]using e.frames),e.mod,e.bs,e.bsz,e.funs,e.frf,e.hok,e.bare⟩
section
variable {X:Cx}{pins:List (Addr×Obj)}{σ:St}{H:Hp}{s s':Shared}
theorem Inv.env0 (I:Inv X pins σ H s):Env0 X.prog X.w X.K X.mg X.base X.A X.stack s H:=
 ⟨I.ok.frames,I.ok.mod,I.bs,le_trans I.ok.bsz I.sz,I.stack,I.stkFree,I.hok,I.bare⟩
theorem Inv.after {Q:VK}{u:Value}(I:Inv X pins σ H s)(h:CE X.stack X.prog X.w H s Q u s'):EP X pins σ Q u s':=by
 obtain⟨v,H',os,bare,un,hok,r,q⟩:=h
 obtain⟨hh,g,d,t,os'⟩:=s'
 obtain rfl:os'=s.os:=os
 exact⟨v,H',I.call (h':=hh) (g':=g) (d':=d) (t':=t) (ch:=[]) un hok bare (fun b z=>absurd z (by simp)),r,q⟩
end
def tCall (sp:Sp)(dvs:List V)(E:XK)(t:TA):TE:=fun σ H Q=>t σ H fun vs H1=>sp (vs++dvs) H1 Q E
def tMeth (C:Addr)(m:Str)(sp:Sp)(dvs:List V)(E:XK)(ta:TE)(t:TA):TE:=fun σ H Q=>ta σ H fun x H1=>∃a dx fs,x=.ref a/\H1 a=some (.ins C dx fs)/\fs.lookup m=none/\
 t σ H1 fun vs H2=>sp (x::(vs++dvs)) H2 Q E
def tMake (C:Addr)(sp:Sp)(dvs:List V)(E:XK)(t:TA):TE:=fun σ H Q=>t σ H fun vs H1=>∀x dx,H1 x=none->H1 dx=none->dx≠x->
 sp (.ref x::(vs++dvs)) (upd (upd H1 dx (.own x)) x (.ins C dx [])) (fun v H2=>v=.non/\Q (.ref x) H2) E
def Binds (K:W.Frag)(fd:FuncData)(ps:List Str)(ds:List Value):Prop:=
 ∀(s:Shared) (us:List Value),K.In s.heap->(us++ds).length=ps.length->BindsTo s fd ⟨us,[]⟩ (ps.zip (us++ds))
theorem Binds.all {K:W.Frag}{fd:FuncData}{ps:List Str}(h:∀us:List Value,us.length=ps.length->bindArgs fd ⟨us,[]⟩=pure (ps.zip us)):Binds K fd ps []:=fun s us _ hl=>by
 rw[append_nil]at hl ⊢
 exact .of_eq (h us hl)
def Passes (CX:CXT)(X:Cx)(E:XK):Prop:=∀(pins:List (Addr×Obj)) (σ:St) (H:Hp) (s:Shared) (e:Value) (s':Shared),Inv X pins σ H s->CX X.stack H s E e s'->X.xe e s'
section
variable {X:Cx}{CX:CXT}{k:Nat}{f C:Addr}{fd:FuncData}{ps:List Str}{sp:Sp}{dvs:List V}{ds:List Value}{E:XK}{x m:Str}{p pos apos:Pos}{e o:Expr}{es:List Expr}{ta:TE}{t:TA}
theorem run_fn {pins:List (Addr×Obj)}{σ:St}{H:Hp}{s:Shared}{Q:VK}{us:List Value}{vs:List V}(F:FnOk X.prog X.w X.K X.mg X.base CX k f fd ps sp)(hr:Room k X.A)(hb:Binds X.K fd ps ds)(hd:Vals dvs ds)(hx:Passes CX X E)(I:Inv X pins σ H s)(r:Vals vs us)(h:sp (vs++dvs) H Q E):wpAny (model X.prog X.w) X.A (call (.ref f) us) (EP X pins σ Q) X.xe s:=by
 have r2:Vals (vs++dvs) (us++ds):=r.append hd
 have hl:(us++ds).length=ps.length:=by rw[<-r2.length];exact F.len _ _ _ _ h
 refine wpAny_call (codeAny_mono (F.run X.A X.stack s H ⟨us,[]⟩ (us++ds) (vs++dvs) Q E hr I.env0 (hb s us I.kIn hl) r2 h) fun r s' hq=>?_)
 cases r with
 |error e=>exact hx pins σ H s e s' I hq
 |ok fl=>
  cases fl with
  |ret u=>exact I.after hq
  |next=>exact False.elim hq
  |brk=>exact False.elim hq
  |cont=>exact False.elim hq
theorem pe_call (F:FnOk X.prog X.w X.K X.mg X.base CX k f fd ps sp)(hr:Room k X.A)(hg:Gl X x)(hm:X.mg x=some (.ref f))(hk:keepIn X.K (.ref f)=true)(hb:Binds X.K fd ps ds)(hd:Vals dvs ds)(hx:Passes CX X E)(ha:PA X (e::es) t)(hdb:(x==("__debug__" : Str))=false:=by decide)(he:starEach (e::es) X.env=(false,eval e X.env)::starEach es X.env:=by rfl)(hpl:(backTo pos (starEach es X.env)).any (·.1)=false:=by rfl) :
 PE X (.Call (.Name x p) (e::es) [] pos) (tCall sp dvs E t):=by
 intro pins s σ H Q I h
 refine wpAny_Call_Name_kw (ld_glob I hg hm ?_ hdb)
 refine callWith_K (h₀:=X.base) I.ok.mod.kin hk (thn (ha pos pins s σ H _ I h) fun us s1 ⟨vs,H1,I1,r,q⟩=>⟨I1.kIn,?_⟩) he hpl
 exact run_fn F hr hb hd hx I1 r q
theorem pe_meth {pl:Sem Bool}(he:PE X o ta)(c:Cls X.K C)(hm:Meth X.K C m f)(F:FnOk X.prog X.w X.K X.mg X.base CX k f fd ps sp)(hr:Room k X.A)(hb:Binds X.K fd ps ds)(hd:Vals dvs ds)(hx:Passes CX X E)(ha:PA X (e::es) t)(hst:starEach (e::es) X.env=(false,eval e X.env)::starEach es X.env:=by rfl)(hpl:(backTo pos (starEach es X.env)).any (·.1)=false:=by rfl)(ht:eval (.Call (.Attribute o m apos) (e::es) [] pos) X.env=(do
  let ov <-eval o X.env
  standAt apos.atName
  let(f,first) <-holding [ov] (getMethod ov m pl)
  callWith pos f first (backTo pos (starEach (e::es) X.env)) (backToKw pos (keywordEach [] X.env))):=by rfl) :
 PE X (.Call (.Attribute o m apos) (e::es) [] pos) (tMeth C m sp dvs E ta t):=by
 intro pins s σ H Q I h
 refine PySem.W.methodCall_KW (pl:=pl) (thn (he pins s σ H _ I h) fun u s1 ⟨x,H1,I1,rx,a,dx,fs,ex,ea,l,q⟩=>?_) ht
 subst ex
 obtain rfl:u=Value.ref a:=rx
 refine getmeth_ok I1 ea c hm l ?_
 refine callWith_K (first:=[.ref a]) (h₀:=X.base) I.ok.mod.kin hm.kp (thn (ha pos pins s1 σ H1 _ I1 q) fun us s2 ⟨vs,H2,I2,r,q2⟩=>⟨I2.kIn,?_⟩) hst hpl
 exact run_fn (us:=.ref a::us) (vs:=.ref a::vs) F hr hb hd hx I2 (.cons rfl r) q2
structure Mk (K:W.Frag)(C f:Addr):Prop where
 makes:makesIn K C=true
 init:findIn K (.ref C) "__init__" = some (some (.ref f))
 fn:PySem.W.isFn K (.ref f)=true
 kp:keepIn K (.ref C)=true
theorem run_make {pins:List (Addr×Obj)}{σ:St}{H:Hp}{s:Shared}{Q:VK}{us:List Value}{vs:List V}(M:Mk X.K C f)(F:FnOk X.prog X.w X.K X.mg X.base CX k f fd ps sp)(hr:Room (k+1) X.A)(hb:Binds X.K fd ps ds)(hd:Vals dvs ds)(hx:Passes CX X E)(I:Inv X pins σ H s)(r:Vals vs us)(h:∀x dx,H x=none->H dx=none->dx≠x->sp (.ref x::(vs++dvs)) (upd (upd H dx (.own x)) x (.ins C dx [])) (fun v H2=>v=.non/\Q (.ref x) H2) E) :
 wpAny (model X.prog X.w) X.A (call (.ref C) us) (EP X pins σ Q) X.xe s:=by
 have hq:=h (s.heap.objs.size+1) s.heap.objs.size (I.hok.fresh (le_succ _)) (I.hok.fresh (Nat.le_refl _)) (ne_of_lt (lt_succ_self _))
 have I2:=Inv.made (C:=C) I
 have r2:Vals (V.ref (s.heap.objs.size+1)::(vs++dvs)) (Value.ref (s.heap.objs.size+1)::(us++ds)):=.cons rfl (r.append hd)
 have hl:(Value.ref (s.heap.objs.size+1)::us++ds).length=ps.length:=by
  have e:=r2.length
  rw[F.len _ _ _ _ hq]at e
  exact e.symm
 refine wpAny_call (make_map (f:=f) I.kIn M.makes M.init (beq_iff_eq.mp M.fn) (codeAny_mono (F.run _ X.stack _ _ ⟨Value.ref (s.heap.objs.size+1)::us,[]⟩ (Value.ref (s.heap.objs.size+1)::(us++ds)) _ _ E (hr.make C us [])
  (I2.env0.make C us []) (hb _ (Value.ref (s.heap.objs.size+1)::us) I2.kIn hl) r2 hq) fun r s' hq'=>?_))
 cases r with
 |error e=>exact hx pins σ _ _ e s' I2 hq'
 |ok fl=>
  cases fl with
  |ret u=>
   obtain⟨v,H',I3,rv,ev,q3⟩:=I2.after hq'
   subst ev
   exact⟨rv,⟨V.ref (s.heap.objs.size+1),H',I3,rfl,q3⟩⟩
  |next=>exact False.elim hq'
  |brk=>exact False.elim hq'
  |cont=>exact False.elim hq'
theorem pe_make0 (M:Mk X.K C f)(F:FnOk X.prog X.w X.K X.mg X.base CX k f fd ps sp)(hr:Room (k+1) X.A)(hg:Gl X x)(hm:X.mg x=some (.ref C))(hb:Binds X.K fd ps ds)(hd:Vals dvs ds)(hx:Passes CX X E)(hdb:(x==("__debug__" : Str))=false:=by decide):PE X (.Call (.Name x p) [] [] pos) (tMake C sp dvs E tNil):=by
 intro pins s σ H Q I h
 refine wpAny_Call_Name_kw (ld_glob I hg hm ?_ hdb)
 exact PySem.W.callWith_K0 I.kIn M.kp (run_make (us:=[]) M F hr hb hd hx I .nil h)
end
section
variable {X:Cx}{CX:CXT}{k:Nat}{f C:Addr}{fd:FuncData}{ps ks:List Str}{sp:Sp}{E:XK}{x m:Str}{p pos apos kpos:Pos}{e o:Expr}{es:List Expr}{kws:List Keyword}{te ta:TE}{t tk:TA}{nm:Option Str}
structure KBinds (K:W.Frag)(fd:FuncData)(ps ks:List Str)(g:List Value->List Value->List Value)(gV:List V->List V->List V):Prop where
 to:∀(s:Shared) (us ws:List Value),K.In s.heap->(g us ws).length=ps.length->BindsTo s fd ⟨us,ks.zip ws⟩ (ps.zip (g us ws))
 rel:∀{vs:List V} {us:List Value} {zs:List V} {ws:List Value},Vals vs us->Vals zs ws->Vals (gV vs zs) (g us ws)
variable {g:List Value->List Value->List Value}{gV:List V->List V->List V}
end
structure FnScope (N P:List Str)(sc:Scope):Prop where
 kind:sc.kind=.function
 co:sc.isCoroutine=false
 gen:sc.isGenerator=false
 nd:N.Nodup
 pre:N.take P.length=P
 par:∀x∈P,sc.names.lookup x=some .local\/sc.names.lookup x=some .cell
 nofree:∀y∈sc.names,y.2≠.free
theorem bindL_out {kindOf:Str->Option NameKind}{x:Str}:∀{binds:List (Str×Value)} {m:Str->Option Value},(∀v,(x,v)∉binds)->bindL kindOf binds m x=m x
 |[],_,_=>rfl
 |(n,v)::r,m,h=>by
  unfold bindL
  rw[bindL_out fun w hw=>h w (mem_cons_of_mem _ hw)]
  split
  ·have:x≠n:=by rintro rfl;exact h v mem_cons_self
   simp[this]
  ·rfl
theorem bindC_out {kindOf:Str->Option NameKind}{x:Str}:∀{binds:List (Str×Value)} {m:Str->Option Value},(∀v,(x,v)∉binds)->bindC kindOf binds m x=m x
 |[],_,_=>rfl
 |(n,v)::r,m,h=>by
  unfold bindC
  rw[bindC_out fun w hw=>h w (mem_cons_of_mem _ hw)]
  split
  ·rfl
  ·have:x≠n:=by rintro rfl;exact h v mem_cons_self
   simp[this]
theorem bindL_get {kindOf:Str->Option NameKind}{x:Str}{v:Value}:∀{P:List Str} {vs:List Value} {i:Nat} {m:Str->Option Value},P.Nodup->P[i]?=some x->vs[i]?=some v->kindOf x=some .local->
 bindL kindOf (P.zip vs) m x=some v
 |[],_,_,_,_,h,_,_=>by simp at h
 |_::_,[],_,_,_,_,h,_=>by simp at h
 |p::P,w::vs,0,m,nd,h1,h2,hk=>by
  simp at h1 h2;subst h1;subst h2
  show bindL kindOf ((p,w)::P.zip vs) m p=_
  unfold bindL
  rw[bindL_out fun v hv=>(nodup_cons.mp nd).1 (of_mem_zip hv).1,if_pos hk]
  simp
 |p::P,w::vs,i+1,m,nd,h1,h2,hk=>by
  show bindL kindOf ((p,w)::P.zip vs) m x=_
  unfold bindL
  exact bindL_get (i:=i) (nodup_cons.mp nd).2 (by simpa using h1) (by simpa using h2) hk
theorem bindC_get {kindOf:Str->Option NameKind}{x:Str}{v:Value}:∀{P:List Str} {vs:List Value} {i:Nat} {m:Str->Option Value},P.Nodup->P[i]?=some x->vs[i]?=some v->kindOf x≠some .local->
 bindC kindOf (P.zip vs) m x=some v
 |[],_,_,_,_,h,_,_=>by simp at h
 |_::_,[],_,_,_,_,h,_=>by simp at h
 |p::P,w::vs,0,m,nd,h1,h2,hk=>by
  simp at h1 h2;subst h1;subst h2
  show bindC kindOf ((p,w)::P.zip vs) m p=_
  unfold bindC
  rw[bindC_out fun v hv=>(nodup_cons.mp nd).1 (of_mem_zip hv).1,if_neg hk]
  simp
 |p::P,w::vs,i+1,m,nd,h1,h2,hk=>by
  show bindC kindOf ((p,w)::P.zip vs) m x=_
  unfold bindC
  exact bindC_get (i:=i) (nodup_cons.mp nd).2 (by simpa using h1) (by simpa using h2) hk
def start (N:List Str)(vs:List V):St:=vs.map some++replicate (N.length - vs.length) none
def cxOf (CX:CXT)(P:Program)(w:World)(K:W.Frag)(mg:Str->Option Value)(base:Heap)(N:List Str)(qual:Str)(scope:Scope)(f:Addr)(cd:Value)(A:Around)(outer:List Env)(s:Shared)(H:Hp)(E:XK):Cx where
 prog:=P
 w:=w
 K:=K
 mg:=mg
 base:=base
 A:=A.deeper (envOfC qual scope s.heap.objs.size f cd)
 N:=N
 s₀:=s
 H₀:=H
 env:=envOfC qual scope s.heap.objs.size f cd
 outer:=outer
 stack:=envOfC qual scope s.heap.objs.size f cd::outer
 ex:=[]
 calm:=true
 fn:=fun _=>true
 pn:=[]
 xe:=fun e s'=>wpAny (model P w) (A.deeper (envOfC qual scope s.heap.objs.size f cd)) (leaving (envOfC qual scope s.heap.objs.size f cd) e) (fun _ s''=>CX outer H s E e s'') (fun e' s''=>CX outer H s E e' s'') s'
theorem cell_has {sc:Scope}{n:Nat}{x:Str}(h:sc.names.lookup x=some .cell):∃c,(cellsFrom n sc.names []).lookup x=some c:=by
 have q:=cellsFrom_some sc.names n [] (.inl h)
 exact Option.isSome_iff_exists.mp q
theorem inv_start {CX:CXT}{P:Program}{w:World}{K:W.Frag}{mg:Str->Option Value}{base:Heap}{N ps:List Str}{qual:Str}{scope:Scope}{f:Addr}{cd:Value}{A:Around}{outer:List Env}{s s1:Shared}{H:Hp}{E:XK}{us:List Value}{vs:List V}(S:FnScope N ps scope)(hd:A.handled=none)(e0:Env0 P w K mg base A outer s H)(hl:vs.length=ps.length)(r:Vals vs us)(x:InCallC s s.heap.objs.size (bindL (envOfC qual scope s.heap.objs.size f cd).kindOf (ps.zip us) fun _=>none) (cellsFrom (s.heap.objs.size+1) scope.names []) (bindC (envOfC qual scope s.heap.objs.size f cd).kindOf (ps.zip us) fun _=>none) s1) :
 Inv (cxOf CX P w K mg base N qual scope f cd A outer s H E) [] (start N vs) H s1:=by
 have hpl:ps.length<=N.length:=by have:=congrArg List.length S.pre;rw[length_take]at this;omega
 obtain⟨h1,tk,rfl,hk⟩:=x.done
 have noA:∀b:Addr,b∉(cxOf CX P w K mg base N qual scope f cd A outer s H E).ex:=fun b z=>absurd (show b∈([]:List Addr) from z) (by simp)
 refine⟨⟨e0.mod,S.kind,rfl,rfl,Nat.le_refl _,fun y z c h1 h2=>?_,fun y hy=>?_,fun y c _ h=>?_,fun _=>hd,Around.frames_deeper e0.frames,.inr ⟨rfl,rfl⟩,fun b z=>absurd z (noA b),e0.bs,e0.bsz,fun b _ _=>noA b,fun b z=>absurd z (noA b),e0.funs,e0.frf⟩,
  rfl,e0.bare,Un.kept hk,⟨_,x.toInCall.ns,fun i y v h1 h2 h3=>?_⟩,fun y c h=>⟨_,x.cell y c h⟩,e0.hok.fresh (Nat.le_refl _),fun y c h=>?_,fun p hp=>absurd (show p∈([]:List (Addr×Obj)) from hp) (by simp),e0.hok.kept hk,?_⟩
 ·exact name_of_addr x.apart (PySem.mem_of_lookup h1) (PySem.mem_of_lookup h2)
 ·have hy:scope.names.lookup y=some .cell\/scope.names.lookup y=some .free:=hy
  rcases hy with hy | hy
  ·exact cell_has hy
  ·exact absurd rfl (S.nofree _ (PySem.mem_of_lookup hy))
 ·exact Nat.le_of_lt (x.above y c (PySem.mem_of_lookup h))
 ·have hi:i<vs.length:=by
   unfold start at h2
   by_cases hi:i<vs.length
   ·exact hi
   ·rw[getElem?_append_right (by simpa using hi)]at h2
    rw[List.getElem?_replicate]at h2
    split at h2<;>cases h2
  have ha:vs[i]?=some v:=by
   unfold start at h2
   rw[getElem?_append_left (by simpa using hi),getElem?_map]at h2
   cases e:vs[i]? with
   |none=>rw[e]at h2;cases h2
   |some a=>rw[e]at h2;cases h2;rfl
  obtain⟨u,hu,rv⟩:=r.get ha
  have hp:ps[i]?=some y:=by
   rw[<-S.pre,List.getElem?_take_of_lt (by omega)];exact h1
  have ndP:ps.Nodup:=by rw[<-S.pre];exact S.nd.sublist (List.take_sublist _ _)
  refine⟨u,rv,?_⟩
  rcases S.par y (mem_of_getElem? hp) with k | k
  ·exact .inl ⟨k,bindL_get ndP hp hu k⟩
  ·obtain⟨c,e⟩:=cell_has (n:=s.heap.objs.size+1) k
   refine .inr ⟨.inl k,c,e,?_⟩
   have q:=x.cell y c e
   rw[bindC_get ndP hp hu (by show scope.names.lookup y≠_;rw[k];decide)]at q
   exact q
 ·exact e0.hok.fresh (Nat.le_of_lt (x.above y c (PySem.mem_of_lookup h)))
 ·unfold start
  show _=N.length
  rw[length_append,length_map,length_replicate]
  omega
theorem fn_of {CX:CXT}{P:Program}{w:World}{K:W.Frag}{mg:Str->Option Value}{base:Heap}{k:Nat}{f:Addr}{name qual:Str}{params:Arguments}{body:List Stmt}{scope:Scope}{dV kV doc pm cdv ct oc:Value}{an od:Option Addr}{osl:Array (Option Value)}{N ps:List Str}{sp:Sp}(lk:K.lookup f=some ⟨oc,od,.func (PySem.W.fnOf name qual params body scope dV kV doc pm an cdv ct),osl⟩)(hcd:codeIn K cdv qual=true)(S:FnScope N ps scope)(len:∀vs H Q E,sp vs H Q E->vs.length=ps.length)(hbody:∀(A:Around) (outer:List Env) (s:Shared) (H:Hp) (vs:List V) (Q:VK) (E:XK),Room k (A.deeper (envOfC qual scope s.heap.objs.size f cdv))->sp vs H Q E->
  ∃t,PSs (cxOf CX P w K mg base N qual scope f cdv A outer s H E) body t/\t {nx:=fun _ H'=>Q .non H',rt:=Q} (start N vs) H) :
 FnOk P w K mg base CX (k+1) f (PySem.W.fnOf name qual params body scope dV kV doc pm an cdv ct) ps sp:=by
 refine⟨len,fun A outer s H args us vs Q E hr e0 hb r hsp=>?_⟩
 have hl:=len _ _ _ _ hsp
 have KX:K.In s.heap:=e0.mod.kin.keeps fun b o e=>(e0.bs b o e).1
 have lim:s.heap.NoLimit:=e0.mod.nolimit.keeps fun b o e=>(e0.bs b o e).1
 have hkind:∀y∈ps.zip us,scope.names.lookup y.1=some .local\/(scope.names.lookup y.1=some .cell/\((cellsFrom (s.heap.objs.size+1) scope.names []).lookup y.1).isSome=true):=fun⟨n,v⟩ hy=>by
  rcases S.par n (of_mem_zip hy).1 with q | q
  ·exact .inl q
  ·exact .inr ⟨q,cellsFrom_some _ _ _ (.inl q)⟩
 refine codeAny_call_function hr.depth (KX _ _ lk) rfl S.co S.gen rfl (PySem.W.codeRec_of KX hcd) (hb _ _ _ _ ?_)
 refine wpAny_newFunctionEnv_cells S.kind hkind fun env he s1 x=>?_
 subst he
 refine⟨lim.keeps x.toInCall.keep,codeAny_func ?_⟩
 obtain⟨t,ht,hq⟩:=hbody A outer s H vs Q E (hr.deeper _) hsp
 have I:Inv (cxOf CX P w K mg base N qual scope f cdv A outer s H E) [] (start N vs) H s1:=inv_start S hr.hd e0 hl r x
 refine wpAny_mono (ht [] s1 (start N vs) H _ I hq) (fun fl s' hs=>?_) fun e s' hs=>hs
 have fin:∀{σ':St} {H':Hp} {v:V} {u:Value},Inv (cxOf CX P w K mg base N qual scope f cdv A outer s H E) [] σ' H' s'->RelV v u->Q v H'->CE outer P w H s Q u s':=
  fun{σ' H' v u} J rv q=>⟨v,H',J.os,J.bare,J.base,J.hok,rv,q⟩
 cases fl with
 |ret u=>
  obtain⟨v,σ',H',J,rv,q⟩:=hs
  exact fin J rv q
 |next=>
  obtain⟨σ',H',J,q⟩:=hs
  exact fin (v:=V.non) (u:=Value.none) J rfl q
 |brk=>
  obtain⟨_,_,_,q⟩:=hs
  exact False.elim q
 |cont=>
  obtain⟨_,_,_,q⟩:=hs
  exact False.elim q
section
variable {X:Cx}{x:Str}{p pos:Pos}{e:Expr}{es:List Expr}{t:TA}{id T:String}{r:List V->Hp->VK->Prop}
def tCB (r:List V->Hp->VK->Prop)(t:TA):TE:=fun σ H Q=>t σ H fun vs H1=>r vs H1 Q
theorem pe_callB (hc:CallR X (.builtin id) r)(hg:Gl X x)(hm:X.mg x=none)(hv:bootBuiltins x=some (.builtin id))(ha:PA X (e::es) t)(hn:x≠"__name__":=by decide)(hdb:(x==("__debug__" : Str))=false:=by decide)(he:starEach (e::es) X.env=(false,eval e X.env)::starEach es X.env:=by rfl)(hpl:(backTo pos (starEach es X.env)).any (·.1)=false:=by rfl):PE X (.Call (.Name x p) (e::es) [] pos) (tCB r t):=by
 intro pins s σ H Q I h
 refine wpAny_Call_Name_kw (ld_blt I hg hm hv ?_ hn hdb)
 exact callWith_builtin1 (thn (ha pos pins s σ H _ I h) fun us s1 ⟨vs,H1,I1,r1,q1⟩=>hc pins s1 σ H1 vs us Q I1 r1 q1) he hpl
theorem pe_callTy (hc:CallR X (.type T) r)(hg:Gl X x)(hm:X.mg x=none)(hv:bootBuiltins x=some (.type T))(ha:PA X (e::es) t)(hn:x≠"__name__":=by decide)(hdb:(x==("__debug__" : Str))=false:=by decide)(he:starEach (e::es) X.env=(false,eval e X.env)::starEach es X.env:=by rfl)(hpl:(backTo pos (starEach es X.env)).any (·.1)=false:=by rfl):PE X (.Call (.Name x p) (e::es) [] pos) (tCB r t):=by
 intro pins s σ H Q I h
 refine wpAny_Call_Name_kw (ld_blt I hg hm hv ?_ hn hdb)
 exact callWith_type1 (thn (ha pos pins s σ H _ I h) fun us s1 ⟨vs,H1,I1,r1,q1⟩=>hc pins s1 σ H1 vs us Q I1 r1 q1) he hpl
end
end L2
namespace HT
open PySem PyProof.Rows
section
open PySem.SeqAt
open PySem.AutoSeq1 (wpAny_loadPart')
open PySem.MeetsSeq PySem.MeetsSeq2 PySem.MeetsSeq3
end
section
variable {prog:Program}{w:World}{A:Around}{E:Value->Shared->Prop}{s:Shared}
def sIx (n d:Nat):Option Int->Nat
 |none=>d
 |some v=>if v<0 then(v+(n:Int)).toNat else min v.toNat n
theorem sIx_none (n d:Nat):sIx n d none=d:=rfl
theorem sIx_nat (n d k:Nat):sIx n d (some (k:Int))=min k n:=by
 show(if(k:Int)<0 then((k:Int)+(n:Int)).toNat else min (k:Int).toNat n)=min k n
 rw[if_neg (by omega),toNat_natCast]
theorem sIx_le (n d:Nat)(hd:d<=n)(o:Option Int):sIx n d o<=n:=by
 cases o with
 |none=>exact hd
 |some v=>
  show(if v<0 then(v+(n:Int)).toNat else min v.toNat n)<=n
  by_cases hv:v<0
  ·rw[if_pos hv];omega
  ·rw[if_neg hv];exact Nat.min_le_right _ _
theorem clip_eq (v:Int)(n d:Nat):(if v<0 then max (v+(n:Int)) 0 else min v (n:Int))=((sIx n d (some v):Nat):Int):=by
 show(if v<0 then max (v+(n:Int)) 0 else min v (n:Int))=(((if v<0 then(v+(n:Int)).toNat else min v.toNat n):Nat):Int)
 by_cases hv:v<0
 ·simp only[if_pos hv];omega
 ·simp only[if_neg hv];omega
theorem adjust_gen (lo hi:Option Int)(n:Nat):Builtin.Slice.sliceAdjust lo hi 1 (n:Int)=(((sIx n 0 lo:Nat):Int),((sIx n n hi:Nat):Int)):=by
 have h1:¬((1:Int)<0):=by omega
 unfold Builtin.Slice.sliceAdjust
 simp only[h1,if_false]
 refine Prod.ext ?_ ?_
 ·cases lo with
  |none=>rfl
  |some v=>exact clip_eq v n 0
 ·cases hi with
  |none=>rfl
  |some v=>exact clip_eq v n n
theorem places_gen (i j:Nat):Builtin.Slice.slicePlaces (i:Int) (j:Int) 1=j - i:=by
 unfold Builtin.Slice.slicePlaces
 have h1:(1:Int)>0:=by omega
 simp only[h1,if_true,Int.ediv_one]
 split<;>omega
theorem slicePart_ {v:Value}{o:Option Int}{Q:Option Int->Shared->Prop}(p:IsPart v o)(h:Q o s):wpAny (model prog w) A (Builtin.Slice.slicePartIndex v) Q E s:=by
 cases p with
 |none=>exact slicePart_none h
 |int i t=>exact slicePart_int h
theorem sliceApplied_gen {sl:Addr}{vl vu:Value}{lo hi:Option Int}{n:Nat}{Q:Int×Int×Nat->Shared->Prop}(hs:s.heap.IsSliceOf sl vl vu .none)(pl:IsPart vl lo)(pu:IsPart vu hi)(h:Q (((sIx n 0 lo:Nat):Int),1,sIx n n hi - sIx n 0 lo) s):wpAny (model prog w) A (Builtin.Slice.sliceApplied (.ref sl) (pure (n:Int))) Q E s:=by
 obtain⟨os,hos,hcs,hds⟩:=id hs
 unfold Builtin.Slice.sliceApplied Builtin.Slice.sliceFields
 refine wpAny_bind (wpAny_bind (wpAny_field hos hds (x:=vl) rfl (wpAny_bind (wpAny_field hos hds (x:=vu) rfl (wpAny_bind (wpAny_field hos hds (x:=.none) rfl (wpAny_pure ?_)))))))
 refine wpAny_bind (slicePart_none ?_)
 show wpAny _ _ (if((1:Int)==0)=true then _ else _) _ _ s
 rw[if_neg (by decide)]
 refine wpAny_bind (slicePart_ pl (wpAny_bind (slicePart_ pu (wpAny_bind (wpAny_pure ?_)))))
 show wpAny _ _ (match Builtin.Slice.sliceAdjust lo hi 1 (n:Int) with | (lo,hi)=>pure (lo,(1:Int),Builtin.Slice.slicePlaces lo hi 1)) _ _ s
 rw[adjust_gen lo hi n]
 show wpAny _ _ (pure (((sIx n 0 lo:Nat):Int),(1:Int),Builtin.Slice.slicePlaces ((sIx n 0 lo:Nat):Int) ((sIx n n hi:Nat):Int) 1)) _ _ s
 rw[places_gen]
 exact wpAny_pure h
theorem pick_gen (xs:Array Value)(i k:Nat):((List.range k).filterMap fun(m:Nat)=>xs[((i:Int)+(m:Int)*1).toNat]?).toArray=((xs.toList.drop i).take k).toArray:=by
 have e:(fun(m:Nat)=>xs[((i:Int)+(m:Int)*1).toNat]?)=fun m=>xs[i+m]?:=by
  funext m
  have:((i:Int)+(m:Int)*1).toNat=i+m:=by omega
  rw[this]
 rw[e]
 have:=pick_run xs i k
 rw[filterMap_map]at this
 have e2:((fun x=>xs[x]?)∘fun x=>i+x)=fun m=>xs[i+m]?:=rfl
 rw[e2]at this
 rw[this]
theorem getItem_tuple_cut {t sl:Addr}{items:Array Value}{vl vu:Value}{lo hi:Option Int}{Q:Value->Shared->Prop}(ht:IsTup s.heap t items)(hs:s.heap.IsSliceOf sl vl vu .none)(pl:IsPart vl lo)(pu:IsPart vu hi)(hw:¬(sIx items.size 0 lo=0/\sIx items.size items.size hi=items.size))(h:Q (.ref s.heap.objs.size) {s with heap:=s.heap.push {cls:=.type "tuple",data:=.seq ((items.toList.drop (sIx items.size 0 lo)).take (sIx items.size items.size hi - sIx items.size 0 lo)).toArray}})(hsz:items.size<=sizeLine):wpAny (model prog w) A (getItem (.ref t) (.ref sl)) Q E s:=by
 have htake:sizeOk (.seq ((items.toList.drop (sIx items.size 0 lo)).take (sIx items.size items.size hi - sIx items.size 0 lo)).toArray):=by
  show((items.toList.drop (sIx items.size 0 lo)).take (sIx items.size items.size hi - sIx items.size 0 lo)).toArray.size<=sizeLine
  rw[size_toArray,length_take,length_drop,length_toList]
  omega
 have hj:sIx items.size items.size hi<=items.size:=sIx_le _ _ (Nat.le_refl _) hi
 obtain⟨os,hos,hcs,hds⟩:=id hs
 have hTs:s.TypeIs (.ref sl) "slice":=⟨os,hos,hcs⟩
 unfold getItem
 try with_reducible refine wpAny_holding ?_
 first | refine wpAny_bind (wpAny_pure ?_) | skip
 refine wpAny_bind (wpAny_sequenceKey ht.typeIs (by decide) ?_)
 refine wpAny_bind (wpAny_callSpecial?_slot (name:=oS "__getitem__") ht.typeIs slot_tuple_getitem
  (wpAny_call_entry slot_tuple_getitem ht.typeIs entry_tuple_getitem ?_ (args_tuple_getitem _ _)))
 show wpAny _ _ (Builtin.Tuple.tupleItemsOf (.ref t) >>= _) _ _ s
 refine wpAny_bind (tupleItemsOf_ ht ?_)
 refine wpAny_bind (wpAny_typeOf hTs ?_)
 rw[if_pos (by decide)]
 refine wpAny_bind (sliceApplied_gen hs pl pu ?_)
 have hno:¬((((sIx items.size 0 lo:Nat):Int)==0&&(1:Int)==1&&(sIx items.size items.size hi - sIx items.size 0 lo)==items.size)=true):=by
  intro q
  rw[and_eq_true,and_eq_true]at q
  have q1:((sIx items.size 0 lo:Nat):Int)=0:=eq_of_beq q.1.1
  have q2:sIx items.size items.size hi - sIx items.size 0 lo=items.size:=eq_of_beq q.2
  exact hw ⟨by omega,by omega⟩
 show wpAny _ _ (if(((sIx items.size 0 lo:Nat):Int)==0&&(1:Int)==1&&(sIx items.size items.size hi - sIx items.size 0 lo)==items.size)=true then _ else _) _ _ s
 rw[if_neg hno,pick_gen]
 first
  |exact wpAny_bind (m:=Builtin.Tuple.tupleExact _) (wpAny_newObj_type (wpAny_pure ⟨_,rfl,wpAny_pure h⟩) htake)
  |exact wpAny_bind (m:=Builtin.Tuple.tupleExact _) (wpAny_newObj_type (wpAny_bind (wpAny_pure (wpAny_pure ⟨_,rfl,wpAny_pure h⟩))) htake)
  |exact wpAny_bind (wpAny_bind (m:=Builtin.Tuple.tupleExact _) (wpAny_newObj_type (wpAny_pure (wpAny_pure ⟨_,rfl,wpAny_pure h⟩)) htake))
  |exact wpAny_bind (wpAny_bind (m:=Builtin.Tuple.tupleExact _) (wpAny_newObj_type (wpAny_pure ⟨_,rfl,wpAny_pure h⟩) htake))
end
end HT
namespace L2
abbrev TO:=St->Hp->(Option Int->Hp->Prop)->Prop
def PO (X:Cx)(e:Option Expr)(t:TO):Prop:=
 ∀(pins:List (Addr×Obj)) (s:Shared) (σ:St) (H:Hp) (Q:Option Int->Hp->Prop),Inv X pins σ H s->t σ H Q->
  wpAny (model X.prog X.w) X.A (evalPart e X.env) (fun u s'=>∃o H',Inv X pins σ H' s'/\IsPart u o/\Q o H') X.xe s
def tNoPart:TO:=fun _ H Q=>Q none H
def tPart (t:TE):TO:=fun σ H Q=>t σ H fun x H1=>∃i,x=.int i/\Q (some i) H1
section
variable {X:Cx}{e:Expr}{te:TE}{lo hi:Option Expr}{tl th:TO}{pos p2:Pos}
theorem po_none:PO X none tNoPart:=by
 intro pins s σ H Q I h
 rw[evalPart_none]
 exact wpAny_pure ⟨none,H,I,.none,h⟩
theorem po_some (h:PE X e te):PO X (some e) (tPart te):=by
 intro pins s σ H Q I hw
 rw[evalPart_some]
 refine thn (h pins s σ H _ I hw) fun u s1 ⟨x,H1,I1,r1,q1⟩=>?_
 obtain⟨i,rfl,q⟩:=q1
 obtain⟨t,rfl⟩:=r1
 exact⟨some i,H1,I1,.int i t,q⟩
def SlR (X:Cx)(r:V->Option Int->Option Int->Hp->VK->Prop):Prop:=
 ∀(pins:List (Addr×Obj)) (s:Shared) (σ:St) (H:Hp) (x:V) (v vl vu:Value) (lo hi:Option Int) (sl:Addr) (Q:VK),Inv X pins σ H s->RelV x v->s.heap.IsSliceOf sl vl vu .none->IsPart vl lo->IsPart vu hi->r x lo hi H Q->
  ∃T id,typeLookup (.type T) "__getitem__" = pure (some (.builtin id))/\s.TypeIs v T/\wpAny (model X.prog X.w) X.A (getItem v (.ref sl)) (EP X pins σ Q) X.xe s
def tSl (r:V->Option Int->Option Int->Hp->VK->Prop)(te:TE)(tl th:TO):TE:=fun σ H Q=>te σ H fun x H1=>tl σ H1 fun l H2=>th σ H2 fun u H3=>r x l u H3 Q
theorem pe_slice {r:V->Option Int->Option Int->Hp->VK->Prop}(hr:SlR X r)(he:PE X e te)(hl:PO X lo tl)(hu:PO X hi th):PE X (.Subscript e (.Slice lo hi none p2) pos) (tSl r te tl th):=by
 intro pins s σ H Q I h
 refine Subscript_ (thn (he pins s σ H _ I h) fun v s1 ⟨x,H1,I1,r1,q1⟩=>?_)
 refine wpAny_Slice (thn (hl pins s1 σ H1 _ I1 q1) fun vl s2 ⟨l,H2,I2,pl,q2⟩=>thn (hu pins s2 σ H2 _ I2 q2) fun vu s3 ⟨u,H3,I3,pu,q3⟩=>?_)
 rw[evalPart_none]
 refine wpAny_pure ?_
 have I4:Inv X pins σ H3 {s3 with heap:=s3.heap.push {cls:=.type "slice",data:=.fields #[vl,vu,.none]}}:=I3.kept (t':=s3.toks) fun b ob q=>get?_push_of_some _ q
 obtain⟨T,id,hT,ht,hg⟩:=hr pins {s3 with heap:=s3.heap.push {cls:=.type "slice",data:=.fields #[vl,vu,.none]}} σ H3 x v vl vu l u s3.heap.objs.size Q I4 r1 (Heap.IsSliceOf.new ..) pl pu q3
 show wpAny (model X.prog X.w) X.A (subscriptTail e (.Slice lo hi none p2) v (.ref s3.heap.objs.size)) (EP X pins σ Q) X.xe {s3 with heap:=s3.heap.push {cls:=.type "slice",data:=.fields #[vl,vu,.none]}}
 exact tail_any (ops:=[.ref s3.heap.objs.size,v]) ht hT hg (by with_unfolding_all rfl)
def cutV (xs:List V)(lo hi:Option Int):List V:=(xs.drop (HT.sIx xs.length 0 lo)).take (HT.sIx xs.length xs.length hi - HT.sIx xs.length 0 lo)
theorem cutV_length (xs:List V)(lo hi:Option Int):(cutV xs lo hi).length<=xs.length:=by
 unfold cutV
 rw[length_take,length_drop]
 omega
def rSlT (K:W.Frag):V->Option Int->Option Int->Hp->VK->Prop:=fun x lo hi H Q=>∃a xs,x=.ref a/\SqT K H a xs/\
 ¬(HT.sIx xs.length 0 lo=0/\HT.sIx xs.length xs.length hi=xs.length)/\∀p,H p=none->Q (.ref p) (upd H p (.tup (cutV xs lo hi)))
theorem sl_tup:SlR X (rSlT X.K):=by
 intro pins s σ H x v vl vu lo hi sl Q I rx hs pl pu h
 obtain⟨a,xs,rfl,hx,hw,q⟩:=h
 cases rx
 obtain⟨its,r,ht,hz⟩:=I.tuple hx
 have hlen:its.toArray.size=xs.length:=by rw[size_toArray];exact r.length.symm
 refine⟨"tuple",_,slot_tuple_getitem.lookup,ht.typeIs,?_⟩
 refine HT.getItem_tuple_cut ht hs pl pu (by rw[hlen];exact hw) ?_ (by rw[hlen];exact hz)
 rw[hlen]
 refine⟨.ref s.heap.objs.size,_,I.laid (t':=s.toks) (o:=.tup (cutV xs lo hi)) (fun b ob q=>get?_push_of_some _ q) (Nat.le_refl _) ?_,rfl,q _ (I.hok.fresh (Nat.le_refl _))⟩
 exact⟨le_trans (cutV_length xs lo hi) hz,_,(r.drop (HT.sIx xs.length 0 lo)).take (HT.sIx xs.length xs.length hi - HT.sIx xs.length 0 lo),IsTup.new _ _⟩
end
def ixN (n:Nat)(i:Int):Option Nat:=if 0<=i then(if i<n then some i.toNat else none) else if -(n:Int)<=i then some (i+n).toNat else none
def atI {α:Type}(xs:List α)(i:Int):Option α:=(ixN xs.length i).bind fun j=>xs[j]?
theorem ixN_seq {n:Nat}{i:Int}{j:Nat}(h:ixN n i=some j):seqIndex? i n=some j/\j<n/\-(n:Int)<=i/\i<n:=by
 unfold ixN at h
 by_cases h0:0<=i
 ·rw[if_pos h0]at h
  by_cases h1:i<n
  ·rw[if_pos h1]at h
   have e:i.toNat=j:=Option.some.inj h
   exact⟨by rw[seqIndex_of h0 h1,e],by omega,by omega,h1⟩
  ·rw[if_neg h1]at h;cases h
 ·rw[if_neg h0]at h
  by_cases h1:-(n:Int)<=i
  ·rw[if_pos h1]at h
   have e:(i+n).toNat=j:=Option.some.inj h
   exact⟨by rw[seqIndex_neg (by omega) h1,e],by omega,h1,by omega⟩
  ·rw[if_neg h1]at h;cases h
theorem atI_get {α:Type}{xs:List α}{i:Int}{v:α}(h:atI xs i=some v):∃j,seqIndex? i xs.length=some j/\xs[j]?=some v/\j<xs.length/\-(xs.length:Int)<=i/\i<xs.length:=by
 unfold atI at h
 cases e:ixN xs.length i with
 |none=>rw[e]at h;cases h
 |some j=>
  rw[e]at h
  obtain⟨h1,h2,h3,h4⟩:=ixN_seq e
  exact⟨j,h1,h,h2,h3,h4⟩
theorem atI_nat {α:Type}{xs:List α}{j:Nat}{v:α}(h:xs[j]?=some v):atI xs (j:Int)=some v:=by
 have hj:j<xs.length:=(List.getElem?_eq_some_iff.mp h).1
 have e:ixN xs.length (j:Int)=some j:=by
  unfold ixN
  rw[if_pos (by omega),if_pos (by omega)];simp
 unfold atI;rw[e];exact h
def PlainIx (b:Expr):Prop:=∀o i,subscripted b false o i=operate [o,i] (getItem o i)
def IxR (X:Cx)(r:R2):Prop:=
 ∀(value slice:Expr) (pins:List (Addr×Obj)) (s:Shared) (σ:St) (H:Hp) (x y:V) (v u:Value) (Q:VK),Inv X pins σ H s->RelV x v->RelV y u->r x y H Q->
  subscripted slice false v u=operate [v,u] (getItem v u)->wpAny (model X.prog X.w) X.A (subscriptTail value slice v u) (EP X pins σ Q) X.xe s
def MtR (X:Cx)(id:String)(r:V->List V->Hp->VK->Prop):Prop:=
 ∀(pins:List (Addr×Obj)) (s:Shared) (σ:St) (H:Hp) (x:V) (xs:List V) (v:Value) (us:List Value) (Q:VK),Inv X pins σ H s->RelV x v->Vals xs us->r x xs H Q->
  wpAny (model X.prog X.w) X.A (call (.builtin id) (v::us)) (EP X pins σ Q) X.xe s
section
variable {X:Cx}{a b:Expr}{ta tb:TE}{pos:Pos}
theorem pe_ix {r:R2}(hr:IxR X r)(ha:PE X a ta)(hb:PE X b tb)(hs:PlainIx b):PE X (.Subscript a b pos) (tOp r ta tb):=by
 intro pins s σ H Q I h
 exact Subscript_ (binT ha hb I h fun v u s2 x y H2 I2 rx ry q=>hr a b pins s2 σ H2 x y v u Q I2 rx ry q (hs _ _))
def rIxL (K:W.Frag):R2:=fun x y H Q=>∃p xs i v,x=.ref p/\y=.int i/\SqL K H p xs/\atI xs i=some v/\Q v H
def rIxT (K:W.Frag):R2:=fun x y H Q=>∃p xs i v,x=.ref p/\y=.int i/\SqT K H p xs/\atI xs i=some v/\Q v H
theorem ix_list:IxR X (rIxL X.K):=by
 intro value slice pins s σ H x y v u Q I rx ry h hs
 obtain⟨p,xs,i,z,rfl,rfl,hq,he,q⟩:=h
 cases rx
 obtain⟨t,rfl⟩:=ry
 obtain⟨its,r,pl,hz⟩:=I.list hq
 obtain⟨j,h1,h2,h3,h4,h5⟩:=atI_get he
 obtain⟨w,ew,rw'⟩:=r.get h2
 have hl:=r.length
 have hn:=line63
 have fin:EP X pins σ Q w s:=⟨z,H,I,rw',q⟩
 by_cases h0:0<=i
 ·have hj:i.toNat=j:=by
   rw[seqIndex_of h0 h5]at h1
   exact Option.some.inj h1
  exact item_listR pl.isList h0 (by omega) (by rw[hj];simpa using ew) fin hs
 ·have hj:(i+(its.toArray.size:Int)).toNat=j:=by
   rw[seqIndex_neg (by omega) h4]at h1
   rw[size_toArray,<-hl]
   exact Option.some.inj h1
  exact subscriptTail_builtinR (x:=w) pl.isList.typeIs slot_list_getitem.lookup
   (wpAny_getItem_list_neg (Q:=fun r s'=>r=w/\EP X pins σ Q r s') pl.isList (by omega) (by rw[size_toArray]<;>omega) (by omega) (by rw[hj];simpa using ew) ⟨rfl,fin⟩) hs
theorem ix_tup:IxR X (rIxT X.K):=by
 intro value slice pins s σ H x y v u Q I rx ry h hs
 obtain⟨p,xs,i,z,rfl,rfl,hq,he,q⟩:=h
 cases rx
 obtain⟨t,rfl⟩:=ry
 obtain⟨its,r,pl,hz⟩:=I.tuple hq
 obtain⟨j,h1,h2,h3,h4,h5⟩:=atI_get he
 obtain⟨w,ew,rw'⟩:=r.get h2
 have hl:=r.length
 have hn:=line63
 have fin:EP X pins σ Q w s:=⟨z,H,I,rw',q⟩
 exact subscriptTail_builtinR (x:=w) pl.typeIs slot_tuple_getitem.lookup
  (getItem_tuple (j:=j) (Q:=fun r s'=>r=w/\EP X pins σ Q r s') pl (by omega) (by omega) (by rw[size_toArray,<-hl];exact h1) (by simpa using ew) ⟨rfl,fin⟩) hs
theorem mapSeq_set (its:List Value)(n j:Nat)(u:Value):Obj.mapSeq (·.setIfInBounds j u) {cls:=.type "list",data:=.seq its.toArray n}={cls:=.type "list",data:=.seq (its.set j u).toArray n}:=by
 simp[Obj.mapSeq]
theorem Inv.lst {pins:List (Addr×Obj)}{σ:St}{H:Hp}{s:Shared}{p:Addr}{xs:List V}(I:Inv X pins σ H s)(h:H p=some (.lst xs)) :
 ∃(its:List Value) (n:Nat),Vals xs its/\s.heap.get? p=some {cls:=.type "list",data:=.seq its.toArray n}/\xs.length<=sizeLine:=by
 obtain⟨z,its,n,r,e⟩:=I.hok p _ h
 exact⟨its,n,r,e,z⟩
theorem Inv.lstUpd {pins:List (Addr×Obj)}{σ:St}{H:Hp}{s:Shared}{p:Addr}{xs ys:List V}{its its':List Value}{n n':Nat}{f:Obj->Obj}(I:Inv X pins σ H s)(h:H p=some (.lst xs))(ho:s.heap.get? p=some {cls:=.type "list",data:=.seq its.toArray n})(hf:f {cls:=.type "list",data:=.seq its.toArray n}={cls:=.type "list",data:=.seq its'.toArray n'})(r:Vals ys its')(hz:ys.length<=sizeLine)(t:Nat) :
 Inv X pins σ (upd H p (.lst ys)) {s with heap:=s.heap.update p f,toks:=t}:=by
 have e:(s.heap.update p f).get? p=some {cls:=.type "list",data:=.seq its'.toArray n'}:=by
  rw[get?_update_self f ho (by rw[hf]<;>rfl),hf]
 refine I.write (x:=p) (e:=p) (by rw[h];trivial) (.inl rfl) (fun b u hb q=>(get?_update_other _ _ (Ne.symm hb)).trans q) ⟨_,e⟩ ?_
 exact⟨hz,its',n',r,e⟩
def rSetL:V->V->V->Hp->(Hp->Prop)->Prop:=fun o i v H Q=>∃p xs k j,o=.ref p/\i=.int k/\H p=some (.lst xs)/\ixN xs.length k=some j/\Q (upd H p (.lst (xs.set j v)))
theorem set_list:PSet X rSetL:=by
 intro pins s σ H o i v ov iv u Q I ro ri rv h
 obtain⟨p,xs,k,j,rfl,rfl,hp,hj,q⟩:=h
 cases ro
 obtain⟨t,rfl⟩:=ri
 obtain⟨its,n,r,ho,hz⟩:=I.lst hp
 obtain⟨h1,h2,h3,h4⟩:=ixN_seq hj
 have hl:=r.length
 have hn:=line63
 have I':Inv X pins σ (upd H p (.lst (xs.set j v))) {s with heap:=s.heap.update p (Obj.mapSeq (·.setIfInBounds j u))}:=
  I.lstUpd hp ho (mapSeq_set its n j u) (r.set rv j) (by rw[List.length_set];exact hz) s.toks
 by_cases h0:0<=k
 ·have hk:k.toNat=j:=by
   rw[seqIndex_of h0 h4]at h1
   exact Option.some.inj h1
  exact PySem.W.ki_setAt ho h0 (by omega) (by rw[size_toArray,<-hl];exact h4) (by rw[hk];exact⟨_,I',q⟩)
 ·have hk:(k+(its.toArray.size:Int)).toNat=j:=by
   rw[seqIndex_neg (by omega) h3]at h1
   rw[size_toArray,<-hl]
   exact Option.some.inj h1
  exact PySem.W.ki_setBack ho (by omega) (by rw[size_toArray,<-hl];exact h3) (by omega) (by rw[hk];exact⟨_,I',q⟩)
theorem slice_bounds (lo hi:Option Int)(n:Nat):(sliceBounds lo hi none n).1=((HT.sIx n 0 lo:Nat):Int)/\(sliceBounds lo hi none n).2.1=((HT.sIx n n hi:Nat):Int)/\(sliceBounds lo hi none n).2.2=1:=by
 refine⟨?_,?_,rfl⟩
 ·cases lo with
  |none=>simp[sliceBounds,HT.sIx]
  |some i=>
   simp only[sliceBounds,HT.sIx,getD_none,show(1:Int)>0 by decide,if_true]
   by_cases h:i<0
   ·simp only[h,if_true]<;>omega
   ·simp only[h,if_false]<;>omega
 ·cases hi with
  |none=>simp[sliceBounds,HT.sIx]
  |some i=>
   simp only[sliceBounds,HT.sIx,getD_none,show(1:Int)>0 by decide,if_true]
   by_cases h:i<0
   ·simp only[h,if_true]<;>omega
   ·simp only[h,if_false]<;>omega
theorem slicePick_cut (its:List Value)(lo hi:Option Int):slicePick its.toArray lo hi none=((its.drop (HT.sIx its.length 0 lo)).take (HT.sIx its.length its.length hi - HT.sIx its.length 0 lo)).toArray:=by
 obtain⟨h1,h2,h3⟩:=slice_bounds lo hi its.toArray.size
 unfold slicePick
 rw[h1,h2,h3]
 simp only[sliceRange_one,pick_run,size_toArray]<;>rfl
def rSlL (K:W.Frag):V->Option Int->Option Int->Hp->VK->Prop:=fun x lo hi H Q=>∃a xs,x=.ref a/\SqL K H a xs/\∀p,H p=none->Q (.ref p) (upd H p (.lst (cutV xs lo hi)))
theorem sl_list:SlR X (rSlL X.K):=by
 intro pins s σ H x v vl vu lo hi sl Q I rx hs pl pu h
 obtain⟨a,xs,rfl,hx,q⟩:=h
 cases rx
 obtain⟨its,r,ht,hz⟩:=I.list hx
 have hlen:=r.length
 refine⟨"list",_,slot_list_getitem.lookup,ht.isList.typeIs,?_⟩
 refine wpAny_getItem_list_slice ht.isList hs pl pu .none (by simp) ?_ (by rw[size_toArray]<;>omega)
 rw[slicePick_cut,<-hlen]
 refine⟨.ref s.heap.objs.size,_,I.laid (t':=s.toks) (o:=.lst (cutV xs lo hi)) (fun b ob q=>get?_push_of_some _ q) (Nat.le_refl _) ?_,rfl,q _ (I.hok.fresh (Nat.le_refl _))⟩
 exact⟨le_trans (cutV_length xs lo hi) hz,_,0,(r.drop (HT.sIx xs.length 0 lo)).take (HT.sIx xs.length xs.length hi - HT.sIx xs.length 0 lo),get?_push_size _ rfl⟩
def flatV:V->Bool
 | .non=>true
 | .bl _=>true
 | .int _=>true
 | .str _=>true
 |_=>false
def eqV:V->V->Bool
 | .non,.non=>true
 | .bl a,.bl b=>a==b
 | .bl a,.int b=>(if a then 1 else 0)==b
 | .int a,.bl b=>a==(if b then 1 else 0)
 | .int a,.int b=>a==b
 | .str a,.str b=>a==b
 |_,_=>false
theorem eqAt_V {A:Around}{s:Shared}{y x:V}{u v:Value}(ry:RelV y u)(rx:RelV x v)(fy:flatV y=true)(fx:flatV x=true):SeqAt.EqAt A s u v (eqV y x):=by
 cases y with
 |non=>
  cases ry
  cases x with
  |non=>cases rx;exact SeqAt.EqAt.same _
  |bl b=>cases rx;exact SeqAt.EqAt.none_bool b
  |int b=>obtain⟨t,rfl⟩:=rx;exact SeqAt.EqAt.none_int b t
  |str b=>obtain⟨t,rfl⟩:=rx;exact SeqAt.EqAt.none_str b t
  |_=>exact absurd (show false=true from fx) Bool.false_ne_true
 |bl a=>
  cases ry
  cases x with
  |non=>cases rx;exact SeqAt.EqAt.bool_none a
  |bl b=>cases rx;exact SeqAt.EqAt.bool_bool a b
  |int b=>obtain⟨t,rfl⟩:=rx;exact SeqAt.EqAt.bool_int a b t
  |str b=>obtain⟨t,rfl⟩:=rx;exact SeqAt.EqAt.bool_str a b t
  |_=>exact absurd (show false=true from fx) Bool.false_ne_true
 |int a=>
  obtain⟨t',rfl⟩:=ry
  cases x with
  |non=>cases rx;exact SeqAt.EqAt.int_none a t'
  |bl b=>cases rx;exact SeqAt.EqAt.int_bool a t' b
  |int b=>obtain⟨t,rfl⟩:=rx;exact SeqAt.EqAt.int_int a t' b t
  |str b=>obtain⟨t,rfl⟩:=rx;exact SeqAt.EqAt.int_str a t' b t
  |_=>exact absurd (show false=true from fx) Bool.false_ne_true
 |str a=>
  obtain⟨t',rfl⟩:=ry
  cases x with
  |non=>cases rx;exact SeqAt.EqAt.str_none a t'
  |bl b=>cases rx;exact SeqAt.EqAt.str_bool a t' b
  |int b=>obtain⟨t,rfl⟩:=rx;exact SeqAt.EqAt.str_int a t' b t
  |str b=>obtain⟨t,rfl⟩:=rx;exact SeqAt.EqAt.str_str a t' b t
  |_=>exact absurd (show false=true from fx) Bool.false_ne_true
 |_=>exact absurd (show false=true from fy) Bool.false_ne_true
def eqU (x:V)(u:Value):Bool:=match u with
 | .none=>eqV .non x
 | .bool b=>eqV (.bl b) x
 | .int i _=>eqV (.int i) x
 | .str z _=>eqV (.str z) x
 |_=>false
theorem eqU_of {x y:V}{u:Value}(r:RelV y u)(f:flatV y=true):eqU x u=eqV y x:=by
 cases y with
 |non=>cases r;rfl
 |bl b=>cases r;rfl
 |int i=>obtain⟨t,rfl⟩:=r;rfl
 |str z=>obtain⟨t,rfl⟩:=r;rfl
 |_=>exact absurd (show false=true from f) Bool.false_ne_true
theorem any_eqU {x:V}:∀{xs:List V} {us:List Value},Vals xs us->xs.all flatV=true->us.any (eqU x)=xs.any fun y=>eqV y x
 |_,_,.nil,_=>rfl
 |y::xs,u::us,.cons r t,f=>by
  rw[all_cons,and_eq_true]at f
  rw[any_cons,any_cons,eqU_of r f.1,any_eqU t f.2]
theorem mem_eqAt {A:Around}{s:Shared}{x:V}{v:Value}(rx:RelV x v)(fx:flatV x=true):∀{xs:List V} {us:List Value},Vals xs us->xs.all flatV=true->∀u∈us,SeqAt.EqAt A s u v (eqU x u)
 |_,_,.nil,_=>fun u hu=>by cases hu
 |y::xs,u::us,.cons r t,f=>fun u' hu=>by
  rw[all_cons,and_eq_true]at f
  rcases mem_cons.mp hu with rfl | hu
  ·rw[eqU_of r f.1];exact eqAt_V r rx f.1 fx
  ·exact mem_eqAt rx fx t f.2 u' hu
def inV (x:V)(xs:List V):Bool:=xs.any fun y=>eqV y x
def rIn (K:W.Frag)(neg:Bool):R2:=fun x y H Q=>∃p xs,y=.ref p/\(SqL K H p xs\/SqT K H p xs)/\flatV x=true/\xs.all flatV=true/\Q (.bl (if neg then !inV x xs else inV x xs)) H
theorem op_in_seq:OpR X (compareOp .In) (rIn X.K false):=by
 intro pins s σ H x y v u Q I rx ry h
 obtain⟨p,xs,rfl,hq,fx,fs,q⟩:=h
 cases ry
 rcases hq with hq | hq
 ·obtain⟨its,r,pl,hz⟩:=I.list hq
  refine SeqAt.in_listAt (eqU x) pl.isList (fun w hw=>mem_eqAt rx fx r fs w (by simpa using hw)) ⟨.bl _,H,I,rfl,?_⟩
  rw[show its.toArray.any (eqU x)=its.any (eqU x) by simp,any_eqU r fs]
  exact q
 ·obtain⟨its,r,pl,hz⟩:=I.tuple hq
  refine SeqAt.in_tupleAt (eqU x) pl (fun w hw=>mem_eqAt rx fx r fs w (by simpa using hw)) ⟨.bl _,H,I,rfl,?_⟩
  rw[show its.toArray.any (eqU x)=its.any (eqU x) by simp,any_eqU r fs]
  exact q
theorem op_notIn_seq:OpR X (compareOp .NotIn) (rIn X.K true):=by
 intro pins s σ H x y v u Q I rx ry h
 obtain⟨p,xs,rfl,hq,fx,fs,q⟩:=h
 cases ry
 rcases hq with hq | hq
 ·obtain⟨its,r,pl,hz⟩:=I.list hq
  refine SeqAt.notIn_listAt (eqU x) pl.isList (fun w hw=>mem_eqAt rx fx r fs w (by simpa using hw)) ⟨.bl _,H,I,rfl,?_⟩
  rw[show its.toArray.any (eqU x)=its.any (eqU x) by simp,any_eqU r fs]
  exact q
 ·obtain⟨its,r,pl,hz⟩:=I.tuple hq
  refine SeqAt.notIn_tupleAt (eqU x) pl (fun w hw=>mem_eqAt rx fx r fs w (by simpa using hw)) ⟨.bl _,H,I,rfl,?_⟩
  rw[show its.toArray.any (eqU x)=its.any (eqU x) by simp,any_eqU r fs]
  exact q
theorem call_len_seq:CallR X (.builtin "len") (fun xs H Q=>∃p ys,xs=[.ref p]/\(SqL X.K H p ys\/SqT X.K H p ys)/\Q (.int ys.length) H):=by
 intro pins s σ H xs us Q I r h
 obtain⟨p,ys,rfl,hq,q⟩:=h
 obtain⟨u,rfl,rx⟩:=vals1 r
 cases rx
 have hn:=line63
 rcases hq with hq | hq
 ·obtain⟨its,r',pl,hz⟩:=I.list hq
  have hlen:=r'.length
  exact Calls.call_len_list pl.isList (by simp only[size_toArray]<;>omega) ⟨.int ys.length,H,I.tok _,⟨s.toks+1,by rw[size_toArray,hlen]⟩,q⟩
 ·obtain⟨its,r',pl,hz⟩:=I.tuple hq
  have hlen:=r'.length
  exact len_tuple pl (by simp only[size_toArray]<;>omega) ⟨.int ys.length,H,I.tok _,⟨s.toks+1,by rw[size_toArray,hlen]⟩,q⟩
theorem call_len_str:CallR X (.builtin "len") (fun xs H Q=>∃z,xs=[.str z]/\z.length<=sizeLine/\Q (.int z.length) H):=by
 intro pins s σ H xs us Q I r h
 obtain⟨z,rfl,hz,q⟩:=h
 obtain⟨u,rfl,t,rfl⟩:=vals1 r
 have hn:=line63
 exact len_str (by omega) ⟨.int z.length,H,I.tok _,⟨_,rfl⟩,q⟩
theorem call_tuple_of:CallR X (.type "tuple") (fun xs H Q=>∃p ys,xs=[.ref p]/\((SqL X.K H p ys/\∀l,H l=none->Q (.ref l) (upd H l (.tup ys)))\/(SqT X.K H p ys/\Q (.ref p) H))):=by
 intro pins s σ H xs us Q I r h
 obtain⟨p,ys,rfl,h⟩:=h
 obtain⟨u,rfl,rx⟩:=vals1 r
 cases rx
 rcases h with⟨hq,q⟩ | ⟨hq,q⟩
 ·obtain⟨its,r',pl,hz⟩:=I.list hq
  have hlen:=r'.length
  refine call_tuple_list pl.isList (fun h' kp=>?_) (by simp only[size_toArray]<;>omega)
  have I1:Inv X pins σ H {s with heap:=h'}:=I.kept (t':=s.toks) kp
  have I2:Inv X pins σ (upd H h'.objs.size (.tup ys)) {s with heap:=h'.push {cls:=.type "tuple",data:=.seq its.toArray}}:=
   I1.laid (t':=s.toks) (fun b o e=>get?_push_of_some _ e) (Nat.le_refl _) (show ObjOk X.prog X.w _ _ _ (.tup ys) from⟨hz,its,r',IsTup.new _ _⟩)
  exact⟨.ref h'.objs.size,_,I2,rfl,q _ (I1.hok.fresh (Nat.le_refl _))⟩
 ·obtain⟨its,r',pl,hz⟩:=I.tuple hq
  exact call_tuple_same pl ⟨.ref p,H,I,rfl,q⟩
def tyV (K:W.Frag)(T:String)(x:V)(H:Hp):Prop:=match x with
 | .str _=>T="str"
 | .int _=>T="int"
 | .ref p=>(T="list"/\∃xs,SqL K H p xs)\/(T="tuple"/\∃o,K.lookup p=some o/\o.cls=.type "tuple"/\o.dict=none)\/
  (T="dict"/\((∃kvs,H p=some (.dK kvs))\/∃kvs,H p=some (.dT kvs)))\/(T="set"/\∃S n,H p=some (.set S n))
 |_=>False
theorem tyV_is {pins:List (Addr×Obj)}{σ:St}{H:Hp}{s:Shared}{T:String}{x:V}{v:Value}(I:Inv X pins σ H s)(r:RelV x v)(ty:tyV X.K T x H) :
 s.TypeIs v T/\∀a,v=.ref a->∃ob,s.heap.get? a=some ob/\ob.dict=none:=by
 cases x with
 |str z=>
  obtain⟨t,rfl⟩:=r
  cases(show T="str" from ty)
  exact⟨typeIs_str s z t,fun _ e=>nomatch e⟩
 |int i=>
  obtain⟨t,rfl⟩:=r
  cases(show T="int" from ty)
  exact⟨typeIs_int s i t,fun _ e=>nomatch e⟩
 |ref p=>
  cases r
  rcases ty with⟨rfl,xs,hq⟩ | ⟨rfl,o,hk,hc,hd⟩ | ⟨rfl,hk⟩ | ⟨rfl,S,n,hk⟩
  ·obtain⟨its,_,pl,_⟩:=I.list hq
   refine⟨pl.isList.typeIs,fun a e=>?_⟩
   cases e
   obtain⟨o,n,e,c,hd,_⟩:=pl
   exact⟨o,e,hd⟩
  ·refine⟨⟨o,I.kIn p o hk,hc⟩,fun a e=>?_⟩
   cases e
   exact⟨o,I.kIn _ o hk,hd⟩
  ·have z:∃o,s.heap.get? p=some o/\o.ExactDict:=by
    rcases hk with⟨kvs,hk⟩ | ⟨kvs,hk⟩
    ·obtain⟨_,_,_,_,o,_,_,e,ex,_⟩:=I.hok p _ hk
     exact⟨o,e,ex⟩
    ·obtain⟨_,_,_,_,o,_,_,e,ex,_⟩:=I.hok p _ hk
     exact⟨o,e,ex⟩
   obtain⟨o,e,ex⟩:=z
   refine⟨⟨o,e,ex.1⟩,fun a e2=>?_⟩
   cases e2
   exact⟨o,e,ex.2.1⟩
  ·obtain⟨o,_,_,_,e,ex,_⟩:=I.hok p _ hk
   refine⟨⟨o,e,ex.1⟩,fun a e2=>?_⟩
   cases e2
   exact⟨o,e,ex.2.1⟩
 |_=>exact False.elim ty
def tBM (K:W.Frag)(T:String)(r:V->List V->Hp->VK->Prop)(to:TE)(t:TA):TE:=fun σ H Q=>to σ H fun x H1=>tyV K T x H1/\t σ H1 fun xs H2=>r x xs H2 Q
variable {o e:Expr}{es:List Expr}{to:TE}{t:TA}{name:Str}{apos cpos:Pos}{T id:String}{r:V->List V->Hp->VK->Prop}
theorem pe_bm (pa:PlainAttrs T)(slot:Slot T name id)(hty:typeOf (.builtin id)=pure (.type "method_descriptor"))(hm:MtR X id r)(ho:PE X o to)(ha:PA X (e::es) t)(hbase:attributeBase o name X.env (eval o X.env)=eval o X.env:=by rfl)(hfew:((backTo cpos (starEach (e::es) X.env)).all (fun x=>!x.1)&&(backToKw cpos (keywordEach [] X.env)).all (fun x=>x.1.isSome)
  &&decide ((e::es).length+([]:List Keyword).length+(if([]:List Keyword).isEmpty then 0 else 1)<30))=true:=by rfl)(hline:(apos.endLine==cpos.line)=true:=by rfl)(hs:starEach (e::es) X.env=(false,eval e X.env)::starEach es X.env:=by rfl)(hplain:(backTo cpos (starEach es X.env)).any (·.1)=false:=by rfl) :
 PE X (.Call (.Attribute o name apos) (e::es) [] cpos) (tBM X.K T r to t):=by
 intro pins s σ H Q I h
 refine wpAny_Call_method_late hbase hfew hline rfl (thn (ho pins s σ H _ I h) fun v s1 ⟨x,H1,I1,r1,ty,q1⟩=>?_)
 obtain⟨h1,h2⟩:=tyV_is I1 r1 ty
 refine⟨T,id,pa,slot,hty,h1,h2,?_⟩
 have hA:=ha cpos pins s1 σ H1 _ I1 q1
 rw[hs]at hA ⊢
 refine Calls.callWith_builtin (by show(false||(backTo cpos (starEach es X.env)).any (·.1))=false;rw[hplain]<;>rfl) (Calls.evalArgs_plain ?_)
 exact thn hA fun us s2 ⟨vs,H2,I2,r2,q2⟩=>hm pins s2 σ H2 x vs v us Q I2 r1 r2 q2
end
def MtM (X:Cx)(id:String)(r:V->List V->Hp->VK->Prop):Prop:=
 ∀(pins:List (Addr×Obj)) (s:Shared) (σ:St) (H:Hp) (x:V) (xs:List V) (v:Value) (us:List Value) (Q:VK),Inv X pins σ H s->RelV x v->Vals xs us->r x xs H Q->
  wpAny (model X.prog X.w) X.A (call (.builtin id) (v::us)) (EP X pins σ Q) X.xe s
theorem Vals.one:∀{x:V} {us:List Value},Vals [x] us->∃u,us=[u]/\RelV x u
 |_,_,.cons r .nil=>⟨_,rfl,r⟩
section
variable {X:Cx}{pins:List (Addr×Obj)}{σ:St}{H:Hp}{s:Shared}{l b:Addr}{xs ys zs:List V}
theorem Inv.lset {its its':List Value}{n:Nat}{f:Array Value->Array Value}{t':Nat}(I:Inv X pins σ H s)(hH:H l=some (.lst xs))(e:s.heap.get? l=some {cls:=.type "list",data:=.seq its.toArray n})(hf:f its.toArray=its'.toArray)(hv:Vals ys its')(hz:ys.length<=sizeLine) :
 Inv X pins σ (upd H l (.lst ys)) {s with heap:=s.heap.update l (Obj.mapSeq f),toks:=t'}:=by
 have q:=PySem.IsL.update e f
 rw[hf]at q
 refine I.write (x:=l) (e:=l) (by rw[hH];exact trivial) (.inl rfl) (fun b' u hb hu=>(get?_update_other s.heap (Obj.mapSeq f) (Ne.symm hb)).trans hu) ⟨_,q⟩ ?_
 exact⟨hz,its',_,hv,q⟩
theorem Inv.lnew {its:List Value}{t':Nat}(I:Inv X pins σ H s)(hv:Vals ys its)(hz:ys.length<=sizeLine) :
 Inv X pins σ (upd H s.heap.objs.size (.lst ys)) {s with heap:=s.heap.push {cls:=.type "list",data:=.seq its.toArray},toks:=t'}:=
 I.laid (fun _ _ q=>get?_push_of_some _ q) (Nat.le_refl _) ⟨hz,its,0,hv,get?_push_size _ rfl⟩
theorem Inv.fresh (I:Inv X pins σ H s):H s.heap.objs.size=none:=I.hok.fresh (Nat.le_refl _)
theorem Inv.lstM (I:Inv X pins σ H s)(hH:H l=some (.lst xs)):xs.length<=sizeLine/\∃(its:List Value) (n:Nat),Vals xs its/\xs.length=its.length/\s.heap.get? l=some {cls:=.type "list",data:=.seq its.toArray n}:=by
 obtain⟨z,its,n,r,e⟩:=I.hok l _ hH
 exact⟨z,its,n,r,r.length,e⟩
theorem notLongL {n:Nat}(h:n<=sizeLine):Builtin.List.listTooLong n=false:=by
 unfold Builtin.List.listTooLong
 exact decide_eq_false (by omega)
end
section
variable {X:Cx}
def rAppend:V->List V->Hp->VK->Prop:=fun x vs H Q=>∃l xs y,x=.ref l/\vs=[y]/\H l=some (.lst xs)/\xs.length<sizeLine/\Q .non (upd H l (.lst (xs++[y])))
theorem mt_append:MtM X "list.append" rAppend:=by
 intro pins s σ H x vs v us Q I rx rv h
 obtain⟨l,xs,y,rfl,rfl,hH,hz,q⟩:=h
 cases rx
 obtain⟨u,rfl,ru⟩:=rv.one
 obtain⟨z,its,n,r,hl,e⟩:=I.lstM hH
 refine call_meets F.slot_list_append ⟨_,e,rfl⟩ F.entry_list_append (F.args_list_append_2 _ _) (PySem.list_append l its.toArray n u (by rw[size_toArray];omega)) ⟨e,?_⟩
 refine⟨.non,_,I.lset (its':=its++[u]) hH e (by simp) (r.append (.cons ru .nil)) ?_,rfl,q⟩
 rw[length_append,length_singleton]
 omega
def rExtend:V->List V->Hp->VK->Prop:=fun x vs H Q=>∃l b xs zs,x=.ref l/\vs=[.ref b]/\H l=some (.lst xs)/\H b=some (.lst zs)/\xs.length+zs.length<=sizeLine/\Q .non (upd H l (.lst (xs++zs)))
theorem mt_extend:MtM X "list.extend" rExtend:=by
 intro pins s σ H x vs v us Q I rx rv h
 obtain⟨l,b,xs,zs,rfl,rfl,hH,hB,hz,q⟩:=h
 cases rx
 obtain⟨u,rfl,ru⟩:=rv.one
 cases ru
 obtain⟨z,its,n,r,hl,e⟩:=I.lstM hH
 obtain⟨z2,its2,n2,r2,hl2,e2⟩:=I.lstM hB
 have hsz:its.toArray.size+its2.toArray.size<=sizeLine:=by rw[size_toArray,size_toArray];omega
 have hlong:¬(!its.toArray.isEmpty&&Builtin.List.listTooLong (its.toArray.size+its2.toArray.size))=true:=by
  rw[notLongL hsz,Bool.and_false]
  exact Bool.false_ne_true
 refine call_meets F.slot_list_extend ⟨_,e,rfl⟩ F.entry_list_extend (F.args_list_extend_2 _ _)
  (AutoSeq1.list_extend_list_list_0 l its.toArray n b its2.toArray n2 hlong (by rw[size_toArray];omega) (by omega)) ⟨e,e2,?_⟩
 refine⟨.non,_,I.lset (its':=its++its2) hH e (by simp) (r.append r2) ?_,rfl,q⟩
 rw[length_append]
 omega
def rCat:R2:=fun x y H Q=>∃l b xs zs,x=.ref l/\y=.ref b/\H l=some (.lst xs)/\H b=some (.lst zs)/\xs.length+zs.length<=sizeLine/\∀p,H p=none->Q (.ref p) (upd H p (.lst (xs++zs)))
theorem op_cat:OpR X (binaryOp .Add) rCat:=by
 intro pins s σ H x y v u Q I rx ry h
 obtain⟨l,b,xs,zs,rfl,rfl,hH,hB,hz,q⟩:=h
 cases rx
 cases ry
 obtain⟨z,its,n,r,hl,e⟩:=I.lstM hH
 obtain⟨z2,its2,n2,r2,hl2,e2⟩:=I.lstM hB
 refine PySem.P.add_list e e2 ?_ (by rw[size_toArray,size_toArray];omega)
 have ea:its.toArray++its2.toArray=(its++its2).toArray:=by simp
 rw[ea]
 exact⟨.ref _,_,I.lnew (t':=s.toks) (r.append r2) (by rw[length_append];omega),rfl,q _ I.fresh⟩
end
section
variable {prog:Program}{w:World}{A:Around}{E:Value->Shared->Prop}{s:Shared}
end
section
variable {X:Cx}
end
end L2
namespace Att
open PySem PySem.W PySem.Calls PyProof.Rows
theorem ints_of_wellAll {P:Params}{h:Heap}:∀(ns:List Int) (vs:List Value),WellAll P h vs (ns.map WData.int)->IntsAre vs ns:=by
 intro ns
 induction ns with
 |nil=>
  intro vs w
  rw[map_nil]at w
  cases w
  exact .nil
 |cons n ns ih=>
  intro vs w
  rw[map_cons]at w
  cases w with
  |cons a b=>
   cases a
   exact .cons _ _ (ih _ b)
theorem script_of {l:OpenLaw}{n:Nat}(hn:l.most=some n){P:Params}{h:Heap}{args:List WData}{vals:List Value}(hpre:l.row.toRowW.claim.pre args=true)(hwl:WellAll P h vals args) :
 ∃a vs ns,vals=[Value.ref a]/\args=[WData.list (ns.map WData.int)]/\h.get? a=some {cls:=.type "list",data:=.seq vs.toArray}/\IntsAre vs ns/\ns.length<=n:=by
 have hsh:WShape.hasAll [] args [.list .int]=true:=(pre_splitW hpre).1
 have hc:l.pre.holds [] {args:=args}=true:=(pre_splitW hpre).2
 obtain⟨d,r,rfl,h1,h2⟩:=hasAllW_cons hsh
 obtain rfl:=hasAllW_nil h2
 obtain⟨xs,rfl,h3⟩:=hasW_list h1
 obtain⟨ns,rfl⟩:=items_int h3
 have hlen:ns.length<=n:=by
  unfold OpenLaw.pre at hc
  have h4:(WTm.not (.lt (.lit (.int (n:Int))) (.len (.arg 0)))).holds [] {args:=[.list (ns.map .int)]}=true:=by
   have h4:=(holds_andW hc).1
   rw[hn]at h4
   exact h4
  have h5:=condW_of h4 (w_not (w_lt w_lit (w_len_list (w_arg rfl))))
  rw[length_map]at h5
  refine Nat.le_of_not_lt fun q=>?_
  have q':(n:Int)<((ns.length:Nat):Int):=by omega
  first
   |(rw[decide_eq_true q']at h5;exact absurd h5 (by decide))
   |(simp at h5;omega)
 cases hwl with
 |cons w1 w2=>
  cases w2
  cases w1 with
  |list ho hall=>exact⟨_,_,ns,rfl,rfl,ho,ints_of_wellAll ns _ hall,hlen⟩
theorem post_true (l:OpenLaw)(args:List WData):l.row.toRowW.claim.post args (.bool true) args=true:=
 postW_of (r:=l.row.toRowW) (X:=(true==true))
  (show WShape.has [] (.bool true) .bool=true by first | rfl | decide | simp[WShape.has,WShape.arms,WShape.armsAll])
  (show(WTm.eq .res (.lit (.bool true))).value [] {args:=args,res:=some (.bool true),after:=args}=some (.bool (true==true)) from w_eq_bool (w_res rfl) w_lit) rfl
theorem attach_call {l:OpenLaw}{n:Nat}{q:Program}{loose:List Str}{XP:(Str->Option Value)->Heap->Prop}{YP:World->Heap->Prop}{d:DefRec}(hn:l.most=some n)(hdf:d.params.defaults=[])(call:∀(w:World) (s₀ s₁:Shared) (mg mb:Str->Option Value) (fa:Addr) (o:Obj) (pm cd doc:Value) (a:Addr) (vs:List Value) (ns:List Int),
  Ground q loose [] XP w s₀ mg mb s₁.heap->YP w s₁.heap->
  s₁.heap.get? fa=some o->o.data=.func (docDef d.name d.params d.body d.scope pm cd doc)->s₁.heap.CodeRec cd d.name->mg d.name=some (.ref fa)->
  s₁.heap.get? a=some {cls:=.type "list",data:=.seq vs.toArray}->IntsAre vs ns->ns.length<=n->s₁.gens=#[]->
  codeAny (model l.prog w) callerA (.call (.ref fa) ⟨[.ref a],[]⟩) (fun r s'=>r=.ok (.ret (.bool true))/\OldK s₁.heap s'.heap/\s'.os=s₁.os/\AllBare s'.gens) s₁) :
 WalkO q loose XP YP l.row.toRowW d [] (fun f vs=>PySem.call f vs):=by
 intro w s₀ s₁ mg mb G Y fa o pm cd doc dV kV ho hd hcd hD hmg hg args vals as hpre hlay hrd hwl hlo
 obtain rfl:dV=.none:=Dflts.none hD hdf
 obtain rfl:kV=.none:=Dflts.noKw hD
 obtain⟨a,vs,ns,rfl,rfl,hobj,hints,hlen⟩:=script_of hn hpre hwl
 refine enter_call (codeAny_mono (call w s₀ s₁ mg mb fa o pm cd doc a vs ns G Y ho (fd_plain hd) hcd hmg hobj hints hlen hg) fun r s' hq=>?_)
 obtain⟨rfl,h2,h3,h4⟩:=hq
 exact⟨.inl ⟨.bool true,.bool true,[],rfl,fun _=>rfl,.bool true,post_true l _,fun _=>⟨List.Pairwise.nil,fun _ hm=>(nomatch hm)⟩⟩,h2,h3,h4⟩
section
variable {prog:Program}{w:World}{A:Around}{E:Value->Shared->Prop}{s:Shared}{K:Frag}
end
end Att
namespace L2
theorem vals_ints:∀{vs:List Value} {ns:List Int},IntsAre vs ns->Vals (ns.map V.int) vs
 |_,_,.nil=>.nil
 |_,_,.cons n t h=>.cons ⟨t,rfl⟩ (vals_ints h)
def defArgs (s:Stmt):Arguments:=match s with
 | .FunctionDef _ a _ _ _ _ _ _ _ _=>a
 |_=>{posonlyargs:=[],args:=[],vararg:=none,kwonlyargs:=[],kw_defaults:=[],kwarg:=none,defaults:=[]}
def defBody (s:Stmt):List Stmt:=match s with
 | .FunctionDef _ _ b _ _ _ _ _ _ _=>b
 |_=>[]
def defScope (s:Stmt):Scope:=match s with
 | .FunctionDef _ _ _ _ _ _ sc _ _ _=>sc
 |_=>{kind:=.function,names:=[],isGenerator:=false,isCoroutine:=false}
abbrev CX0:CXT:=fun _ _ _ _ _ _=>False
abbrev E0:XK:=fun _ _ _=>False
theorem pass0 {X:Cx}:Passes CX0 X E0:=fun _ _ _ _ _ _ _ h=>h.elim
structure Fun (K:W.Frag)(x qual:Str)(st:Stmt)(f:Addr)(fd:FuncData):Prop where
 ex:∃(oc:Value) (od:Option Addr) (kV doc pm:Value) (an:Option Addr) (cdv ct:Value) (osl:Array (Option Value)),
  fd=PySem.W.fnOf x qual (defArgs st) (defBody st) (defScope st) .none kV doc pm an cdv ct/\K.lookup f=some ⟨oc,od,.func fd,osl⟩/\codeIn K cdv qual=true
 kp:keepIn K (.ref f)=true
section
variable {P:Program}{w:World}{K:W.Frag}{mg:Str->Option Value}{base:Heap}
theorem Fun.ok {x qual:Str}{st:Stmt}{f:Addr}{fd:FuncData}{N ps:List Str}{k:Nat}{sp:Sp}(F:Fun K x qual st f fd)(S:FnScope N ps (defScope st))(len:∀vs H Q E,sp vs H Q E->vs.length=ps.length)(hbody:∀(cdv:Value) (A:Around) (outer:List Env) (s:Shared) (H:Hp) (vs:List V) (Q:VK) (E:XK),Room k (A.deeper (envOfC qual (defScope st) s.heap.objs.size f cdv))->sp vs H Q E->
  ∃t,PSs (cxOf CX0 P w K mg base N qual (defScope st) f cdv A outer s H E).nox (defBody st) t/\t {nx:=fun _ H'=>Q .non H',rt:=Q} (start N vs) H):FnOk P w K mg base CX0 (k+1) f fd ps sp:=by
 obtain⟨oc,od,kV,doc,pm,an,cdv,ct,osl,rfl,lk,hcd⟩:=F.ex
 refine fn_of lk hcd S len fun A outer s H vs Q E hr hsp=>?_
 obtain⟨t,h,q⟩:=hbody cdv A outer s H vs Q E hr hsp
 exact⟨t,h.nox,q⟩
theorem Fun.binds {x qual:Str}{st:Stmt}{f:Addr}{fd:FuncData}{ps:List Str}(F:Fun K x qual st f fd)(h:∀(kV doc pm:Value) (an:Option Addr) (cdv ct:Value) (us:List Value),us.length=ps.length->bindArgs (PySem.W.fnOf x qual (defArgs st) (defBody st) (defScope st) .none kV doc pm an cdv ct) ⟨us,[]⟩=pure (ps.zip us)):Binds K fd ps []:=by
 obtain⟨oc,od,kV,doc,pm,an,cdv,ct,osl,rfl,lk,hcd⟩:=F.ex
 exact .all (h kV doc pm an cdv ct)
theorem fun_mk {x qual:Str}{st:Stmt}{f:Addr}{oc:Value}{od an:Option Addr}{osl:Array (Option Value)}{kV doc pm cdv ct:Value}(l:K.lookup f=some ⟨oc,od,.func (PySem.W.fnOf x qual (defArgs st) (defBody st) (defScope st) .none kV doc pm an cdv ct),osl⟩)(c:codeIn K cdv qual=true)(k:keepIn K (.ref f)=true):Fun K x qual st f (PySem.W.fnOf x qual (defArgs st) (defBody st) (defScope st) .none kV doc pm an cdv ct):=⟨⟨oc,od,kV,doc,pm,an,cdv,ct,osl,rfl,l,c⟩,k⟩
end
section
variable {X:Cx}
theorem pv (i:Nat){x:Str}{pos:Pos}(hN:X.N[i]?=some x:=by rfl)(hv:Vis X.env.scope x:=by first | exact Or.inl rfl | exact Or.inr (Or.inl rfl) | exact Or.inr (Or.inr rfl))(hd:(x==("__debug__" : Str))=false:=by decide)(hcd:(x==("__classdict__" : Str))=false:=by decide):PE X (.Name x pos) (tVar i):=pe_var hN hv hd hcd
end
theorem iteF {A B:Prop}(h:B):if false=true then A else B:=by
 rw[if_neg Bool.false_ne_true]
 exact h
theorem iteT {A B:Prop}(h:A):if true=true then A else B:=by
 rw[if_pos rfl]
 exact h
theorem ite2 {c A B:Prop}[Decidable c](h1:c->A)(h2:¬c->B):if c then A else B:=by
 by_cases h:c
 ·rw[if_pos h]
  exact h1 h
 ·rw[if_neg h]
  exact h2 h
theorem iteNS {c A B:Prop}[Decidable c](hc:c)(h:B):if(!decide c)=true then A else B:=by
 rw[decide_eq_true hc]
 exact iteF h
def Same (H H':Hp):Prop:=∀b o,H b=some o->H' b=some o
theorem Same.refl (H:Hp):Same H H:=fun _ _ h=>h
theorem Same.trans {H H1 H2:Hp}(a:Same H H1)(b:Same H1 H2):Same H H2:=fun c o h=>b c o (a c o h)
theorem Same.seq {K:W.Frag}{H H':Hp}{a:Addr}{xs:List V}(e:Same H H')(h:SqL K H a xs):SqL K H' a xs:=by
 rcases h with(h | ⟨o,h⟩) | h
 ·exact .inl (.inl (e _ _ h))
 ·exact .inl (.inr ⟨o,e _ _ h⟩)
 ·exact .inr h
open PySem PySem.W PyProof.Rows
structure Pm (n:Nat)(p:Array Nat):Prop where
 perm:p.toList.Perm (List.range n)
section
variable {n:Nat}{p:Array Nat}
end
section
variable {cmp:Nat->Nat->(Bool->Shared->Prop)->Shared->Prop}{key:Nat->Int}{J:Shared->Prop}{n:Nat}{s:Shared}
end
end L2
namespace L2
theorem relab_free {env:Env}:∀{ns:List (Str×NameKind)} {x:Str},ns.lookup x=some .free->
 (ns.map fun(n,k)=>if(k==NameKind.free&&env.scope.kind==.function&&env.kindOf n==some .cell) then(n,NameKind.cell) else(n,k)).lookup x=some .cell\/
 (ns.map fun(n,k)=>if(k==NameKind.free&&env.scope.kind==.function&&env.kindOf n==some .cell) then(n,NameKind.cell) else(n,k)).lookup x=some .free
 |[],_,h=>by simp at h
 |(n,k)::r,x,h=>by
  rw[map_cons]
  by_cases e:(x==n)=true
  ·rw[lookup_cons,e]at h
   have hk:k=.free:=by simpa using h
   subst hk
   by_cases q:(NameKind.free==NameKind.free&&env.scope.kind==.function&&env.kindOf n==some .cell)=true
   ·left;dsimp only;rw[if_pos q,lookup_cons,e]
   ·right;dsimp only;rw[if_neg q,lookup_cons,e]
  ·have e':(x==n)=false:=by simpa using e
   rw[lookup_cons,e']at h
   have ih:=relab_free (env:=env) h
   dsimp only
   split<;>(rw[lookup_cons,e'];exact ih)
theorem relab_back {env:Env}:∀{ns:List (Str×NameKind)} {x:Str} {k:NameKind},(∀y∈ns,y.2≠.cell)->(k=.cell\/k=.free)->
 (ns.map fun(n,k)=>if(k==NameKind.free&&env.scope.kind==.function&&env.kindOf n==some .cell) then(n,NameKind.cell) else(n,k)).lookup x=some k->(x,NameKind.free)∈ns
 |[],_,_,_,_,h=>by simp at h
 |(n,k')::r,x,k,nc,hk,h=>by
  rw[map_cons]at h
  have ih:=relab_back (env:=env) (ns:=r) (x:=x) (k:=k) (fun y hy=>nc y (mem_cons_of_mem _ hy)) hk
  by_cases e:(x==n)=true
  ·have ex:x=n:=by simpa using e
   subst ex
   by_cases q:(k'==NameKind.free&&env.scope.kind==.function&&env.kindOf x==some .cell)=true
   ·have:k'=.free:=by
     cases k'<;>first | rfl | (simp at q)
    subst this
    exact mem_cons_self
   ·dsimp only at h
    rw[if_neg q,lookup_cons,e]at h
    have:k'=k:=by simpa using h
    subst this
    rcases hk with z | z
    ·exact absurd z (nc (x,k') mem_cons_self)
    ·subst z;exact mem_cons_self
  ·have e':(x==n)=false:=by simpa using e
   refine mem_cons_of_mem _ (ih ?_)
   dsimp only at h
   split at h<;>(rw[lookup_cons,e']at h;exact h)
theorem clos_step {env:Env}:∀(ns:List (Str×NameKind)) (acc:List (Str×Addr)),(∀y∈ns,y.2=.free->∃c,env.cells.lookup y.1=some c)->
 (∀x c,acc.lookup x=some c->env.cells.lookup x=some c)->
 ∃cl:List (Str×Addr),(forIn ns acc fun x r=>(match x with | (name,kind)=>if(kind==NameKind.free)=true then do let c <-cellOf env name;pure (ForInStep.yield ((name,c)::r)) else pure (ForInStep.yield r):Sem (ForInStep (List (Str×Addr)))):Sem (List (Str×Addr)))=pure cl/\
  (∀x c,cl.lookup x=some c->env.cells.lookup x=some c)/\(∀x,(x,NameKind.free)∈ns->∃c,cl.lookup x=some c)/\∀x c,acc.lookup x=some c->∃c',cl.lookup x=some c'
 |[],acc,_,hacc=>⟨acc,rfl,hacc,fun _ h=>absurd h (by simp),fun x c h=>⟨c,h⟩⟩
 |(n,k)::r,acc,hfr,hacc=>by
  by_cases q:(k==NameKind.free)=true
  ·have hk:k=.free:=by cases k<;>first | rfl | (simp at q)
   subst hk
   obtain⟨c,hc⟩:=hfr (n,.free) mem_cons_self rfl
   have hof:cellOf env n=pure c:=by unfold cellOf;rw[hc]
   obtain⟨cl,h1,h2,h3,h4⟩:=clos_step (env:=env) r ((n,c)::acc) (fun y hy=>hfr y (mem_cons_of_mem _ hy)) (fun x c' h=>by
    by_cases e:(x==n)=true
    ·have ex:x=n:=by simpa using e
     subst ex
     rw[lookup_cons,e]at h
     have:c=c':=by simpa using h
     rw[<-this];exact hc
    ·have e':(x==n)=false:=by simpa using e
     rw[lookup_cons,e']at h
     exact hacc x c' h)
   refine⟨cl,?_,h2,fun x hx=>?_,fun x c' h=>?_⟩
   ·rw[List.forIn_cons]
    dsimp only
    rw[if_pos q,hof]
    exact h1
   ·rcases mem_cons.mp hx with e | e
    ·cases e
     exact h4 n c (by simp)
    ·exact h3 x e
   ·by_cases e:(x==n)=true
    ·have ex:x=n:=by simpa using e
     subst ex
     exact h4 x c (by simp)
    ·have e':(x==n)=false:=by simpa using e
     exact h4 x c' (by rw[lookup_cons,e'];exact h)
  ·obtain⟨cl,h1,h2,h3,h4⟩:=clos_step (env:=env) r acc (fun y hy=>hfr y (mem_cons_of_mem _ hy)) hacc
   refine⟨cl,?_,h2,fun x hx=>?_,h4⟩
   ·rw[List.forIn_cons]
    dsimp only
    rw[if_neg q]
    exact h1
   ·rcases mem_cons.mp hx with e | e
    ·cases e
     exact absurd rfl q
    ·exact h3 x e
theorem clos_of {env:Env}{scope:Scope}(hfr:∀y∈scope.names,y.2=.free->∃c,env.cells.lookup y.1=some c) :
 ∃cl:List (Str×Addr),closureFor scope env=pure cl/\(∀x c,cl.lookup x=some c->env.cells.lookup x=some c)/\∀x,(x,NameKind.free)∈scope.names->∃c,cl.lookup x=some c:=by
 obtain⟨cl,h1,h2,h3,_⟩:=clos_step (env:=env) scope.names [] hfr (fun x c h=>by simp at h)
 refine⟨cl,?_,h2,h3⟩
 unfold closureFor
 dsimp only
 rw[h1]
 rfl
def inner (nt:Nat)(js:List Nat)(σ:St):St:=replicate nt none++js.map fun j=>(σ[j]?).join
def blk (X:Cx)(N:List Str)(scope:Scope)(cl:List (Str×Addr))(C:Addr)(s:Shared)(H:Hp)(fp:List Addr):Cx:=
 {X with N:=N,s₀:=s,H₀:=H,env:=compEnvC scope cl C X.env,outer:=X.stack,ex:=fp,fn:=fun _=>false,pn:=[],xe:=fun _ _=>False}
structure Blk (sc:Scope)(N0:List Str)(N:List Str)(nt:Nat)(js:List Nat)(scope:Scope):Prop where
 kind:scope.kind=.function
 loc:∀y∈scope.names,y.2=.local->scope.names.lookup y.1=some .local
 nocell:∀y∈scope.names,y.2≠.cell
 cap:∀y∈scope.names,y.2=.free->sc.names.lookup y.1=some .cell\/sc.names.lookup y.1=some .free
 len:N.length=nt+js.length
 out:N.drop nt=js.map fun j=>N0.getD j ""
 js:∀j∈js,j<N0.length
 fr:∀x∈N.drop nt,scope.names.lookup x=some .free
 nd:N.Nodup
theorem inner_get {nt:Nat}{js:List Nat}{σ:St}{i:Nat}{v:V}(h:(inner nt js σ)[i]?=some (some v)):∃k j,i=nt+k/\js[k]?=some j/\σ[j]?=some (some v):=by
 unfold inner at h
 by_cases hi:i<nt
 ·rw[getElem?_append_left (by simpa using hi),List.getElem?_replicate,if_pos hi]at h
  cases h
 ·rw[getElem?_append_right (by simpa using hi),length_replicate,getElem?_map]at h
  cases e:js[i - nt]? with
  |none=>rw[e]at h;cases h
  |some j=>
   rw[e]at h
   refine⟨i - nt,j,by omega,e,?_⟩
   have h':(σ[j]?).join=some v:=by simpa using h
   cases e2:σ[j]? with
   |none=>rw[e2]at h';cases h'
   |some o=>rw[e2]at h';cases o with
    |none=>cases h'
    |some w=>have:w=v:=by simpa using h'
             rw[this]
section
variable {X:Cx}{pins:List (Addr×Obj)}{σ:St}{H:Hp}{s:Shared}{N:List Str}{nt:Nat}{js:List Nat}{scope:Scope}{cl:List (Str×Addr)}{fp:List Addr}
theorem blk_start {h':Heap}{tk:Nat}(I:Inv X pins σ H s)(B:Blk X.env.scope X.N N nt js scope)(c1:∀x c,cl.lookup x=some c->X.env.cells.lookup x=some c)(c2:∀x,(x,NameKind.free)∈scope.names->∃c,cl.lookup x=some c)(hf:∀b∈fp,FpOk X pins H b)(hlt:∀b∈fp,b<s.heap.objs.size)(kp:∀b o,s.heap.get? b=some o->h'.get? b=some o)(hC:h'.Ns (s.heap.objs.size+1) fun _=>none)(hD:h'.get? s.heap.objs.size=some {cls:=.type "list",data:=.seq ([]:List Value).toArray 0}) :
 Inv (blk X N scope cl (s.heap.objs.size+1) s H fp) [] (inner nt js σ) (upd H s.heap.objs.size (.lst [])) {s with heap:=h',toks:=tk}:=by
 have hfr:∀a,s.heap.objs.size<=a->H a=none:=fun a ha=>I.hok.fresh ha
 have cold:∀x c,X.env.cells.lookup x=some c->c<s.heap.objs.size:=fun x c e=>by
  obtain⟨v,q⟩:=I.cell x c e
  exact q.lt
 refine⟨⟨I.ok.mod,B.kind,I.ok.glob,I.ok.blt,le_succ _,fun x y c a b=>I.ok.inj x y c (c1 x c a) (c1 y c b),fun x hx=>?_,fun x c z _=>absurd z Bool.false_ne_true,I.ok.hd,I.ok.frames,.inl rfl,fun b hb=>?_,I.bs,le_trans I.ok.bsz I.sz,fun b o e hb=>?_,fun b hb z=>?_,I.stack,I.stkFree⟩,
  rfl,I.bare,Un.laid kp (Nat.le_refl _) (hfr _ (Nat.le_refl _)),⟨_,hC,fun i x v h1 h2 h3=>?_⟩,fun x c e=>?_,?_,fun x c e=>?_,fun p hp=>absurd (show p∈([]:List (Addr×Obj)) from hp) (by simp),I.hok.laid kp (Nat.le_refl _) ⟨zero_le _,[],0,.nil,hD⟩,?_⟩
 ·have:(x,NameKind.free)∈scope.names:=hx.elim (fun z=>relab_back B.nocell (.inl rfl) z) fun z=>relab_back B.nocell (.inr rfl) z
  exact c2 x this
 ·refine⟨ne_of_lt (lt_succ_of_lt (hlt b hb)),fun x c e=>(hf b hb).2.2.2.2.1 x c (c1 x c e)⟩
 ·rcases(hf b hb).2.2.2.1 with z | z
  ·exact I.ok.noex b o e z
  ·exact absurd (Nat.lt_of_lt_of_le (lt_size (I.ok.bs b o e).1) z) (lt_irrefl _)
 ·rcases mem_cons.mp (I.stkSub b z) with q | q
  ·exact(hf b hb).2.1 q
  ·exact(hf b hb).2.2.1 q
 ·obtain⟨k,j,rfl,hk,hv⟩:=inner_get h2
  have hkl:k<js.length:=(List.getElem?_eq_some_iff.mp hk).1
  have h1':(N.drop nt)[k]?=some x:=by rw[getElem?_drop];exact h1
  have hxm:x∈N.drop nt:=mem_of_getElem? h1'
  have hfree:scope.names.lookup x=some .free:=B.fr x hxm
  have hj:X.N[j]?=some x:=by
   rw[B.out,getElem?_map,hk]at h1'
   have hjl:j<X.N.length:=B.js j (mem_of_getElem? hk)
   rw[List.getElem?_eq_getElem hjl]
   have e:X.N.getD j "" = x:=by simpa using h1'
   rw[<-e]
   simp[getD_eq_getElem?_getD,List.getElem?_eq_getElem hjl]
  have hcap:=B.cap _ (PySem.mem_of_lookup hfree) rfl
  obtain⟨m,hn,hl⟩:=I.loc
  obtain⟨u,ru,lk⟩:=hl j x v hj hv (hcap.elim (fun z=>.inr (.inl z)) fun z=>.inr (.inr z))
  refine⟨u,ru,.inr ⟨relab_free hfree,?_⟩⟩
  rcases lk with⟨z,_⟩ | ⟨_,c,e,q⟩
  ·exact absurd (show X.env.scope.names.lookup x=some .local from z) (by rcases hcap with y | y<;>(rw[y];decide))
  ·obtain⟨c',e'⟩:=c2 x (PySem.mem_of_lookup hfree)
   have ec:=c1 x c' e'
   rw[e]at ec
   cases ec
   obtain⟨o,ho,hd⟩:=q
   exact⟨c,e',o,kp c o ho,hd⟩
 ·obtain⟨v,o,ho,hd⟩:=I.cell x c (c1 x c e)
  exact⟨v,o,kp c o ho,hd⟩
 ·show upd H _ _ (s.heap.objs.size+1)=none
  rw[upd_ne (ne_of_gt (lt_succ_self _))]
  exact hfr _ (le_succ _)
 ·show upd H _ _ c=none
  rw[upd_ne (ne_of_lt (cold x c (c1 x c e)))]
  exact I.freeC x c (c1 x c e)
 ·show(inner nt js σ).length=N.length
  unfold inner
  rw[length_append,length_replicate,length_map,B.len]
end
def PTs (X:Cx)(ifs:List Expr)(t:TT):Prop:=
 ∀(pins:List (Addr×Obj)) (s:Shared) (σ:St) (H:Hp) (Q:Bool->Hp->Prop),Inv X pins σ H s->t σ H Q->
  wpAny (model X.prog X.w) X.A (forIn ifs true fun c r=>if r=true then do let ok <-isTrue c X.env (eval c X.env);pure (ForInStep.yield ok) else pure (ForInStep.yield r)) (TP X pins σ Q) X.xe s
def tYes:TT:=fun _ H Q=>Q true H
theorem pts_nil {X:Cx}:PTs X [] tYes:=fun _ _ _ H _ I h=>wpAny_tests_nil ⟨H,I,h⟩
theorem pts_one {X:Cx}{c:Expr}{t:TT}(h:PT X c t):PTs X [c] t:=fun pins s σ H Q I q=>wpAny_tests_one (h pins s σ H Q I q)
section
variable {prog:Program}{w:World}{A:Around}{s:Shared}{R:Result->Shared->Prop}
theorem comp_turns {elt tg iter:Expr}{ifs:List Expr}{scope:Scope}{pos:Pos}{it acc:Value}{env:Env}(J:Nat->Shared->Prop)(turn:∀n s,J n s->wpAny (model prog w) A (pyNext it) (fun r s1=>match r with
  |none=>R (.ok .next) s1
  |some v=>wpAny (model prog w) A (letOwnedTupleGo tg it v) (fun _ s2=>wpAny (model prog w) A (assign tg env v) (fun _ s3=>
   wpAny (model prog w) A (forIn ifs true fun c r=>if r=true then do let ok <-isTrue c env (eval c env);pure (ForInStep.yield ok) else pure (ForInStep.yield r)) (fun ok s4=>
    if ok=true then wpAny (model prog w) A (eval elt env) (fun x s5=>wpAny (model prog w) A (call (.builtin "list.append") [acc,x]) (fun _ s6=>∃m,m<n/\J m s6) (fun _ _=>False) s5) (fun _ _=>False) s4
    else ∃m,m<n/\J m s4) (fun _ _=>False) s3) (fun _ _=>False) s2) (fun _ _=>False) s1) (fun _ _=>False) s)(n:Nat)(h:J n s):codeAny (model prog w) A (.compLoop (.ListComp elt [⟨tg,iter,ifs,0⟩] scope pos) 0 it acc env) R s:=by
 refine codeAny_loop rfl J (fun k s' hJ=>?_) n h
 show wpAny _ A ((compTurn (.ListComp elt [⟨tg,iter,ifs,0⟩] scope pos) 0 it acc env).onRaise (fun x=>do noteFrame x env;theTreesLotGoes x)) _ _ s'
 refine wpAny_noted ?_
 rw[compTurn_list]
 refine wpAny_bind (wpAny_standAt (wpAny_bind (wpAny_mono (turn k s' hJ) (fun r s1 q1=>?_) fun _ _ z=>z.elim)))
 cases r with
 |none=>exact wpAny_pure q1
 |some v=>
  refine wpAny_bind (wpAny_mono q1 (fun _ s2 q2=>wpAny_bind (wpAny_mono q2 (fun _ s3 q3=>wpAny_bind (wpAny_mono q3 (fun ok s4 q4=>?_) fun _ _ z=>z.elim)) fun _ _ z=>z.elim)) fun _ _ z=>z.elim)
  cases ok with
  |false=>exact wpAny_pure ⟨rfl,q4⟩
  |true=>exact wpAny_bind (wpAny_bind (wpAny_mono q4 (fun x s5 q5=>wpAny_bind (wpAny_mono q5 (fun _ s6 q6=>wpAny_pure (wpAny_pure ⟨rfl,q6⟩)) fun _ _ z=>z.elim)) fun _ _ z=>z.elim))
end
def cmpW (J:It)(g:TG)(tt:TT)(te:TE)(Q:VK)(D:Addr)(σ0:St)(H1:Hp):Prop:=∃W:Nat->Nat->St->Hp->Prop,(∃m,W 0 m σ0 (upd H1 D (.lst [])))/\
 ∀i m σ' H',W i m σ' H'->(J.stop i H'/\Q (.ref D) H')\/(J.go i H'/\∀x H2,J.yld i H' x H2->g x σ' H2 fun σ3 H3=>tt σ3 H3 fun ok H4=>
  if ok=true then te σ3 H4 fun y H5=>∃ys,H5 D=some (.lst ys)/\ys.length<sizeLine/\∃m',m'<m/\W (i+1) m' σ3 (upd H5 D (.lst (ys++[y]))) else ∃m',m'<m/\W (i+1) m' σ3 H4)
def tComp (nt:Nat)(js:List Nat)(wi:TI)(g:TG)(tt:TT)(te:TE):TE:=fun σ H Q=>wi σ H fun J H1=>∀D,H1 D=none->cmpW J g tt te Q D (inner nt js σ) H1
theorem pe_comp {X:Cx}{elt tg iter:Expr}{ifs:List Expr}{scope:Scope}{pos:Pos}{N:List Str}{nt:Nat}{js:List Nat}{sc:Scope}{N0:List Str}{wi:TI}{g:TG}{tt:TT}{te:TE}(hc:X.calm=true)(hsc:X.env.scope=sc)(hN:X.N=N0)(B:Blk sc N0 N nt js scope)(hi:PI X tg iter wi)(hg:∀cl C s H fp,PG (blk X N scope cl C s H fp) tg g)(ht:∀cl C s H fp,PTs (blk X N scope cl C s H fp) ifs tt)(he:∀cl C s H fp,PE (blk X N scope cl C s H fp) elt te)(hs:∀x,foldedSetIterable iter X.env x=pure x:=by intro _;rfl):PE X (.ListComp elt [⟨tg,iter,ifs,0⟩] scope pos) (tComp nt js wi g tt te):=by
 subst hsc hN
 intro pins s σ H Q I h
 obtain⟨cl,hcl,c1,c2⟩:=clos_of (env:=X.env) (scope:=scope) fun y hy hk=>I.ok.has y.1 (B.cap y hy hk)
 rw[eval_ListComp]
 refine wpAny_comprehension_free (use:=none) rfl hs hcl B.kind B.loc (thn (hi pins s σ H _ I h) fun v s1 q1=>thn q1 fun itv s2 q2=>?_)
 obtain⟨it,fp,tn,J,H2,e,I2,T,st2,f2,q2⟩:=q2
 subst e
 obtain⟨W,⟨m0,w0⟩,turn⟩:=q2 s2.heap.objs.size (I2.hok.fresh (Nat.le_refl _))
 have hlt:∀b∈fp,b<s2.heap.objs.size:=fun b hb=>by
  obtain⟨o,eo,_⟩:=T.obj _ _ st2 b hb
  exact lt_size eo
 refine wpAny_newObj_type (wpAny_newFunctionEnv B.nocell (by intro y hy;simp at hy) (fun h1 hns hsb=>?_) B.kind)
 dsimp only at hns hsb ⊢
 have hsz:(s2.heap.push {cls:=.type "list",dict:=none,data:=.seq ([]:List Value).toArray}).objs.size=s2.heap.objs.size+1:=by rw[size_push]
 have old:∀b o,s2.heap.get? b=some o->h1.get? b=some o:=fun b o eb=>hsb.extBut b o (by rw[hsz];exact ne_of_lt (lt_succ_of_lt (lt_size eb))) (get?_push_of_some _ (get?_push_of_some _ eb))
 have hD:h1.get? s2.heap.objs.size=some {cls:=.type "list",data:=.seq ([]:List Value).toArray 0}:=hsb.extBut _ _ (by rw[hsz];exact ne_of_lt (lt_succ_self _)) (get?_push_of_some _ (get?_push_size _ rfl))
 rw[hsz]at hns
 have I3:=blk_start (cl:=cl) (fp:=fp) (tk:=s2.toks+([]:List (Str×Value)).length) I2 B c1 c2 f2 hlt old (show h1.Ns (s2.heap.objs.size+1) fun _=>none from hns) hD
 have stat:∀{H':Hp},(∀b∈fp,H' b=none)->∀b∈fp,FpOk (blk X N scope cl (s2.heap.objs.size+1) s2 H2 fp) [] H' b:=fun{H'} hn b hb=>
  ⟨hn b hb,ne_of_lt (lt_succ_of_lt (hlt b hb)),fun z=>(mem_cons.mp (I2.stkSub b z)).elim (f2 b hb).2.1 (f2 b hb).2.2.1,.inl hb,fun x c ec=>(f2 b hb).2.2.2.2.1 x c (c1 x c ec),fun p hp=>absurd (show p∈([]:List (Addr×Obj)) from hp) (by simp)⟩
 have fin:∀{i:Nat} {σ':St} {H':Hp} {s':Shared},Inv (blk X N scope cl (s2.heap.objs.size+1) s2 H2 fp) [] σ' H' s'->Q (.ref s2.heap.objs.size) H'->
  compPost (model X.prog X.w) X.A X.xe none (EP X pins σ Q) (.ref s2.heap.objs.size) (s2.heap.objs.size+1) (.ok .next) s':=fun{i σ' H' s'} Ib q=>by
  obtain⟨m,hn,_⟩:=id Ib.loc
  refine⟨m,hn,fun h'' hs''=>?_⟩
  have I4:Inv X pins σ H' s':=I2.call' Ib.os Ib.base Ib.hok Ib.bare fun b hb=>⟨(f2 b hb).2.2.2.1,(f2 b hb).2.1,(f2 b hb).2.2.2.2.1,(f2 b hb).2.2.2.2.2⟩
  obtain⟨g0,g1,g2,g3,g4,g5⟩:=I2.fpOk (H':=H') (le_succ _) Ib.free
  exact⟨.ref s2.heap.objs.size,H',I4.turned (t':=s'.toks) (fun b o hb eb=>hs''.extBut b o hb eb) g0 g1 g3 g4 g5,rfl,q⟩
 have loop:codeAny (model X.prog X.w) X.A (.compLoop (.ListComp elt [⟨tg,iter,ifs,0⟩] scope pos) 0 (.ref it) (.ref s2.heap.objs.size) (compEnvC scope cl (s2.heap.objs.size+1) X.env))
  (compPost (model X.prog X.w) X.A X.xe none (EP X pins σ Q) (.ref s2.heap.objs.size) (s2.heap.objs.size+1)) {s2 with heap:=h1,toks:=s2.toks+([]:List (Str×Value)).length}:=by
  refine comp_turns (fun n s'=>∃i σ' H',Inv (blk X N scope cl (s2.heap.objs.size+1) s2 H2 fp) [] σ' H' s'/\tn i s'.heap/\(∀b∈fp,H' b=none)/\W i n σ' H') ?_ m0
   ⟨0,_,_,I3,T.keep _ _ _ st2 fun b _ o eb=>old b o eb,fun b hb=>?_,w0⟩
  ·rintro n s3 ⟨i,σ3,H3,J3,st3,fr3,w3⟩
   rcases turn i n σ3 H3 w3 with⟨stop,qn⟩ | ⟨go,step⟩
   ·refine thn (T.done (blk X N scope cl (s2.heap.objs.size+1) s2 H2 fp) rfl rfl rfl hc i [] s3 σ3 H3 _ J3 (stat fr3) st3 stop) fun r s4 ⟨hr,I4⟩=>?_
    subst hr
    exact fin (i:=i) I4 qn
   ·refine thn (T.item (blk X N scope cl (s2.heap.objs.size+1) s2 H2 fp) rfl rfl rfl hc i [] s3 σ3 H3 _ J3 (stat fr3) st3 go) fun r s4 ⟨u,hr,h4⟩=>?_
    subst hr
    refine thn h4 fun _ s5 ⟨x,H5,I5,r5,y5,st5,fr5⟩=>?_
    have I5':=I5.pinned (stat fr5) (T.obj _ _ st5)
    refine thn (hg _ _ _ _ _ _ s5 σ3 H5 x u _ I5' r5 (step x H5 y5)) fun _ s6 ⟨σ6,H6,I6,q6⟩=>?_
    have again:∀{σ7:St} {H7:Hp} {s7:Shared} {k:Nat},Inv (blk X N scope cl (s2.heap.objs.size+1) s2 H2 fp) ([]++pinsAt fp s5.heap) σ7 H7 s7->k<n->W (i+1) k σ7 H7->
     ∃k,k<n/\∃i σ' H',Inv (blk X N scope cl (s2.heap.objs.size+1) s2 H2 fp) [] σ' H' s7/\tn i s7.heap/\(∀b∈fp,H' b=none)/\W i k σ' H':=fun{σ7 H7 s7 k} I7 hk w7=>by
     refine⟨k,hk,i+1,σ7,H7,I7.unpinned,T.keep _ _ _ st5 fun b hb o eb=>(I7.pin (b,o) (mem_append_right _ (mem_append_right _ (mem_pinsAt hb eb)))).1,fun b hb=>?_,w7⟩
     obtain⟨o,eb,_⟩:=T.obj _ _ st5 b hb
     exact(I7.pin (b,o) (mem_append_right _ (mem_append_right _ (mem_pinsAt hb eb)))).2.1
    refine thn (ht _ _ _ _ _ _ s6 σ6 H6 _ I6 q6) fun ok s7 ⟨H7,I7,q7⟩=>?_
    cases ok with
    |false=>
     rw[if_neg Bool.false_ne_true]at q7 ⊢
     obtain⟨k,hk,w7⟩:=q7
     exact again I7 hk w7
    |true=>
     rw[if_pos rfl]at q7 ⊢
     refine thn (he _ _ _ _ _ _ s7 σ6 H7 _ I7 q7) fun y s8 ⟨v8,H8,I8,r8,ys,e8,z8,k,hk,w8⟩=>?_
     refine thn (mt_append _ s8 σ6 H8 (.ref s2.heap.objs.size) [v8] _ [y] (fun _ H9=>W (i+1) k σ6 H9) I8 rfl (.cons r8 .nil) ⟨_,ys,v8,rfl,rfl,e8,z8,w8⟩) fun _ s9 ⟨_,H9,I9,_,w9⟩=>?_
     exact again I9 hk w9
  ·show upd H2 _ _ b=none
   rw[upd_ne (ne_of_lt (hlt b hb))]
   exact(f2 b hb).1
 rw[hsz]
 exact codeAny_compStart_list loop (T.self _ 0 _ _ _ (T.keep _ _ _ st2 fun b _ o eb=>old b o eb) loop)
section
variable {X:Cx}
inductive Kn (H:Hp):V->String->Prop where
 |non:Kn H .non "NoneType"
 |bl (b:Bool):Kn H (.bl b) "bool"
 |int (i:Int):Kn H (.int i) "int"
 |str (x:Str):Kn H (.str x) "str"
 |lst {a:Addr} {xs:List V} (e:H a=some (.lst xs)):Kn H (.ref a) "list"
 |tup {a:Addr} {xs:List V} (e:H a=some (.tup xs)):Kn H (.ref a) "tuple"
 |dK {a:Addr} {kvs:List (Key×V)} (e:H a=some (.dK kvs)):Kn H (.ref a) "dict"
theorem Kn.ty {K:W.Frag}{H:Hp}{v:V}{T:String}(h:Kn H v T):TyOf K H v (.type T):=by
 cases h with
 |non=>exact .non
 |bl b=>exact .bl b
 |int i=>exact .int i
 |str x=>exact .str x
 |lst e=>exact .lst e
 |tup e=>exact .tup e
 |dK e=>exact .dK e
def subT (T U:String):Bool:=T==U||(T=="bool"&&U=="int")
theorem kit_int {K:W.Frag}{H:Hp}{v:V}{T:String}(h:Kn H v T):kitOne K (.type T) (.type "int")=some (subT T "int"):=by
 cases h<;>rfl
theorem kit_bool {K:W.Frag}{H:Hp}{v:V}{T:String}(h:Kn H v T):kitOne K (.type T) (.type "bool")=some (subT T "bool"):=by
 cases h<;>rfl
theorem kit_tuple {K:W.Frag}{H:Hp}{v:V}{T:String}(h:Kn H v T):kitOne K (.type T) (.type "tuple")=some (subT T "tuple"):=by
 cases h<;>rfl
theorem kit_list {K:W.Frag}{H:Hp}{v:V}{T:String}(h:Kn H v T):kitOne K (.type T) (.type "list")=some (subT T "list"):=by
 cases h<;>rfl
theorem call_isi:CallR X (.builtin "isinstance") (fun xs H Q=>∃x T U,xs=[x,.ty U]/\Kn H x T/\(U="int"\/U="bool"\/U="tuple"\/U="list")/\Q (.bl (subT T U)) H):=by
 intro pins s σ H xs us Q I r h
 obtain⟨x,T,U,rfl,hk,hU,q⟩:=h
 obtain⟨u,c,rfl,rx,rc⟩:=vals2 r
 cases(show c=Value.type U from rc)
 refine isinst_ok I rx hk.ty (b:=subT T U) ?_ fun tk=>⟨.bl (subT T U),H,I.tok tk,rfl,q⟩
 rcases hU with rfl | rfl | rfl | rfl
 ·exact kit_int hk
 ·exact kit_bool hk
 ·exact kit_tuple hk
 ·exact kit_list hk
theorem call_allB (hc:X.calm=true):CallR X (.builtin "all") (fun xs H Q=>∃(p:Addr) (bs:List Bool),xs=[.ref p]/\SqL X.K H p (bs.map V.bl)/\Q (.bl (bs.all id)) H):=by
 intro pins s σ H xs us Q I r h
 obtain⟨p,bs,rfl,hq,q⟩:=h
 obtain⟨u,rfl,rx⟩:=vals1 r
 cases(show u=Value.ref p from rx)
 obtain⟨its,r',pl,hz⟩:=I.list hq
 have hsz:its.length=bs.length:=by have:=r'.length;rw[length_map]at this;exact this.symm
 refine call_all_walk (wpAny_pyIter_list pl.isList ?_)
 have hne:p≠s.heap.objs.size:=by
  obtain⟨o,ho,_⟩:=pl.isList
  exact ne_of_lt (lt_size ho)
 refine⟨_,_,_,its.toArray.size,_,_,fun i=>bs.getD i true,rfl,Walks.list (A:=X.A.in1) (show X.A.in1.handled=none from I.ok.hd hc) s.heap.objs.size p hne its.toArray,⟨⟨_,get?_push_size _ rfl,rfl,rfl⟩,pl.isList.push _⟩,?_,?_⟩
 ·intro i v s' Q' E' hP hQ
  have hv:its[i]?=some v:=by simpa using hP
  have hi:i<its.length:=(List.getElem?_eq_some_iff.mp hv).1
  have hb:(bs.map V.bl)[i]?=some (V.bl (bs.getD i true)):=by
   rw[getElem?_map,List.getElem?_eq_getElem (by omega)]
   simp[getD_eq_getElem?_getD,List.getElem?_eq_getElem (show i<bs.length by omega)]
  obtain⟨w',hw,rw'⟩:=r'.get hb
  rw[hv]at hw
  cases hw
  cases(show v=Value.bool _ from rw')
  exact wpAny_truthy_bool hQ
 ·intro h' tk hk
  have e:(List.range its.toArray.size).all (fun i=>bs.getD i true)=bs.all id:=by
   rw[size_toArray,hsz]
   rw[Bool.eq_iff_iff,all_eq_true,all_eq_true]
   constructor
   ·intro h1 x hx
    obtain⟨i,hi,rfl⟩:=List.getElem_of_mem hx
    have:=h1 i (mem_range.mpr hi)
    rw[getD_eq_getElem?_getD,List.getElem?_eq_getElem hi]at this
    exact this
   ·intro h1 i hi
    have hi':=mem_range.mp hi
    rw[getD_eq_getElem?_getD,List.getElem?_eq_getElem hi']
    exact h1 _ (getElem_mem hi')
  rw[e]
  refine⟨.bl (bs.all id),H,I.kept (t':=tk) fun b o eb=>hk b o (fun z=>?_) (get?_push_of_some _ eb),rfl,q⟩
  have:b=s.heap.objs.size:=by simpa using z
  exact absurd (lt_size eb) (by rw[this];exact lt_irrefl _)
theorem same_new {H:Hp}{p:Addr}(h:H p=none)(o:HO):Same H (upd H p o):=fun b u q=>by rw[upd_ne (ne_of_none q h)];exact q
def rSlA:V->Option Int->Option Int->Hp->VK->Prop:=fun x lo hi H Q=>∃a xs,x=.ref a/\H a=some (.tup xs)/\∀p H',Same H H'->H' p=some (.tup (cutV xs lo hi))->Q (.ref p) H'
end
section
variable {prog:Program}{w:World}{A:Around}{E:Value->Shared->Prop}{s:Shared}
theorem tup_at {t:Addr}{items:Array Value}{k:Value}{Q:Value->Shared->Prop}(ht:IsTup s.heap t items)(h:wpAny (model prog w) A.in1 (Builtin.«tuple.__getitem__» ⟨[.ref t,k],[]⟩) (fun fin s'=>∃v,fin=.done (.ret v)/\Q v s') E s):wpAny (model prog w) A (getItem (.ref t) k) Q E s:=by
 have sl:=slot_tuple_getitem
 unfold getItem
 wp_walk using wpAny_sequenceKey ht.typeIs (by decide),wpAny_callSpecial?_slot (name:=oS "__getitem__") ht.typeIs sl (wpAny_call_entry sl ht.typeIs entry_tuple_getitem (wpAny_mono h (fun fin s' ⟨v,e,q⟩=>⟨v,e,wpAny_pure q⟩) fun _ _ e=>e) (args_tuple_getitem _ _))
theorem cut_whole {t sl:Addr}{items:Array Value}{vl vu:Value}{lo hi:Option Int}{Q:Value->Shared->Prop}(ht:IsTup s.heap t items)(hs:s.heap.IsSliceOf sl vl vu .none)(pl:IsPart vl lo)(pu:IsPart vu hi)(hw:HT.sIx items.size 0 lo=0/\HT.sIx items.size items.size hi=items.size)(h:Q (.ref t) s):wpAny (model prog w) A (getItem (.ref t) (.ref sl)) Q E s:=by
 have f1:s.TypeIs (.ref sl) "slice":=let⟨o,ho,hc,_⟩:=hs;⟨o,ho,hc⟩
 have f2:=ht.typeIs
 refine tup_at ht ?_
 wp_walk using tupleItemsOf_ ht,HT.sliceApplied_gen hs pl pu
 exact⟨_,rfl,h⟩
end
section
variable {X:Cx}
theorem sl_tupA:SlR X rSlA:=by
 intro pins s σ H x v vl vu lo hi sl Q I rx hs pl pu h
 obtain⟨a,xs,rfl,hx,q⟩:=h
 cases(show v=Value.ref a from rx)
 by_cases hw:HT.sIx xs.length 0 lo=0/\HT.sIx xs.length xs.length hi=xs.length
 ·obtain⟨its,r,ht,hz⟩:=I.tuple (SqT.of hx)
  have hlen:its.toArray.size=xs.length:=by rw[size_toArray];exact r.length.symm
  refine⟨"tuple",_,slot_tuple_getitem.lookup,ht.typeIs,cut_whole ht hs pl pu (by rw[hlen];exact hw) ⟨.ref a,H,I,rfl,q a H (Same.refl H) ?_⟩⟩
  rw[hx]
  unfold cutV
  rw[hw.1,hw.2,List.drop_zero,Nat.sub_zero,take_length]
 ·exact sl_tup (X:=X) pins s σ H (.ref a) _ vl vu lo hi sl Q I rfl hs pl pu ⟨a,xs,rfl,SqT.of hx,hw,fun p hp=>q p _ (same_new hp _) upd_same⟩
end
structure Nx (P:Program)(w:World)(i l:Addr)(pl:Nat->Heap->Prop)(vs:Array Value):Prop where
 ne:l≠i
 there:∀k h,pl k h->(∃o,h.get? i=some o/\(∃c,o.cls=.type c/\(c="list_iterator"\/c="tuple_iterator"))/\∃f,o.data=.fields f)/\∃o,h.get? l=some o/\(o.cls=.type "list"\/o.cls=.type "tuple")
 keep:∀k h h',pl k h->(∀o,h.get? i=some o->h'.get? i=some o)->(∀o,h.get? l=some o->h'.get? l=some o)->pl k h'
 item:∀(A:Around) k (s:Shared) (Q:Value->Shared->Prop) (E:Value->Shared->Prop) x,pl k s.heap->vs[k]?=some x->(∀h',pl (k+1) h'->Heap.SameBut i s.heap h'->Q x {s with heap:=h'})->
  wpAny (model P w) A (Builtin.SmallTypes.nextOf (.ref i)) Q E s
 done:∀(A:Around) k (s:Shared) (Q:Value->Shared->Prop) (E:Value->Shared->Prop),A.handled=none->pl k s.heap->vs[k]?=none->
   (∀h' e,Heap.ExtBut i s.heap h'->(∃o,h'.get? e=some o/\o.cls=.type "StopIteration")->E (.ref e) {s with heap:=h'})->wpAny (model P w) A (Builtin.SmallTypes.nextOf (.ref i)) Q E s
theorem nx_list {P:Program}{w:World}{i l:Addr}(vs:Array Value)(hne:l≠i):Nx P w i l (fun k h=>h.IsListIter i l k/\h.IsList l vs) vs where
 ne:=hne
 there:=fun k h ⟨⟨o,e,c,d⟩,⟨o',e',c',_⟩⟩=>⟨⟨o,e,⟨_,c,.inl rfl⟩,_,d⟩,o',e',.inl c'⟩
 keep:=fun k h h' ⟨a,b⟩ e1 e2=>⟨a.at e1,b.at e2⟩
 item:=fun A k s Q E x ⟨a,b⟩ hx q=>wpAny_nextOf_list_item a b hx fun h' a' sb=>q h' ⟨a',b.extBut sb.extBut hne⟩ sb
 done:=fun A k s Q E hh ⟨a,b⟩ hx q=>wpAny_nextOf_list_end hh a b hx q
theorem tn_item (it t:Addr)(i:Nat)(dc:Option Addr)(sl:Array (Option Value))(items:Array Value)(x:Value)(hx:items[i]?=some x) :
 Meets (Builtin.«tuple_iterator.__next__» ⟨[.ref it],[]⟩) (fun _ R s=>s.heap.get? it=some ⟨.type "tuple_iterator",dc,.fields #[.ref t,.int i 0],sl⟩/\s.heap.IsTuple t items/\
  ∀h',h'.IsTupleIter it t (i+1)->Heap.SameBut it s.heap h'->R (.ok (.ret x)) {s with heap:=h'}):=
 .of_wp fun prog w A R s h=>by
  obtain⟨hp,g,d,tk,os⟩:=s
  obtain⟨h1,⟨⟨c,dc2,dt,sl2⟩,h2,hc,n,hd⟩,h⟩:=h
  simp only at hc hd
  subst hc hd
  simp only at h1 h2
  wp_walk
  rw[toNat_natCast,hx]
  wp_walk
  exact⟨_,rfl,h _ ⟨_,get?_update_self _ h1 rfl,rfl,rfl⟩ (.update ..)⟩
theorem tn_end (it t:Addr)(i:Nat)(dc:Option Addr)(sl:Array (Option Value))(items:Array Value)(hx:items[i]?=none) :
 Meets (Builtin.«tuple_iterator.__next__» ⟨[.ref it],[]⟩) (fun A R s=>A.handled=none/\s.heap.get? it=some ⟨.type "tuple_iterator",dc,.fields #[.ref t,.int i 0],sl⟩/\s.heap.IsTuple t items/\
  ∀h' e,Heap.ExtBut it s.heap h'->(∃o,h'.get? e=some o/\o.cls=.type "StopIteration")->R (.error (.ref e)) {s with heap:=h'}):=
 .of_wp fun prog w A R s h=>by
  obtain⟨hp,g,d,tk,os⟩:=s
  obtain⟨hh,h1,⟨⟨c,dc2,dt,sl2⟩,h2,hc,n,hd⟩,h⟩:=h
  simp only at hc hd
  subst hc hd
  simp only at h1 h2
  wp_walk
  rw[toNat_natCast,hx]
  wp_walk
  exact wpAny_raiseNew_none hh (h _ _ (fun b o n e=>by repeat (first | exact get?_update_of_ne _ (Ne.symm n) e | refine get?_push_of_some _ ?_)) ⟨_,get?_push_size _ rfl,rfl⟩)
theorem nx_tup {P:Program}{w:World}{i l:Addr}(vs:Array Value)(hne:l≠i):Nx P w i l (fun k h=>h.IsTupleIter i l k/\h.IsTuple l vs) vs where
 ne:=hne
 there:=fun k h ⟨⟨o,e,c,d⟩,⟨o',e',c',_⟩⟩=>⟨⟨o,e,⟨_,c,.inr rfl⟩,_,d⟩,o',e',.inr c'⟩
 keep:=fun k h h' ⟨a,b⟩ e1 e2=>⟨a.at e1,b.at e2⟩
 item:=fun A k s Q E x ⟨a,b⟩ hx q=>by
  obtain⟨⟨c,dc,dt,sl⟩,e,hc,hd⟩:=a
  simp only at hc hd
  subst hc hd
  have hT:s.TypeIs (.ref i) "tuple_iterator":=⟨_,e,rfl⟩
  exact wpAny_bind (wpAny_callSpecial?_slot (name:=oS "__next__") hT F.slot_tuple_iterator_next (call_meets F.slot_tuple_iterator_next hT F.entry_tuple_iterator_next (F.args_tuple_iterator_next_1 _)
   (tn_item i l k dc sl vs x hx) ⟨e,b,fun h' a' sb=>wpAny_pure (q h' ⟨a',b.extBut sb.extBut hne⟩ sb)⟩))
 done:=fun A k s Q E hh ⟨a,b⟩ hx q=>by
   obtain⟨⟨c,dc,dt,sl⟩,e,hc,hd⟩:=a
   simp only at hc hd
   subst hc hd
   have hT:s.TypeIs (.ref i) "tuple_iterator":=⟨_,e,rfl⟩
   exact wpAny_bind (wpAny_callSpecial?_slot (name:=oS "__next__") hT F.slot_tuple_iterator_next (call_meets F.slot_tuple_iterator_next hT F.entry_tuple_iterator_next (F.args_tuple_iterator_next_1 _)
    (tn_end i l k dc sl vs hx) ⟨hh,e,b,q⟩))
section
variable {P:Program}{w:World}{A:Around}{E:Value->Shared->Prop}{s:Shared}{z TI TO i j l m:Addr}{p1 p2:Nat->Heap->Prop}{xs ys:Array Value}{k:Nat}
theorem zip_item {x y a b:Value}{Q:Option Value->Shared->Prop}(nd:[z,TI,TO,i,j].Nodup)(c1:l∉[z,TI,TO,i,j])(c2:m∉[z,TI,TO,i,j])(N1:Nx P w i l p1 xs)(N2:Nx P w j m p2 ys)(hz:IsZip s.heap z TI TO .none)(hTI:IsPair s.heap TI (.ref i) (.ref j))(hTO:IsPair s.heap TO a b)(q1:p1 k s.heap)(q2:p2 k s.heap)(hx:xs[k]?=some x)(hy:ys[k]?=some y)(hQ:∀h',IsZip h' z TI TO (rawInt s.heap.objs.size)->IsPair h' TO x y->p1 (k+1) h'->p2 (k+1) h'->IsPair h' s.heap.objs.size x y->h'.objs.size=s.heap.objs.size+1->
  (∀c o,c≠z->c≠TO->c≠i->c≠j->s.heap.get? c=some o->h'.get? c=some o)->Q (some (.ref s.heap.objs.size)) {s with heap:=h'}) :
 wpAny (model P w) A (pyNext (.ref z)) Q E s:=by
 simp only[nodup_cons,mem_cons,not_mem_nil,or_false,not_or,not_false_eq_true,and_true,List.nodup_nil]at nd c1 c2
 have hT:s.TypeIs (.ref z) "zip":=⟨_,hz,rfl⟩
 unfold pyNext
 refine wpAny_bind (wpAny_attempt (wpAny_callSpecial?_slot (name:=oS "__next__") hT F.slot_zip_next (wpAny_call_entry F.slot_zip_next hT F.entry_zip_next ?_ (F.args_zip_next_1 _))))
 obtain⟨hp,g,d,tk,os⟩:=s
 wp_walk using wpAny_onRaise,N1.item _ k _ _ _ x
 ·exact N1.keep _ _ _ q1 (fun o e=>get?_update_of_ne _ nd.1.2.2.1 e) fun o e=>get?_update_of_ne _ (Ne.symm c1.1) e
 ·exact hx
 intro g2 r2 s2
 have t2:IsPair g2 TO a b:=s2.extBut _ _ nd.2.2.1.1 (get?_update_of_ne _ nd.1.2.1 hTO)
 wp_walk using wpAny_onRaise,N2.item _ k _ _ _ y
 ·exact N2.keep _ _ _ q2 (fun o e=>get?_update_of_ne _ nd.2.2.1.2 (s2.extBut _ _ (Ne.symm nd.2.2.2) (get?_update_of_ne _ nd.1.2.2.2 e)))
   fun o e=>get?_update_of_ne _ (Ne.symm c2.2.2.1) (s2.extBut _ _ c2.2.2.2.1 (get?_update_of_ne _ (Ne.symm c2.1) e))
 ·exact hy
 intro g4 r4 s4
 have t4:=s4.extBut _ _ nd.2.2.1.2 (get?_update_self (Obj.mapSeq fun q=>q.setIfInBounds 0 x) t2 rfl)
 have nz:TO≠z:=Ne.symm nd.1.2.1
 have z4:=s4.extBut _ _ nd.1.2.2.2 (get?_update_of_ne (Obj.mapSeq fun q=>q.setIfInBounds 0 x) nz (s2.extBut _ _ nd.1.2.2.1 (get?_update_self (Obj.mapFields fun q=>q.setIfInBounds 0 Value.ellipsis) hz rfl)))
 wp_walk
 refine⟨_,rfl,wpAny_pure ?_⟩
 have sz:(g4.update TO (Obj.mapSeq fun q=>q.setIfInBounds (0+1) y)).objs.size=hp.objs.size:=by
  rw[size_after_update,s4.1]
  show(g2.update TO _).objs.size=_
  rw[size_after_update,s2.1]
  exact size_after_update ..
 rw[sz]
 have zl:z<hp.objs.size:=lt_size hz
 have last:∀{G:Heap} {c:Addr} {o:Obj} {f1 f2:Obj->Obj},c≠z->G.get? c=some o->((G.update z f1).update z f2).get? c=some o:=fun n e=>get?_update_of_ne _ (Ne.symm n) (get?_update_of_ne _ (Ne.symm n) e)
 have mid:∀{c:Addr} {o:Obj} {T:Obj},c≠TO->g4.get? c=some o->((g4.update TO (Obj.mapSeq fun q=>q.setIfInBounds (0+1) y)).push T).get? c=some o:=fun n e=>get?_push_of_some _ (get?_update_of_ne _ (Ne.symm n) e)
 refine hQ _ (get?_update_self _ (get?_update_self _ (mid (Ne.symm nz) z4) rfl) rfl) (last nz (get?_push_of_some _ (get?_update_self _ t4 rfl)))
  (N1.keep _ _ _ r2 (fun o e=>last (Ne.symm nd.1.2.2.1) (mid (Ne.symm nd.2.2.1.1) (s4.extBut _ _ nd.2.2.2 (get?_update_of_ne _ nd.2.2.1.1 e))))
   fun o e=>last c1.1 (mid c1.2.2.1 (s4.extBut _ _ c1.2.2.2.2 (get?_update_of_ne _ (Ne.symm c1.2.2.1) e))))
  (N2.keep _ _ _ r4 (fun o e=>last (Ne.symm nd.1.2.2.2) (mid (Ne.symm nd.2.2.1.2) e)) fun o e=>last c2.1 (mid c2.2.2.1 e))
  (last (ne_of_gt zl) (get?_push_at sz.symm rfl)) ?_ fun c o n1 n2 n3 n4 e=>last n1 (mid n2 (s4.extBut _ _ n4 (get?_update_of_ne _ (Ne.symm n2) (s2.extBut _ _ n3 (get?_update_of_ne _ (Ne.symm n1) e)))))
 rw[size_after_update,size_after_update,size_push,sz]
theorem zip_done {a b:Value}{Q:Option Value->Shared->Prop}(hh:A.handled=none)(nd:[z,TI,TO,i,j].Nodup)(c1:l∉[z,TI,TO,i,j])(c2:m∉[z,TI,TO,i,j])(N1:Nx P w i l p1 xs)(N2:Nx P w j m p2 ys)(hz:IsZip s.heap z TI TO .none)(hTI:IsPair s.heap TI (.ref i) (.ref j))(hTO:IsPair s.heap TO a b)(q1:p1 k s.heap)(q2:p2 k s.heap)(hend:xs[k]?=none\/ys[k]?=none)(hQ:∀h',(∀c o,c≠z->c≠TO->c≠i->c≠j->s.heap.get? c=some o->h'.get? c=some o)->Q none {s with heap:=h'}):wpAny (model P w) A (pyNext (.ref z)) Q E s:=by
 simp only[nodup_cons,mem_cons,not_mem_nil,or_false,not_or,not_false_eq_true,and_true,List.nodup_nil]at nd c1 c2
 have hT:s.TypeIs (.ref z) "zip":=⟨_,hz,rfl⟩
 have stop:∀(G:Heap) (e:Addr) (o:Obj),G.get? z=some ⟨.type "zip",none,.fields #[.ellipsis,.bool false,.bool false,.ref TI,.ref TO],#[]⟩->G.get? e=some o->o.cls=.type "StopIteration"->
  (∀c o,c≠z->c≠TO->c≠i->c≠j->s.heap.get? c=some o->G.get? c=some o)->
  wpAny (model P w) A.in1 (setField (.ref z) 0 .none) (fun _ s''=>wpAny (model P w) A (do if(<-isInstance (.ref e) (.type "StopIteration"))=true then pure none else throw (.ref e)) Q E s'') (fun e' s''=>wpAny (model P w) A (do if(<-isInstance e' (.type "StopIteration"))=true then pure none else throw e') Q E s'') {s with heap:=G}:=fun G e o g1 g2 hc kp=>by
  have ne:z≠e:=fun q=>by subst q;rw[g1]at g2;cases g2;exact absurd (show Value.type "zip" = Value.type "StopIteration" from hc) (by decide)
  have g3:=get?_update_of_ne (Obj.mapFields fun q=>q.setIfInBounds 0 Value.none) ne g2
  obtain⟨hp,gs,d,tk,os⟩:=s
  have ht:Shared.TypeIs ⟨G.update z (Obj.mapFields fun q=>q.setIfInBounds 0 Value.none),gs,d,tk,os⟩ (.ref e) "StopIteration":=⟨o,g3,hc⟩
  have sub:=isSubtype_stop
  wp_walk
  exact hQ _ fun c o n1 n2 n3 n4 q=>get?_update_of_ne _ (Ne.symm n1) (kp c o n1 n2 n3 n4 q)
 unfold pyNext
 refine wpAny_bind (wpAny_attempt (wpAny_callSpecial?_slot (name:=oS "__next__") hT F.slot_zip_next (wpAny_call_entry F.slot_zip_next hT F.entry_zip_next ?_ (F.args_zip_next_1 _))))
 have z1:=get?_update_self (Obj.mapFields fun q=>q.setIfInBounds 0 Value.ellipsis) hz rfl
 obtain⟨hp,g,d,tk,os⟩:=s
 have f1:p1 k (hp.update z (Obj.mapFields fun q=>q.setIfInBounds 0 Value.ellipsis)):=N1.keep _ _ _ q1 (fun o e=>get?_update_of_ne _ nd.1.2.2.1 e) fun o e=>get?_update_of_ne _ (Ne.symm c1.1) e
 cases hx:xs[k]? with
 |none=>
  wp_walk using wpAny_onRaise,N1.done _ k
  ·exact hh
  ·exact f1
  ·exact hx
  intro g2 e s2 he
  obtain⟨o,ho,hc⟩:=he
  exact stop g2 e o (s2 _ _ nd.1.2.2.1 z1) ho hc fun c o n1 n2 n3 n4 q=>s2 _ _ n3 (get?_update_of_ne _ (Ne.symm n1) q)
 |some x=>
  have hy:ys[k]?=none:=hend.resolve_left (by rw[hx];exact nofun)
  wp_walk using wpAny_onRaise,N1.item _ k _ _ _ x
  ·exact f1
  ·exact hx
  intro g2 r2 s2
  have t2:IsPair g2 TO a b:=s2.extBut _ _ nd.2.2.1.1 (get?_update_of_ne _ nd.1.2.1 hTO)
  wp_walk using wpAny_onRaise,N2.done _ k
  ·exact hh
  ·exact N2.keep _ _ _ q2 (fun o e=>get?_update_of_ne _ nd.2.2.1.2 (s2.extBut _ _ (Ne.symm nd.2.2.2) (get?_update_of_ne _ nd.1.2.2.2 e)))
    fun o e=>get?_update_of_ne _ (Ne.symm c2.2.2.1) (s2.extBut _ _ c2.2.2.2.1 (get?_update_of_ne _ (Ne.symm c2.1) e))
  ·exact hy
  intro g4 e s4 he
  obtain⟨o,ho,hc⟩:=he
  exact stop g4 e o (s4 _ _ nd.1.2.2.2 (get?_update_of_ne _ (Ne.symm nd.1.2.1) (s2.extBut _ _ nd.1.2.2.1 z1))) ho hc
   fun c o n1 n2 n3 n4 q=>s4 _ _ n4 (get?_update_of_ne _ (Ne.symm n2) (s2.extBut _ _ n3 (get?_update_of_ne _ (Ne.symm n1) q)))
end
section
variable {prog:Program}{w:World}{A:Around}{E:Value->Shared->Prop}{s:Shared}{r:Addr}{a b c:Int}{t u v:Tok}{n:Nat}
end
def ups (lo:Int)(n:Nat):List Int:=(List.range n).map fun(k:Nat)=>lo+(k:Int)
theorem ups_length (lo:Int)(n:Nat):(ups lo n).length=n:=by unfold ups;rw[length_map,length_range]
theorem vals_items {lo:Int}{n:Nat}{acc:Array Value}(h:ItemsOf (fun i v=>∃t,v=Value.int (lo+i*1) t) acc n):Vals ((ups lo n).map V.int) acc.toList:=by
 have:∀(us:List Value) (ns:List Int),us.length=ns.length->(∀(j:Nat) (u:Value),us[j]?=some u->∃t,∃i,ns[j]?=some i/\u=Value.int i t)->Vals (ns.map V.int) us:=by
  intro us
  induction us with
  |nil=>intro ns hl _;cases ns with
   |nil=>exact .nil
   |cons=>cases hl
  |cons x r ih=>
   intro ns hl hh
   cases ns with
   |nil=>cases hl
   |cons n ns=>
    obtain⟨t,i,e1,e2⟩:=hh 0 x rfl
    have:n=i:=by simpa using e1
    subst this
    exact .cons ⟨t,e2⟩ (ih ns (by simpa using hl) fun j u hj=>hh (j+1) u (by simpa using hj))
 refine this _ _ (by rw[ups_length,length_toList];exact h.1) fun j u hj=>?_
 have hj':acc[j]?=some u:=by simpa using hj
 obtain⟨t,e⟩:=h.2 j u hj'
 have hjn:j<n:=by rw[<-h.1];exact(Array.getElem?_eq_some_iff.mp hj').1
 refine⟨t,lo+(j:Int),?_,by rw[e,Int.mul_one]⟩
 unfold ups
 rw[getElem?_map,getElem?_range hjn]
 rfl
section
variable {X:Cx}
theorem call_rng2:CallR X (.type "range") (fun xs H Q=>∃i j:Int,xs=[.int i,.int j]/\∀p,H p=none->Q (.ref p) (upd H p (.rng i j))):=by
 intro pins s σ H xs us Q I r h
 obtain⟨i,j,rfl,q⟩:=h
 obtain⟨u,u',rfl,r1,r2⟩:=vals2 r
 obtain⟨t,rfl⟩:=(show ∃t,u=Value.int i t from r1)
 obtain⟨t',rfl⟩:=(show ∃t,u'=Value.int j t from r2)
 refine call_range_2 ⟨.ref s.heap.objs.size,_,I.laid (a:=s.heap.objs.size) (o:=.rng i j) (fun b ob q=>get?_push_of_some _ q) (Nat.le_refl _) ⟨_,_,_,get?_push_size _ rfl⟩,rfl,q _ (I.hok.fresh (Nat.le_refl _))⟩
theorem call_list_rng (hc:X.calm=true):CallR X (.type "list") (fun xs H Q=>∃p i j,xs=[.ref p]/\H p=some (.rng i j)/\(-(2^62)<=i/\i<2^62/\-(2^62)<=j/\j<2^62)/\(j - i).toNat<=sizeLine/\
 ∀l,H l=none->Q (.ref l) (upd H l (.lst ((ups i (j - i).toNat).map V.int)))):=by
 intro pins s σ H xs us Q I r h
 obtain⟨p,i,j,rfl,hp,⟨b1,b2,b3,b4⟩,hz,q⟩:=h
 obtain⟨u,rfl,rx⟩:=vals1 r
 cases(show u=Value.ref p from rx)
 obtain⟨t1,t2,t3,ho⟩:=(show ObjOk X.prog X.w H s.heap p (.rng i j) from I.hok p _ hp)
 refine call_list_range (I.ok.hd hc) ho (small_one b1 b2 b3 b4) (n:=(j - i).toNat) (by rw[rangeSize_one];split<;>omega) (by rw[sizeLine_eq]at hz;exact hz) fun h' tk acc c' hk hS hacc=>?_
 refine⟨.ref s.heap.objs.size,_,I.laid (a:=s.heap.objs.size) (t':=tk) (o:=.lst ((ups i (j - i).toNat).map V.int)) hk (Nat.le_refl _) ?_,rfl,q _ (I.hok.fresh (Nat.le_refl _))⟩
 refine⟨by rw[length_map,ups_length];exact hz,acc.toList,c',vals_items hacc,?_⟩
 have e:acc.toList.toArray=acc:=by simp
 rw[e]
 exact hS
end
def ItAt (t:Bool)(i l:Addr)(k:Nat)(h:Heap):Prop:=match t with
 |true=>h.IsTupleIter i l k
 |false=>h.IsListIter i l k
def SqK (t:Bool)(K:W.Frag)(H:Hp)(l:Addr)(xs:List V):Prop:=match t with
 |true=>SqT K H l xs
 |false=>SqL K H l xs
theorem ItAt.at {t:Bool}{i l:Addr}{k:Nat}{h h':Heap}(x:ItAt t i l k h)(e:∀o,h.get? i=some o->h'.get? i=some o):ItAt t i l k h':=by
 cases t
 ·exact Heap.IsListIter.at x e
 ·exact Heap.IsTupleIter.at x e
theorem ItAt.obj {t:Bool}{i l:Addr}{k:Nat}{h:Heap}(x:ItAt t i l k h):∃o f c,h.get? i=some o/\o.data=.fields f/\o.cls=.type c/\(c="list_iterator"\/c="tuple_iterator"):=by
 cases t
 ·obtain⟨o,e,c,d⟩:=(show h.IsListIter i l k from x)
  exact⟨o,_,_,e,d,c,.inl rfl⟩
 ·obtain⟨o,e,c,d⟩:=(show h.IsTupleIter i l k from x)
  exact⟨o,_,_,e,d,c,.inr rfl⟩
section
variable {X:Cx}{pins:List (Addr×Obj)}{σ:St}{H:Hp}{s:Shared}
theorem Inv.sqk {t:Bool}{l:Addr}{xs:List V}(I:Inv X pins σ H s)(h:SqK t X.K H l xs):∃its:List Value,Vals xs its/\(∃o,s.heap.get? l=some o/\(o.cls=.type "list"\/o.cls=.type "tuple"))/\
 ∀(i:Addr),l≠i->∃pl:Nat->Heap->Prop,Nx X.prog X.w i l pl its.toArray/\(∀k,ItAt t i l k s.heap->pl k s.heap)/\(∀k h',pl k h'->ItAt t i l k h'):=by
 cases t
 ·obtain⟨its,r,p,hz⟩:=I.list (show SqL X.K H l xs from h)
  obtain⟨o,ho,hc,n,hd⟩:=id p.isList
  exact⟨its,r,⟨o,ho,.inl hc⟩,fun i ne=>⟨_,nx_list its.toArray ne,fun k z=>⟨z,p.isList⟩,fun k h' z=>z.1⟩⟩
 ·obtain⟨its,r,p,hz⟩:=I.tuple (show SqT X.K H l xs from h)
  obtain⟨o,ho,hc,n,hd⟩:=id p
  exact⟨its,r,⟨o,ho,.inr hc⟩,fun i ne=>⟨_,nx_tup its.toArray ne,fun k z=>⟨z,p⟩,fun k h' z=>z.1⟩⟩
theorem Inv.sqk_inj {t:Bool}{l:Addr}{xs ys:List V}(I:Inv X pins σ H s)(h:SqK t X.K H l xs)(h':SqK t X.K H l ys):xs=ys:=by
 cases t
 ·exact I.list_inj h h'
 ·exact I.tuple_inj h h'
end
def Itz (t:Bool)(K:W.Frag)(l m:Addr):It where
 go:=fun i H=>∃xs ys x y,SqK t K H l xs/\SqK t K H m ys/\xs[i]?=some x/\ys[i]?=some y
 yld:=fun i H v H'=>∃p x y,v=.ref p/\H p=none/\H'=upd H p (.tup [x,y])/\(∀xs,SqK t K H l xs->xs[i]?=some x)/\∀ys,SqK t K H m ys->ys[i]?=some y
 stop:=fun i H=>∃xs ys,SqK t K H l xs/\SqK t K H m ys/\(xs[i]?=none\/ys[i]?=none)
theorem turn_zip {P:Program}{w:World}{K:W.Frag}{es:List Expr}{k0:Nat}{pos:Pos}{t:Bool}{z TI TO i j l m:Addr}(a1:TI≠z)(a2:TO≠z)(a3:i≠z)(a4:j≠z)(a5:TI≠TO)(a6:TI≠i)(a7:TI≠j)(a8:TO≠i)(a9:TO≠j)(b1:i≠j)(c1:l∉[z,TI,TO,i,j])(c2:m∉[z,TI,TO,i,j]) :
 Turn P w K (.Tuple es k0 pos) (Itz t K l m) [z,TI,TO,i,j] z (fun k h=>IsZip h z TI TO .none/\IsPair h TI (.ref i) (.ref j)/\(∃a b,IsPair h TO a b)/\ItAt t i l k h/\ItAt t j m k h) where
 mem:=by simp
 obj:=fun k h ⟨hz,h1,⟨a,b,h2⟩,h3,h4⟩ c hc=>by
  obtain⟨o1,f1,_,e1,d1,_⟩:=h3.obj
  obtain⟨o2,f2,_,e2,d2,_⟩:=h4.obj
  simp only[mem_cons,not_mem_nil,or_false]at hc
  rcases hc with rfl | rfl | rfl | rfl | rfl
  ·exact⟨_,hz,fun v q=>by cases q⟩
  ·exact⟨_,h1,fun v q=>by cases q⟩
  ·exact⟨_,h2,fun v q=>by cases q⟩
  ·exact⟨_,e1,fun v q=>by rw[d1]at q;cases q⟩
  ·exact⟨_,e2,fun v q=>by rw[d2]at q;cases q⟩
 keep:=fun k h h' ⟨hz,h1,⟨a,b,h2⟩,h3,h4⟩ kp=>⟨kp z (by simp) _ hz,kp TI (by simp) _ h1,⟨a,b,kp TO (by simp) _ h2⟩,h3.at fun o e=>kp i (by simp) o e,h4.at fun o e=>kp j (by simp) o e⟩
 item:=by
  intro X hP hw hK hc k pins s σ H E I hf st hg
  subst hP hw hK
  obtain⟨xs,ys,x,y,hl,hm,hx,hy⟩:=hg
  obtain⟨hz,h1,⟨a,b,h2⟩,h3,h4⟩:=st
  have cl:=c1
  have cm:=c2
  simp only[mem_cons,not_mem_nil,or_false,not_or]at c1 c2
  obtain⟨its,r1,_,n1⟩:=I.sqk hl
  obtain⟨jts,r2,_,n2⟩:=I.sqk hm
  obtain⟨p1,N1,u1,v1⟩:=n1 i c1.2.2.2.1
  obtain⟨p2,N2,u2,v2⟩:=n2 j c2.2.2.2.2
  obtain⟨u,hu,ru⟩:=r1.get hx
  obtain⟨u',hu',ru'⟩:=r2.get hy
  have D:[z,TI,TO,i,j].Nodup:=by simp[a1,a2,a3,a4,a5,a6,a7,a8,a9,b1,Ne.symm a1,Ne.symm a2,Ne.symm a3,Ne.symm a4]
  refine zip_item D cl cm N1 N2 hz h1 h2 (u1 k h3) (u2 k h4) (x:=u) (y:=u') (by simpa using hu) (by simpa using hu') fun h' z1 z2 z3 z4 z5 z6 kp=>?_
  refine⟨_,rfl,wpAny_letOwnedTupleGo_zip z1 fun h'' y1 sb=>?_⟩
  have fz:H s.heap.objs.size=none:=I.hok.fresh (Nat.le_refl _)
  have zlt:z<s.heap.objs.size:=lt_size hz
  have mine:∀c∈[z,TI,TO,i,j],c≠s.heap.objs.size:=fun c hc'=>by
   obtain⟨o1,f1,_,e1,d1,_⟩:=h3.obj
   obtain⟨o2,f2,_,e2,d2,_⟩:=h4.obj
   simp only[mem_cons,not_mem_nil,or_false]at hc'
   rcases hc' with rfl | rfl | rfl | rfl | rfl
   ·exact ne_of_lt (lt_size hz)
   ·exact ne_of_lt (lt_size h1)
   ·exact ne_of_lt (lt_size h2)
   ·exact ne_of_lt (lt_size e1)
   ·exact ne_of_lt (lt_size e2)
  have kp2:∀c o,c∉[z,TI,TO,i,j]->s.heap.get? c=some o->h''.get? c=some o:=fun c o hc' e=>by
   simp only[mem_cons,not_mem_nil,or_false,not_or]at hc'
   exact sb.extBut _ _ hc'.1 (kp c o hc'.1 hc'.2.2.1 hc'.2.2.2.1 hc'.2.2.2.2 e)
  have tp:h''.get? s.heap.objs.size=some {cls:=.type "tuple",data:=.seq #[u,u']}:=sb.extBut _ _ (mine z (by simp)).symm z5
  have notH:∀c∈[z,TI,TO,i,j],H c=none:=fun c hc'=>(hf c hc').1
  have I1:Inv X pins σ (upd H s.heap.objs.size (.tup [x,y])) {s with heap:=h''}:=by
   have un:Un X.fs [z,TI,TO,i,j] H (upd H s.heap.objs.size (.tup [x,y])) s.heap h'':=
    ⟨fun c o e n nf hx=>kp2 c o hx e,fun c o e n nf hx=>⟨o.slots,kp2 c o hx e⟩,fun c o e n hx=>by rw[upd_ne (ne_of_lt (lt_size e))];exact n,
     fun c o e hx=>⟨o,kp2 c o hx e⟩,fun c xs e=>by rw[upd_ne (ne_of_none e fz)];exact e,fun c o xs e=>by rw[upd_ne (ne_of_none e fz)];exact e,fun c ps e=>⟨#[],by rw[upd_ne (ne_of_none e fz),e];simp⟩⟩
   have hok:HOk X.prog X.w (upd H s.heap.objs.size (.tup [x,y])) h'':=fun c o e=>by
    by_cases hcs:c=s.heap.objs.size
    ·subst hcs
     rw[upd_same]at e
     cases e
     exact⟨by show 2<=sizeLine;decide,[u,u'],.cons ru (.cons ru' .nil),⟨_,tp,rfl,_,rfl⟩⟩
    ·rw[upd_ne hcs]at e
     refine(I.hok c o e).stay (fun d w' hd q=>kp2 d w' (fun zz=>?_) q) (fun d q=>?_) fun d w' q=>?_
     ·have hn:=notH d zz
      rcases hd with rfl | hd
      ·rw[hn]at e;cases e
      ·rw[hn]at hd;cases hd
     ·rw[upd_ne (ne_of_none q fz)];exact q
     ·rw[upd_ne (ne_of_none q fz)];exact q
   have hch:∀b∈[z,TI,TO,i,j],(b∈X.ex\/X.s₀.heap.objs.size<=b)/\b≠X.env.locals/\(∀x c,X.env.cells.lookup x=some c->c≠b)/\∀p∈X.pn++pins,p.1≠b:=fun b hb=>⟨(hf b hb).2.2.2.1,(hf b hb).2.1,(hf b hb).2.2.2.2.1,(hf b hb).2.2.2.2.2⟩
   refine I.step (g':=s.gens) (d':=s.drawn) (t':=s.toks) (ch:=[z,TI,TO,i,j]) hch (fun c o _ _ hc' e _=>kp2 c o hc' e) (fun c o _ _ hc' e _=>⟨o.slots,kp2 c o hc' e⟩) (fun c o hc' e n=>un.free c o e n hc') (fun c o hc' e=>un.there c o e hc') un.tups un.frzs un.tbls (fun m' hm'=>?_) hok I.bare
   obtain⟨o,es',ep,ho,r⟩:=hm'
   exact⟨o,es',ep,kp2 _ o (fun zz=>(hf _ zz).2.1 rfl) ho,r⟩
  refine⟨.ref s.heap.objs.size,_,I1,rfl,⟨s.heap.objs.size,x,y,rfl,fz,rfl,fun xs' q=>by rw[I.sqk_inj q hl];exact hx,fun ys' q=>by rw[I.sqk_inj q hm];exact hy⟩,?_,fun c hc'=>?_⟩
  ·have up:∀c o,c≠z->h'.get? c=some o->h''.get? c=some o:=fun c o hc' e=>sb.extBut _ _ hc' e
   exact⟨y1,up _ _ a1 (kp _ _ a1 a5 a6 a7 h1),⟨_,_,up _ _ a2 z2⟩,(v1 _ _ z3).at fun o e=>up _ o a3 e,(v2 _ _ z4).at fun o e=>up _ o a4 e⟩
  ·rw[upd_ne (mine c hc')]
   exact notH c hc'
 done:=by
   intro X hP hw hK hc k pins s σ H E I hf st hg
   subst hP hw hK
   obtain⟨xs,ys,hl,hm,hend⟩:=hg
   obtain⟨hz,h1,⟨a,b,h2⟩,h3,h4⟩:=st
   have cl:=c1
   have cm:=c2
   simp only[mem_cons,not_mem_nil,or_false,not_or]at c1 c2
   obtain⟨its,r1,_,n1⟩:=I.sqk hl
   obtain⟨jts,r2,_,n2⟩:=I.sqk hm
   obtain⟨p1,N1,u1,v1⟩:=n1 i c1.2.2.2.1
   obtain⟨p2,N2,u2,v2⟩:=n2 j c2.2.2.2.2
   have D:[z,TI,TO,i,j].Nodup:=by simp[a1,a2,a3,a4,a5,a6,a7,a8,a9,b1,Ne.symm a1,Ne.symm a2,Ne.symm a3,Ne.symm a4]
   refine zip_done (I.ok.hd hc) D cl cm N1 N2 hz h1 h2 (u1 k h3) (u2 k h4) (hend.elim (fun q=>.inl (by simpa using r1.none_of q)) fun q=>.inr (by simpa using r2.none_of q)) fun h' kp=>⟨rfl,?_⟩
   have kp2:∀c o,c∉[z,TI,TO,i,j]->s.heap.get? c=some o->h'.get? c=some o:=fun c o hc' e=>by
    simp only[mem_cons,not_mem_nil,or_false,not_or]at hc'
    exact kp c o hc'.1 hc'.2.2.1 hc'.2.2.2.1 hc'.2.2.2.2 e
   have hch:∀b∈[z,TI,TO,i,j],(b∈X.ex\/X.s₀.heap.objs.size<=b)/\b≠X.env.locals/\(∀x c,X.env.cells.lookup x=some c->c≠b)/\∀p∈X.pn++pins,p.1≠b:=fun b hb=>⟨(hf b hb).2.2.2.1,(hf b hb).2.1,(hf b hb).2.2.2.2.1,(hf b hb).2.2.2.2.2⟩
   refine I.step (g':=s.gens) (d':=s.drawn) (t':=s.toks) (ch:=[z,TI,TO,i,j]) hch (fun c o _ _ hc' e _=>kp2 c o hc' e) (fun c o _ _ hc' e _=>⟨o.slots,kp2 c o hc' e⟩) (fun _ _ _ _ n=>n) (fun c o hc' e=>⟨o,kp2 c o hc' e⟩) (fun _ _ e=>e) (fun _ _ _ e=>e) (fun b ps e=>⟨#[],by rw[e];simp⟩) (fun m' hm'=>?_) (fun c o e=>?_) I.bare
   ·obtain⟨o,es',ep,ho,r⟩:=hm'
    exact⟨o,es',ep,kp2 _ o (fun zz=>(hf _ zz).2.1 rfl) ho,r⟩
   ·refine(I.hok c o e).stay (fun d w' hd q=>kp2 d w' (fun zz=>?_) q) (fun _ q=>q) fun _ _ q=>q
    have hn:=(hf d zz).1
    rcases hd with rfl | hd
    ·rw[hn]at e;cases e
    ·rw[hn]at hd;cases hd
 self:=fun A k s Q E st h=>wpAny_pyIter_zip st.1 h
theorem tz_new (l m:Addr)(xs ys:Array Value):Meets (Builtin.«zip.__new__» ⟨[.type "zip",.ref l,.ref m],[]⟩) (fun _ R s=>s.heap.IsTuple l xs/\s.heap.IsTuple m ys/\
 ∀h':Heap,IsZip h' (s.heap.objs.size+4) (s.heap.objs.size+2) (s.heap.objs.size+3) .none->IsPair h' (s.heap.objs.size+2) (.ref s.heap.objs.size) (.ref (s.heap.objs.size+1))->
  IsPair h' (s.heap.objs.size+3) .none .none->h'.IsTupleIter s.heap.objs.size l 0->h'.IsTupleIter (s.heap.objs.size+1) m 0->(∀c o,s.heap.get? c=some o->h'.get? c=some o)->
  R (.ok (.ret (.ref (s.heap.objs.size+4)))) {s with heap:=h'}):=
 .of_wp fun prog w A R s h=>by
  obtain⟨hp,g,d,tk,os⟩:=s
  obtain⟨h1,h2,h⟩:=h
  have hsub:=sub_zip
  wp_walk using wpAny_pyIter_tuple h1,wpAny_pyIter_tuple (Heap.IsTuple.push h2 _)
  simp only[size_push]
  refine⟨_,rfl,h _ (get?_push_at (by simp only[size_push]) rfl) ?_ ?_ ?_ ?_ fun c o x=>?_⟩
  ·exact get?_push_of_some _ (get?_push_of_some _ (get?_push_at (by simp only[size_push]) rfl))
  ·exact get?_push_of_some _ (get?_push_at (by simp only[size_push]) rfl)
  ·exact⟨_,get?_push_of_some _ (get?_push_of_some _ (get?_push_of_some _ (get?_push_of_some _ (get?_push_size _ rfl)))),rfl,rfl⟩
  ·exact⟨_,get?_push_of_some _ (get?_push_of_some _ (get?_push_of_some _ (get?_push_at (by simp only[size_push]) rfl))),rfl,rfl⟩
  repeat (first | exact x | refine get?_push_of_some _ ?_)
section
variable {prog:Program}{w:World}{A:Around}{E:Value->Shared->Prop}{s:Shared}
theorem zip_tups {l m:Addr}{xs ys:Array Value}{Q:Value->Shared->Prop}(h1:s.heap.IsTuple l xs)(h2:s.heap.IsTuple m ys)(h:∀h',IsZip h' (s.heap.objs.size+4) (s.heap.objs.size+2) (s.heap.objs.size+3) .none->IsPair h' (s.heap.objs.size+2) (.ref s.heap.objs.size) (.ref (s.heap.objs.size+1))->
  IsPair h' (s.heap.objs.size+3) .none .none->h'.IsTupleIter s.heap.objs.size l 0->h'.IsTupleIter (s.heap.objs.size+1) m 0->
  (∀c o,s.heap.get? c=some o->h'.get? c=some o)->Q (.ref (s.heap.objs.size+4)) {s with heap:=h'}) :
 wpAny (model prog w) A (call (.type "zip") [.ref l,.ref m]) Q E s:=
 callType_new F.called_zip (by decide) (F.typeCall_zip_2 _ _) (F.newCall_zip_2 _ _) (fun obj=>F.args_object_init_3 obj _ _) F.entry_zip_new (tz_new l m xs ys)
  ⟨h1,h2,fun h' z p1 p2 i1 i2 kp=>⟨⟨_,z,rfl⟩,h h' z p1 p2 i1 i2 kp⟩⟩
end
theorem apart_nat (n:Nat){a b:Nat}(h:a≠b):n+a≠n+b:=fun z=>h (Nat.add_left_cancel z)
theorem not_fresh5 {n c:Nat}(h:c<n)(z:c=n+4\/c=n+2\/c=n+3\/c=n\/c=n+1):False:=by omega
theorem fresh5 {n c:Nat}(z:c=n+4\/c=n+2\/c=n+3\/c=n\/c=n+1):n<=c:=by omega
section
variable {X:Cx}
def iZip (t:Bool)(K:W.Frag)(ta:TA):TI:=fun σ H R=>ta σ H fun vs H1=>∃l m xs ys,vs=[.ref l,.ref m]/\SqK t K H1 l xs/\SqK t K H1 m ys/\R (Itz t K l m) H1
theorem pi_zip (t:Bool){es:List Expr}{k0:Nat}{tp:Pos}{a b:Expr}{ta:TA}{p pos:Pos}(hg:Gl X "zip")(hm:X.mg "zip" = none)(ha:PA X [a,b] ta)(hs:starEach [a,b] X.env=[(false,eval a X.env),(false,eval b X.env)]:=by rfl)(hs2:starEach [b] X.env=[(false,eval b X.env)]:=by rfl) :
 PI X (.Tuple es k0 tp) (.Call (.Name "zip" p) [a,b] [] pos) (iZip t X.K ta):=by
 intro pins s σ H R I h
 refine Call_ (ld_blt I hg hm boot_zip (callWith_type1 (thn (ha pos pins s σ H _ I h) fun us s1 ⟨vs,H1,I1,r1,q1⟩=>?_) (by rw[hs,hs2]) (by rw[hs2];rfl)))
 obtain⟨l,m,xs,ys,e,hl,hm',q⟩:=q1
 subst e
 obtain⟨u,u',rfl,ru,ru'⟩:=vals2 r1
 cases(show u=Value.ref l from ru)
 cases(show u'=Value.ref m from ru')
 obtain⟨its,_,⟨ol,eol,_⟩,_⟩:=I1.sqk hl
 obtain⟨jts,_,⟨om,eom,_⟩,_⟩:=I1.sqk hm'
 have ll:l<s1.heap.objs.size:=lt_size eol
 have lm:m<s1.heap.objs.size:=lt_size eom
 have fin:∀h':Heap,IsZip h' (s1.heap.objs.size+4) (s1.heap.objs.size+2) (s1.heap.objs.size+3) .none->IsPair h' (s1.heap.objs.size+2) (.ref s1.heap.objs.size) (.ref (s1.heap.objs.size+1))->
  IsPair h' (s1.heap.objs.size+3) .none .none->ItAt t s1.heap.objs.size l 0 h'->ItAt t (s1.heap.objs.size+1) m 0 h'->(∀c o,s1.heap.get? c=some o->h'.get? c=some o)->
  wpAny (model X.prog X.w) X.A (pyIter (.ref (s1.heap.objs.size+4))) (PIE X pins σ (.Tuple es k0 tp) R) X.xe {s1 with heap:=h'}:=fun h' z1 z2 z3 z4 z5 kp=>by
  have I2:Inv X pins σ H1 {s1 with heap:=h'}:=I1.kept (t':=s1.toks) kp
  refine wpAny_pyIter_zip z1 ⟨s1.heap.objs.size+4,[s1.heap.objs.size+4,s1.heap.objs.size+2,s1.heap.objs.size+3,s1.heap.objs.size,s1.heap.objs.size+1],_,_,H1,rfl,I2,
   turn_zip (t:=t) (l:=l) (m:=m) (apart_nat _ (a:=2) (b:=4) (by decide)) (apart_nat _ (a:=3) (b:=4) (by decide)) (apart_nat _ (a:=0) (b:=4) (by decide)) (apart_nat _ (a:=1) (b:=4) (by decide)) (apart_nat _ (a:=2) (b:=3) (by decide)) (apart_nat _ (a:=2) (b:=0) (by decide)) (apart_nat _ (a:=2) (b:=1) (by decide)) (apart_nat _ (a:=3) (b:=0) (by decide)) (apart_nat _ (a:=3) (b:=1) (by decide)) (apart_nat _ (a:=0) (b:=1) (by decide)) (fun z=>?_) (fun z=>?_),⟨z1,z2,⟨_,_,z3⟩,z4,z5⟩,fun c hc=>?_,q⟩
  ·simp only[mem_cons,not_mem_nil,or_false]at z;exact not_fresh5 ll z
  ·simp only[mem_cons,not_mem_nil,or_false]at z;exact not_fresh5 lm z
  ·have hcs:s1.heap.objs.size<=c:=by simp only[mem_cons,not_mem_nil,or_false]at hc;exact fresh5 hc
   exact I1.fpOk hcs (I1.hok.fresh hcs)
 cases t
 ·obtain⟨its,_,pl,_⟩:=I1.list (show SqL X.K H1 l xs from hl)
  obtain⟨jts,_,pm,_⟩:=I1.list (show SqL X.K H1 m ys from hm')
  exact call_zip_2 pl.isList pm.isList fun h' z1 z2 z3 z4 z5 _ kp=>fin h' z1 z2 z3 z4 z5 kp
 ·obtain⟨its,_,pl,_⟩:=I1.tuple (show SqT X.K H1 l xs from hl)
  obtain⟨jts,_,pm,_⟩:=I1.tuple (show SqT X.K H1 m ys from hm')
  exact zip_tups pl pm fun h' z1 z2 z3 z4 z5 kp=>fin h' z1 z2 z3 z4 z5 kp
end
def Has (P:Program)(w:World)(K:W.Frag)(mg:Str->Option Value)(base:Heap)(k:Nat)(x:Str)(ps:List Str)(sp:Sp):Prop:=
 ∃(f:Addr) (fd:FuncData),FnOk P w K mg base CX0 k f fd ps sp/\mg x=some (.ref f)/\keepIn K (.ref f)=true/\Binds K fd ps []
section
variable {X:Cx}{k k':Nat}{x:Str}{ps:List Str}{sp:Sp}{e:Expr}{es:List Expr}{t:TA}{p pos:Pos}
theorem pe_def (h:Has X.prog X.w X.K X.mg X.base k x ps sp)(hr:Room k' X.A)(ha:PA X (e::es) t)(hg:Gl X x:=by rfl)(hk:k<=k':=by decide)(hdb:(x==("__debug__" : Str))=false:=by decide)(he:starEach (e::es) X.env=(false,eval e X.env)::starEach es X.env:=by rfl)(hpl:(backTo pos (starEach es X.env)).any (·.1)=false:=by rfl):PE X (.Call (.Name x p) (e::es) [] pos) (tCall sp [] E0 t):=by
 obtain⟨f,fd,F,m,kp,b⟩:=h
 exact pe_call F (hr.mono hk) hg m kp b .nil pass0 ha hdb he hpl
theorem pe_const {v:V}(h:∃u,X.mg x=some u/\RelV v u)(hg:Gl X x:=by rfl)(hd:(x==("__debug__" : Str))=false:=by decide):PE X (.Name x pos) (tC v):=by
 obtain⟨u,m,r⟩:=h
 exact pe_glob hg m r hd
theorem pe_ty {T:String}(hm:X.mg x=none)(hv:bootBuiltins x=some (.type T))(hg:Gl X x:=by rfl)(hn:x≠"__name__":=by decide)(hd:(x==("__debug__" : Str))=false:=by decide):PE X (.Name x pos) (tC (.ty T)):=pe_bltn hg hm hv rfl hn hd
end
structure Nb (mg:Str->Option Value):Prop where
 len:mg "len" = none
 isi:mg "isinstance" = none
 bool:mg "bool" = none
 int:mg "int" = none
 tuple:mg "tuple" = none
 list:mg "list" = none
 range:mg "range" = none
 zip:mg "zip" = none
 all:mg "all" = none
 max:mg "max" = none
 min:mg "min" = none
theorem Same.upd_free {H1 H5:Hp}{D:Addr}(s:Same H1 H5)(hD:H1 D=none)(o:HO):Same H1 (upd H5 D o):=fun b u q=>by rw[upd_ne (ne_of_none q hD)];exact s b u q
theorem comp_go {J:It}{g:TG}{te:TE}{Q:VK}{D:Addr}{H1:Hp}{σ0:St}(n:Nat)(hn:n<=sizeLine)(f:Nat->V)(Sg:St->Prop)(itm:Nat->Hp->V->Prop)(hD:H1 D=none)(s0:Sg σ0)(items:∀i H,Same H1 H->(i<n->J.go i H/\∀x H2,J.yld i H x H2->Same H H2/\itm i H2 x)/\(n<=i->J.stop i H))(step:∀i x σ' H,i<n->Same H1 H->itm i H x->Sg σ'->∀R:St->V->Hp->Prop,(∀σ3 y H5,Sg σ3->Same H H5->y=f i->R σ3 y H5)->g x σ' H fun σ3 H3=>te σ3 H3 (R σ3))(fin:∀H',Same H1 H'->H' D=some (.lst ((List.range n).map f))->Q (.ref D) H') :
 cmpW J g tYes te Q D σ0 H1:=by
 refine⟨fun i m σ H=>m=n - i/\i<=n/\Sg σ/\Same H1 H/\H D=some (.lst ((List.range i).map f)),⟨n,by omega,zero_le _,s0,(Same.refl H1).upd_free hD _,upd_same⟩,?_⟩
 rintro i m σ H ⟨rfl,hi,hs,sm,hd⟩
 by_cases hlt:i<n
 ·obtain⟨go,yl⟩:=(items i H sm).1 hlt
  refine .inr ⟨go,fun x H2 y=>?_⟩
  obtain⟨s2,im⟩:=yl x H2 y
  have e:(fun(σ3:St) (H3:Hp)=>tYes σ3 H3 fun ok H4=>
   if ok=true then te σ3 H4 fun y H5=>∃ys,H5 D=some (.lst ys)/\ys.length<sizeLine/\∃m',m'<n - i/\(m'=n - (i+1)/\i+1<=n/\Sg σ3/\Same H1 (upd H5 D (.lst (ys++[y])))/\upd H5 D (.lst (ys++[y])) D=some (.lst ((List.range (i+1)).map f)))
   else ∃m',m'<n - i/\(m'=n - (i+1)/\i+1<=n/\Sg σ3/\Same H1 H4/\H4 D=some (.lst ((List.range (i+1)).map f)))) =
   fun σ3 H3=>te σ3 H3 fun y H5=>∃ys,H5 D=some (.lst ys)/\ys.length<sizeLine/\∃m',m'<n - i/\(m'=n - (i+1)/\i+1<=n/\Sg σ3/\Same H1 (upd H5 D (.lst (ys++[y])))/\upd H5 D (.lst (ys++[y])) D=some (.lst ((List.range (i+1)).map f))):=by
   funext σ3 H3
   unfold tYes
   dsimp only
   rw[if_pos rfl]
  rw[e]
  refine step i x σ H2 hlt (sm.trans s2) im hs _ fun σ3 y H5 g3 s5 ey=>?_
  refine⟨_,s5 _ _ (s2 _ _ hd),by rw[length_map,length_range];omega,n - (i+1),by omega,rfl,by omega,g3,(sm.trans (s2.trans s5)).upd_free hD _,?_⟩
  rw[upd_same,ey,range_succ,map_append]
  rfl
 ·have e:i=n:=by omega
  subst e
  exact .inl ⟨(items i H sm).2 (Nat.le_refl _),fin H sm hd⟩
theorem items_tup {K:W.Frag}{a:Addr}{xs:List V}{H1:Hp}(h:H1 a=some (.tup xs))(i:Nat)(H:Hp)(s:Same H1 H) :
 (i<xs.length->(Itt K a).go i H/\∀x H2,(Itt K a).yld i H x H2->Same H H2/\xs[i]?=some x)/\(xs.length<=i->(Itt K a).stop i H):=by
 have q:SqT K H a xs:=SqT.of (s _ _ h)
 refine⟨fun hi=>⟨⟨xs,xs[i],q,List.getElem?_eq_getElem hi⟩,fun x H2 ⟨e,y⟩=>?_⟩,fun hi=>⟨xs,q,hi⟩⟩
 subst e
 exact⟨Same.refl _,y xs q⟩
theorem items_lst {K:W.Frag}{a:Addr}{xs:List V}{H1:Hp}(h:H1 a=some (.lst xs))(i:Nat)(H:Hp)(s:Same H1 H) :
 (i<xs.length->(Itl K a).go i H/\∀x H2,(Itl K a).yld i H x H2->Same H H2/\xs[i]?=some x)/\(xs.length<=i->(Itl K a).stop i H):=by
 have q:SqL K H a xs:=SqL.of (s _ _ h)
 refine⟨fun hi=>⟨⟨xs,xs[i],q,List.getElem?_eq_getElem hi⟩,fun x H2 ⟨e,y⟩=>?_⟩,fun hi=>⟨xs,q,hi⟩⟩
 subst e
 exact⟨Same.refl _,y xs q⟩
theorem items_zip {K:W.Frag}{a b:Addr}{xs ys:List V}{H1:Hp}(h:H1 a=some (.tup xs))(h':H1 b=some (.tup ys))(i:Nat)(H:Hp)(s:Same H1 H) :
 (i<min xs.length ys.length->(Itz true K a b).go i H/\∀v H2,(Itz true K a b).yld i H v H2->Same H H2/\∃p x y,v=.ref p/\H2 p=some (.tup [x,y])/\xs[i]?=some x/\ys[i]?=some y)/\(min xs.length ys.length<=i->(Itz true K a b).stop i H):=by
 have q:SqK true K H a xs:=SqT.of (s _ _ h)
 have q':SqK true K H b ys:=SqT.of (s _ _ h')
 refine⟨fun hi=>⟨⟨xs,ys,xs[i]'(by omega),ys[i]'(by omega),q,q',List.getElem?_eq_getElem (by omega),List.getElem?_eq_getElem (by omega)⟩,fun v H2 ⟨p,x,y,e1,e2,e3,e4,e5⟩=>?_⟩,fun hi=>⟨xs,ys,q,q',?_⟩⟩
 ·subst e3
  exact⟨same_new e2 _,p,x,y,e1,upd_same,e4 xs q,e5 ys q'⟩
 ·by_cases hx:xs.length<=i
  ·exact .inl (List.getElem?_eq_none hx)
  ·exact .inr (List.getElem?_eq_none (by omega))
section
variable {X:Cx}{elt iter:Expr}{ifs:List Expr}{scope:Scope}{pos:Pos}{N:List Str}{js:List Nat}{sc:Scope}{N0:List Str}{wi:TI}{tt:TT}{te:TE}{x y:Str}{px py tp:Pos}{k:Nat}
theorem blk_loc {cl:List (Str×Addr)}{C:Addr}{s:Shared}{H:Hp}{fp:List Addr}(h:scope.names.lookup x=some .local):(blk X N scope cl C s H fp).env.scope.names.lookup x=some .local:=lookup_relabel_local h
theorem pe_comp1 (hc:X.calm=true)(hsc:X.env.scope=sc)(hN:X.N=N0)(B:Blk sc N0 (x::N) 1 js scope)(hx:scope.names.lookup x=some .local)(hi:PI X (.Name x px) iter wi)(ht:∀cl C s H fp,PTs (blk X (x::N) scope cl C s H fp) ifs tt)(he:∀cl C s H fp,PE (blk X (x::N) scope cl C s H fp) elt te)(hs:∀x,foldedSetIterable iter X.env x=pure x:=by intro _;rfl):PE X (.ListComp elt [⟨.Name x px,iter,ifs,0⟩] scope pos) (tComp 1 js wi (gName 0) tt te):=
 pe_comp hc hsc hN B hi (fun cl C s H fp=>pg_name (i:=0) B.nd rfl (.inl (blk_loc hx)) (.inr (blk_loc hx))) ht he hs
theorem pe_comp2 (hc:X.calm=true)(hsc:X.env.scope=sc)(hN:X.N=N0)(B:Blk sc N0 (x::y::N) 2 js scope)(hx:scope.names.lookup x=some .local)(hy:scope.names.lookup y=some .local)(hi:PI X (.Tuple [.Name x px,.Name y py] k tp) iter wi)(ht:∀cl C s H fp,PTs (blk X (x::y::N) scope cl C s H fp) ifs tt)(he:∀cl C s H fp,PE (blk X (x::y::N) scope cl C s H fp) elt te)(hs:∀x,foldedSetIterable iter X.env x=pure x:=by intro _;rfl):PE X (.ListComp elt [⟨.Tuple [.Name x px,.Name y py] k tp,iter,ifs,0⟩] scope pos) (tComp 2 js wi (gTup X.K 2 (gCons (gName 0) (gCons (gName 1) gNil))) tt te):=
 pe_comp hc hsc hN B hi (fun cl C s H fp=>pg_tup (X:=blk X (x::y::N) scope cl C s H fp) hc (pgs_cons (pg_name (i:=0) B.nd rfl (.inl (blk_loc hx)) (.inr (blk_loc hx))) (pgs_cons (pg_name (i:=1) B.nd rfl (.inl (blk_loc hy)) (.inr (blk_loc hy))) pgs_nil))) ht he hs
end
structure SA (X:Cx)(es:List Expr)(t:TA):Prop where
 get:PA X es t
structure SE (X:Cx)(e:Expr)(t:TE):Prop where
 get:PE X e t
section
variable {X:Cx}{e:Expr}{es:List Expr}{te:TE}{t:TA}{pos:Pos}
end
section
variable {prog:Program}{w:World}{A:Around}{E:Value->Shared->Prop}
end
section
variable {X:Cx}{tg:Expr}
end
theorem all_same (ns ms:List Int):((List.range (min ns.length ms.length)).all (fun j=>ns.getD j 0==ms.getD j 0)&&(ns.length==ms.length))=decide (ns=ms):=by
 rw[Bool.eq_iff_iff,and_eq_true,all_eq_true,decide_eq_true_eq,beq_iff_eq]
 constructor
 ·rintro⟨h1,h2⟩
  apply List.ext_getElem h2
  intro i a b
  have:=h1 i (mem_range.mpr (by omega))
  rw[beq_iff_eq,getD_eq_getElem?_getD,getD_eq_getElem?_getD,List.getElem?_eq_getElem a,List.getElem?_eq_getElem b]at this
  exact this
 ·rintro rfl
  exact⟨fun i _=>by rw[beq_iff_eq],rfl⟩
theorem of_rcne' {prog:Program}{w:World}{A:Around}{E:Value->Shared->Prop}{s:Shared}{a b:Value}{k:Bool}{Q:Value->Shared->Prop}(h:SeqAt.RcNeAt A s a b k)(hq:Q (.bool k) s):wpAny (model prog w) A (compareOp .NotEq a b) Q E s:=h prog w E Q hq
section
variable {X:Cx}
theorem int_val {n:Int}{u:Value}(r:RelV (.int n) u):∃t,u=.int n t:=r
theorem ints_eqAt {A:Around}{s:Shared}{ns ms:List Int}{its its2:List Value}(r1:Vals (ns.map V.int) its)(r2:Vals (ms.map V.int) its2)(j:Nat)(h1:j<its.toArray.size)(h2:j<its2.toArray.size) :
 SeqAt.EqAt A s its.toArray[j] its2.toArray[j] (ns.getD j 0==ms.getD j 0):=by
 have l1:=r1.length
 have l2:=r2.length
 rw[length_map]at l1 l2
 simp only[size_toArray]at h1 h2
 have e1:(ns.map V.int)[j]?=some (.int ns[j]):=by rw[getElem?_map,List.getElem?_eq_getElem (by omega)];rfl
 have e2:(ms.map V.int)[j]?=some (.int ms[j]):=by rw[getElem?_map,List.getElem?_eq_getElem (by omega)];rfl
 obtain⟨u,hu,ru⟩:=r1.get e1
 obtain⟨v,hv,rv⟩:=r2.get e2
 obtain⟨t,rfl⟩:=int_val ru
 obtain⟨t',rfl⟩:=int_val rv
 have a1:its.toArray[j]=.int ns[j] t:=by
  have:=(List.getElem?_eq_some_iff.mp hu).2
  simpa using this
 have a2:its2.toArray[j]=.int ms[j] t':=by
  have:=(List.getElem?_eq_some_iff.mp hv).2
  simpa using this
 rw[a1,a2,getD_eq_getElem?_getD,getD_eq_getElem?_getD,List.getElem?_eq_getElem (by omega),List.getElem?_eq_getElem (by omega)]
 exact SeqAt.EqAt.int_int _ _ _ _
def rEqT (K:W.Frag):R2:=fun x y H Q=>∃(a b:Addr) (ns ms:List Int),x=.ref a/\y=.ref b/\SqT K H a (ns.map V.int)/\SqT K H b (ms.map V.int)/\Q (.bl (decide (ns=ms))) H
def rNeT (K:W.Frag):R2:=fun x y H Q=>∃(a b:Addr) (ns ms:List Int),x=.ref a/\y=.ref b/\SqT K H a (ns.map V.int)/\SqT K H b (ms.map V.int)/\Q (.bl (!decide (ns=ms))) H
theorem op_eqT (hu:X.A.units<cLine):OpR X (compareOp .Eq) (rEqT X.K):=by
 intro pins s σ H x y v u Q I rx ry h
 obtain⟨a,b,ns,ms,rfl,rfl,ha,hb,q⟩:=h
 cases rx
 cases ry
 obtain⟨its,r1,p1,_⟩:=I.tuple ha
 obtain⟨its2,r2,p2,_⟩:=I.tuple hb
 have l1:=r1.length
 have l2:=r2.length
 rw[length_map]at l1 l2
 refine SeqAt.eq_tupleAt (show s.heap.IsTuple a its.toArray from p1) (show s.heap.IsTuple b its2.toArray from p2) hu (ints_eqAt r1 r2) ?_
 simp only[size_toArray]
 rw[<-l1,<-l2,all_same]
 exact⟨.bl (decide (ns=ms)),H,I,rfl,q⟩
theorem op_neT (hu:X.A.units<cLine):OpR X (compareOp .NotEq) (rNeT X.K):=by
 intro pins s σ H x y v u Q I rx ry h
 obtain⟨a,b,ns,ms,rfl,rfl,ha,hb,q⟩:=h
 cases rx
 cases ry
 obtain⟨its,r1,p1,_⟩:=I.tuple ha
 obtain⟨its2,r2,p2,_⟩:=I.tuple hb
 have l1:=r1.length
 have l2:=r2.length
 rw[length_map]at l1 l2
 refine of_rcne' (SeqAt.RcNeAt.tuples (show s.heap.IsTuple a its.toArray from p1) (show s.heap.IsTuple b its2.toArray from p2) hu (ints_eqAt r1 r2)) ?_
 simp only[size_toArray]
 rw[<-l1,<-l2,all_same]
 exact⟨.bl (!decide (ns=ms)),H,I,rfl,q⟩
end
def tSetC (i:Nat)(te:TE):TS:=fun D σ H=>te σ H fun v H1=>D.nx (σ.set i (some v)) H1
theorem ps_comp {X:Cx}{elt tg iter:Expr}{ifs:List Expr}{scope:Scope}{pos pos' spos:Pos}{N:List Str}{nt:Nat}{js:List Nat}{sc:Scope}{N0:List Str}{wi:TI}{g:TG}{tt:TT}{te:TE}{ii:Nat}{nm:Str}(hNd:X.N.Nodup)(hii:X.N[ii]?=some nm)(hloc:Loc X.env.scope nm)(hc:X.calm=true)(hsc:X.env.scope=sc)(hN:X.N=N0)(B:Blk sc N0 N nt js scope)(hi:PI X tg iter wi)(hg:∀cl C s H fp,PG (blk X N scope cl C s H fp) tg g)(ht:∀cl C s H fp,PTs (blk X N scope cl C s H fp) ifs tt)(he:∀cl C s H fp,PE (blk X N scope cl C s H fp) elt te)(hsw:swapsWith (.ListComp elt [⟨tg,iter,ifs,0⟩] scope pos) (some (.Name nm pos')) spos.line X.env=pure true:=by rfl)(hf:X.fn nm=true\/X.env.scope.names.lookup nm=some .local:=by first | exact .inl rfl | exact .inr rfl | assumption)(hs:∀x,foldedSetIterable iter X.env x=pure x:=by intro _;rfl):PS X (.Assign [.Name nm pos'] (.ListComp elt [⟨tg,iter,ifs,0⟩] scope pos) spos) (tSetC ii (tComp nt js wi g tt te)):=by
 subst hsc hN
 intro pins s σ H D I h
 obtain⟨cl,hcl,c1,c2⟩:=clos_of (env:=X.env) (scope:=scope) fun y hy hk=>I.ok.has y.1 (B.cap y hy hk)
 rw[PySem.exec_Assign_Name_used _ _ _ _ hsw]
 refine wpAny_bind (wpAny_standAt (wpAny_bind ?_))
 show wpAny _ _ (comprehension _ scope X.env _ _ _ _ (some (assign (.Name nm pos') X.env)) >>= _) _ _ _
 refine wpAny_bind (thn (Q:=fun _ s'=>∃σ' H',Inv X pins σ' H' s'/\D.nx σ' H') ?_ fun _ s9 q9=>wpAny_pure (wpAny_pure q9))
 refine wpAny_comprehension_free (use:=some (assign (.Name nm pos') X.env)) rfl hs hcl B.kind B.loc (thn (hi pins s σ H _ I h) fun v s1 q1=>thn q1 fun itv s2 q2=>?_)
 obtain⟨it,fp,tn,J,H2,e,I2,T,st2,f2,q2⟩:=q2
 subst e
 obtain⟨W,⟨m0,w0⟩,turn⟩:=q2 s2.heap.objs.size (I2.hok.fresh (Nat.le_refl _))
 have hlt:∀b∈fp,b<s2.heap.objs.size:=fun b hb=>by
  obtain⟨o,eo,_⟩:=T.obj _ _ st2 b hb
  exact lt_size eo
 refine wpAny_newObj_type (wpAny_newFunctionEnv B.nocell (by intro y hy;simp at hy) (fun h1 hns hsb=>?_) B.kind)
 dsimp only at hns hsb ⊢
 have hsz:(s2.heap.push {cls:=.type "list",dict:=none,data:=.seq ([]:List Value).toArray}).objs.size=s2.heap.objs.size+1:=by rw[size_push]
 have old:∀b o,s2.heap.get? b=some o->h1.get? b=some o:=fun b o eb=>hsb.extBut b o (by rw[hsz];exact ne_of_lt (lt_succ_of_lt (lt_size eb))) (get?_push_of_some _ (get?_push_of_some _ eb))
 have hD:h1.get? s2.heap.objs.size=some {cls:=.type "list",data:=.seq ([]:List Value).toArray 0}:=hsb.extBut _ _ (by rw[hsz];exact ne_of_lt (lt_succ_self _)) (get?_push_of_some _ (get?_push_size _ rfl))
 rw[hsz]at hns
 have I3:=blk_start (cl:=cl) (fp:=fp) (tk:=s2.toks+([]:List (Str×Value)).length) I2 B c1 c2 f2 hlt old (show h1.Ns (s2.heap.objs.size+1) fun _=>none from hns) hD
 have stat:∀{H':Hp},(∀b∈fp,H' b=none)->∀b∈fp,FpOk (blk X N scope cl (s2.heap.objs.size+1) s2 H2 fp) [] H' b:=fun{H'} hn b hb=>
  ⟨hn b hb,ne_of_lt (lt_succ_of_lt (hlt b hb)),fun z=>(mem_cons.mp (I2.stkSub b z)).elim (f2 b hb).2.1 (f2 b hb).2.2.1,.inl hb,fun x c ec=>(f2 b hb).2.2.2.2.1 x c (c1 x c ec),fun p hp=>absurd (show p∈([]:List (Addr×Obj)) from hp) (by simp)⟩
 have fin:∀{i:Nat} {σ':St} {H':Hp} {s':Shared},Inv (blk X N scope cl (s2.heap.objs.size+1) s2 H2 fp) [] σ' H' s'->D.nx (σ.set ii (some (.ref s2.heap.objs.size))) H'->
  compPost (model X.prog X.w) X.A X.xe (some (assign (.Name nm pos') X.env)) (fun _ s'=>∃σ' H',Inv X pins σ' H' s'/\D.nx σ' H') (.ref s2.heap.objs.size) (s2.heap.objs.size+1) (.ok .next) s':=fun{i σ' H' s'} Ib q=>by
  obtain⟨m,hn,_⟩:=id Ib.loc
  have I4:Inv X pins σ H' s':=I2.call' Ib.os Ib.base Ib.hok Ib.bare fun b hb=>⟨(f2 b hb).2.2.2.1,(f2 b hb).2.1,(f2 b hb).2.2.2.2.1,(f2 b hb).2.2.2.2.2⟩
  obtain⟨g0,g1,g2,g3,g4,g5⟩:=I2.fpOk (H':=H') (le_succ _) Ib.free
  show wpAny _ _ (assign (.Name nm pos') X.env (.ref s2.heap.objs.size)) _ _ _
  refine wpAny_bind (wpAny_standAt (wpAny_bindName (store_ok2 I4 hNd hii hloc (v:=.ref s2.heap.objs.size) rfl (fun s5 I5 ⟨a,sb,ha⟩=>?_) hf)))
  have na:s2.heap.objs.size+1≠a:=by
   rcases ha with rfl | ha
   ·exact g1
   ·exact fun z=>g4 _ _ ha z.symm
  refine⟨m,hn.sameBut sb na,fun h'' hs''=>?_⟩
  exact⟨_,H',I5.turned (t':=s5.toks) (fun b o hb eb=>hs''.extBut b o hb eb) g0 g1 g3 g4 g5,q⟩
 have loop:codeAny (model X.prog X.w) X.A (.compLoop (.ListComp elt [⟨tg,iter,ifs,0⟩] scope pos) 0 (.ref it) (.ref s2.heap.objs.size) (compEnvC scope cl (s2.heap.objs.size+1) X.env))
  (compPost (model X.prog X.w) X.A X.xe (some (assign (.Name nm pos') X.env)) (fun _ s'=>∃σ' H',Inv X pins σ' H' s'/\D.nx σ' H') (.ref s2.heap.objs.size) (s2.heap.objs.size+1)) {s2 with heap:=h1,toks:=s2.toks+([]:List (Str×Value)).length}:=by
  refine comp_turns (fun n s'=>∃i σ' H',Inv (blk X N scope cl (s2.heap.objs.size+1) s2 H2 fp) [] σ' H' s'/\tn i s'.heap/\(∀b∈fp,H' b=none)/\W i n σ' H') ?_ m0
   ⟨0,_,_,I3,T.keep _ _ _ st2 fun b _ o eb=>old b o eb,fun b hb=>?_,w0⟩
  ·rintro n s3 ⟨i,σ3,H3,J3,st3,fr3,w3⟩
   rcases turn i n σ3 H3 w3 with⟨stop,qn⟩ | ⟨go,step⟩
   ·refine thn (T.done (blk X N scope cl (s2.heap.objs.size+1) s2 H2 fp) rfl rfl rfl hc i [] s3 σ3 H3 _ J3 (stat fr3) st3 stop) fun r s4 ⟨hr,I4⟩=>?_
    subst hr
    exact fin (i:=i) I4 qn
   ·refine thn (T.item (blk X N scope cl (s2.heap.objs.size+1) s2 H2 fp) rfl rfl rfl hc i [] s3 σ3 H3 _ J3 (stat fr3) st3 go) fun r s4 ⟨u,hr,h4⟩=>?_
    subst hr
    refine thn h4 fun _ s5 ⟨x,H5,I5,r5,y5,st5,fr5⟩=>?_
    have I5':=I5.pinned (stat fr5) (T.obj _ _ st5)
    refine thn (hg _ _ _ _ _ _ s5 σ3 H5 x u _ I5' r5 (step x H5 y5)) fun _ s6 ⟨σ6,H6,I6,q6⟩=>?_
    have again:∀{σ7:St} {H7:Hp} {s7:Shared} {k:Nat},Inv (blk X N scope cl (s2.heap.objs.size+1) s2 H2 fp) ([]++pinsAt fp s5.heap) σ7 H7 s7->k<n->W (i+1) k σ7 H7->
     ∃k,k<n/\∃i σ' H',Inv (blk X N scope cl (s2.heap.objs.size+1) s2 H2 fp) [] σ' H' s7/\tn i s7.heap/\(∀b∈fp,H' b=none)/\W i k σ' H':=fun{σ7 H7 s7 k} I7 hk w7=>by
     refine⟨k,hk,i+1,σ7,H7,I7.unpinned,T.keep _ _ _ st5 fun b hb o eb=>(I7.pin (b,o) (mem_append_right _ (mem_append_right _ (mem_pinsAt hb eb)))).1,fun b hb=>?_,w7⟩
     obtain⟨o,eb,_⟩:=T.obj _ _ st5 b hb
     exact(I7.pin (b,o) (mem_append_right _ (mem_append_right _ (mem_pinsAt hb eb)))).2.1
    refine thn (ht _ _ _ _ _ _ s6 σ6 H6 _ I6 q6) fun ok s7 ⟨H7,I7,q7⟩=>?_
    cases ok with
    |false=>
     rw[if_neg Bool.false_ne_true]at q7 ⊢
     obtain⟨k,hk,w7⟩:=q7
     exact again I7 hk w7
    |true=>
     rw[if_pos rfl]at q7 ⊢
     refine thn (he _ _ _ _ _ _ s7 σ6 H7 _ I7 q7) fun y s8 ⟨v8,H8,I8,r8,ys,e8,z8,k,hk,w8⟩=>?_
     refine thn (mt_append _ s8 σ6 H8 (.ref s2.heap.objs.size) [v8] _ [y] (fun _ H9=>W (i+1) k σ6 H9) I8 rfl (.cons r8 .nil) ⟨_,ys,v8,rfl,rfl,e8,z8,w8⟩) fun _ s9 ⟨_,H9,I9,_,w9⟩=>?_
     exact again I9 hk w9
  ·show upd H2 _ _ b=none
   rw[upd_ne (ne_of_lt (hlt b hb))]
   exact(f2 b hb).1
 rw[hsz]
 exact codeAny_compStart_list loop (T.self _ 0 _ _ _ (T.keep _ _ _ st2 fun b _ o eb=>old b o eb) loop)
theorem range_filter_succ (n:Nat)(keep:Nat->Bool):(List.range (n+1)).filter keep=(List.range n).filter keep++(if keep n=true then [n] else []):=by
 rw[range_succ,filter_append]
 congr 1
 cases h:keep n<;>simp[h]
theorem comp_sel {J:It}{g:TG}{tt:TT}{te:TE}{Q:VK}{D:Addr}{H1:Hp}{σ0:St}(n:Nat)(hn:n<=sizeLine)(keep:Nat->Bool)(f:Nat->V)(Sg:St->Prop)(itm:Nat->Hp->V->Prop)(hD:H1 D=none)(s0:Sg σ0)(items:∀i H,Same H1 H->(i<n->J.go i H/\∀x H2,J.yld i H x H2->Same H H2/\itm i H2 x)/\(n<=i->J.stop i H))(step:∀i x σ' H,i<n->Same H1 H->itm i H x->Sg σ'->∀(R:St->V->Hp->Prop) (S:St->Hp->Prop),(keep i=true->∀σ3 y H5,Sg σ3->Same H H5->y=f i->R σ3 y H5)->(keep i=false->∀σ3 H4,Sg σ3->Same H H4->S σ3 H4)->
  g x σ' H fun σ3 H3=>tt σ3 H3 fun ok H4=>if ok=true then te σ3 H4 (R σ3) else S σ3 H4)(fin:∀H',Same H1 H'->H' D=some (.lst (((List.range n).filter keep).map f))->Q (.ref D) H') :
 cmpW J g tt te Q D σ0 H1:=by
 refine⟨fun i m σ H=>m=n - i/\i<=n/\Sg σ/\Same H1 H/\H D=some (.lst (((List.range i).filter keep).map f)),⟨n,by omega,zero_le _,s0,(Same.refl H1).upd_free hD _,upd_same⟩,?_⟩
 rintro i m σ H ⟨rfl,hi,hs,sm,hd⟩
 by_cases hlt:i<n
 ·obtain⟨go,yl⟩:=(items i H sm).1 hlt
  refine .inr ⟨go,fun x H2 y=>?_⟩
  obtain⟨s2,im⟩:=yl x H2 y
  refine step i x σ H2 hlt (sm.trans s2) im hs _ _ (fun kp σ3 y H5 g3 s5 ey=>?_) (fun kp σ3 H4 g3 s4=>?_)
  ·have ll:(((List.range i).filter keep).map f).length<=i:=by
    rw[length_map]
    exact le_trans (List.length_filter_le _ _) (by rw[length_range];exact Nat.le_refl _)
   refine⟨_,s5 _ _ (s2 _ _ hd),by omega,n - (i+1),by omega,rfl,by omega,g3,(sm.trans (s2.trans s5)).upd_free hD _,?_⟩
   rw[upd_same,ey,range_filter_succ,if_pos kp,map_append]
   rfl
  ·refine⟨n - (i+1),by omega,rfl,by omega,g3,sm.trans (s2.trans s4),?_⟩
   rw[s4 _ _ (s2 _ _ hd),range_filter_succ,if_neg (by rw[kp];exact Bool.false_ne_true),append_nil]
 ·have e:i=n:=by omega
  subst e
  exact .inl ⟨(items i H sm).2 (Nat.le_refl _),fin H sm hd⟩
theorem items_rng {H1:Hp}(lo:Int)(n:Nat)(i:Nat)(H:Hp)(s:Same H1 H) :
 (i<n->(Itr lo n).go i H/\∀x H2,(Itr lo n).yld i H x H2->Same H H2/\x=.int (lo+(i:Int)))/\(n<=i->(Itr lo n).stop i H):=by
 refine⟨fun hi=>⟨hi,fun x H2 ⟨e,y⟩=>?_⟩,fun hi=>hi⟩
 subst e
 exact⟨Same.refl _,y⟩
end L2
namespace BB
def stp (z L:Nat)(b:Bool):Nat×Bool:=
 if b then(if L<z then(L+1,false) else(L,true)) else(if 0<L then(L - 1,true) else(0,false))
def out (z:Nat):Nat->List Bool->List Bool
 |_,[]=>[]
 |L,b::r=>(stp z L b).2::out z (stp z L b).1 r
def fin (z:Nat):Nat->List Bool->Nat
 |L,[]=>L
 |L,b::r=>fin z (stp z L b).1 r
theorem fin_append (z:Nat):∀(L:Nat) (x y:List Bool),fin z L (x++y)=fin z (fin z L x) y
 |_,[],_=>rfl
 |L,b::r,y=>fin_append z _ r y
theorem out_length (z:Nat):∀(L:Nat) (bs:List Bool),(out z L bs).length=bs.length
 |_,[]=>rfl
 |L,b::r=>by
  show(out z _ r).length+1=r.length+1
  rw[out_length z _ r]
theorem count_out {z:Nat}:∀{L:Nat} {bs:List Bool},(out z L bs).count true+fin z L bs=L+bs.count true
 |L,[]=>by simp[out,fin]
 |L,b::r=>by
  have ih:=count_out (z:=z) (L:=(stp z L b).1) (bs:=r)
  have e1:out z L (b::r)=(stp z L b).2::out z (stp z L b).1 r:=rfl
  have e2:fin z L (b::r)=fin z (stp z L b).1 r:=rfl
  rw[e1,e2,count_cons,count_cons]
  have k:(stp z L b).1+(if(stp z L b).2==true then 1 else 0)=L+(if b==true then 1 else 0):=by
   unfold stp
   cases b
   ·simp only[false_eq_true,if_false]
    split<;>simp<;>omega
   ·simp only[if_true]
    split<;>simp
  omega
def places:Int->List Bool->List Int
 |_,[]=>[]
 |lo,b::r=>(if b=true then [lo] else [])++places (lo+1) r
theorem places_append:∀(lo:Int) (x y:List Bool),places lo (x++y)=places lo x++places (lo+(x.length:Int)) y
 |lo,[],y=>by show places lo y=places (lo+((0:Nat):Int)) y;congr 1;omega
 |lo,b::r,y=>by
  show _++places (lo+1) (r++y)=(_++places (lo+1) r)++places (lo+((r.length+1:Nat):Int)) y
  rw[places_append (lo+1) r y,List.append_assoc]
  congr 3
  omega
theorem places_length:∀(lo:Int) (bs:List Bool),(places lo bs).length=bs.count true
 |_,[]=>rfl
 |lo,b::r=>by
  show(_++places (lo+1) r).length=_
  rw[length_append,places_length (lo+1) r,count_cons]
  cases b<;>simp<;>omega
theorem places_ge:∀{lo:Int} {bs:List Bool} {p:Int},p∈places lo bs->lo<=p/\p<lo+(bs.length:Int)
 |lo,[],p,h=>by cases h
 |lo,b::r,p,h=>by
  rcases mem_append.mp (show p∈(if b=true then [lo] else [])++places (lo+1) r from h) with h | h
  ·cases b
   ·cases h
   ·have:p=lo:=by simpa using h
    subst this
    simp only[length_cons]
    omega
  ·have:=places_ge h
   simp only[length_cons]
   omega
theorem places_up:∀(lo:Int) (bs:List Bool),(places lo bs).Pairwise (· < ·)
 |_,[]=>.nil
 |lo,b::r=>by
  refine List.pairwise_append.mpr ⟨by cases b<;>simp,places_up (lo+1) r,fun x hx y hy=>?_⟩
  have:=places_ge hy
  cases b
  ·cases hx
  ·have:x=lo:=by simpa using hx
   omega
def mir (row:List Int):List Int:=row.reverse.map fun p=>-p
theorem mir_length (row:List Int):(mir row).length=row.length:=by unfold mir;rw[length_map,List.length_reverse]
theorem mir_up {row:List Int}(h:row.Pairwise (· < ·)):(mir row).Pairwise (· < ·):=by
 unfold mir
 rw[pairwise_map,List.pairwise_reverse]
 exact h.imp fun{a b} z=>by omega
def row (lo:Int)(n:Nat):List Int:=(List.range n).map fun(k:Nat)=>lo+(k:Int)
theorem row_zero (lo:Int):row lo 0=[]:=rfl
theorem row_succ (lo:Int)(n:Nat):row lo (n+1)=lo::row (lo+1) n:=by
 unfold row
 rw[List.range_succ_eq_map,map_cons,List.map_map]
 congr 1
 ·show lo+((0:Nat):Int)=lo
  omega
 ·refine map_congr_left fun k _=>?_
  show lo+((k+1:Nat):Int)=lo+1+(k:Int)
  omega
def sp (z:Nat):Nat->Int->List Int->List Int
 |L,box,[]=>row box L
 |L,box,p::r=>row box (min L (p - box).toNat)++
  (if L - min L (p - box).toNat<z then sp z (L - min L (p - box).toNat+1) (p+1) r else p::sp z (L - min L (p - box).toNat) (p+1) r)
theorem sp_gap {z L:Nat}{lo:Int}{rw_:List Int}(h:∀p∈rw_,lo+1<=p):sp z L lo rw_=if 0<L then lo::sp z (L - 1) (lo+1) rw_ else sp z 0 (lo+1) rw_:=by
 cases rw_ with
 |nil=>
  show row lo L=if 0<L then lo::row (lo+1) (L - 1) else row (lo+1) 0
  cases L with
  |zero=>rfl
  |succ L=>rw[if_pos (succ_pos L),row_succ];rfl
 |cons p r=>
  have hp:=h p (mem_cons_self ..)
  cases L with
  |zero=>
   rw[if_neg (by omega)]
   unfold sp
   rw[zero_min,zero_min]
   rfl
  |succ L=>
   rw[if_pos (succ_pos L)]
   have e:min (L+1) (p - lo).toNat=min L (p - (lo+1)).toNat+1:=by omega
   unfold sp
   rw[e,row_succ,show L+1 - 1=L from rfl,show L+1 - (min L (p - (lo+1)).toNat+1)=L - min L (p - (lo+1)).toNat by omega]
   rfl
theorem sp_places (z:Nat):∀(L:Nat) (lo:Int) (bs:List Bool),sp z L lo (places lo bs)=places lo (out z L bs)++row (lo+(bs.length:Int)) (fin z L bs)
 |L,lo,[]=>by
  show row lo L=[]++row (lo+((0:Nat):Int)) L
  rw[nil_append]
  congr 1
  omega
 |L,lo,false::r=>by
  have e:places lo (false::r)=places (lo+1) r:=rfl
  rw[e,sp_gap fun p hp=>(places_ge hp).1]
  have el:lo+1+(r.length:Int)=lo+((false::r).length:Int):=by simp only[length_cons];omega
  by_cases c:0<L
  ·rw[if_pos c,sp_places z (L - 1) (lo+1) r,el]
   have e1:stp z L false=(L - 1,true):=by unfold stp;simp only[false_eq_true,if_false,if_pos c]
   show _=((if(stp z L false).2=true then [lo] else [])++places (lo+1) (out z (stp z L false).1 r))++row _ (fin z (stp z L false).1 r)
   rw[e1]
   rfl
  ·rw[if_neg c,sp_places z 0 (lo+1) r,el]
   have e1:stp z L false=(0,false):=by unfold stp;simp only[false_eq_true,if_false,if_neg c]
   show _=((if(stp z L false).2=true then [lo] else [])++places (lo+1) (out z (stp z L false).1 r))++row _ (fin z (stp z L false).1 r)
   rw[e1]
   rfl
 |L,lo,true::r=>by
  have e:places lo (true::r)=lo::places (lo+1) r:=rfl
  have el:lo+1+(r.length:Int)=lo+((true::r).length:Int):=by simp only[length_cons];omega
  rw[e]
  unfold sp
  have em:min L (lo - lo).toNat=0:=by rw[Int.sub_self];exact Nat.min_zero L
  rw[em,row_zero,nil_append,Nat.sub_zero]
  by_cases c:L<z
  ·rw[if_pos c,sp_places z (L+1) (lo+1) r,el]
   have e1:stp z L true=(L+1,false):=by unfold stp;simp only[if_true,if_pos c]
   show _=((if(stp z L true).2=true then [lo] else [])++places (lo+1) (out z (stp z L true).1 r))++row _ (fin z (stp z L true).1 r)
   rw[e1]
   rfl
  ·rw[if_neg c,sp_places z L (lo+1) r,el]
   have e1:stp z L true=(L,true):=by unfold stp;simp only[if_true,if_neg c]
   show _=((if(stp z L true).2=true then [lo] else [])++places (lo+1) (out z (stp z L true).1 r))++row _ (fin z (stp z L true).1 r)
   rw[e1]
   rfl
theorem sp_free {z:Nat}{box box':Int}:∀{r:List Int},sp z 0 box r=sp z 0 box' r
 |[]=>rfl
 |p::r=>by
  unfold sp
  rw[zero_min,zero_min]
  rfl
def step (z:Nat)(r:List Int):List Int:=sp z 0 (r.headD 0) r
theorem step_places {z:Nat}{lo:Int}{bs:List Bool}(h:fin z 0 bs=0):step z (places lo bs)=places lo (out z 0 bs):=by
 unfold step
 rw[sp_free (box':=lo),sp_places,h,row_zero,append_nil]
theorem cells:∀(n:Nat) (lo:Int) (r:List Int),r.Pairwise (· < ·)->(∀p∈r,lo<=p/\p<lo+(n:Int))->∃bs:List Bool,bs.length=n/\places lo bs=r
 |0,lo,r,_,h=>by
  cases r with
  |nil=>exact⟨[],rfl,rfl⟩
  |cons p r=>have:=h p (mem_cons_self ..);omega
 |n+1,lo,r,up,h=>by
  cases r with
  |nil=>
   obtain⟨bs,e1,e2⟩:=cells n (lo+1) [] .nil (fun p hp=>by cases hp)
   exact⟨false::bs,by rw[length_cons,e1],e2⟩
  |cons p r=>
   obtain⟨u1,u2⟩:=pairwise_cons.mp up
   have hp:=h p (mem_cons_self ..)
   by_cases c:p=lo
   ·subst c
    obtain⟨bs,e1,e2⟩:=cells n (p+1) r u2 fun q hq=>by
     have:=u1 q hq
     have:=h q (mem_cons_of_mem _ hq)
     omega
    refine⟨true::bs,by rw[length_cons,e1],?_⟩
    show [p]++places (p+1) bs=_
    rw[e2]
    rfl
   ·obtain⟨bs,e1,e2⟩:=cells n (lo+1) (p::r) up fun q hq=>by
     have:=h q hq
     rcases mem_cons.mp hq with rfl | hq'
     ·omega
     ·have:=u1 q hq'
      omega
    exact⟨false::bs,by rw[length_cons,e1],e2⟩
theorem fin_falses (z:Nat):∀(k L:Nat),fin z L (replicate k false)=L - k
 |0,L=>rfl
 |k+1,L=>by
  show fin z (stp z L false).1 (replicate k false)=_
  rw[fin_falses z k]
  unfold stp
  simp only[false_eq_true,if_false]
  split<;>simp only<;>omega
theorem places_falses:∀(k:Nat) (lo:Int),places lo (replicate k false)=[]
 |0,_=>rfl
 |k+1,lo=>places_falses k (lo+1)
theorem window (z:Nat){A B:Int}{r:List Int}(up:r.Pairwise (· < ·))(h:∀p∈r,A<=p/\p<=B):∃bs:List Bool,places A bs=r/\fin z 0 bs=0/\bs.count true=r.length/\(r≠[]->A+(bs.length:Int)<=B+1+(r.length:Int)):=by
 obtain⟨bs,e1,e2⟩:=cells (B+1 - A).toNat A r up fun p hp=>by have:=h p hp;omega
 have hc:bs.count true=r.length:=by rw[<-places_length A bs,e2]
 have hf:fin z 0 bs<=r.length:=by have:=count_out (z:=z) (L:=0) (bs:=bs);omega
 refine⟨bs++replicate (fin z 0 bs) false,?_,?_,?_,fun ne=>?_⟩
 ·rw[places_append,places_falses,append_nil,e2]
 ·rw[fin_append,fin_falses,Nat.sub_self]
 ·rw[List.count_append,hc]
  have:(replicate (fin z 0 bs) false).count true=0:=by simp[List.count_replicate]
  omega
 ·cases r with
  |nil=>exact absurd rfl ne
  |cons p r=>
   have:=h p (mem_cons_self ..)
   rw[length_append,length_replicate,e1]
   omega
structure Rw (r:List Int)(k:Nat)(A B:Int):Prop where
 up:r.Pairwise (· < ·)
 len:r.length=k
 bd:∀p∈r,A<=p/\p<=B
theorem Rw.mono {r:List Int}{k:Nat}{A B A' B':Int}(h:Rw r k A B)(ha:A'<=A)(hb:B<=B'):Rw r k A' B':=⟨h.up,h.len,fun p hp=>by have:=h.bd p hp;omega⟩
theorem Rw.mir {r:List Int}{k:Nat}{A B:Int}(h:Rw r k A B):Rw (mir r) k (-B) (-A):=⟨mir_up h.up,by rw[mir_length,h.len],fun p hp=>by
 obtain⟨q,hq,rfl⟩:=mem_map.mp hp
 have:=h.bd q (List.mem_reverse.mp hq)
 omega⟩
theorem Rw.step {r:List Int}{k:Nat}{A B:Int}(z:Nat)(h:Rw r k A B):Rw (step z r) k A (B+(k:Int)):=by
 obtain⟨bs,e1,e2,e3,e4⟩:=window z h.up h.bd
 have hc:=count_out (z:=z) (L:=0) (bs:=bs)
 rw[<-e1,step_places e2]
 refine⟨places_up _ _,by rw[places_length];have:=h.len;omega,fun p hp=>?_⟩
 have:=places_ge hp
 rw[out_length]at this
 have ne:r≠[]:=fun w=>by
  have:(places A (out z 0 bs)).length=0:=by rw[places_length];rw[w]at e3;simp only[length_nil]at e3;omega
  rw[List.length_eq_zero_iff]at this
  rw[this]at hp
  cases hp
 have:=e4 ne
 have:=h.len
 omega
def unstep (z:Nat)(r:List Int):List Int:=mir (step z (mir r))
theorem Rw.unstep {r:List Int}{k:Nat}{A B:Int}(z:Nat)(h:Rw r k A B):Rw (unstep z r) k (A - (k:Int)) B:=by
 have:=(h.mir.step z).mir
 rw[Int.neg_neg,show -(-A+(k:Int))=A - (k:Int) by omega]at this
 exact this
def it (f:List Int->List Int):Nat->List Int->List Int
 |0,r=>r
 |n+1,r=>f (it f n r)
theorem Rw.its {z:Nat}{r:List Int}{k:Nat}{A B:Int}(h:Rw r k A B):∀n:Nat,Rw (it (BB.step z) n r) k A (B+(n:Int)*(k:Int))
 |0=>by
  show Rw r k A (B+((0:Nat):Int)*(k:Int))
  rw[show((0:Nat):Int)*(k:Int)=0 by simp,Int.add_zero]
  exact h
 |n+1=>by
  have:=(h.its (z:=z) n).step z
  rw[show B+((n+1:Nat):Int)*(k:Int)=B+(n:Int)*(k:Int)+(k:Int) by rw[natCast_add,Int.add_mul];omega]
  exact this
theorem Rw.itu {z:Nat}{r:List Int}{k:Nat}{A B:Int}(h:Rw r k A B):∀n:Nat,Rw (it (BB.unstep z) n r) k (A - (n:Int)*(k:Int)) B
 |0=>by
  show Rw r k (A - ((0:Nat):Int)*(k:Int)) B
  rw[show((0:Nat):Int)*(k:Int)=0 by simp,Int.sub_zero]
  exact h
 |n+1=>by
  have:=(h.itu (z:=z) n).unstep z
  rw[show A - ((n+1:Nat):Int)*(k:Int)=A - (n:Int)*(k:Int) - (k:Int) by rw[natCast_add,Int.add_mul];omega]
  exact this
def ld (L:Nat)(b:Bool):Nat:=if b then L+1 else L - 1
def lst:Nat->List Bool->Nat
 |L,[]=>L
 |L,b::r=>lst (ld L b) r
end BB
namespace L2
structure Nb2 (mg:Str->Option Value):Prop extends Nb mg where
 rev:mg "reversed" = none
 abs:mg "abs" = none
section
variable {X:Cx}{elt iter:Expr}{ifs:List Expr}{scope:Scope}{pos pos' spos:Pos}{N:List Str}{js:List Nat}{sc:Scope}{N0:List Str}{wi:TI}{tt:TT}{te:TE}{x nm:Str}{px:Pos}{ii:Nat}
theorem ps_comp1 (hNd:X.N.Nodup)(hii:X.N[ii]?=some nm)(hloc:Loc X.env.scope nm)(hc:X.calm=true)(hsc:X.env.scope=sc)(hN:X.N=N0)(B:Blk sc N0 (x::N) 1 js scope)(hx:scope.names.lookup x=some .local)(hi:PI X (.Name x px) iter wi)(ht:∀cl C s H fp,PTs (blk X (x::N) scope cl C s H fp) ifs tt)(he:∀cl C s H fp,PE (blk X (x::N) scope cl C s H fp) elt te)(hsw:swapsWith (.ListComp elt [⟨.Name x px,iter,ifs,0⟩] scope pos) (some (.Name nm pos')) spos.line X.env=pure true:=by rfl)(hf:X.fn nm=true\/X.env.scope.names.lookup nm=some .local:=by first | exact .inl rfl | exact .inr rfl | assumption)(hs:∀x,foldedSetIterable iter X.env x=pure x:=by intro _;rfl):PS X (.Assign [.Name nm pos'] (.ListComp elt [⟨.Name x px,iter,ifs,0⟩] scope pos) spos) (tSetC ii (tComp 1 js wi (gName 0) tt te)):=
 ps_comp hNd hii hloc hc hsc hN B hi (fun cl C s H fp=>pg_name (i:=0) B.nd rfl (.inl (blk_loc hx)) (.inr (blk_loc hx))) ht he hsw hf hs
end
section
variable {κ:Type}[DecidableEq κ]
def valV (kvs:List (κ×V))(k:κ):Option V:=(kvs.find? fun kv=>decide (kv.1=k)).map (·.2)
def putK (kvs:List (κ×V))(k:κ)(v:V):List (κ×V):=
 if(kvs.any fun kv=>decide (kv.1=k))=true then kvs.map (fun kv=>if kv.1=k then(kv.1,v) else kv) else kvs++[(k,v)]
theorem valV_pos {p:κ×V}{r:List (κ×V)}{k:κ}(e:p.1=k):valV (p::r) k=some p.2:=by simp[valV,find?_cons,e]
theorem valV_neg {p:κ×V}{r:List (κ×V)}{k:κ}(e:¬p.1=k):valV (p::r) k=valV r k:=by simp[valV,find?_cons,e]
theorem valV_any (k:κ):∀kvs:List (κ×V),(kvs.any fun kv=>decide (kv.1=k))=(valV kvs k).isSome
 |[]=>rfl
 |p::r=>by
  rw[any_cons]
  by_cases e:p.1=k
  ·simp only[valV_pos e,decide_eq_true e,Bool.true_or,Option.isSome_some]
  ·rw[valV_neg e,decide_eq_false e,Bool.false_or];exact valV_any k r
theorem length_putK (kvs:List (κ×V))(k:κ)(v:V):(putK kvs k v).length<=kvs.length+1:=by
 unfold putK
 split
 ·rw[length_map];omega
 ·rw[length_append,length_cons,length_nil];omega
theorem RelO.isSome_eq {o:Option V}{u:Option Value}(r:RelO o u):o.isSome=u.isSome:=by
 cases o with
 |none=>cases u with
  |none=>rfl
  |some _=>exact(show False from r).elim
 |some _=>cases u with
  |none=>exact(show False from r).elim
  |some _=>rfl
theorem KV.val {kvs:List (κ×V)}{vs:List (κ×Value)}(r:KV kvs vs)(k:κ):RelO (valV kvs k) (valueAt vs k):=by
 unfold KV at r
 induction r with
 |nil=>exact True.intro
 | @cons p q ps qs h t ih=>
   obtain⟨h1,h2⟩:=h
   by_cases e:p.1=k
   ·have e':q.1=k:=h1.symm.trans e
    have b:valueAt (q::qs) k=some q.2:=by simp[valueAt,find?_cons,e']
    rw[valV_pos e,b];exact h2
   ·have e':¬q.1=k:=fun z=>e (h1.trans z)
    have b:valueAt (q::qs) k=valueAt qs k:=by simp[valueAt,find?_cons,e']
    rw[valV_neg e,b];exact ih
theorem KV.any {kvs:List (κ×V)}{vs:List (κ×Value)}(r:KV kvs vs)(k:κ):(kvs.any fun kv=>decide (kv.1=k))=vs.any fun kv=>decide (kv.1=k):=by
 unfold KV at r
 induction r with
 |nil=>rfl
 |cons h t ih=>rw[any_cons,any_cons,ih,h.1]
theorem KV.repl {kvs:List (κ×V)}{vs:List (κ×Value)}(r:KV kvs vs)(k:κ){y:V}{u:Value}(ry:RelV y u) :
 KV (kvs.map fun kv=>if kv.1=k then(kv.1,y) else kv) (vs.map fun kv=>if kv.1=k then(kv.1,u) else kv):=by
 unfold KV at r ⊢
 induction r with
 |nil=>exact .nil
 | @cons p q ps qs h t ih=>
   rw[map_cons,map_cons]
   refine .cons ?_ ih
   obtain⟨h1,h2⟩:=h
   by_cases e:p.1=k
   ·rw[if_pos e,if_pos (h1.symm.trans e)];exact⟨h1,ry⟩
   ·rw[if_neg e,if_neg (fun z=>e (h1.trans z))];exact⟨h1,h2⟩
theorem KV.put {kvs:List (κ×V)}{vs:List (κ×Value)}(r:KV kvs vs)(k:κ){y:V}{u:Value}(ry:RelV y u):KV (putK kvs k y) (stored vs k u):=by
 unfold putK stored
 rw[r.any k]
 by_cases e:(vs.any fun kv=>decide (kv.1=k))=true
 ·rw[if_pos e,if_pos e];exact r.repl k ry
 ·rw[if_neg e,if_neg e];exact Paired.snoc r ⟨rfl,ry⟩
theorem KV.keys {kvs:List (κ×V)}{vs:List (κ×Value)}(r:KV kvs vs):kvs.map (·.1)=vs.map (·.1):=by
 unfold KV at r
 induction r with
 |nil=>rfl
 |cons h t ih=>rw[map_cons,map_cons,ih,h.1]
theorem KV.length {kvs:List (κ×V)}{vs:List (κ×Value)}(r:KV kvs vs):kvs.length=vs.length:=Paired.length r
end
theorem kV_is {P:Program}{w:World}{k:Key}{u:Value}(r:RelV (kV k) u):(mixKind P w).is k u=true:=by
 cases k with
 |inl i=>obtain⟨t,e⟩:=(show ∃t,u=Value.int i t from r);subst e;exact mixKind_int P w i t
 |inr x=>obtain⟨t,e⟩:=(show ∃t,u=Value.str x t from r);subst e;exact mixKind_str P w x t
theorem items_are {P:Program}{w:World}:∀{ks:List Key} {us:List Value},Vals (ks.map kV) us->ItemsAre (mixKind P w) ks us
 |[],_,r=>by rw[map_nil]at r;cases r;exact .nil
 |k::ks,_,r=>by
  rw[map_cons]at r
  cases r with
  |cons h t=>exact .cons (kV_is h) (items_are t)
abbrev KT (H:Hp):List (List Key×V)->List (List Key×Addr×Value)->Prop:=Paired fun p q=>p.1=q.1/\H q.2.1=some (.tup (p.1.map kV))/\RelV p.2 q.2.2
theorem KT.val {H:Hp}{kvs:List (List Key×V)}{xs:List (List Key×Addr×Value)}(r:KT H kvs xs)(k:List Key):RelO (valV kvs k) ((atKey xs k).map (·.2)):=by
 induction r with
 |nil=>exact True.intro
 | @cons p q ps qs h t ih=>
   obtain⟨h1,_,h2⟩:=h
   by_cases e:p.1=k
   ·have e':q.1=k:=h1.symm.trans e
    have b:atKey (q::qs) k=some q.2:=by simp[atKey,find?_cons,e']
    rw[valV_pos e,b];exact h2
   ·have e':¬q.1=k:=fun z=>e (h1.trans z)
    have b:atKey (q::qs) k=atKey qs k:=by simp[atKey,find?_cons,e']
    rw[valV_neg e,b];exact ih
theorem KT.repl {H:Hp}{kvs:List (List Key×V)}{xs:List (List Key×Addr×Value)}(r:KT H kvs xs)(k:List Key){y:V}{u:Value}(ry:RelV y u) :
 KT H (kvs.map fun kv=>if kv.1=k then(kv.1,y) else kv) (xs.map (putAt k u)):=by
 induction r with
 |nil=>exact .nil
 | @cons p q ps qs h t ih=>
   rw[map_cons,map_cons]
   refine .cons ?_ ih
   obtain⟨h1,h2,h3⟩:=h
   unfold putAt
   by_cases e:p.1=k
   ·rw[if_pos e,if_pos (h1.symm.trans e)];exact⟨h1,h2,ry⟩
   ·rw[if_neg e,if_neg (fun z=>e (h1.trans z))];exact⟨h1,h2,h3⟩
theorem KT.put {H:Hp}{kvs:List (List Key×V)}{xs:List (List Key×Addr×Value)}(r:KT H kvs xs)(k:List Key){b:Addr}{y:V}{u:Value}(hb:H b=some (.tup (k.map kV)))(ry:RelV y u) :
 KT H (putK kvs k y) (storedH xs k b u):=by
 have e:(kvs.any fun kv=>decide (kv.1=k))=(atKey xs k).isSome:=by
  rw[valV_any,(r.val k).isSome_eq,isSome_map]
 unfold putK storedH
 rw[e]
 by_cases q:(atKey xs k).isSome=true
 ·rw[if_pos q,if_pos q];exact r.repl k ry
 ·rw[if_neg q,if_neg q];exact Paired.snoc r ⟨rfl,hb,ry⟩
theorem KT.keeps {H H':Hp}{kvs:List (List Key×V)}{xs:List (List Key×Addr×Value)}(r:KT H kvs xs)(ht:∀b ys,H b=some (.tup ys)->H' b=some (.tup ys)):KT H' kvs xs:=
 Paired.mapP r fun _ _ z=>⟨z.1,ht _ _ z.2.1,z.2.2⟩
section
variable {P:Program}{w:World}{H:Hp}{h:Heap}{a:Addr}
theorem rd_of {u:HO}(ok:HOk P w H h)(e:Rd H a u):ObjOk P w H h a u:=e.ok ok
theorem dk_rd {kvs:List (Key×V)}(ok:HOk P w H h)(e:Rd H a (.dK kvs)):kvs.length<=sizeLine/\(a==sysModules)=false/\∃vs,KV kvs vs/\h.DictOf (mixKind P w) a vs:=
 show ObjOk P w H h a (.dK kvs) from rd_of ok e
theorem dk_of {kvs:List (Key×V)}(ok:HOk P w H h)(e:H a=some (.dK kvs)):kvs.length<=sizeLine/\(a==sysModules)=false/\∃vs,KV kvs vs/\h.DictOf (mixKind P w) a vs:=dk_rd ok (.inl e)
theorem key_of {ks:List Key}(ok:HOk P w H h)(e:H a=some (.tup (ks.map kV))):(tupleKind (mixKind P w)).is h ks a:=by
 obtain⟨_,its,r,o,h1,h2,n,h3⟩:=(show ObjOk P w H h a (.tup (ks.map kV)) from ok a _ e)
 exact⟨o,its.toArray,n,h1,h2,h3,by simpa using items_are r⟩
theorem dt_rd {kvs:List (List Key×V)}(ok:HOk P w H h)(e:Rd H a (.dT kvs)):kvs.length<=sizeLine/\(a==sysModules)=false/\
 ∃xs,KT H kvs xs/\h.DictOfH (tupleKind (mixKind P w)) a xs:=by
 obtain⟨z,y,xs,r,o,es,ep,h1,h2,h3,h4,h5⟩:=(show ObjOk P w H h a (.dT kvs) from rd_of ok e)
 refine⟨z,y,xs,r,o,es,ep,h1,h2,h3,h4,fun x hx=>?_,h5⟩
 have all:∀{l:List (List Key×V)} {m:List (List Key×Addr×Value)},KT H l m->∀x∈m,(tupleKind (mixKind P w)).is h x.1 x.2.1:=by
  intro l m q
  induction q with
  |nil=>intro x hx;exact nomatch hx
  | @cons p q ps qs hq t ih=>
    intro x hx
    rcases mem_cons.mp hx with e | hx
    ·subst e
     exact key_of ok (by rw[<-hq.1];exact hq.2.1)
    ·exact ih x hx
 exact all r x hx
theorem dt_of {kvs:List (List Key×V)}(ok:HOk P w H h)(e:H a=some (.dT kvs)):kvs.length<=sizeLine/\(a==sysModules)=false/\
 ∃xs,KT H kvs xs/\h.DictOfH (tupleKind (mixKind P w)) a xs:=dt_rd ok (.inl e)
end
def DGet (H:Hp)(a:Addr)(y:V)(r:Option V):Prop:=
 (∃kvs k,Rd H a (.dK kvs)/\y=kV k/\r=valV kvs k)\/∃kvs k b,Rd H a (.dT kvs)/\y=.ref b/\H b=some (.tup (k.map kV))/\r=valV kvs k
def DPut (H:Hp)(a:Addr)(y v:V)(H':Hp):Prop:=
 (∃kvs k,H a=some (.dK kvs)/\y=kV k/\kvs.length<sizeLine/\H'=upd H a (.dK (putK kvs k v)))\/
 ∃kvs k b,H a=some (.dT kvs)/\y=.ref b/\H b=some (.tup (k.map kV))/\kvs.length<sizeLine/\H'=upd H a (.dT (putK kvs k v))
theorem DGet.k {H:Hp}{a:Addr}{kvs:List (Key×V)}{k:Key}(e:H a=some (.dK kvs)):DGet H a (kV k) (valV kvs k):=.inl ⟨kvs,k,.inl e,rfl,rfl⟩
theorem DPut.k {H:Hp}{a:Addr}{kvs:List (Key×V)}{k:Key}{v:V}(e:H a=some (.dK kvs))(hl:kvs.length<sizeLine):DPut H a (kV k) v (upd H a (.dK (putK kvs k v))):=.inl ⟨kvs,k,e,rfl,hl,rfl⟩
section
variable {X:Cx}{pins:List (Addr×Obj)}{σ:St}{H:Hp}{s:Shared}{a:Addr}{y v:V}{u r:Value}{o:Option V}{A:Around}{E:Value->Shared->Prop}
theorem Inv.big (I:Inv X pins σ H s):sysModules<s.heap.objs.size:=by
 have h:mainGlobals<s.heap.objs.size:=(I.mod.glob.keeps I.bk).lt
 exact Nat.lt_trans (by decide) h
theorem d_getItem {Q:Value->Shared->Prop}(hu:A.units+1<cLine)(I:Inv X pins σ H s)(g:DGet H a y (some v))(ry:RelV y u)(h:∀w' s',Inv X pins σ H s'->RelV v w'->Q w' s') :
 wpAny (model X.prog X.w) A (getItem (.ref a) u) Q E s:=by
 rcases g with⟨kvs,k,e,ey,l⟩ | ⟨kvs,k,b,e,ey,eb,l⟩
 ·subst ey
  obtain⟨z,hd,vs,rel,dd⟩:=dk_rd I.hok e
  obtain⟨w',hw,rw'⟩:=RelO.some_of (v:=v) (o:=valueAt vs k) (by rw[l];exact rel.val k)
  exact wpAny_getItem_of (kV_is ry) dd.mapOf hw (h w' _ (I.tok _) rw')
 ·subst ey
  cases(show u=Value.ref b from ry)
  obtain⟨z,hd,xs,rel,dd⟩:=dt_rd I.hok e
  obtain⟨w',hw,rw'⟩:=RelO.some_of (v:=v) (o:=(atKey xs k).map (·.2)) (by rw[l];exact rel.val k)
  obtain⟨p,hp,hp2⟩:=map_eq_some_iff.mp hw
  refine wpAny_getItem_heap (tupleKind_room_in1 hu) (key_of I.hok eb) dd hp ?_
  rw[hp2]
  exact h w' _ (I.tok _) rw'
theorem d_notIn {Q:Value->Shared->Prop}(hu:A.units+1<cLine)(I:Inv X pins σ H s)(g:DGet H a y o)(ry:RelV y u)(h:∀s',Inv X pins σ H s'->Q (.bool (!o.isSome)) s') :
 wpAny (model X.prog X.w) A (compareOp .NotIn u (.ref a)) Q E s:=by
 rcases g with⟨kvs,k,e,ey,l⟩ | ⟨kvs,k,b,e,ey,eb,l⟩
 ·subst ey
  obtain⟨z,hd,vs,rel,dd⟩:=dk_rd I.hok e
  refine wpAny_notIn_of (kV_is ry) hd dd.mapOf ?_
  rw[<-(rel.val k).isSome_eq,<-l]
  exact h _ (I.tok _)
 ·subst ey
  cases(show u=Value.ref b from ry)
  obtain⟨z,hd,xs,rel,dd⟩:=dt_rd I.hok e
  refine wpAny_notIn_heap (tupleKind_room_in1 hu) (key_of I.hok eb) hd dd ?_
  have q:=(rel.val k).isSome_eq
  rw[isSome_map]at q
  rw[<-q,<-l]
  exact h _ (I.tok _)
theorem d_write {h':Heap}{t':Nat}{ob:HO}(I:Inv X pins σ H s)(mu:Mut (H a))(hs:Heap.SameBut a s.heap h')(he:∃q,h'.get? a=some q)(new:ObjOk X.prog X.w (upd H a ob) h' a ob) :
 Inv X pins σ (upd H a ob) {s with heap:=h',toks:=t'}:=
 I.write (x:=a) (e:=a) mu (.inl rfl) (fun b q hb z=>(hs.2 b hb).trans z) he new
theorem dk_new {P:Program}{w:World}{H':Hp}{h':Heap}{kvs:List (Key×V)}{vs:List (Key×Value)}(z:kvs.length<=sizeLine)(hd:(a==sysModules)=false)(rel:KV kvs vs)(dd:h'.DictOf (mixKind P w) a vs) :
 ObjOk P w H' h' a (.dK kvs):=⟨z,hd,vs,rel,dd⟩
theorem d_setItem {H':Hp}{Q:Unit->Shared->Prop}(hu:A.units+1<cLine)(I:Inv X pins σ H s)(g:DPut H a y v H')(ry:RelV y u)(rv:RelV v r)(h:∀s',Inv X pins σ H' s'->Q () s') :
 wpAny (model X.prog X.w) A (setItem (.ref a) u r) Q E s:=by
 rcases g with⟨kvs,k,e,ey,l,eH⟩ | ⟨kvs,k,b,e,ey,eb,l,eH⟩
 ·subst ey eH
  obtain⟨z,hd,vs,rel,dd⟩:=dk_of I.hok e
  have hz:vs.length<=sizeLine:=by rw[<-rel.length];exact z
  have hl:(putK kvs k v).length<=sizeLine:=by have:=length_putK kvs k v;omega
  refine wpAny_setItem_pairs (hsz:=hz) (kV_is ry) dd fun h' dd' hs=>h _ ?_
  have he:∃q,h'.get? a=some q:=let⟨q,_,_,hq,_⟩:=dd';⟨q,hq⟩
  exact d_write I (by rw[e];exact True.intro) hs he (dk_new hl hd (rel.put k rv) dd')
 ·subst ey eH
  cases(show u=Value.ref b from ry)
  obtain⟨z,hd,xs,rel,dd⟩:=dt_of I.hok e
  have hz:xs.length<=sizeLine:=by rw[<-Paired.length rel];exact z
  have hl:(putK kvs k v).length<=sizeLine:=by have:=length_putK kvs k v;omega
  refine wpAny_setItem_heap (hsz:=hz) (tupleKind_room_in1 hu) (key_of I.hok eb) dd fun h' dd' hs=>h _ ?_
  obtain⟨q,es,ep,hq,h2,h3,h4,_,h5⟩:=dd'
  refine d_write I (by rw[e];exact True.intro) hs ⟨q,hq⟩ ⟨hl,hd,_,(rel.put k eb rv).keeps fun c ys ec=>?_,q,es,ep,hq,h2,h3,h4,h5⟩
  rw[upd_ne (ne_of ec e (fun z=>nomatch z))]
  exact ec
end
section
variable {X:Cx}{pins:List (Addr×Obj)}{σ:St}{H:Hp}{s:Shared}{a:Addr}{kvs:List (Key×V)}{k:Key}{u:Value}{A:Around}{E:Value->Shared->Prop}
end
def NoSl (i:Expr):Prop:=∀ov iv,subscripted i false ov iv=operate [ov,iv] (getItem ov iv)
theorem subD_of {prog:Program}{w:World}{A:Around}{E:Value->Shared->Prop}{s:Shared}{env:Env}{value slice:Expr}{pos:Pos}{T id:String}{Q:Value->Shared->Prop}(hl:typeLookup (.type T) "__getitem__" = pure (some (.builtin id)))(hs:NoSl slice)(h:wpAny (model prog w) A (eval value env) (fun o s₁=>wpAny (model prog w) A (eval slice env) (fun i s₂=>s₂.TypeIs o T/\wpAny (model prog w) A (getItem o i) Q E s₂) E s₁) E s) :
 wpAny (model prog w) A (eval (.Subscript value slice pos) env) Q E s:=by
 refine Subscript_ (wpAny_mono h (fun o s₁ h₁=>wpAny_mono h₁ (fun i s₂ h₂=>?_) fun _ _ x=>x) fun _ _ x=>x)
 obtain⟨hT,h₂⟩:=h₂
 unfold subscriptTail
 refine wpAny_bind ?_
 rw[getitemInPython_of_ne hT.not_modules]
 refine wpAny_bind (wpAny_specialOf hT hl ?_)
 have fin:wpAny (model prog w) A (subscripted slice false o i) (fun r s₃=>wpAny (model prog w) A (letTemporaryGo value o r >>= fun _=>pure r) Q E s₃) E s₂:=by
  rw[hs o i]
  exact wpAny_operating (wpAny_mono h₂ (fun r s₃ h₃=>wpAny_bind (wpAny_letTemporaryGo (wpAny_pure h₃))) fun _ _ x=>x)
 first
  |exact wpAny_pure (wpAny_bind fin)
  |exact wpAny_bind (wpAny_pure (wpAny_bind fin))
  |exact wpAny_bind fin
theorem dict_typeIs {X:Cx}{pins:List (Addr×Obj)}{σ:St}{H:Hp}{s:Shared}{a:Addr}{y:V}{o:Option V}(I:Inv X pins σ H s)(g:DGet H a y o):s.TypeIs (.ref a) "dict":=by
 rcases g with⟨kvs,k,e,_,_⟩ | ⟨kvs,k,b,e,_,_,_⟩
 ·obtain⟨_,_,vs,_,dd⟩:=dk_rd I.hok e
  exact dd.typeIs
 ·obtain⟨_,_,xs,_,dd⟩:=dt_rd I.hok e
  exact dd.typeIs
def tDGet (td ty:TE):TE:=fun σ H Q=>td σ H fun x H1=>ty σ H1 fun y H2=>∃a v,x=.ref a/\DGet H2 a y (some v)/\Q v H2
def tDNotIn (ty td:TE):TE:=fun σ H Q=>ty σ H fun y H1=>td σ H1 fun x H2=>∃a o,x=.ref a/\DGet H2 a y o/\Q (.bl (!o.isSome)) H2
def sDPut (td ty tv:TE):TS:=fun D σ H=>tv σ H fun v H1=>td σ H1 fun x H2=>ty σ H2 fun y H3=>∃a H4,x=.ref a/\DPut H3 a y v H4/\D.nx σ H4
section
variable {X:Cx}{o i e value:Expr}{pos pos' tpos:Pos}{td ty tv:TE}
theorem pe_dget (hu:X.A.units+1<cLine)(ho:PE X o td)(hi:PE X i ty)(hs:NoSl i):PE X (.Subscript o i pos) (tDGet td ty):=by
 intro pins s σ H Q I h
 refine subD_of PySem.F.slot_dict_getitem.lookup hs (thn (ho pins s σ H _ I h) fun u s1 ⟨x,H1,I1,rx,q1⟩=>thn (hi pins s1 σ H1 _ I1 q1) fun iv s2 ⟨y,H2,I2,ry,a,v,ex,g,q2⟩=>?_)
 subst ex
 obtain rfl:u=Value.ref a:=rx
 exact⟨dict_typeIs I2 g,d_getItem hu I2 g ry fun w' s3 I3 rw'=>⟨v,H2,I3,rw',q2⟩⟩
theorem pc_dnotin (hu:X.A.units+1<cLine)(hi:PE X i ty)(ho:PE X o td):PC X .NotIn i o (tDNotIn ty td):=by
 intro pins s σ H Q I h
 refine thn (hi pins s σ H _ I h) fun iv s1 ⟨y,H1,I1,ry,q1⟩=>thn (ho pins s1 σ H1 _ I1 q1) fun u s2 ⟨x,H2,I2,rx,a,ov,ex,g,q2⟩=>?_
 subst ex
 obtain rfl:u=Value.ref a:=rx
 exact d_notIn hu I2 g ry fun s3 I3=>⟨.bl (!ov.isSome),H2,I3,rfl,q2⟩
theorem ps_dput (hu:X.A.units+1<cLine)(ho:PE X o td)(hi:PE X i ty)(hv:PE X value tv)(hs:swapsWith value (some (.Subscript o i pos')) pos.line X.env=pure false) :
 PS X (.Assign [.Subscript o i pos'] value pos) (sDPut td ty tv):=by
 intro pins s σ H D I h
 refine wpAny_Assign_Subscript (thn (hv pins s σ H _ I h) fun r s1 ⟨v,H1,I1,rv,q1⟩=>thn (ho pins s1 σ H1 _ I1 q1) fun u s2 ⟨x,H2,I2,rx,q2⟩=>thn (hi pins s2 σ H2 _ I2 q2) fun iv s3 ⟨y,H3,I3,ry,a,H4,ex,g,q3⟩=>?_) hs
 subst ex
 obtain rfl:u=Value.ref a:=rx
 exact d_setItem hu I3 g ry rv fun s4 I4=>⟨σ,H4,I4,q3⟩
end
theorem dk_empty {P:Program}{w:World}{H:Hp}(h:Heap)(hb:sysModules<h.objs.size):ObjOk P w H (h.push {cls:=.type "dict",data:=.dict #[]}) h.objs.size (.dK []):=
 ⟨zero_le _,beq_eq_false_iff_ne.mpr (Ne.symm (ne_of_lt hb)),[],.nil,Heap.DictOf.new h⟩
def tDNewK:TE:=fun _ H Q=>∀p,H p=none->Q (.ref p) (upd H p (.dK []))
section
variable {X:Cx}{pos:Pos}
theorem pe_dnewK:PE X (.Dict [] [] pos) tDNewK:=fun pins s σ H Q I h=>
 wpAny_Dict_empty ⟨.ref s.heap.objs.size,_,I.laid (a:=s.heap.objs.size) (o:=.dK []) (t':=s.toks) (fun _ _ q=>get?_push_of_some _ q) (Nat.le_refl _) (dk_empty s.heap I.big),rfl,h _ (I.hok.fresh (Nat.le_refl _))⟩
end
structure M1 (X:Cx)(o:Expr)(m:Str)(apos:Pos)(e:Expr)(cpos:Pos):Prop where
 base:attributeBase o m X.env (eval o X.env)=eval o X.env
 few:((backTo cpos (starEach [e] X.env)).all (fun x=>!x.1)&&(backToKw cpos (keywordEach [] X.env)).all (fun x=>x.1.isSome)
  &&decide (([e]:List Expr).length+([]:List Keyword).length+(if([]:List Keyword).isEmpty then 0 else 1)<30))=true
 line:(apos.endLine==cpos.line)=true
 trees:backTo cpos (starEach [e] X.env)=[(false,eval e X.env)]
structure M2 (X:Cx)(o:Expr)(m:Str)(apos:Pos)(e f:Expr)(cpos:Pos):Prop where
 base:attributeBase o m X.env (eval o X.env)=eval o X.env
 few:((backTo cpos (starEach [e,f] X.env)).all (fun x=>!x.1)&&(backToKw cpos (keywordEach [] X.env)).all (fun x=>x.1.isSome)
  &&decide (([e,f]:List Expr).length+([]:List Keyword).length+(if([]:List Keyword).isEmpty then 0 else 1)<30))=true
 line:(apos.endLine==cpos.line)=true
 trees:backTo cpos (starEach [e,f] X.env)=[(false,eval e X.env),(false,eval f X.env)]
section
variable {X:Cx}{pins:List (Addr×Obj)}{σ:St}{H:Hp}{s:Shared}{a:Addr}{y d:V}{u r:Value}{o:Option V}{A:Around}{E:Value->Shared->Prop}
end
section
variable {X:Cx}{o e f:Expr}{apos cpos:Pos}{td ty tx:TE}
end
section
variable {X:Cx}{pins:List (Addr×Obj)}{σ:St}{H:Hp}{s:Shared}{a:Addr}{kvs:List (Key×V)}{A:Around}{E:Value->Shared->Prop}
end
section
variable {X:Cx}{pins:List (Addr×Obj)}{σ:St}{H:Hp}{s:Shared}{a:Addr}{y:V}{u:Value}{A:Around}{E:Value->Shared->Prop}
end
section
variable {κ:Type}[DecidableEq κ]
end
section
variable {X:Cx}
end
section
variable {X:Cx}{pins:List (Addr×Obj)}{σ:St}{H:Hp}{s:Shared}{A:Around}{E:Value->Shared->Prop}{Q:Value->Shared->Prop}
end
section
variable {X:Cx}
theorem items_zipL {K:W.Frag}{a b:Addr}{xs ys:List V}{H1:Hp}(h:H1 a=some (.lst xs))(h':H1 b=some (.lst ys))(i:Nat)(H:Hp)(s:Same H1 H) :
 (i<min xs.length ys.length->(Itz false K a b).go i H/\∀v H2,(Itz false K a b).yld i H v H2->Same H H2/\∃p x y,v=.ref p/\H2 p=some (.tup [x,y])/\xs[i]?=some x/\ys[i]?=some y)/\(min xs.length ys.length<=i->(Itz false K a b).stop i H):=by
 have q:SqK false K H a xs:=SqL.of (s _ _ h)
 have q':SqK false K H b ys:=SqL.of (s _ _ h')
 refine⟨fun hi=>⟨⟨xs,ys,xs[i]'(by omega),ys[i]'(by omega),q,q',List.getElem?_eq_getElem (by omega),List.getElem?_eq_getElem (by omega)⟩,fun v H2 ⟨p,x,y,e1,e2,e3,e4,e5⟩=>?_⟩,fun hi=>⟨xs,ys,q,q',?_⟩⟩
 ·subst e3
  exact⟨same_new e2 _,p,x,y,e1,upd_same,e4 xs q,e5 ys q'⟩
 ·by_cases hx:xs.length<=i
  ·exact .inl (List.getElem?_eq_none hx)
  ·exact .inr (List.getElem?_eq_none (by omega))
end
section
variable {prog:Program}{w:World}{A:Around}{R:Result->Shared->Prop}
structure DL (prog:Program)(w:World)(l it d:Addr)(vs:List Value)(kvs:List (Key×Value))(i:Nat)(h:Heap):Prop where
 po:h.IsListIter it l i
 ls:h.IsList l vs.toArray
 dt:h.DictOf (mixKind prog w) d (kvs.take i)
 pr:∀(j:Nat) (v:Value),vs[j]?=some v->∃(p:Addr) (k:Key) (key x:Value),v=Value.ref p/\IsTup h p #[key,x]/\kvs[j]?=some (k,x)/\(mixKind prog w).is k key=true
end
section
variable {prog:Program}{w:World}{A:Around}{s:Shared}{R:Result->Shared->Prop}
end
section
variable {X:Cx}
end
end L2
namespace BB
def nx:Int->List Int->Int
 |x,[]=>x
 |x,q::R=>if q<x then nx x R else if q=x then nx (x+1) R else x
def emp:Nat->Int->List Int->List Int
 |0,_,_=>[]
 |n+1,b,R=>nx b R::emp n (nx b R+1) R
theorem rise_ext:∀{x y:List Int},x.Pairwise (· < ·)->y.Pairwise (· < ·)->(∀a,a∈x↔a∈y)->x=y
 |[],[],_,_,_=>rfl
 |[],b::y,_,_,h=>absurd ((h b).mpr (mem_cons_self ..)) (by simp)
 |a::x,[],_,_,h=>absurd ((h a).mp (mem_cons_self ..)) (by simp)
 |a::x,b::y,hx,hy,h=>by
  obtain⟨x1,x2⟩:=pairwise_cons.mp hx
  obtain⟨y1,y2⟩:=pairwise_cons.mp hy
  have e:a=b:=by
   rcases mem_cons.mp ((h a).mp (mem_cons_self ..)) with z | z
   ·exact z
   ·rcases mem_cons.mp ((h b).mpr (mem_cons_self ..)) with w | w
    ·exact w.symm
    ·have:=y1 a z;have:=x1 b w;omega
  subst e
  congr 1
  refine rise_ext x2 y2 fun c=>⟨fun hc=>?_,fun hc=>?_⟩
  ·rcases mem_cons.mp ((h c).mp (mem_cons_of_mem _ hc)) with z | z
   ·have:=x1 c hc;omega
   ·exact z
  ·rcases mem_cons.mp ((h c).mpr (mem_cons_of_mem _ hc)) with z | z
   ·have:=y1 c hc;omega
   ·exact z
structure At (z:Nat)(all R bh ks:List Int)(L:Nat)(box:Int):Prop where
 eq:bh++sp z L box R=step z all
 cnt:bh.length+L+R.length=z
 lo:∀x∈bh,x<box
 ge:∀x∈R,box<=x
 up:R.Pairwise (· < ·)
 mem:∀x,x∈ks↔x∈bh\/x∈emp L box R\/x∈R
end BB
namespace L2
structure Nb3 (mg:Str->Option Value):Prop extends Nb2 mg where
 dict:mg "dict" = none
 sorted:mg "sorted" = none
theorem hu1 {k:Nat}{A:Around}(r:Room k A):A.units+1<cLine:=by have:=r.units;omega
theorem comp_tups {J:It}{g:TG}{te:TE}{Q:VK}{D:Addr}{H1:Hp}{σ0:St}(n:Nat)(hn:n<=sizeLine)(f:Nat->List V)(Sg:St->Prop)(itm:Nat->Hp->V->Prop)(hD:H1 D=none)(s0:Sg σ0)(items:∀i H,Same H1 H->(i<n->J.go i H/\∀x H2,J.yld i H x H2->Same H H2/\itm i H2 x)/\(n<=i->J.stop i H))(step:∀i x σ' H,i<n->Same H1 H->itm i H x->Sg σ'->∀R:St->V->Hp->Prop,(∀σ3 p H5,Sg σ3->Same H H5->H5 p=some (.tup (f i))->R σ3 (.ref p) H5)->g x σ' H fun σ3 H3=>te σ3 H3 (R σ3))(fin:∀H' ys,Same H1 H'->H' D=some (.lst ys)->ys.length=n->(∀(j:Nat) (y:V),ys[j]?=some y->∃p,y=.ref p/\H' p=some (.tup (f j)))->Q (.ref D) H') :
 cmpW J g tYes te Q D σ0 H1:=by
 refine⟨fun i m σ H=>m=n - i/\i<=n/\Sg σ/\Same H1 H/\∃ys,H D=some (.lst ys)/\ys.length=i/\∀(j:Nat) (y:V),ys[j]?=some y->∃p,y=.ref p/\H p=some (.tup (f j)),⟨n,by omega,zero_le _,s0,(Same.refl H1).upd_free hD _,[],upd_same,rfl,fun j y h=>by cases h⟩,?_⟩
 rintro i m σ H ⟨rfl,hi,hs,sm,ys,hd,hl,hy⟩
 by_cases hlt:i<n
 ·obtain⟨go,yl⟩:=(items i H sm).1 hlt
  refine .inr ⟨go,fun x H2 y=>?_⟩
  obtain⟨s2,im⟩:=yl x H2 y
  have key:=step i x σ H2 hlt (sm.trans s2) im hs (fun σ3 y H5=>∃ys,H5 D=some (.lst ys)/\ys.length<sizeLine/\∃m',m'<n - i/\(m'=n - (i+1)/\i+1<=n/\Sg σ3/\Same H1 (upd H5 D (.lst (ys++[y])))/\∃zs,(upd H5 D (.lst (ys++[y]))) D=some (.lst zs)/\zs.length=i+1/\∀(j:Nat) (u:V),zs[j]?=some u->∃p,u=.ref p/\(upd H5 D (.lst (ys++[y]))) p=some (.tup (f j)))) fun σ3 p H5 g3 s5 ep=>by
   refine⟨ys,s5 _ _ (s2 _ _ hd),by omega,n - (i+1),by omega,rfl,by omega,g3,(sm.trans (s2.trans s5)).upd_free hD _,ys++[.ref p],upd_same,by rw[length_append,length_singleton,hl],fun j u hu=>?_⟩
   have dd:=s5 _ _ (s2 _ _ hd)
   by_cases c:j<ys.length
   ·rw[getElem?_append_left c]at hu
    obtain⟨p',e1,e2⟩:=hy j u hu
    have e3:=s5 _ _ (s2 _ _ e2)
    exact⟨p',e1,by rw[upd_ne (ne_of e3 dd (by intro z;cases z))];exact e3⟩
   ·have ej:j=i:=by
     have:=(List.getElem?_eq_some_iff.mp hu).1
     rw[length_append,length_singleton]at this
     omega
    subst ej
    rw[getElem?_append_right (by omega),hl,Nat.sub_self]at hu
    have eu:u=.ref p:=by simpa using hu.symm
    exact⟨p,eu,by rw[upd_ne (ne_of ep dd (by intro z;cases z))];exact ep⟩
  have e:(fun(σ3:St) (H3:Hp)=>te σ3 H3 fun y H5=>∃ys,H5 D=some (.lst ys)/\ys.length<sizeLine/\∃m',m'<n - i/\(m'=n - (i+1)/\i+1<=n/\Sg σ3/\Same H1 (upd H5 D (.lst (ys++[y])))/\∃zs,(upd H5 D (.lst (ys++[y]))) D=some (.lst zs)/\zs.length=i+1/\∀(j:Nat) (u:V),zs[j]?=some u->∃p,u=.ref p/\(upd H5 D (.lst (ys++[y]))) p=some (.tup (f j)))) =
   fun(σ3:St) (H3:Hp)=>tYes σ3 H3 fun ok H4=>if ok=true then te σ3 H4 fun y H5=>∃ys,H5 D=some (.lst ys)/\ys.length<sizeLine/\∃m',m'<n - i/\(m'=n - (i+1)/\i+1<=n/\Sg σ3/\Same H1 (upd H5 D (.lst (ys++[y])))/\∃zs,(upd H5 D (.lst (ys++[y]))) D=some (.lst zs)/\zs.length=i+1/\∀(j:Nat) (u:V),zs[j]?=some u->∃p,u=.ref p/\(upd H5 D (.lst (ys++[y]))) p=some (.tup (f j)))
    else ∃m',m'<n - i/\(m'=n - (i+1)/\i+1<=n/\Sg σ3/\Same H1 H4/\∃zs,H4 D=some (.lst zs)/\zs.length=i+1/\∀(j:Nat) (u:V),zs[j]?=some u->∃p,u=.ref p/\H4 p=some (.tup (f j))):=by
   funext σ3 H3
   unfold tYes
   dsimp only
   rw[if_pos rfl]
  rw[<-e]
  exact key
 ·have e:i=n:=by omega
  subst e
  exact .inl ⟨(items i H sm).2 (Nat.le_refl _),fin H ys sm hd hl hy⟩
section
variable {X:Cx}
end
end L2
namespace BB
def tkn (z:Nat):Nat->Int->List Int->Nat
 |_,_,[]=>0
 |L,box,p::r=>if L - min L (p - box).toNat<z then tkn z (L - min L (p - box).toNat+1) (p+1) r+1 else tkn z (L - min L (p - box).toNat) (p+1) r
theorem load_gap {L:Nat}{d:Int}(h:0<=d):(if d<(L:Int) then d else(L:Int))=((min L d.toNat:Nat):Int):=by
 obtain⟨n,rfl⟩:=eq_ofNat_of_zero_le h
 rw[toNat_natCast]
 split
 ·rename_i c
  rw[Nat.min_eq_right (Int.ofNat_le.mp (Int.le_of_lt c))]
 ·rename_i c
  rw[Nat.min_eq_left (Int.ofNat_le.mp (Int.not_lt.mp c))]
def taken (z:Nat)(r:List Int):Nat:=tkn z 0 (r.headD 0) r
structure By (z:Nat)(all R fo:List Int)(L t:Nat)(x:Int):Prop where
 eq:fo++sp z L x R=step z all
 tk:t+tkn z L x R=taken z all
 ge:L≠0->∀p∈R,x<=p
 up:R.Pairwise (· < ·)
 le:L<=z
end BB
namespace L2
section
variable {X:Cx}
def rNeNil (K:W.Frag):R2:=fun x y H Q=>∃(a b:Addr) (xs:List V),x=.ref a/\y=.ref b/\SqL K H a xs/\SqL K H b []/\Q (.bl (!xs.isEmpty)) H
theorem op_neNil (hu:X.A.units<cLine):OpR X (compareOp .NotEq) (rNeNil X.K):=by
 intro pins s σ H x y v u Q I rx ry h
 obtain⟨a,b,xs,rfl,rfl,ha,hb,q⟩:=h
 cases rx
 cases ry
 obtain⟨its,r1,p1,_⟩:=I.list ha
 obtain⟨its2,r2,p2,_⟩:=I.list hb
 cases r2
 cases r1 with
 |nil=>
  refine of_rcne' (SeqAt.RcNeAt.lists (e:=fun _=>true) p1.isList p2.isList rfl hu (fun j h1=>absurd h1 (by simp))) ?_
  exact⟨.bl false,H,I,rfl,q⟩
 |cons h t=>
  refine of_rcne' (SeqAt.RcNeAt.lists_lengths p1.isList p2.isList (by simp) hu) ?_
  exact⟨.bl true,H,I,rfl,q⟩
end
abbrev TJ:=Str->St->Hp->VK->Prop
def PJ (X:Cx)(es:List Expr)(t:TJ):Prop:=
 ∀(out:Str) (pins:List (Addr×Obj)) (s:Shared) (σ:St) (H:Hp) (Q:VK),Inv X pins σ H s->t out σ H Q->wpAny (model X.prog X.w) X.A (joinParts out (evalEach es X.env)) (EP X pins σ Q) X.xe s
section
variable {X:Cx}{e:Expr}{es:List Expr}{te:TE}{t:TJ}{pos:Pos}
def jNil:TJ:=fun out _ H Q=>out.length<=sizeLine/\Q (.str out) H
def jStr (y:Str)(t:TJ):TJ:=fun out σ H Q=>(out++y).length<=sizeLine/\t (out++y) σ H Q
def jInt (te:TE)(t:TJ):TJ:=fun out σ H Q=>te σ H fun x H1=>∃i:Int,x=.int i/\i.natAbs.log2<1920/\(out++(toString i:Str)).length<=sizeLine/\t (out++(toString i:Str)) σ H1 Q
theorem pj_nil:PJ X [] jNil:=by
 intro out pins s σ H Q I h
 obtain⟨hz,q⟩:=h
 exact joinParts_nil ⟨.str out,H,I.tok _,⟨_,rfl⟩,q⟩ hz
theorem pj_str {y:Str}{j:Nat}(hr:PJ X es t):PJ X (.Constant (.str y) j pos::es) (jStr y t):=by
 intro out pins s σ H Q I h
 obtain⟨hz,q⟩:=h
 show wpAny _ _ (joinParts out (eval (.Constant (.str y) j pos) X.env::evalEach es X.env)) _ _ _
 refine joinParts_cons (Calls.Constant_str ?_)
 exact⟨hz,hr (out++y) pins _ σ H Q (I.tok _) q⟩
theorem pj_int (he:PE X e te)(hr:PJ X es t):PJ X (.FormattedValue e (-1) none pos::es) (jInt te t):=by
 intro out pins s σ H Q I h
 show wpAny _ _ (joinParts out (eval (.FormattedValue e (-1) none pos) X.env::evalEach es X.env)) _ _ _
 refine joinParts_cons (FormattedValue_plain (thn (he pins s σ H _ I h) fun u s1 ⟨x,H1,I1,rx,i,ex,hd,hz,q⟩=>?_))
 subst ex
 obtain⟨tk,rfl⟩:=int_val rx
 refine formatField_int_small hd ?_
 exact⟨hz,hr _ pins _ σ H1 Q (I1.tok _) q⟩
def tJoin (t:TJ):TE:=fun σ H Q=>t Str.empty σ H Q
theorem pe_fstr {e1 e2:Expr}(h:PJ X (e1::e2::es) t):PE X (.JoinedStr (e1::e2::es) pos) (tJoin t):=by
 intro pins s σ H Q I hq
 exact JoinedStr_many (h Str.empty pins s σ H Q I hq)
end
def lessOf:List Addr->Heap->Heap
 |[],h=>h
 |a::S,h=>(lessOf S h).update a fun o=>{o with data:=.freed}
theorem freed_get (h:Heap)(a:Addr):(h.update a fun o=>{o with data:=.freed}).get? a=none:=by
 obtain⟨objs,l⟩:=h
 show Heap.get? ⟨objs.modify a _,l⟩ a=none
 unfold Heap.get?
 simp only[Array.getElem?_modify,if_pos]
 cases objs[a]?<;>rfl
theorem less_in:∀{S:List Addr} {h:Heap} {b:Addr},b∈S->(lessOf S h).get? b=none
 |a::S,h,b,hb=>by
  by_cases e:a=b
  ·subst e;exact freed_get _ _
  ·show((lessOf S h).update a _).get? b=none
   rw[get?_update_other _ _ e]
   exact less_in ((mem_cons.mp hb).resolve_left fun z=>e z.symm)
theorem less_out:∀{S:List Addr} {h:Heap} {b:Addr},b∉S->(lessOf S h).get? b=h.get? b
 |[],_,_,_=>rfl
 |a::S,h,b,hb=>by
  show((lessOf S h).update a _).get? b=_
  rw[get?_update_other _ _ fun z=>hb (by rw[z];exact mem_cons_self),less_out fun z=>hb (mem_cons_of_mem _ z)]
theorem less_some {S:List Addr}{h:Heap}{b:Addr}{o:Obj}(e:(lessOf S h).get? b=some o):b∉S/\h.get? b=some o:=by
 by_cases hb:b∈S
 ·rw[less_in hb]at e;cases e
 ·exact⟨hb,(less_out hb).symm.trans e⟩
theorem less_stays (S:List Addr)(h:Heap):(lessOf S h).StaysIn h:=fun _ _ e=>(less_some e).2
theorem less_frames {S:List Addr}{h base:Heap}:∀{l:List Env},(∀b∈frs l,b∈S)->h.FunFrames base l->h.FunFrames (lessOf S h) l
 |[],_,_=>trivial
 |env::r,hs,⟨hk,⟨L,o,hf,_,ho,hd⟩,hr⟩=>by
  have hm:∀b,b=L\/b∈frs r->b∈S:=fun b hb=>hs b (by unfold frs;rw[filterMap_cons,hf];exact mem_cons.mpr hb)
  exact⟨hk,⟨L,o,hf,less_in (hm L (.inl rfl)),ho,hd⟩,less_frames (fun b hb=>hm b (.inr hb)) hr⟩
def Trc (h:Heap)(e T:Addr)(cls:Value):Prop:=
 ∃oe vs oT ts a0,h.get? e=some oe/\oe.cls=cls/\vs[0]?=some a0/\oe.data=.fields vs/\vs[1]?=some (.ref T)/\T≠e/\h.get? T=some oT/\oT.data=.fields ts/\ts[3]?=some .none
structure Fly (P:Program)(w:World)(outer:List Env)(H:Hp)(s:Shared)(H':Hp)(e:Addr)(cls:Value)(s':Shared):Prop where
 os:s'.os=s.os
 bare:AllBare s'.gens
 un:Un (frs outer) [] H H' s.heap s'.heap
 hok:HOk P w H' s'.heap
 new:s.heap.get? e=none
 free:H' e=none
 tr:∃T,Trc s'.heap e T cls/\s.heap.get? T=none/\H' T=none
def CXF (P:Program)(w:World):CXT:=fun outer H s E v s'=>∃e cls H',v=.ref e/\Fly P w outer H s H' e cls s'/\E cls (some e) H'
section
variable {P:Program}{w:World}{base:Heap}{env:Env}{outer:List Env}{L:Addr}
structure Gone (S:List Addr)(h h':Heap):Prop where
 keep:∀b o,b∉S->h.get? b=some o->h'.get? b=some o
 slot:h.UpToSlots h'
theorem Gone.hok {S:List Addr}{H:Hp}{h h':Heap}(g:Gone S h h')(hS:∀b∈S,H b=none)(x:HOk P w H h):HOk P w H h':=fun b u e=>by
 have ne:∀c u,H c=some u->c∉S:=fun c u q z=>by rw[hS c z]at q;cases q
 refine(x b u e).stay (fun c v hc q=>g.keep c v ?_ q) (fun _ q=>q) fun _ _ q=>q
 rcases hc with rfl | hc
 ·exact ne _ _ e
 ·exact ne _ _ hc
end
theorem ObjOk.live {P:Program}{w:World}{H:Hp}{h:Heap}{a:Addr}{o:HO}(x:ObjOk P w H h a o):∃u,h.get? a=some u:=by
 cases o with
 |lst xs=>exact let⟨_,_,_,_,e⟩:=x;⟨_,e⟩
 |tup xs=>exact let⟨_,_,_,_,e,_⟩:=x;⟨_,e⟩
 |dK kvs=>exact let⟨_,_,_,_,_,_,_,e,_⟩:=x;⟨_,e⟩
 |dT kvs=>exact let⟨_,_,_,_,_,_,_,e,_⟩:=x;⟨_,e⟩
 |set S n=>exact let⟨_,_,_,_,e,_⟩:=x;⟨_,e⟩
 |ins C dx fs=>exact let⟨_,_,_,e,_⟩:=x;⟨_,e⟩
 |own y=>exact x
 |xd fs=>exact let⟨_,⟨_,_,_,e,_⟩,_⟩:=x;⟨_,e⟩
 |rng lo hi=>exact let⟨_,_,_,e⟩:=x;⟨_,e⟩
 |frz ob u=>exact⟨_,x.1⟩
 |tbl ps=>exact⟨_,x⟩
 |met f y=>exact⟨_,x⟩
 |ext φ=>exact x.2.1
theorem HOk.gone {P:Program}{w:World}{H:Hp}{h:Heap}{a:Addr}(x:HOk P w H h)(e:h.get? a=none):H a=none:=by
 cases q:H a with
 |none=>rfl
 |some o=>
  obtain⟨u,z⟩:=(x a o q).live
  rw[e]at z;cases z
section
variable {X:Cx}{pins:List (Addr×Obj)}{σ:St}{H H':Hp}{s s':Shared}{e:Addr}{cls:Value}{Q:Unit->Shared->Prop}{E:Value->Shared->Prop}
structure Own (X:Cx):Prop where
 stk:X.stack=X.env::X.outer
 frm:X.env.frame=some X.env.locals
 ex:X.ex=[]
theorem Inv.flown (I:Inv X pins σ H s)(F:Fly X.prog X.w X.stack H s H' e cls s'):Inv X pins σ H' s':=by
 obtain⟨hh,g,d,t,os'⟩:=s'
 obtain rfl:os'=s.os:=F.os
 exact I.call (h':=hh) (g':=g) (d':=d) (t':=t) (ch:=[]) F.un F.hok F.bare fun b z=>absurd z (by simp)
theorem Gone.fly {S:List Addr}{h':Heap}{T:Addr}(O:Own X)(I:Inv X pins σ H' s')(g:Gone S s'.heap h')(sub:∀b∈S,(X.s₀.heap.get? b=none/\H' b=none)\/b∈frs X.stack)(ne:X.s₀.heap.get? e=none)(fe:H' e=none)(tr:Trc h' e T cls)(nT:X.s₀.heap.get? T=none)(fT:H' T=none):Fly X.prog X.w X.outer X.H₀ X.s₀ H' e cls {s' with heap:=h'}:=by
 have fr:∀b∈S,H' b=none:=fun b hb=>(sub b hb).elim (fun z=>z.2) (I.stkFree b)
 have base:=O.ex▸I.base
 have outS:∀b o,X.s₀.heap.get? b=some o->b∉X.fs->b∉S:=fun b o eb nb hb=>by
  rcases sub b hb with z | z
  ·rw[z.1]at eb;cases eb
  ·rcases mem_cons.mp (I.stkSub b z) with q | q
   ·exact absurd (Nat.lt_of_lt_of_le (lt_size eb) I.ok.above) (by rw[q];exact lt_irrefl _)
   ·exact nb q
 have atF:∀b o,X.s₀.heap.get? b=some o->X.H₀ b=none->b∈X.fs->∃sl,h'.get? b=some {o with slots:=sl}:=fun b o eb n hb=>by
  obtain⟨sl,e1⟩:=base.slot b o eb n hb (by simp)
  obtain⟨_,o',eo,hd⟩:=I.ok.funs.mem hb
  rw[eb]at eo;cases eo
  obtain⟨sl',e2⟩:=g.slot b _ e1 hd
  exact⟨sl',e2⟩
 refine⟨I.os,I.bare,⟨fun b o eb n hb _=>g.keep b o (outS b o eb hb) (base.keep b o eb n hb (by simp)),fun b o eb n hb _=>atF b o eb n hb,base.free,fun b o eb _=>?_,base.tups,base.frzs,base.tbls⟩,g.hok fr I.hok,ne,fe,T,tr,nT,fT⟩
 by_cases hb:b∈X.fs
 ·obtain⟨sl,z⟩:=atF b o eb (I.ok.frf b hb) hb
  exact⟨_,z⟩
 ·obtain⟨o1,e1⟩:=base.there b o eb (by simp)
  exact⟨o1,g.keep b o1 (outS b o eb hb) e1⟩
theorem not_frame {h h':Heap}{base:Heap}{l:List Env}{T:Addr}{o:Obj}{ts:Array Value}(hl:h.FunFrames base l)(up:h.UpToSlots h')(e:h'.get? T=some o)(hd:o.data=.fields ts):T∉frs l:=fun hb=>by
 obtain⟨_,o',eo,nd⟩:=hl.mem hb
 obtain⟨sl,e2⟩:=up T o' eo nd
 rw[e]at e2
 cases e2
 exact nd ts hd
theorem fly_on (O:Own X)(I:Inv X pins σ H s)(F:Fly X.prog X.w X.stack H s H' e cls s')(q:∀h',Fly X.prog X.w X.outer X.H₀ X.s₀ H' e cls {s' with heap:=h'}->Q () {s' with heap:=h'}) :
 wpAny (model X.prog X.w) X.A (leaving X.env (.ref e)) Q E s':=by
 have J:=I.flown F
 obtain⟨T,⟨oe,vs,oT,ts,a0,he,hc,h0,hd,h1,ne,hT,hdT,h3⟩,nT,fT⟩:=F.tr
 have old:∀b,s.heap.get? b=none->X.s₀.heap.get? b=none:=fun b z=>by
  cases q:X.s₀.heap.get? b with
  |none=>rfl
  |some o=>
   obtain⟨o',e'⟩:=I.base.there b o q (by rw[O.ex];simp)
   rw[z]at e';cases e'
 have frames:s'.heap.FunFrames (lessOf (e::T::frs X.stack) s'.heap) X.stack:=less_frames (fun b hb=>mem_cons_of_mem _ (mem_cons_of_mem _ hb)) J.stack
 have fl:Heap.FlyingW (lessOf (e::T::frs X.stack) s'.heap) (X.env::X.outer) e cls a0 s'.heap:=
  ⟨less_stays _ _,less_in (by simp),O.stk▸frames,oe,vs,T,oT,ts,he,⟨hc,h0⟩,hd,h1,less_in (by simp),ne,hT,hdT,h3⟩
 refine wpAny_leaves_onW (O.stk▸I.ok.frames) O.frm fl fun h' f' up=>q h' ?_
 obtain⟨st,_,_,oe',vs',T',oT',ts',he',⟨hc',h0'⟩,hd',h1',nb',ne',hT',hdT',h3'⟩:=f'
 have g:Gone (e::T::frs X.stack) s'.heap h':=⟨fun b o hb eb=>st b o ((less_out hb).trans eb),up⟩
 have tw:T'=T\/s'.heap.get? T'=none:=by
  by_cases hm:T'∈e::T::frs X.stack
  ·rcases mem_cons.mp hm with z | z
   ·exact absurd z ne'
   ·rcases mem_cons.mp z with z | z
    ·exact .inl z
    ·exact absurd z (not_frame J.stack up hT' hdT')
  ·exact .inr ((less_out hm).symm.trans nb')
 refine g.fly (T:=T') O J (fun b hb=>?_) (old e F.new) F.free ⟨oe',vs',oT',ts',a0,he',hc',h0',hd',h1',ne',hT',hdT',h3'⟩ ?_ ?_
 ·rcases mem_cons.mp hb with z | z
  ·exact .inl (z▸⟨old e F.new,F.free⟩)
  ·rcases mem_cons.mp z with z | z
   ·exact .inl (z▸⟨old T nT,fT⟩)
   ·exact .inr z
 ·rcases tw with z | z
  ·exact z▸old T nT
  ·cases q:X.s₀.heap.get? T' with
   |none=>rfl
   |some o=>
    obtain⟨o',e'⟩:=J.base.there T' o q (by rw[O.ex];simp)
    rw[z]at e';cases e'
 ·rcases tw with z | z
  ·exact z▸fT
  ·exact J.hok.gone z
theorem fly_off {args:List Value}{h1:Heap}(O:Own X)(I:Inv X pins σ H s)(M:Heap.MadeExcOf s.heap h1 e cls args)(q:∀h',Fly X.prog X.w X.outer X.H₀ X.s₀ H e cls {s with heap:=h'}->Q () {s with heap:=h'}) :
 wpAny (model X.prog X.w) X.A (leaving X.env (.ref e)) Q E {s with heap:=h1}:=by
 have old:∀b,s.heap.get? b=none->X.s₀.heap.get? b=none:=fun b z=>by
  cases q:X.s₀.heap.get? b with
  |none=>rfl
  |some o=>
   obtain⟨o',e'⟩:=I.base.there b o q (by rw[O.ex];simp)
   rw[z]at e';cases e'
 have frames:s.heap.FunFrames (lessOf (frs X.stack) s.heap) X.stack:=less_frames (fun b hb=>hb) I.stack
 refine wpAny_leaves_madeW (s:={s with heap:=h1}) (h:=s.heap) (base:=lessOf (frs X.stack) s.heap) (O.stk▸I.ok.frames) O.frm (less_stays _ _) (O.stk▸frames) M fun h' t f' _ _ up1=>q h' ?_
 obtain⟨st,nb,_,oe',vs',T',oT',ts',he',⟨hc',h0'⟩,hd',h1',nb',ne',hT',hdT',h3'⟩:=f'
 have up:s.heap.UpToSlots h':=(Heap.UpToSlots.of_keeps M.keeps).trans up1
 have g:Gone (frs X.stack) s.heap h':=⟨fun b o hb eb=>st b o ((less_out hb).trans eb),up⟩
 have tn:s.heap.get? T'=none:=(less_out (not_frame I.stack up hT' hdT')).symm.trans nb'
 exact g.fly (T:=T') O I (fun b hb=>.inr hb) (old e M.new) (I.hok.gone M.new) ⟨oe',vs',oT',ts',_,he',hc',h0',hd',h1',ne',hT',hdT',h3'⟩ (old T' tn) (I.hok.gone tn)
end
abbrev mroV:List Value:=[.type "ValueError",.type "Exception",.type "BaseException",.type "object"]
structure Exc (K:W.Frag)(C:Addr)(bm:List Value):Prop where
 ob:∃(nm q:Str) (N:Addr) (bs:List Value) (hdct:Bool) (sn:List Str) (sub:List Value) (ab:Bool) (col:Option Bool) (dd:Option Addr) (k0 k1 k2 k3 k5:Option Value),
  K.lookup C=some (excClassObj nm q C N bs bm hdct sn sub ab col dd k0 k1 k2 k3 k5 "ValueError.__new__")/\nsOkIn K N=true/\PySem.W.nsIn K N "__init__" = some none
 tl:tailIn K mroV bm=true
 bb:bm.contains (.type "BaseException")=true
 vb:bm.contains (.type "ValueError")=true
section
variable {P:Program}{w:World}{K:W.Frag}{mg:Str->Option Value}{base:Heap}{N:List Str}{qual:Str}{scope:Scope}{f:Addr}{cd:Value}{A:Around}{outer:List Env}{s:Shared}{H:Hp}{E:XK}
theorem own_cx {CX:CXT}:Own (cxOf CX P w K mg base N qual scope f cd A outer s H E):=⟨rfl,rfl,rfl⟩
structure Lvs (X:Cx)(E:XK):Prop where
 own:Own X
 xe:∀e s',wpAny (model X.prog X.w) X.A (leaving X.env e) (fun _ s''=>CXF X.prog X.w X.outer X.H₀ X.s₀ E e s'') (fun e' s''=>CXF X.prog X.w X.outer X.H₀ X.s₀ E e' s'') s'->X.xe e s'
theorem lvs_cx:Lvs (cxOf (CXF P w) P w K mg base N qual scope f cd A outer s H E) E:=⟨own_cx,fun _ _ h=>h⟩
end
section
variable {X:Cx}{E E':XK}
theorem Lvs.pass (L:Lvs X E)(imp:∀c a H,E' c a H->E c a H):Passes (CXF X.prog X.w) X E':=by
 intro pins σ H s v s' I h
 obtain⟨e,cls,H',rfl,F,q⟩:=h
 exact L.xe _ _ (fly_on L.own I F fun h' F'=>⟨e,cls,H',rfl,F',imp _ _ _ q⟩)
def tRaise (E:XK)(C:Addr)(ta:TA):TS:=fun _ σ H=>ta σ H fun vs H1=>vs.length<=sizeLine/\∀e,H1 e=none->E (.ref C) (some e) H1
theorem ps_raise {C:Addr}{bm:List Value}{x:Str}{np cpos pos:Pos}{a:Expr}{es:List Expr}{ta:TA}(L:Lvs X E)(hc:X.calm=true)(hg:Gl X x)(hm:X.mg x=some (.ref C))(ex:Exc X.K C bm)(ha:PA X (a::es) ta)(he:starEach (a::es) X.env=(false,eval a X.env)::starEach es X.env:=by rfl)(hpl:(backTo cpos (starEach (a::es) X.env)).any (·.1)=false:=by rfl)(hd:(x==("__debug__" : Str))=false:=by decide) :
 PS X (.Raise (some (.Call (.Name x np) (a::es) [] cpos)) none pos) (tRaise E C ta):=by
 intro pins s σ H D I h
 obtain⟨⟨nm,q,N,bs,hdct,sn,sub,ab,col,dd,k0,k1,k2,k3,k5,lk,nok,nin⟩,tl,bb,vb⟩:=ex
 have KB:=I.ok.mod.kin
 have ns:X.base.Ns N (X.base.nsMap N):=.of_isNs (PySem.W.isNs_of_in KB nok)
 refine wpAny_Raise_call_subT (nm:=nm) (q:=q) (N:=N) (bs:=bs) (bm:=bm) (hdct:=hdct) (sn:=sn) (sub:=sub) (ab:=ab) (col:=col) (dd:=dd) (k0:=k0) (k1:=k1) (k2:=k2) (k3:=k3) (k5:=k5) (mN:=X.base.nsMap N)
  F.excBase_ValueError bb (I.ok.hd hc) hpl (PySem.W.nsMap_none_of_in KB nok nin) (ld_glob I hg hm ⟨rfl,?_⟩ hd)
 have go:=ha cpos pins s σ H _ I h
 rw[he]at go ⊢
 refine Calls.evalArgs_plain (thn go fun us s1 ⟨vs,H1,I1,r,hz,q1⟩=>?_)
 refine⟨rfl,by rw[<-r.length];exact hz,I1.kIn _ _ lk,ns.keeps I1.bk,PySem.W.tail_of_in I1.kIn tl,fun h' e M=>L.xe _ _ ?_⟩
 exact fly_off L.own I1 M fun h2 F=>⟨e,.ref C,H1,rfl,F,q1 e (I1.hok.gone M.new)⟩
end
section
variable {X:Cx}{pins:List (Addr×Obj)}{σ:St}{H H':Hp}{s s':Shared}{e T:Addr}{cls:Value}{S:List Addr}{h':Heap}
theorem Gone.on (I:Inv X pins σ H s)(F:Fly X.prog X.w X.stack H s H' e cls s')(g:Gone S s'.heap h')(sub:∀b∈S,(s.heap.get? b=none/\H' b=none)\/b∈frs X.stack)(tr:Trc h' e T cls)(nT:s.heap.get? T=none)(fT:H' T=none):Fly X.prog X.w X.stack H s H' e cls {s' with heap:=h'}:=by
 have J:=I.flown F
 have fr:∀b∈S,H' b=none:=fun b hb=>(sub b hb).elim (fun z=>z.2) (J.stkFree b)
 have outS:∀b o,s.heap.get? b=some o->b∉frs X.stack->b∉S:=fun b o eb nb hb=>by
  rcases sub b hb with z | z
  ·rw[z.1]at eb;cases eb
  ·exact nb z
 have atF:∀b o,s.heap.get? b=some o->H b=none->b∈frs X.stack->∃sl,h'.get? b=some {o with slots:=sl}:=fun b o eb n hb=>by
  obtain⟨sl,e1⟩:=F.un.slot b o eb n hb (by simp)
  obtain⟨_,o',eo,hd⟩:=I.stack.mem hb
  rw[eb]at eo;cases eo
  obtain⟨sl',e2⟩:=g.slot b _ e1 hd
  exact⟨sl',e2⟩
 refine⟨F.os,F.bare,⟨fun b o eb n hb _=>g.keep b o (outS b o eb hb) (F.un.keep b o eb n hb (by simp)),fun b o eb n hb _=>atF b o eb n hb,F.un.free,fun b o eb _=>?_,F.un.tups,F.un.frzs,F.un.tbls⟩,g.hok fr F.hok,F.new,F.free,T,tr,nT,fT⟩
 by_cases hb:b∈frs X.stack
 ·obtain⟨sl,z⟩:=atF b o eb (I.stkFree b hb) hb
  exact⟨_,z⟩
 ·obtain⟨o1,e1⟩:=F.un.there b o eb (by simp)
  exact⟨o1,g.keep b o1 (outS b o eb hb) e1⟩
theorem fly_base (I:Inv X pins σ H s)(F:Fly X.prog X.w X.stack H s H' e cls s'):∃(T:Addr) (a0:Value),Heap.FlyingW (lessOf (e::T::frs X.stack) s'.heap) X.stack e cls a0 s'.heap/\
 ∀h',Heap.FlyingW (lessOf (e::T::frs X.stack) s'.heap) X.stack e cls a0 h'->s'.heap.UpToSlots h'->Fly X.prog X.w X.stack H s H' e cls {s' with heap:=h'}:=by
 have J:=I.flown F
 obtain⟨T,⟨oe,vs,oT,ts,a0,he,hc,h0,hd,h1,ne,hT,hdT,h3⟩,nT,fT⟩:=F.tr
 refine⟨T,a0,⟨less_stays _ _,less_in (by simp),less_frames (fun b hb=>mem_cons_of_mem _ (mem_cons_of_mem _ hb)) J.stack,oe,vs,T,oT,ts,he,⟨hc,h0⟩,hd,h1,less_in (by simp),ne,hT,hdT,h3⟩,fun h' f' up=>?_⟩
 obtain⟨st,_,_,oe',vs',T',oT',ts',he',⟨hc',h0'⟩,hd',h1',nb',ne',hT',hdT',h3'⟩:=f'
 have g:Gone (e::T::frs X.stack) s'.heap h':=⟨fun b o hb eb=>st b o ((less_out hb).trans eb),up⟩
 have tw:T'=T\/s'.heap.get? T'=none:=by
  by_cases hm:T'∈e::T::frs X.stack
  ·rcases mem_cons.mp hm with z | z
   ·exact absurd z ne'
   ·rcases mem_cons.mp z with z | z
    ·exact .inl z
    ·exact absurd z (not_frame J.stack up hT' hdT')
  ·exact .inr ((less_out hm).symm.trans nb')
 refine g.on (T:=T') I F (fun b hb=>?_) ⟨oe',vs',oT',ts',a0,he',hc',h0',hd',h1',ne',hT',hdT',h3'⟩ ?_ ?_
 ·rcases mem_cons.mp hb with z | z
  ·exact .inl (z▸⟨F.new,F.free⟩)
  ·rcases mem_cons.mp z with z | z
   ·exact .inl (z▸⟨nT,fT⟩)
   ·exact .inr z
 ·rcases tw with z | z
  ·exact z▸nT
  ·cases q:s.heap.get? T' with
   |none=>rfl
   |some o=>
    obtain⟨o',e'⟩:=F.un.there T' o q (by simp)
    rw[z]at e';cases e'
 ·rcases tw with z | z
  ·exact z▸fT
  ·exact J.hok.gone z
variable {A:Around}{M:Model}{E:Value->Shared->Prop}{Q:Unit->Shared->Prop}
theorem fly_seen (O:Own X)(I:Inv X pins σ H s)(F:Fly X.prog X.w X.stack H s H' e cls s')(hA:A.frames=some X.stack)(q:∀h',Fly X.prog X.w X.stack H s H' e cls {s' with heap:=h'}->Q () {s' with heap:=h'}) :
 wpAny M A (noteFrame (.ref e) X.env) (fun _ s2=>wpAny M A (setFlight (.ref e) none) Q E s2) E s':=by
 obtain⟨T,a0,fl,back⟩:=fly_base I F
 rw[O.stk]at fl hA
 refine wpAny_looks_onW hA O.frm fl fun h1 held up1=>wpAny_landsW (s:={s' with heap:=h1}) held fun h2 fl2 up2=>q h2 (back h2 ?_ (up1.trans up2))
 rw[O.stk]
 exact fl2
theorem fly_land (I:Inv X pins σ H s)(F:Fly X.prog X.w X.stack H s H' e cls s')(q:∀h',Fly X.prog X.w X.stack H s H' e cls {s' with heap:=h'}->Q () {s' with heap:=h'}) :
 wpAny M A (setFlight (.ref e) none) Q E s':=by
 obtain⟨T,a0,fl,back⟩:=fly_base I F
 exact lands_againW fl fun h2 fl2 up2=>q h2 (back h2 fl2 up2)
end
section
variable {M:Model}{A:Around}{E:Value->Shared->Prop}{h:Heap}{g:Array GenState}{d:Drawn}{t:Nat}{os:OsState}{e C C0:Addr}{oe:Obj}{Q:Bool->Shared->Prop}
variable {nm q:Str}{N:Addr}{bs bm:List Value}{hdct:Bool}{sn:List Str}{sub:List Value}{ab:Bool}{col:Option Bool}{dd:Option Addr}{k0 k1 k2 k3 k5:Option Value}{ni:String}
variable {nm' q':Str}{N':Addr}{bs' bm':List Value}{hdct':Bool}{sn':List Str}{sub':List Value}{ab':Bool}{col':Option Bool}{dd':Option Addr}{k0' k1' k2' k3' k5':Option Value}{ni':String}
theorem match_own (hC:h.get? C=some (excClassObj nm q C N bs bm hdct sn sub ab col dd k0 k1 k2 k3 k5 ni))(h0:h.get? C0=some (excClassObj nm' q' C0 N' bs' bm' hdct' sn' sub' ab' col' dd' k0' k1' k2' k3' k5' ni'))(hb:bm'.contains (.type "BaseException")=true)(he:h.get? e=some oe)(hcls:oe.cls=.ref C)(hin:(Value.ref C::bm).contains (.ref C0)=true)(hq:Q true ⟨h,g,d,t,os⟩) :
 wpAny M A (excMatches (.ref e) (.ref C0)) Q E ⟨h,g,d,t,os⟩:=by
 have hB:(Value.ref C0::bm').contains (.type "BaseException")=true:=by rw[List.contains_cons,hb,Bool.or_true]
 have f:=tc_notTuple
 obtain⟨c,dc,dt,sl⟩:=oe
 simp only at hcls
 subst hcls
 have s0:∀{Q:Bool->Shared->Prop} {E:Value->Shared->Prop},Q true ⟨h,g,d,t,os⟩->wpAny M A (isSubtype (.ref C0) (.type "BaseException")) Q E ⟨h,g,d,t,os⟩:=fun z=>wpAny_isSubtype_exc h0 (by rw[hB];exact z)
 have s1:∀{Q:Bool->Shared->Prop} {E:Value->Shared->Prop},Q true ⟨h,g,d,t,os⟩->wpAny M A (isSubtype (.ref C) (.ref C0)) Q E ⟨h,g,d,t,os⟩:=fun z=>wpAny_isSubtype_exc hC (by rw[hin];exact z)
 wp_walk using s0,s1
 exact hq
end
section
variable {prog:Program}{w:World}{A:Around}{E:Value->Shared->Prop}{K:W.Frag}{h:Heap}{g:Array GenState}{d:Drawn}{t:Nat}{os:OsState}{e C:Addr}{dc:Option Addr}{vs:Array Value}{sl:Array (Option Value)}
theorem exc_class {Q:Option Value->Shared->Prop}(X:K.In h)(he:h.get? e=some ⟨.ref C,dc,.fields vs,sl⟩)(l1:findIn K (.ref C) "__getattribute__" = some (some (.builtin "BaseException.__getattribute__")))(l2:findIn K (.ref C) "__class__" = some (some (.builtin "object.__class__")))(l3:findIn K (.ref C) "__getattr__" = some none)(l4:subIn K (.ref C) (.type "BaseException")=some true)(l5:subIn K (.ref C) (.type "object")=some true)(q:Q (some (.ref C)) ⟨h,g,d,t+1,os⟩):wpAny (model prog w) A (getAttr? (.ref e) "__class__") Q E ⟨h,g,d,t,os⟩:=by
 have L1:∀{A} {Q:Option Value->Shared->Prop} {E:Value->Shared->Prop} {t},Q (some (.builtin "BaseException.__getattribute__")) ⟨h,g,d,t,os⟩->wpAny (model prog w) A (typeLookup (.ref C) "__getattribute__") Q E ⟨h,g,d,t,os⟩:=fun z=>(looks_findIn X l1).at z
 have L2:∀{A} {Q:Option Value->Shared->Prop} {E:Value->Shared->Prop} {t},Q (some (.builtin "object.__class__")) ⟨h,g,d,t,os⟩->wpAny (model prog w) A (typeLookup (Obj.mk (.ref C) dc (.fields vs) sl).cls "__class__") Q E ⟨h,g,d,t,os⟩:=fun z=>(looks_findIn X l2).at z
 have L3:∀{A} {Q:Option Value->Shared->Prop} {E:Value->Shared->Prop} {t},Q none ⟨h,g,d,t,os⟩->wpAny (model prog w) A (typeLookup (Obj.mk (.ref C) dc (.fields vs) sl).cls "__getattr__") Q E ⟨h,g,d,t,os⟩:=fun z=>(looks_findIn X l3).at z
 have bnd:=F.attr_ValueError.ga.bind (.ref e)
 have L4:∀{A} {Q:Bool->Shared->Prop} {E:Value->Shared->Prop} {t},Q true ⟨h,g,d,t,os⟩->wpAny (model prog w) A (isSubtype (Obj.mk (.ref C) dc (.fields vs) sl).cls (.type "BaseException")) Q E ⟨h,g,d,t,os⟩:=fun z=>(looks_subIn X l4).at z
 wp_walk using L1,L3
 refine codeAny_call_builtin F.attr_ValueError.ga.plain F.entry_bexc_ga ?_
 have ar:=F.args_bexc_ga (.ref e) (.str (oS "__class__") t)
 unfold checkBuiltinCall
 rw[show builtinKind "BaseException.__getattribute__" = some .slot by decide +kernel,show splitId "BaseException.__getattribute__" = some ("BaseException","__getattribute__") by decide +kernel]
 have f5:=F.typeOf_object_class
 have f6:=F.slot_gs_get.lookup
 have f7:=F.slot_gs_set.lookup
 have f8:=F.owner_object_class
 have L5:∀{A} {Q:Bool->Shared->Prop} {E:Value->Shared->Prop} {t},Q true ⟨h,g,d,t,os⟩->wpAny (model prog w) A (isSubtype (Obj.mk (.ref C) dc (.fields vs) sl).cls (.type (".".intercalate ("object.__class__".cutAt '.').dropLast))) Q E ⟨h,g,d,t,os⟩:=fun z=>by
  rw[f8];exact(looks_subIn X l5).at z
 wp_walk using L4,L2
 refine codeAny_call_builtin F.slot_gs_get.plain F.entry_gs_get ?_
 refine F.slot_gs_get.check _ _ _ _ _ _ _ _ f5 (F.args_gs_get _ _ _) ?_
 wp_walk using L5
 refine⟨Code.quiet_builtin _ (by decide +kernel),?_⟩
 refine codeAny_builtin F.entry_object_class ?_
 wp_walk
 exact q
end
structure ExcF (K:W.Frag)(C:Addr)(bm:List Value):Prop extends Exc K C bm where
 l1:findIn K (.ref C) "__getattribute__" = some (some (.builtin "BaseException.__getattribute__"))
 l2:findIn K (.ref C) "__class__" = some (some (.builtin "object.__class__"))
 l3:findIn K (.ref C) "__getattr__" = some none
 l4:subIn K (.ref C) (.type "BaseException")=some true
 l5:subIn K (.ref C) (.type "object")=some true
def IsExc (e C:Addr)(h:Heap):Prop:=∃dc vs sl,h.get? e=some ⟨.ref C,dc,.fields vs,sl⟩
abbrev ExcO (e C:Addr):HO:=.ext (IsExc e C)
theorem excO_ok {P:Program}{w:World}{H:Hp}{h:Heap}{e C:Addr}(x:IsExc e C h):ObjOk P w H h e (ExcO e C):=by
 refine⟨x,?_,fun h1 h2 ⟨dc,vs,sl,z⟩ k=>⟨dc,vs,sl,k _ z⟩⟩
 obtain⟨dc,vs,sl,z⟩:=x
 exact⟨_,z⟩
theorem kitx_exc {K:W.Frag}{e C:Addr}{bm:List Value}(F:ExcF K C bm):PySem.W.KitX K (.ref e) (.ref C) (IsExc e C):=by
 obtain⟨⟨⟨nm,q,N,bs,hdct,sn,sub,ab,col,dd,k0,k1,k2,k3,k5,lk,_,_⟩,_,_,_⟩,l1,l2,l3,l4,l5⟩:=F
 refine⟨fun M h X ⟨dc,vs,sl,z⟩ A Q E s k hq=>?_,fun M h X _ A Q E s k hq=>?_,fun h tp dd' its n sl X htp=>?_,fun{prog w A E Q s} X ⟨dc,vs,sl,z⟩ hq=>?_⟩
 ·obtain⟨hp,g,d,t,os⟩:=s
  have z':=k _ _ z
  wp_walk
  exact hq
 ·obtain⟨hp,g,d,t,os⟩:=s
  have z':=k _ _ (X _ _ lk)
  wp_walk
  exact hq
 ·refine eq_false_iff.mpr fun w=>?_
  have e:C=tp:=Value.ref.inj (beq_iff_eq.mp w)
  subst e
  have z:=congrArg Obj.cls (Option.some.inj ((X _ _ lk).symm.trans htp))
  exact absurd (show Value.type "type" = Value.type "tuple" from z) (by decide)
 ·obtain⟨hp,g,d,t,os⟩:=s
  exact exc_class X z l1 l2 l3 l4 l5 hq
section
variable {X:Cx}
theorem call_isiE:CallR X (.builtin "isinstance") (fun xs H Q=>∃e C bm y b,xs=[.ref e,y]/\H e=some (ExcO e C)/\ExcF X.K C bm/\((∃C0,y=.ref C0/\kitOne X.K (.ref C) (.ref C0)=some b)\/∃T,y=.ty T/\kitOne X.K (.ref C) (.type T)=some b)/\Q (.bl b) H):=by
 intro pins s σ H xs us Q I r h
 obtain⟨e,C,bm,y,b,rfl,he,F,hy,q⟩:=h
 obtain⟨u,c,rfl,rx,rc⟩:=vals2 r
 cases(show u=Value.ref e from rx)
 have ie:IsExc e C s.heap:=(show ObjOk X.prog X.w H s.heap e (ExcO e C) from I.hok e _ he).1
 rcases hy with⟨C0,rfl,k⟩ | ⟨T,rfl,k⟩
 ·cases(show c=Value.ref C0 from rc)
  exact kia_one (kitx_exc F) I.kIn ie k (fun z=>nomatch z) fun tk=>⟨.bl b,H,I.tok tk,rfl,q⟩
 ·cases(show c=Value.type T from rc)
  exact kia_one (kitx_exc F) I.kIn ie k (fun z=>nomatch z) fun tk=>⟨.bl b,H,I.tok tk,rfl,q⟩
end
theorem ns_one {h:Heap}{a:Addr}{m m2:Str->Option Value}{x:Str}(p:h.Ns a m)(q:h.Ns a m2):m x=m2 x:=by
 obtain⟨o,es,ep,ho,hd,_,hf⟩:=p
 obtain⟨o',es',ep',ho',hd',_,hf'⟩:=q
 rw[ho]at ho';cases ho'
 rw[hd]at hd';cases hd'
 rw[<-hf,<-hf']
abbrev Cx.held (X:Cx)(A:Around)(E:Value->Shared->Prop):Cx:={X with A:=A,calm:=false,xe:=E}
section
variable {X:Cx}{pins:List (Addr×Obj)}{σ:St}{H H':Hp}{s s':Shared}{e C:Addr}{cls:Value}{A:Around}{E:Value->Shared->Prop}
theorem Inv.held (I:Inv X pins σ H s)(hA:A.frames=some X.stack):Inv (X.held A E) pins σ H s:=
 ⟨⟨I.ok.mod,I.ok.kind,I.ok.glob,I.ok.blt,I.ok.above,I.ok.inj,I.ok.has,I.ok.cab,fun z=>absurd z Bool.false_ne_true,hA,I.ok.stk,I.ok.exf,I.ok.bs,I.ok.bsz,I.ok.noex,I.ok.exfs,I.ok.funs,I.ok.frf⟩,
   I.os,I.bare,I.base,I.loc,I.cell,I.free,I.freeC,I.pin,I.hok,I.len⟩
theorem Inv.unheld (I:Inv (X.held A E) pins σ H s)(ok:X.Ok):Inv X pins σ H s:=⟨ok,I.os,I.bare,I.base,I.loc,I.cell,I.free,I.freeC,I.pin,I.hok,I.len⟩
theorem Inv.caught (O:Own X)(I:Inv X pins σ H s)(F:Fly X.prog X.w X.stack H s H' e (.ref C) s'):Inv X pins σ (upd H' e (ExcO e C)) s':=by
 have J:=I.flown F
 obtain⟨T,⟨oe,vs,oT,ts,a0,he,hc,h0,hd,h1,ne,hT,hdT,h3⟩,nT,fT⟩:=F.tr
 obtain⟨c,dc,dt,sl⟩:=oe
 simp only at hc hd
 subst hc hd
 have live:∀b o,s.heap.get? b=some o->b≠e:=fun b o z q=>by rw[q,F.new]at z;cases z
 have old:∀b o,X.s₀.heap.get? b=some o->b≠e:=fun b o z=>by
  obtain⟨o',z'⟩:=I.base.there b o z (by rw[O.ex];simp)
  exact live b o' z'
 have trk:∀b o,H' b=some o->b≠e:=fun b o z q=>by rw[q,F.free]at z;cases z
 refine⟨J.ok,J.os,J.bare,⟨J.base.keep,J.base.slot,fun b o z n hx=>?_,J.base.there,fun b xs z=>?_,fun b o u z=>?_,fun b ps z=>?_⟩,J.loc,J.cell,?_,fun x c z=>?_,fun p hp=>?_,fun b u z=>?_,J.len⟩
 ·rw[upd_ne (old b o z)];exact J.base.free b o z n hx
 ·have q:=J.base.tups b xs z
  rw[upd_ne (trk b _ q)];exact q
 ·have q:=J.base.frzs b o u z
  rw[upd_ne (trk b _ q)];exact q
 ·obtain⟨more,q⟩:=J.base.tbls b ps z
  exact⟨more,by rw[upd_ne (trk b _ q)];exact q⟩
 ·obtain⟨m,⟨o,_,_,ho,_⟩,_⟩:=I.loc
  rw[upd_ne (live _ o ho)];exact J.free
 ·obtain⟨v,o,ho,_⟩:=I.cell x c z
  rw[upd_ne (live _ o ho)];exact J.freeC x c z
 ·obtain⟨z,n,r⟩:=J.pin p hp
  obtain⟨z1,_⟩:=I.pin p hp
  exact⟨z,by rw[upd_ne (live _ _ z1)];exact n,r⟩
 ·by_cases q:b=e
  ·subst q
   rw[upd_same]at z
   cases z
   exact excO_ok ⟨_,_,_,he⟩
  ·rw[upd_ne q]at z
   refine(J.hok b u z).stay (fun _ _ _ z=>z) (fun c z=>?_) fun c xs z=>?_
   ·rw[upd_ne (trk c _ z)];exact z
   ·rw[upd_ne (trk c _ z)];exact z
theorem Inv.gone {k:Nat}{n:Str}{h':Heap}{m:Str->Option Value}{v:Option Value}{t':Nat}(I:Inv X pins σ H s)(nd:X.N.Nodup)(hk:X.N[k]?=some n)(hm:s.heap.Ns X.env.locals m)(hn:h'.Ns X.env.locals fun y=>if y=n then v else m y)(sb:Heap.SameBut X.env.locals s.heap h'):Inv X pins (σ.set k none) H {s with heap:=h',toks:=t'}:=by
 have kp:∀b o,b≠X.env.locals->s.heap.get? b=some o->h'.get? b=some o:=fun b o hb z=>sb.extBut b o hb z
 have old:∀b o,X.s₀.heap.get? b=some o->b≠X.env.locals:=fun b o z=>ne_of_lt (Nat.lt_of_lt_of_le (lt_size z) I.ok.above)
 have trk:∀b u,H b=some u->b≠X.env.locals:=fun b u z q=>by rw[q,I.free]at z;cases z
 have there:∀b o,s.heap.get? b=some o->∃o',h'.get? b=some o':=fun b o z=>by
  by_cases q:b=X.env.locals
  ·obtain⟨o',_,_,ho',_⟩:=hn
   exact⟨o',q▸ho'⟩
  ·exact⟨o,kp b o q z⟩
 refine⟨I.ok,I.os,I.bare,⟨fun b o z n hb hx=>kp b o (old b o z) (I.base.keep b o z n hb hx),fun b o z n hb hx=>?_,I.base.free,fun b o z hx=>?_,I.base.tups,I.base.frzs,I.base.tbls⟩,⟨_,hn,fun i x v' h1 h2 h3=>?_⟩,fun x c z=>?_,I.free,I.freeC,fun p hp=>?_,fun b u z=>?_,?_⟩
 ·obtain⟨sl,e1⟩:=I.base.slot b o z n hb hx
  exact⟨sl,kp b _ (old b o z) e1⟩
 ·obtain⟨o',e1⟩:=I.base.there b o z hx
  exact there b o' e1
 ·have ik:i≠k:=fun q=>by
   rw[q,List.getElem?_set_self']at h2
   cases z:σ[k]? with
   |none=>rw[z]at h2;cases h2
   |some _=>rw[z]at h2;cases h2
  rw[List.getElem?_set_ne (Ne.symm ik)]at h2
  have xn:x≠n:=fun q=>ik (nodup_ix nd (q▸h1) hk)
  obtain⟨m2,hm2,hl⟩:=I.loc
  obtain⟨u,ru,lk⟩:=hl i x v' h1 h2 h3
  refine⟨u,ru,?_⟩
  rcases lk with⟨a,b⟩ | ⟨a,c,b,o,ho,hd⟩
  ·refine .inl ⟨a,?_⟩
   show(if x=n then v else m x)=some u
   rw[if_neg xn,ns_one hm hm2]
   exact b
  ·exact .inr ⟨a,c,b,o,kp c o (I.cne x c b) ho,hd⟩
 ·obtain⟨v,o,ho,hd⟩:=I.cell x c z
  exact⟨v,o,kp c o (I.cne x c z) ho,hd⟩
 ·obtain⟨z,n,ne,r⟩:=I.pin p hp
  exact⟨kp _ _ ne z,n,ne,r⟩
 ·refine(I.hok b u z).stay (fun c w hc q=>kp c w ?_ q) (fun _ q=>q) fun _ _ q=>q
  rcases hc with q | q
  ·exact q▸trk b u z
  ·exact trk c _ q
 ·rw[List.length_set];exact I.len
end
abbrev TB:=St->Hp->(Hp->Prop)->XK->Prop
def PB (X:Cx)(body:List Stmt)(tb:TB):Prop:=∀(pins:List (Addr×Obj)) (s:Shared) (σ:St) (H:Hp) (Q:Hp->Prop) (E:XK),Inv X pins σ H s->tb σ H Q E->
 wpAny (model X.prog X.w) X.A (execs body X.env) (fun f s1=>f=.next/\∃H1,Inv X pins σ H1 s1/\Q H1) (fun v s1=>CXF X.prog X.w X.stack H s E v s1) s
def tTry (K:W.Frag)(C0:Addr)(k:Nat)(tb:TB)(ts:TS):TS:=fun D σ H=>tb σ H (fun H1=>D.nx σ H1) fun c ea H1=>∃C bm e,c=.ref C/\ea=some e/\ExcF K C bm/\(Value.ref C::bm).contains (.ref C0)=true/\
 ts {nx:=fun σ' H'=>D.nx (σ'.set k none) H',rt:=fun _ _=>False} (σ.set k (some (.ref e))) (upd H1 e (ExcO e C))
section
variable {X:Cx}{body suite:List Stmt}{b₀:Stmt}{tb:TB}{ts:TS}{x n:Str}{np hp pos:Pos}{C0:Addr}{bm0:List Value}{k:Nat}
theorem ps_try (O:Own X)(nd:X.N.Nodup)(hk:X.N[k]?=some n)(hkl:X.env.scope.names.lookup n=some .local)(hg:Gl X x)(hm:X.mg x=some (.ref C0))(e0:Exc X.K C0 bm0)(hb:PB X body tb)(hs:∀A E,PSs (X.held A E) (b₀::suite) ts)(hd:(x==("__debug__" : Str))=false:=by decide) :
 PS X (.Try body [.ExceptHandler (some (.Name x np)) (some n) (b₀::suite) hp] [] [] pos) (tTry X.K C0 k tb ts):=by
 intro pins s σ H D I h
 refine wpAny_Try_except (wpAny_mono (hb pins s σ H _ _ I h) (fun f s1 ⟨ef,H1,I1,q1⟩=>?_) fun v s1 hv=>?_)
 ·subst ef
  exact wpAny_pure ⟨σ,H1,I1,q1⟩
 ·obtain⟨e,cls,H1,rfl,F,C,bm,e',rfl,ee,ex,hin,q⟩:=hv
  cases ee
  refine fly_seen O I F I.ok.frames fun h1 F1=>?_
  have hA:(X.A.mark (some (.ref e))).frames=some X.stack:=I.ok.frames
  have J1:=I.flown F1
  refine wpAny_handleBy_cons (codeAny_handlers_test (Calls.Name_function_global I.ok.kind hg (Calls.loadGlobal_global (by rw[I.ok.glob];exact J1.mod.glob.keeps J1.bk) hm ?_) hd)) (by intro z;cases z)
  obtain⟨⟨nm,q',N,bs,hdct,sn,sub,ab,col,dd,k0,k1,k2,k3,k5,lk,_,_⟩,_,_,_⟩:=ex.toExc
  obtain⟨⟨nm',q'',N',bs',hdct',sn',sub',ab',col',dd',k0',k1',k2',k3',k5',lk',_,_⟩,_,bb',_⟩:=e0
  obtain⟨T,⟨oe,vs,oT,tts,a0,he,hcl,_⟩,_,_⟩:=F1.tr
  refine match_own (J1.kIn _ _ lk) (J1.kIn _ _ lk') bb' he hcl hin ?_
  refine codeAny_handlers_suite_as (fly_land I F1 fun h2 F2=>?_)
  have J2:=I.caught O F2
  refine store_ok2 J2 nd hk (.inl hkl) (v:=.ref e) rfl (fun s3 I3 _=>?_) (.inr hkl)
  refine wpAny_mono (hs (X.A.mark (some (.ref e))) (fun _ _=>False) pins s3 _ _ _ (I3.held hA) q) (fun f s4 h4=>?_) fun _ _ z=>False.elim z
  cases f with
  |next=>
   obtain⟨σ',H4,I4,q4⟩:=h4
   have I5:=I4.unheld I.ok
   obtain⟨m,hm4,_⟩:=id I5.loc
   exact wpAny_nameGoes_keeps hkl hm4 (by rw[I.ok.kind];rfl) fun h' v hn sb=>⟨_,_,I5.gone nd hk hm4 hn sb,q4⟩
  |brk=>exact(let⟨_,_,_,z⟩:=h4;False.elim z)
  |cont=>exact(let⟨_,_,_,z⟩:=h4;False.elim z)
  |ret u=>exact(let⟨_,_,_,_,_,z⟩:=h4;False.elim z)
end
def Fz (a:Addr)(o:Obj):HO:=.frz o (.ext fun h=>h.get? a=some o)
theorem fz_ok {P:Program}{w:World}{H:Hp}{h:Heap}{a:Addr}{o:Obj}(e:h.get? a=some o):ObjOk P w H h a (Fz a o):=⟨e,e,⟨_,e⟩,fun _ _ q k=>k _ q⟩
theorem fz_get {P:Program}{w:World}{H:Hp}{h:Heap}{a:Addr}{o:Obj}(x:HOk P w H h)(e:H a=some (Fz a o)):h.get? a=some o:=(x a _ e).1
def Runs (P:Program)(w:World)(K:W.Frag)(mg:Str->Option Value)(base:Heap)(k:Nat)(f:Addr)(H:Hp)(Q:VK)(E:XK):Prop:=
 ∀(A:Around) (outer:List Env) (s:Shared),Room k A->Env0 P w K mg base A outer s H->codeAny (model P w) A (.call (.ref f) ⟨[],[]⟩) (CR (CXF P w) outer P w H s Q E) s
def tbCall (X:Cx)(k i:Nat):TB:=fun σ H Q E=>∃f o fd,σ[i]?=some (some (.ref f))/\H f=some (Fz f o)/\o.data=.func fd/\Runs X.prog X.w X.K X.mg X.base k f H (fun _ H1=>Q H1) E
theorem keeps_F {M:Model}{f:Addr}{o:Obj}{fd:FuncData}(hd:o.data=.func fd)(h:Heap)(e:h.get? f=some o):∃k,(k=Keeper.frame\/k=Keeper.machine\/k=Keeper.boundFrame)/\Looks M h (keeperOf (.ref f)) k:=by
 obtain⟨c,dc,dt,sl⟩:=o
 simp only at hd
 subst hd
 exact⟨.frame,.inl rfl,(Looks.ld (part:=none) e).andThen .now⟩
theorem pb_call {X:Cx}{k i:Nat}{x:Str}{p cpos pos:Pos}(hr:Room k X.A)(hN:X.N[i]?=some x)(hv:X.env.scope.names.lookup x=some .local)(hd:(x==("__debug__" : Str))=false:=by decide)(hs:swapsWith (.Call (.Name x p) [] [] cpos) none pos.line X.env=pure false:=by rfl):PB X [.Expr (.Call (.Name x p) [] [] cpos) pos] (tbCall X k i):=by
 intro pins s σ H Q E I h
 obtain⟨f,o,fd,e1,e2,e3,run⟩:=h
 obtain⟨m,hn,hl⟩:=id I.loc
 obtain⟨u,r,l⟩:=hl i x _ hN e1 (.inl hv)
 obtain rfl:u=.ref f:=r
 have hm:m x=some (.ref f):=by
  rcases l with⟨_,z⟩ | ⟨z,_⟩
  ·exact z
  ·have z:X.env.scope.names.lookup x=some .cell\/X.env.scope.names.lookup x=some .free:=z
   rw[hv]at z
   rcases z with z | z<;>cases z
 refine wpAny_execs_cons (wpAny_Expr_any (wpAny_Call_Name_kw (wpAny_Name (wpAny_loadName_local I.ok.kind hv hn hm ?_) hd)) I.quiet hs)
 refine PySem.W.callWith_of (P:=fun h=>h.get? f=some o) rfl (keeps_F e3) (evalArgs_nil3 ⟨fz_get I.hok e2,?_⟩)
 refine wpAny_call (codeAny_mono (run X.A X.stack s hr I.env0) fun rs s' hq=>?_)
 cases rs with
 |error e=>exact hq
 |ok fl=>
  cases fl with
  |ret u=>
   obtain⟨v,H1,I1,_,q⟩:=I.after hq
   exact wpAny_execs_nil ⟨rfl,H1,I1,q⟩
  |next=>exact False.elim hq
  |brk=>exact False.elim hq
  |cont=>exact False.elim hq
def lamCx (P:Program)(w:World)(K:W.Frag)(mg:Str->Option Value)(base:Heap)(N:List Str)(qual:Str)(scope:Scope)(cl:List (Str×Addr))(f:Addr)(cd:Value)(A:Around)(outer:List Env)(s:Shared)(H:Hp)(E:XK):Cx where
 prog:=P
 w:=w
 K:=K
 mg:=mg
 base:=base
 A:=A.deeper (PySem.W.envX qual scope s.heap.objs.size f cd cl)
 N:=N
 s₀:=s
 H₀:=H
 env:=PySem.W.envX qual scope s.heap.objs.size f cd cl
 outer:=outer
 stack:=PySem.W.envX qual scope s.heap.objs.size f cd cl::outer
 ex:=[]
 calm:=true
 fn:=fun _=>false
 pn:=[]
 xe:=fun e s'=>wpAny (model P w) (A.deeper (PySem.W.envX qual scope s.heap.objs.size f cd cl)) (leaving (PySem.W.envX qual scope s.heap.objs.size f cd cl) e) (fun _ s''=>CXF P w outer H s E e s'') (fun e' s''=>CXF P w outer H s E e' s'') s'
structure Cap (base:Heap)(scope:Scope)(cl:List (Str×Addr))(N:List Str)(σ:St):Prop where
 inj:∀x y c,cl.lookup x=some c->cl.lookup y=some c->x=y
 has:∀x,scope.names.lookup x=some .free->∃c,cl.lookup x=some c
 cell:∀x c,cl.lookup x=some c->∃v,base.IsCell c v
 val:∀(i:Nat) (x:Str) (v:V),N[i]?=some x->σ[i]?=some (some v)->scope.names.lookup x=some .free/\∃u c,RelV v u/\cl.lookup x=some c/\base.IsCell c (some u)
 len:σ.length=N.length
structure LamS (scope:Scope):Prop where
 kind:scope.kind=.function
 co:scope.isCoroutine=false
 gen:scope.isGenerator=false
 nocell:∀y∈scope.names,y.2≠.cell
section
variable {P:Program}{w:World}{K:W.Frag}{mg:Str->Option Value}{base:Heap}{N:List Str}{qual:Str}{scope:Scope}{cl:List (Str×Addr)}{f:Addr}{cd:Value}{A:Around}{outer:List Env}{s:Shared}{H:Hp}{E:XK}{σ:St}
theorem own_lam:Own (lamCx P w K mg base N qual scope cl f cd A outer s H E):=⟨rfl,rfl,rfl⟩
theorem lvs_lam:Lvs (lamCx P w K mg base N qual scope cl f cd A outer s H E) E:=⟨own_lam,fun _ _ h=>h⟩
theorem lam_start {h1:Heap}{tk:Nat}(S:LamS scope)(C:Cap base scope cl N σ)(hd:A.handled=none)(e0:Env0 P w K mg base A outer s H)(kp:∀b o,s.heap.get? b=some o->h1.get? b=some o)(hn:h1.Ns s.heap.objs.size fun _=>none) :
 Inv (lamCx P w K mg base N qual scope cl f cd A outer s H E) [] σ H {s with heap:=h1,toks:=tk}:=by
 have noA:∀b:Addr,b∉(lamCx P w K mg base N qual scope cl f cd A outer s H E).ex:=fun b z=>absurd (show b∈([]:List Addr) from z) (by simp)
 have bc:∀{c:Addr} {v:Option Value},base.IsCell c v->h1.IsCell c v/\H c=none:=fun{c v} ⟨o,ho,hd⟩=>⟨⟨o,kp _ _ (e0.bs c o ho).1,hd⟩,(e0.bs c o ho).2⟩
 refine⟨⟨e0.mod,S.kind,rfl,rfl,Nat.le_refl _,C.inj,fun y hy=>?_,fun y c z _=>absurd z Bool.false_ne_true,fun _=>hd,Around.frames_deeper e0.frames,.inr ⟨rfl,rfl⟩,fun b z=>absurd z (noA b),e0.bs,e0.bsz,fun b _ _=>noA b,fun b z=>absurd z (noA b),e0.funs,e0.frf⟩,
  rfl,e0.bare,Un.kept kp,⟨_,hn,fun i y v h1 h2 h3=>?_⟩,fun y c h=>?_,e0.hok.fresh (Nat.le_refl _),fun y c h=>?_,fun p hp=>absurd (show p∈([]:List (Addr×Obj)) from hp) (by simp),e0.hok.kept kp,C.len⟩
 ·have hy:scope.names.lookup y=some .cell\/scope.names.lookup y=some .free:=hy
  rcases hy with hy | hy
  ·exact absurd rfl (S.nocell _ (PySem.mem_of_lookup hy))
  ·exact C.has y hy
 ·obtain⟨fr,u,c,rv,hc,hcell⟩:=C.val i y v h1 h2
  exact⟨u,rv,.inr ⟨.inr fr,c,hc,(bc hcell).1⟩⟩
 ·obtain⟨v,hv⟩:=C.cell y c h
  exact⟨v,(bc hv).1⟩
 ·obtain⟨v,hv⟩:=C.cell y c h
  exact(bc hv).2
theorem runs_lam {k:Nat}{name:Str}{params:Arguments}{body:Expr}{pm ctv:Value}{c':Addr}{oc:Obj}{vs:Array Value}{t:Nat}{te:TE}{Q:VK}(hf:H f=some (Fz f (kla_obj name qual params body scope cl pm c' ctv)))(hc:H c'=some (Fz c' oc))(hv:oc.data=.fields vs)(hq:vs[1]?=some (.str qual t))(S:LamS scope)(C:Cap base scope cl N σ)(hb:bindArgs (kla_fn name qual params body scope cl pm (.ref c') ctv) ⟨[],[]⟩=pure [])(hbody:∀A outer s,Room k (A.deeper (PySem.W.envX qual scope s.heap.objs.size f (.ref c') cl))->PE (lamCx P w K mg base N qual scope cl f (.ref c') A outer s H E) body te)(q:te σ H Q):Runs P w K mg base (k+1) f H Q E:=by
 intro A outer s hr e0
 refine PySem.W.kla_callFunE hr.depth (fz_get e0.hok hf) rfl S.co S.gen rfl ⟨c',oc,vs,t,rfl,fz_get e0.hok hc,hv,hq⟩ ?_
 rw[hb]
 refine wpAny_pure (wpAny_newFunctionEnv S.nocell (by intro y hy;simp at hy) (fun h1 hns hsb=>?_) S.kind)
 have kp:∀b o,s.heap.get? b=some o->h1.get? b=some o:=fun b o e=>hsb.extBut b o (ne_of_lt (lt_size e)) (get?_push_of_some _ e)
 refine⟨(e0.mod.nolimit.keeps fun b o e=>(e0.bs b o e).1).keeps kp,?_⟩
 show codeAny _ _ (.expr body (PySem.W.envX qual scope s.heap.objs.size f (.ref c') cl)) _ _
 have I:=lam_start (P:=P) (w:=w) (K:=K) (mg:=mg) (N:=N) (qual:=qual) (f:=f) (cd:=.ref c') (E:=E) (tk:=s.toks+([]:List (Str×Value)).length) S C hr.hd e0 kp hns
 refine PySem.W.kla_codeExpr (wpAny_mono (hbody A outer s (hr.deeper _) [] _ σ H Q I q) (fun v s' ⟨x,H1,I1,r,q1⟩=>?_) fun e s' hs=>hs)
 exact⟨x,H1,I1.os,I1.bare,I1.base,I1.hok,r,q1⟩
end
theorem triples_ok:∀l:List (Pos×Addr),TriplesOk (triples l)
 |[]=>trivial
 |(_,_)::r=>triples_ok r
theorem among_some {pos:Pos}:∀{l:List (Pos×Addr)} {cv:Value},codeAmong pos (triples l)=some cv->∃x∈l,cv=.ref x.2
 |[],_,h=>by cases h
 |(p,c)::r,cv,h=>by
  simp only[triples,rawInt,codeAmong]at h
  split at h
  ·cases h
   exact⟨_,mem_cons_self,rfl⟩
  ·obtain⟨x,hx,e⟩:=among_some h
   exact⟨x,mem_cons_of_mem _ hx,e⟩
def Tab (q:Str)(H:Hp)(T:Addr):Prop:=∃l:List (Pos×Addr),H T=some (.tbl (triples l).toArray)/\∀x∈l,∃oc vs t,H x.2=some (Fz x.2 oc)/\oc.data=.fields vs/\vs[1]?=some (.str q t)
theorem Tab.same {q:Str}{H H':Hp}{T:Addr}(x:Tab q H T)(s:Same H H'):Tab q H' T:=
 let⟨l,e,h⟩:=x
 ⟨l,s _ _ e,fun y hy=>let⟨oc,vs,t,a,b⟩:=h y hy;⟨oc,vs,t,s _ _ a,b⟩⟩
theorem Tab.empty {q:Str}{H:Hp}{T:Addr}(e:H T=some (.tbl #[])):Tab q H T:=⟨[],e,fun _ h=>nomatch h⟩
abbrev lamQ (X:Cx):Str:=X.env.qual++"<lambda>"
structure LamAt (X:Cx)(T:Addr)(params:Arguments)(body:Expr)(scope:Scope)(H:Hp)(f:Addr)(H':Hp):Prop where
 new:H f=none
 grow:∀b u,b≠T->H b=some u->H' b=some u
 tab:Tab (lamQ X) H' T
 ob:∃cl pm c' ctv oc vs t,H' f=some (Fz f (kla_obj "<lambda>" (lamQ X) params body scope cl pm c' ctv))/\H' c'=some (Fz c' oc)/\oc.data=.fields vs/\vs[1]?=some (.str (lamQ X) t)/\
  (∀x c,cl.lookup x=some c->X.env.cells.lookup x=some c)/\∀x,(x,NameKind.free)∈scope.names->∃c,cl.lookup x=some c
def tLam (X:Cx)(T:Addr)(params:Arguments)(body:Expr)(scope:Scope):TE:=fun σ H Q=>Tab (lamQ X) H T/\∀f H',LamAt X T params body scope H f H'->Q (.ref f) H'
def BltAt (mg:Str->Option Value)(base:Heap):Prop:=∃bm o,mg "__builtins__" = some (.ref bm)/\bm≠builtinsNs/\bm≠mainGlobals/\base.get? bm=some o/\o.cls=.type "module"/\o.dict=some builtinsNs/\o.data=.plain
section
variable {X:Cx}{T c:Addr}{params:Arguments}{body:Expr}{scope:Scope}{pos:Pos}
theorem pe_lam (hcode:X.env.code=.ref c)(C:CodeHd X.base c T)(B:BltAt X.mg X.base)(hcap:∀y∈scope.names,y.2=.free->X.env.scope.names.lookup y.1=some .cell\/X.env.scope.names.lookup y.1=some .free)(hdef:defaultsOf params X.env=([],[]):=by rfl):PE X (.Lambda params body scope pos) (tLam X T params body scope):=by
 intro pins s σ H Q I ⟨⟨l,hT,hl⟩,h⟩
 obtain⟨cl,hcl,c1,c2⟩:=clos_of (env:=X.env) (scope:=scope) fun y hy hk=>I.ok.has y.1 (hcap y hy hk)
 obtain⟨bm,ob,b1,b2,b3,b4,b5⟩:=B
 have notT:∀{b:Addr} {o:Obj},X.base.get? b=some o->b≠T:=fun{b o} e z=>by
  have:=(I.bs b o e).2
  rw[z,hT]at this;cases this
 have hgT:mainGlobals≠T:=by
  obtain⟨o,_,_,ho,_⟩:=I.ok.mod.glob
  exact notT ho
 have bl:s.heap.BuiltinsAt X.mg T:=⟨bm,ob,b1,b2,b3,notT b4,I.bk _ _ b4,b5⟩
 have hP:s.heap.get? T=some (tabObj (triples l).toArray):=I.hok T _ hT
 have glob:=I.ok.mod.glob.keeps I.bk
 refine PySem.W.kla_eval hdef ?_
 cases am:codeAmong pos (triples l) with
 |some cv=>
  obtain⟨x,hx,rfl⟩:=among_some am
  obtain⟨oc,vs,t,o1,o2,o3⟩:=hl x hx
  refine PySem.W.kla_makeFunctionHit hcl I.ok.glob glob hcode (C.keeps I.bk) hP (by simpa using triples_ok l) (by simpa using am) bl fun ctv h' tk kp hs=>?_
  have fresh:H h'.objs.size=none:=I.hok.fresh hs
  have J:=I.laid (h':=h'.push (kla_obj "<lambda>" (lamQ X) params body scope cl ((X.mg "__name__").getD .none) x.2 ctv)) (t':=tk) (a:=h'.objs.size) (o:=Fz h'.objs.size (kla_obj "<lambda>" (lamQ X) params body scope cl ((X.mg "__name__").getD .none) x.2 ctv))
   (fun b u e=>get?_push_of_some _ (kp b u e)) hs (fz_ok (get?_push_size _ rfl))
  have same:Same H (upd H h'.objs.size (Fz h'.objs.size (kla_obj "<lambda>" (lamQ X) params body scope cl ((X.mg "__name__").getD .none) x.2 ctv))):=fun b u e=>by
   rw[upd_ne fun z=>by rw[z,fresh]at e;cases e];exact e
  exact⟨.ref h'.objs.size,_,J,rfl,h _ _ ⟨fresh,fun b u _ e=>same b u e,Tab.same ⟨l,hT,hl⟩ same,cl,_,x.2,ctv,oc,vs,t,upd_same,same _ _ o1,o2,o3,c1,c2⟩⟩
 |none=>
  refine PySem.W.kla_makeFunction hcl I.ok.glob glob hcode (C.keeps I.bk) hP (by simpa using triples_ok l) (by simpa using am) hgT bl fun c' ctv h' tk hx hge hlt hrec htb=>?_
  obtain⟨_,oc,vs,t,e2,hoc,hd,hv⟩:=hrec
  cases e2
  obtain⟨fo,hfo⟩:∃fo,fo=kla_obj "<lambda>" (lamQ X) params body scope cl ((X.mg "__name__").getD .none) c' ctv:=⟨_,rfl⟩
  have eT:(triples l).toArray++#[rawInt pos.line,rawInt pos.col,.ref c']=(triples (l++[(pos,c')])).toArray:=by rw[triples_append];simp
  rw[eT]at htb
  have lv:∀b u,H b=some u->b<s.heap.objs.size:=fun b u e=>(I.hok b u e).lt
  have hTs:T<s.heap.objs.size:=lv _ _ hT
  have cT:c'≠T:=ne_of_gt (Nat.lt_of_lt_of_le hTs hge)
  have hsf:s.heap.objs.size<=h'.objs.size:=le_trans hge (Nat.le_of_lt hlt)
  have fT:h'.objs.size≠T:=ne_of_gt (Nat.lt_of_lt_of_le hTs hsf)
  have cf:c'≠h'.objs.size:=ne_of_lt hlt
  obtain⟨H',hH'⟩:∃H',H'=upd (upd (upd H T (.tbl (triples (l++[(pos,c')])).toArray)) c' (Fz c' oc)) h'.objs.size (Fz h'.objs.size fo):=⟨_,rfl⟩
  have aF:H' h'.objs.size=some (Fz h'.objs.size fo):=by rw[hH',upd_same]
  have aC:H' c'=some (Fz c' oc):=by rw[hH',upd_ne cf,upd_same]
  have aT:H' T=some (.tbl (triples (l++[(pos,c')])).toArray):=by rw[hH',upd_ne fT.symm,upd_ne cT.symm,upd_same]
  have aO:∀b,b<s.heap.objs.size->b≠T->H' b=H b:=fun b hb n=>by rw[hH',upd_ne (ne_of_lt (Nat.lt_of_lt_of_le hb hsf)),upd_ne (ne_of_lt (Nat.lt_of_lt_of_le hb hge)),upd_ne n]
  have grow:∀b u,b≠T->H b=some u->H' b=some u:=fun b u n e=>(aO b (lv b u e) n).trans e
  have old:∀b o,b≠T->s.heap.get? b=some o->(h'.push fo).get? b=some o:=fun b o n e=>get?_push_of_some _ (hx b o n e)
  have un:∀fs,Un fs [] H H' s.heap (h'.push fo):=fun fs=>by
   have nT:∀{b:Addr},H b=none->b≠T:=fun{b} n z=>by rw[z,hT]at n;cases n
   refine⟨fun b o e n _ _=>old b o (nT n) e,fun b o e n _ _=>⟨o.slots,old b o (nT n) e⟩,fun b o e n _=>(aO b (lt_size e) (nT n)).trans n,fun b o e _=>?_,fun b xs e=>?_,fun b o u e=>?_,fun b ps e=>?_⟩
   ·by_cases z:b=T
    ·exact⟨_,z▸get?_push_of_some _ htb⟩
    ·exact⟨_,old b o z e⟩
   ·exact grow b _ (fun z=>by rw[z,hT]at e;cases e) e
   ·exact grow b _ (fun z=>by rw[z,hT]at e;cases e) e
   ·by_cases z:b=T
    ·subst z
     rw[hT]at e
     cases e
     exact⟨#[rawInt pos.line,rawInt pos.col,.ref c'],by rw[aT,eT]⟩
    ·exact⟨#[],by rw[grow b _ z e];simp⟩
  have hok:HOk X.prog X.w H' (h'.push fo):=fun b u e=>by
   by_cases z1:b=h'.objs.size
   ·subst z1
    rw[aF]at e
    cases e
    exact fz_ok (get?_push_size _ (by rw[hfo];rfl))
   ·by_cases z2:b=c'
    ·subst z2
     rw[aC]at e
     cases e
     exact fz_ok (get?_push_of_some _ hoc)
    ·by_cases z3:b=T
     ·subst z3
      rw[aT]at e
      cases e
      exact get?_push_of_some _ htb
     ·rw[hH',upd_ne z1,upd_ne z2,upd_ne z3]at e
      refine(I.hok b u e).stay (fun d v hd q=>old d v ?_ q) (fun d z=>grow d _ (fun q=>by rw[q,hT]at z;cases z) z) fun d xs z=>grow d _ (fun q=>by rw[q,hT]at z;cases z) z
      rcases hd with q | q
      ·rw[q];exact z3
      ·intro y
       rw[y,hT]at q;cases q
  have J:Inv X pins σ H' {s with heap:=h'.push fo,toks:=tk}:=I.un (un _) hok
  have tab:Tab (lamQ X) H' T:=⟨_,aT,fun x hx=>by
   rcases mem_append.mp hx with hx | hx
   ·obtain⟨oc2,vs2,t2,o1,o2⟩:=hl x hx
    exact⟨oc2,vs2,t2,grow _ _ (fun q=>by rw[q,hT]at o1;cases o1) o1,o2⟩
   ·obtain rfl:x=(pos,c'):=by simpa using hx
    exact⟨oc,vs,t,aC,hd,hv⟩⟩
  rw[<-hfo]
  exact⟨.ref h'.objs.size,H',J,rfl,h _ _ ⟨I.hok.fresh hsf,grow,tab,cl,_,c',ctv,oc,vs,t,by rw[aF,hfo],aC,hd,hv,c1,c2⟩⟩
end
theorem less_size:∀(S:List Addr) (h:Heap),(lessOf S h).objs.size=h.objs.size
 |[],_=>rfl
 |a::S,h=>by
  show((lessOf S h).update a _).objs.size=_
  rw[Heap.size_update,less_size S h]
open Classical in
noncomputable def outOf (base:Heap)(cl:List (Str×Addr))(h:Heap):List Addr:=(List.range h.objs.size).filter fun a=>decide (base.get? a=none/\∀x,cl.lookup x≠some a)
noncomputable def baseOf (base:Heap)(cl:List (Str×Addr))(h:Heap):Heap:=lessOf (outOf base cl h) h
section
variable {base h:Heap}{cl:List (Str×Addr)}{b:Addr}{o:Obj}
theorem base_out (hb:base.get? b=none)(hc:∀x,cl.lookup x≠some b)(hs:b<h.objs.size):b∈outOf base cl h:=
 mem_filter.mpr ⟨mem_range.mpr hs,by simpa using⟨hb,hc⟩⟩
theorem base_some (e:(baseOf base cl h).get? b=some o):h.get? b=some o/\((∃u,base.get? b=some u)\/∃x,cl.lookup x=some b):=by
 obtain⟨n,e⟩:=less_some e
 refine⟨e,?_⟩
 cases q:base.get? b with
 |some u=>exact .inl ⟨u,rfl⟩
 |none=>
  refine .inr ?_
  apply Classical.byContradiction
  intro z
  exact n (base_out q (fun x y=>z ⟨x,y⟩) (lt_size e))
theorem base_in (e:h.get? b=some o)(hi:(∃u,base.get? b=some u)\/∃x,cl.lookup x=some b):(baseOf base cl h).get? b=some o:=by
 unfold baseOf
 rw[less_out]
 ·exact e
 ·intro z
  have z:=(mem_filter.mp z).2
  have z:base.get? b=none/\∀x,cl.lookup x≠some b:=by simpa using z
  rcases hi with⟨u,q⟩ | ⟨x,q⟩
  ·rw[z.1]at q;cases q
  ·exact z.2 x q
end
section
variable {X:Cx}{pins:List (Addr×Obj)}{σ:St}{H:Hp}{s:Shared}{cl:List (Str×Addr)}{N:List Str}{js:List Nat}{scope:Scope}
theorem Inv.env1 (I:Inv X pins σ H s)(hfn:∀x,X.fn x=true)(c1:∀x c,cl.lookup x=some c->X.env.cells.lookup x=some c):Env0 X.prog X.w X.K X.mg (baseOf X.base cl s.heap) X.A X.stack s H:=by
 have sub:∀b o,X.base.get? b=some o->(baseOf X.base cl s.heap).get? b=some o:=fun b o e=>base_in (I.bk b o e) (.inl ⟨o,e⟩)
 obtain⟨mb,m1,m2⟩:=I.ok.mod.blt
 refine⟨I.ok.frames,⟨I.ok.mod.kin.keeps sub,I.ok.mod.glob.keeps sub,⟨mb,m1.keeps sub,m2⟩,I.ok.mod.nolimit.keeps sub⟩,fun b o e=>?_,by unfold baseOf;rw[less_size];exact Nat.le_refl _,?_,I.stkFree,I.hok,I.bare⟩
 ·obtain⟨e1,z⟩:=base_some e
  refine⟨e1,?_⟩
  rcases z with⟨u,q⟩ | ⟨x,q⟩
  ·exact(I.bs b u q).2
  ·exact I.freeC x b (c1 x b q)
 ·refine less_frames (fun b hb=>?_) I.stack
  obtain⟨hn,o,ho,_⟩:=I.stack.mem hb
  refine base_out hn (fun x q=>?_) (lt_size ho)
  rcases mem_cons.mp (I.stkSub b hb) with e | e
  ·exact I.cne x b (c1 x b q) e
  ·obtain⟨_,o',ho',_⟩:=I.ok.funs.mem e
   exact absurd (Nat.lt_of_lt_of_le (lt_size ho') (I.ok.cab x b (hfn x) (c1 x b q))) (lt_irrefl _)
theorem Inv.cap (I:Inv X pins σ H s)(B:Blk X.env.scope X.N N 0 js scope)(c1:∀x c,cl.lookup x=some c->X.env.cells.lookup x=some c)(c2:∀x,(x,NameKind.free)∈scope.names->∃c,cl.lookup x=some c) :
 Cap (baseOf X.base cl s.heap) scope cl N (inner 0 js σ):=by
 have cell:∀{x:Str} {c:Addr} {v:Option Value},cl.lookup x=some c->s.heap.IsCell c v->(baseOf X.base cl s.heap).IsCell c v:=fun{x c v} e ⟨o,ho,hd⟩=>⟨o,base_in ho (.inr ⟨x,e⟩),hd⟩
 refine⟨fun x y c a b=>I.ok.inj x y c (c1 x c a) (c1 y c b),fun x hx=>c2 x (PySem.mem_of_lookup hx),fun x c e=>?_,fun i x v h1 h2=>?_,?_⟩
 ·obtain⟨v,hv⟩:=I.cell x c (c1 x c e)
  exact⟨v,cell e hv⟩
 ·obtain⟨k,j,rfl,hk,hv⟩:=inner_get h2
  have h1':(N.drop 0)[k]?=some x:=by rw[getElem?_drop];exact h1
  have hxm:x∈N.drop 0:=mem_of_getElem? h1'
  have hfree:scope.names.lookup x=some .free:=B.fr x hxm
  have hj:X.N[j]?=some x:=by
   rw[B.out,getElem?_map,hk]at h1'
   have hjl:j<X.N.length:=B.js j (mem_of_getElem? hk)
   rw[List.getElem?_eq_getElem hjl]
   have e:X.N.getD j "" = x:=by simpa using h1'
   rw[<-e]
   simp[getD_eq_getElem?_getD,List.getElem?_eq_getElem hjl]
  have hcap:=B.cap _ (PySem.mem_of_lookup hfree) rfl
  obtain⟨m,hn,hl⟩:=I.loc
  obtain⟨u,ru,lk⟩:=hl j x v hj hv (hcap.elim (fun z=>.inr (.inl z)) fun z=>.inr (.inr z))
  refine⟨hfree,?_⟩
  rcases lk with⟨z,_⟩ | ⟨_,c,e,q⟩
  ·exact absurd (show X.env.scope.names.lookup x=some .local from z) (by rcases hcap with y | y<;>(rw[y];decide))
  ·obtain⟨c',e'⟩:=c2 x (PySem.mem_of_lookup hfree)
   have ec:=c1 x c' e'
   rw[e]at ec
   cases ec
   exact⟨u,c,ru,e',cell e' q⟩
 ·unfold inner
  rw[length_append,length_replicate,length_map,B.len]
end
def spRef (P:Program)(w:World)(K:W.Frag)(mg:Str->Option Value)(base:Heap)(k:Nat)(R:VK->VK)(Ec:VK->XK):Sp:=fun vs H Q _=>
 ∃f o fd,vs=[.ref f]/\H f=some (Fz f o)/\o.data=.func fd/\Runs P w K mg base k f H (R Q) (Ec Q)
def tRef (X:Cx)(T:Addr)(params:Arguments)(body:Expr)(scope:Scope)(js:List Nat)(R:VK->VK)(Ec:VK->XK)(te:XK->TE):TE:=fun σ H Q=>Tab (lamQ X) H T/\∀f H',LamAt X T params body scope H f H'->te (Ec Q) (inner 0 js σ) H' (R Q)
section
variable {X:Cx}{T c r:Addr}{params:Arguments}{body:Expr}{scope:Scope}{x:Str}{p lpos pos:Pos}{k kr:Nat}{fd:FuncData}{px:Str}{R:VK->VK}{Ec:VK->XK}{te:XK->TE}{N:List Str}{js:List Nat}{qn:Str}
theorem pe_refuse (F:∀base,FnOk X.prog X.w X.K X.mg base CX0 kr r fd [px] (spRef X.prog X.w X.K X.mg base (k+1) R Ec))(hr:Room kr X.A)(hg:Gl X x)(hm:X.mg x=some (.ref r))(hk:keepIn X.K (.ref r)=true)(hb:Binds X.K fd [px] [])(hfn:∀x,X.fn x=true)(hcode:X.env.code=.ref c)(C:CodeHd X.base c T)(Bl:BltAt X.mg X.base)(S:LamS scope)(B:Blk X.env.scope X.N N 0 js scope)(hqn:lamQ X=qn)(hbody:∀(base:Heap) (E:XK) (cl:List (Str×Addr)) (f:Addr) (cd:Value) (A:Around) (outer:List Env) (s:Shared) (H:Hp),Room k (A.deeper (PySem.W.envX qn scope s.heap.objs.size f cd cl))->
  PE (lamCx X.prog X.w X.K X.mg base N qn scope cl f cd A outer s H E) body (te E))(hbind:∀cl pm cd ctv,bindArgs (kla_fn "<lambda>" qn params body scope cl pm cd ctv) ⟨[],[]⟩=pure []:=by intros;rfl)(hdef:defaultsOf params X.env=([],[]):=by rfl)(hdb:(x==("__debug__" : Str))=false:=by decide):PE X (.Call (.Name x p) [.Lambda params body scope lpos] [] pos) (tRef X T params body scope js R Ec te):=by
 intro pins s σ H Q I h
 subst hqn
 refine wpAny_Call_Name_kw (ld_glob I hg hm ?_ hdb)
 have ha:PA X [.Lambda params body scope lpos] (tCons (tLam X T params body scope) tNil):=pa_cons (pe_lam hcode C Bl B.cap hdef) pa_nil rfl
 refine callWith_K (h₀:=X.base) I.ok.mod.kin hk (thn (ha pos pins s σ H (fun vs H1=>∃f,vs=[.ref f]/\LamAt X T params body scope H f H1) I ⟨h.1,fun f H1 L=>⟨f,rfl,L⟩⟩) fun us s1 ⟨vs,H1,I1,r,f,ev,L⟩=>⟨I1.kIn,?_⟩) rfl rfl
 subst ev
 have q:=h.2 f H1 L
 obtain⟨cl,pm,c',ctv,oc,vs,t,a1,a2,a3,a4,c1,c2⟩:=L.ob
 have run:Runs X.prog X.w X.K X.mg (baseOf X.base cl s1.heap) (k+1) f H1 (R Q) (Ec Q):=
  runs_lam a1 a2 a3 a4 S (I1.cap B c1 c2) (hbind _ _ _ _) (fun A outer s hr=>hbody _ _ _ _ _ _ _ _ _ hr) q
 have hl:us.length=[px].length:=r.length.symm
 refine wpAny_call (codeAny_mono ((F (baseOf X.base cl s1.heap)).run X.A X.stack s1 H1 ⟨us,[]⟩ us [.ref f] Q E0 hr (I1.env1 hfn c1) (by simpa using hb s1 us I1.kIn (by simpa using hl)) r ⟨f,_,_,rfl,a1,rfl,run⟩) fun rs s' hq=>?_)
 cases rs with
 |error e=>exact False.elim hq
 |ok fl=>
  cases fl with
  |ret u=>exact I1.after hq
  |next=>exact False.elim hq
  |brk=>exact False.elim hq
  |cont=>exact False.elim hq
end
end L2
namespace L2
theorem eq_bools (a b:Bool):MeetsSeq.EqGives (.bool a) (.bool b) (a==b):=fun prog w A E s Q h=>SeqAt.EqAt.bool_bool (A:=A) (s:=s) a b prog w E Q h
section
variable {X:Cx}
theorem call_sumI (hc:X.calm=true):CallR X (.builtin "sum") (fun xs H Q=>∃(p:Addr) (ns:List Int),xs=[.ref p]/\SqL X.K H p (ns.map V.int)/\Q (.int ns.sum) H):=by
 intro pins s σ H xs us Q I r h
 obtain⟨p,ns,rfl,hq,q⟩:=h
 obtain⟨u,rfl,rx⟩:=vals1 r
 cases(show u=Value.ref p from rx)
 obtain⟨its,r',pl,hz⟩:=I.list hq
 have all:∀(l:List Int) (vs:List Value),Vals (l.map V.int) vs->∃ps:List (Int×Tok),vs=ps.map (fun p=>Value.int p.1 p.2)/\ps.map (·.1)=l:=by
  intro l
  induction l with
  |nil=>intro vs v;cases v;exact⟨[],rfl,rfl⟩
  |cons n l ih=>
   intro vs v
   cases v with
   |cons a b=>
    obtain⟨t,rfl⟩:=a
    obtain⟨ps,rfl,e⟩:=ih _ b
    exact⟨(n,t)::ps,rfl,by rw[map_cons,e]⟩
 obtain⟨ps,e1,e2⟩:=all ns its r'
 have hl:s.heap.IsList p (intItems ps.toArray):=by
  have z:=pl.isList
  rw[e1]at z
  have e3:(ps.map fun p=>Value.int p.1 p.2).toArray=intItems ps.toArray:=by unfold intItems;simp
  rw[e3]at z
  exact z
 refine sum_intListG (I.ok.hd hc) hl fun h' tk t' hk=>?_
 rw[preSum_eq,take_of_length_le (by simp)]
 have e4:ps.toArray.toList.map (·.1)=ns:=e2
 rw[e4]
 exact⟨.int ns.sum,H,I.kept hk,⟨_,rfl⟩,q⟩
def rIndexT:V->List V->Hp->VK->Prop:=fun x vs H Q=>∃(l:Addr) (bs:List Bool) (j:Nat),x=.ref l/\vs=[.bl true]/\H l=some (.lst (bs.map V.bl))/\bs[j]?=some true/\(∀i,i<j->bs[i]?=some false)/\Q (.int (j:Nat)) H
theorem mt_indexT:MtM X "list.index" rIndexT:=by
 intro pins s σ H x vs v us Q I rx rv h
 obtain⟨l,bs,j,rfl,rfl,hH,hj,hn,q⟩:=h
 cases rx
 obtain⟨u,rfl,ru⟩:=rv.one
 cases ru
 obtain⟨z,its,n,r,hl,e⟩:=I.lstM hH
 have at_:∀(i:Nat) (b:Bool),bs[i]?=some b->its[i]?=some (Value.bool b):=fun i b hb=>by
  obtain⟨w',hw,rw'⟩:=r.get (show(bs.map V.bl)[i]?=some (V.bl b) by rw[getElem?_map,hb];rfl)
  rw[hw,show w'=Value.bool b from rw']
 have back:∀y∈its.toArray,∃b,y=Value.bool b:=fun y hy=>by
  obtain⟨i,hi,rfl⟩:=List.getElem_of_mem (List.mem_toArray.mp hy)
  have hb:i<bs.length:=by rw[<-hl,length_map]at hi;exact hi
  have:=at_ i bs[i] (List.getElem?_eq_getElem hb)
  rw[List.getElem?_eq_getElem hi]at this
  exact⟨_,Option.some.inj this⟩
 have hji:j<its.length:=(List.getElem?_eq_some_iff.mp (at_ j true hj)).1
 have hzz:its.length<=sizeLine:=hl▸z
 rw[sizeLine_eq]at hzz
 refine call_meets F.slot_list_index ⟨_,e,rfl⟩ F.entry_list_index (F.args_list_index_2 _ _)
  (MeetsSeq.list_index l its.toArray n (.bool true) (fun y=>y==.bool true) (fun y hy=>?_) j (by simpa using hji) (by omega) ?_ fun m hm hlt=>?_) ⟨e,?_⟩
 ·obtain⟨b,rfl⟩:=back y hy
  have:=eq_bools b true
  cases b<;>exact this
 ·have:=at_ j true hj
  rw[List.getElem?_eq_getElem hji]at this
  have:=Option.some.inj this
  simp[this]
 ·have hm':m<its.length:=by simpa using hm
  have:=at_ m false (hn m hlt)
  rw[List.getElem?_eq_getElem hm']at this
  have:=Option.some.inj this
  simp[this]
 ·exact⟨.int (j:Nat),H,I.tok _,⟨_,rfl⟩,q⟩
end
def HasE (P:Program)(w:World)(K:W.Frag)(mg:Str->Option Value)(base:Heap)(k:Nat)(x:Str)(ps:List Str)(sp:Sp):Prop:=
 ∃(f:Addr) (fd:FuncData),FnOk P w K mg base (CXF P w) k f fd ps sp/\mg x=some (.ref f)/\keepIn K (.ref f)=true/\Binds K fd ps []
section
variable {X:Cx}{k k':Nat}{x:Str}{ps:List Str}{sp:Sp}{e:Expr}{es:List Expr}{t:TA}{p pos:Pos}{E:XK}
theorem pe_defE (h:HasE X.prog X.w X.K X.mg X.base k x ps sp)(L:Lvs X E)(hr:Room k' X.A)(ha:PA X (e::es) t)(hg:Gl X x:=by rfl)(hk:k<=k':=by decide)(hdb:(x==("__debug__" : Str))=false:=by decide)(he:starEach (e::es) X.env=(false,eval e X.env)::starEach es X.env:=by rfl)(hpl:(backTo pos (starEach es X.env)).any (·.1)=false:=by rfl):PE X (.Call (.Name x p) (e::es) [] pos) (tCall sp [] E t):=by
 obtain⟨f,fd,F,m,kp,b⟩:=h
 exact pe_call F (hr.mono hk) hg m kp b .nil (L.pass fun _ _ _ z=>z) ha hdb he hpl
end
section
variable {P:Program}{w:World}{K:W.Frag}{mg:Str->Option Value}{base:Heap}
theorem Fun.okE {x qual:Str}{st:Stmt}{f:Addr}{fd:FuncData}{N ps:List Str}{k:Nat}{sp:Sp}(F:Fun K x qual st f fd)(S:FnScope N ps (defScope st))(len:∀vs H Q E,sp vs H Q E->vs.length=ps.length)(hbody:∀(cdv:Value) (A:Around) (outer:List Env) (s:Shared) (H:Hp) (vs:List V) (Q:VK) (E:XK),Room k (A.deeper (envOfC qual (defScope st) s.heap.objs.size f cdv))->sp vs H Q E->
  ∃t,PSs (cxOf (CXF P w) P w K mg base N qual (defScope st) f cdv A outer s H E) (defBody st) t/\t {nx:=fun _ H'=>Q .non H',rt:=Q} (start N vs) H):FnOk P w K mg base (CXF P w) (k+1) f fd ps sp:=by
 obtain⟨oc,od,kV,doc,pm,an,cdv,ct,osl,rfl,lk,hcd⟩:=F.ex
 exact fn_of lk hcd S len fun A outer s H vs Q E hr hsp=>hbody cdv A outer s H vs Q E hr hsp
theorem Fun.okC {x qual:Str}{st:Stmt}{f:Addr}{fd:FuncData}{N ps:List Str}{k:Nat}{sp:Sp}(F:Fun K x qual st f fd)(S:FnScope N ps (defScope st))(len:∀vs H Q E,sp vs H Q E->vs.length=ps.length)(hbody:∀(A:Around) (outer:List Env) (s:Shared) (H:Hp) (vs:List V) (Q:VK) (E:XK),Room k (A.deeper (envOfC qual (defScope st) s.heap.objs.size f fd.code))->sp vs H Q E->
  ∃t,PSs (cxOf CX0 P w K mg base N qual (defScope st) f fd.code A outer s H E).nox (defBody st) t/\t {nx:=fun _ H'=>Q .non H',rt:=Q} (start N vs) H):FnOk P w K mg base CX0 (k+1) f fd ps sp:=by
 obtain⟨oc,od,kV,doc,pm,an,cdv,ct,osl,rfl,lk,hcd⟩:=F.ex
 refine fn_of lk hcd S len fun A outer s H vs Q E hr hsp=>?_
 obtain⟨t,h,q⟩:=hbody A outer s H vs Q E hr hsp
 exact⟨t,h.nox,q⟩
end
def HasR (P:Program)(w:World)(K:W.Frag)(mg:Str->Option Value)(kr k:Nat)(x px:Str)(R:VK->VK)(Ec:VK->XK):Prop:=
 ∃(f:Addr) (fd:FuncData),(∀base,FnOk P w K mg base CX0 kr f fd [px] (spRef P w K mg base k R Ec))/\mg x=some (.ref f)/\keepIn K (.ref f)=true/\Binds K fd [px] []
section
variable {X:Cx}{T c:Addr}{params:Arguments}{body:Expr}{scope sc:Scope}{x:Str}{p lpos pos:Pos}{k kr k':Nat}{px:Str}{R:VK->VK}{Ec:VK->XK}{te:XK->TE}{N N0:List Str}{js:List Nat}
theorem pe_lambda (h:HasR X.prog X.w X.K X.mg kr (k+1) x px R Ec)(hr:Room k' X.A)(hcode:X.env.code=.ref c)(C:CodeHd X.base c T)(Bl:BltAt X.mg X.base)(hsc:X.env.scope=sc)(hN:X.N=N0)(S:LamS scope)(B:Blk sc N0 N 0 js scope)(hbody:∀(base:Heap) (E:XK) (cl:List (Str×Addr)) (f:Addr) (cd:Value) (A:Around) (outer:List Env) (s:Shared) (H:Hp),Room k (A.deeper (PySem.W.envX (lamQ X) scope s.heap.objs.size f cd cl))->
  PE (lamCx X.prog X.w X.K X.mg base N (lamQ X) scope cl f cd A outer s H E) body (te E))(hfn:∀x,X.fn x=true:=by intro _;rfl)(hk:kr<=k':=by decide)(hg:Gl X x:=by rfl)(hbind:∀cl pm cd ctv,bindArgs (kla_fn "<lambda>" (lamQ X) params body scope cl pm cd ctv) ⟨[],[]⟩=pure []:=by intros;rfl)(hdef:defaultsOf params X.env=([],[]):=by rfl)(hdb:(x==("__debug__" : Str))=false:=by decide):PE X (.Call (.Name x p) [.Lambda params body scope lpos] [] pos) (tRef X T params body scope js R Ec te):=by
 subst hsc hN
 obtain⟨f,fd,F,m,kp,b⟩:=h
 exact pe_refuse F (hr.mono hk) hg m kp b hfn hcode C Bl S B rfl hbody hbind hdef hdb
end
section
variable {X:Cx}
end
theorem for_items {J:It}{g:TG}{tb:TS}{D:Ends}{σ:St}{H:Hp}(n:Nat)(itm:Nat->Hp->V->Prop)(Pv:Nat->St->Hp->Prop)(h0:Pv 0 σ H)(items:∀i σ H,i<=n->Pv i σ H->(i<n->J.go i H/\∀x H2,J.yld i H x H2->Same H H2/\itm i H2 x)/\(n<=i->J.stop i H))(hs:∀i x σ H H2,i<n->Pv i σ H->Same H H2->itm i H2 x->g x σ H2 fun σ2 H3=>tb {D with nx:=Pv (i+1),ct:=Pv (i+1),bk:=D.nx} σ2 H3)(hd:∀σ H,Pv n σ H->D.nx σ H) :
 ∃W:Nat->Nat->St->Hp->Prop,(∃m,W 0 m σ H)/\∀i m σ H,W i m σ H->
  (J.stop i H/\D.nx σ H)\/(J.go i H/\∃N:St->Hp->Prop,(∀σ' H',N σ' H'->∃m',m'<m/\W (i+1) m' σ' H')/\∀x H',J.yld i H x H'->g x σ H' fun σ2 H2=>tb {D with nx:=N,ct:=N,bk:=D.nx} σ2 H2):=by
 refine⟨fun i m σ H=>m+i=n/\Pv i σ H,⟨n,rfl,h0⟩,fun i m σ H hw=>?_⟩
 obtain⟨e,p⟩:=hw
 have it:=items i σ H (by omega) p
 cases m with
 |zero=>
  obtain rfl:i=n:=by omega
  exact .inl ⟨it.2 (Nat.le_refl _),hd σ H p⟩
 |succ m=>
  obtain⟨go,yl⟩:=it.1 (by omega)
  refine .inr ⟨go,Pv (i+1),fun σ' H' q=>⟨m,lt_succ_self _,by omega,q⟩,fun x H' y=>?_⟩
  obtain⟨sm,im⟩:=yl x H' y
  exact hs i x σ H H' (by omega) p sm im
section
variable {X:Cx}
end
open PySem.W
section
variable {prog:Program}{w:World}{A:Around}{E:Value->Shared->Prop}{s:Shared}
end
end L2
namespace L2
open PySem.W
end L2
namespace L2
section
variable {X:Cx}
end
section
variable {X:Cx}
end
section
variable {elt tg iter tg' iter':Expr}{g0:Comprehension}{scope:Scope}{pos:Pos}{it acc:Value}{env:Env}
end
section
variable {prog:Program}{w:World}{A:Around}{s:Shared}{R:Result->Shared->Prop}{elt tg iter tg' iter':Expr}{g0:Comprehension}{scope:Scope}{pos:Pos}{it acc:Value}{env:Env}
end
def But (a:Addr)(H H':Hp):Prop:=∀c o,c≠a->H c=some o->H' c=some o
theorem But.refl (a:Addr)(H:Hp):But a H H:=fun _ _ _ h=>h
theorem But.trans {a:Addr}{H1 H2 H3:Hp}(x:But a H1 H2)(y:But a H2 H3):But a H1 H3:=fun c o n h=>y c o n (x c o n h)
section
variable {X:Cx}{elt iter iter':Expr}{scope:Scope}{pos:Pos}{N:List Str}{js:List Nat}{sc:Scope}{N0:List Str}{wi wi':TI}{te:TE}{x y z:Str}{px py pz tp:Pos}{k:Nat}
end
theorem ps_calm {X:Cx}{st:Stmt}{t:TS}(h:PS X.nox st t):PS X st t:=fun pins s σ H D I hw=>
 wpAny_mono (h pins s σ H D (I.wish _) hw) (fun _ _ q=>SP.unwish q) (fun _ _=>False.elim)
def tMid (t:TS):TS:=fun D σ H=>∃mid:St->Hp->Prop,t {D with nx:=mid} σ H/\∀σ' H',mid σ' H'->D.nx σ' H'
theorem ps_mid {X:Cx}{st:Stmt}{t:TS}(h:PS X st t):PS X st (tMid t):=fun pins s σ H D I ⟨mid,h1,h2⟩=>
 wpAny_mono (h pins s σ H _ I h1) (fun f s' q=>by
  cases f with
  |next=>obtain⟨σ',H',I',q⟩:=q;exact⟨σ',H',I',h2 _ _ q⟩
  |brk=>exact q
  |cont=>exact q
  |ret v=>exact q) fun _ _ z=>z
theorem fresh2 {n c:Nat}(z:c=n+1\/c=n):n<=c:=by omega
section
variable {X:Cx}
end
section
variable {X:Cx}
end
section
variable {prog:Program}{w:World}{A:Around}{E:Value->Shared->Prop}{s:Shared}{I S:Addr}{d:Value}{c:Nat}{Q:PySem.Fin->Shared->Prop}{PN:Value->Sem (Option Value)}
end
section
variable {prog:Program}{w:World}{A:Around}{E:Value->Shared->Prop}{s:Shared}
end
section
variable {X:Cx}{e:Expr}{t:TA}
end
section
variable {X:Cx}
variable {a b c d:Expr}{ta tb tc td:TE}{pos:Pos}
end
section
variable {X:Cx}
end
section
variable {X:Cx}
end
section
variable {X:Cx}
end
abbrev enU (g:Heap)(e:Addr)(k:Int):Heap:=(g.update e (Obj.mapFields fun x=>x.setIfInBounds 3 (rawInt (k+1)))).update e (Obj.mapFields fun x=>x.setIfInBounds 4 Value.none)
abbrev enF (g:Heap)(e:Addr)(k:Int)(tk:Nat)(x:Value):Heap:=
 ((((enU g e k).push {cls:=.type "tuple",data:=.seq #[.int k tk,x]}).update e (Obj.mapFields fun y=>y.setIfInBounds 5 x)).update e (Obj.mapFields fun y=>y.setIfInBounds 0 (rawInt ((enU g e k).objs.size:Nat)))).update e (Obj.mapFields fun y=>y.setIfInBounds 1 (Value.bool false))
section
variable {P:Program}{w:World}{A:Around}{E:Value->Shared->Prop}{s:Shared}{e i l:Addr}{pl:Nat->Heap->Prop}{xs:Array Value}{k:Nat}
end
section
variable {P:Program}{w:World}{A:Around}{E:Value->Shared->Prop}{s:Shared}{e i l:Addr}{pl:Nat->Heap->Prop}{xs:Array Value}{k:Nat}
end
section
variable {X:Cx}
end
abbrev cell0:Obj:={cls:=.type "cell",data:=.cell none}
structure Blk1 (t:Str)(sc:Scope)(N0:List Str)(N:List Str)(nt:Nat)(js:List Nat)(scope:Scope):Prop where
 kind:scope.kind=.function
 loc:∀y∈scope.names,y.2=.local->scope.names.lookup y.1=some .local
 one:∀n cl,cellsFrom n scope.names cl=(t,n)::cl
 lay:∀h,pushCells h scope.names=h.push cell0
 only:∀y∈scope.names,y.2=.cell->y.1=t
 cap:∀y∈scope.names,y.2=.free->sc.names.lookup y.1=some .cell\/sc.names.lookup y.1=some .free
 nf:∀y∈scope.names,y.2=.free->y.1≠t
 len:N.length=nt+js.length
 out:N.drop nt=js.map fun j=>N0.getD j ""
 js:∀j∈js,j<N0.length
 fr:∀x∈N.drop nt,scope.names.lookup x=some .free
 nd:N.Nodup
section
variable {M:Model}{A:Around}{E:Value->Shared->Prop}{s:Shared}
end
section
variable {X:Cx}{pins:List (Addr×Obj)}{σ:St}{H:Hp}{s:Shared}{t:Str}{N:List Str}{nt:Nat}{js:List Nat}{scope:Scope}{cl:List (Str×Addr)}{fp:List Addr}
end
section
variable {X:Cx}{elt iter:Expr}{ifs:List Expr}{scope:Scope}{pos:Pos}{N:List Str}{js:List Nat}{sc:Scope}{N0:List Str}{wi:TI}{tt:TT}{te:TE}{x:Str}{px:Pos}
end
section
variable {X:Cx}{tg:Expr}
theorem op_notInK (K:W.Frag)(h:X.K=K):OpR X (compareOp .NotIn) (rIn K true):=by subst h;exact op_notIn_seq
theorem op_inK (K:W.Frag)(h:X.K=K):OpR X (compareOp .In) (rIn K false):=by subst h;exact op_in_seq
end
def Its (x:Str):It where
 go:=fun i _=>i<x.cps.size
 yld:=fun i H v H'=>H'=H/\∃c,x.cps[i]?=some c/\v=.str ⟨#[c]⟩
 stop:=fun i _=>x.cps.size<=i
theorem turn_str {P:Program}{w:World}{K:W.Frag}{tg:Expr}(it:Addr)(x:Str)(t:Tok)(ty:String)(hty:ty="str_ascii_iterator"\/ty="str_iterator"):Turn P w K tg (Its x) [it] it (fun i h=>h.IsStrIter it ty x t i) where
 mem:=by simp
 obj:=fun i h st b hb=>by
  rw[mem_singleton]at hb
  subst hb
  obtain⟨o,e,c,d⟩:=st
  exact⟨o,e,fun v z=>by rw[d]at z;cases z⟩
 keep:=fun i h h' ⟨o,e,r⟩ k=>⟨o,k it (by simp) o e,r⟩
 item:=by
  intro X hP hw hK hc i pins s σ H E I hf st hg
  subst hP hw hK
  obtain⟨f0,f1,f2,f3,f4,f5⟩:=hf it (by simp)
  have W:Walks X.prog X.w X.A it [it] [it] x.cps.size (SignAt x) (fun i h=>h.IsStrIter it ty x t i):=by
   rcases hty with rfl | rfl
   ·exact Walks.strAscii (I.ok.hd hc) it x t
   ·exact Walks.strWide (I.ok.hd hc) it x t
  refine W.item i s _ E hg st fun u h' tk hp st' kp=>?_
  obtain⟨c,u',hx,rfl⟩:=hp
  have I1:Inv X pins σ H {s with heap:=h',toks:=tk}:=I.turned (t':=tk) (fun b o hb e=>kp b o (by simpa using hb) e) f0 f1 f3 f4 f5
  obtain⟨o,e,hcl,d⟩:=id st'
  refine⟨_,rfl,go_of (s:={s with heap:=h',toks:=tk}) e hcl d ?_ ⟨.str ⟨#[c]⟩,H,I1,⟨_,rfl⟩,⟨rfl,c,hx,rfl⟩,st',fun b hb=>(hf b hb).1⟩⟩
  rcases hty with rfl | rfl<;>decide
 done:=by
   intro X hP hw hK hc i pins s σ H E I hf st hg
   subst hP hw hK
   obtain⟨f0,f1,f2,f3,f4,f5⟩:=hf it (by simp)
   have hx:x.cps[i]?=none:=Array.getElem?_eq_none hg
   rcases hty with rfl | rfl
   ·exact wpAny_pyNext_ascii_end (I.ok.hd hc) st hx fun h' kp=>⟨rfl,I.turned (t':=s.toks) (fun b o hb e=>kp b o hb e) f0 f1 f3 f4 f5⟩
   ·exact wpAny_pyNext_wide_end (I.ok.hd hc) st hx fun h' kp=>⟨rfl,I.turned (t':=s.toks) (fun b o hb e=>kp b o hb e) f0 f1 f3 f4 f5⟩
 self:=fun A i s Q E st h=>by
  rcases hty with rfl | rfl
  ·exact wpAny_pyIter_striter_ascii st h
  ·exact wpAny_pyIter_striter_wide st h
theorem strIter_or (x:Str):strIterType x="str_ascii_iterator"\/strIterType x="str_iterator":=by
 unfold strIterType
 split
 ·exact .inl rfl
 ·exact .inr rfl
section
variable {X:Cx}{tg:Expr}
def iStr (te:TE):TI:=fun σ H R=>te σ H fun v H1=>∃x:Str,v=.str x/\R (Its x) H1
theorem pi_str {e:Expr}{te:TE}(he:PE X e te):PI X tg e (iStr te):=by
 intro pins s σ H R I h
 refine thn (he pins s σ H _ I h) fun v s1 ⟨y,H1,I1,r1,x,e1,q⟩=>?_
 subst e1
 obtain⟨t,rfl⟩:=(show ∃t,v=Value.str x t from r1)
 refine wpAny_pyIter_strU ?_
 refine⟨s1.heap.objs.size,[s1.heap.objs.size],_,_,H1,rfl,I1.kept (t':=s1.toks) fun b o e=>get?_push_of_some _ e,turn_str _ x t _ (strIter_or x),⟨_,get?_push_size _ rfl,rfl,rfl⟩,fun b hb=>?_,q⟩
 have e:b=s1.heap.objs.size:=by simpa using hb
 subst e
 exact I1.fpOk (Nat.le_refl _) (I1.hok.fresh (Nat.le_refl _))
theorem items_str {x:Str}{H1:Hp}(i:Nat)(H:Hp)(s:Same H1 H) :
 (i<x.cps.size->(Its x).go i H/\∀v H2,(Its x).yld i H v H2->Same H H2/\∃c,x.cps[i]?=some c/\v=.str ⟨#[c]⟩)/\(x.cps.size<=i->(Its x).stop i H):=
 ⟨fun hi=>⟨hi,fun v H2 ⟨e,y⟩=>by subst e;exact⟨Same.refl _,y⟩⟩,fun hi=>hi⟩
theorem kit_str {K:W.Frag}{H:Hp}{v:V}{T:String}(h:Kn H v T):kitOne K (.type T) (.type "str")=some (subT T "str"):=by
 cases h<;>rfl
theorem call_isiS:CallR X (.builtin "isinstance") (fun xs H Q=>∃x T,xs=[x,.ty "str"]/\Kn H x T/\Q (.bl (subT T "str")) H):=by
 intro pins s σ H xs us Q I r h
 obtain⟨x,T,rfl,hk,q⟩:=h
 obtain⟨u,c,rfl,rx,rc⟩:=vals2 r
 cases(show c=Value.type "str" from rc)
 exact isinst_ok I rx hk.ty (b:=subT T "str") (kit_str hk) fun tk=>⟨.bl (subT T "str"),H,I.tok tk,rfl,q⟩
def rStarts:V->List V->Hp->VK->Prop:=fun x vs H Q=>∃z y:Str,x=.str z/\vs=[.str y]/\Q (.bl (Txt.startswith z y)) H
theorem mt_starts:MtR X "str.startswith" rStarts:=by
 intro pins s σ H x xs v us Q I rx rv h
 obtain⟨z,y,rfl,rfl,q⟩:=h
 obtain⟨t,rfl⟩:=(show ∃t,v=Value.str z t from rx)
 obtain⟨u,rfl,ru⟩:=vals1 rv
 obtain⟨t',rfl⟩:=(show ∃t,u=Value.str y t from ru)
 exact SC.startswith ⟨.bl _,H,I,rfl,q⟩
def partV (z y:Str):List V:=match occurrences z y 0 z.length 1 with
 |i::_=>[.str (strSub z 0 i),.str y,.str (strSub z (i+y.length) z.length)]
 |[]=>[.str z,.str Str.empty,.str Str.empty]
def rPart:V->List V->Hp->VK->Prop:=fun x vs H Q=>∃z y:Str,x=.str z/\vs=[.str y]/\(y.length==0)=false/\z.length<=sizeLine/\∀p,H p=none->Q (.ref p) (upd H p (.tup (partV z y)))
theorem mt_part:MtR X "str.partition" rPart:=by
 intro pins s σ H x xs v us Q I rx rv h
 obtain⟨z,y,rfl,rfl,hy,hz,q⟩:=h
 obtain⟨t,rfl⟩:=(show ∃t,v=Value.str z t from rx)
 obtain⟨u,rfl,ru⟩:=vals1 rv
 obtain⟨t',rfl⟩:=(show ∃t,u=Value.str y t from ru)
 refine call_meets slot_str_partition (typeIs_str _ _ _) PySem.F.entry_str_partition (PySem.F.args_str_partition_2 _ _) (meets_str_partition z y t t' hy hz) ?_
 have q':=q s.heap.objs.size (I.hok.fresh (Nat.le_refl _))
 unfold partV at q'
 split
 ·rename_i i r e
  rw[e]at q'
  exact⟨.ref s.heap.objs.size,_,I.laid (a:=s.heap.objs.size) (t':=s.toks+1+1) (o:=.tup [.str (strSub z 0 i),.str y,.str (strSub z (i+y.length) z.length)]) (fun b o eb=>get?_push_of_some _ eb) (Nat.le_refl _) ⟨by show 3<=sizeLine;decide,_,.cons ⟨_,rfl⟩ (.cons ⟨_,rfl⟩ (.cons ⟨_,rfl⟩ .nil)),⟨_,get?_push_size _ rfl,rfl,_,rfl⟩⟩,rfl,q'⟩
 ·rename_i e
  rw[e]at q'
  exact⟨.ref s.heap.objs.size,_,I.laid (a:=s.heap.objs.size) (t':=s.toks+1) (o:=.tup [.str z,.str Str.empty,.str Str.empty]) (fun b o eb=>get?_push_of_some _ eb) (Nat.le_refl _) ⟨by show 3<=sizeLine;decide,_,.cons ⟨_,rfl⟩ (.cons ⟨_,rfl⟩ (.cons ⟨_,rfl⟩ .nil)),⟨_,get?_push_size _ rfl,rfl,_,rfl⟩⟩,rfl,q'⟩
def rJoin:V->List V->Hp->VK->Prop:=fun x vs H Q=>∃(z:Str) (l:Addr) (ts:List Str),x=.str z/\vs=[.ref l]/\H l=some (.lst (ts.map V.str))/\ts.toArray.foldl (fun a p=>a+p.length+z.length) 0<=sizeLine/\(Str.join z ts).length<=sizeLine/\Q (.str (Str.join z ts)) H
theorem strs_of:∀{ts:List Str} {us:List Value},Vals (ts.map V.str) us->∃l:List (Str×Tok),us=strValues l/\l.map (·.1)=ts
 |[],_,.nil=>⟨[],rfl,rfl⟩
 |z::ts,_,.cons r rs=>by
  obtain⟨l,rfl,e⟩:=strs_of rs
  obtain⟨t,rfl⟩:=(show ∃t,_=Value.str z t from r)
  exact⟨(z,t)::l,rfl,by rw[map_cons,e]⟩
theorem mt_join:MtR X "str.join" rJoin:=by
 intro pins s σ H x xs v us Q I rx rv h
 obtain⟨z,l,ts,rfl,rfl,hl,hz,hz2,q⟩:=h
 obtain⟨t,rfl⟩:=(show ∃t,v=Value.str z t from rx)
 obtain⟨u,rfl,ru⟩:=vals1 rv
 cases(show u=Value.ref l from ru)
 obtain⟨_,vs,n,rvs,ho⟩:_/\∃(its:List Value) (n:Nat),Vals (ts.map V.str) its/\s.heap.get? l=some {cls:=.type "list",data:=.seq its.toArray n}:=I.hok l _ hl
 obtain⟨ps,rfl,e⟩:=strs_of rvs
 refine call_meets slot_str_join (typeIs_str _ _ _) PySem.F.entry_str_join (PySem.F.args_str_join_2 _ _) (meets_str_join_list z t l ps ?_) ⟨⟨_,ho,rfl,_,rfl⟩,?_⟩
 ·rw[e]
  exact decide_eq_false (Nat.not_lt.mpr hz)
 ·rw[<-e,<-StrLaws.glued_eq_join]at q hz2
  match ps,q,hz2 with
  |[],q,hz2=>exact⟨hz2,.str _,H,I.tok _,⟨_,rfl⟩,q⟩
  |[p],q,hz2=>exact⟨.str p.1,H,I,⟨_,rfl⟩,by rw[StrLaws.glued_eq_join]at q;exact q⟩
  |p::p2::r,q,hz2=>exact⟨hz2,.str _,H,I.tok _,⟨_,rfl⟩,q⟩
theorem call_intS:CallR X (.type "int") (fun xs H Q=>∃(z:Str) (n:Int),xs=[.str z]/\PySem.intText? z=some n/\z.length<=640/\Q (.int n) H):=by
 intro pins s σ H xs us Q I r h
 obtain⟨z,n,rfl,hn,hl,q⟩:=h
 obtain⟨u,rfl,ru⟩:=vals1 r
 obtain⟨t,rfl⟩:=(show ∃t,u=Value.str z t from ru)
 exact PySem.W.KIN.call_text hn hl ⟨.int n,H,I.tok _,⟨_,rfl⟩,q⟩
def jTxt (te:TE)(t:TJ):TJ:=fun out σ H Q=>te σ H fun x H1=>∃z:Str,x=.str z/\z.length<=sizeLine/\(out++z).length<=sizeLine/\t (out++z) σ H1 Q
theorem pj_txt {e:Expr}{es:List Expr}{te:TE}{t:TJ}{pos:Pos}(he:PE X e te)(hr:PJ X es t):PJ X (.FormattedValue e (-1) none pos::es) (jTxt te t):=by
 intro out pins s σ H Q I h
 show wpAny _ _ (joinParts out (eval (.FormattedValue e (-1) none pos) X.env::evalEach es X.env)) _ _ _
 refine joinParts_cons (FormattedValue_plain (thn (he pins s σ H _ I h) fun u s1 ⟨x,H1,I1,rx,z,ex,hz0,hz,q⟩=>?_))
 subst ex
 obtain⟨tk,rfl⟩:=(show ∃t,u=Value.str z t from rx)
 refine formatField_str (fun t' tk'=>?_) hz0
 exact⟨hz,hr _ pins _ σ H1 Q (I1.tok _) q⟩
def tSlS (i:Int)(te:TE):TE:=fun σ H Q=>te σ H fun v H1=>∃z:Str,v=.str z/\z.length<=sizeLine/\Q (.str (Txt.slice z (some i) none)) H1
theorem pe_sliceS {e:Expr}{te:TE}{i:Int}{j:Nat}{p1 p2 pos:Pos}(he:PE X e te):PE X (.Subscript e (.Slice (some (.Constant (.int i) j p1)) none none p2) pos) (tSlS i te):=by
 intro pins s σ H Q I h
 refine Subscript_ (thn (he pins s σ H _ I h) fun v s1 ⟨x,H1,I1,r1,z,e1,hz,q⟩=>?_)
 subst e1
 obtain⟨t,rfl⟩:=(show ∃t,v=Value.str z t from r1)
 have one:=pe_int (X:=X) (i:=i) (j:=j) (pos:=p1) pins s1 σ H1 (fun v H2=>v=.int i/\H2=H1) I1 ⟨rfl,rfl⟩
 refine wpAny_Slice ?_
 rw[evalPart_some]
 refine thn one fun v2 s2 ⟨y,H2,I2,r2,e2,e3⟩=>?_
 subst e2 e3
 obtain⟨ti,rfl⟩:=(show ∃t,v2=Value.int i t from r2)
 rw[evalPart_none]
 refine wpAny_pure (wpAny_pure ?_)
 obtain⟨T,id,hT,ht,hg⟩:=SBH.sliceItem_sn (prog:=X.prog) (w:=X.w) (A:=X.A) (E:=X.xe) (x:=z) (t:=t) (s:=s2) (i:=i) (ui:=ti) (Q:=EP X pins σ Q) (P:=fun h'=>∀b o,s2.heap.get? b=some o->h'.get? b=some o) (fun h ob k b o e=>get?_push_of_some _ (k b o e)) (fun b o e=>e) (fun h' t' k kp=>⟨.str _,H2,I2.kept kp,⟨_,rfl⟩,q⟩) hz
 exact tail_any (ops:=[.ref s2.heap.objs.size,.str z t]) ht hT hg (by with_unfolding_all rfl)
end
section
variable {P:Program}{w:World}{A:Around}{E:Value->Shared->Prop}{s:Shared}{e i:Addr}{x:Str}{t:Tok}{ty:String}{k c:Nat}
theorem nx_sign (hty:ty="str_ascii_iterator"\/ty="str_iterator")(q:s.heap.IsStrIter i ty x t k)(hx:x.cps[k]?=some c){Q:Value->Shared->Prop}(hQ:∀h',h'.IsStrIter i ty x t (k+1)->Heap.SameBut i s.heap h'->Q (.str ⟨#[c]⟩ s.toks) {s with heap:=h',toks:=s.toks+1}):wpAny (model P w) A (Builtin.SmallTypes.nextOf (.ref i)) Q E s:=by
 rcases hty with rfl | rfl
 ·exact wpAny_nextOf_ascii_item q hx hQ
 ·exact wpAny_nextOf_wide_item q hx hQ
theorem en_walkS {old:Value}{Q:Option Value->Shared->Prop}(hty:ty="str_ascii_iterator"\/ty="str_iterator")(a1:e≠i)(he:IsEnum s.heap e i (k:Int) old)(q:s.heap.IsStrIter i ty x t k)(hx:x.cps[k]?=some c)(hQ:∀g2,g2.IsStrIter i ty x t (k+1)->Heap.SameBut i s.heap g2->IsEnum g2 e i (k:Int) old->Q (some (.ref (enU g2 e k).objs.size)) {s with heap:=enF g2 e k (s.toks+1) (.str ⟨#[c]⟩ s.toks),toks:=s.toks+1+1}) :
 wpAny (model P w) A (pyNext (.ref e)) Q E s:=by
 have hT:s.TypeIs (.ref e) "enumerate":=⟨_,he,rfl⟩
 unfold pyNext
 refine wpAny_bind (wpAny_attempt (wpAny_callSpecial?_slot (name:=oS "__next__") hT F.slot_enumerate_next (wpAny_call_entry F.slot_enumerate_next hT F.entry_enumerate_next ?_ (F.args_enumerate_next_1 _))))
 obtain⟨hp,g,d,tk,os⟩:=s
 show wpAny _ _ (field (.ref e) 2 >>= _) _ _ _
 refine wpAny_bind (wpAny_field he rfl (x:=.ref i) rfl (wpAny_bind (nx_sign hty q hx fun g2 r2 s2=>?_)))
 have e2:IsEnum g2 e i (k:Int) old:=s2.extBut _ _ a1 he
 have hQ':=hQ g2 r2 s2 e2
 unfold IsEnum at e2
 clear hQ r2 s2 q hx he hT
 wp_walk
 exact⟨_,rfl,wpAny_pure hQ'⟩
theorem en_itemS {old:Value}{Q:Option Value->Shared->Prop}(hty:ty="str_ascii_iterator"\/ty="str_iterator")(a1:e≠i)(he:IsEnum s.heap e i (k:Int) old)(q:s.heap.IsStrIter i ty x t k)(hx:x.cps[k]?=some c)(hQ:∀h',IsEnumOut h' e i ((k:Int)+1) (.str ⟨#[c]⟩ s.toks) s.heap.objs.size->h'.IsStrIter i ty x t (k+1)->h'.get? s.heap.objs.size=some {cls:=.type "tuple",data:=.seq #[.int k (s.toks+1),.str ⟨#[c]⟩ s.toks]}->
  (∀b o,b≠e->b≠i->s.heap.get? b=some o->h'.get? b=some o)->Q (some (.ref s.heap.objs.size)) {s with heap:=h',toks:=s.toks+1+1}) :
 wpAny (model P w) A (pyNext (.ref e)) Q E s:=by
 refine en_walkS hty a1 he q hx fun g2 r2 s2 e2=>?_
 have sz:(enU g2 e k).objs.size=s.heap.objs.size:=by
  show((g2.update e _).update e _).objs.size=_
  rw[size_after_update,size_after_update,s2.1]
 have el:e<s.heap.objs.size:=lt_size he
 have u1:=get?_update_self (Obj.mapFields fun x=>x.setIfInBounds 3 (rawInt ((k:Int)+1))) e2 rfl
 have u2:=get?_update_self (Obj.mapFields fun x=>x.setIfInBounds 4 Value.none) u1 rfl
 have u3:=get?_push_of_some {cls:=.type "tuple",data:=.seq #[.int k (s.toks+1),.str ⟨#[c]⟩ s.toks]} u2
 have u4:=get?_update_self (Obj.mapFields fun y=>y.setIfInBounds 5 (.str ⟨#[c]⟩ s.toks)) u3 rfl
 have u5:=get?_update_self (Obj.mapFields fun y=>y.setIfInBounds 0 (rawInt ((enU g2 e k).objs.size:Nat))) u4 rfl
 have u6:=get?_update_self (Obj.mapFields fun y=>y.setIfInBounds 1 (Value.bool false)) u5 rfl
 have out:∀{b:Addr} {o:Obj},b≠e->((enU g2 e k).push {cls:=.type "tuple",data:=.seq #[.int k (s.toks+1),.str ⟨#[c]⟩ s.toks]}).get? b=some o->(enF g2 e k (s.toks+1) (.str ⟨#[c]⟩ s.toks)).get? b=some o:=fun n z=>
  get?_update_of_ne _ (Ne.symm n) (get?_update_of_ne _ (Ne.symm n) (get?_update_of_ne _ (Ne.symm n) z))
 have inn:∀{b:Addr} {o:Obj},b≠e->g2.get? b=some o->(enF g2 e k (s.toks+1) (.str ⟨#[c]⟩ s.toks)).get? b=some o:=fun n z=>out n (get?_push_of_some _ (get?_update_of_ne _ (Ne.symm n) (get?_update_of_ne _ (Ne.symm n) z)))
 rw[sz]
 refine hQ _ ?_ (let⟨o,ho,r⟩:=r2;⟨o,inn (Ne.symm a1) ho,r⟩) (out (ne_of_gt el) (get?_push_at sz.symm rfl)) fun c o n1 n2 z=>inn n1 (s2.extBut _ _ n2 z)
 have u7:=u6
 unfold IsEnumOut
 rw[<-sz]
 exact u7
theorem en_doneS {old:Value}{Q:Option Value->Shared->Prop}(hh:A.handled=none)(hty:ty="str_ascii_iterator"\/ty="str_iterator")(he:IsEnum s.heap e i (k:Int) old)(q:s.heap.IsStrIter i ty x t k)(hx:x.cps[k]?=none)(hQ:∀h',Heap.ExtBut i s.heap h'->Q none {s with heap:=h'}):wpAny (model P w) A (pyNext (.ref e)) Q E s:=by
 have hT:s.TypeIs (.ref e) "enumerate":=⟨_,he,rfl⟩
 unfold pyNext
 refine wpAny_bind (wpAny_attempt (wpAny_callSpecial?_slot (name:=oS "__next__") hT F.slot_enumerate_next (wpAny_call_entry F.slot_enumerate_next hT F.entry_enumerate_next ?_ (F.args_enumerate_next_1 _))))
 show wpAny _ _ (field (.ref e) 2 >>= _) _ _ _
 have done:∀{Q:Value->Shared->Prop} {E:Value->Shared->Prop},(∀h' e,Heap.ExtBut i s.heap h'->(∃o,h'.get? e=some o/\o.cls=.type "StopIteration")->E (.ref e) {s with heap:=h'})->wpAny (model P w) A.in1 (Builtin.SmallTypes.nextOf (.ref i)) Q E s:=fun hE=>by
  rcases hty with rfl | rfl
  ·exact wpAny_nextOf_ascii_end hh q hx hE
  ·exact wpAny_nextOf_wide_end hh q hx hE
 refine wpAny_bind (wpAny_field he rfl (x:=.ref i) rfl (wpAny_bind (done fun h' x xb ⟨o,ho,hc⟩=>?_)))
 exact wpAny_bind (wpAny_isInstance (T:="StopIteration") (b:=true) ⟨o,ho,hc⟩ isSubtype_stop (wpAny_pure (hQ _ xb)))
end
def IteS (x:Str):It where
 go:=fun i _=>i<x.cps.size
 yld:=fun i H v H'=>∃p c,v=.ref p/\H p=none/\H'=upd H p (.tup [.int i,.str ⟨#[c]⟩])/\x.cps[i]?=some c
 stop:=fun i _=>x.cps.size<=i
theorem turn_enumS {P:Program}{w:World}{K:W.Frag}{es:List Expr}{k0:Nat}{pos:Pos}{e i:Addr}{x:Str}{t:Tok}{ty:String}(hty:ty="str_ascii_iterator"\/ty="str_iterator")(a1:e≠i) :
 Turn P w K (.Tuple es k0 pos) (IteS x) [e,i] e (fun k h=>(∃old,IsEnum h e i (k:Int) old)/\h.IsStrIter i ty x t k) where
 mem:=by simp
 obj:=fun k h ⟨⟨old,he⟩,⟨o,e1,_,d1⟩⟩ c hc=>by
  simp only[mem_cons,not_mem_nil,or_false]at hc
  rcases hc with rfl | rfl
  ·exact⟨_,he,fun v q=>by cases q⟩
  ·exact⟨_,e1,fun v q=>by rw[d1]at q;cases q⟩
 keep:=fun k h h' ⟨⟨old,he⟩,h3⟩ kp=>⟨⟨old,kp e (by simp) _ he⟩,let⟨o,ho,r⟩:=h3;⟨o,kp i (by simp) o ho,r⟩⟩
 item:=by
  intro X hP hw hK hc k pins s σ H E I hf st hg
  subst hP hw hK
  have hx:x.cps[k]?=some (x.cps[k]'hg):=Array.getElem?_eq_getElem hg
  generalize x.cps[k]'hg=cc at hx
  obtain⟨⟨old,he⟩,hi⟩:=st
  refine en_itemS hty a1 he hi hx fun h' z1 z2 z3 kp=>?_
  refine⟨_,rfl,wpAny_letOwnedTupleGo_enum z1 fun h'' y1 sb=>?_⟩
  have fz:H s.heap.objs.size=none:=I.hok.fresh (Nat.le_refl _)
  have mine:∀c∈[e,i],c≠s.heap.objs.size:=fun c hc'=>by
   obtain⟨o1,e1,_⟩:=id hi
   simp only[mem_cons,not_mem_nil,or_false]at hc'
   rcases hc' with rfl | rfl
   ·exact ne_of_lt (lt_size he)
   ·exact ne_of_lt (lt_size e1)
  have kp2:∀c o,c∉[e,i]->s.heap.get? c=some o->h''.get? c=some o:=fun c o hc' z=>by
   simp only[mem_cons,not_mem_nil,or_false,not_or]at hc'
   exact sb.extBut _ _ hc'.1 (kp c o hc'.1 hc'.2 z)
  have tp:h''.get? s.heap.objs.size=some {cls:=.type "tuple",data:=.seq #[.int k (s.toks+1),.str ⟨#[cc]⟩ s.toks]}:=sb.extBut _ _ (mine e (by simp)).symm z3
  have notH:∀c∈[e,i],H c=none:=fun c hc'=>(hf c hc').1
  have I1:Inv X pins σ (upd H s.heap.objs.size (.tup [.int k,.str ⟨#[cc]⟩])) {s with heap:=h'',toks:=s.toks+1+1}:=by
   have un:Un X.fs [e,i] H (upd H s.heap.objs.size (.tup [.int k,.str ⟨#[cc]⟩])) s.heap h'':=
    ⟨fun c o z n nf hx=>kp2 c o hx z,fun c o z n nf hx=>⟨o.slots,kp2 c o hx z⟩,fun c o z n hx=>by rw[upd_ne (ne_of_lt (lt_size z))];exact n,
     fun c o z hx=>⟨o,kp2 c o hx z⟩,fun c xs z=>by rw[upd_ne (ne_of_none z fz)];exact z,fun c o xs z=>by rw[upd_ne (ne_of_none z fz)];exact z,fun c ps z=>⟨#[],by rw[upd_ne (ne_of_none z fz),z];simp⟩⟩
   have hok:HOk X.prog X.w (upd H s.heap.objs.size (.tup [.int k,.str ⟨#[cc]⟩])) h'':=fun c o z=>by
    by_cases hcs:c=s.heap.objs.size
    ·subst hcs
     rw[upd_same]at z
     cases z
     exact⟨by show 2<=sizeLine;decide,[.int k (s.toks+1),.str ⟨#[cc]⟩ s.toks],.cons ⟨_,rfl⟩ (.cons ⟨_,rfl⟩ .nil),⟨_,tp,rfl,_,rfl⟩⟩
    ·rw[upd_ne hcs]at z
     refine(I.hok c o z).stay (fun d w' hd q=>kp2 d w' (fun zz=>?_) q) (fun d q=>?_) fun d w' q=>?_
     ·have hn:=notH d zz
      rcases hd with rfl | hd
      ·rw[hn]at z;cases z
      ·rw[hn]at hd;cases hd
     ·rw[upd_ne (ne_of_none q fz)];exact q
     ·rw[upd_ne (ne_of_none q fz)];exact q
   have hch:∀b∈[e,i],(b∈X.ex\/X.s₀.heap.objs.size<=b)/\b≠X.env.locals/\(∀x c,X.env.cells.lookup x=some c->c≠b)/\∀p∈X.pn++pins,p.1≠b:=fun b hb=>⟨(hf b hb).2.2.2.1,(hf b hb).2.1,(hf b hb).2.2.2.2.1,(hf b hb).2.2.2.2.2⟩
   refine I.step (g':=s.gens) (d':=s.drawn) (t':=s.toks+1+1) (ch:=[e,i]) hch (fun c o _ _ hc' z _=>kp2 c o hc' z) (fun c o _ _ hc' z _=>⟨o.slots,kp2 c o hc' z⟩) (fun c o hc' z n=>un.free c o z n hc') (fun c o hc' z=>un.there c o z hc') un.tups un.frzs un.tbls (fun m' hm'=>?_) hok I.bare
   obtain⟨o,es',ep,ho,r⟩:=hm'
   exact⟨o,es',ep,kp2 _ o (fun zz=>(hf _ zz).2.1 rfl) ho,r⟩
  refine⟨.ref s.heap.objs.size,_,I1,rfl,⟨s.heap.objs.size,cc,rfl,fz,rfl,hx⟩,?_,fun c hc'=>?_⟩
  ·refine⟨⟨.str ⟨#[cc]⟩ s.toks,?_⟩,let⟨o,ho,r⟩:=z2;⟨o,sb.extBut _ _ (Ne.symm a1) ho,r⟩⟩
   rw[show((k+1:Nat):Int)=(k:Int)+1 by omega]
   exact y1
  ·rw[upd_ne (mine c hc')]
   exact notH c hc'
 done:=by
   intro X hP hw hK hc k pins s σ H E I hf st hg
   subst hP hw hK
   have hx:x.cps[k]?=none:=Array.getElem?_eq_none hg
   obtain⟨⟨old,he⟩,hi⟩:=st
   refine en_doneS (I.ok.hd hc) hty he hi hx fun h' kp=>⟨rfl,?_⟩
   have kp2:∀c o,c∉[e,i]->s.heap.get? c=some o->h'.get? c=some o:=fun c o hc' z=>by
    simp only[mem_cons,not_mem_nil,or_false,not_or]at hc'
    exact kp c o hc'.2 z
   have hch:∀b∈[e,i],(b∈X.ex\/X.s₀.heap.objs.size<=b)/\b≠X.env.locals/\(∀x c,X.env.cells.lookup x=some c->c≠b)/\∀p∈X.pn++pins,p.1≠b:=fun b hb=>⟨(hf b hb).2.2.2.1,(hf b hb).2.1,(hf b hb).2.2.2.2.1,(hf b hb).2.2.2.2.2⟩
   refine I.step (g':=s.gens) (d':=s.drawn) (t':=s.toks) (ch:=[e,i]) hch (fun c o _ _ hc' z _=>kp2 c o hc' z) (fun c o _ _ hc' z _=>⟨o.slots,kp2 c o hc' z⟩) (fun _ _ _ _ n=>n) (fun c o hc' z=>⟨o,kp2 c o hc' z⟩) (fun _ _ z=>z) (fun _ _ _ z=>z) (fun b ps z=>⟨#[],by rw[z];simp⟩) (fun m' hm'=>?_) (fun c o z=>?_) I.bare
   ·obtain⟨o,es',ep,ho,r⟩:=hm'
    exact⟨o,es',ep,kp2 _ o (fun zz=>(hf _ zz).2.1 rfl) ho,r⟩
   ·refine(I.hok c o z).stay (fun d w' hd q=>kp2 d w' (fun zz=>?_) q) (fun _ q=>q) fun _ _ q=>q
    have hn:=(hf d zz).1
    rcases hd with rfl | hd
    ·rw[hn]at z;cases z
    ·rw[hn]at hd;cases hd
 self:=fun A k s Q E st h=>by
  obtain⟨⟨old,he⟩,_⟩:=st
  exact wpAny_pyIter_enum he h
section
variable {X:Cx}
def iEnumS (ta:TA):TI:=fun σ H R=>ta σ H fun vs H1=>∃x:Str,vs=[.str x]/\R (IteS x) H1
theorem pi_enumS {es:List Expr}{k0:Nat}{tp:Pos}{a:Expr}{ta:TA}{p pos:Pos}(hg:Gl X "enumerate")(hm:X.mg "enumerate" = none)(ha:PA X [a] ta)(hs:starEach [a] X.env=[(false,eval a X.env)]:=by rfl) :
 PI X (.Tuple es k0 tp) (.Call (.Name "enumerate" p) [a] [] pos) (iEnumS ta):=by
 intro pins s σ H R I h
 refine Call_ (ld_blt I hg hm boot_enumerate (callWith_type1 (thn (ha pos pins s σ H _ I h) fun us s1 ⟨vs,H1,I1,r1,q1⟩=>?_) (by rw[hs];rfl) (by rfl)))
 obtain⟨x,e,q⟩:=q1
 subst e
 obtain⟨u,rfl,ru⟩:=vals1 r1
 obtain⟨t,rfl⟩:=(show ∃t,u=Value.str x t from ru)
 refine call_enumerate_str fun h' z1 z2 hz kp=>?_
 have I2:Inv X pins σ H1 {s1 with heap:=h'}:=I1.kept (t':=s1.toks) kp
 refine wpAny_pyIter_enum z1 ⟨s1.heap.objs.size+1,[s1.heap.objs.size+1,s1.heap.objs.size],_,_,H1,rfl,I2,turn_enumS (strIter_or x) (Nat.succ_ne_self _),⟨⟨_,z1⟩,z2⟩,fun c hc=>?_,q⟩
 have hcs:s1.heap.objs.size<=c:=by simp only[mem_cons,not_mem_nil,or_false]at hc;exact fresh2 hc
 exact I1.fpOk hcs (I1.hok.fresh hcs)
end
theorem items_enumS {x:Str}{H1:Hp}(i:Nat)(H:Hp)(s:Same H1 H) :
 (i<x.cps.size->(IteS x).go i H/\∀v H2,(IteS x).yld i H v H2->Same H H2/\∃p c,v=.ref p/\H2 p=some (.tup [.int i,.str ⟨#[c]⟩])/\x.cps[i]?=some c)/\(x.cps.size<=i->(IteS x).stop i H):=by
 refine⟨fun hi=>⟨hi,fun v H2 ⟨p,c,e1,e2,e3,e4⟩=>?_⟩,fun hi=>hi⟩
 subst e3
 exact⟨same_new e2 _,p,c,e1,upd_same,e4⟩
theorem str_ext {a b:Str}(h:a.cps.toList=b.cps.toList):a=b:=by
 cases a;cases b
 simp only[Str.mk.injEq]
 exact Array.toList_inj.mp h
theorem app_list (a b:Str):(a++b).cps.toList=a.cps.toList++b.cps.toList:=by rw[Str.cps_append,Array.toList_append]
theorem str_len (a:Str):a.length=a.cps.toList.length:=by rw[length_toList];rfl
abbrev numT (n:Int):Str:=oS (toString n)
def figs (m:Nat):List Nat:=(Nat.toDigits 10 m).map Char.toNat
theorem figs_ok (m:Nat):(∀c∈figs m,48<=c/\c<=57)/\figs m≠[]:=by
 constructor
 ·intro c hc
  obtain⟨ch,hch,rfl⟩:=mem_map.mp hc
  exact digit_range (Nat.isDigit_of_mem_toDigits (by decide) (by decide) hch)
 ·intro e
  have h:=toDigits_len_ge 10 m
  rw[List.map_eq_nil_iff.mp e]at h
  exact absurd h (by decide)
theorem numT_pos (m:Nat):(numT (m:Int)).cps.toList=figs m:=PySem.W.KIN.signs_num m
theorem numT_neg {n:Int}(h:n<0):(numT n).cps.toList=45::figs n.natAbs:=by
 rw[signs_ofString,toString_neg h,String.toList_append,map_append,show 0 - n=(n.natAbs:Int) by omega]
 have e:(toString (n.natAbs:Int)).toList.map Char.toNat=figs n.natAbs:=by rw[<-signs_ofString];exact numT_pos _
 rw[e]
 rfl
theorem figs_len {m:Nat}(h:m<10^10):(figs m).length<=10:=by
 rw[<-numT_pos,<-str_len]
 exact PySem.W.KT.len_num (by omega) (by omega)
theorem num_len {n:Int}(h:n.natAbs<10^10):(numT n).length<=11:=by
 rw[str_len]
 by_cases c:n<0
 ·rw[numT_neg c,length_cons]
  have:=figs_len h
  omega
 ·obtain⟨m,rfl⟩:∃m:Nat,n=(m:Int):=⟨n.toNat,by omega⟩
  rw[numT_pos]
  have:=figs_len (m:=m) (by omega)
  omega
theorem num_read {n:Int}(h:n.natAbs<10^10):PySem.intText? (numT n)=some n:=by
 have l:=num_len h
 by_cases c:n<0
 ·obtain⟨h1,h2⟩:=figs_ok n.natAbs
  rw[PySem.intText_neg (numT_neg c) h1 h2 (by omega)]
  have v:=PySem.W.KIN.val_back n.natAbs
  unfold figs
  rw[v]
  congr 1
  omega
 ·exact PySem.W.KIN.num_reads (by omega) (by omega)
theorem num_starts (n:Int):Txt.startswith (numT n) (oS "-")=decide (n<0):=by
 have e1:(oS "-")=⟨#[45]⟩:=by decide +kernel
 rw[e1]
 have key:Txt.startswith (numT n) ⟨#[45]⟩=true↔(numT n).cps.toList[0]?=some 45:=by
  unfold Txt.startswith
  rw[and_eq_true,decide_eq_true_iff]
  exact StrLaws.subAt_one (numT n) 45 0
 by_cases c:n<0
 ·rw[decide_eq_true c,key,numT_neg c]
  rfl
 ·rw[decide_eq_false c,eq_false_iff,ne_eq,key]
  obtain⟨m,rfl⟩:∃m:Nat,n=(m:Int):=⟨n.toNat,by omega⟩
  rw[numT_pos]
  intro h
  have:=(figs_ok m).1 45 (mem_of_getElem? h)
  omega
theorem all_there (l:List Nat):(List.range l.length).filterMap (fun k=>l[k]?)=l:=by
 have:∀(k:Nat),k<=l.length->(List.range k).filterMap (fun k=>l[k]?)=l.take k:=by
  intro k
  induction k with
  |zero=>intro _;rfl
  |succ k ih=>
   intro h
   rw[range_succ,List.filterMap_append,ih (by omega),take_add_one]
   rfl
 rw[this _ (Nat.le_refl _),take_length]
theorem num_slice {n:Int}(h:n<0):Txt.slice (numT n) (some 1) none=⟨(figs n.natAbs).toArray⟩:=by
 have hl:(numT n).length=(figs n.natAbs).length+1:=by rw[str_len,numT_neg h,length_cons]
 have hix:strSliceIndices (some 1) none 1 (numT n).length=(List.range (figs n.natAbs).length).map fun k=>k+1:=by
  rw[hl]
  unfold strSliceIndices sliceRange
  have n0:0<(figs n.natAbs).length:=length_pos_iff.mpr (figs_ok _).2
  generalize(figs n.natAbs).length=q at n0
  simp only[show ¬((1:Int)<0) by decide,if_false,show(1:Int)>0 by decide,if_true]
  have e1:max (0:Int) (min 1 ((q+1:Nat):Int))=1:=by omega
  rw[e1]
  have e2:(1:Int)<((q+1:Nat):Int):=by omega
  rw[if_pos e2]
  have e3:((((q+1:Nat):Int) - 1+1 - 1) / 1).toNat=q:=by omega
  rw[e3]
  refine map_congr_left fun k _=>?_
  omega
 unfold Txt.slice
 rw[hix,if_neg (by rw[length_map,length_range,hl];simp)]
 apply str_ext
 show((List.range (figs n.natAbs).length).map fun k=>k+1).filterMap ((numT n).cps[·]?)=figs n.natAbs
 have e4:∀k,(numT n).cps[k]?=(45::figs n.natAbs)[k]?:=fun k=>by rw[<-numT_neg h,getElem?_toList]
 rw[filterMap_map]
 have e5:((fun x=>(numT n).cps[x]?)∘fun k=>k+1)=fun k=>(figs n.natAbs)[k]?:=by
  funext k
  show(numT n).cps[k+1]?=_
  rw[e4,List.getElem?_cons_succ]
 show List.filterMap ((fun x=>(numT n).cps[x]?)∘fun k=>k+1) (List.range (figs n.natAbs).length)=figs n.natAbs
 rw[e5]
 exact all_there _
theorem part_at {a b:Str}{c:Nat}(h:c∉a.cps.toList):partV (a++⟨#[c]⟩++b) ⟨#[c]⟩=[.str a,.str ⟨#[c]⟩,.str b]:=by
 have lst:(a++⟨#[c]⟩++b).cps.toList=a.cps.toList++(c::b.cps.toList):=by
  rw[app_list,app_list,List.append_assoc]
  rfl
 have at_:∀i,StrLaws.At (a++⟨#[c]⟩++b) ⟨#[c]⟩ (a++⟨#[c]⟩++b).length i↔(a++⟨#[c]⟩++b).cps.toList[i]?=some c:=fun i=>StrLaws.subAt_one _ c i
 have here:(a++⟨#[c]⟩++b).cps.toList[a.cps.toList.length]?=some c:=by
  rw[lst,getElem?_append_right (Nat.le_refl _),Nat.sub_self]
  rfl
 have first:∀k,k<a.cps.toList.length->¬StrLaws.At (a++⟨#[c]⟩++b) ⟨#[c]⟩ (a++⟨#[c]⟩++b).length k:=fun k hk z=>by
  rw[at_,lst,getElem?_append_left hk]at z
  exact h (mem_of_getElem? z)
 rcases StrLaws.occ_head (a++⟨#[c]⟩++b) ⟨#[c]⟩ 1 (Nat.le_refl 1) with⟨h0,hn⟩ | ⟨i,r,h0,hi,hn⟩
 ·exact absurd ((at_ _).mpr here) (hn _)
 ·have ei:i=a.cps.toList.length:=by
   rcases Nat.lt_trichotomy i a.cps.toList.length with z | z | z
   ·exact absurd hi (first i z)
   ·exact z
   ·exact absurd ((at_ _).mpr here) (hn _ z)
  unfold partV
  rw[h0]
  subst ei
  have e1:strSub (a++⟨#[c]⟩++b) 0 a.cps.toList.length=a:=by
   apply str_ext
   show((a++⟨#[c]⟩++b).cps.extract 0 a.cps.toList.length).toList=_
   rw[toList_extract,lst,List.extract_eq_drop_take,List.drop_zero,Nat.sub_zero,List.take_left]
  have e2:strSub (a++⟨#[c]⟩++b) (a.cps.toList.length+(⟨#[c]⟩:Str).length) (a++⟨#[c]⟩++b).length=b:=by
   apply str_ext
   show((a++⟨#[c]⟩++b).cps.extract (a.cps.toList.length+1) (a++⟨#[c]⟩++b).length).toList=_
   rw[toList_extract,str_len,lst,List.extract_eq_drop_take,List.drop_append,length_append,length_cons,drop_eq_nil_of_le (by omega),nil_append,show a.cps.toList.length+1 - a.cps.toList.length=1 by omega]
   show List.take _ b.cps.toList=_
   exact take_of_length_le (by omega)
  show [V.str (strSub _ 0 a.cps.toList.length),V.str ⟨#[c]⟩,V.str (strSub _ (a.cps.toList.length+(⟨#[c]⟩:Str).length) _)]=_
  rw[e1,e2]
theorem join_signs:∀l:List Nat,Str.join (oS "") (l.map fun c=>(⟨#[c]⟩:Str))=⟨l.toArray⟩
 |[]=>rfl
 |[c]=>rfl
 |c::d::l=>by
  have ih:=join_signs (d::l)
  show(⟨#[c]⟩:Str)++oS ""++Str.join (oS "") ((d::l).map fun c=>(⟨#[c]⟩:Str))=_
  rw[ih]
  apply str_ext
  rw[app_list,app_list]
  rfl
theorem sum_signs (l:List Nat):(l.map fun c=>(⟨#[c]⟩:Str)).toArray.foldl (fun a p=>a+p.length+(oS "").length) 0=l.length:=by
 rw[List.foldl_toArray]
 have:∀(l:List Nat) (k:Nat),(l.map fun c=>(⟨#[c]⟩:Str)).foldl (fun a p=>a+p.length+(oS "").length) k=k+l.length:=by
  intro l
  induction l with
  |nil=>intro k;rfl
  |cons c l ih=>
   intro k
   rw[map_cons,List.foldl_cons,ih,length_cons]
   show k+1+0+l.length=_
   omega
 rw[this]
 omega
theorem sign_in (x:Str)(c:Nat):(!(occurrences x ⟨#[c]⟩ 0 x.length 1).isEmpty)=decide (c∈x.cps.toList):=StrLaws.found_one x c
section
variable {X:Cx}
def rSlS:V->Option Int->Option Int->Hp->VK->Prop:=fun x lo hi H Q=>∃z:Str,x=.str z/\z.length<=sizeLine/\Q (.str (Txt.slice z lo hi)) H
theorem sl_str:SlR X rSlS:=by
 intro pins s σ H x v vl vu lo hi sl Q I rx hs pl pu h
 obtain⟨z,rfl,hz,q⟩:=h
 obtain⟨t,rfl⟩:=(show ∃t,v=Value.str z t from rx)
 refine⟨"str",_,PySem.F.slot_str_getitem.lookup,typeIs_str _ _ _,?_⟩
 have fin:∀t' k,EP X pins σ Q (.str (Txt.slice z lo hi) t') {s with toks:=k}:=fun t' k=>⟨.str _,H,I.tok _,⟨_,rfl⟩,q⟩
 obtain⟨o,e1,e2,e3⟩:=hs
 have le:(Txt.slice z lo hi).length<=sizeLine:=le_trans (Txt.slice_le z lo hi) hz
 cases pl with
 |none=>
  cases pu with
  |none=>exact wpAny_getItem_str_slice (l:=none) (u:=none) (st:=none) ⟨o,e1,e2,e3⟩ rfl (post_val_or_str ⟨le,fin⟩)
  |int j u=>exact wpAny_getItem_str_slice (l:=none) (u:=some (j,u)) (st:=none) ⟨o,e1,e2,e3⟩ rfl (post_val_or_str ⟨le,fin⟩)
 |int i r=>
  cases pu with
  |none=>exact wpAny_getItem_str_slice (l:=some (i,r)) (u:=none) (st:=none) ⟨o,e1,e2,e3⟩ rfl (post_val_or_str ⟨le,fin⟩)
  |int j u=>exact wpAny_getItem_str_slice (l:=some (i,r)) (u:=some (j,u)) (st:=none) ⟨o,e1,e2,e3⟩ rfl (post_val_or_str ⟨le,fin⟩)
def rSplit:V->List V->Hp->VK->Prop:=fun x vs H Q=>∃z y:Str,x=.str z/\vs=[.str y]/\(y.length==0)=false/\z.length<=sizeLine/\(partsBetween z (occurrences z y 0 z.length (z.length+1)) y.length).length<=sizeLine/\(Txt.split z y).length<=sizeLine/\
 ∀l,H l=none->Q (.ref l) (upd H l (.lst ((Txt.split z y).map V.str)))
theorem vals_strs:∀(l:List (Str×Tok)),Vals ((l.map (·.1)).map V.str) (strValues l)
 |[]=>.nil
 |p::l=>.cons ⟨_,rfl⟩ (vals_strs l)
theorem mt_split:MtR X "str.split" rSplit:=by
 intro pins s σ H x xs v us Q I rx rv h
 obtain⟨z,y,rfl,rfl,hy,hz,hz2,hz3,q⟩:=h
 obtain⟨t,rfl⟩:=(show ∃t,v=Value.str z t from rx)
 obtain⟨u,rfl,ru⟩:=vals1 rv
 obtain⟨t',rfl⟩:=(show ∃t,u=Value.str y t from ru)
 have new:∀(ps:List (Str×Tok)) (tk:Nat),ps.map (·.1)=Txt.split z y->EP X pins σ Q (.ref s.heap.objs.size) {s with toks:=tk,heap:=s.heap.push {cls:=.type "list",data:=.seq (strValues ps).toArray}}:=fun ps tk e=>by
  refine⟨.ref s.heap.objs.size,_,I.laid (a:=s.heap.objs.size) (t':=tk) (o:=.lst ((Txt.split z y).map V.str)) (fun b o eb=>get?_push_of_some _ eb) (Nat.le_refl _) ?_,rfl,q _ (I.hok.fresh (Nat.le_refl _))⟩
  refine⟨by rw[length_map];exact hz3,strValues ps,0,by rw[<-e];exact vals_strs ps,get?_push_size _ rfl⟩
 have call:=fun{S:PySem.Spec} (g:Meets (Builtin.«str.split» ⟨[.str z t,.str y t'],[]⟩) S) (h:S X.A (wants (EP X pins σ Q) X.xe) s)=>call_meets slot_str_split (typeIs_str s z t) PySem.F.entry_str_split (PySem.F.args_str_split_2 _ _) (prog:=X.prog) (w:=X.w) g h
 by_cases c1:(decide (z.length<y.length)||decide (Builtin.Str.strKind z<Builtin.Str.strKind y))=true
 ·exact call (meets_str_split_cannot_occur z y t t' c1) (new [(z,t)] s.toks (by unfold Txt.split;rw[if_pos c1];rfl))
 ·have c1':=eq_false_iff.mpr c1
  by_cases c2:(occurrences z y 0 z.length (z.length+1)).isEmpty=true
  ·exact call (meets_str_split_not_found z y t t' c1' hy c2) (new [(z,t)] s.toks (by unfold Txt.split;rw[if_neg c1,if_pos c2];rfl))
  ·refine call (meets_str_split_sep z y t t' c1' hy (eq_false_iff.mpr c2) hz hz2) ?_
   have:=new (numbered s.toks (partsBetween z (occurrences z y 0 z.length (z.length+1)) y.length)) (s.toks+(partsBetween z (occurrences z y 0 z.length (z.length+1)) y.length).length) (by rw[numbered_texts];unfold Txt.split;rw[if_neg c1,if_neg c2])
   rw[<-strsFrom_eq]at this
   exact this
end
theorem at_sign (z:Str)(c i:Nat):StrLaws.At z ⟨#[c]⟩ z.length i↔z.cps.toList[i]?=some c:=StrLaws.subAt_one z c i
theorem chain_up {z y:Str}{hi:Nat}(hy:1<=y.length):∀{a:Nat} {cuts:List Nat} {f:Nat},StrLaws.ChainTo z y hi a cuts f->cuts.Pairwise (· < ·)/\∀c∈cuts,a<=c/\StrLaws.At z y hi c
 |a,[],f,h=>⟨.nil,fun c hc=>absurd hc not_mem_nil⟩
 |a,c::r,f,h=>by
  obtain⟨h1,h2⟩:=chain_up hy h.2.2
  refine⟨pairwise_cons.mpr ⟨fun d hd=>?_,h1⟩,fun d hd=>?_⟩
  ·have:=(h2 d hd).1
   omega
  ·rcases mem_cons.mp hd with rfl | hd
   ·exact⟨h.1,h.2.1⟩
   ·have:=h2 d hd
    have:=h.1
    exact⟨by omega,(h2 d hd).2⟩
theorem split_once {a b:Str}{c:Nat}(ha:c∉a.cps.toList)(hb:c∉b.cps.toList)(c256:c<256):Txt.split (a++⟨#[c]⟩++b) ⟨#[c]⟩=[a,b]:=by
 have lst:(a++⟨#[c]⟩++b).cps.toList=a.cps.toList++(c::b.cps.toList):=by
  rw[app_list,app_list,List.append_assoc]
  rfl
 generalize hz:a++⟨#[c]⟩++b=z at *
 have zl:z.length=a.cps.toList.length+1+b.cps.toList.length:=by rw[str_len,lst,length_append,length_cons];omega
 have only:∀i,StrLaws.At z ⟨#[c]⟩ z.length i->i=a.cps.toList.length:=fun i h=>by
  rw[at_sign,lst]at h
  rcases Nat.lt_trichotomy i a.cps.toList.length with q | q | q
  ·rw[getElem?_append_left q]at h
   exact absurd (mem_of_getElem? h) ha
  ·exact q
  ·rw[getElem?_append_right (by omega),show i - a.cps.toList.length=(i - a.cps.toList.length - 1)+1 by omega,List.getElem?_cons_succ]at h
   exact absurd (mem_of_getElem? h) hb
 have here:StrLaws.At z ⟨#[c]⟩ z.length a.cps.toList.length:=by
  rw[at_sign,lst,getElem?_append_right (Nat.le_refl _),Nat.sub_self]
  rfl
 have occ:occurrences z ⟨#[c]⟩ 0 z.length (z.length+1)=[a.cps.toList.length]:=by
  obtain⟨f,ch⟩:=StrLaws.occ_chain z ⟨#[c]⟩ (z.length+1)
  obtain⟨up,al⟩:=chain_up (show 1<=(⟨#[c]⟩:Str).length from Nat.le_refl 1) ch
  rcases StrLaws.occ_head z ⟨#[c]⟩ (z.length+1) (by omega) with⟨h0,hn⟩ | ⟨i,r,h0,hi,hn⟩
  ·exact absurd here (hn _)
  ·rw[h0]at up al ⊢
   have ei:=only i hi
   cases r with
   |nil=>rw[ei]
   |cons d r=>
    have e2:=only d (al d (by simp)).2
    have:=(pairwise_cons.mp up).1 d mem_cons_self
    omega
 unfold Txt.split
 have k1:¬(decide (z.length<(⟨#[c]⟩:Str).length)||decide (Builtin.Str.strKind z<Builtin.Str.strKind ⟨#[c]⟩))=true:=by
  have e1:Builtin.Str.strKind ⟨#[c]⟩=1:=by
   unfold Builtin.Str.strKind
   rw[if_pos (by simpa using c256)]
  have e2:1<=Builtin.Str.strKind z:=by
   unfold Builtin.Str.strKind
   split
   ·exact Nat.le_refl 1
   ·split<;>decide
  have l1:(⟨#[c]⟩:Str).length=1:=rfl
  rw[e1,l1,decide_eq_false (show ¬z.length<1 by omega),decide_eq_false (by omega)]
  simp
 rw[if_neg k1,occ,if_neg (by simp)]
 have e1:strSub z 0 a.cps.toList.length=a:=by
  apply str_ext
  show(z.cps.extract 0 a.cps.toList.length).toList=_
  rw[toList_extract,lst]
  simp
 have e2:strSub z (a.cps.toList.length+1) z.length=b:=by
  apply str_ext
  show(z.cps.extract (a.cps.toList.length+1) z.length).toList=_
  rw[toList_extract,zl,lst,List.extract_eq_take_drop,List.drop_append,drop_eq_nil_of_le (by omega),nil_append,show a.cps.toList.length+1 - a.cps.toList.length=1 by omega]
  show List.take _ b.cps.toList=_
  exact take_of_length_le (by omega)
 show [strSub z 0 a.cps.toList.length,strSub z (a.cps.toList.length+1) z.length]=_
 rw[e1,e2]
theorem split_len (z y:Str):(partsBetween z (occurrences z y 0 z.length (z.length+1)) y.length).length<=z.length+2/\(Txt.split z y).length<=z.length+2:=by
 have a:(partsBetween z (occurrences z y 0 z.length (z.length+1)) y.length).length<=z.length+2:=by
  unfold partsBetween
  have:=StrLaws.occ_length_le z y 0 z.length (z.length+1)
  simp only[length_map,List.length_zip,length_cons,length_append,length_nil]
  omega
 refine⟨a,?_⟩
 unfold Txt.split
 split
 ·simp
 ·split
  ·simp
  ·exact a
theorem figs_len30 {m:Nat}(h:m<10^30):(figs m).length<=30:=by
 rw[<-numT_pos,<-str_len]
 exact toString_length_le (by omega) (by decide) (by omega)
theorem num_len30 {n:Int}(h:n.natAbs<10^30):(numT n).length<=31:=by
 rw[str_len]
 by_cases c:n<0
 ·rw[numT_neg c,length_cons]
  have:=figs_len30 h
  omega
 ·obtain⟨m,rfl⟩:∃m:Nat,n=(m:Int):=⟨n.toNat,by omega⟩
  rw[numT_pos]
  have:=figs_len30 (m:=m) (by omega)
  omega
theorem num_read30 {n:Int}(h:n.natAbs<10^30):PySem.intText? (numT n)=some n:=by
 have l:=num_len30 h
 obtain⟨h1,h2⟩:=figs_ok n.natAbs
 have v:=PySem.W.KIN.val_back n.natAbs
 by_cases c:n<0
 ·rw[PySem.intText_neg (numT_neg c) h1 h2 (by omega)]
  unfold figs
  rw[v]
  congr 1
  omega
 ·obtain⟨m,rfl⟩:∃m:Nat,n=(m:Int):=⟨n.toNat,by omega⟩
  have e:=numT_pos m
  rw[show((m:Nat):Int).natAbs=m by omega]at h1 h2 v
  rw[PySem.intText_digits (x:=numT (m:Int)) (by rw[e];exact h1) (by rw[e];exact h2) (by omega),e]
  unfold figs
  rw[v]
theorem num_log30 {n:Int}(h:n.natAbs<10^30):n.natAbs.log2<1920:=by
 by_cases z:n.natAbs=0
 ·rw[z];decide
 ·exact(log2_lt z).mpr (Nat.lt_of_lt_of_le h (by decide))
section
variable {prog:Program}{w:World}{A:Around}{E:Value->Shared->Prop}
theorem draw_lst {it l:Addr}{items:Array Value}(ne:l≠it):∀(n i:Nat) (s:Shared) (Q:List Value->Shared->Prop),s.heap.IsListIter it l i->s.heap.IsList l items->i+n<=items.size->
 (∀g,g.IsListIter it l (i+n)->Heap.SameBut it s.heap g->Q ((items.toList.drop i).take n) {s with heap:=g})->wpAny (model prog w) A (draw (.ref it) n) Q E s:=by
 intro n
 induction n with
 |zero=>intro i s Q a b c q;exact wpAny_pure (q s.heap a (Heap.SameBut.refl _ _))
 |succ n ih=>
  intro i s Q a b c q
  have lt:i<items.size:=Nat.lt_of_lt_of_le (Nat.lt_add_of_pos_right (succ_pos n)) c
  have one:items.toList.drop i=items[i]::items.toList.drop (i+1):=by
   rw[List.drop_eq_getElem_cons (by rw[length_toList];exact lt)]
   rfl
  show wpAny _ A (pyNext (.ref it) >>= _) _ _ s
  refine wpAny_bind (wpAny_pyNext_list_item a b (Array.getElem?_eq_getElem lt) fun g a1 sb=>?_)
  refine wpAny_bind (wpAny_holding (ih (i+1) _ _ a1 (b.extBut sb.extBut ne) (by omega) fun g2 a2 sb2=>wpAny_pure ?_))
  have z:=q g2 (by rw[show i+(n+1)=i+1+n by omega];exact a2) (sb.trans sb2)
  rw[one]at z
  exact z
end
section
variable {X:Cx}{pos:Pos}
end
section
variable {X:Cx}
end
section
variable {X:Cx}{o e:Expr}{es:List Expr}{to:TE}{t:TA}{name:Str}{apos cpos:Pos}{T id:String}{r:V->List V->Hp->VK->Prop}
end
section
variable {X:Cx}{elt iter:Expr}{ifs:List Expr}{scope:Scope}{px py tp pos pos' spos:Pos}{k ii:Nat}{x y nm:Str}{N N0:List Str}{js:List Nat}{sc:Scope}{wi:TI}{tt:TT}{te:TE}
theorem ps_comp2 (hNd:X.N.Nodup)(hii:X.N[ii]?=some nm)(hloc:Loc X.env.scope nm)(hc:X.calm=true)(hsc:X.env.scope=sc)(hN:X.N=N0)(B:Blk sc N0 (x::y::N) 2 js scope)(hx:scope.names.lookup x=some .local)(hy:scope.names.lookup y=some .local)(hi:PI X (.Tuple [.Name x px,.Name y py] k tp) iter wi)(ht:∀cl C s H fp,PTs (blk X (x::y::N) scope cl C s H fp) ifs tt)(he:∀cl C s H fp,PE (blk X (x::y::N) scope cl C s H fp) elt te)(hsw:swapsWith (.ListComp elt [⟨.Tuple [.Name x px,.Name y py] k tp,iter,ifs,0⟩] scope pos) (some (.Name nm pos')) spos.line X.env=pure true:=by rfl)(hf:X.fn nm=true\/X.env.scope.names.lookup nm=some .local:=by first | exact .inl rfl | exact .inr rfl | assumption)(hs:∀x,foldedSetIterable iter X.env x=pure x:=by intro _;rfl):PS X (.Assign [.Name nm pos'] (.ListComp elt [⟨.Tuple [.Name x px,.Name y py] k tp,iter,ifs,0⟩] scope pos) spos) (tSetC ii (tComp 2 js wi (gTup X.K 2 (gCons (gName 0) (gCons (gName 1) gNil))) tt te)):=
 ps_comp hNd hii hloc hc hsc hN B hi (fun cl C s H fp=>pg_tup (X:=blk X (x::y::N) scope cl C s H fp) hc (pgs_cons (pg_name (i:=0) B.nd rfl (.inl (blk_loc hx)) (.inr (blk_loc hx))) (pgs_cons (pg_name (i:=1) B.nd rfl (.inl (blk_loc hy)) (.inr (blk_loc hy))) pgs_nil))) ht he hsw hf hs
end
theorem comp_any {J:It}{g:TG}{tt:TT}{te:TE}{Q:VK}{D:Addr}{H1:Hp}{σ0:St}(n:Nat)(hn:n<=sizeLine)(Pv:Nat->St->Hp->List V->Prop)(itm:Nat->Hp->V->Prop)(h0:Pv 0 σ0 (upd H1 D (.lst [])) [])(hD:∀i σ H ys,Pv i σ H ys->H D=some (.lst ys)/\ys.length<=i)(items:∀i σ H ys,Pv i σ H ys->(i<n->J.go i H/\∀x H2,J.yld i H x H2->Same H H2/\itm i H2 x)/\(n<=i->J.stop i H))(step:∀i x σ H H2 ys,i<n->Pv i σ H ys->Same H H2->itm i H2 x->∀(A:St->V->Hp->Prop) (B:St->Hp->Prop),(∀σ3 y H5,H5 D=some (.lst ys)->Pv (i+1) σ3 (upd H5 D (.lst (ys++[y]))) (ys++[y])->A σ3 y H5)->
  (∀σ3 H4,Pv (i+1) σ3 H4 ys->B σ3 H4)->g x σ H2 fun σ3 H3=>tt σ3 H3 fun ok H4=>if ok=true then te σ3 H4 (A σ3) else B σ3 H4)(fin:∀σ H ys,Pv n σ H ys->Q (.ref D) H):cmpW J g tt te Q D σ0 H1:=by
 refine⟨fun i m σ H=>m=n - i/\i<=n/\∃ys,Pv i σ H ys,⟨n,by omega,zero_le _,[],h0⟩,?_⟩
 rintro i m σ H ⟨rfl,hi,ys,pv⟩
 by_cases hlt:i<n
 ·obtain⟨go,yl⟩:=(items i σ H ys pv).1 hlt
  refine .inr ⟨go,fun x H2 y=>?_⟩
  obtain⟨sm,im⟩:=yl x H2 y
  refine step i x σ H H2 ys hlt pv sm im (fun σ3 y H5=>∃ys,H5 D=some (.lst ys)/\ys.length<sizeLine/\∃m',m'<n - i/\(m'=n - (i+1)/\i+1<=n/\∃zs,Pv (i+1) σ3 (upd H5 D (.lst (ys++[y]))) zs)) (fun σ3 H4=>∃m',m'<n - i/\(m'=n - (i+1)/\i+1<=n/\∃zs,Pv (i+1) σ3 H4 zs)) (fun σ3 y H5 e p=>?_) (fun σ3 H4 p=>?_)
  ·have:=(hD _ _ _ _ pv).2
   exact⟨ys,e,by omega,n - (i+1),by omega,rfl,by omega,_,p⟩
  ·exact⟨n - (i+1),by omega,rfl,by omega,_,p⟩
 ·have e:i=n:=by omega
  subst e
  exact .inl ⟨(items i σ H ys pv).2 (Nat.le_refl _),fin σ H ys pv⟩
section
variable {X:Cx}
end
section
variable {X:Cx}
end
section
variable {X:Cx}
end
structure Air (base:Heap)(l:List Env)(e:Addr)(cls a0 fl:Value)(h:Heap):Prop where
 st:base.StaysIn h
 ne:base.get? e=none
 ff:h.FunFrames base l
 tr:h.TracedAtW base e cls a0 fl
section
variable {M:Model}{A:Around}{E:Value->Shared->Prop}{s:Shared}{base:Heap}{l outer:List Env}{env:Env}{e L:Addr}{cls a0 fl:Value}{Q:Unit->Shared->Prop}
theorem Air.mark {h:Heap}{T:Addr}{oe oT:Obj}{vs ts:Array Value}(x:Value)(st:base.StaysIn h)(ne:base.get? e=none)(ff:h.FunFrames base l)(he:h.get? e=some oe)(hc:oe.cls=cls/\vs[0]?=some a0)(hd:oe.data=.fields vs)(h1:vs[1]?=some (.ref T))(nT:base.get? T=none)(Te:T≠e)(hT:h.get? T=some oT)(dT:oT.data=.fields ts)(h3:3<ts.size) :
 Air base l e cls a0 x (h.update T (Obj.mapFields (·.setIfInBounds 3 x)))/\h.UpToSlots (h.update T (Obj.mapFields (·.setIfInBounds 3 x))):=by
 have off:∀b,b≠T->(h.update T (Obj.mapFields (·.setIfInBounds 3 x))).get? b=h.get? b:=fun b hb=>get?_update_other _ _ (Ne.symm hb)
 have rcd:∀b o,h.get? b=some o->(∀vs,o.data≠.fields vs)->b≠T:=fun b o hb n q=>by
  rw[q,hT]at hb
  cases hb
  exact n ts dT
 refine⟨⟨fun b o eb=>(off b fun q=>by rw[q,nT]at eb;cases eb).trans (st b o eb),ne,ff.of_keeps fun b o hb n=>⟨o,(off b (rcd b o hb n)).trans hb,rfl⟩,?_⟩,fun b o hb n=>⟨o.slots,(off b (rcd b o hb n)).trans hb⟩⟩
 exact⟨oe,vs,T,_,_,(off e (Ne.symm Te)).trans he,hc,hd,h1,nT,Te,get?_update_self _ hT (Obj.isFreed_of_fields (Obj.data_mapFields dT _)),Obj.data_mapFields dT _,by simp[h3]⟩
theorem air_pass {what:String}{cenv:Env}{α:Type}{R:α->Shared->Prop}(x:Air base l e cls a0 fl s.heap)(q:∀h' fl',Air base l e cls a0 fl' h'->s.heap.UpToSlots h'->E (.ref e) {s with heap:=h'}):wpAny M A (PySem.passOn what (.ref e) cenv:Sem α) R E s:=by
 obtain⟨st,ne,ff,oe,vs,T,oT,ts,he,hc,hd,h1,nT,Te,hT,dT,h3⟩:=x
 unfold PySem.passOn
 refine wpAny_bind (wpAny_field he hd h1 ?_)
 rw[if_neg (show ¬((Value.ref T==Value.none)=true) by simp)]
 refine wpAny_bind ?_
 unfold setFlight
 refine wpAny_bind (wpAny_field he hd h1 ?_)
 rw[if_pos (show(Value.ref T !=Value.none)=true by simp)]
 have l3:3<ts.size:=(Array.getElem?_eq_some_iff.mp h3).1
 obtain⟨a1,a2⟩:=Air.mark (cenv.frame.elim .none fun f=>rawInt f) st ne ff he hc hd h1 nT Te hT dT l3
 exact wpAny_setField hT dT l3 (wpAny_throw (q _ _ a1 a2))
theorem air_leave (hfr:A.frames=some (env::outer))(hf:env.frame=some L)(x:Air base (env::outer) e cls a0 fl s.heap)(q:∀h',Heap.FlyingW base (env::outer) e cls a0 h'->s.heap.UpToSlots h'->Q () {s with heap:=h'}):wpAny M A (leaving env (.ref e)) Q E s:=by
 unfold leaving
 by_cases c:fl=rawInt L
 ·subst c
  exact wpAny_bind (wpAny_noteFrame_againW hf x.tr (wpAny_landsW ⟨x.st,x.ne,x.ff,x.tr⟩ q))
 obtain⟨st,ne,ff,oe,vs,T,oT,ts,he,hc,hd,h1,nT,Te,hT,dT,h3⟩:=x
 have l3:3<ts.size:=(Array.getElem?_eq_some_iff.mp h3).1
 obtain⟨⟨b1,_,b3,_⟩,a2⟩:=Air.mark .none st ne ff he hc hd h1 nT Te hT dT l3
 have he2:(s.heap.update T (Obj.mapFields (·.setIfInBounds 3 Value.none))).get? e=some oe:=(get?_update_other _ _ Te).trans he
 refine wpAny_bind ?_
 unfold noteFrame
 simp only[hf]
 refine wpAny_bind (wpAny_field he hd h1 ?_)
 rw[if_pos (show(Value.ref T !=Value.none)=true by simp)]
 refine wpAny_bind (wpAny_field hT dT h3 ?_)
 rw[if_neg (show ¬((fl==rawInt L)=true) by simpa using c)]
 refine wpAny_bind (wpAny_setField hT dT l3 ?_)
 have cl:=hc.1
 subst cl
 exact wpAny_entryW hfr b3 hf he2 b1 ne hd (Array.getElem?_eq_some_iff.mp h1).1 hc.2 fun h' ⟨x1,x2,x3,x4⟩=>wpAny_landsW ⟨x1,ne,x2,x3⟩ fun h2 f2 u2=>q h2 f2 (a2.trans (Heap.UpToSlots.trans x4 u2))
end
theorem note_comp {scope:Scope}{cl:List (Str×Addr)}{C:Addr}{env:Env}{v:Value}:noteFrame v (compEnvC scope cl C env)=noteFrame v env:=by
 unfold noteFrame PySem.frameOf
 rfl
theorem frames_keep {h h' base:Heap}:∀{l:List Env},(∀b∈frs l,∀o,h.get? b=some o->h'.get? b=some o)->h.FunFrames base l->h'.FunFrames base l
 |[],_,_=>trivial
 |env::l,k,⟨a,⟨L,o,hf,hb,ho,hd⟩,r⟩=>by
  have hm:∀b,b=L\/b∈frs l->b∈frs (env::l):=fun b hb=>by
   unfold frs
   rw[filterMap_cons,hf]
   exact mem_cons.mpr hb
  exact⟨a,⟨L,o,hf,hb,k L (hm L (.inl rfl)) o ho,hd⟩,frames_keep (fun b hb=>k b (hm b (.inr hb))) r⟩
section
variable {X:Cx}{pins:List (Addr×Obj)}{σ:St}{H':Hp}{s':Shared}{e T C:Addr}{cls:Value}{E:XK}
theorem fly_of {S:List Addr}{h':Heap}(O:Own X)(I:Inv X pins σ H' s')(keep:∀b o,b∉S->s'.heap.get? b=some o->h'.get? b=some o)(slot:∀b o,b∈X.fs->s'.heap.get? b=some o->(∀vs,o.data≠.fields vs)->∃sl,h'.get? b=some {o with slots:=sl})(sub:∀b∈S,(X.s₀.heap.get? b=none/\H' b=none)\/b∈frs X.stack)(ne:X.s₀.heap.get? e=none)(fe:H' e=none)(tr:Trc h' e T cls)(nT:X.s₀.heap.get? T=none)(fT:H' T=none):Fly X.prog X.w X.outer X.H₀ X.s₀ H' e cls {s' with heap:=h'}:=by
 have fr:∀b∈S,H' b=none:=fun b hb=>(sub b hb).elim (fun z=>z.2) (I.stkFree b)
 have base:=O.ex▸I.base
 have outS:∀b o,X.s₀.heap.get? b=some o->b∉X.fs->b∉S:=fun b o eb nb hb=>by
  rcases sub b hb with z | z
  ·rw[z.1]at eb;cases eb
  ·rcases mem_cons.mp (I.stkSub b z) with q | q
   ·exact absurd (Nat.lt_of_lt_of_le (lt_size eb) I.ok.above) (by rw[q];exact lt_irrefl _)
   ·exact nb q
 have atF:∀b o,X.s₀.heap.get? b=some o->X.H₀ b=none->b∈X.fs->∃sl,h'.get? b=some {o with slots:=sl}:=fun b o eb n hb=>by
  obtain⟨sl,e1⟩:=base.slot b o eb n hb (by simp)
  obtain⟨_,o',eo,hd⟩:=I.ok.funs.mem hb
  rw[eb]at eo;cases eo
  obtain⟨sl',e2⟩:=slot b _ hb e1 hd
  exact⟨sl',e2⟩
 have hok:HOk X.prog X.w H' h':=fun b u eb=>by
  have nb:∀c u,H' c=some u->c∉S:=fun c u q z=>by rw[fr c z]at q;cases q
  refine(I.hok b u eb).stay (fun c v hc q=>keep c v ?_ q) (fun _ q=>q) fun _ _ q=>q
  rcases hc with rfl | hc
  ·exact nb _ _ eb
  ·exact nb _ _ hc
 refine⟨I.os,I.bare,⟨fun b o eb n hb _=>keep b o (outS b o eb hb) (base.keep b o eb n hb (by simp)),fun b o eb n hb _=>atF b o eb n hb,base.free,fun b o eb _=>?_,base.tups,base.frzs,base.tbls⟩,hok,ne,fe,T,tr,nT,fT⟩
 by_cases hb:b∈X.fs
 ·obtain⟨sl,z⟩:=atF b o eb (I.ok.frf b hb) hb
  exact⟨_,z⟩
 ·obtain⟨o1,e1⟩:=base.there b o eb (by simp)
  exact⟨o1,keep b o1 (outS b o eb hb) e1⟩
theorem comp_flown {m:Str->Option Value}{E':Value->Shared->Prop}(L:Lvs X E)(J:Inv X pins σ H' s')(tr:Trc s'.heap e T cls)(nT:X.s₀.heap.get? T=none)(fT:H' T=none)(ne:X.s₀.heap.get? e=none)(fe:H' e=none)(nC:X.s₀.heap.get? C=none)(fC:H' C=none)(nf:C∉frs X.stack)(ns:s'.heap.Ns C m)(q:E cls (some e) H') :
 wpAny (model X.prog X.w) X.A (noteFrame (.ref e) X.env) (fun _ s2=>∃m,s2.heap.Ns C m/\∀h',Heap.SameBut C s2.heap h'->∀cenv:Env,cenv.locals=C->wpAny (model X.prog X.w) X.A (PySem.passOn "comprehension.variables-let-go" (.ref e) cenv:Sem Value) (fun _ _=>False) X.xe {s2 with heap:=h'}) E' s':=by
 have O:=L.own
 obtain⟨oe,vs,oT,ts,a0,he,hc,h0,hd,h1,Te,hT,dT,h3⟩:=tr
 have hA:X.A.frames=some (X.env::X.outer):=O.stk▸J.ok.frames
 have fo:∀{h:Heap} {m:Str->Option Value},h.Ns C m->∀{b:Addr} {o:Obj} {ws:Array Value},h.get? b=some o->o.data=.fields ws->b≠C:=fun{h m} n {b o ws} e d z=>by
  obtain⟨oc,es,ep,ec,dc,_⟩:=n
  rw[z,ec]at e
  cases e
  rw[dc]at d
  cases d
 have fl:Heap.FlyingW (lessOf (C::e::T::frs X.stack) s'.heap) (X.env::X.outer) e cls a0 s'.heap:=
  ⟨less_stays _ _,less_in (by simp),O.stk▸less_frames (fun b hb=>mem_cons_of_mem _ (mem_cons_of_mem _ (mem_cons_of_mem _ hb))) J.stack,oe,vs,T,oT,ts,he,⟨hc,h0⟩,hd,h1,less_in (by simp),Te,hT,dT,h3⟩
 refine wpAny_looks_onW hA O.frm fl fun h4 held up1=>⟨m,up1.ns ns,fun h' sb cenv _=>?_⟩
 obtain⟨k1,k2,k3,oe4,vs4,T4,oT4,ts4,he4,hc4,hd4,h14,nT4,Te4,hT4,dT4,h34⟩:=held
 have off:∀b o,b≠C->h4.get? b=some o->h'.get? b=some o:=fun b o hb eb=>sb.extBut b o hb eb
 have air:Air (lessOf (C::e::T::frs X.stack) s'.heap) (X.env::X.outer) e cls a0 (rawInt X.env.locals) h':=by
  refine⟨fun b o eb=>off b o (fun z=>by rw[z,less_in (by simp)]at eb;cases eb) (k1 b o eb),k2,frames_keep (fun b hb o eb=>off b o (fun z=>nf (by rw[<-z,O.stk];exact hb)) eb) k3,?_⟩
  exact⟨oe4,vs4,T4,oT4,ts4,off _ _ (fo (up1.ns ns) he4 hd4) he4,hc4,hd4,h14,nT4,Te4,off _ _ (fo (up1.ns ns) hT4 dT4) hT4,dT4,h34⟩
 refine air_pass (s:={s' with heap:=h'}) air fun h5 fl5 air5 up5=>L.xe _ _ (air_leave (s:={s' with heap:=h5}) hA O.frm air5 fun h6 fl6 up6=>⟨e,cls,H',rfl,?_,q⟩)
 obtain⟨st6,_,_,oe6,vs6,T6,oT6,ts6,he6,⟨hc6,h06⟩,hd6,h16,nb6,Te6,hT6,dT6,h36⟩:=fl6
 have up46:∀b o,b≠C->s'.heap.get? b=some o->(∀vs,o.data≠.fields vs)->∃sl,h6.get? b=some {o with slots:=sl}:=fun b o hb eb n=>by
  obtain⟨s1,e1⟩:=up1 b o eb n
  obtain⟨s2,e2⟩:=up5 b _ (off b _ hb e1) n
  obtain⟨s3,e3⟩:=up6 b _ e2 n
  exact⟨s3,e3⟩
 have notF:T6∉frs X.stack:=fun hb=>by
  obtain⟨_,o',eo,nd⟩:=J.stack.mem hb
  obtain⟨sl,e2⟩:=up46 T6 o' (fun z=>nf (by rw[<-z];exact hb)) eo nd
  rw[hT6]at e2
  cases e2
  exact nd ts6 dT6
 have tw:T6=C\/T6=T\/s'.heap.get? T6=none:=by
  by_cases hm:T6∈C::e::T::frs X.stack
  ·rcases mem_cons.mp hm with z | hm
   ·exact .inl z
   rcases mem_cons.mp hm with z | hm
   ·exact absurd z Te6
   rcases mem_cons.mp hm with z | hm
   ·exact .inr (.inl z)
   ·exact absurd hm notF
  ·exact .inr (.inr ((less_out hm).symm.trans nb6))
 refine fly_of (s':=s') (S:=C::e::T::frs X.stack) (T:=T6) O J (fun b o hb eb=>st6 b o ((less_out hb).trans eb)) (fun b o hb eb n=>up46 b o (fun z=>?_) eb n) (fun b hb=>?_) ne fe ⟨oe6,vs6,oT6,ts6,a0,he6,hc6,h06,hd6,h16,Te6,hT6,dT6,h36⟩ ?_ ?_
 ·exact nf (by rw[<-z,O.stk];unfold frs;rw[filterMap_cons];split<;>first | exact hb | exact mem_cons_of_mem _ hb)
 ·rcases mem_cons.mp hb with z | hb
  ·exact .inl (z▸⟨nC,fC⟩)
  rcases mem_cons.mp hb with z | hb
  ·exact .inl (z▸⟨ne,fe⟩)
  rcases mem_cons.mp hb with z | hb
  ·exact .inl (z▸⟨nT,fT⟩)
  ·exact .inr hb
 ·rcases tw with z | z | z
  ·exact z▸nC
  ·exact z▸nT
  ·cases q2:X.s₀.heap.get? T6 with
   |none=>rfl
   |some o=>
    obtain⟨o',e'⟩:=J.base.there T6 o q2 (by rw[O.ex];simp)
    rw[z]at e';cases e'
 ·rcases tw with z | z | z
  ·exact z▸fC
  ·exact z▸fT
  ·exact J.hok.gone z
end
section
variable {prog:Program}{w:World}{A:Around}{s:Shared}{R:Result->Shared->Prop}
theorem comp_turnsE {elt tg iter:Expr}{ifs:List Expr}{scope:Scope}{pos:Pos}{it acc:Value}{env:Env}(J:Nat->Shared->Prop)(Ex:Value->Shared->Prop)(hEx:∀v s',Ex v s'->wpAny (model prog w) A (noteFrame v env) (fun _ s2=>R (.error v) s2) (fun e s2=>R (.error e) s2) s')(turn:∀n s,J n s->wpAny (model prog w) A (pyNext it) (fun r s1=>match r with
  |none=>R (.ok .next) s1
  |some v=>wpAny (model prog w) A (letOwnedTupleGo tg it v) (fun _ s2=>wpAny (model prog w) A (assign tg env v) (fun _ s3=>
   wpAny (model prog w) A (forIn ifs true fun c r=>if r=true then do let ok <-isTrue c env (eval c env);pure (ForInStep.yield ok) else pure (ForInStep.yield r)) (fun ok s4=>
    if ok=true then wpAny (model prog w) A (eval elt env) (fun x s5=>wpAny (model prog w) A (call (.builtin "list.append") [acc,x]) (fun _ s6=>∃m,m<n/\J m s6) Ex s5) Ex s4
    else ∃m,m<n/\J m s4) Ex s3) Ex s2) Ex s1) Ex s)(n:Nat)(h:J n s):codeAny (model prog w) A (.compLoop (.ListComp elt [⟨tg,iter,ifs,0⟩] scope pos) 0 it acc env) R s:=by
 refine codeAny_loop rfl J (fun k s' hJ=>?_) n h
 show wpAny _ A ((compTurn (.ListComp elt [⟨tg,iter,ifs,0⟩] scope pos) 0 it acc env).onRaise (fun x=>do noteFrame x env;theTreesLotGoes x)) _ _ s'
 refine wpAny_noted (wpAny_mono (Q:=_) (E:=Ex) ?_ (fun _ _ z=>z) fun v s2 z=>hEx v s2 z)
 rw[compTurn_list]
 refine wpAny_bind (wpAny_standAt (wpAny_bind (wpAny_mono (turn k s' hJ) (fun r s1 q1=>?_) fun _ _ z=>z)))
 cases r with
 |none=>exact wpAny_pure q1
 |some v=>
  refine wpAny_bind (wpAny_mono q1 (fun _ s2 q2=>wpAny_bind (wpAny_mono q2 (fun _ s3 q3=>wpAny_bind (wpAny_mono q3 (fun ok s4 q4=>?_) fun _ _ z=>z)) fun _ _ z=>z)) fun _ _ z=>z)
  cases ok with
  |false=>exact wpAny_pure ⟨rfl,q4⟩
  |true=>exact wpAny_bind (wpAny_bind (wpAny_mono q4 (fun x s5 q5=>wpAny_bind (wpAny_mono q5 (fun _ s6 q6=>wpAny_pure (wpAny_pure ⟨rfl,q6⟩)) fun _ _ z=>z)) fun _ _ z=>z))
end
def blkE (X:Cx)(E:XK)(N:List Str)(scope:Scope)(cl:List (Str×Addr))(C:Addr)(s:Shared)(H:Hp)(fp:List Addr):Cx:=
 (blk X N scope cl C s H fp).wish fun v s'=>∃pins σ H1 s1,Inv (blk X N scope cl C s H fp) pins σ H1 s1/\CXF X.prog X.w X.stack H1 s1 E v s'
theorem passes_blk {X:Cx}{E:XK}{N:List Str}{scope:Scope}{cl:List (Str×Addr)}{C:Addr}{s:Shared}{H:Hp}{fp:List Addr}:Passes (CXF X.prog X.w) (blkE X E N scope cl C s H fp) E:=
 fun pins σ H1 s1 e s' I h=>⟨pins,σ,H1,s1,I.unwish,h⟩
theorem pe_compE {X:Cx}{E:XK}{elt tg iter:Expr}{ifs:List Expr}{scope:Scope}{pos:Pos}{N:List Str}{nt:Nat}{js:List Nat}{sc:Scope}{N0:List Str}{wi:TI}{g:TG}{tt:TT}{te:TE}(L:Lvs X E)(hc:X.calm=true)(hsc:X.env.scope=sc)(hN:X.N=N0)(B:Blk sc N0 N nt js scope)(hi:PI X tg iter wi)(hg:∀cl C s H fp,PG (blkE X E N scope cl C s H fp) tg g)(ht:∀cl C s H fp,PTs (blkE X E N scope cl C s H fp) ifs tt)(he:∀cl C s H fp,PE (blkE X E N scope cl C s H fp) elt te)(hs:∀x,foldedSetIterable iter X.env x=pure x:=by intro _;rfl):PE X (.ListComp elt [⟨tg,iter,ifs,0⟩] scope pos) (tComp nt js wi g tt te):=by
 subst hsc hN
 intro pins s σ H Q I h
 obtain⟨cl,hcl,c1,c2⟩:=clos_of (env:=X.env) (scope:=scope) fun y hy hk=>I.ok.has y.1 (B.cap y hy hk)
 rw[eval_ListComp]
 refine wpAny_comprehension_free (use:=none) rfl hs hcl B.kind B.loc (thn (hi pins s σ H _ I h) fun v s1 q1=>thn q1 fun itv s2 q2=>?_)
 obtain⟨it,fp,tn,J,H2,e,I2,T,st2,f2,q2⟩:=q2
 subst e
 obtain⟨W,⟨m0,w0⟩,turn⟩:=q2 s2.heap.objs.size (I2.hok.fresh (Nat.le_refl _))
 have hlt:∀b∈fp,b<s2.heap.objs.size:=fun b hb=>by
  obtain⟨o,eo,_⟩:=T.obj _ _ st2 b hb
  exact lt_size eo
 refine wpAny_newObj_type (wpAny_newFunctionEnv B.nocell (by intro y hy;simp at hy) (fun h1 hns hsb=>?_) B.kind)
 dsimp only at hns hsb ⊢
 have hsz:(s2.heap.push {cls:=.type "list",dict:=none,data:=.seq ([]:List Value).toArray}).objs.size=s2.heap.objs.size+1:=by rw[size_push]
 have old:∀b o,s2.heap.get? b=some o->h1.get? b=some o:=fun b o eb=>hsb.extBut b o (by rw[hsz];exact ne_of_lt (lt_succ_of_lt (lt_size eb))) (get?_push_of_some _ (get?_push_of_some _ eb))
 have hD:h1.get? s2.heap.objs.size=some {cls:=.type "list",data:=.seq ([]:List Value).toArray 0}:=hsb.extBut _ _ (by rw[hsz];exact ne_of_lt (lt_succ_self _)) (get?_push_of_some _ (get?_push_size _ rfl))
 rw[hsz]at hns
 have I3:=(blk_start (cl:=cl) (fp:=fp) (tk:=s2.toks+([]:List (Str×Value)).length) I2 B c1 c2 f2 hlt old (show h1.Ns (s2.heap.objs.size+1) fun _=>none from hns) hD)
 have stat:∀{H':Hp},(∀b∈fp,H' b=none)->∀b∈fp,FpOk (blkE X E N scope cl (s2.heap.objs.size+1) s2 H2 fp) [] H' b:=fun{H'} hn b hb=>
  ⟨hn b hb,ne_of_lt (lt_succ_of_lt (hlt b hb)),fun z=>(mem_cons.mp (I2.stkSub b z)).elim (f2 b hb).2.1 (f2 b hb).2.2.1,.inl hb,fun x c ec=>(f2 b hb).2.2.2.2.1 x c (c1 x c ec),fun p hp=>absurd (show p∈([]:List (Addr×Obj)) from hp) (by simp)⟩
 have outer:∀{σ':St} {H':Hp} {s':Shared} {pb:List (Addr×Obj)},Inv (blk X N scope cl (s2.heap.objs.size+1) s2 H2 fp) pb σ' H' s'->Inv X pins σ H' s':=fun{σ' H' s' pb} Ib=>
  I2.call' Ib.os Ib.base Ib.hok Ib.bare fun b hb=>⟨(f2 b hb).2.2.2.1,(f2 b hb).2.1,(f2 b hb).2.2.2.2.1,(f2 b hb).2.2.2.2.2⟩
 have fin:∀{i:Nat} {σ':St} {H':Hp} {s':Shared},Inv (blkE X E N scope cl (s2.heap.objs.size+1) s2 H2 fp) [] σ' H' s'->Q (.ref s2.heap.objs.size) H'->
  compPost (model X.prog X.w) X.A X.xe none (EP X pins σ Q) (.ref s2.heap.objs.size) (s2.heap.objs.size+1) (.ok .next) s':=fun{i σ' H' s'} Ib q=>by
  obtain⟨m,hn,_⟩:=id Ib.loc
  refine⟨m,hn,fun h'' hs''=>?_⟩
  have I4:Inv X pins σ H' s':=outer Ib.unwish
  obtain⟨g0,g1,g2,g3,g4,g5⟩:=I2.fpOk (H':=H') (le_succ _) Ib.free
  exact⟨.ref s2.heap.objs.size,H',I4.turned (t':=s'.toks) (fun b o hb eb=>hs''.extBut b o hb eb) g0 g1 g3 g4 g5,rfl,q⟩
 have bad:∀v s',(blkE X E N scope cl (s2.heap.objs.size+1) s2 H2 fp).xe v s'->wpAny (model X.prog X.w) X.A (noteFrame v (compEnvC scope cl (s2.heap.objs.size+1) X.env)) (fun _ s3=>compPost (model X.prog X.w) X.A X.xe none (EP X pins σ Q) (.ref s2.heap.objs.size) (s2.heap.objs.size+1) (.error v) s3) (fun e s3=>compPost (model X.prog X.w) X.A X.xe none (EP X pins σ Q) (.ref s2.heap.objs.size) (s2.heap.objs.size+1) (.error e) s3) s':=fun v s' hx=>by
  obtain⟨pb,σb,Hb,sb,Ib,e,cls,H',rfl,F,q⟩:=hx
  have Jb:Inv (blk X N scope cl (s2.heap.objs.size+1) s2 H2 fp) pb σb H' s':=Ib.flown F
  obtain⟨Tr,tr,nTr,fTr⟩:=F.tr
  have new:∀b,sb.heap.get? b=none->X.s₀.heap.get? b=none:=fun b z=>by
   cases q2:X.s₀.heap.get? b with
   |none=>rfl
   |some o=>
    obtain⟨o2,e2⟩:=I2.base.there b o q2 (by rw[L.own.ex];simp)
    by_cases hb:b∈fp
    ·rcases(f2 b hb).2.2.2.1 with y | y
     ·rw[L.own.ex]at y;simp at y
     ·exact absurd (Nat.lt_of_lt_of_le (lt_size q2) y) (lt_irrefl _)
    ·obtain⟨o3,e3⟩:=Ib.base.there b o2 e2 hb
     rw[z]at e3;cases e3
  have nC:X.s₀.heap.get? (s2.heap.objs.size+1)=none:=by
   cases q2:X.s₀.heap.get? (s2.heap.objs.size+1) with
   |none=>rfl
   |some o=>
    obtain⟨o2,e2⟩:=I2.base.there _ o q2 (by rw[L.own.ex];simp)
    exact absurd (lt_size e2) (Nat.not_lt.mpr (le_succ _))
  have nf:s2.heap.objs.size+1∉frs X.stack:=fun z=>by
   rcases mem_cons.mp (I2.stkSub _ z) with y | y
   ·have:=I2.lt
    rw[<-y]at this
    exact absurd this (Nat.not_lt.mpr (le_succ _))
   ·exact I2.nofs (le_succ _) y
  obtain⟨m,hn,_⟩:=id Jb.loc
  rw[note_comp]
  exact comp_flown (E:=E) L (outer Jb) tr (new _ nTr) fTr (new _ F.new) F.free nC Jb.free nf hn q
 have loop:codeAny (model X.prog X.w) X.A (.compLoop (.ListComp elt [⟨tg,iter,ifs,0⟩] scope pos) 0 (.ref it) (.ref s2.heap.objs.size) (compEnvC scope cl (s2.heap.objs.size+1) X.env))
  (compPost (model X.prog X.w) X.A X.xe none (EP X pins σ Q) (.ref s2.heap.objs.size) (s2.heap.objs.size+1)) {s2 with heap:=h1,toks:=s2.toks+([]:List (Str×Value)).length}:=by
  refine comp_turnsE (fun n s'=>∃i σ' H',Inv (blkE X E N scope cl (s2.heap.objs.size+1) s2 H2 fp) [] σ' H' s'/\tn i s'.heap/\(∀b∈fp,H' b=none)/\W i n σ' H') _ bad ?_ m0
   ⟨0,_,_,I3.wish _,T.keep _ _ _ st2 fun b _ o eb=>old b o eb,fun b hb=>?_,w0⟩
  ·rintro n s3 ⟨i,σ3,H3,J3,st3,fr3,w3⟩
   rcases turn i n σ3 H3 w3 with⟨stop,qn⟩ | ⟨go,step⟩
   ·refine thn (T.done (blkE X E N scope cl (s2.heap.objs.size+1) s2 H2 fp) rfl rfl rfl hc i [] s3 σ3 H3 _ J3 (stat fr3) st3 stop) fun r s4 ⟨hr,I4⟩=>?_
    subst hr
    exact fin (i:=i) I4 qn
   ·refine thn (T.item (blkE X E N scope cl (s2.heap.objs.size+1) s2 H2 fp) rfl rfl rfl hc i [] s3 σ3 H3 _ J3 (stat fr3) st3 go) fun r s4 ⟨u,hr,h4⟩=>?_
    subst hr
    refine thn h4 fun _ s5 ⟨x,H5,I5,r5,y5,st5,fr5⟩=>?_
    have I5':=I5.pinned (stat fr5) (T.obj _ _ st5)
    refine thn (hg _ _ _ _ _ _ s5 σ3 H5 x u _ I5' r5 (step x H5 y5)) fun _ s6 ⟨σ6,H6,I6,q6⟩=>?_
    have again:∀{σ7:St} {H7:Hp} {s7:Shared} {k:Nat},Inv (blkE X E N scope cl (s2.heap.objs.size+1) s2 H2 fp) ([]++pinsAt fp s5.heap) σ7 H7 s7->k<n->W (i+1) k σ7 H7->
     ∃k,k<n/\∃i σ' H',Inv (blkE X E N scope cl (s2.heap.objs.size+1) s2 H2 fp) [] σ' H' s7/\tn i s7.heap/\(∀b∈fp,H' b=none)/\W i k σ' H':=fun{σ7 H7 s7 k} I7 hk w7=>by
     refine⟨k,hk,i+1,σ7,H7,I7.unpinned,T.keep _ _ _ st5 fun b hb o eb=>(I7.pin (b,o) (mem_append_right _ (mem_append_right _ (mem_pinsAt hb eb)))).1,fun b hb=>?_,w7⟩
     obtain⟨o,eb,_⟩:=T.obj _ _ st5 b hb
     exact(I7.pin (b,o) (mem_append_right _ (mem_append_right _ (mem_pinsAt hb eb)))).2.1
    refine thn (ht _ _ _ _ _ _ s6 σ6 H6 _ I6 q6) fun ok s7 ⟨H7,I7,q7⟩=>?_
    cases ok with
    |false=>
     rw[if_neg Bool.false_ne_true]at q7 ⊢
     obtain⟨k,hk,w7⟩:=q7
     exact again I7 hk w7
    |true=>
     rw[if_pos rfl]at q7 ⊢
     refine thn (he _ _ _ _ _ _ s7 σ6 H7 _ I7 q7) fun y s8 ⟨v8,H8,I8,r8,ys,e8,z8,k,hk,w8⟩=>?_
     refine thn (mt_append _ s8 σ6 H8 (.ref s2.heap.objs.size) [v8] _ [y] (fun _ H9=>W (i+1) k σ6 H9) I8 rfl (.cons r8 .nil) ⟨_,ys,v8,rfl,rfl,e8,z8,w8⟩) fun _ s9 ⟨_,H9,I9,_,w9⟩=>?_
     exact again I9 hk w9
  ·show upd H2 _ _ b=none
   rw[upd_ne (ne_of_lt (hlt b hb))]
   exact(f2 b hb).1
 rw[hsz]
 exact codeAny_compStart_list loop (T.self _ 0 _ _ _ (T.keep _ _ _ st2 fun b _ o eb=>old b o eb) loop)
def Itm (t t':Bool)(K:W.Frag)(l m:Addr):It where
 go:=fun i H=>∃xs ys x y,SqK t K H l xs/\SqK t' K H m ys/\xs[i]?=some x/\ys[i]?=some y
 yld:=fun i H v H'=>∃p x y,v=.ref p/\H p=none/\H'=upd H p (.tup [x,y])/\(∀xs,SqK t K H l xs->xs[i]?=some x)/\∀ys,SqK t' K H m ys->ys[i]?=some y
 stop:=fun i H=>∃xs ys,SqK t K H l xs/\SqK t' K H m ys/\(xs[i]?=none\/ys[i]?=none)
theorem turn_zipm {P:Program}{w:World}{K:W.Frag}{es:List Expr}{k0:Nat}{pos:Pos}{t t':Bool}{z TI TO i j l m:Addr}(a1:TI≠z)(a2:TO≠z)(a3:i≠z)(a4:j≠z)(a5:TI≠TO)(a6:TI≠i)(a7:TI≠j)(a8:TO≠i)(a9:TO≠j)(b1:i≠j)(c1:l∉[z,TI,TO,i,j])(c2:m∉[z,TI,TO,i,j]) :
 Turn P w K (.Tuple es k0 pos) (Itm t t' K l m) [z,TI,TO,i,j] z (fun k h=>IsZip h z TI TO .none/\IsPair h TI (.ref i) (.ref j)/\(∃a b,IsPair h TO a b)/\ItAt t i l k h/\ItAt t' j m k h) where
 mem:=by simp
 obj:=fun k h ⟨hz,h1,⟨a,b,h2⟩,h3,h4⟩ c hc=>by
  obtain⟨o1,f1,_,e1,d1,_⟩:=h3.obj
  obtain⟨o2,f2,_,e2,d2,_⟩:=h4.obj
  simp only[mem_cons,not_mem_nil,or_false]at hc
  rcases hc with rfl | rfl | rfl | rfl | rfl
  ·exact⟨_,hz,fun v q=>by cases q⟩
  ·exact⟨_,h1,fun v q=>by cases q⟩
  ·exact⟨_,h2,fun v q=>by cases q⟩
  ·exact⟨_,e1,fun v q=>by rw[d1]at q;cases q⟩
  ·exact⟨_,e2,fun v q=>by rw[d2]at q;cases q⟩
 keep:=fun k h h' ⟨hz,h1,⟨a,b,h2⟩,h3,h4⟩ kp=>⟨kp z (by simp) _ hz,kp TI (by simp) _ h1,⟨a,b,kp TO (by simp) _ h2⟩,h3.at fun o e=>kp i (by simp) o e,h4.at fun o e=>kp j (by simp) o e⟩
 item:=by
  intro X hP hw hK hc k pins s σ H E I hf st hg
  subst hP hw hK
  obtain⟨xs,ys,x,y,hl,hm,hx,hy⟩:=hg
  obtain⟨hz,h1,⟨a,b,h2⟩,h3,h4⟩:=st
  have cl:=c1
  have cm:=c2
  simp only[mem_cons,not_mem_nil,or_false,not_or]at c1 c2
  obtain⟨its,r1,_,n1⟩:=I.sqk hl
  obtain⟨jts,r2,_,n2⟩:=I.sqk hm
  obtain⟨p1,N1,u1,v1⟩:=n1 i c1.2.2.2.1
  obtain⟨p2,N2,u2,v2⟩:=n2 j c2.2.2.2.2
  obtain⟨u,hu,ru⟩:=r1.get hx
  obtain⟨u',hu',ru'⟩:=r2.get hy
  have D:[z,TI,TO,i,j].Nodup:=by simp[a1,a2,a3,a4,a5,a6,a7,a8,a9,b1,Ne.symm a1,Ne.symm a2,Ne.symm a3,Ne.symm a4]
  refine zip_item D cl cm N1 N2 hz h1 h2 (u1 k h3) (u2 k h4) (x:=u) (y:=u') (by simpa using hu) (by simpa using hu') fun h' z1 z2 z3 z4 z5 z6 kp=>?_
  refine⟨_,rfl,wpAny_letOwnedTupleGo_zip z1 fun h'' y1 sb=>?_⟩
  have fz:H s.heap.objs.size=none:=I.hok.fresh (Nat.le_refl _)
  have zlt:z<s.heap.objs.size:=lt_size hz
  have mine:∀c∈[z,TI,TO,i,j],c≠s.heap.objs.size:=fun c hc'=>by
   obtain⟨o1,f1,_,e1,d1,_⟩:=h3.obj
   obtain⟨o2,f2,_,e2,d2,_⟩:=h4.obj
   simp only[mem_cons,not_mem_nil,or_false]at hc'
   rcases hc' with rfl | rfl | rfl | rfl | rfl
   ·exact ne_of_lt (lt_size hz)
   ·exact ne_of_lt (lt_size h1)
   ·exact ne_of_lt (lt_size h2)
   ·exact ne_of_lt (lt_size e1)
   ·exact ne_of_lt (lt_size e2)
  have kp2:∀c o,c∉[z,TI,TO,i,j]->s.heap.get? c=some o->h''.get? c=some o:=fun c o hc' e=>by
   simp only[mem_cons,not_mem_nil,or_false,not_or]at hc'
   exact sb.extBut _ _ hc'.1 (kp c o hc'.1 hc'.2.2.1 hc'.2.2.2.1 hc'.2.2.2.2 e)
  have tp:h''.get? s.heap.objs.size=some {cls:=.type "tuple",data:=.seq #[u,u']}:=sb.extBut _ _ (mine z (by simp)).symm z5
  have notH:∀c∈[z,TI,TO,i,j],H c=none:=fun c hc'=>(hf c hc').1
  have I1:Inv X pins σ (upd H s.heap.objs.size (.tup [x,y])) {s with heap:=h''}:=by
   have un:Un X.fs [z,TI,TO,i,j] H (upd H s.heap.objs.size (.tup [x,y])) s.heap h'':=
    ⟨fun c o e n nf hx=>kp2 c o hx e,fun c o e n nf hx=>⟨o.slots,kp2 c o hx e⟩,fun c o e n hx=>by rw[upd_ne (ne_of_lt (lt_size e))];exact n,
     fun c o e hx=>⟨o,kp2 c o hx e⟩,fun c xs e=>by rw[upd_ne (ne_of_none e fz)];exact e,fun c o xs e=>by rw[upd_ne (ne_of_none e fz)];exact e,fun c ps e=>⟨#[],by rw[upd_ne (ne_of_none e fz),e];simp⟩⟩
   have hok:HOk X.prog X.w (upd H s.heap.objs.size (.tup [x,y])) h'':=fun c o e=>by
    by_cases hcs:c=s.heap.objs.size
    ·subst hcs
     rw[upd_same]at e
     cases e
     exact⟨by show 2<=sizeLine;decide,[u,u'],.cons ru (.cons ru' .nil),⟨_,tp,rfl,_,rfl⟩⟩
    ·rw[upd_ne hcs]at e
     refine(I.hok c o e).stay (fun d w' hd q=>kp2 d w' (fun zz=>?_) q) (fun d q=>?_) fun d w' q=>?_
     ·have hn:=notH d zz
      rcases hd with rfl | hd
      ·rw[hn]at e;cases e
      ·rw[hn]at hd;cases hd
     ·rw[upd_ne (ne_of_none q fz)];exact q
     ·rw[upd_ne (ne_of_none q fz)];exact q
   have hch:∀b∈[z,TI,TO,i,j],(b∈X.ex\/X.s₀.heap.objs.size<=b)/\b≠X.env.locals/\(∀x c,X.env.cells.lookup x=some c->c≠b)/\∀p∈X.pn++pins,p.1≠b:=fun b hb=>⟨(hf b hb).2.2.2.1,(hf b hb).2.1,(hf b hb).2.2.2.2.1,(hf b hb).2.2.2.2.2⟩
   refine I.step (g':=s.gens) (d':=s.drawn) (t':=s.toks) (ch:=[z,TI,TO,i,j]) hch (fun c o _ _ hc' e _=>kp2 c o hc' e) (fun c o _ _ hc' e _=>⟨o.slots,kp2 c o hc' e⟩) (fun c o hc' e n=>un.free c o e n hc') (fun c o hc' e=>un.there c o e hc') un.tups un.frzs un.tbls (fun m' hm'=>?_) hok I.bare
   obtain⟨o,es',ep,ho,r⟩:=hm'
   exact⟨o,es',ep,kp2 _ o (fun zz=>(hf _ zz).2.1 rfl) ho,r⟩
  refine⟨.ref s.heap.objs.size,_,I1,rfl,⟨s.heap.objs.size,x,y,rfl,fz,rfl,fun xs' q=>by rw[I.sqk_inj q hl];exact hx,fun ys' q=>by rw[I.sqk_inj q hm];exact hy⟩,?_,fun c hc'=>?_⟩
  ·have up:∀c o,c≠z->h'.get? c=some o->h''.get? c=some o:=fun c o hc' e=>sb.extBut _ _ hc' e
   exact⟨y1,up _ _ a1 (kp _ _ a1 a5 a6 a7 h1),⟨_,_,up _ _ a2 z2⟩,(v1 _ _ z3).at fun o e=>up _ o a3 e,(v2 _ _ z4).at fun o e=>up _ o a4 e⟩
  ·rw[upd_ne (mine c hc')]
   exact notH c hc'
 done:=by
   intro X hP hw hK hc k pins s σ H E I hf st hg
   subst hP hw hK
   obtain⟨xs,ys,hl,hm,hend⟩:=hg
   obtain⟨hz,h1,⟨a,b,h2⟩,h3,h4⟩:=st
   have cl:=c1
   have cm:=c2
   simp only[mem_cons,not_mem_nil,or_false,not_or]at c1 c2
   obtain⟨its,r1,_,n1⟩:=I.sqk hl
   obtain⟨jts,r2,_,n2⟩:=I.sqk hm
   obtain⟨p1,N1,u1,v1⟩:=n1 i c1.2.2.2.1
   obtain⟨p2,N2,u2,v2⟩:=n2 j c2.2.2.2.2
   have D:[z,TI,TO,i,j].Nodup:=by simp[a1,a2,a3,a4,a5,a6,a7,a8,a9,b1,Ne.symm a1,Ne.symm a2,Ne.symm a3,Ne.symm a4]
   refine zip_done (I.ok.hd hc) D cl cm N1 N2 hz h1 h2 (u1 k h3) (u2 k h4) (hend.elim (fun q=>.inl (by simpa using r1.none_of q)) fun q=>.inr (by simpa using r2.none_of q)) fun h' kp=>⟨rfl,?_⟩
   have kp2:∀c o,c∉[z,TI,TO,i,j]->s.heap.get? c=some o->h'.get? c=some o:=fun c o hc' e=>by
    simp only[mem_cons,not_mem_nil,or_false,not_or]at hc'
    exact kp c o hc'.1 hc'.2.2.1 hc'.2.2.2.1 hc'.2.2.2.2 e
   have hch:∀b∈[z,TI,TO,i,j],(b∈X.ex\/X.s₀.heap.objs.size<=b)/\b≠X.env.locals/\(∀x c,X.env.cells.lookup x=some c->c≠b)/\∀p∈X.pn++pins,p.1≠b:=fun b hb=>⟨(hf b hb).2.2.2.1,(hf b hb).2.1,(hf b hb).2.2.2.2.1,(hf b hb).2.2.2.2.2⟩
   refine I.step (g':=s.gens) (d':=s.drawn) (t':=s.toks) (ch:=[z,TI,TO,i,j]) hch (fun c o _ _ hc' e _=>kp2 c o hc' e) (fun c o _ _ hc' e _=>⟨o.slots,kp2 c o hc' e⟩) (fun _ _ _ _ n=>n) (fun c o hc' e=>⟨o,kp2 c o hc' e⟩) (fun _ _ e=>e) (fun _ _ _ e=>e) (fun b ps e=>⟨#[],by rw[e];simp⟩) (fun m' hm'=>?_) (fun c o e=>?_) I.bare
   ·obtain⟨o,es',ep,ho,r⟩:=hm'
    exact⟨o,es',ep,kp2 _ o (fun zz=>(hf _ zz).2.1 rfl) ho,r⟩
   ·refine(I.hok c o e).stay (fun d w' hd q=>kp2 d w' (fun zz=>?_) q) (fun _ q=>q) fun _ _ q=>q
    have hn:=(hf d zz).1
    rcases hd with rfl | hd
    ·rw[hn]at e;cases e
    ·rw[hn]at hd;cases hd
 self:=fun A k s Q E st h=>wpAny_pyIter_zip st.1 h
theorem tl_new (l m:Addr)(xs ys:Array Value):Meets (Builtin.«zip.__new__» ⟨[.type "zip",.ref l,.ref m],[]⟩) (fun _ R s=>s.heap.IsTuple l xs/\s.heap.IsList m ys/\
 ∀h':Heap,IsZip h' (s.heap.objs.size+4) (s.heap.objs.size+2) (s.heap.objs.size+3) .none->IsPair h' (s.heap.objs.size+2) (.ref s.heap.objs.size) (.ref (s.heap.objs.size+1))->
  IsPair h' (s.heap.objs.size+3) .none .none->h'.IsTupleIter s.heap.objs.size l 0->h'.IsListIter (s.heap.objs.size+1) m 0->(∀c o,s.heap.get? c=some o->h'.get? c=some o)->
  R (.ok (.ret (.ref (s.heap.objs.size+4)))) {s with heap:=h'}):=
 .of_wp fun prog w A R s h=>by
  obtain⟨hp,g,d,tk,os⟩:=s
  obtain⟨h1,h2,h⟩:=h
  have hsub:=sub_zip
  wp_walk using wpAny_pyIter_tuple h1,wpAny_pyIter_list (Heap.IsList.push h2 _)
  simp only[size_push]
  refine⟨_,rfl,h _ (get?_push_at (by simp only[size_push]) rfl) ?_ ?_ ?_ ?_ fun c o x=>?_⟩
  ·exact get?_push_of_some _ (get?_push_of_some _ (get?_push_at (by simp only[size_push]) rfl))
  ·exact get?_push_of_some _ (get?_push_at (by simp only[size_push]) rfl)
  ·exact⟨_,get?_push_of_some _ (get?_push_of_some _ (get?_push_of_some _ (get?_push_of_some _ (get?_push_size _ rfl)))),rfl,rfl⟩
  ·exact⟨_,get?_push_of_some _ (get?_push_of_some _ (get?_push_of_some _ (get?_push_at (by simp only[size_push]) rfl))),rfl,rfl⟩
  repeat (first | exact x | refine get?_push_of_some _ ?_)
theorem zip_tl {prog:Program}{w:World}{A:Around}{E:Value->Shared->Prop}{s:Shared}{l m:Addr}{xs ys:Array Value}{Q:Value->Shared->Prop}(h1:s.heap.IsTuple l xs)(h2:s.heap.IsList m ys)(h:∀h',IsZip h' (s.heap.objs.size+4) (s.heap.objs.size+2) (s.heap.objs.size+3) .none->IsPair h' (s.heap.objs.size+2) (.ref s.heap.objs.size) (.ref (s.heap.objs.size+1))->
  IsPair h' (s.heap.objs.size+3) .none .none->h'.IsTupleIter s.heap.objs.size l 0->h'.IsListIter (s.heap.objs.size+1) m 0->
  (∀c o,s.heap.get? c=some o->h'.get? c=some o)->Q (.ref (s.heap.objs.size+4)) {s with heap:=h'}) :
 wpAny (model prog w) A (call (.type "zip") [.ref l,.ref m]) Q E s:=
 callType_new F.called_zip (by decide) (F.typeCall_zip_2 _ _) (F.newCall_zip_2 _ _) (fun obj=>F.args_object_init_3 obj _ _) F.entry_zip_new (tl_new l m xs ys)
  ⟨h1,h2,fun h' z p1 p2 i1 i2 kp=>⟨⟨_,z,rfl⟩,h h' z p1 p2 i1 i2 kp⟩⟩
section
variable {X:Cx}
def iZipm (K:W.Frag)(ta:TA):TI:=fun σ H R=>ta σ H fun vs H1=>∃l m xs ys,vs=[.ref l,.ref m]/\SqT K H1 l xs/\SqL K H1 m ys/\R (Itm true false K l m) H1
theorem pi_zipm {es:List Expr}{k0:Nat}{tp:Pos}{a b:Expr}{ta:TA}{p pos:Pos}(hg:Gl X "zip")(hm:X.mg "zip" = none)(ha:PA X [a,b] ta)(hs:starEach [a,b] X.env=[(false,eval a X.env),(false,eval b X.env)]:=by rfl)(hs2:starEach [b] X.env=[(false,eval b X.env)]:=by rfl) :
 PI X (.Tuple es k0 tp) (.Call (.Name "zip" p) [a,b] [] pos) (iZipm X.K ta):=by
 intro pins s σ H R I h
 refine Call_ (ld_blt I hg hm boot_zip (callWith_type1 (thn (ha pos pins s σ H _ I h) fun us s1 ⟨vs,H1,I1,r1,q1⟩=>?_) (by rw[hs,hs2]) (by rw[hs2];rfl)))
 obtain⟨l,m,xs,ys,e,hl,hm',q⟩:=q1
 subst e
 obtain⟨u,u',rfl,ru,ru'⟩:=vals2 r1
 cases(show u=Value.ref l from ru)
 cases(show u'=Value.ref m from ru')
 obtain⟨its,_,⟨ol,eol,_⟩,_⟩:=I1.sqk (t:=true) hl
 obtain⟨jts,_,⟨om,eom,_⟩,_⟩:=I1.sqk (t:=false) hm'
 have ll:l<s1.heap.objs.size:=lt_size eol
 have lm:m<s1.heap.objs.size:=lt_size eom
 have fin:∀h':Heap,IsZip h' (s1.heap.objs.size+4) (s1.heap.objs.size+2) (s1.heap.objs.size+3) .none->IsPair h' (s1.heap.objs.size+2) (.ref s1.heap.objs.size) (.ref (s1.heap.objs.size+1))->
  IsPair h' (s1.heap.objs.size+3) .none .none->ItAt true s1.heap.objs.size l 0 h'->ItAt false (s1.heap.objs.size+1) m 0 h'->(∀c o,s1.heap.get? c=some o->h'.get? c=some o)->
  wpAny (model X.prog X.w) X.A (pyIter (.ref (s1.heap.objs.size+4))) (PIE X pins σ (.Tuple es k0 tp) R) X.xe {s1 with heap:=h'}:=fun h' z1 z2 z3 z4 z5 kp=>by
  have I2:Inv X pins σ H1 {s1 with heap:=h'}:=I1.kept (t':=s1.toks) kp
  refine wpAny_pyIter_zip z1 ⟨s1.heap.objs.size+4,[s1.heap.objs.size+4,s1.heap.objs.size+2,s1.heap.objs.size+3,s1.heap.objs.size,s1.heap.objs.size+1],_,_,H1,rfl,I2,
   turn_zipm (t:=true) (t':=false) (l:=l) (m:=m) (apart_nat _ (a:=2) (b:=4) (by decide)) (apart_nat _ (a:=3) (b:=4) (by decide)) (apart_nat _ (a:=0) (b:=4) (by decide)) (apart_nat _ (a:=1) (b:=4) (by decide)) (apart_nat _ (a:=2) (b:=3) (by decide)) (apart_nat _ (a:=2) (b:=0) (by decide)) (apart_nat _ (a:=2) (b:=1) (by decide)) (apart_nat _ (a:=3) (b:=0) (by decide)) (apart_nat _ (a:=3) (b:=1) (by decide)) (apart_nat _ (a:=0) (b:=1) (by decide)) (fun z=>?_) (fun z=>?_),⟨z1,z2,⟨_,_,z3⟩,z4,z5⟩,fun c hc=>?_,q⟩
  ·simp only[mem_cons,not_mem_nil,or_false]at z;exact not_fresh5 ll z
  ·simp only[mem_cons,not_mem_nil,or_false]at z;exact not_fresh5 lm z
  ·have hcs:s1.heap.objs.size<=c:=by simp only[mem_cons,not_mem_nil,or_false]at hc;exact fresh5 hc
   exact I1.fpOk hcs (I1.hok.fresh hcs)
 obtain⟨its,_,pl,_⟩:=I1.tuple hl
 obtain⟨jts,_,pm,_⟩:=I1.list hm'
 exact zip_tl pl pm.isList fun h' z1 z2 z3 z4 z5 kp=>fin h' z1 z2 z3 z4 z5 kp
end
def orSp (a b:Sp):Sp:=fun vs H Q E=>a vs H Q E\/b vs H Q E
section
variable {P:Program}{w:World}{K:W.Frag}{mg:Str->Option Value}{base:Heap}{CX:CXT}{k:Nat}{f:Addr}{fd:FuncData}{ps:List Str}{sp sp':Sp}
theorem FnOk.up (F:FnOk P w K mg base CX0 k f fd ps sp):FnOk P w K mg base (CXF P w) k f fd ps sp:=
 ⟨F.len,fun A outer s H args us vs Q E hr he hb hv hs=>codeAny_mono (F.run A outer s H args us vs Q E hr he hb hv hs) fun r s' h=>by
  cases r with
  |error e=>exact False.elim h
  |ok fl=>cases fl<;>exact h⟩
theorem FnOk.or (F:FnOk P w K mg base CX k f fd ps sp)(G:FnOk P w K mg base CX k f fd ps sp'):FnOk P w K mg base CX k f fd ps (orSp sp sp'):=
 ⟨fun vs H Q E h=>h.elim (F.len vs H Q E) (G.len vs H Q E),fun A outer s H args us vs Q E hr he hb hv hs=>hs.elim (F.run A outer s H args us vs Q E hr he hb hv) (G.run A outer s H args us vs Q E hr he hb hv)⟩
end
section
variable {X:Cx}{k k':Nat}{x:Str}{ps:List Str}{sp:Sp}{e:Expr}{es:List Expr}{t:TA}{p pos:Pos}{E:XK}
theorem pe_defP (h:HasE X.prog X.w X.K X.mg X.base k x ps sp)(hx:Passes (CXF X.prog X.w) X E)(hr:Room k' X.A)(ha:PA X (e::es) t)(hg:Gl X x:=by rfl)(hk:k<=k':=by decide)(hdb:(x==("__debug__" : Str))=false:=by decide)(he:starEach (e::es) X.env=(false,eval e X.env)::starEach es X.env:=by rfl)(hpl:(backTo pos (starEach es X.env)).any (·.1)=false:=by rfl):PE X (.Call (.Name x p) (e::es) [] pos) (tCall sp [] E t):=by
 obtain⟨f,fd,F,m,kp,b⟩:=h
 exact pe_call F (hr.mono hk) hg m kp b .nil hx ha hdb he hpl
end
section
variable {X:Cx}{E:XK}{elt iter:Expr}{ifs:List Expr}{scope:Scope}{pos:Pos}{N:List Str}{js:List Nat}{sc:Scope}{N0:List Str}{wi:TI}{tt:TT}{te:TE}{x y:Str}{px py tp:Pos}{k:Nat}
theorem pe_compE2 (L:Lvs X E)(hc:X.calm=true)(hsc:X.env.scope=sc)(hN:X.N=N0)(B:Blk sc N0 (x::y::N) 2 js scope)(hx:scope.names.lookup x=some .local)(hy:scope.names.lookup y=some .local)(hi:PI X (.Tuple [.Name x px,.Name y py] k tp) iter wi)(ht:∀cl C s H fp,PTs (blkE X E (x::y::N) scope cl C s H fp) ifs tt)(he:∀cl C s H fp,PE (blkE X E (x::y::N) scope cl C s H fp) elt te)(hs:∀x,foldedSetIterable iter X.env x=pure x:=by intro _;rfl):PE X (.ListComp elt [⟨.Tuple [.Name x px,.Name y py] k tp,iter,ifs,0⟩] scope pos) (tComp 2 js wi (gTup X.K 2 (gCons (gName 0) (gCons (gName 1) gNil))) tt te):=
 pe_compE L hc hsc hN B hi (fun cl C s H fp=>pg_tup (X:=blkE X E (x::y::N) scope cl C s H fp) hc (pgs_cons (pg_name (i:=0) B.nd rfl (.inl (lookup_relabel_local hx)) (.inr (lookup_relabel_local hx))) (pgs_cons (pg_name (i:=1) B.nd rfl (.inl (lookup_relabel_local hy)) (.inr (lookup_relabel_local hy))) pgs_nil))) ht he hs
end
theorem items_zipm {K:W.Frag}{a b:Addr}{xs ys:List V}{H:Hp}(q:SqT K H a xs)(h':H b=some (.lst ys))(i:Nat) :
 (i<min xs.length ys.length->(Itm true false K a b).go i H/\∀v H2,(Itm true false K a b).yld i H v H2->Same H H2/\∃p x y,v=.ref p/\H2 p=some (.tup [x,y])/\xs[i]?=some x/\ys[i]?=some y)/\(min xs.length ys.length<=i->(Itm true false K a b).stop i H):=by
 have q':SqK false K H b ys:=SqL.of h'
 have q0:SqK true K H a xs:=q
 refine⟨fun hi=>⟨⟨xs,ys,xs[i]'(by omega),ys[i]'(by omega),q0,q',List.getElem?_eq_getElem (by omega),List.getElem?_eq_getElem (by omega)⟩,fun v H2 ⟨p,x,y,e1,e2,e3,e4,e5⟩=>?_⟩,fun hi=>⟨xs,ys,q0,q',?_⟩⟩
 ·subst e3
  exact⟨same_new e2 _,p,x,y,e1,upd_same,e4 xs q0,e5 ys q'⟩
 ·by_cases hx:xs.length<=i
  ·exact .inl (List.getElem?_eq_none hx)
  ·exact .inr (List.getElem?_eq_none (by omega))
theorem ps_compE {X:Cx}{E:XK}{elt tg iter:Expr}{ifs:List Expr}{scope:Scope}{pos pos' spos:Pos}{N:List Str}{nt:Nat}{js:List Nat}{sc:Scope}{N0:List Str}{wi:TI}{g:TG}{tt:TT}{te:TE}{ii:Nat}{nm:Str}(L:Lvs X E)(hNd:X.N.Nodup)(hii:X.N[ii]?=some nm)(hloc:Loc X.env.scope nm)(hc:X.calm=true)(hsc:X.env.scope=sc)(hN:X.N=N0)(B:Blk sc N0 N nt js scope)(hi:PI X tg iter wi)(hg:∀cl C s H fp,PG (blkE X E N scope cl C s H fp) tg g)(ht:∀cl C s H fp,PTs (blkE X E N scope cl C s H fp) ifs tt)(he:∀cl C s H fp,PE (blkE X E N scope cl C s H fp) elt te)(hsw:swapsWith (.ListComp elt [⟨tg,iter,ifs,0⟩] scope pos) (some (.Name nm pos')) spos.line X.env=pure true:=by rfl)(hf:X.fn nm=true\/X.env.scope.names.lookup nm=some .local:=by first | exact .inl rfl | exact .inr rfl | assumption)(hs:∀x,foldedSetIterable iter X.env x=pure x:=by intro _;rfl):PS X (.Assign [.Name nm pos'] (.ListComp elt [⟨tg,iter,ifs,0⟩] scope pos) spos) (tSetC ii (tComp nt js wi g tt te)):=by
 subst hsc hN
 intro pins s σ H D I h
 obtain⟨cl,hcl,c1,c2⟩:=clos_of (env:=X.env) (scope:=scope) fun y hy hk=>I.ok.has y.1 (B.cap y hy hk)
 rw[PySem.exec_Assign_Name_used _ _ _ _ hsw]
 refine wpAny_bind (wpAny_standAt (wpAny_bind ?_))
 show wpAny _ _ (comprehension _ scope X.env _ _ _ _ (some (assign (.Name nm pos') X.env)) >>= _) _ _ _
 refine wpAny_bind (thn (Q:=fun _ s'=>∃σ' H',Inv X pins σ' H' s'/\D.nx σ' H') ?_ fun _ s9 q9=>wpAny_pure (wpAny_pure q9))
 refine wpAny_comprehension_free (use:=some (assign (.Name nm pos') X.env)) rfl hs hcl B.kind B.loc (thn (hi pins s σ H _ I h) fun v s1 q1=>thn q1 fun itv s2 q2=>?_)
 obtain⟨it,fp,tn,J,H2,e,I2,T,st2,f2,q2⟩:=q2
 subst e
 obtain⟨W,⟨m0,w0⟩,turn⟩:=q2 s2.heap.objs.size (I2.hok.fresh (Nat.le_refl _))
 have hlt:∀b∈fp,b<s2.heap.objs.size:=fun b hb=>by
  obtain⟨o,eo,_⟩:=T.obj _ _ st2 b hb
  exact lt_size eo
 refine wpAny_newObj_type (wpAny_newFunctionEnv B.nocell (by intro y hy;simp at hy) (fun h1 hns hsb=>?_) B.kind)
 dsimp only at hns hsb ⊢
 have hsz:(s2.heap.push {cls:=.type "list",dict:=none,data:=.seq ([]:List Value).toArray}).objs.size=s2.heap.objs.size+1:=by rw[size_push]
 have old:∀b o,s2.heap.get? b=some o->h1.get? b=some o:=fun b o eb=>hsb.extBut b o (by rw[hsz];exact ne_of_lt (lt_succ_of_lt (lt_size eb))) (get?_push_of_some _ (get?_push_of_some _ eb))
 have hD:h1.get? s2.heap.objs.size=some {cls:=.type "list",data:=.seq ([]:List Value).toArray 0}:=hsb.extBut _ _ (by rw[hsz];exact ne_of_lt (lt_succ_self _)) (get?_push_of_some _ (get?_push_size _ rfl))
 rw[hsz]at hns
 have I3:=(blk_start (cl:=cl) (fp:=fp) (tk:=s2.toks+([]:List (Str×Value)).length) I2 B c1 c2 f2 hlt old (show h1.Ns (s2.heap.objs.size+1) fun _=>none from hns) hD)
 have stat:∀{H':Hp},(∀b∈fp,H' b=none)->∀b∈fp,FpOk (blkE X E N scope cl (s2.heap.objs.size+1) s2 H2 fp) [] H' b:=fun{H'} hn b hb=>
  ⟨hn b hb,ne_of_lt (lt_succ_of_lt (hlt b hb)),fun z=>(mem_cons.mp (I2.stkSub b z)).elim (f2 b hb).2.1 (f2 b hb).2.2.1,.inl hb,fun x c ec=>(f2 b hb).2.2.2.2.1 x c (c1 x c ec),fun p hp=>absurd (show p∈([]:List (Addr×Obj)) from hp) (by simp)⟩
 have outer:∀{σ':St} {H':Hp} {s':Shared} {pb:List (Addr×Obj)},Inv (blk X N scope cl (s2.heap.objs.size+1) s2 H2 fp) pb σ' H' s'->Inv X pins σ H' s':=fun{σ' H' s' pb} Ib=>
  I2.call' Ib.os Ib.base Ib.hok Ib.bare fun b hb=>⟨(f2 b hb).2.2.2.1,(f2 b hb).2.1,(f2 b hb).2.2.2.2.1,(f2 b hb).2.2.2.2.2⟩
 have fin:∀{i:Nat} {σ':St} {H':Hp} {s':Shared},Inv (blkE X E N scope cl (s2.heap.objs.size+1) s2 H2 fp) [] σ' H' s'->D.nx (σ.set ii (some (.ref s2.heap.objs.size))) H'->
  compPost (model X.prog X.w) X.A X.xe (some (assign (.Name nm pos') X.env)) (fun _ s'=>∃σ' H',Inv X pins σ' H' s'/\D.nx σ' H') (.ref s2.heap.objs.size) (s2.heap.objs.size+1) (.ok .next) s':=fun{i σ' H' s'} Ib q=>by
  obtain⟨m,hn,_⟩:=id Ib.loc
  have I4:Inv X pins σ H' s':=outer Ib.unwish
  obtain⟨g0,g1,g2,g3,g4,g5⟩:=I2.fpOk (H':=H') (le_succ _) Ib.free
  show wpAny _ _ (assign (.Name nm pos') X.env (.ref s2.heap.objs.size)) _ _ _
  refine wpAny_bind (wpAny_standAt (wpAny_bindName (store_ok2 I4 hNd hii hloc (v:=.ref s2.heap.objs.size) rfl (fun s5 I5 ⟨a,sb,ha⟩=>?_) hf)))
  have na:s2.heap.objs.size+1≠a:=by
   rcases ha with rfl | ha
   ·exact g1
   ·exact fun z=>g4 _ _ ha z.symm
  refine⟨m,hn.sameBut sb na,fun h'' hs''=>?_⟩
  exact⟨_,H',I5.turned (t':=s5.toks) (fun b o hb eb=>hs''.extBut b o hb eb) g0 g1 g3 g4 g5,q⟩
 have bad:∀v s',(blkE X E N scope cl (s2.heap.objs.size+1) s2 H2 fp).xe v s'->wpAny (model X.prog X.w) X.A (noteFrame v (compEnvC scope cl (s2.heap.objs.size+1) X.env)) (fun _ s3=>compPost (model X.prog X.w) X.A X.xe (some (assign (.Name nm pos') X.env)) (fun _ s'=>∃σ' H',Inv X pins σ' H' s'/\D.nx σ' H') (.ref s2.heap.objs.size) (s2.heap.objs.size+1) (.error v) s3) (fun e s3=>compPost (model X.prog X.w) X.A X.xe (some (assign (.Name nm pos') X.env)) (fun _ s'=>∃σ' H',Inv X pins σ' H' s'/\D.nx σ' H') (.ref s2.heap.objs.size) (s2.heap.objs.size+1) (.error e) s3) s':=fun v s' hx=>by
  obtain⟨pb,σb,Hb,sb,Ib,e,cls,H',rfl,F,q⟩:=hx
  have Jb:Inv (blk X N scope cl (s2.heap.objs.size+1) s2 H2 fp) pb σb H' s':=Ib.flown F
  obtain⟨Tr,tr,nTr,fTr⟩:=F.tr
  have new:∀b,sb.heap.get? b=none->X.s₀.heap.get? b=none:=fun b z=>by
   cases q2:X.s₀.heap.get? b with
   |none=>rfl
   |some o=>
    obtain⟨o2,e2⟩:=I2.base.there b o q2 (by rw[L.own.ex];simp)
    by_cases hb:b∈fp
    ·rcases(f2 b hb).2.2.2.1 with y | y
     ·rw[L.own.ex]at y;simp at y
     ·exact absurd (Nat.lt_of_lt_of_le (lt_size q2) y) (lt_irrefl _)
    ·obtain⟨o3,e3⟩:=Ib.base.there b o2 e2 hb
     rw[z]at e3;cases e3
  have nC:X.s₀.heap.get? (s2.heap.objs.size+1)=none:=by
   cases q2:X.s₀.heap.get? (s2.heap.objs.size+1) with
   |none=>rfl
   |some o=>
    obtain⟨o2,e2⟩:=I2.base.there _ o q2 (by rw[L.own.ex];simp)
    exact absurd (lt_size e2) (Nat.not_lt.mpr (le_succ _))
  have nf:s2.heap.objs.size+1∉frs X.stack:=fun z=>by
   rcases mem_cons.mp (I2.stkSub _ z) with y | y
   ·have:=I2.lt
    rw[<-y]at this
    exact absurd this (Nat.not_lt.mpr (le_succ _))
   ·exact I2.nofs (le_succ _) y
  obtain⟨m,hn,_⟩:=id Jb.loc
  rw[note_comp]
  exact comp_flown (E:=E) L (outer Jb) tr (new _ nTr) fTr (new _ F.new) F.free nC Jb.free nf hn q
 have loop:codeAny (model X.prog X.w) X.A (.compLoop (.ListComp elt [⟨tg,iter,ifs,0⟩] scope pos) 0 (.ref it) (.ref s2.heap.objs.size) (compEnvC scope cl (s2.heap.objs.size+1) X.env))
  (compPost (model X.prog X.w) X.A X.xe (some (assign (.Name nm pos') X.env)) (fun _ s'=>∃σ' H',Inv X pins σ' H' s'/\D.nx σ' H') (.ref s2.heap.objs.size) (s2.heap.objs.size+1)) {s2 with heap:=h1,toks:=s2.toks+([]:List (Str×Value)).length}:=by
  refine comp_turnsE (fun n s'=>∃i σ' H',Inv (blkE X E N scope cl (s2.heap.objs.size+1) s2 H2 fp) [] σ' H' s'/\tn i s'.heap/\(∀b∈fp,H' b=none)/\W i n σ' H') _ bad ?_ m0
   ⟨0,_,_,I3.wish _,T.keep _ _ _ st2 fun b _ o eb=>old b o eb,fun b hb=>?_,w0⟩
  ·rintro n s3 ⟨i,σ3,H3,J3,st3,fr3,w3⟩
   rcases turn i n σ3 H3 w3 with⟨stop,qn⟩ | ⟨go,step⟩
   ·refine thn (T.done (blkE X E N scope cl (s2.heap.objs.size+1) s2 H2 fp) rfl rfl rfl hc i [] s3 σ3 H3 _ J3 (stat fr3) st3 stop) fun r s4 ⟨hr,I4⟩=>?_
    subst hr
    exact fin (i:=i) I4 qn
   ·refine thn (T.item (blkE X E N scope cl (s2.heap.objs.size+1) s2 H2 fp) rfl rfl rfl hc i [] s3 σ3 H3 _ J3 (stat fr3) st3 go) fun r s4 ⟨u,hr,h4⟩=>?_
    subst hr
    refine thn h4 fun _ s5 ⟨x,H5,I5,r5,y5,st5,fr5⟩=>?_
    have I5':=I5.pinned (stat fr5) (T.obj _ _ st5)
    refine thn (hg _ _ _ _ _ _ s5 σ3 H5 x u _ I5' r5 (step x H5 y5)) fun _ s6 ⟨σ6,H6,I6,q6⟩=>?_
    have again:∀{σ7:St} {H7:Hp} {s7:Shared} {k:Nat},Inv (blkE X E N scope cl (s2.heap.objs.size+1) s2 H2 fp) ([]++pinsAt fp s5.heap) σ7 H7 s7->k<n->W (i+1) k σ7 H7->
     ∃k,k<n/\∃i σ' H',Inv (blkE X E N scope cl (s2.heap.objs.size+1) s2 H2 fp) [] σ' H' s7/\tn i s7.heap/\(∀b∈fp,H' b=none)/\W i k σ' H':=fun{σ7 H7 s7 k} I7 hk w7=>by
     refine⟨k,hk,i+1,σ7,H7,I7.unpinned,T.keep _ _ _ st5 fun b hb o eb=>(I7.pin (b,o) (mem_append_right _ (mem_append_right _ (mem_pinsAt hb eb)))).1,fun b hb=>?_,w7⟩
     obtain⟨o,eb,_⟩:=T.obj _ _ st5 b hb
     exact(I7.pin (b,o) (mem_append_right _ (mem_append_right _ (mem_pinsAt hb eb)))).2.1
    refine thn (ht _ _ _ _ _ _ s6 σ6 H6 _ I6 q6) fun ok s7 ⟨H7,I7,q7⟩=>?_
    cases ok with
    |false=>
     rw[if_neg Bool.false_ne_true]at q7 ⊢
     obtain⟨k,hk,w7⟩:=q7
     exact again I7 hk w7
    |true=>
     rw[if_pos rfl]at q7 ⊢
     refine thn (he _ _ _ _ _ _ s7 σ6 H7 _ I7 q7) fun y s8 ⟨v8,H8,I8,r8,ys,e8,z8,k,hk,w8⟩=>?_
     refine thn (mt_append _ s8 σ6 H8 (.ref s2.heap.objs.size) [v8] _ [y] (fun _ H9=>W (i+1) k σ6 H9) I8 rfl (.cons r8 .nil) ⟨_,ys,v8,rfl,rfl,e8,z8,w8⟩) fun _ s9 ⟨_,H9,I9,_,w9⟩=>?_
     exact again I9 hk w9
  ·show upd H2 _ _ b=none
   rw[upd_ne (ne_of_lt (hlt b hb))]
   exact(f2 b hb).1
 rw[hsz]
 exact codeAny_compStart_list loop (T.self _ 0 _ _ _ (T.keep _ _ _ st2 fun b _ o eb=>old b o eb) loop)
section
variable {X:Cx}{E:XK}{elt iter:Expr}{ifs:List Expr}{scope:Scope}{pos pos' spos:Pos}{N:List Str}{js:List Nat}{sc:Scope}{N0:List Str}{wi:TI}{tt:TT}{te:TE}{x y nm:Str}{px py tp:Pos}{k ii:Nat}
theorem ps_compE2 (hNd:X.N.Nodup)(hii:X.N[ii]?=some nm)(hloc:Loc X.env.scope nm)(L:Lvs X E)(hc:X.calm=true)(hsc:X.env.scope=sc)(hN:X.N=N0)(B:Blk sc N0 (x::y::N) 2 js scope)(hx:scope.names.lookup x=some .local)(hy:scope.names.lookup y=some .local)(hi:PI X (.Tuple [.Name x px,.Name y py] k tp) iter wi)(ht:∀cl C s H fp,PTs (blkE X E (x::y::N) scope cl C s H fp) ifs tt)(he:∀cl C s H fp,PE (blkE X E (x::y::N) scope cl C s H fp) elt te)(hsw:swapsWith (.ListComp elt [⟨.Tuple [.Name x px,.Name y py] k tp,iter,ifs,0⟩] scope pos) (some (.Name nm pos')) spos.line X.env=pure true:=by rfl)(hf:X.fn nm=true\/X.env.scope.names.lookup nm=some .local:=by first | exact .inl rfl | exact .inr rfl | assumption)(hs:∀x,foldedSetIterable iter X.env x=pure x:=by intro _;rfl):PS X (.Assign [.Name nm pos'] (.ListComp elt [⟨.Tuple [.Name x px,.Name y py] k tp,iter,ifs,0⟩] scope pos) spos) (tSetC ii (tComp 2 js wi (gTup X.K 2 (gCons (gName 0) (gCons (gName 1) gNil))) tt te)):=
 ps_compE L hNd hii hloc hc hsc hN B hi (fun cl C s H fp=>pg_tup (X:=blkE X E (x::y::N) scope cl C s H fp) hc (pgs_cons (pg_name (i:=0) B.nd rfl (.inl (lookup_relabel_local hx)) (.inr (lookup_relabel_local hx))) (pgs_cons (pg_name (i:=1) B.nd rfl (.inl (lookup_relabel_local hy)) (.inr (lookup_relabel_local hy))) pgs_nil))) ht he hsw hf hs
end
section
variable {X:Cx}
def rSortDS:List V->Hp->VK->Prop:=fun xs H Q=>∃(a:Addr) (ks:List Str) (kvs:List (Key×V)),xs=[.ref a]/\H a=some (.dK kvs)/\kvs.map (·.1)=ks.map Sum.inr/\ks.length<64/\
 ∀(ns:List Str) (l:Addr),ns.Perm ks->sortedS ns=true->H l=none->Q (.ref l) (upd H l (.lst (ns.map V.str)))
theorem vals_strsAre:∀{vs:List Value} {ss:List Str},StrsAre vs ss->Vals (ss.map V.str) vs
 |_,_,.nil=>.nil
 |_,_,.cons x t r=>.cons ⟨t,rfl⟩ (vals_strsAre r)
theorem strsAre_vals:∀{ss:List Str} {vs:List Value},Vals (ss.map V.str) vs->StrsAre vs ss
 |[],_,.nil=>.nil
 |x::ss,_,.cons r rs=>by
  obtain⟨t,rfl⟩:=(show ∃t,_=Value.str x t from r)
  exact .cons x t (strsAre_vals rs)
theorem vals_ofS:∀(us:List Value) (ks:List Str),us.length=ks.length->(∀(j:Nat) (u:Value),us[j]?=some u->∃(t:Tok) (i:Str),ks[j]?=some i/\u=Value.str i t)->Vals (ks.map V.str) us
 |[],[],_,_=>.nil
 |u::us,k::ks,e,h=>by
  obtain⟨t,i,e1,e2⟩:=h 0 u rfl
  cases e1
  exact .cons ⟨t,e2⟩ (vals_ofS us ks (Nat.succ.inj e) fun j u hj=>h (j+1) u hj)
theorem call_sortDS (hc:X.calm=true):CallR X (.builtin "sorted") rSortDS:=by
 intro pins s σ H xs us Q I r h
 obtain⟨a,ks,kvs,rfl,ha,hk,h64,q⟩:=h
 obtain⟨u,rfl,rx⟩:=vals1 r
 cases(show u=Value.ref a from rx)
 obtain⟨hz,hS,vs,rkv,m⟩:kvs.length<=sizeLine/\(a==sysModules)=false/\∃vs,KV kvs vs/\s.heap.DictOf (mixKind X.prog X.w) a vs:=I.hok a _ ha
 obtain⟨ep,da⟩:=m.dictAt
 have hlen:kvs.length=vs.length:=KV.length rkv
 refine Calls.call_function_entry kind_sorted plain_sorted entry_sorted (args_sorted1 _) ?_
 unfold Builtin.«sorted»
 refine wpAny_bind (m:=checkCount "sorted" 1 1 _) (wpAny_pure ?_)
 refine wpAny_bind (PySem.W.kdu_collect (A:=X.A.in1) (PySem.W.kdl_dict (kvs:=vs) (ep:=ep) hS) (I.ok.hd hc) da (by omega) fun h' tk acc hk' hacc=>?_)
 have I0:Inv X pins σ H {s with heap:=h',toks:=tk}:=I.kept hk'
 have hl:acc.toList.length=vs.length:=by rw[length_toList];exact hacc.1
 have kk:vs.map (·.1)=ks.map Sum.inr:=by rw[<-KV.keys rkv];exact hk
 have lk:vs.length=ks.length:=by have:=congrArg List.length kk;rw[length_map,length_map]at this;exact this
 have hI:StrsAre acc.toList ks:=by
  refine strsAre_vals (vals_ofS _ _ (by rw[hl];exact lk) fun j u hj=>?_)
  obtain⟨k,x,e1,e2⟩:=hacc.2 j u (by rw[<-getElem?_toList];exact hj)
  have e3:(vs.map (·.1))[j]?=some k:=by rw[getElem?_map,e1];rfl
  rw[kk,getElem?_map]at e3
  cases e4:ks[j]? with
  |none=>rw[e4]at e3;cases e3
  |some i=>
   rw[e4]at e3
   have e5:k=Sum.inr i:=by injection e3 with e3;exact e3.symm
   subst e5
   cases u with
   |str z t=>
    have e6:(z==i)=true:=e2
    exact⟨t,i,rfl,by rw[eq_of_beq e6]⟩
   |_=>exact absurd e2 (by intro z;cases z)
 refine wpAny_bind (wpAny_newList ?_ (by rw[hl,<-hlen];exact hz))
 have hoL:(h'.push (seqObj "list" acc.toList.toArray 0)).get? h'.objs.size=some (seqObj "list" acc.toList.toArray 0):=get?_push_size _ rfl
 refine wpAny_bind (wpAny_holding (wpAny_call_entry slot_list_sort ⟨_,hoL,rfl⟩ entry_list_sort (list_sort_treeK (κ:=strKind) strKind_oneLt (s:={s with heap:=h'.push (seqObj "list" acc.toList.toArray 0),toks:=tk}) hoL hI.keysOf (fun v₁ v₂ rest e=>keyKind_strs (by rw[<-e];exact hI)) (by rw[hl,lk];exact h64) fun st' hp hs=>⟨_,rfl,?_⟩) (args_list_sort _)))
 obtain⟨ns',a1,a2,a3⟩:=sorted_out_str hI hp hs
 generalize(arrOf st').map (·.2)=out at a1 ⊢
 obtain⟨e,he⟩:=sortedHeap_at (out:=out) hoL
 have old:∀b o,h'.get? b=some o->(sortedHeap (h'.push (seqObj "list" acc.toList.toArray 0)) h'.objs.size acc.toList out).get? b=some o:=fun b o eb=>by
  have lt:=lt_size eb
  rw[sortedHeap_old (h:=h'.push (seqObj "list" acc.toList.toArray 0)) (b:=b) (ne_of_lt lt) (by rw[size_push];exact lt_succ_of_lt lt)]
  exact get?_push_of_some _ eb
 refine wpAny_pure ⟨_,rfl,.ref h'.objs.size,_,I0.laid (a:=h'.objs.size) (t':=tk) (o:=.lst (ns'.map V.str)) old (Nat.le_refl _) ?_,rfl,q ns' _ a2 a3 (I0.hok.fresh (Nat.le_refl _))⟩
 refine⟨by rw[length_map,a2.length_eq,sizeLine_eq];omega,out.toList,e,vals_strsAre a1,?_⟩
 have e9:out.toList.toArray=out:=by simp
 rw[e9]
 exact he
end
structure KDict (P:Program)(w:World)(K:W.Frag)(a:Addr)(kvs:List (Key×V)):Prop where
 nsm:(a==sysModules)=false
 at_:∃vs,KV kvs vs/\∀h:Heap,K.In h->h.DictOf (mixKind P w) a vs
section
variable {X:Cx}
def rKIn (P:Program)(w:World)(K:W.Frag)(neg:Bool):R2:=fun x y H Q=>∃(a:Addr) (kvs:List (Key×V)) (k:Key),y=.ref a/\KDict P w K a kvs/\x=kV k/\Q (.bl (if neg then !(valV kvs k).isSome else(valV kvs k).isSome)) H
theorem op_notInKD:OpR X (compareOp .NotIn) (rKIn X.prog X.w X.K true):=by
 intro pins s σ H x y v u Q I rx ry h
 obtain⟨a,kvs,k,rfl,⟨hd,vs,rel,dd⟩,rfl,q⟩:=h
 cases ry
 refine wpAny_notIn_of (kV_is rx) hd (dd _ I.kIn).mapOf ?_
 rw[<-(rel.val k).isSome_eq]
 exact⟨.bl _,H,I.tok _,rfl,q⟩
def rKGet (P:Program)(w:World)(K:W.Frag):R2:=fun x y H Q=>∃(a:Addr) (kvs:List (Key×V)) (k:Key) (v:V),x=.ref a/\KDict P w K a kvs/\y=kV k/\valV kvs k=some v/\Q v H
theorem pe_kget {o i:Expr}{pos:Pos}{td ty:TE}(ho:PE X o td)(hi:PE X i ty)(hs:NoSl i):PE X (.Subscript o i pos) (tOp (rKGet X.prog X.w X.K) td ty):=by
 intro pins s σ H Q I h
 refine subD_of PySem.F.slot_dict_getitem.lookup hs (thn (ho pins s σ H _ I h) fun u s1 ⟨x,H1,I1,rx,q1⟩=>thn (hi pins s1 σ H1 _ I1 q1) fun iv s2 ⟨y,H2,I2,ry,a,kvs,k,v,ex,⟨hd,vs,rel,dd⟩,ey,l,q2⟩=>?_)
 subst ex
 subst ey
 obtain rfl:u=Value.ref a:=rx
 obtain⟨w',hw,rw'⟩:=RelO.some_of (v:=v) (o:=valueAt vs k) (by rw[<-l];exact rel.val k)
 exact⟨(dd _ I2.kIn).typeIs,wpAny_getItem_of (kV_is ry) (dd _ I2.kIn).mapOf hw ⟨v,H2,I2.tok _,rw',q2⟩⟩
end
open PySem.W
section
variable {prog:Program}{w:World}{A:Around}{E:Value->Shared->Prop}
theorem unp_star {s:Shared}{l:Addr}{x:Value}{its:List Value}{Q:List Value->Shared->Prop}(hh:A.handled=none)(b:s.heap.IsList l (x::its).toArray)(hz:its.length+1<=16384)(q:∀(g:Heap) (tk:Nat),(∀c o,s.heap.get? c=some o->g.get? c=some o)->Q [x,.ref g.objs.size] {s with heap:=g.push {cls:=.type "list",data:=.seq its.toArray},toks:=tk}):wpAny (model prog w) A (unpackItems (.ref l) 2 (some 1)) Q E s:=by
 have lt:l≠s.heap.objs.size:=by obtain⟨o,ho,_⟩:=b;exact ne_of_lt (lt_size ho)
 unfold unpackItems notIterableAtAll
 refine wpAny_bind (wpAny_bind (wpAny_specialOf b.typeIs slot_list_iter.lookup (wpAny_pure ?_)))
 show wpAny _ _ (holding [Value.ref l] (pyIter (.ref l)) >>= _) _ _ s
 refine wpAny_bind (wpAny_holding (wpAny_pyIter_list b ?_))
 refine wpAny_bind (wpAny_holding (draw_lst lt 1 0 _ _ ⟨_,get?_push_size _ rfl,rfl,rfl⟩ (b.push _) (by simp) fun g a1 sb=>?_))
 have b1:g.IsList l (x::its).toArray:=(b.push _).extBut sb.extBut lt
 have a1':=a1
 obtain⟨oi,hoi,_⟩:=a1'
 have b1':=b1
 obtain⟨ol,hol,_⟩:=b1'
 show wpAny _ _ (if([x]:List Value).length<1 then _ else _) _ _ _
 rw[if_neg (show ¬([x]:List Value).length<1 from lt_irrefl 1)]
 refine wpAny_bind (wpAny_holding (kun_collect (s:={s with heap:=g}) (T:="list_iterator") (.inr (.inr (.inl rfl))) (Walks.list (A:=A.in1) hh s.heap.objs.size l lt (x::its).toArray) (fun j u st=>st.1.typeIs) (k:=1) (by simp) ⟨a1,b1⟩ (lt_size hoi) (lt_size hol) (fun g2 tk hk=>?_) (by rw[size_toArray,sizeLine_eq];simp;omega)))
 show wpAny _ _ (if its.length<0 then _ else _) _ _ _
 rw[if_neg (Nat.not_lt_zero _)]
 show wpAny _ _ (newList (its.take (its.length - 0)) >>= fun d=>pure ([x]++[d]++its.drop (its.length - 0))) _ _ _
 rw[Nat.sub_zero,take_length,List.drop_length]
 refine wpAny_bind (wpAny_newList ?_ (by rw[sizeLine_eq];omega))
 exact wpAny_pure (q g2 tk fun c o e=>hk c o (ne_of_lt (lt_size e)) (sb.extBut c o (ne_of_lt (lt_size e)) (get?_push_of_some _ e)))
end
section
variable {X:Cx}{pos:Pos}
def gStar (K:W.Frag)(t:TGs):TG:=fun v σ H Q=>∃(a:Addr) (x:V) (xs:List V),v=.ref a/\SqL K H a (x::xs)/\xs.length+1<=16384/\∀D,H D=none->t [x,.ref D] σ (upd H D (.lst xs)) Q
theorem pg_star {e z:Expr}{k:Nat}{sp:Pos}{t:TGs}(hc:X.calm=true)(h:PGs X [e,z] t)(he:assignEach [e,.Starred z sp] X.env=[(false,assign e X.env),(true,assign z X.env)]:=by rfl)(hz:(assignEach [e,z] X.env).map (·.2)=[assign e X.env,assign z X.env]:=by rfl):PG X (.Tuple [e,.Starred z sp] k pos) (gStar X.K t):=by
 intro pins s σ H v u Q I r hw
 obtain⟨a,x,xs,e1,hq,hl,hw⟩:=hw
 subst e1
 cases r
 obtain⟨its,rv,pl,_⟩:=I.list hq
 cases rv with
 |cons rx rv=>
  rename_i ux its
  rw[assign_Tuple]
  refine wpAny_bind (wpAny_standAt ?_)
  unfold unpack
  rw[he]
  have li:=rv.length
  refine wpAny_bind (wpAny_holding (unp_star (I.ok.hd hc) pl.isList (by omega) fun g tk old=>?_))
  have I1:Inv X pins σ H {s with heap:=g,toks:=tk}:=I.kept (t':=tk) old
  have hn:H g.objs.size=none:=I1.hok.fresh (Nat.le_refl _)
  have I2:Inv X pins σ (upd H g.objs.size (.lst xs)) {s with heap:=g.push {cls:=.type "list",data:=.seq its.toArray},toks:=tk}:=
   I1.laid (a:=g.objs.size) (t':=tk) (o:=.lst xs) (fun b o e=>get?_push_of_some _ e) (Nat.le_refl _) ⟨by rw[sizeLine_eq];omega,its,0,rv,get?_push_size _ rfl⟩
  have fin:=h pins _ σ _ [x,.ref g.objs.size] [ux,.ref g.objs.size] Q I2 (.cons rx (.cons rfl .nil)) (hw _ hn)
  rw[hz]at fin
  exact fin
end
end L2
namespace BB
def bare (row:List Int):List Int:=row.filter fun p=>decide (p+1∉row)
def closedUp (row out:List Int):List Int:=(row.filter fun p=>decide (p∉out)).map fun p=>p - ((out.filter fun g=>decide (g<p)).length:Int)
def peel (row:List Int):List Int:=closedUp row (bare row++(bare row).map (· + 1))
theorem sel_list {α β:Type}(d:α)(l:List α)(q:α->Bool)(f:α->β):((List.range l.length).filter fun i=>q (l.getD i d)).map (fun i=>f (l.getD i d))=(l.filter q).map f:=by
 induction l with
 |nil=>rfl
 |cons a r ih=>
  rw[length_cons,List.range_succ_eq_map,List.filter_cons,List.filter_map,List.filter_cons]
  have e1:(a::r).getD 0 d=a:=rfl
  have e2:((fun i=>q ((a::r).getD i d))∘Nat.succ)=fun i=>q (r.getD i d):=rfl
  rw[e1,e2]
  cases hq:q a with
  |true=>
   simp only[if_true,map_cons,List.map_map]
   rw[show(List.map ((fun i=>f ((a::r).getD i d))∘Nat.succ) ((List.range r.length).filter fun i=>q (r.getD i d)))=((List.range r.length).filter fun i=>q (r.getD i d)).map fun i=>f (r.getD i d) from rfl,ih]
   rfl
  |false=>
   simp only[false_eq_true,if_false,List.map_map]
   rw[show(List.map ((fun i=>f ((a::r).getD i d))∘Nat.succ) ((List.range r.length).filter fun i=>q (r.getD i d)))=((List.range r.length).filter fun i=>q (r.getD i d)).map fun i=>f (r.getD i d) from rfl,ih]
def blk:List Int->List (Int×Int)
 |[]=>[]
 |p::r=>match blk r with
  |[]=>[(p,1)]
  |(q,n)::t=>if q=p+1 then(p,n+1)::t else(p,1)::(q,n)::t
theorem blk_head {p:Int}{r:List Int}:∃n t,blk (p::r)=(p,n)::t:=by
 unfold blk
 split
 ·exact⟨1,[],rfl⟩
 ·split
  ·exact⟨_,_,rfl⟩
  ·exact⟨_,_,rfl⟩
theorem blk_firsts:∀{r:List Int},r.Pairwise (· < ·)->∀(b:Int),(∀x∈r,b<x)->((b::r).filter fun p=>decide (p - 1∉b::r))=(blk (b::r)).map (·.1)
 |[],_,b,_=>by
  simp[blk]
  omega
 |p::r,up,b,hb=>by
  have up':=pairwise_cons.mp up
  have ih:=blk_firsts up'.2 p up'.1
  obtain⟨n,t,e⟩:=blk_head (p:=p) (r:=r)
  have bp:=hb p mem_cons_self
  have e2:blk (b::p::r)=if p=b+1 then(b,n+1)::t else(b,1)::(p,n)::t:=by
   conv=>lhs;unfold blk
   rw[e]
  have b1:b - 1∉b::p::r:=fun z=>by
   rcases mem_cons.mp z with z | z
   ·omega
   ·have:=hb _ z;omega
  have same:((p::r).filter fun x=>decide (x - 1∉b::p::r))=if p=b+1 then r.filter (fun x=>decide (x - 1∉p::r)) else(p::r).filter fun x=>decide (x - 1∉p::r):=by
   have out:∀x∈r,(x - 1∉b::p::r↔x - 1∉p::r):=fun x hx=>by
    have:=up'.1 x hx
    simp only[mem_cons,not_or]
    constructor
    ·intro z;exact z.2
    ·intro z
     refine⟨by omega,z⟩
   have rest:(r.filter fun x=>decide (x - 1∉b::p::r))=r.filter fun x=>decide (x - 1∉p::r):=List.filter_congr fun x hx=>by rw[decide_eq_decide];exact out x hx
   split
   ·rename_i c
    rw[filter_cons_of_neg (by subst c;simp),rest]
   ·rename_i c
    have p1:p - 1∉b::p::r:=fun z=>by
     rcases mem_cons.mp z with z | z
     ·omega
     ·rcases mem_cons.mp z with z | z
      ·omega
      ·have:=up'.1 _ z;omega
    have p2:p - 1∉p::r:=fun z=>p1 (mem_cons_of_mem _ z)
    rw[filter_cons_of_pos (by simpa using p1),filter_cons_of_pos (by simpa using p2),rest]
  rw[filter_cons_of_pos (by simpa using b1),same,e2]
  rw[e,map_cons]at ih
  have p2:p - 1∉p::r:=fun z=>by
   rcases mem_cons.mp z with z | z
   ·omega
   ·have:=up'.1 _ z;omega
  rw[filter_cons_of_pos (by simpa using p2)]at ih
  injection ih with _ ih
  split
  ·rw[map_cons,ih]
  ·rw[filter_cons_of_pos (by simpa using p2),ih]
   rfl
theorem blk_lasts:∀{r:List Int},r.Pairwise (· < ·)->∀(b:Int),(∀x∈r,b<x)->((b::r).filter fun p=>decide (p+1∉b::r))=(blk (b::r)).map fun q=>q.1+q.2 - 1
 |[],_,b,_=>by
  simp[blk]
  omega
 |p::r,up,b,hb=>by
  have up':=pairwise_cons.mp up
  have ih:=blk_lasts up'.2 p up'.1
  obtain⟨n,t,e⟩:=blk_head (p:=p) (r:=r)
  have bp:=hb p mem_cons_self
  have e2:blk (b::p::r)=if p=b+1 then(b,n+1)::t else(b,1)::(p,n)::t:=by
   conv=>lhs;unfold blk
   rw[e]
  have rest:((p::r).filter fun x=>decide (x+1∉b::p::r))=(p::r).filter fun x=>decide (x+1∉p::r):=List.filter_congr fun x hx=>by
   have:=hb x hx
   rw[decide_eq_decide]
   constructor
   ·intro z y;exact z (mem_cons_of_mem _ y)
   ·intro z y
    rcases mem_cons.mp y with y | y
    ·omega
    ·exact z y
  rw[e2]
  rw[e,map_cons]at ih
  split
  ·rename_i c
   rw[filter_cons_of_neg (by subst c;simp),rest,ih,map_cons]
   congr 1
   show p+n - 1=b+(n+1) - 1
   omega
  ·rename_i c
   have b1:b+1∉b::p::r:=fun z=>by
    rcases mem_cons.mp z with z | z
    ·omega
    ·rcases mem_cons.mp z with z | z
     ·omega
     ·have:=up'.1 _ z;omega
   rw[filter_cons_of_pos (by simpa using b1),rest,ih]
   show b::_=(b+1 - 1)::_
   rw[show b+1 - 1=b by omega]
   rfl
def pos:Int->List Nat->List Int
 |_,[]=>[]
 |x,g::r=>x::pos (x+1+(g:Int)) r
def pT:List Nat->Nat×List Nat
 |[]=>(0,[])
 |0::r=>(0,(pT r).1::(pT r).2)
 |(g+1)::r=>(g+(pT r).1,(pT r).2)
def tk:List Int->List Nat
 |[]=>[]
 |[_]=>[]
 |p::q::r=>(q - p - 1).toNat::tk (q::r)
def tg (s:Nat):Nat->List Nat->Nat
 |_,[]=>0
 |L,g::r=>if L<s then 1+tg s (L+1 - g) r else tg s (L - g) r
def rn:List Nat->Nat
 |[]=>0
 |0::r=>rn r
 |(_+1)::r=>1+rn r
def outs:Nat->List Int->List Int
 |0,_=>[]
 |n+1,row=>if row=[] then [] else((row.length:Int) - ((peel row).length:Int))::outs n (peel row)
def lens (cs:List Int):List Int:=(List.range (cs.headD 0).toNat).map fun(j:Nat)=>((cs.filter fun c=>decide ((j:Int)<c)).length:Int)
def tk1 (z L:Nat)(b:Bool):Nat:=if b=true/\L<z then 1 else 0
structure Rl (a b u v p q A B:Nat):Prop where
 e1:p+B=v+A
 e2:q+A=u+B
 a1:A<=u
 a2:A+v<=b
 a3:A=u\/A+v=b
 b1:B<=v
 b2:B+u<=a
 b3:B=v\/B+u=a
def tb (z:Nat):Nat->List Bool->Nat
 |_,[]=>0
 |L,b::r=>tk1 z L b+tb z (stp z L b).1 r
structure Nst (bl:List (Int×Int)):Prop where
 up:bl.Pairwise fun x y=>x.1<y.1
 lt:∀q∈bl,q.1<q.2
 nst:∀q∈bl,∀c∈bl,q.1<c.1->c.1<q.2->c.2<q.2
 box:∀q∈bl,∀c∈bl,q.1≠c.2
 one:∀q∈bl,∀c∈bl,q.2=c.2->q=c
def mx (l:List Nat):Nat:=l.foldr max 0
def dep:List (Int×Int)->(Int×Int)->Nat
 |[],_=>0
 |c::r,q=>if q=c then 1+mx ((r.filter fun e=>decide (e.2<c.2)).map (dep r)) else dep r q
def swp (q:Int×Int):Int×Int:=(q.2,q.1)
def nrm (z:Int×Int):Int×Int:=if z.1<z.2 then z else swp z
structure Mks (bl ml:List (Int×Int)):Prop where
 up:ml.Pairwise fun x y=>x.1<y.1
 mem:∀z,z∈ml↔z∈bl\/swp z∈bl
def left (bl ml:List (Int×Int))(n:Nat):List (Int×Int):=ml.filter fun z=>decide (n<=dep bl (nrm z))
end BB
namespace K96
open L2
def top (i:Nat):Stmt:=PySem.Challenge.pw_boxballs_k96_names_and_many_rows_at_a_de.main.body.getD i (.Pass ⟨0,0,0,0⟩)
abbrev s_is_number:Stmt:=top 8
theorem sc_is_number:FnScope ["thing","least","greatest"] ["thing","least","greatest"] (defScope s_is_number):=⟨rfl,rfl,rfl,by decide +kernel,rfl,by decide +kernel,by decide +kernel⟩
abbrev s_need_number:Stmt:=top 9
theorem sc_need_number:FnScope ["thing","least","greatest"] ["thing","least","greatest"] (defScope s_need_number):=⟨rfl,rfl,rfl,by decide +kernel,rfl,by decide +kernel,by decide +kernel⟩
abbrev s_is_rising:Stmt:=top 10
theorem sc_is_rising:FnScope ["numbers"] ["numbers"] (defScope s_is_rising):=⟨rfl,rfl,rfl,by decide +kernel,rfl,by decide +kernel,by decide +kernel⟩
abbrev s_carry:Stmt:=top 11
theorem sc_carry:FnScope ["row","size","behind","load","taken","box","place","laid"] ["row","size"] (defScope s_carry):=⟨rfl,rfl,rfl,by decide +kernel,rfl,by decide +kernel,by decide +kernel⟩
abbrev s_blocks_in:Stmt:=top 14
theorem sc_blocks_in:FnScope ["row","firsts","lasts"] ["row"] (defScope s_blocks_in):=⟨rfl,rfl,rfl,by decide +kernel,rfl,by decide +kernel,by decide +kernel⟩
abbrev s_carried_by:Stmt:=top 19
theorem sc_carried_by:FnScope ["row","size","behind","taken"] ["row","size"] (defScope s_carried_by):=⟨rfl,rfl,rfl,by decide +kernel,rfl,by decide +kernel,by decide +kernel⟩
abbrev s_takings:Stmt:=top 20
abbrev s_is_row:Stmt:=top 25
theorem sc_is_row:FnScope ["thing"] ["thing"] (defScope s_is_row):=⟨rfl,rfl,rfl,by decide +kernel,rfl,by decide +kernel,by decide +kernel⟩
abbrev s_carried:Stmt:=top 26
theorem sc_carried:FnScope ["row","behind","taken"] ["row"] (defScope s_carried):=⟨rfl,rfl,rfl,by decide +kernel,rfl,by decide +kernel,by decide +kernel⟩
abbrev s_later:Stmt:=top 28
theorem sc_later:FnScope ["row","steps","there","turn"] ["row","steps"] (defScope s_later):=⟨rfl,rfl,rfl,by decide +kernel,rfl,by decide +kernel,by decide +kernel⟩
abbrev s_is_free:Stmt:=top 31
theorem sc_is_free:FnScope ["row","found","first","many","start","following"] ["row"] (defScope s_is_free):=⟨rfl,rfl,rfl,by decide +kernel,rfl,by decide +kernel,by decide +kernel⟩
abbrev s_until_free:Stmt:=top 32
theorem sc_until_free:FnScope ["row","there","steps"] ["row"] (defScope s_until_free):=⟨rfl,rfl,rfl,by decide +kernel,rfl,by decide +kernel,by decide +kernel⟩
abbrev s_steps_to_free:Stmt:=top 33
theorem sc_steps_to_free:FnScope ["row","steps","there"] ["row"] (defScope s_steps_to_free):=⟨rfl,rfl,rfl,by decide +kernel,rfl,by decide +kernel,by decide +kernel⟩
abbrev s_number_read:Stmt:=top 39
theorem sc_number_read:FnScope ["text","figures","number"] ["text"] (defScope s_number_read):=⟨rfl,rfl,rfl,by decide +kernel,rfl,by decide +kernel,by decide +kernel⟩
abbrev s_row_text:Stmt:=top 40
theorem sc_row_text:FnScope ["row","signs"] ["row"] (defScope s_row_text):=⟨rfl,rfl,rfl,by decide +kernel,rfl,by decide +kernel,by decide +kernel⟩
abbrev s_row_read:Stmt:=top 41
theorem sc_row_read:FnScope ["text","first","mark","signs","start","row"] ["text"] (defScope s_row_read):=⟨rfl,rfl,rfl,by decide +kernel,rfl,by decide +kernel,by decide +kernel⟩
abbrev s_peeled:Stmt:=top 43
abbrev s_lengths:Stmt:=top 45
abbrev s_one_making:Stmt:=top 46
abbrev s_need_name:Stmt:=top 51
theorem sc_need_name:FnScope ["word"] ["word"] (defScope s_need_name):=⟨rfl,rfl,rfl,by decide +kernel,rfl,by decide +kernel,by decide +kernel⟩
abbrev s_part_read:Stmt:=top 52
theorem sc_part_read:FnScope ["form","word"] ["form","word"] (defScope s_part_read):=⟨rfl,rfl,rfl,by decide +kernel,rfl,by decide +kernel,by decide +kernel⟩
abbrev s_line_read:Stmt:=top 53
theorem sc_line_read:FnScope ["line","word","rest"] ["line"] (defScope s_line_read):=⟨rfl,rfl,rfl,by decide +kernel,rfl,by decide +kernel,by decide +kernel⟩
abbrev s_numbers_text:Stmt:=top 54
abbrev s_row_to_keep:Stmt:=top 55
theorem sc_row_to_keep:FnScope ["word","given"] ["word","given"] (defScope s_row_to_keep):=⟨rfl,rfl,rfl,by decide +kernel,rfl,by decide +kernel,by decide +kernel⟩
abbrev s_answer:Stmt:=top 56
theorem sc_answer:FnScope ["word","given","steps"] ["word","given"] (defScope s_answer):=⟨rfl,rfl,rfl,by decide +kernel,rfl,by decide +kernel,by decide +kernel⟩
abbrev s_L_cell_at:Stmt:=top 59
theorem sc_L_cell_at:FnScope ["_law_script","_law_k"] ["_law_script","_law_k"] (defScope s_L_cell_at):=⟨rfl,rfl,rfl,by decide +kernel,rfl,by decide +kernel,by decide +kernel⟩
abbrev s_L_state:Stmt:=top 60
theorem sc_L_state:FnScope ["_law_script","_law_k","_law_cell"] ["_law_script","_law_k"] (defScope s_L_state):=⟨rfl,rfl,rfl,by decide +kernel,rfl,by decide +kernel,by decide +kernel⟩
abbrev s_L_take:Stmt:=top 61
theorem sc_L_take:FnScope ["_law_state_here","_law_many","_law_found","_law_mixed"] ["_law_state_here","_law_many"] (defScope s_L_take):=⟨rfl,rfl,rfl,by decide +kernel,rfl,by decide +kernel,by decide +kernel⟩
abbrev s_L_refused:Stmt:=top 62
theorem sc_L_refused:FnScope ["_law_call","_law_error","e","_law_sorts"] ["_law_call"] (defScope s_L_refused):=⟨rfl,rfl,rfl,by decide +kernel,rfl,by decide +kernel,by decide +kernel⟩
abbrev s_L_row:Stmt:=top 63
theorem sc_L_row:FnScope ["_law_state_here","_law_gaps","_law_found","_law_place","_law_turn","_law_size","_law_ball"] ["_law_state_here","_law_gaps"] (defScope s_L_row):=⟨rfl,rfl,rfl,by decide +kernel,rfl,by decide +kernel,by decide +kernel⟩
abbrev s_L_row_text:Stmt:=top 64
theorem sc_L_row_text:FnScope ["_law_row_here","_law_signs"] ["_law_row_here"] (defScope s_L_row_text):=⟨rfl,rfl,rfl,by decide +kernel,rfl,by decide +kernel,by decide +kernel⟩
abbrev s_L_name:Stmt:=top 65
theorem sc_L_name:FnScope ["_law_state_here","_law_letters"] ["_law_state_here"] (defScope s_L_name):=⟨rfl,rfl,rfl,by decide +kernel,rfl,by decide +kernel,by decide +kernel⟩
abbrev s_L_spoiled:Stmt:=top 66
theorem sc_L_spoiled:FnScope ["_law_state_here","_law_name_here","_law_at","_law_signs","_law_sign","_law_some"] ["_law_state_here","_law_name_here"] (defScope s_L_spoiled):=⟨rfl,rfl,rfl,by decide +kernel,rfl,by decide +kernel,by decide +kernel⟩
abbrev s_L_named:Stmt:=top 67
theorem sc_L_named:FnScope ["_law_name_here","_law_other","_law_some"] ["_law_name_here","_law_other"] (defScope s_L_named):=⟨rfl,rfl,rfl,by decide +kernel,rfl,by decide +kernel,by decide +kernel⟩
abbrev s_L_no_text:Stmt:=top 68
theorem sc_L_no_text:FnScope ["_law_state_here","_law_text","_law_some"] ["_law_state_here","_law_text"] (defScope s_L_no_text):=⟨rfl,rfl,rfl,by decide +kernel,rfl,by decide +kernel,by decide +kernel⟩
abbrev s_L_blanks:Stmt:=top 69
theorem sc_L_blanks:FnScope ["_law_line","_law_at","_law_some"] ["_law_line"] (defScope s_L_blanks):=⟨rfl,rfl,rfl,by decide +kernel,rfl,by decide +kernel,by decide +kernel⟩
abbrev s_L_bad_lines:Stmt:=top 70
theorem sc_L_bad_lines:FnScope ["_law_state_here","_law_name_here","_law_bad","_law_lost","_law_text","_law_lines","_law_one","_law_word","_law_line"] ["_law_state_here","_law_name_here","_law_bad","_law_lost","_law_text"] (defScope s_L_bad_lines):=⟨rfl,rfl,rfl,by decide +kernel,rfl,by decide +kernel,by decide +kernel⟩
abbrev s_L_asked_right:Stmt:=top 71
theorem sc_L_asked_right:FnScope ["_law_desk","_law_name_here","_law_lost","_law_line","_law_word"] ["_law_desk","_law_name_here","_law_lost"] (defScope s_L_asked_right):=⟨rfl,rfl,rfl,by decide +kernel,rfl,by decide +kernel,by decide +kernel⟩
abbrev s_law:Stmt:=top 72
theorem sc_law:FnScope ["_law_script","_law_desk","_law_held","_law_letter","_law_name_here","_law_k","_law_state_here","_law_row_here","_law_text","_law_bad","_law_lost","_law_line"] ["_law_script"] (defScope s_law):=⟨rfl,rfl,rfl,by decide +kernel,rfl,by decide +kernel,by decide +kernel⟩
def Dok (x:Int)(b:Bool):Prop:=0<=x/\(b=false->x<2147483647)
def StAt (H:Hp)(a:Addr)(x:Int)(b:Bool):Prop:=H a=some (.lst [.int x,.bl b])/\Dok x b
def Keep (a:Addr)(H H':Hp):Prop:=∀c o,c≠a->H c=some o->H' c=some o
theorem at_ints {ns:List Int}{k:Int}(h0:0<=k)(h1:k<(ns.length:Int)):∃v:Int,atI (ns.map V.int) k=some (.int v)/\ns[k.toNat]?=some v:=by
 have hk:k.toNat<ns.length:=by omega
 have ek:((k.toNat:Nat):Int)=k:=by omega
 refine⟨ns[k.toNat],?_,List.getElem?_eq_getElem hk⟩
 have q:atI (ns.map V.int) ((k.toNat:Nat):Int)=some (.int ns[k.toNat]):=atI_nat (by rw[getElem?_map,List.getElem?_eq_getElem hk]<;>rfl)
 rw[ek]at q
 exact q
def spCell (K:W.Frag):Sp:=fun vs H Q _=>∃(a:Addr) (ns:List Int) (k:Int),vs=[.ref a,.int k]/\SqL K H a (ns.map V.int)/\0<=k/\∀c:Int,Q (.int c) H
def spState (K:W.Frag):Sp:=fun vs H Q _=>∃(a:Addr) (ns:List Int) (k:Int),vs=[.ref a,.int k]/\SqL K H a (ns.map V.int)/\0<=k/\
 ∀(r:Addr) (x:Int) (b:Bool),H r=none->Dok x b->Q (.ref r) (upd H r (.lst [.int x,.bl b]))
def spTake (K:W.Frag):Sp:=fun vs H Q _=>∃(a:Addr) (x:Int) (b:Bool) (m:Int),vs=[.ref a,.int m]/\StAt H a x b/\0<m/\m<1073741824/\
 ∀(v x':Int),0<=v->v<m->Dok x' b->Q (.int v) (upd H a (.lst [.int x',.bl b]))
section
variable {P:Program}{w:World}{K:W.Frag}{mg:Str->Option Value}{base:Heap}
theorem ok_L_cell_at {f:Addr}{fd:FuncData}(F:Fun K "_law_cell_at" "_law_cell_at" s_L_cell_at f fd)(nb:Nb mg)   :
 FnOk P w K mg base CX0 1 f fd ["_law_script","_law_k"] (spCell K):=by
 have nd:=sc_L_cell_at.nd
 refine F.ok (k:=0) sc_L_cell_at (fun vs H Q E h=>?_) (fun cdv A outer s H vs Q E hr h=>?_)
 ·obtain⟨a,ns,k,rfl,_⟩:=h
  rfl
 obtain⟨a,ns,k,rfl,hS,h0,q⟩:=h
 refine⟨_,(pss_cons (ps_if (pt_cmpR op_lt (pv 1) (pe_callB call_len_seq rfl nb.len PySem.boot_len (pa_cons (pv 0) pa_nil)) (nomark _))
  (pss_one (ps_ret (pe_ix ix_list (pv 0) (pv 1) (fun _ _=>rfl))))
  pss_nil)
 (pss_one (ps_ret pe_int))),?_⟩
 refine⟨_,rfl,_,rfl,a,_,rfl,.inl hS,_,_,rfl,rfl,_,rfl,?_⟩
 refine ite2 (fun c=>?_) (fun c=>?_)
 ·have c':k<(((ns.map V.int).length:Nat):Int):=of_decide_eq_true c
  rw[length_map]at c'
  obtain⟨v,q1,_⟩:=at_ints h0 c'
  exact⟨_,rfl,_,rfl,a,_,_,_,rfl,rfl,hS,q1,q _⟩
 ·exact q 0
theorem ok_L_state {f:Addr}{fd:FuncData}(F:Fun K "_law_state" "_law_state" s_L_state f fd)(nb:Nb mg)(h_L_cell_at:Has P w K mg base 1 "_law_cell_at" ["_law_script","_law_k"] (spCell K))  :
 FnOk P w K mg base CX0 2 f fd ["_law_script","_law_k"] (spState K):=by
 have nd:=sc_L_state.nd
 refine F.ok (k:=1) sc_L_state (fun vs H Q E h=>?_) (fun cdv A outer s H vs Q E hr h=>?_)
 ·obtain⟨a,ns,k,rfl,_⟩:=h
  rfl
 obtain⟨a,ns,k,rfl,hS,h0,q⟩:=h
 refine⟨_,(pss_cons (ps_set (i:=2) nd rfl (Or.inl rfl) (pe_def h_L_cell_at hr (pa_cons (pv 0) (pa_cons (pv 1) pa_nil))))
 (pss_cons (ps_if (pt_cmpR op_ge (pv 2) (pe_op op_pow pe_int pe_int) (nomark _))
  (pss_one (ps_ret (pe_lst (pa_cons (pe_op op_sub (pv 2) (pe_op op_pow pe_int pe_int)) (pa_cons pe_bl pa_nil)))))
  pss_nil)
 (pss_one (ps_ret (pe_lst (pa_cons (pe_op op_mod (pv 2) pe_int) (pa_cons pe_bl pa_nil))))))),?_⟩
 refine⟨_,rfl,_,rfl,a,ns,k,rfl,hS,h0,fun c=>?_⟩
 refine⟨_,rfl,_,_,rfl,rfl,⟨by decide,by decide,by decide⟩,_,_,rfl,rfl,_,rfl,?_⟩
 refine ite2 (fun z=>?_) (fun z=>?_)
 ·have z':(10:Int)^18<=c:=of_decide_eq_true z
  refine⟨_,rfl,_,_,rfl,rfl,⟨by decide,by decide,by decide⟩,_,_,rfl,rfl,(by show 2<=sizeLine;decide),fun r hr'=>q r _ true hr' ⟨?_,fun e=>by cases e⟩⟩
  show(0:Int)<=c - 10^18
  omega
 ·refine⟨_,rfl,_,_,rfl,rfl,(by show(0:Int)<2147483647;decide),(by show 2<=sizeLine;decide),fun r hr'=>q r _ false hr' ⟨?_,fun _=>?_⟩⟩
  ·exact emod_nonneg _ (by decide)
  ·exact emod_lt_of_pos _ (by decide)
theorem ok_L_take {f:Addr}{fd:FuncData}(F:Fun K "_law_take" "_law_take" s_L_take f fd)(nb:Nb mg)   :
 FnOk P w K mg base CX0 1 f fd ["_law_state_here","_law_many"] (spTake K):=by
 have nd:=sc_L_take.nd
 refine F.ok (k:=0) sc_L_take (fun vs H Q E h=>?_) (fun cdv A outer s H vs Q E hr h=>?_)
 ·obtain⟨a,x,b,m,rfl,_⟩:=h
  rfl
 obtain⟨a,x,b,m,rfl,⟨hS,d0,d1⟩,m0,m1,q⟩:=h
 refine⟨_,(pss_cons (ps_if (pt_truth (pe_ix ix_list (pv 0) pe_int (fun _ _=>rfl)) (fun _=>rfl))
  (pss_cons (ps_set (i:=2) nd rfl (Or.inl rfl) (pe_op op_mod (pe_ix ix_list (pv 0) pe_int (fun _ _=>rfl)) (pv 1)))
 (pss_cons (ps_asg (pe_op op_fdiv (pe_ix ix_list (pv 0) pe_int (fun _ _=>rfl)) (pv 1)) (pg_sub (pv 0) pe_int set_list))
 (pss_one (ps_ret (pv 2)))))
  pss_nil)
 (pss_cons (ps_asg (pe_op op_mod (pe_op op_add (pe_op op_mul (pe_ix ix_list (pv 0) pe_int (fun _ _=>rfl)) pe_int) pe_int) pe_int) (pg_sub (pv 0) pe_int set_list))
 (pss_cons (ps_set (i:=3) nd rfl (Or.inl rfl) (pe_op op_mod (pe_op op_add (pe_op op_add (pe_op op_mul (pe_ix ix_list (pv 0) pe_int (fun _ _=>rfl)) (pe_ix ix_list (pv 0) pe_int (fun _ _=>rfl))) (pe_op op_mul pe_int (pe_ix ix_list (pv 0) pe_int (fun _ _=>rfl)))) pe_int) pe_int))
 (pss_cons (ps_set (i:=3) nd rfl (Or.inl rfl) (pe_op op_mod (pe_op op_add (pe_op op_mul (pv 3) (pv 3)) (pe_op op_mul pe_int (pv 3))) pe_int))
 (pss_one (ps_ret (pe_op op_mod (pe_op op_fdiv (pv 3) pe_int) (pv 1)))))))),?_⟩
 refine⟨_,rfl,a,_,_,_,rfl,rfl,SqL.of hS,rfl,b,rfl,?_⟩
 cases b with
 |true=>
  refine iteT ?_
  refine⟨_,rfl,a,_,_,_,rfl,rfl,SqL.of hS,rfl,_,rfl,_,_,rfl,rfl,m0,?_⟩
  refine⟨_,rfl,a,_,_,_,rfl,rfl,SqL.of hS,rfl,_,rfl,_,_,rfl,rfl,⟨m0,m1⟩,?_⟩
  refine⟨_,rfl,a,_,_,0,rfl,rfl,hS,rfl,?_⟩
  refine⟨_,rfl,?_⟩
  exact q _ _ (emod_nonneg _ (by omega)) (emod_lt_of_pos _ m0) ⟨Int.ediv_nonneg d0 (by omega),fun e=>by cases e⟩
 |false=>
  refine iteF ?_
  have d2:=d1 rfl
  refine⟨_,rfl,a,_,_,_,rfl,rfl,SqL.of hS,rfl,_,_,rfl,rfl,.inl ⟨by omega,by omega⟩,_,_,rfl,rfl,_,_,rfl,rfl,(by show(0:Int)<2147483647;decide),?_⟩
  refine⟨_,rfl,a,_,_,0,rfl,rfl,hS,rfl,?_⟩
  have e0:(0:Int)<=(x*48271+29) % 2147483647:=emod_nonneg _ (by decide)
  have e1:(x*48271+29) % 2147483647<2147483647:=emod_lt_of_pos _ (by decide)
  refine⟨_,rfl,a,_,_,_,rfl,rfl,SqL.of upd_same,rfl,_,rfl,a,_,_,_,rfl,rfl,SqL.of upd_same,rfl,_,_,rfl,rfl,.inl ⟨by omega,by omega⟩,_,rfl,a,_,_,_,rfl,rfl,SqL.of upd_same,rfl,_,_,rfl,rfl,.inl ⟨by decide,by decide⟩,_,_,rfl,rfl,_,_,rfl,rfl,_,_,rfl,rfl,(by show(0:Int)<2147483629;decide),?_⟩
  refine⟨_,rfl,_,rfl,_,_,rfl,rfl,.inl ⟨?_,?_⟩,_,rfl,_,_,rfl,rfl,.inl ⟨by decide,by decide⟩,_,_,rfl,rfl,_,_,rfl,rfl,(by show(0:Int)<2147483587;decide),?_⟩
  ·exact Int.lt_of_lt_of_le (by decide) (emod_nonneg _ (by decide))
  ·exact Int.lt_trans (emod_lt_of_pos _ (by decide)) (by decide)
  refine⟨_,rfl,_,_,rfl,rfl,⟨by decide,by decide⟩,_,rfl,_,_,rfl,rfl,m0,?_⟩
  exact q _ _ (emod_nonneg _ (by omega)) (emod_lt_of_pos _ m0) ⟨e0,fun _=>e1⟩
end
end K96
namespace K96
open L2
def numB (lo hi:Int):V->Bool
 | .int i=>decide (lo<=i)&&decide (i<=hi)
 |_=>false
theorem kn_cases {H:Hp}{v:V}{T:String}(h:Kn H v T):(T="bool"/\∃b,v=.bl b)\/(T="int"/\∃i,v=.int i)\/(subT T "bool" = false/\subT T "int" = false/\∀lo hi,numB lo hi v=false):=by
 cases h with
 |bl b=>exact .inl ⟨rfl,b,rfl⟩
 |int i=>exact .inr (.inl ⟨rfl,i,rfl⟩)
 |_=>exact .inr (.inr ⟨by decide,by decide,fun _ _=>rfl⟩)
def spNum:Sp:=fun vs H Q _=>∃(v:V) (T:String) (lo hi:Int),vs=[v,.int lo,.int hi]/\Kn H v T/\Q (.bl (numB lo hi v)) H
def lts (ns:List Int):Nat->V:=fun i=>.bl (decide (ns.getD i 0<ns.getD (i+1) 0))
def riseB (ns:List Int):Bool:=(List.range (ns.length - 1)).all fun i=>decide (ns.getD i 0<ns.getD (i+1) 0)
def spRise:Sp:=fun vs H Q _=>∃(a:Addr) (ns:List Int),vs=[.ref a]/\H a=some (.tup (ns.map V.int))/\ns.length<=1000/\∀H',Same H H'->Q (.bl (riseB ns)) H'
theorem cut_from (xs:List V)(k:Nat):cutV xs (some (k:Int)) none=xs.drop k:=by
 unfold cutV
 rw[HT.sIx_nat,HT.sIx_none]
 by_cases h:k<=xs.length
 ·rw[Nat.min_eq_left h,take_of_length_le (by rw[length_drop];exact Nat.le_refl _)]
 ·rw[Nat.min_eq_right (by omega),drop_eq_nil_of_le (Nat.le_refl _),drop_eq_nil_of_le (by omega),List.take_nil]
theorem rise_list (ns:List Int):(List.range (ns.length - 1)).map (lts ns)=((List.range (ns.length - 1)).map fun i=>decide (ns.getD i 0<ns.getD (i+1) 0)).map V.bl:=by
 rw[List.map_map]
 rfl
theorem rise_all (ns:List Int):((List.range (ns.length - 1)).map fun i=>decide (ns.getD i 0<ns.getD (i+1) 0)).all id=riseB ns:=by
 unfold riseB
 rw[all_map]
 rfl
theorem getD_of {ns:List Int}{i:Nat}{v:Int}(h:(ns.map V.int)[i]?=some (.int v)):ns.getD i 0=v:=by
 rw[getElem?_map]at h
 cases e:ns[i]? with
 |none=>rw[e]at h;cases h
 |some z=>
  rw[e]at h
  have:z=v:=by simpa using h
  rw[getD_eq_getElem?_getD,e,this]
  rfl
theorem int_at {ns:List Int}{i:Nat}{x:V}(h:(ns.map V.int)[i]?=some x):∃v,x=.int v/\ns.getD i 0=v:=by
 have h':=h
 rw[getElem?_map]at h
 cases e:ns[i]? with
 |none=>rw[e]at h;cases h
 |some z=>
  rw[e]at h
  have:x=.int z:=by simpa using h.symm
  subst this
  exact⟨z,rfl,getD_of h'⟩
section
variable {P:Program}{w:World}{K:W.Frag}{mg:Str->Option Value}{base:Heap}
theorem ok_is_number {f:Addr}{fd:FuncData}(F:Fun K "is_number" "is_number" s_is_number f fd)(nb:Nb mg)   :
 FnOk P w K mg base CX0 1 f fd ["thing","least","greatest"] spNum:=by
 have nd:=sc_is_number.nd
 refine F.ok (k:=0) sc_is_number (fun vs H Q E h=>?_) (fun cdv A outer s H vs Q E hr h=>?_)
 ·obtain⟨v,T,lo,hi,rfl,_⟩:=h
  rfl
 obtain⟨v,T,lo,hi,rfl,hk,q⟩:=h
 refine⟨_,(pss_cons (ps_if (PW.pt (pw_or (pt_truth (pe_callB call_isi rfl nb.isi boot_isinstance (pa_cons (pv 0) (pa_cons (pe_ty nb.bool boot_bool) pa_nil))) (fun _=>rfl)) (pw_or1 (pt_not (pt_truth (pe_callB call_isi rfl nb.isi boot_isinstance (pa_cons (pv 0) (pa_cons (pe_ty nb.int boot_int) pa_nil))) (fun _=>rfl))))))
  (pss_one (ps_ret pe_bl))
  pss_nil)
 (pss_one (ps_ret (pe_chain op_le op_le (pv 1) (pv 0) (pv 2))))),?_⟩
 refine⟨_,rfl,_,_,_,rfl,hk,.inr (.inl rfl),_,rfl,?_⟩
 rcases kn_cases hk with⟨rfl,b,rfl⟩ | ⟨rfl,i,rfl⟩ | ⟨e1,e2,e3⟩
 ·exact iteT (iteT q)
 ·refine iteF ⟨_,rfl,_,_,_,rfl,hk,.inl rfl,_,rfl,iteF ?_⟩
  refine⟨_,rfl,_,rfl,_,_,rfl,rfl,_,rfl,?_⟩
  by_cases c:lo<=i
  ·rw[if_pos (decide_eq_true c)]
   refine⟨_,rfl,_,_,rfl,rfl,?_⟩
   have e:numB lo hi (.int i)=decide (i<=hi):=by show(decide (lo<=i)&&decide (i<=hi))=_;rw[decide_eq_true c,Bool.true_and]
   rw[e]at q
   exact q
  ·rw[if_neg (by rw[decide_eq_false c];decide)]
   have e:numB lo hi (.int i)=false:=by show(decide (lo<=i)&&decide (i<=hi))=_;rw[decide_eq_false c,Bool.false_and]
   rw[e]at q
   exact q
 ·rw[e1]
  refine iteF ⟨_,rfl,_,_,_,rfl,hk,.inl rfl,_,rfl,?_⟩
  rw[e2]
  rw[e3]at q
  exact iteT q
theorem ok_is_rising {f:Addr}{fd:FuncData}(F:Fun K "is_rising" "is_rising" s_is_rising f fd)(nb:Nb mg)   :
 FnOk P w K mg base CX0 1 f fd ["numbers"] spRise:=by
 have nd:=sc_is_rising.nd
 refine F.ok (k:=0) sc_is_rising (fun vs H Q E h=>?_) (fun cdv A outer s H vs Q E hr h=>?_)
 ·obtain⟨a,ns,rfl,_⟩:=h
  rfl
 obtain⟨a,ns,rfl,ha,hz,q⟩:=h
 refine⟨_,(pss_one (ps_ret (pe_callB (call_allB rfl) rfl nb.all boot_all (pa_cons (pe_comp2 (sc:=defScope s_is_rising) (N0:=["numbers"]) (N:=[]) (js:=[]) rfl rfl rfl (by constructor<;>first|decide +kernel|rfl) rfl rfl
  (pi_zip true rfl nb.zip (pa_cons (pv 0) (pa_cons (pe_slice sl_tupA (pv 0) (po_some pe_int) po_none) pa_nil)))
  (fun _ _ _ _ _=>by exact pts_nil)
  (fun _ _ _ _ _=>by exact(pe_cmpR op_lt (pv 0) (pv 1) (nomark _)))) pa_nil)))),?_⟩
 refine⟨_,rfl,_,rfl,_,rfl,a,_,rfl,ha,fun p H1 s1 hp=>?_⟩
 have hp':H1 p=some (.tup ((ns.drop 1).map V.int)):=by rw[hp,show((1:Int))=((1:Nat):Int) from rfl,cut_from,List.map_drop]
 have ha':=s1 _ _ ha
 refine⟨a,p,_,_,rfl,SqT.of ha',SqT.of hp',fun D hD=>?_⟩
 have hl:min (ns.map V.int).length ((ns.drop 1).map V.int).length=ns.length - 1:=by rw[length_map,length_map,length_drop];omega
 have im:=items_zip (K:=K) ha' hp'
 rw[hl]at im
 refine comp_go (ns.length - 1) (by rw[sizeLine_eq];omega) (lts ns) (fun σ=>∃o1 o2,σ=[o1,o2]) _ hD ⟨_,_,rfl⟩ im (fun i x σ' H2 hi s2 im' hσ R hR=>?_) (fun H' s' hD'=>?_)
 ·obtain⟨o1,o2,rfl⟩:=hσ
  obtain⟨r,y,z,rfl,hr',hy,hz'⟩:=im'
  obtain⟨v,rfl,ev⟩:=int_at hy
  rw[getElem?_map,getElem?_drop,<-getElem?_map,Nat.add_comm]at hz'
  obtain⟨u,rfl,eu⟩:=int_at hz'
  refine⟨r,_,rfl,SqT.of hr',rfl,_,_,rfl,_,_,rfl,rfl,?_⟩
  refine⟨_,rfl,_,rfl,_,_,rfl,rfl,hR _ _ _ ⟨_,_,rfl⟩ (Same.refl _) ?_⟩
  show V.bl (decide (v<u))=lts ns i
  unfold lts
  rw[ev,eu]
 ·rw[rise_list]at hD'
  refine⟨D,_,rfl,SqL.of hD',?_⟩
  rw[rise_all]
  exact q H' (s1.trans s')
end
end K96
namespace K96
open L2
def toI:V->Int
 | .int i=>i
 |_=>0
def rowB (xs:List V):Bool:=decide (xs.length<=12)&&(xs.all (numB (-1000000000) 1000000000)&&riseB (xs.map toI))
def rowO:Option HO->Bool
 |some (.tup xs)=>rowB xs
 |_=>false
def rowV (H:Hp):V->Bool
 | .ref a=>rowO (H a)
 |_=>false
theorem rowV_tup {H:Hp}{a:Addr}{xs:List V}(h:H a=some (.tup xs)):rowV H (.ref a)=rowB xs:=by
 show rowO (H a)=_
 rw[h]
 rfl
def due:Int->List V->Bool
 |_,[]=>true
 |l,x::r=>numB (-1000000000) 1000000000 x&&(decide (l<toI x)&&due (toI x) r)
theorem rise_two (a b:Int)(r:List Int):riseB (a::b::r)=(decide (a<b)&&riseB (b::r)):=by
 unfold riseB
 have e:(a::b::r).length - 1=(b::r).length - 1+1:=by simp
 rw[e,List.range_succ_eq_map,all_cons,all_map]
 rfl
theorem num_int {lo hi:Int}{x:V}(h:numB lo hi x=true):x=.int (toI x)/\lo<=toI x/\toI x<=hi:=by
 cases x with
 |int i=>
  have h':(decide (lo<=i)&&decide (i<=hi))=true:=h
  rw[and_eq_true,decide_eq_true_eq,decide_eq_true_eq]at h'
  exact⟨rfl,h'⟩
 |_=>cases h
structure Thing (H:Hp)(v:V):Prop where
 kn:∃T,Kn H v T
 it:∀a xs,v=.ref a->H a=some (.tup xs)->xs.length<=1000/\∀x∈xs,∃T,Kn H x T
theorem kn_same {H H':Hp}{v:V}{T:String}(s:Same H H')(h:Kn H v T):Kn H' v T:=by
 cases h with
 |non=>exact .non
 |bl b=>exact .bl b
 |int i=>exact .int i
 |str x=>exact .str x
 |lst e=>exact .lst (s _ _ e)
 |tup e=>exact .tup (s _ _ e)
 |dK e=>exact .dK (s _ _ e)
theorem kn_tuple {H:Hp}{v:V}{T:String}(h:Kn H v T):(T="tuple"/\∃a xs,v=.ref a/\H a=some (.tup xs))\/(subT T "tuple" = false/\rowV H v=false):=by
 cases h with
 |tup e=>exact .inl ⟨rfl,_,_,rfl,e⟩
 |lst e=>exact .inr ⟨by decide,by show rowO (H _)=false;rw[e];rfl⟩
 |dK e=>exact .inr ⟨by decide,by show rowO (H _)=false;rw[e];rfl⟩
 |_=>exact .inr ⟨by decide,rfl⟩
def spIsRow:Sp:=fun vs H Q _=>∃v:V,vs=[v]/\Thing H v/\∀H',Same H H'->Q (.bl (rowV H v)) H'
theorem map_getD (xs:List V)(f:V->V):(List.range xs.length).map (fun i=>f (xs.getD i .non))=xs.map f:=by
 apply ext_getElem?
 intro i
 rw[getElem?_map,getElem?_map]
 by_cases h:i<xs.length
 ·rw[getElem?_range h,List.getElem?_eq_getElem h]
  show some (f (xs.getD i .non))=some (f xs[i])
  rw[getD_eq_getElem?_getD,List.getElem?_eq_getElem h]
  rfl
 ·rw[List.getElem?_eq_none (by simpa using h),List.getElem?_eq_none (by omega)]
  rfl
theorem getD_some {xs:List V}{i:Nat}{x:V}(h:xs[i]?=some x):xs.getD i .non=x:=by
 rw[getD_eq_getElem?_getD,h]
 rfl
section
variable {P:Program}{w:World}{K:W.Frag}{mg:Str->Option Value}{base:Heap}
theorem ok_is_row {f:Addr}{fd:FuncData}(F:Fun K "is_row" "is_row" s_is_row f fd)(nb:Nb mg)(h_is_number:Has P w K mg base 1 "is_number" ["thing","least","greatest"] spNum)(h_is_rising:Has P w K mg base 1 "is_rising" ["numbers"] spRise)(c_MOST_BALLS:∃u,mg "MOST_BALLS" = some u/\RelV (.int 12) u)(c_FARTHEST:∃u,mg "FARTHEST" = some u/\RelV (.int 1000000000) u) :
 FnOk P w K mg base CX0 2 f fd ["thing"] spIsRow:=by
 have nd:=sc_is_row.nd
 refine F.ok (k:=1) sc_is_row (fun vs H Q E h=>?_) (fun cdv A outer s H vs Q E hr h=>?_)
 ·obtain⟨v,rfl,_⟩:=h
  rfl
 obtain⟨v,rfl,⟨⟨T,hk⟩,hit⟩,q⟩:=h
 refine⟨_,(pss_cons (ps_if (PW.pt (pw_or (pt_not (pt_truth (pe_callB call_isi rfl nb.isi boot_isinstance (pa_cons (pv 0) (pa_cons (pe_ty nb.tuple boot_tuple) pa_nil))) (fun _=>rfl))) (pw_or1 (pt_cmpR op_gt (pe_callB call_len_seq rfl nb.len PySem.boot_len (pa_cons (pv 0) pa_nil)) (pe_const c_MOST_BALLS) (nomark _)))))
  (pss_one (ps_ret pe_bl))
  pss_nil)
 (pss_cons (ps_if (pt_not (pt_truth (pe_callB (call_allB rfl) rfl nb.all boot_all (pa_cons (pe_comp1 (sc:=defScope s_is_row) (N0:=["thing"]) (N:=[]) (js:=[]) rfl rfl rfl (by constructor<;>first|decide +kernel|rfl) rfl
  (pi_tup (pv 0))
  (fun _ _ _ _ _=>by exact pts_nil)
  (fun _ _ _ _ _=>by exact(pe_def h_is_number hr (pa_cons (pv 0) (pa_cons (pe_un un_neg (pe_const c_FARTHEST)) (pa_cons (pe_const c_FARTHEST) pa_nil)))))) pa_nil)) (fun _=>rfl)))
  (pss_one (ps_ret pe_bl))
  pss_nil)
 (pss_one (ps_ret (pe_def h_is_rising hr (pa_cons (pv 0) pa_nil)))))),?_⟩
 refine⟨_,rfl,_,_,_,rfl,hk,.inr (.inr (.inl rfl)),_,rfl,?_⟩
 rcases kn_tuple hk with⟨rfl,a,xs,rfl,ha⟩ | ⟨e1,e2⟩
 ·obtain⟨hz,hx⟩:=hit a xs rfl ha
  have er:=rowV_tup ha
  rw[er]at q
  refine iteF ⟨_,rfl,a,xs,rfl,.inr (SqT.of ha),_,_,rfl,rfl,_,rfl,?_⟩
  refine ite2 (fun c=>?_) (fun c=>?_)
  ·have c':(12:Int)<((xs.length:Nat):Int):=of_decide_eq_true c
   have e:rowB xs=false:=by unfold rowB;rw[decide_eq_false (by omega),Bool.false_and]
   rw[e]at q
   exact q H (Same.refl H)
  ·have c':¬(12:Int)<((xs.length:Nat):Int):=of_decide_eq_false (eq_false_iff.mpr c)
   refine⟨_,rfl,a,rfl,⟨_,SqT.of ha⟩,fun D hD=>?_⟩
   refine comp_go xs.length (by rw[sizeLine_eq];omega) (fun i=>.bl (numB (-1000000000) 1000000000 (xs.getD i .non))) (fun σ=>∃o1,σ=[o1]) _ hD (by exact⟨_,rfl⟩) (items_tup ha) (fun i x σ' H2 hi s2 im hσ R hR=>?_) (fun H' s' hD'=>?_)
   ·obtain⟨o1,rfl⟩:=hσ
    obtain⟨T',kx⟩:=hx x (mem_of_getElem? im)
    refine⟨_,rfl,_,rfl,x,T',-1000000000,1000000000,rfl,kn_same s2 kx,hR _ _ _ ⟨_,rfl⟩ (Same.refl _) ?_⟩
    rw[getD_some im]
   ·rw[map_getD xs (fun x=>V.bl (numB (-1000000000) 1000000000 x)),show xs.map (fun x=>V.bl (numB (-1000000000) 1000000000 x))=(xs.map (numB (-1000000000) 1000000000)).map V.bl by rw[List.map_map];rfl]at hD'
    refine⟨D,_,rfl,SqL.of hD',_,rfl,?_⟩
    have ea:(xs.map (numB (-1000000000) 1000000000)).all id=xs.all (numB (-1000000000) 1000000000):=by rw[all_map];rfl
    rw[ea]
    by_cases d:xs.all (numB (-1000000000) 1000000000)=true
    ·rw[d]
     have ex:xs=(xs.map toI).map V.int:=by
      rw[List.map_map]
      refine(List.map_id xs).symm.trans (map_congr_left fun x hx'=>?_)
      exact(num_int (all_eq_true.mp d x hx')).1
     have e:rowB xs=riseB (xs.map toI):=by unfold rowB;rw[decide_eq_true (by omega),d];rfl
     rw[e]at q
     refine iteF ⟨_,rfl,a,xs.map toI,rfl,by rw[<-ex];exact s' _ _ ha,by rw[length_map];exact hz,fun H3 s3=>q H3 (s'.trans s3)⟩
    ·have d':=eq_false_iff.mpr d
     rw[d']
     have e:rowB xs=false:=by unfold rowB;rw[d'];cases decide (xs.length<=12)<;>rfl
     rw[e]at q
     exact iteT (q H' s')
 ·rw[e1]
  rw[e2]at q
  exact iteT (iteT (q H (Same.refl H)))
end
end K96
namespace K96
open L2
theorem at_mem {xs:List V}{k:Int}(h0:0<=k)(h1:k<(xs.length:Int)):∃u,atI xs k=some u/\u∈xs/\xs[k.toNat]?=some u:=by
 have hk:k.toNat<xs.length:=by omega
 have ek:((k.toNat:Nat):Int)=k:=by omega
 have q:atI xs ((k.toNat:Nat):Int)=some xs[k.toNat]:=atI_nat (List.getElem?_eq_getElem hk)
 rw[ek]at q
 exact⟨xs[k.toNat],q,getElem_mem hk,List.getElem?_eq_getElem hk⟩
theorem Keep.refl (a:Addr)(H:Hp):Keep a H H:=fun _ _ _ h=>h
theorem Keep.trans {a:Addr}{H H1 H2:Hp}(k:Keep a H H1)(k':Keep a H1 H2):Keep a H H2:=fun c o n h=>k' c o n (k c o n h)
theorem Keep.same {a:Addr}{H H1 H2:Hp}(k:Keep a H H1)(s:Same H1 H2):Keep a H H2:=fun c o n h=>s c o (k c o n h)
theorem keep_upd (a:Addr)(H:Hp)(o:HO):Keep a H (upd H a o):=fun c u n h=>by rw[upd_ne n];exact h
theorem StAt.same {H H':Hp}{a:Addr}{x:Int}{b:Bool}(h:StAt H a x b)(s:Same H H'):StAt H' a x b:=⟨s _ _ h.1,h.2⟩
theorem StAt.upd {H:Hp}{a:Addr}{x':Int}{b:Bool}(d:Dok x' b):StAt (L2.upd H a (.lst [.int x',.bl b])) a x' b:=⟨upd_same,d⟩
theorem ints_ne {ns:List Int}{x:Int}{b:Bool}:HO.lst (ns.map V.int)≠HO.lst [.int x,.bl b]:=by
 intro e
 have e':ns.map V.int=[.int x,.bl b]:=by injection e
 cases ns with
 |nil=>cases e'
 |cons n r=>cases r with
  |nil=>cases e'
  |cons m r=>cases e'
structure RowOk (row:List Int):Prop where
 len:row.length<=12
 up:row.Pairwise (· < ·)
 bd:∀p∈row,-20<=p/\p<=105
structure RI (gs:List Int)(H0:Hp)(a g f:Addr)(b:Bool)(H:Hp)(place bd:Int):Prop where
 st:∃x,StAt H a x b
 kp:Keep a H0 H
 gg:H g=some (.lst (gs.map V.int))
 ff:∃row:List Int,H f=some (.lst (row.map V.int))/\row.length<=12/\row.Pairwise (· < ·)/\∀p∈row,-20<=p/\p<place
 lo:-20<=place
 hi:place<=bd
 fa:f≠a
 ga:g≠a
 f0:H0 f=none
 fg:g≠f
theorem RI.take {gs:List Int}{H0 H:Hp}{a g f:Addr}{b:Bool}{place bd x':Int}(r:RI gs H0 a g f b H place bd)(d:Dok x' b):RI gs H0 a g f b (upd H a (.lst [.int x',.bl b])) place bd:=by
 refine⟨⟨x',StAt.upd d⟩,r.kp.trans (keep_upd a H _),by rw[upd_ne r.ga];exact r.gg,?_,r.lo,r.hi,r.fa,r.ga,r.f0,r.fg⟩
 obtain⟨row,h,z⟩:=r.ff
 exact⟨row,by rw[upd_ne r.fa];exact h,z⟩
theorem RI.new {gs:List Int}{H0 H:Hp}{a g f p:Addr}{b:Bool}{place bd:Int}{o:HO}(r:RI gs H0 a g f b H place bd)(hp:H p=none):RI gs H0 a g f b (upd H p o) place bd:=by
 have s:=same_new hp o
 obtain⟨row,h,z⟩:=r.ff
 obtain⟨x,hx⟩:=r.st
 exact⟨⟨x,hx.same s⟩,r.kp.same s,s _ _ r.gg,⟨row,s _ _ h,z⟩,r.lo,r.hi,r.fa,r.ga,r.f0,r.fg⟩
theorem RI.go {gs:List Int}{H0 H:Hp}{a g f:Addr}{b:Bool}{place bd p' bd':Int}(r:RI gs H0 a g f b H place bd)(h1:place<=p')(h2:p'<=bd'):RI gs H0 a g f b H p' bd':=by
 obtain⟨row,h,z1,z2,z3⟩:=r.ff
 exact⟨r.st,r.kp,r.gg,⟨row,h,z1,z2,fun p hp=>⟨(z3 p hp).1,by have:=(z3 p hp).2;omega⟩⟩,by have:=r.lo;omega,h2,r.fa,r.ga,r.f0,r.fg⟩
theorem RI.app {gs:List Int}{H0 H:Hp}{a g f:Addr}{b:Bool}{place bd:Int}{row:List Int}(r:RI gs H0 a g f b H place bd)(h:H f=some (.lst (row.map V.int)))(z1:row.length<12)(z2:row.Pairwise (· < ·))(z3:∀p∈row,-20<=p/\p<place) :
 RI gs H0 a g f b (upd H f (.lst (row.map V.int++[.int place]))) (place+1) (bd+1):=by
 obtain⟨x,hx⟩:=r.st
 refine⟨⟨x,?_,hx.2⟩,fun c o n hc=>?_,by rw[upd_ne r.fg];exact r.gg,⟨row++[place],?_,?_,?_,?_⟩,by have:=r.lo;omega,by have:=r.hi;omega,r.fa,r.ga,r.f0,r.fg⟩
 ·rw[upd_ne (Ne.symm r.fa)];exact hx.1
 ·rw[upd_ne (ne_of_none hc r.f0)];exact r.kp c o n hc
 ·rw[upd_same,map_append];rfl
 ·rw[length_append,length_singleton];omega
 ·exact List.pairwise_append.mpr ⟨z2,List.pairwise_singleton _ _,fun p hp q hq=>by
   have:q=place:=by simpa using hq
   rw[this];exact(z3 p hp).2⟩
 ·intro p hp
  rcases mem_append.mp hp with h' | h'
  ·have:=z3 p h';omega
  ·have:p=place:=by simpa using h'
   have:=r.lo;omega
structure GOk (gs:List Int):Prop where
 l0:0<gs.length
 l1:gs.length<=12
 bd:∀z∈gs,2<=z/\z<=12
def spRow:Sp:=fun vs H Q _=>∃(a g:Addr) (x:Int) (b:Bool) (gs:List Int),vs=[.ref a,.ref g]/\StAt H a x b/\H g=some (.lst (gs.map V.int))/\GOk gs/\
 ∀(r:Addr) (row:List Int) (H':Hp) (x':Int),Keep a H H'->StAt H' a x' b->H' r=some (.tup (row.map V.int))->RowOk row->Q (.ref r) H'
section
variable {P:Program}{w:World}{K:W.Frag}{mg:Str->Option Value}{base:Heap}
theorem ok_L_row {f:Addr}{fd:FuncData}(F:Fun K "_law_row" "_law_row" s_L_row f fd)(nb:Nb mg)(h_L_take:Has P w K mg base 1 "_law_take" ["_law_state_here","_law_many"] (spTake K))  :
 FnOk P w K mg base CX0 2 f fd ["_law_state_here","_law_gaps"] spRow:=by
 have nd:=sc_L_row.nd
 refine F.ok (k:=1) sc_L_row (fun vs H Q E h=>?_) (fun cdv A outer s H vs Q E hr h=>?_)
 ·obtain⟨a,g,x,b,gs,rfl,_⟩:=h
  rfl
 obtain⟨a,g,x,b,gs,rfl,hS,hg,gk,q⟩:=h
 have gl0:=gk.l0
 have gl1:=gk.l1
 refine⟨_,(pss_cons (ps_set (i:=2) nd rfl (Or.inl rfl) (pe_lst pa_nil))
 (pss_cons (ps_set (i:=3) nd rfl (Or.inl rfl) (pe_ix ix_list (pe_lst (pa_cons pe_int (pa_cons (pe_un un_neg pe_int) (pa_cons (pe_op op_sub (pe_def h_L_take hr (pa_cons (pv 0) (pa_cons pe_int pa_nil))) pe_int) pa_nil)))) (pe_def h_L_take hr (pa_cons (pv 0) (pa_cons pe_int pa_nil))) (fun _ _=>rfl)))
 (pss_cons (ps_for PassesOwn.never rfl (pi_range1 rfl nb.range (pa_cons (pe_def h_L_take hr (pa_cons (pv 0) (pa_cons pe_int pa_nil))) pa_nil)) (pg_name (i:=4) nd rfl (Or.inl rfl))
  (pss_cons (ps_set (i:=5) nd rfl (Or.inl rfl) (pe_op op_add pe_int (pe_def h_L_take hr (pa_cons (pv 0) (pa_cons (pe_ix ix_list (pe_lst (pa_cons pe_int (pa_cons pe_int (pa_cons pe_int pa_nil)))) (pe_def h_L_take hr (pa_cons (pv 0) (pa_cons pe_int pa_nil))) (fun _ _=>rfl)) pa_nil)))))
 (pss_cons (ps_for PassesOwn.never rfl (pi_range1 rfl nb.range (pa_cons (pv 5) pa_nil)) (pg_name (i:=6) nd rfl (Or.inl rfl))
  (pss_cons (ps_if (pt_cmpR op_lt (pe_callB call_len_seq rfl nb.len PySem.boot_len (pa_cons (pv 2) pa_nil)) pe_int (nomark _))
  (pss_one (ps_expr (pe_bm plainAttrs_list PySem.F.slot_list_append PySem.F.type_list_append mt_append (pv 2) (pa_cons (pv 3) pa_nil))))
  pss_nil)
 (pss_one (ps_set (i:=3) nd rfl (Or.inl rfl) (pe_op op_add (pv 3) pe_int)))))
 (pss_one (ps_set (i:=3) nd rfl (Or.inl rfl) (pe_op op_add (pe_op op_add (pv 3) pe_int) (pe_def h_L_take hr (pa_cons (pv 0) (pa_cons (pe_ix ix_list (pv 1) (pe_def h_L_take hr (pa_cons (pv 0) (pa_cons (pe_callB call_len_seq rfl nb.len PySem.boot_len (pa_cons (pv 1) pa_nil)) pa_nil))) (fun _ _=>rfl)) pa_nil)))))))))
 (pss_one (ps_ret (pe_callTy call_tuple_of rfl nb.tuple boot_tuple (pa_cons (pv 2) pa_nil))))))),?_⟩
 refine⟨(by show 0<=sizeLine;decide),fun f hf=>?_⟩
 have fa:f≠a:=(ne_of_none hS.1 hf).symm
 have fg:g≠f:=ne_of_none hg hf
 have ga:g≠a:=ne_of hg hS.1 (ints_ne (ns:=gs))
 have r0:RI gs H a g f b (upd H f (.lst [])) (-20) 20:=⟨⟨x,hS.same (same_new hf _)⟩,(Keep.refl a H).same (same_new hf _),same_new hf _ _ _ hg,⟨[],upd_same,by simp,.nil,fun p hp=>absurd hp (by simp)⟩,by omega,by omega,fa,ga,hf,fg⟩
 obtain⟨x1,st1⟩:=r0.st
 refine⟨_,rfl,_,rfl,a,x1,b,41,rfl,st1,by decide,by decide,fun v1 x2 v10 v11 d2=>?_⟩
 have r1:=r0.take d2
 refine⟨_,_,rfl,rfl,(by show 3<=sizeLine;decide),fun p hp=>?_⟩
 have r2:=r1.new (o:=.lst [.int 0,.int (-7),.int (v1 - 20)]) hp
 obtain⟨x3,st3⟩:=r2.st
 refine⟨_,rfl,a,x3,b,3,rfl,st3,by decide,by decide,fun v2 x4 v20 v21 d4=>?_⟩
 have r3:=r2.take d4
 have pa:p≠a:=fun e=>by
  obtain⟨x5,st5⟩:=r1.st
  rw[e,st5.1]at hp;cases hp
 obtain⟨u,hu,um,_⟩:=at_mem (xs:=[.int 0,.int (-7),.int (v1 - 20)]) v20 (by simpa using v21)
 have hpl:∃pl:Int,u=.int pl/\-20<=pl/\pl<=20:=by
  simp only[mem_cons,not_mem_nil,or_false]at um
  rcases um with rfl | rfl | rfl
  ·exact⟨_,rfl,by omega,by omega⟩
  ·exact⟨_,rfl,by omega,by omega⟩
  ·exact⟨_,rfl,by omega,by omega⟩
 obtain⟨pl,rfl,pl0,pl1⟩:=hpl
 refine⟨p,_,_,_,rfl,rfl,SqL.of (by rw[upd_ne pa];exact upd_same),hu,?_⟩
 have r4:=r3.go (p':=pl) (bd':=20) pl0 pl1
 obtain⟨x6,st6⟩:=r4.st
 refine⟨_,rfl,a,x6,b,6,rfl,st6,by decide,by decide,fun v3 x7 v30 v31 d7=>?_⟩
 have r5:=r4.take d7
 refine⟨v3,rfl,by omega,by omega,?_⟩
 refine for_range (fun i σ H'=>∃(pl:Int) (o1 o2 o3:Option V),σ=[some (.ref a),some (.ref g),some (.ref f),some (.int pl),o1,o2,o3]/\RI gs H a g f b H' pl (20+17*(i:Int))) ⟨pl,none,none,none,rfl,by simpa using r5⟩ (fun i σ H' hi hp'=>?_) (fun σ H' hp'=>?_)
 ·obtain⟨pl,o1,o2,o3,rfl,r⟩:=hp'
  obtain⟨y1,s1⟩:=r.st
  refine⟨_,rfl,(by show 3<=sizeLine;decide),fun p2 hp2=>?_⟩
  have ra:=r.new (o:=.lst [.int 2,.int 3,.int 5]) hp2
  obtain⟨y2,s2⟩:=ra.st
  refine⟨_,rfl,a,y2,b,3,rfl,s2,by decide,by decide,fun w1 y3 w10 w11 e3=>?_⟩
  have rb:=ra.take e3
  have pa2:p2≠a:=fun e=>by rw[e,s1.1]at hp2;cases hp2
  obtain⟨u2,hu2,um2,_⟩:=at_mem (xs:=[.int 2,.int 3,.int 5]) w10 (by simpa using w11)
  have hsz:∃z:Int,u2=.int z/\2<=z/\z<=5:=by
   simp only[mem_cons,not_mem_nil,or_false]at um2
   rcases um2 with rfl | rfl | rfl<;>exact⟨_,rfl,by decide,by decide⟩
  obtain⟨z,rfl,z0,z1⟩:=hsz
  refine⟨p2,_,_,_,rfl,rfl,SqL.of (by rw[upd_ne pa2];exact upd_same),hu2,?_⟩
  obtain⟨y4,s4⟩:=rb.st
  refine⟨a,y4,b,z,rfl,s4,by omega,by omega,fun w2 y5 w20 w21 e5=>?_⟩
  have rc:=rb.take e5
  refine⟨_,_,rfl,rfl,?_⟩
  refine⟨_,rfl,_,rfl,by omega,by omega,?_⟩
  have en:((1+w2).toNat:Int)=1+w2:=by omega
  refine for_range (fun j σ H'=>∃(pl':Int) (o3:Option V),σ=[some (.ref a),some (.ref g),some (.ref f),some (.int pl'),some (.int (0+(i:Int))),some (.int (1+w2)),o3]/\RI gs H a g f b H' pl' (20+17*(i:Int)+(j:Int))) ⟨pl,o3,rfl,by simpa using rc⟩ (fun j σ H' hj hp'=>?_) (fun σ H' hp'=>?_)
  ·obtain⟨pl',o3,rfl,r⟩:=hp'
   obtain⟨row,hrow,z1',z2',z3'⟩:=r.ff
   refine⟨_,rfl,f,_,rfl,.inl (SqL.of hrow),_,_,rfl,rfl,_,rfl,?_⟩
   refine ite2 (fun c=>?_) (fun c=>?_)
   ·have c':(((row.map V.int).length:Nat):Int)<12:=of_decide_eq_true c
    rw[length_map]at c'
    refine⟨_,rfl,.inl ⟨rfl,_,SqL.of hrow⟩,_,rfl,f,_,_,rfl,rfl,hrow,by rw[length_map,sizeLine_eq];omega,?_⟩
    refine⟨_,rfl,_,_,rfl,rfl,pl'+1,_,rfl,?_⟩
    have:=r.app hrow (by omega) z2' z3'
    rw[natCast_add,<-Int.add_assoc]
    exact this
   ·refine⟨_,rfl,_,_,rfl,rfl,pl'+1,_,rfl,?_⟩
    refine r.go (by omega) ?_
    have:=r.hi
    rw[natCast_add];omega
  ·obtain⟨pl',o3,rfl,r⟩:=hp'
   refine⟨_,rfl,_,_,rfl,rfl,_,rfl,_,rfl,_,rfl,_,rfl,g,_,rfl,.inl (SqL.of r.gg),?_⟩
   obtain⟨y6,s6⟩:=r.st
   refine⟨a,y6,b,_,rfl,s6,by show(0:Int)<((gs.map V.int).length:Int);rw[length_map];omega,by show((gs.map V.int).length:Int)<1073741824;rw[length_map];omega,fun w3 y7 w30 w31 e7=>?_⟩
   have rd:=r.take e7
   obtain⟨u3,hu3,um3,_⟩:=at_mem (xs:=gs.map V.int) w30 (by simpa using w31)
   have hgp:∃z:Int,u3=.int z/\2<=z/\z<=12:=by
    obtain⟨z,hz,rfl⟩:=mem_map.mp um3
    exact⟨z,rfl,gk.bd z hz⟩
   obtain⟨gp,rfl,g0,g1⟩:=hgp
   refine⟨g,_,_,_,rfl,rfl,SqL.of rd.gg,hu3,?_⟩
   obtain⟨y8,s8⟩:=rd.st
   refine⟨a,y8,b,gp,rfl,s8,by omega,by omega,fun w4 y9 w40 w41 e9=>?_⟩
   have re:=rd.take e9
   refine⟨_,_,rfl,rfl,_,_,_,_,rfl,re.go (by omega) ?_⟩
   have:=r.hi
   rw[en]at this
   rw[natCast_add];omega
 ·obtain⟨pl,o1,o2,o3,rfl,r⟩:=hp'
  obtain⟨row,hrow,z1',z2',z3'⟩:=r.ff
  obtain⟨y1,s1⟩:=r.st
  refine⟨_,rfl,f,_,rfl,.inl ⟨SqL.of hrow,fun l hl=>?_⟩⟩
  refine q l row _ y1 (r.kp.same (same_new hl _)) (s1.same (same_new hl _)) upd_same ⟨z1',z2',fun p hp=>⟨(z3' p hp).1,?_⟩⟩
  have h1:=(z3' p hp).2
  have h2:=r.hi
  have h3:((v3.toNat:Nat):Int)<=5:=by omega
  omega
end
end K96
namespace K96
open L2
abbrev Ok (ns:List Int)(k:Nat):Prop:=BB.Rw ns k (-4000000000) 4000000000/\k<=12
def spCarry:Sp:=fun vs H Q _=>∃(a:Addr) (ns:List Int) (k z:Nat),vs=[.ref a,.int (z:Int)]/\H a=some (.tup (ns.map V.int))/\Ok ns k/\
 ∀(r p:Addr) (H':Hp),Same H H'->H' r=some (.tup ((BB.step z ns).map V.int))->H' p=some (.tup [.ref r,.int ((BB.taken z ns:Nat):Int)])->Q (.ref p) H'
def spCar:Sp:=fun vs H Q _=>∃(a:Addr) (ns:List Int) (k:Nat),vs=[.ref a]/\H a=some (.tup (ns.map V.int))/\Ok ns k/\
 ∀(r:Addr) (H':Hp),Same H H'->H' r=some (.tup ((BB.step k ns).map V.int))->Q (.ref r) H'
theorem head_rd {K:W.Frag}{a:Addr}{ns:List Int}{H:Hp}{σ:L2.St}{Q:VK}(h0:σ[0]?=some (some (.ref a)))(ha:H a=some (.tup (ns.map V.int)))(q:Q (.int (ns.headD 0)) H) :
 tIf (fun σ H Q=>tVar 0 σ H fun x H'=>∃k,TruV K x H' k/\Q k H') (tOp (rIxT K) (tVar 0) (tC (.int 0))) (tC (.int 0)) σ H Q:=by
 refine⟨_,h0,!(ns.map V.int).isEmpty,.inr (.inl ⟨_,SqT.of ha,rfl⟩),?_⟩
 cases ns with
 |nil=>exact iteF q
 |cons p r=>exact iteT ⟨_,h0,a,_,_,_,rfl,rfl,SqT.of ha,(show atI ((p::r).map V.int) ((0:Nat):Int)=some (.int p) from atI_nat rfl),q⟩
section
variable {P:Program}{w:World}{K:W.Frag}{mg:Str->Option Value}{base:Heap}
theorem ok_carry {f:Addr}{fd:FuncData}(F:Fun K "carry" "carry" s_carry f fd)(nb:Nb2 mg)   :
 FnOk P w K mg base CX0 1 f fd ["row","size"] spCarry:=by
 have nd:=sc_carry.nd
 refine F.ok (k:=0) sc_carry (fun vs H Q E h=>?_) (fun cdv A outer s H vs Q E hr h=>?_)
 ·obtain⟨a,ns,k,z,rfl,_⟩:=h
  rfl
 obtain⟨a,ns,k,z,rfl,ha,ok,q⟩:=h
 refine⟨_,(pss_cons (ps_set (i:=2) nd rfl (Or.inl rfl) (pe_lst pa_nil))
(pss_cons (ps_set (i:=3) nd rfl (Or.inl rfl) pe_int)
(pss_cons (ps_set (i:=4) nd rfl (Or.inl rfl) pe_int)
(pss_cons (ps_set (i:=5) nd rfl (Or.inl rfl) (pe_ifExp (pt_truth (pv 0) (fun _=>rfl)) (pe_ix ix_tup (pv 0) pe_int (fun _ _=>rfl)) pe_int))
(pss_cons (ps_for PassesOwn.never rfl (pi_tup (pv 0)) (pg_name (i:=6) nd rfl (Or.inl rfl))
(pss_cons (ps_set (i:=7) nd rfl (Or.inl rfl) (pe_callB (call_min2 rfl) rfl nb.min boot_min (pa_cons (pv 3) (pa_cons (pe_op op_sub (pv 6) (pv 5)) pa_nil))))
(pss_cons (ps_expr (pe_bm plainAttrs_list PySem.F.slot_list_extend PySem.F.type_list_extend mt_extend (pv 2) (pa_cons (pe_callTy (call_list_rng rfl) rfl nb.list boot_list (pa_cons (pe_callTy call_rng2 rfl nb.range boot_range (pa_cons (pv 5) (pa_cons (pe_op op_add (pv 5) (pv 7)) pa_nil))) pa_nil)) pa_nil)))
(pss_cons (ps_aug (i:=3) nd rfl (Or.inl rfl) (pv 7) ip_sub)
(pss_cons (ps_if (pt_cmpR op_lt (pv 3) (pv 1) (nomark _))
(pss_cons (ps_aug (i:=3) nd rfl (Or.inl rfl) pe_int ip_add)
(pss_one (ps_aug (i:=4) nd rfl (Or.inl rfl) pe_int ip_add)))
(pss_one (ps_expr (pe_bm plainAttrs_list PySem.F.slot_list_append PySem.F.type_list_append mt_append (pv 2) (pa_cons (pv 6) pa_nil)))))
(pss_one (ps_set (i:=5) nd rfl (Or.inl rfl) (pe_op op_add (pv 6) pe_int))))))))
(pss_cons (ps_expr (pe_bm plainAttrs_list PySem.F.slot_list_extend PySem.F.type_list_extend mt_extend (pv 2) (pa_cons (pe_callTy (call_list_rng rfl) rfl nb.list boot_list (pa_cons (pe_callTy call_rng2 rfl nb.range boot_range (pa_cons (pv 5) (pa_cons (pe_op op_add (pv 5) (pv 3)) pa_nil))) pa_nil)) pa_nil)))
(pss_one (ps_ret (pe_tup (pa_cons (pe_callTy call_tuple_of rfl nb.tuple boot_tuple (pa_cons (pv 2) pa_nil)) (pa_cons (pv 4) pa_nil))))))))))),?_⟩
 obtain⟨rw_,k12⟩:=ok
 refine⟨(by show 0<=sizeLine;decide),fun f hf=>?_⟩
 have s1:=same_new hf (.lst [])
 refine head_rd (K:=K) rfl (s1 _ _ ha) ?_
 have hb0:-4000000000<=ns.headD 0/\ns.headD 0<=4000000000/\∀p∈ns,ns.headD 0<=p:=by
  cases ns with
  |nil=>exact⟨by decide,by decide,fun p hp=>by cases hp⟩
  |cons p r=>
   have:=rw_.bd p (mem_cons_self ..)
   refine⟨this.1,this.2,fun x hx=>?_⟩
   rcases mem_cons.mp hx with rfl | hx
   ·exact Int.le_refl _
   ·exact Int.le_of_lt ((pairwise_cons.mp rw_.up).1 x hx)
 refine⟨_,rfl,a,rfl,⟨_,SqT.of (s1 _ _ ha)⟩,?_⟩
 refine for_tup (xs:=ns.map V.int) (fun i σ H'=>∃(bh:List Int) (L:Nat) (l t box:Int) (o6 o7:Option V),σ=[some (.ref a),some (.int (z:Int)),some (.ref f),some (.int l),some (.int t),some (.int box),o6,o7]/\l=(L:Int)/\Same H H'/\H' f=some (.lst (bh.map V.int))/\
  bh++BB.sp z L box (ns.drop i)=BB.step z ns/\(∃tn:Nat,t=(tn:Int)/\tn+BB.tkn z L box (ns.drop i)=BB.taken z ns)/\bh.length+L=i/\(∀p∈ns.drop i,box<=p)/\-4000000000<=box/\box<=4000000001) ?_ (fun i σ H' _ hp=>?_) (fun i x σ H' hxi hp=>?_) (fun σ H' hp=>?_)
 ·exact⟨[],0,_,_,_,_,_,rfl,rfl,s1,upd_same,rfl,⟨0,rfl,Nat.zero_add _⟩,rfl,hb0.2.2,hb0.1,by omega⟩
 ·obtain⟨bh,L,l,t,box,o6,o7,rfl,el,sm,hfh,_⟩:=hp
  exact SqT.of (sm _ _ ha)
 ·obtain⟨bh,L,l,t,box,o6,o7,rfl,el,sm,hfh,eq,⟨tn,et,tq⟩,cnt,ge,b1,b2⟩:=hp
  have hil:i<ns.length:=by
   have:=(List.getElem?_eq_some_iff.mp hxi).1
   simpa using this
  have k1:=rw_.len
  obtain⟨p,rfl,ep⟩:=int_at hxi
  have edr:ns.drop i=p::ns.drop (i+1):=by
   rw[List.drop_eq_getElem_cons hil]
   have:ns[i]=p:=by rw[<-ep,getD_eq_getElem?_getD,List.getElem?_eq_getElem hil];rfl
   rw[this]
  have hbp:box<=p:=ge p (by rw[edr];exact mem_cons_self ..)
  have pb:=rw_.bd p (List.mem_of_mem_drop (by rw[edr];exact mem_cons_self .. : p∈ns.drop i))
  rw[edr]at eq tq
  unfold BB.sp at eq
  unfold BB.tkn at tq
  have em:(if p - box<l then p - box else l)=((min L (p - box).toNat:Nat):Int):=by
   rw[el]
   exact BB.load_gap (Int.sub_nonneg_of_le hbp)
  generalize hm:min L (p - box).toNat=m at eq em tq
  refine⟨_,rfl,_,rfl,_,rfl,_,_,rfl,rfl,_,_,rfl,?_⟩
  refine⟨_,rfl,.inl ⟨rfl,_,SqL.of hfh⟩,_,rfl,_,rfl,_,rfl,_,_,rfl,rfl,_,_,rfl,fun p1 hp1=>?_⟩
  refine⟨p1,_,_,rfl,upd_same,⟨by omega,by omega,by omega,by omega⟩,by rw[sizeLine_eq];omega,fun l1 hl1=>?_⟩
  rw[em]at hl1 ⊢
  have en:(box+(m:Int) - box).toNat=m:=by omega
  rw[en]
  have s3:=(same_new hp1 (.rng box (box+(m:Int)))).trans (same_new hl1 (.lst ((ups box m).map V.int)))
  have hl1':(upd (upd H' p1 (.rng box (box+(m:Int)))) l1 (.lst ((ups box m).map V.int))) l1=some (.lst ((ups box m).map V.int)):=upd_same
  have hf1:=s3 _ _ hfh
  have sm3:=sm.trans s3
  generalize upd (upd H' p1 (.rng box (box+(m:Int)))) l1 (.lst ((ups box m).map V.int))=H3 at s3 hl1' hf1 sm3 ⊢
  have lup:(ups box m).length=m:=ups_length ..
  have mle:m<=L:=by omega
  refine⟨f,l1,_,_,rfl,rfl,hf1,hl1',by rw[length_map,length_map,lup,sizeLine_eq];omega,?_⟩
  have hf4:(upd H3 f (.lst (bh.map V.int++(ups box m).map V.int))) f=some (.lst ((bh++ups box m).map V.int)):=by rw[upd_same,map_append]
  have sm4:Same H (upd H3 f (.lst (bh.map V.int++(ups box m).map V.int))):=fun b o hb=>by rw[upd_ne (ne_of_none hb hf)];exact sm3 b o hb
  generalize upd H3 f (.lst (bh.map V.int++(ups box m).map V.int))=H4 at hf4 sm4 ⊢
  refine⟨_,rfl,_,rfl,_,_,rfl,rfl,?_⟩
  have ll:l - (m:Int)=((L - m:Nat):Int):=by omega
  refine⟨_,rfl,_,rfl,_,_,rfl,rfl,_,rfl,?_⟩
  have nge:∀x∈ns.drop (i+1),p+1<=x:=fun x hx=>by
   have up2:(p::ns.drop (i+1)).Pairwise (· < ·):=by rw[<-edr];exact rw_.up.sublist (List.drop_sublist ..)
   have:=(pairwise_cons.mp up2).1 x hx
   omega
  refine ite2 (fun c=>?_) (fun c=>?_)
  ·have c':l - (m:Int)<(z:Int):=of_decide_eq_true c
   rw[if_pos (by omega),<-List.append_assoc]at eq
   rw[if_pos (by omega)]at tq
   refine⟨_,rfl,_,_,rfl,rfl,_,rfl,_,_,rfl,rfl,_,rfl,_,_,rfl,rfl,?_⟩
   exact⟨bh++ups box m,L - m+1,_,_,_,_,_,rfl,(by show l - (m:Int)+1=_;omega),sm4,hf4,eq,⟨tn+1,(by show t+1=_;omega),by omega⟩,by rw[length_append,lup];omega,nge,(by show _<=p+1;omega),(by show p+1<=_;omega)⟩
  ·have c':¬l - (m:Int)<(z:Int):=of_decide_eq_false (eq_false_iff.mpr c)
   rw[if_neg (by omega),<-List.append_assoc]at eq
   rw[if_neg (by omega)]at tq
   refine⟨_,rfl,.inl ⟨rfl,_,SqL.of hf4⟩,_,rfl,f,_,_,rfl,rfl,hf4,by rw[length_map,length_append,lup,sizeLine_eq];omega,?_⟩
   have hf5:(upd H4 f (.lst ((bh++ups box m).map V.int++[.int p]))) f=some (.lst ((bh++ups box m++[p]).map V.int)):=by rw[upd_same,map_append (l₂:=[p])];rfl
   have sm5:Same H (upd H4 f (.lst ((bh++ups box m).map V.int++[.int p]))):=fun b o hb=>by rw[upd_ne (ne_of_none hb hf)];exact sm4 b o hb
   refine⟨_,rfl,_,_,rfl,rfl,?_⟩
   exact⟨bh++ups box m++[p],L - m,_,_,_,_,_,rfl,ll,sm5,hf5,by rw[List.append_assoc];exact eq,⟨tn,et,tq⟩,by rw[length_append,length_append,lup,length_singleton];omega,nge,(by show _<=p+1;omega),(by show p+1<=_;omega)⟩
 ·obtain⟨bh,L,l,t,box,o6,o7,rfl,el,sm,hfh,eq,⟨tn,et,tq⟩,cnt,ge,b1,b2⟩:=hp
  rw[length_map]at cnt eq tq
  rw[List.drop_length]at eq tq
  have tq':tn=BB.taken z ns:=tq
  have et':t=((BB.taken z ns:Nat):Int):=by rw[et,tq']
  subst et'
  have k1:=rw_.len
  have eq':bh++ups box L=BB.step z ns:=eq
  refine⟨_,rfl,.inl ⟨rfl,_,SqL.of hfh⟩,_,rfl,_,rfl,_,rfl,_,_,rfl,rfl,_,_,rfl,fun p1 hp1=>?_⟩
  refine⟨p1,_,_,rfl,upd_same,⟨by omega,by omega,by omega,by omega⟩,by rw[sizeLine_eq];omega,fun l1 hl1=>?_⟩
  have en:(box+l - box).toNat=L:=by omega
  rw[en]
  have s3:=(same_new hp1 (.rng box (box+l))).trans (same_new hl1 (.lst ((ups box L).map V.int)))
  have hl1':(upd (upd H' p1 (.rng box (box+l))) l1 (.lst ((ups box L).map V.int))) l1=some (.lst ((ups box L).map V.int)):=upd_same
  have hf1:=s3 _ _ hfh
  have sm3:=sm.trans s3
  generalize upd (upd H' p1 (.rng box (box+l))) l1 (.lst ((ups box L).map V.int))=H3 at s3 hl1' hf1 sm3 ⊢
  have lup:(ups box L).length=L:=ups_length ..
  refine⟨f,l1,_,_,rfl,rfl,hf1,hl1',by rw[length_map,length_map,lup,sizeLine_eq];omega,?_⟩
  have hf4:(upd H3 f (.lst (bh.map V.int++(ups box L).map V.int))) f=some (.lst ((BB.step z ns).map V.int)):=by rw[upd_same,<-eq',map_append]
  have sm4:Same H (upd H3 f (.lst (bh.map V.int++(ups box L).map V.int))):=fun b o hb=>by rw[upd_ne (ne_of_none hb hf)];exact sm3 b o hb
  generalize upd H3 f (.lst (bh.map V.int++(ups box L).map V.int))=H4 at hf4 sm4 ⊢
  refine⟨_,rfl,f,_,rfl,.inl ⟨SqL.of hf4,fun l2 hl2=>?_⟩⟩
  refine⟨_,rfl,(by show 2<=sizeLine;decide),fun p2 hp2=>?_⟩
  have s5:=same_new hl2 (.tup ((BB.step z ns).map V.int))
  have s6:=same_new hp2 (.tup [.ref l2,.int ((BB.taken z ns:Nat):Int)])
  exact q l2 p2 _ (sm4.trans (s5.trans s6)) (s6 _ _ upd_same) upd_same
end
end K96
namespace K96
open L2
section
variable {P:Program}{w:World}{K:W.Frag}{mg:Str->Option Value}{base:Heap}
theorem ok_carried {f:Addr}{fd:FuncData}(F:Fun K "carried" "carried" s_carried f fd)(nb:Nb2 mg)(h_carry:Has P w K mg base 1 "carry" ["row","size"] spCarry)  :
 FnOk P w K mg base CX0 2 f fd ["row"] spCar:=by
 have nd:=sc_carried.nd
 refine F.ok (k:=1) sc_carried (fun vs H Q E h=>?_) (fun cdv A outer s H vs Q E hr h=>?_)
 ·obtain⟨a,ns,k,rfl,_⟩:=h
  rfl
 obtain⟨a,ns,k,rfl,ha,ok,q⟩:=h
 refine⟨_,(pss_cons (ps_asg (pe_def h_carry hr (pa_cons (pv 0) (pa_cons (pe_callB call_len_seq rfl nb.len PySem.boot_len (pa_cons (pv 0) pa_nil)) pa_nil))) (pg_tup rfl (pgs_cons (pg_name (i:=1) nd rfl (Or.inl rfl)) (pgs_cons (pg_name (i:=2) nd rfl (Or.inl rfl)) pgs_nil))))
(pss_one (ps_ret (pv 1)))),?_⟩
 have hl:(ns.map V.int).length=k:=by rw[length_map];exact ok.1.len
 refine⟨_,rfl,_,rfl,a,_,rfl,.inr (SqT.of ha),a,ns,k,k,?_,ha,ok,fun r2 p2 H2 s2 h2 h2'=>?_⟩
 ·rw[hl];rfl
 refine⟨p2,_,rfl,SqT.of h2',rfl,_,_,rfl,_,_,rfl,rfl,?_⟩
 exact⟨_,rfl,q r2 H2 s2 h2⟩
end
end K96
namespace K96
open L2
theorem ok_bound {ns:List Int}{k:Nat}{A B:Int}(h:BB.Rw ns k A B)(k12:k<=12)(n:Nat)(hn:n<=60)(hA:-2000000000<=A)(hB:B<=2000000000)(z:Nat):Ok (BB.it (BB.step z) n ns) k/\Ok (BB.it (BB.unstep z) n ns) k:=by
 have hm:(n:Int)*(k:Int)<=60*12:=by
  have:=Nat.mul_le_mul hn k12
  have e:((n*k:Nat):Int)=(n:Int)*(k:Int):=Int.natCast_mul n k
  omega
 have h0:0<=(n:Int)*(k:Int):=Int.mul_nonneg (by omega) (by omega)
 exact⟨⟨(h.its n).mono (by omega) (by omega),k12⟩,⟨(h.itu n).mono (by omega) (by omega),k12⟩⟩
section
variable {P:Program}{w:World}{K:W.Frag}{mg:Str->Option Value}{base:Heap}
end
end K96
namespace K96
open L2
theorem in_nums (b:Int)(ns:List Int):inV (.int b) (ns.map V.int)=decide (b∈ns):=by
 unfold inV
 rw[any_map,Bool.eq_iff_iff,any_eq_true,decide_eq_true_iff]
 constructor
 ·rintro⟨x,hx,e⟩
  have e':x=b:=of_decide_eq_true e
  exact e'▸hx
 ·intro h
  exact⟨b,h,decide_eq_true (rfl:b=b)⟩
theorem flat_nums (ns:List Int):(ns.map V.int).all flatV=true:=by
 rw[all_map,all_eq_true]
 intro x _
 rfl
theorem num_at {ns:List Int}{i:Nat}{x:V}(h:(ns.map V.int)[i]?=some x):x=.int (ns.getD i 0):=by
 rw[getElem?_map]at h
 cases e:ns[i]? with
 |none=>rw[e]at h;cases h
 |some n=>
  rw[e]at h
  cases h
  rw[getD_eq_getElem?_getD,e]
  rfl
section
variable {P:Program}{w:World}{K:W.Frag}{mg:Str->Option Value}{base:Heap}
end
end K96
namespace K96
open L2
open BB (lens outs)
def many (σ:L2.St)(H:Hp):Nat:=match σ with
 |[_,_,some (V.ref p),_]=>(match H p with | some (.tup xs)=>xs.length | _=>0)
 |_=>0
section
variable {P:Program}{w:World}{K:W.Frag}{mg:Str->Option Value}{base:Heap}
end
end K96
namespace K96
open L2
open BB (lens outs)
section
variable {P:Program}{w:World}{K:W.Frag}{mg:Str->Option Value}{base:Heap}
end
end K96
namespace K96
open L2
structure NbX (mg:Str->Option Value):Prop extends Nb3 mg where
 str:mg "str" = none
 enum:mg "enumerate" = none
theorem at_last {ns:List Int}{q:Int}(h:ns.getLast?=some q):atI (ns.map V.int) (-1)=some (.int q):=by
 have ne:ns≠[]:=fun z=>by rw[z]at h;cases h
 have l0:0<ns.length:=length_pos_iff.mpr ne
 have e:ixN (ns.map V.int).length (-1)=some (ns.length - 1):=by
  unfold ixN
  rw[length_map,if_neg (by decide),if_pos (by omega)]
  congr 1
  omega
 unfold atI
 rw[e]
 show(ns.map V.int)[ns.length - 1]?=_
 rw[getElem?_map]
 rw[getLast?_eq_getElem?]at h
 rw[h]
 rfl
abbrev FIG:Str:=oS "0123456789"
abbrev NOB:Str:=oS "none"
def signsOf (row:List Int):List Nat:=(List.range (row.getLastD 0+1 - row.headD 0).toNat).map fun(j:Nat)=>if row.headD 0+(j:Int)∈row then 111 else 46
def rowTxt (row:List Int):Str:=if row=[] then NOB else numT (row.headD 0)++oS ":"++⟨(signsOf row).toArray⟩
structure Wd (row:List Int):Prop where
 up:row.Pairwise (· < ·)
 bd:∀p∈row,-1000000000<=p/\p<=1000000000
 wide:row.getLastD 0 - row.headD 0<=199
def spNumRead:Sp:=fun vs H Q _=>∃n:Int,vs=[.str (numT n)]/\n.natAbs<10^30/\∀H',Same H H'->Q (.int n) H'
structure Wr (row:List Int):Prop where
 up:row.Pairwise (· < ·)
 bd:∀p∈row,-1000000000<=p/\p<=1000000000
 wide:row.getLastD 0 - row.headD 0<=1500
theorem Wd.wr {row:List Int}(h:Wd row):Wr row:=⟨h.up,h.bd,by have:=h.wide;omega⟩
def spRowTextW:Sp:=fun vs H Q _=>∃(a:Addr) (row:List Int),vs=[.ref a]/\H a=some (.tup (row.map V.int))/\Wr row/\∀H',Same H H'->Q (.str (rowTxt row)) H'
def spRowText:Sp:=fun vs H Q _=>∃(a:Addr) (row:List Int),vs=[.ref a]/\H a=some (.tup (row.map V.int))/\Wd row/\∀H',Same H H'->Q (.str (rowTxt row)) H'
def spRowRead:Sp:=fun vs H Q _=>∃(row:List Int),vs=[.str (rowTxt row)]/\Wd row/\row.length<=12/\True/\∀(r:Addr) (H':Hp),Same H H'->H' r=some (.tup (row.map V.int))->Q (.ref r) H'
theorem fig_in {c:Nat}(h:48<=c/\c<=57):c∈FIG.cps.toList:=by
 have e:FIG.cps.toList=[48,49,50,51,52,53,54,55,56,57]:=by decide +kernel
 rw[e]
 simp only[mem_cons,not_mem_nil,or_false]
 omega
theorem num_log {n:Int}(h:n.natAbs<10^10):n.natAbs.log2<1920:=by
 by_cases z:n.natAbs=0
 ·rw[z];decide
 ·exact(log2_lt z).mpr (Nat.lt_of_lt_of_le h (by decide))
theorem o_is:oS "o" = ⟨#[111]⟩:=by decide +kernel
theorem dot_is:oS "." = ⟨#[46]⟩:=by decide +kernel
theorem colon_is:oS ":" = ⟨#[58]⟩:=by decide +kernel
theorem signs_are (row:List Int):(List.range (row.getLastD 0+1 - row.headD 0).toNat).map (fun(j:Nat)=>V.str (if row.headD 0+(j:Int)∈row then oS "o" else oS "."))=((signsOf row).map fun c=>(⟨#[c]⟩:Str)).map V.str:=by
 unfold signsOf
 rw[List.map_map,List.map_map]
 refine map_congr_left fun j _=>?_
 show V.str _=V.str ⟨#[if _ then 111 else 46]⟩
 by_cases c:row.headD 0+(j:Int)∈row
 ·rw[if_pos c,if_pos c,o_is]
 ·rw[if_neg c,if_neg c,dot_is]
theorem signs_len (row:List Int):(signsOf row).length=(row.getLastD 0+1 - row.headD 0).toNat:=by
 unfold signsOf
 rw[length_map,length_range]
theorem up_last {p0:Int}{rest:List Int}(h:(p0::rest).Pairwise (· < ·)):(p0::rest).getLast?=some ((p0::rest).getLastD 0)/\p0<=(p0::rest).getLastD 0/\(p0::rest).getLastD 0∈p0::rest:=by
 have e:(p0::rest).getLast?=some ((p0::rest).getLastD 0):=by
  rw[List.getLastD_eq_getLast?]
  cases z:(p0::rest).getLast? with
  |none=>exact absurd (List.getLast?_eq_none_iff.mp z) (by simp)
  |some x=>rfl
 have m:(p0::rest).getLastD 0∈p0::rest:=List.mem_of_getLast? e
 refine⟨e,?_,m⟩
 rcases mem_cons.mp m with z | z
 ·omega
 ·have:=(pairwise_cons.mp h).1 _ z
  omega
theorem wd_last {p0:Int}{rest:List Int}(h:Wd (p0::rest)):(p0::rest).getLast?=some ((p0::rest).getLastD 0)/\p0<=(p0::rest).getLastD 0/\(p0::rest).getLastD 0∈p0::rest:=up_last h.up
theorem txt_len (l:List Nat):(⟨l.toArray⟩:Str).length=l.length:=by rw[str_len]
theorem txt_cons (p0:Int)(rest:List Int):rowTxt (p0::rest)=numT p0++oS ":"++⟨(signsOf (p0::rest)).toArray⟩:=by
 unfold rowTxt
 rw[if_neg (by simp)]
 rfl
theorem txt_ne (p0:Int)(rest:List Int):rowTxt (p0::rest)≠NOB:=fun e=>by
 have m:58∈(rowTxt (p0::rest)).cps.toList:=by
  rw[txt_cons,colon_is,app_list,app_list]
  exact mem_append_left _ (mem_append_right _ (by simp))
 rw[e]at m
 have z:NOB.cps.toList=[110,111,110,101]:=by decide +kernel
 rw[z]at m
 simp at m
theorem txt_part (p0:Int)(rest:List Int):partV (rowTxt (p0::rest)) (oS ":")=[.str (numT p0),.str (oS ":"),.str ⟨(signsOf (p0::rest)).toArray⟩]:=by
 rw[txt_cons,colon_is]
 exact part_at (int_text_free' 58 ⟨by decide,by decide⟩ p0)
theorem last_max {l:List Int}(h:l.Pairwise (· < ·)){m:Int}(e:l.getLast?=some m):∀x∈l,x<=m:=fun x hx=>by
 obtain⟨pre,rfl⟩:=List.getLast?_eq_some_iff.mp e
 rcases mem_append.mp hx with z | z
 ·have:=(List.pairwise_append.mp h).2.2 x z m (by simp)
  omega
 ·rw[mem_singleton]at z
  omega
theorem read_back {p0:Int}{rest:List Int}(h:Wd (p0::rest)):((List.range (signsOf (p0::rest)).length).filter fun j=>decide ((signsOf (p0::rest)).getD j 0=111)).map (fun(j:Nat)=>p0+(j:Int))=p0::rest:=by
 obtain⟨el,ge,ml⟩:=wd_last h
 have sl:=signs_len (p0::rest)
 rw[show(p0::rest).headD 0=p0 from rfl]at sl
 have at_:∀j:Nat,j<(signsOf (p0::rest)).length->((signsOf (p0::rest)).getD j 0=111↔p0+(j:Int)∈p0::rest):=fun j hj=>by
  have e:(signsOf (p0::rest)).getD j 0=if p0+(j:Int)∈p0::rest then 111 else 46:=by
   rw[getD_eq_getElem?_getD]
   unfold signsOf at hj ⊢
   rw[length_map,length_range]at hj
   rw[getElem?_map,getElem?_range hj]
   rfl
  rw[e]
  by_cases c:p0+(j:Int)∈p0::rest
  ·rw[if_pos c];exact⟨fun _=>c,fun _=>rfl⟩
  ·rw[if_neg c];exact⟨fun z=>absurd z (by decide),fun z=>absurd z c⟩
 refine BB.rise_ext ?_ h.up fun x=>?_
 ·refine pairwise_map.mpr ((List.Pairwise.filter _ List.pairwise_lt_range).imp fun h=>by omega)
 ·rw[mem_map]
  constructor
  ·rintro⟨j,hj,rfl⟩
   obtain⟨h1,h2⟩:=mem_filter.mp hj
   exact(at_ j (mem_range.mp h1)).mp (of_decide_eq_true h2)
  ·intro hx
   have x0:p0<=x:=by
    rcases mem_cons.mp hx with z | z
    ·omega
    ·have:=(pairwise_cons.mp h.up).1 x z
     omega
   have x1:x<=(p0::rest).getLastD 0:=last_max h.up el x hx
   refine⟨(x - p0).toNat,mem_filter.mpr ⟨mem_range.mpr (by omega),decide_eq_true ((at_ _ (by omega)).mpr ?_)⟩,by omega⟩
   rw[show p0+((x - p0).toNat:Int)=x by omega]
   exact hx
theorem rise_of {ns:List Int}(h:ns.Pairwise (· < ·)):riseB ns=true:=by
 unfold riseB
 refine all_eq_true.mpr fun i hi=>decide_eq_true ?_
 have hi':=mem_range.mp hi
 rw[getD_eq_getElem?_getD,getD_eq_getElem?_getD,List.getElem?_eq_getElem (by omega),List.getElem?_eq_getElem (by omega)]
 exact List.pairwise_iff_getElem.mp h i (i+1) (by omega) (by omega) (by omega)
theorem row_true {H:Hp}{a:Addr}{row:List Int}(h:H a=some (.tup (row.map V.int)))(wd:Wd row)(l:row.length<=12):rowV H (.ref a)=true/\Thing H (.ref a):=by
 constructor
 ·show rowO (H a)=true
  rw[h]
  show rowB (row.map V.int)=true
  have e3:(row.map V.int).map toI=row:=by
   rw[List.map_map]
   exact(map_congr_left fun b _=>rfl).trans (List.map_id row)
  have e2:(row.map V.int).all (numB (-1000000000) 1000000000)=true:=by
   rw[all_map]
   refine all_eq_true.mpr fun b hb=>?_
   have:=wd.bd b hb
   show(decide (-1000000000<=b)&&decide (b<=1000000000))=true
   rw[decide_eq_true (by omega),decide_eq_true (by omega)]
   rfl
  unfold rowB
  rw[e2,e3,rise_of wd.up,length_map,decide_eq_true l]
  rfl
 ·refine⟨⟨_,.tup h⟩,fun b xs e hb=>?_⟩
  cases e
  rw[h]at hb
  cases hb
  refine⟨by rw[length_map];omega,fun x hx=>?_⟩
  obtain⟨i,_,rfl⟩:=mem_map.mp hx
  exact⟨_,.int i⟩
section
variable {P:Program}{w:World}{K:W.Frag}{mg:Str->Option Value}{base:Heap}
theorem ok_number_read {f:Addr}{fd:FuncData}(F:Fun K "number_read" "number_read" s_number_read f fd)(nb:NbX mg)(c_FIGURES:∃u,mg "FIGURES" = some u/\RelV (.str FIG) u)(c_MOST_FIGURES:∃u,mg "MOST_FIGURES" = some u/\RelV (.int 30) u) :
 FnOk P w K mg base CX0 1 f fd ["text"] spNumRead:=by
 have nd:=sc_number_read.nd
 refine F.ok (k:=0) sc_number_read (fun vs H Q E h=>?_) (fun cdv A outer s H vs Q E hr h=>?_)
 ·obtain⟨n,rfl,_⟩:=h
  rfl
 obtain⟨n,rfl,hn,q⟩:=h
 refine⟨_,(pss_cons (ps_mid (ps_set (i:=1) nd rfl (Or.inl rfl) (pe_ifExp (pt_truth (pe_bm plainAttrs_str PySem.F.slot_str_startswith PySem.F.type_str_startswith mt_starts (pv 0) (pa_cons pe_str pa_nil)) (fun _=>rfl)) (pe_sliceS (pv 0)) (pv 0))))
(pss_cons (ps_if (PW.pt (pw_or (pt_not (pt_chain op_le op_le pe_int (pe_callB call_len_str rfl nb.len PySem.boot_len (pa_cons (pv 1) pa_nil)) (pe_const c_MOST_FIGURES))) (pw_or1 (pt_not (pt_truth (pe_callB (call_allB rfl) rfl nb.all boot_all (pa_cons (pe_comp1 (sc:=defScope s_number_read) (N0:=["text","figures","number"]) (N:=[]) (js:=[]) rfl rfl rfl (by constructor<;>first|decide +kernel|rfl) rfl
(pi_str (pv 1))
(fun _ _ _ _ _=>by exact pts_nil)
(fun _ _ _ _ _=>by exact(pe_cmpR op_in_str (pv 0) (pe_const c_FIGURES) rfl))) pa_nil)) (fun _=>rfl))))))
(pss_one ps_never)
pss_nil)
(pss_cons (ps_set (i:=2) nd rfl (Or.inl rfl) (pe_callTy call_intS rfl nb.int boot_int (pa_cons (pv 0) pa_nil)))
(pss_cons (ps_if (pt_cmpR op_ne (pe_callTy call_str_int rfl nb.str boot_str (pa_cons (pv 2) pa_nil)) (pv 0) (nomark _))
(pss_one ps_never)
pss_nil)
(pss_one (ps_ret (pv 2))))))),?_⟩
 have nl:=num_len30 hn
 obtain⟨dg,ne⟩:=figs_ok n.natAbs
 have fl:=figs_len30 hn
 have f1:0<(figs n.natAbs).length:=length_pos_iff.mpr ne
 refine⟨fun σ H'=>H'=H/\∃fg:Str,σ=[some (.str (numT n)),some (.str fg),none]/\fg.cps.toList=figs n.natAbs,⟨_,rfl,rfl,_,_,rfl,rfl,?_⟩,fun σ' H' hp=>?_⟩
 ·rw[num_starts]
  refine⟨_,rfl,?_⟩
  by_cases c:n<0
  ·rw[decide_eq_true c]
   refine iteT ⟨_,rfl,_,rfl,by rw[sizeLine_eq];omega,rfl,_,rfl,?_⟩
   rw[num_slice c]
  ·rw[decide_eq_false c]
   refine iteF ⟨_,rfl,rfl,_,rfl,?_⟩
   obtain⟨m,rfl⟩:∃m:Nat,n=(m:Int):=⟨n.toNat,by omega⟩
   rw[numT_pos]
   rfl
 ·obtain⟨rfl,fg,rfl,efg⟩:=hp
  have lf:fg.length=(figs n.natAbs).length:=by rw[str_len,efg]
  refine⟨_,rfl,fg,rfl,by rw[sizeLine_eq,lf];omega,?_⟩
  refine⟨_,_,rfl,rfl,_,rfl,?_⟩
  rw[decide_eq_true (show(1:Int)<=(fg.length:Int) by omega)]
  refine iteT ⟨_,_,rfl,rfl,_,rfl,?_⟩
  rw[decide_eq_true (show(fg.length:Int)<=30 by omega)]
  have sz:fg.cps.size=(figs n.natAbs).length:=by rw[<-efg,length_toList]
  refine iteF ⟨_,rfl,fg,rfl,fun D hD=>?_⟩
  refine comp_go fg.cps.size (by rw[sizeLine_eq];omega) (fun i=>.bl true) (fun σ=>∃o1,σ=[o1]) _ hD ⟨_,rfl⟩ items_str (fun i x σ' H2 hi s2 im hσ R hR=>?_) (fun H1 s1 hD1=>?_)
  ·obtain⟨o1,rfl⟩:=hσ
   obtain⟨c,hc,rfl⟩:=im
   have cm:c∈figs n.natAbs:=by
    rw[<-efg]
    exact mem_of_getElem? (i:=i) (by rw[getElem?_toList];exact hc)
   have cr:=dg c cm
   refine⟨_,rfl,_,_,rfl,rfl,hR _ _ _ ⟨_,rfl⟩ (Same.refl _) ?_⟩
   rw[sign_in,decide_eq_true (fig_in cr)]
  rw[show(List.range fg.cps.size).map (fun _=>V.bl true)=((List.range fg.cps.size).map fun _=>true).map V.bl by rw[List.map_map];rfl]at hD1
  refine⟨D,_,rfl,SqL.of hD1,_,rfl,?_⟩
  have al:((List.range fg.cps.size).map fun _=>true).all id=true:=by
   rw[all_map]
   exact all_eq_true.mpr fun _ _=>rfl
  rw[al]
  refine iteF ⟨_,rfl,_,n,rfl,num_read30 hn,by omega,?_⟩
  refine⟨_,rfl,n,rfl,num_log30 hn,_,rfl,rfl,_,rfl,?_⟩
  rw[decide_eq_true rfl]
  exact iteF ⟨_,rfl,q H1 s1⟩
end
end K96
namespace K96
open L2
section
variable {P:Program}{w:World}{K:W.Frag}{mg:Str->Option Value}{base:Heap}
theorem ok_row_read {f:Addr}{fd:FuncData}(F:Fun K "row_read" "row_read" s_row_read f fd)(nb:NbX mg)(h_number_read:Has P w K mg base 1 "number_read" ["text"] spNumRead)(h_is_row:Has P w K mg base 2 "is_row" ["thing"] spIsRow)(h_row_text:Has P w K mg base 1 "row_text" ["row"] spRowText)(c_NO_BALLS:∃u,mg "NO_BALLS" = some u/\RelV (.str NOB) u)(c_MOST_BOXES:∃u,mg "MOST_BOXES" = some u/\RelV (.int 200) u) :
 FnOk P w K mg base CX0 3 f fd ["text"] spRowRead:=by
 have nd:=sc_row_read.nd
 refine F.ok (k:=2) sc_row_read (fun vs H Q E h=>?_) (fun cdv A outer s H vs Q E hr h=>?_)
 ·obtain⟨row,rfl,_⟩:=h
  rfl
 obtain⟨row,rfl,wd,len,bd,q⟩:=h
 refine⟨_,(pss_cons (ps_if (pt_not (pt_truth (pe_callB call_isiS rfl nb.isi boot_isinstance (pa_cons (pv 0) (pa_cons (pe_ty nb.str boot_str) pa_nil))) (fun _=>rfl)))
(pss_one ps_never)
pss_nil)
(pss_cons (ps_if (pt_cmpR op_eq (pv 0) (pe_const c_NO_BALLS) (nomark _))
(pss_one (ps_ret (pe_tup pa_nil)))
pss_nil)
(pss_cons (ps_asg (pe_bm plainAttrs_str slot_str_partition type_str_partition mt_part (pv 0) (pa_cons pe_str pa_nil)) (pg_tup rfl (pgs_cons (pg_name (i:=1) nd rfl (Or.inl rfl)) (pgs_cons (pg_name (i:=2) nd rfl (Or.inl rfl)) (pgs_cons (pg_name (i:=3) nd rfl (Or.inl rfl)) pgs_nil)))))
(pss_cons (ps_if (pt_cmpR op_gt (pe_callB call_len_str rfl nb.len PySem.boot_len (pa_cons (pv 3) pa_nil)) (pe_const c_MOST_BOXES) (nomark _))
(pss_one ps_never)
pss_nil)
(pss_cons (ps_set (i:=4) nd rfl (Or.inr rfl) (pe_def h_number_read hr (pa_cons (pv 1) pa_nil)))
(pss_cons (ps_set (i:=5) nd rfl (Or.inl rfl) (pe_callTy call_tuple_of rfl nb.tuple boot_tuple (pa_cons (pe_comp2 (sc:=defScope s_row_read) (N0:=["text","first","mark","signs","start","row"]) (N:=["start"]) (js:=[4]) rfl rfl rfl (by constructor<;>first|decide +kernel|rfl) rfl rfl
(pi_enumS rfl nb.enum (pa_cons (pv 3) pa_nil))
(fun _ _ _ _ _=>by exact(pts_one (pt_cmpR op_eq (pv 1) pe_str (nomark _))))
(fun _ _ _ _ _=>by exact(pe_op op_add (pv 2) (pv 0)))) pa_nil)))
(pss_cons (ps_if (PW.pt (pw_or (pt_not (pt_truth (pe_def h_is_row hr (pa_cons (pv 5) pa_nil)) (fun _=>rfl))) (pw_or1 (pt_cmpR op_ne (pe_def h_row_text hr (pa_cons (pv 5) pa_nil)) (pv 0) (nomark _)))))
(pss_one ps_never)
pss_nil)
(pss_one (ps_ret (pv 5)))))))))),?_⟩
 refine⟨_,rfl,_,_,rfl,.str _,_,rfl,iteF ?_⟩
 refine⟨_,rfl,rfl,_,rfl,?_⟩
 cases row with
 |nil=>
  rw[decide_eq_true (show V.str (rowTxt [])=V.str NOB by unfold rowTxt;rw[if_pos rfl])]
  exact iteT ⟨(by show 0<=sizeLine;decide),fun p hp=>q p _ (same_new hp _) upd_same⟩
 |cons p0 rest=>
  rw[decide_eq_false (fun z=>txt_ne p0 rest (by injection z))]
  obtain⟨el,ge,ml⟩:=wd_last wd
  have bl:=wd.bd _ ml
  have b0:=wd.bd p0 mem_cons_self
  have wi:=wd.wide
  rw[show(p0::rest).headD 0=p0 from rfl]at wi
  have sl:=signs_len (p0::rest)
  rw[show(p0::rest).headD 0=p0 from rfl]at sl
  have n0:p0.natAbs<10^10:=by omega
  have nl:=num_len n0
  have tl:(rowTxt (p0::rest)).length<=300:=by
   rw[txt_cons,Str.length_append,Str.length_append,txt_len]
   show(numT p0).length+1+(signsOf (p0::rest)).length<=300
   omega
  have rb:=read_back wd
  refine iteF ⟨_,rfl,rfl,_,_,rfl,rfl,by decide +kernel,by rw[sizeLine_eq];omega,fun p hp=>?_⟩
  rw[txt_part]
  have s1:=same_new hp (.tup [.str (numT p0),.str (oS ":"),.str ⟨(signsOf (p0::rest)).toArray⟩])
  have h1:(upd H p (.tup [.str (numT p0),.str (oS ":"),.str ⟨(signsOf (p0::rest)).toArray⟩])) p=some (.tup [.str (numT p0),.str (oS ":"),.str ⟨(signsOf (p0::rest)).toArray⟩]):=upd_same
  generalize upd H p (.tup [.str (numT p0),.str (oS ":"),.str ⟨(signsOf (p0::rest)).toArray⟩])=H1 at s1 h1 ⊢
  refine⟨p,_,rfl,SqT.of h1,rfl,_,_,rfl,_,_,rfl,_,_,rfl,rfl,?_⟩
  have ls:(⟨(signsOf (p0::rest)).toArray⟩:Str).length=(signsOf (p0::rest)).length:=txt_len _
  refine⟨_,rfl,_,rfl,by rw[sizeLine_eq];omega,_,_,rfl,rfl,_,rfl,?_⟩
  rw[decide_eq_false (by omega)]
  refine iteF ⟨_,rfl,p0,rfl,Nat.lt_of_lt_of_le n0 (by decide),fun H2 s2=>?_⟩
  generalize hG:signsOf (p0::rest)=sg at *
  have S2:=s1.trans s2
  refine⟨_,rfl,_,rfl,fun D hD=>?_⟩
  refine comp_sel sg.length (by rw[sizeLine_eq];omega) (fun j=>decide (sg.getD j 0=111)) (fun(j:Nat)=>.int (p0+(j:Int))) (fun σ=>∃o1 o2,σ=[o1,o2,some (.int p0)]) _ hD ⟨_,_,rfl⟩ (fun i H5 s5=>items_enumS (x:=⟨sg.toArray⟩) i H5 s5) (fun i x σ' H5 hi s5 im hσ R S hR hS=>?_) (fun H3 s3 hD3=>?_)
  ·obtain⟨o1,o2,rfl⟩:=hσ
   obtain⟨p2,c,rfl,hp2,hc⟩:=im
   have gc:sg.getD i 0=c:=by
    rw[getD_eq_getElem?_getD]
    have:sg[i]?=some c:=by rw[<-hc];simp
    rw[this]
    rfl
   refine⟨p2,_,rfl,SqT.of hp2,rfl,_,_,rfl,_,_,rfl,rfl,?_⟩
   refine⟨_,rfl,rfl,_,rfl,?_⟩
   rw[o_is]
   by_cases e:c=111
   ·rw[decide_eq_true (by rw[e])]
    exact iteT ⟨_,rfl,_,rfl,_,_,rfl,rfl,hR (by rw[gc];exact decide_eq_true e) _ _ _ ⟨_,_,rfl⟩ (Same.refl _) rfl⟩
   ·rw[decide_eq_false (fun z=>e (by injection z with z;injection z with z;injection z with z;injection z))]
    exact iteF (hS (by rw[gc];exact decide_eq_false e) _ _ ⟨_,_,rfl⟩ (Same.refl _))
  have eD:((List.range sg.length).filter fun j=>decide (sg.getD j 0=111)).map (fun(j:Nat)=>V.int (p0+(j:Int)))=(p0::rest).map V.int:=by
   rw[<-rb,List.map_map]
   rfl
  rw[eD]at hD3
  refine⟨D,_,rfl,.inl ⟨SqL.of hD3,fun l hl=>?_⟩⟩
  have s4:=same_new hl (.tup ((p0::rest).map V.int))
  have h4:(upd H3 l (.tup ((p0::rest).map V.int))) l=some (.tup ((p0::rest).map V.int)):=upd_same
  generalize upd H3 l (.tup ((p0::rest).map V.int))=H4 at s4 h4 ⊢
  have S4:=S2.trans (s3.trans s4)
  obtain⟨rt,th⟩:=row_true h4 wd len
  refine⟨_,rfl,_,rfl,th,fun H5 s5=>?_⟩
  rw[rt]
  refine⟨_,rfl,iteF ?_⟩
  refine⟨_,rfl,l,_,rfl,s5 _ _ h4,wd,fun H6 s6=>⟨_,rfl,rfl,_,rfl,?_⟩⟩
  rw[decide_eq_true rfl]
  exact iteF ⟨_,rfl,q l H6 (S4.trans (s5.trans s6)) (s6 _ _ (s5 _ _ h4))⟩
end
end K96
namespace K96
open L2
section
variable {P:Program}{w:World}{K:W.Frag}{mg:Str->Option Value}{base:Heap}
theorem ok_row_textW {f:Addr}{fd:FuncData}(F:Fun K "row_text" "row_text" s_row_text f fd)(nb:NbX mg)(c_NO_BALLS:∃u,mg "NO_BALLS" = some u/\RelV (.str NOB) u) :
 FnOk P w K mg base CX0 1 f fd ["row"] spRowTextW:=by
 have nd:=sc_row_text.nd
 refine F.ok (k:=0) sc_row_text (fun vs H Q E h=>?_) (fun cdv A outer s H vs Q E hr h=>?_)
 ·obtain⟨a,row,rfl,_⟩:=h
  rfl
 obtain⟨a,row,rfl,ha,wd,q⟩:=h
 refine⟨_,(pss_cons (ps_if (pt_not (pt_truth (pv 0) (fun _=>rfl)))
(pss_one (ps_ret (pe_const c_NO_BALLS)))
pss_nil)
(pss_cons (ps_set (i:=1) nd rfl (Or.inl rfl) (pe_bm plainAttrs_str slot_str_join type_str_join mt_join pe_str (pa_cons (pe_comp1 (sc:=defScope s_row_text) (N0:=["row","signs"]) (N:=["row"]) (js:=[0]) rfl rfl rfl (by constructor<;>first|decide +kernel|rfl) rfl
(pi_range2 rfl nb.range (pa_cons (pe_ix ix_tup (pv 0) pe_int (fun _ _=>rfl)) (pa_cons (pe_op op_add (pe_ix ix_tup (pv 0) (pe_un un_neg pe_int) (fun _ _=>rfl)) pe_int) pa_nil)))
(fun _ _ _ _ _=>by exact pts_nil)
(fun _ _ _ _ _=>by exact(pe_ifExp (pt_cmpR (op_inK K rfl) (pv 0) (pv 1) rfl) pe_str pe_str))) pa_nil)))
(pss_one (ps_ret (pe_fstr (pj_int (pe_ix ix_tup (pv 0) pe_int (fun _ _=>rfl)) (pj_str (pj_txt (pv 1) pj_nil)))))))),?_⟩
 cases row with
 |nil=>
  exact⟨_,rfl,false,.inr (.inl ⟨_,SqT.of ha,rfl⟩),iteT (q H (Same.refl H))⟩
 |cons p0 rest=>
  refine⟨_,rfl,true,.inr (.inl ⟨_,SqT.of ha,rfl⟩),iteF ?_⟩
  obtain⟨el,ge,ml⟩:=up_last wd.up
  have bl:=wd.bd _ ml
  have b0:=wd.bd p0 mem_cons_self
  have wi:=wd.wide
  have hd0:(p0::rest).headD 0=p0:=rfl
  rw[hd0]at wi
  have sl:=signs_len (p0::rest)
  rw[hd0]at sl
  have sa:=signs_are (p0::rest)
  rw[hd0]at sa
  have ih:atI ((p0::rest).map V.int) ((0:Nat):Int)=some (.int p0):=atI_nat rfl
  have il:=at_last el
  have js:=join_signs (signsOf (p0::rest))
  have ss:=sum_signs (signsOf (p0::rest))
  have n0:p0.natAbs<10^10:=by omega
  have nl:=num_len n0
  have tx:rowTxt (p0::rest)=numT p0++oS ":"++⟨(signsOf (p0::rest)).toArray⟩:=by
   unfold rowTxt
   rw[if_neg (by simp)]
   rfl
  rw[tx]at q
  generalize hL:(p0::rest).getLastD 0=last at *
  generalize hG:signsOf (p0::rest)=sg at *
  refine⟨rfl,_,rfl,a,_,_,_,rfl,rfl,SqT.of ha,ih,_,rfl,_,rfl,a,_,_,_,rfl,rfl,SqT.of ha,il,_,_,rfl,rfl,_,_,rfl,⟨by omega,by omega,by omega,by omega⟩,fun D hD=>?_⟩
  refine comp_go (last+1 - p0).toNat (by rw[sizeLine_eq];omega) (fun(j:Nat)=>.str (if p0+(j:Int)∈(p0::rest) then oS "o" else oS ".")) (fun σ=>∃o1,σ=[o1,some (.ref a)]) (fun i H' x=>x=.int (p0+(i:Int))) hD ⟨_,rfl⟩ (fun i H' _=>items_rng p0 _ i H' (Same.refl _)) (fun i x σ' H2 hi s2 im hσ R hR=>?_) (fun H1 s1 hD1=>?_)
  ·obtain⟨o1,rfl⟩:=hσ
   subst im
   refine⟨_,rfl,_,rfl,a,_,rfl,.inr (SqT.of (s2 _ _ ha)),rfl,flat_nums _,_,rfl,?_⟩
   rw[in_nums]
   by_cases m:p0+(i:Int)∈p0::rest
   ·rw[decide_eq_true m]
    exact iteT (hR _ _ _ ⟨_,rfl⟩ (Same.refl _) (by rw[if_pos m]))
   ·rw[decide_eq_false m]
    exact iteF (hR _ _ _ ⟨_,rfl⟩ (Same.refl _) (by rw[if_neg m]))
  rw[sa]at hD1
  refine⟨_,D,_,rfl,rfl,hD1,by rw[ss,sizeLine_eq];omega,by rw[js,txt_len,sizeLine_eq];omega,?_⟩
  rw[js]
  refine⟨_,rfl,a,_,_,_,rfl,rfl,SqT.of (s1 _ _ ha),ih,_,rfl,num_log n0,?_,?_,_,rfl,_,rfl,by rw[txt_len,sizeLine_eq];omega,?_,?_,?_⟩
  ·rw[empty_append,sizeLine_eq]
   show(numT p0).length<=_
   omega
  ·rw[empty_append,Str.length_append,sizeLine_eq]
   show(numT p0).length+1<=_
   omega
  ·rw[empty_append,Str.length_append,Str.length_append,txt_len,sizeLine_eq]
   show(numT p0).length+1+sg.length<=_
   omega
  ·rw[empty_append,Str.length_append,Str.length_append,txt_len,sizeLine_eq]
   show(numT p0).length+1+sg.length<=_
   omega
  ·rw[empty_append]
   exact q H1 s1
theorem text_imp {vs:List V}{H:Hp}{Q:VK}{E:XK}(h:spRowText vs H Q E):spRowTextW vs H Q E:=by
 obtain⟨a,row,e,ha,wd,q⟩:=h
 exact⟨a,row,e,ha,wd.wr,q⟩
end
end K96
namespace K96
open L2
def NumOk (z:Str):Prop:=∃n:Int,n.natAbs<10^30/\z=numT n
def spNumE (c4:Addr):Sp:=fun vs H Q E=>∃z:Str,vs=[.str z]/\z.length<=2000/\¬NumOk z/\∀e H',Same H H'->H' e=none->E (.ref c4) (some e) H'
theorem starts_minus (z:Str):Txt.startswith z (oS "-")=decide (z.cps.toList[0]?=some 45):=by
 have e1:(oS "-")=⟨#[45]⟩:=by decide +kernel
 rw[e1,Bool.eq_iff_iff,decide_eq_true_iff]
 unfold Txt.startswith
 rw[and_eq_true,decide_eq_true_iff]
 exact StrLaws.subAt_one z 45 0
theorem slice_from {z:Str}{c:Nat}{cs:List Nat}(h:z.cps.toList=c::cs):(Txt.slice z (some 1) none).cps.toList=cs:=by
 have hl:z.length=cs.length+1:=by rw[str_len,h,length_cons]
 have hix:strSliceIndices (some 1) none 1 z.length=(List.range cs.length).map fun k=>k+1:=by
  rw[hl]
  unfold strSliceIndices sliceRange
  generalize cs.length=q
  simp only[show ¬((1:Int)<0) by decide,if_false,show(1:Int)>0 by decide,if_true]
  have e1:max (0:Int) (min 1 ((q+1:Nat):Int))=1:=by omega
  rw[e1]
  have e3:(if(1:Int)<((q+1:Nat):Int) then(((q+1:Nat):Int) - 1+1 - 1) / 1 else 0).toNat=q:=by
   split<;>omega
  rw[e3]
  refine map_congr_left fun k _=>?_
  omega
 unfold Txt.slice
 rw[hix,if_neg (by rw[length_map,length_range,hl];simp)]
 show((List.range cs.length).map fun k=>k+1).filterMap (z.cps[·]?)=cs
 have e4:∀k,z.cps[k]?=(c::cs)[k]?:=fun k=>by rw[<-h,getElem?_toList]
 rw[filterMap_map]
 have e5:((fun x=>z.cps[x]?)∘fun k=>k+1)=fun k=>cs[k]?:=by
  funext k
  show z.cps[k+1]?=_
  rw[e4,List.getElem?_cons_succ]
 show List.filterMap ((fun x=>z.cps[x]?)∘fun k=>k+1) (List.range cs.length)=cs
 rw[e5]
 exact all_there _
def fgs (z:Str):List Nat:=if z.cps.toList[0]?=some 45 then z.cps.toList.drop 1 else z.cps.toList
theorem fgs_minus {z:Str}(h:z.cps.toList[0]?=some 45):z.cps.toList=45::fgs z:=by
 unfold fgs
 rw[if_pos h]
 cases e:z.cps.toList with
 |nil=>rw[e]at h;cases h
 |cons c cs=>
  rw[e]at h
  cases h
  rfl
theorem val_lt:∀(cs:List Nat) (a:Nat),(∀c∈cs,c<=57)->cs.foldl (fun acc c=>acc*10+(c - 48)) a<(a+1)*10^cs.length
 |[],a,_=>by simp
 |c::cs,a,h=>by
  have:=val_lt cs (a*10+(c - 48)) fun x hx=>h x (mem_cons_of_mem _ hx)
  have c9:=h c mem_cons_self
  rw[List.foldl_cons,length_cons,Nat.pow_succ]
  refine Nat.lt_of_lt_of_le this ?_
  have:a*10+(c - 48)+1<=(a+1)*10:=by omega
  calc(a*10+(c - 48)+1)*10^cs.length<=((a+1)*10)*10^cs.length:=Nat.mul_le_mul_right _ this
   _=(a+1)*(10^cs.length*10):=by rw[Nat.mul_assoc,Nat.mul_comm 10]
theorem fgs_read {z:Str}(dg:∀c∈fgs z,48<=c/\c<=57)(l1:1<=(fgs z).length)(l2:(fgs z).length<=30)(zl:z.length<=2000):∃n:Int,PySem.intText? z=some n/\n.natAbs<10^30:=by
 have ne:fgs z≠[]:=fun e=>by rw[e]at l1;simp at l1
 have lt:NumText.digitsVal (fgs z)<10^30:=by
  have:=val_lt (fgs z) 0 fun c hc=>(dg c hc).2
  rw[Nat.zero_add,Nat.one_mul]at this
  exact Nat.lt_of_lt_of_le this (Nat.pow_le_pow_right (by decide) l2)
 by_cases c:z.cps.toList[0]?=some 45
 ·exact⟨-((NumText.digitsVal (fgs z):Nat):Int),PySem.intText_neg (fgs_minus c) dg ne (by omega),by omega⟩
 ·have e:fgs z=z.cps.toList:=by unfold fgs;rw[if_neg c]
  rw[e]at dg ne lt
  exact⟨((NumText.digitsVal z.cps.toList:Nat):Int),PySem.intText_digits dg ne (by omega),by omega⟩
theorem big_log {n:Int}(h:n.natAbs<10^30):n.natAbs.log2<1920:=by
 by_cases z:n.natAbs=0
 ·rw[z];decide
 ·exact(log2_lt z).mpr (Nat.lt_of_lt_of_le h (by decide))
theorem fig_iff {c:Nat}:c∈FIG.cps.toList↔48<=c/\c<=57:=by
 constructor
 ·intro h
  have e:FIG.cps.toList=[48,49,50,51,52,53,54,55,56,57]:=by decide +kernel
  rw[e]at h
  simp only[mem_cons,not_mem_nil,or_false]at h
  omega
 ·exact fig_in
theorem by_sign (l:List Nat)(f:Nat->V):(List.range l.length).map (fun i=>f (l.getD i 0))=l.map f:=by
 apply ext_getElem?
 intro i
 rw[getElem?_map,getElem?_map]
 by_cases h:i<l.length
 ·rw[getElem?_range h,List.getElem?_eq_getElem h]
  show some (f (l.getD i 0))=some (f l[i])
  rw[getD_eq_getElem?_getD,List.getElem?_eq_getElem h]
  rfl
 ·rw[List.getElem?_eq_none (by simpa using h),List.getElem?_eq_none (by omega)]
  rfl
def NoteOk (z:Str):Prop:=∃row:List Int,Wd row/\row.length<=12/\z=rowTxt row
def spReadE (c4:Addr):Sp:=fun vs H Q E=>∃v:V,vs=[v]/\((∃T,Kn H v T/\subT T "str" = false)\/∃z:Str,v=.str z/\z.length<=1900/\¬NoteOk z)/\∀e H',Same H H'->H' e=none->E (.ref c4) (some e) H'
theorem part_any (z:Str):∃f m s:Str,partV z (oS ":")=[.str f,.str m,.str s]/\f.length<=z.length/\s.length<=z.length:=by
 unfold partV
 split
 ·refine⟨_,_,_,rfl,?_,?_⟩
  ·rw[str_len,str_len]
   show(z.cps.extract _ _).toList.length<=_
   rw[length_toList,Array.size_extract,length_toList]
   omega
  ·rw[str_len,str_len]
   show(z.cps.extract _ _).toList.length<=_
   rw[length_toList,Array.size_extract,length_toList]
   omega
 ·exact⟨_,_,_,rfl,Nat.le_refl _,zero_le _⟩
def balls (n:Int)(sg:List Nat):List Int:=((List.range sg.length).filter fun j=>decide (sg.getD j 0=111)).map fun(j:Nat)=>n+(j:Int)
theorem balls_bd {n:Int}{sg:List Nat}:∀p∈balls n sg,n<=p/\p<n+(sg.length:Int):=fun p hp=>by
 obtain⟨j,hj,rfl⟩:=mem_map.mp hp
 have:=mem_range.mp (mem_filter.mp hj).1
 omega
theorem balls_wide {n:Int}{sg:List Nat}(h:sg.length<=200):(balls n sg).getLastD 0 - (balls n sg).headD 0<=199:=by
 cases e:balls n sg with
 |nil=>decide
 |cons x r=>
  have m1:(x::r).getLastD 0∈x::r:=by
   rw[List.getLastD_eq_getLast?]
   cases q:(x::r).getLast? with
   |none=>exact absurd (List.getLast?_eq_none_iff.mp q) (by simp)
   |some y=>exact List.mem_of_getLast? q
  have a:=balls_bd (n:=n) (sg:=sg) _ (by rw[e];exact m1)
  have b:=balls_bd (n:=n) (sg:=sg) x (by rw[e];exact mem_cons_self)
  show(x::r).getLastD 0 - x<=199
  omega
theorem rise_iff:∀ns:List Int,riseB ns=true↔ns.Pairwise (· < ·)
 |[]=>⟨fun _=>.nil,fun _=>rfl⟩
 |[a]=>⟨fun _=>by simp,fun _=>rfl⟩
 |a::b::r=>by
  rw[rise_two,and_eq_true,decide_eq_true_eq,rise_iff (b::r)]
  constructor
  ·rintro⟨h1,h2⟩
   refine pairwise_cons.mpr ⟨fun x hx=>?_,h2⟩
   rcases mem_cons.mp hx with e | e
   ·omega
   ·have:=(pairwise_cons.mp h2).1 x e
    omega
  ·intro h
   obtain⟨h1,h2⟩:=pairwise_cons.mp h
   exact⟨h1 b mem_cons_self,h2⟩
theorem rise_up {ns:List Int}(h:riseB ns=true):ns.Pairwise (· < ·):=(rise_iff ns).mp h
theorem row_looked {row:List Int}(h:rowB (row.map V.int)=true)(w:row.getLastD 0 - row.headD 0<=199):Wd row/\row.length<=12:=by
 unfold rowB at h
 rw[and_eq_true,and_eq_true,decide_eq_true_iff,length_map]at h
 obtain⟨h1,h2,h3⟩:=h
 have e3:(row.map V.int).map toI=row:=by
  rw[List.map_map]
  exact(map_congr_left fun b _=>rfl).trans (List.map_id row)
 rw[e3]at h3
 refine⟨⟨rise_up h3,fun p hp=>?_,w⟩,h1⟩
 have:=all_eq_true.mp h2 (.int p) (mem_map.mpr ⟨p,hp,rfl⟩)
 have h':(decide (-1000000000<=p)&&decide (p<=1000000000))=true:=this
 rw[and_eq_true,decide_eq_true_eq,decide_eq_true_eq]at h'
 exact h'
theorem int_thing {H:Hp}{a:Addr}{ns:List Int}(h:H a=some (.tup (ns.map V.int)))(l:ns.length<=1000):Thing H (.ref a):=by
 refine⟨⟨_,.tup h⟩,fun b xs e hb=>?_⟩
 cases e
 rw[h]at hb
 cases hb
 refine⟨by rw[length_map];omega,fun x hx=>?_⟩
 obtain⟨i,_,rfl⟩:=mem_map.mp hx
 exact⟨_,.int i⟩
section
variable {P:Program}{w:World}{K:W.Frag}{mg:Str->Option Value}{base:Heap}{c4:Addr}{bm4:List Value}
theorem ok_number_readE {f:Addr}{fd:FuncData}(F:Fun K "number_read" "number_read" s_number_read f fd)(nb:NbX mg)(c_FIGURES:∃u,mg "FIGURES" = some u/\RelV (.str FIG) u)(c_MOST_FIGURES:∃u,mg "MOST_FIGURES" = some u/\RelV (.int 30) u)(hm:mg "BadNote" = some (.ref c4))(ex:Exc K c4 bm4) :
 FnOk P w K mg base (CXF P w) 1 f fd ["text"] (spNumE c4):=by
 have nd:=sc_number_read.nd
 refine F.okE (k:=0) sc_number_read (fun vs H Q E h=>?_) (fun cdv A outer s H vs Q E hr h=>?_)
 ·obtain⟨z,rfl,_⟩:=h
  rfl
 obtain⟨z,rfl,zl,no,q⟩:=h
 refine⟨_,(pss_cons (ps_mid (ps_set (i:=1) nd rfl (Or.inl rfl) (pe_ifExp (pt_truth (pe_bm plainAttrs_str PySem.F.slot_str_startswith PySem.F.type_str_startswith mt_starts (pv 0) (pa_cons pe_str pa_nil)) (fun _=>rfl)) (pe_sliceS (pv 0)) (pv 0))))
(pss_cons (ps_if (PW.pt (pw_or (pt_not (pt_chain op_le op_le pe_int (pe_callB call_len_str rfl nb.len PySem.boot_len (pa_cons (pv 1) pa_nil)) (pe_const c_MOST_FIGURES))) (pw_or1 (pt_not (pt_truth (pe_callB (call_allB rfl) rfl nb.all boot_all (pa_cons (pe_comp1 (sc:=defScope s_number_read) (N0:=["text","figures","number"]) (N:=[]) (js:=[]) rfl rfl rfl (by constructor<;>first|decide +kernel|rfl) rfl
(pi_str (pv 1))
(fun _ _ _ _ _=>by exact pts_nil)
(fun _ _ _ _ _=>by exact(pe_cmpR op_in_str (pv 0) (pe_const c_FIGURES) rfl))) pa_nil)) (fun _=>rfl))))))
(pss_one (ps_raise lvs_cx rfl rfl hm ex (pa_cons (pe_fstr (pj_str (pj_int (pe_const c_MOST_FIGURES) (pj_str pj_nil)))) pa_nil)))
pss_nil)
(pss_cons (ps_set (i:=2) nd rfl (Or.inl rfl) (pe_callTy call_intS rfl nb.int boot_int (pa_cons (pv 0) pa_nil)))
(pss_cons (ps_if (pt_cmpR op_ne (pe_callTy call_str_int rfl nb.str boot_str (pa_cons (pv 2) pa_nil)) (pv 0) (nomark _))
(pss_one (ps_raise lvs_cx rfl rfl hm ex (pa_cons pe_str pa_nil)))
pss_nil)
(pss_one (ps_ret (pv 2))))))),?_⟩
 refine⟨fun σ H'=>H'=H/\∃fg:Str,σ=[some (.str z),some (.str fg),none]/\fg.cps.toList=fgs z,⟨_,rfl,rfl,_,_,rfl,rfl,?_⟩,fun σ' H' hp=>?_⟩
 ·rw[starts_minus]
  refine⟨_,rfl,?_⟩
  by_cases c:z.cps.toList[0]?=some 45
  ·rw[decide_eq_true c]
   exact iteT ⟨_,rfl,_,rfl,by rw[sizeLine_eq];omega,rfl,_,rfl,slice_from (fgs_minus c)⟩
  ·rw[decide_eq_false c]
   refine iteF ⟨_,rfl,rfl,_,rfl,?_⟩
   unfold fgs
   rw[if_neg c]
 ·obtain⟨rfl,fg,rfl,efg⟩:=hp
  have lf:fg.length=(fgs z).length:=by rw[str_len,efg]
  have lz:(fgs z).length<=z.length:=by
   rw[str_len]
   unfold fgs
   split
   ·rw[length_drop];omega
   ·omega
  have rs:∀(H2:Hp),Same H' H2->tRaise E c4 (tCons (tJoin (jStr (oS "a number of at most ") (jInt (tC (V.int 30)) (jStr (oS " figures is due") jNil)))) tNil) ⟨fun _ _=>False,fun _ _=>False,fun _ _=>False,fun _ _=>False⟩ [] H2:=fun H2 s2=>
   ⟨by decide +kernel,30,rfl,by decide,by decide +kernel,by decide +kernel,by decide +kernel,by show 1<=sizeLine;decide,fun e he=>q e H2 s2 he⟩
  refine⟨_,rfl,fg,rfl,by rw[sizeLine_eq,lf];omega,?_⟩
  refine⟨_,_,rfl,rfl,_,rfl,?_⟩
  by_cases c1:1<=(fgs z).length
  ·rw[decide_eq_true (show(1:Int)<=(fg.length:Int) by omega)]
   refine iteT ⟨_,_,rfl,rfl,_,rfl,?_⟩
   by_cases c2:(fgs z).length<=30
   ·rw[decide_eq_true (show(fg.length:Int)<=30 by omega)]
    have sz:fg.cps.size=(fgs z).length:=by rw[<-efg,length_toList]
    refine iteF ⟨_,rfl,fg,rfl,fun D hD=>?_⟩
    refine comp_go fg.cps.size (by rw[sizeLine_eq];omega) (fun i=>.bl (decide ((fgs z).getD i 0∈FIG.cps.toList))) (fun σ=>∃o1,σ=[o1]) _ hD ⟨_,rfl⟩ items_str (fun i x σ' H2 hi s2 im hσ R hR=>?_) (fun H1 s1 hD1=>?_)
    ·obtain⟨o1,rfl⟩:=hσ
     obtain⟨c,hc,rfl⟩:=im
     refine⟨_,rfl,_,_,rfl,rfl,hR _ _ _ ⟨_,rfl⟩ (Same.refl _) ?_⟩
     have ec:(fgs z).getD i 0=c:=by
      rw[<-efg,getD_eq_getElem?_getD,getElem?_toList,hc]
      rfl
     rw[sign_in,ec]
    rw[sz,by_sign (fgs z) (fun c=>V.bl (decide (c∈FIG.cps.toList))),show(fgs z).map (fun c=>V.bl (decide (c∈FIG.cps.toList)))=((fgs z).map fun c=>decide (c∈FIG.cps.toList)).map V.bl by rw[List.map_map];rfl]at hD1
    refine⟨D,_,rfl,SqL.of hD1,_,rfl,?_⟩
    by_cases c3:((fgs z).map fun c=>decide (c∈FIG.cps.toList)).all id=true
    ·rw[c3]
     have dg:∀c∈fgs z,48<=c/\c<=57:=fun c hc=>by
      rw[all_map]at c3
      exact fig_iff.mp (of_decide_eq_true (all_eq_true.mp c3 c hc))
     obtain⟨n,rn,nb30⟩:=fgs_read dg c1 c2 zl
     refine iteF ⟨_,rfl,_,n,rfl,rn,?_,?_⟩
     ·have:z.length<=(fgs z).length+1:=by
       rw[str_len]
       unfold fgs
       split
       ·rw[length_drop];omega
       ·omega
      omega
     refine⟨_,rfl,n,rfl,big_log nb30,_,rfl,rfl,_,rfl,?_⟩
     rw[decide_eq_false (fun e=>no ⟨n,nb30,by injection e with e;exact e.symm⟩)]
     exact iteT ⟨by show 1<=sizeLine;decide,fun e he=>q e H1 s1 he⟩
    ·rw[eq_false_iff.mpr c3]
     exact iteT (rs H1 s1)
   ·rw[decide_eq_false (show ¬(fg.length:Int)<=30 by omega)]
    exact iteT (iteT (rs H' (Same.refl _)))
  ·rw[decide_eq_false (show ¬(1:Int)<=(fg.length:Int) by omega)]
   exact iteF ⟨_,rfl,iteT (iteT (rs H' (Same.refl _)))⟩
theorem ok_row_readE {f:Addr}{fd:FuncData}(F:Fun K "row_read" "row_read" s_row_read f fd)(nb:NbX mg)(h_number_read:Has P w K mg base 1 "number_read" ["text"] spNumRead)(h_is_row:Has P w K mg base 2 "is_row" ["thing"] spIsRow)(h_row_text:Has P w K mg base 1 "row_text" ["row"] spRowText)(hE_number_read:HasE P w K mg base 1 "number_read" ["text"] (spNumE c4))(c_NO_BALLS:∃u,mg "NO_BALLS" = some u/\RelV (.str NOB) u)(c_MOST_BOXES:∃u,mg "MOST_BOXES" = some u/\RelV (.int 200) u)(hm:mg "BadNote" = some (.ref c4))(ex:Exc K c4 bm4) :
 FnOk P w K mg base (CXF P w) 3 f fd ["text"] (spReadE c4):=by
 have nd:=sc_row_read.nd
 refine F.okE (k:=2) sc_row_read (fun vs H Q E h=>?_) (fun cdv A outer s H vs Q E hr h=>?_)
 ·obtain⟨v,rfl,_⟩:=h
  rfl
 obtain⟨v,rfl,bad,q⟩:=h
 rcases bad with⟨T,kn,ns⟩ | ⟨z,rfl,zl,no⟩
 ·refine⟨_,(pss_cons (ps_if (pt_not (pt_truth (pe_callB call_isiS rfl nb.isi boot_isinstance (pa_cons (pv 0) (pa_cons (pe_ty nb.str boot_str) pa_nil))) (fun _=>rfl)))
(pss_one (ps_raise lvs_cx rfl rfl hm ex (pa_cons pe_str pa_nil)))
pss_nil)
(pss_cons (ps_if (pt_cmpR op_eq (pv 0) (pe_const c_NO_BALLS) (nomark _))
(pss_one (ps_ret (pe_tup pa_nil)))
pss_nil)
(pss_cons (ps_asg (pe_bm plainAttrs_str slot_str_partition type_str_partition mt_part (pv 0) (pa_cons pe_str pa_nil)) (pg_tup rfl (pgs_cons (pg_name (i:=1) nd rfl (Or.inl rfl)) (pgs_cons (pg_name (i:=2) nd rfl (Or.inl rfl)) (pgs_cons (pg_name (i:=3) nd rfl (Or.inl rfl)) pgs_nil)))))
(pss_cons (ps_if (pt_cmpR op_gt (pe_callB call_len_str rfl nb.len PySem.boot_len (pa_cons (pv 3) pa_nil)) (pe_const c_MOST_BOXES) (nomark _))
(pss_one (ps_raise lvs_cx rfl rfl hm ex (pa_cons (pe_fstr (pj_str (pj_int (pe_const c_MOST_BOXES) (pj_str pj_nil)))) pa_nil)))
pss_nil)
(pss_cons (ps_set (i:=4) nd rfl (Or.inr rfl) (pe_def h_number_read hr (pa_cons (pv 1) pa_nil)))
(pss_cons (ps_set (i:=5) nd rfl (Or.inl rfl) (pe_callTy call_tuple_of rfl nb.tuple boot_tuple (pa_cons (pe_comp2 (sc:=defScope s_row_read) (N0:=["text","first","mark","signs","start","row"]) (N:=["start"]) (js:=[4]) rfl rfl rfl (by constructor<;>first|decide +kernel|rfl) rfl rfl
(pi_enumS rfl nb.enum (pa_cons (pv 3) pa_nil))
(fun _ _ _ _ _=>by exact(pts_one (pt_cmpR op_eq (pv 1) pe_str (nomark _))))
(fun _ _ _ _ _=>by exact(pe_op op_add (pv 2) (pv 0)))) pa_nil)))
(pss_cons (ps_if (PW.pt (pw_or (pt_not (pt_truth (pe_def h_is_row hr (pa_cons (pv 5) pa_nil)) (fun _=>rfl))) (pw_or1 (pt_cmpR op_ne (pe_def h_row_text hr (pa_cons (pv 5) pa_nil)) (pv 0) (nomark _)))))
(pss_one (ps_raise lvs_cx rfl rfl hm ex (pa_cons pe_str pa_nil)))
pss_nil)
(pss_one (ps_ret (pv 5)))))))))),?_⟩
  refine⟨_,rfl,_,_,rfl,kn,_,rfl,?_⟩
  rw[ns]
  exact iteT ⟨by show 1<=sizeLine;decide,fun e he=>q e H (Same.refl H) he⟩
 have nn:z≠NOB:=fun e=>no ⟨[],⟨.nil,fun p hp=>absurd hp not_mem_nil,by decide⟩,by decide,by rw[e];unfold rowTxt;rw[if_pos rfl]⟩
 obtain⟨f1,m1,s1,ep,lf,ls⟩:=part_any z
 by_cases nk:NumOk f1
 ·refine⟨_,(pss_cons (ps_if (pt_not (pt_truth (pe_callB call_isiS rfl nb.isi boot_isinstance (pa_cons (pv 0) (pa_cons (pe_ty nb.str boot_str) pa_nil))) (fun _=>rfl)))
(pss_one (ps_raise lvs_cx rfl rfl hm ex (pa_cons pe_str pa_nil)))
pss_nil)
(pss_cons (ps_if (pt_cmpR op_eq (pv 0) (pe_const c_NO_BALLS) (nomark _))
(pss_one (ps_ret (pe_tup pa_nil)))
pss_nil)
(pss_cons (ps_asg (pe_bm plainAttrs_str slot_str_partition type_str_partition mt_part (pv 0) (pa_cons pe_str pa_nil)) (pg_tup rfl (pgs_cons (pg_name (i:=1) nd rfl (Or.inl rfl)) (pgs_cons (pg_name (i:=2) nd rfl (Or.inl rfl)) (pgs_cons (pg_name (i:=3) nd rfl (Or.inl rfl)) pgs_nil)))))
(pss_cons (ps_if (pt_cmpR op_gt (pe_callB call_len_str rfl nb.len PySem.boot_len (pa_cons (pv 3) pa_nil)) (pe_const c_MOST_BOXES) (nomark _))
(pss_one (ps_raise lvs_cx rfl rfl hm ex (pa_cons (pe_fstr (pj_str (pj_int (pe_const c_MOST_BOXES) (pj_str pj_nil)))) pa_nil)))
pss_nil)
(pss_cons (ps_set (i:=4) nd rfl (Or.inr rfl) (pe_def h_number_read hr (pa_cons (pv 1) pa_nil)))
(pss_cons (ps_set (i:=5) nd rfl (Or.inl rfl) (pe_callTy call_tuple_of rfl nb.tuple boot_tuple (pa_cons (pe_comp2 (sc:=defScope s_row_read) (N0:=["text","first","mark","signs","start","row"]) (N:=["start"]) (js:=[4]) rfl rfl rfl (by constructor<;>first|decide +kernel|rfl) rfl rfl
(pi_enumS rfl nb.enum (pa_cons (pv 3) pa_nil))
(fun _ _ _ _ _=>by exact(pts_one (pt_cmpR op_eq (pv 1) pe_str (nomark _))))
(fun _ _ _ _ _=>by exact(pe_op op_add (pv 2) (pv 0)))) pa_nil)))
(pss_cons (ps_if (PW.pt (pw_or (pt_not (pt_truth (pe_def h_is_row hr (pa_cons (pv 5) pa_nil)) (fun _=>rfl))) (pw_or1 (pt_cmpR op_ne (pe_def h_row_text hr (pa_cons (pv 5) pa_nil)) (pv 0) (nomark _)))))
(pss_one (ps_raise lvs_cx rfl rfl hm ex (pa_cons pe_str pa_nil)))
pss_nil)
(pss_one (ps_ret (pv 5)))))))))),?_⟩
  refine⟨_,rfl,_,_,rfl,.str _,_,rfl,iteF ?_⟩
  refine⟨_,rfl,rfl,_,rfl,?_⟩
  rw[decide_eq_false (fun e=>nn (by injection e))]
  refine iteF ⟨_,rfl,rfl,_,_,rfl,rfl,by decide +kernel,by rw[sizeLine_eq];omega,fun p hp=>?_⟩
  rw[ep]
  have s2:=same_new hp (.tup [.str f1,.str m1,.str s1])
  have h2:(upd H p (.tup [.str f1,.str m1,.str s1])) p=some (.tup [.str f1,.str m1,.str s1]):=upd_same
  generalize upd H p (.tup [.str f1,.str m1,.str s1])=H2 at s2 h2 ⊢
  refine⟨p,_,rfl,SqT.of h2,rfl,_,_,rfl,_,_,rfl,_,_,rfl,rfl,?_⟩
  refine⟨_,rfl,_,rfl,by rw[sizeLine_eq];omega,_,_,rfl,rfl,_,rfl,?_⟩
  by_cases c1:200<s1.length
  ·rw[decide_eq_true (by omega)]
   exact iteT ⟨by decide +kernel,200,rfl,by decide,by decide +kernel,by decide +kernel,by decide +kernel,by show 1<=sizeLine;decide,fun e he=>q e H2 s2 he⟩
  ·rw[decide_eq_false (by omega)]
   obtain⟨n,n30,en⟩:=nk
   refine iteF ⟨_,rfl,n,by rw[en];rfl,n30,fun H3 s3=>?_⟩
   have S3:=s2.trans s3
   obtain⟨sg,esg⟩:∃sg:List Nat,s1.cps.toList=sg:=⟨_,rfl⟩
   have lsg:s1.length=sg.length:=by rw[str_len,esg]
   have szs:s1.cps.size=sg.length:=by rw[<-esg,length_toList]
   refine⟨_,rfl,s1,rfl,fun D hD=>?_⟩
   refine comp_sel s1.cps.size (by rw[sizeLine_eq];omega) (fun j=>decide (sg.getD j 0=111)) (fun(j:Nat)=>.int (n+(j:Int))) (fun σ=>∃o1 o2,σ=[o1,o2,some (.int n)]) _ hD ⟨_,_,rfl⟩ (fun i H5 s5=>items_enumS (x:=s1) i H5 s5) (fun i x σ' H5 hi s5 im hσ R S hR hS=>?_) (fun H4 s4 hD4=>?_)
   ·obtain⟨o1,o2,rfl⟩:=hσ
    obtain⟨p2,c,rfl,hp2,hc⟩:=im
    have gc:sg.getD i 0=c:=by
     rw[<-esg,getD_eq_getElem?_getD,getElem?_toList,hc]
     rfl
    refine⟨p2,_,rfl,SqT.of hp2,rfl,_,_,rfl,_,_,rfl,rfl,?_⟩
    refine⟨_,rfl,rfl,_,rfl,?_⟩
    rw[o_is]
    by_cases e:c=111
    ·rw[decide_eq_true (by rw[e])]
     exact iteT ⟨_,rfl,_,rfl,_,_,rfl,rfl,hR (by rw[gc];exact decide_eq_true e) _ _ _ ⟨_,_,rfl⟩ (Same.refl _) rfl⟩
    ·rw[decide_eq_false (fun z=>e (by injection z with z;injection z with z;injection z with z;injection z))]
     exact iteF (hS (by rw[gc];exact decide_eq_false e) _ _ ⟨_,_,rfl⟩ (Same.refl _))
   have eD:((List.range s1.cps.size).filter fun j=>decide (sg.getD j 0=111)).map (fun(j:Nat)=>V.int (n+(j:Int)))=(balls n sg).map V.int:=by
    rw[szs]
    unfold balls
    rw[List.map_map]
    rfl
   rw[eD]at hD4
   refine⟨D,_,rfl,.inl ⟨SqL.of hD4,fun l hl=>?_⟩⟩
   have s5:=same_new hl (.tup ((balls n sg).map V.int))
   have h5:(upd H4 l (.tup ((balls n sg).map V.int))) l=some (.tup ((balls n sg).map V.int)):=upd_same
   generalize upd H4 l (.tup ((balls n sg).map V.int))=H5 at s5 h5 ⊢
   have S5:=S3.trans (s4.trans s5)
   have bl:(balls n sg).length<=200:=by
    unfold balls
    rw[length_map]
    have:=List.length_filter_le (fun j=>decide (sg.getD j 0=111)) (List.range sg.length)
    rw[length_range]at this
    omega
   refine⟨_,rfl,_,rfl,int_thing h5 (by omega),fun H6 s6=>?_⟩
   rw[rowV_tup h5]
   refine⟨_,rfl,?_⟩
   by_cases c2:rowB ((balls n sg).map V.int)=true
   ·rw[c2]
    obtain⟨wd,l12⟩:=row_looked c2 (balls_wide (by omega))
    refine iteF ⟨_,rfl,l,_,rfl,s6 _ _ h5,wd,fun H7 s7=>⟨_,rfl,rfl,_,rfl,?_⟩⟩
    rw[decide_eq_false (fun e=>no ⟨_,wd,l12,by injection e with e;exact e.symm⟩)]
    exact iteT ⟨by show 1<=sizeLine;decide,fun e he=>q e H7 (S5.trans (s6.trans s7)) he⟩
   ·rw[eq_false_iff.mpr c2]
    exact iteT (iteT ⟨by show 1<=sizeLine;decide,fun e he=>q e H6 (S5.trans s6) he⟩)
 ·refine⟨_,(pss_cons (ps_if (pt_not (pt_truth (pe_callB call_isiS rfl nb.isi boot_isinstance (pa_cons (pv 0) (pa_cons (pe_ty nb.str boot_str) pa_nil))) (fun _=>rfl)))
(pss_one (ps_raise lvs_cx rfl rfl hm ex (pa_cons pe_str pa_nil)))
pss_nil)
(pss_cons (ps_if (pt_cmpR op_eq (pv 0) (pe_const c_NO_BALLS) (nomark _))
(pss_one (ps_ret (pe_tup pa_nil)))
pss_nil)
(pss_cons (ps_asg (pe_bm plainAttrs_str slot_str_partition type_str_partition mt_part (pv 0) (pa_cons pe_str pa_nil)) (pg_tup rfl (pgs_cons (pg_name (i:=1) nd rfl (Or.inl rfl)) (pgs_cons (pg_name (i:=2) nd rfl (Or.inl rfl)) (pgs_cons (pg_name (i:=3) nd rfl (Or.inl rfl)) pgs_nil)))))
(pss_cons (ps_if (pt_cmpR op_gt (pe_callB call_len_str rfl nb.len PySem.boot_len (pa_cons (pv 3) pa_nil)) (pe_const c_MOST_BOXES) (nomark _))
(pss_one (ps_raise lvs_cx rfl rfl hm ex (pa_cons (pe_fstr (pj_str (pj_int (pe_const c_MOST_BOXES) (pj_str pj_nil)))) pa_nil)))
pss_nil)
(pss_cons (ps_set (i:=4) nd rfl (Or.inr rfl) (pe_defE hE_number_read lvs_cx hr (pa_cons (pv 1) pa_nil))) pss_never))))),?_⟩
  refine⟨_,rfl,_,_,rfl,.str _,_,rfl,iteF ?_⟩
  refine⟨_,rfl,rfl,_,rfl,?_⟩
  rw[decide_eq_false (fun e=>nn (by injection e))]
  refine iteF ⟨_,rfl,rfl,_,_,rfl,rfl,by decide +kernel,by rw[sizeLine_eq];omega,fun p hp=>?_⟩
  rw[ep]
  have s2:=same_new hp (.tup [.str f1,.str m1,.str s1])
  have h2:(upd H p (.tup [.str f1,.str m1,.str s1])) p=some (.tup [.str f1,.str m1,.str s1]):=upd_same
  generalize upd H p (.tup [.str f1,.str m1,.str s1])=H2 at s2 h2 ⊢
  refine⟨p,_,rfl,SqT.of h2,rfl,_,_,rfl,_,_,rfl,_,_,rfl,rfl,?_⟩
  refine⟨_,rfl,_,rfl,by rw[sizeLine_eq];omega,_,_,rfl,rfl,_,rfl,?_⟩
  by_cases c1:200<s1.length
  ·rw[decide_eq_true (by omega)]
   exact iteT ⟨by decide +kernel,200,rfl,by decide,by decide +kernel,by decide +kernel,by decide +kernel,by show 1<=sizeLine;decide,fun e he=>q e H2 s2 he⟩
  ·rw[decide_eq_false (by omega)]
   exact iteF ⟨_,rfl,f1,rfl,by omega,nk,fun e H' s3 he=>q e H' (s2.trans s3) he⟩
end
end K96
namespace K96
open L2
abbrev LET:Str:=oS "abcdefghijklmnopqrstuvwxyz"
def nameB (z:Str):Bool:=decide (1<=z.cps.toList.length)&&decide (z.cps.toList.length<=8)&&z.cps.toList.all fun c=>decide (c∈LET.cps.toList)
def spName (c4:Addr):Sp:=fun vs H Q E=>∃z:Str,vs=[.str z]/\z.length<=2000/\(nameB z=true->∀H',Same H H'->Q .non H')/\(nameB z=false->∀e H',Same H H'->H' e=none->E (.ref c4) (some e) H')
def PartR (c4:Addr)(f z:Str)(H:Hp)(Q:VK)(E:XK):Prop:=
 if f=oS "TEXT" then orSp spRowRead (spReadE c4) [.str z] H Q E else if f=oS "K" then orSp spNumRead (spNumE c4) [.str z] H Q E
 else(nameB z=true->∀H',Same H H'->Q (.str z) H')/\(nameB z=false->∀e H',Same H H'->H' e=none->E (.ref c4) (some e) H')
def spPart (c4:Addr):Sp:=fun vs H Q E=>∃f z:Str,vs=[.str f,.str z]/\z.length<=1900/\PartR c4 f z H Q E
section
variable {P:Program}{w:World}{K:W.Frag}{mg:Str->Option Value}{base:Heap}{c4:Addr}{bm4:List Value}
theorem ok_need_name {f:Addr}{fd:FuncData}(F:Fun K "need_name" "need_name" s_need_name f fd)(nb:NbX mg)(c_LETTERS:∃u,mg "LETTERS" = some u/\RelV (.str LET) u)(c_LONGEST_NAME:∃u,mg "LONGEST_NAME" = some u/\RelV (.int 8) u)(hm:mg "BadNote" = some (.ref c4))(ex:Exc K c4 bm4) :
 FnOk P w K mg base (CXF P w) 1 f fd ["word"] (spName c4):=by
 have nd:=sc_need_name.nd
 refine F.okE (k:=0) sc_need_name (fun vs H Q E h=>?_) (fun cdv A outer s H vs Q E hr h=>?_)
 ·obtain⟨z,rfl,_⟩:=h
  rfl
 obtain⟨z,rfl,zl,q1,q2⟩:=h
 refine⟨_,(pss_one (ps_if (PW.pt (pw_or (pt_not (pt_chain op_le op_le pe_int (pe_callB call_len_str rfl nb.len PySem.boot_len (pa_cons (pv 0) pa_nil)) (pe_const c_LONGEST_NAME))) (pw_or1 (pt_not (pt_truth (pe_callB (call_allB rfl) rfl nb.all boot_all (pa_cons (pe_comp1 (sc:=defScope s_need_name) (N0:=["word"]) (N:=[]) (js:=[]) rfl rfl rfl (by constructor<;>first|decide +kernel|rfl) rfl
(pi_str (pv 0))
(fun _ _ _ _ _=>by exact pts_nil)
(fun _ _ _ _ _=>by exact(pe_cmpR op_in_str (pv 0) (pe_const c_LETTERS) rfl))) pa_nil)) (fun _=>rfl))))))
(pss_one (ps_raise lvs_cx rfl rfl hm ex (pa_cons (pe_fstr (pj_str (pj_int (pe_const c_LONGEST_NAME) (pj_str pj_nil)))) pa_nil)))
pss_nil)),?_⟩
 have lz:=str_len z
 have sz:z.cps.size=z.cps.toList.length:=by rw[length_toList]
 have rs:nameB z=false->∀(D:Ends) (σ:L2.St) (H2:Hp),Same H H2->tRaise E c4 (tCons (tJoin (jStr (oS "a name of 1 to ") (jInt (tC (V.int 8)) (jStr (oS " small letters is due") jNil)))) tNil) D σ H2:=fun no D σ H2 s2=>
  ⟨by decide +kernel,8,rfl,by decide,by decide +kernel,by decide +kernel,by decide +kernel,by show 1<=sizeLine;decide,fun e he=>q2 no e H2 s2 he⟩
 refine⟨_,rfl,z,rfl,by rw[sizeLine_eq];omega,?_⟩
 refine⟨_,_,rfl,rfl,_,rfl,?_⟩
 by_cases c1:1<=z.cps.toList.length
 ·rw[decide_eq_true (show(1:Int)<=(z.length:Int) by omega)]
  refine iteT ⟨_,_,rfl,rfl,_,rfl,?_⟩
  by_cases c2:z.cps.toList.length<=8
  ·rw[decide_eq_true (show(z.length:Int)<=8 by omega)]
   refine iteF ⟨_,rfl,z,rfl,fun D hD=>?_⟩
   refine comp_go z.cps.size (by rw[sizeLine_eq];omega) (fun i=>.bl (decide (z.cps.toList.getD i 0∈LET.cps.toList))) (fun σ=>∃o1,σ=[o1]) _ hD ⟨_,rfl⟩ items_str (fun i x σ' H2 hi s2 im hσ R hR=>?_) (fun H1 s1 hD1=>?_)
   ·obtain⟨o1,rfl⟩:=hσ
    obtain⟨c,hc,rfl⟩:=im
    refine⟨_,rfl,_,_,rfl,rfl,hR _ _ _ ⟨_,rfl⟩ (Same.refl _) ?_⟩
    have ec:z.cps.toList.getD i 0=c:=by
     rw[getD_eq_getElem?_getD,getElem?_toList,hc]
     rfl
    rw[sign_in,ec]
   rw[sz,by_sign z.cps.toList (fun c=>V.bl (decide (c∈LET.cps.toList))),show z.cps.toList.map (fun c=>V.bl (decide (c∈LET.cps.toList)))=(z.cps.toList.map fun c=>decide (c∈LET.cps.toList)).map V.bl by rw[List.map_map];rfl]at hD1
   refine⟨D,_,rfl,SqL.of hD1,_,rfl,?_⟩
   have en:nameB z=(z.cps.toList.map fun c=>decide (c∈LET.cps.toList)).all id:=by
    unfold nameB
    rw[decide_eq_true c1,decide_eq_true c2,all_map]
    rfl
   cases c3:(z.cps.toList.map fun c=>decide (c∈LET.cps.toList)).all id with
   |true=>exact iteF (q1 (en.trans c3) H1 s1)
   |false=>exact iteT (rs (en.trans c3) _ _ H1 s1)
  ·rw[decide_eq_false (show ¬(z.length:Int)<=8 by omega)]
   exact iteT (iteT (rs (by unfold nameB;rw[decide_eq_false c2,Bool.and_false];rfl) _ _ H (Same.refl _)))
 ·rw[decide_eq_false (show ¬(1:Int)<=(z.length:Int) by omega)]
  exact iteF ⟨_,rfl,iteT (iteT (rs (by unfold nameB;rw[decide_eq_false c1];rfl) _ _ H (Same.refl _)))⟩
theorem ok_part_read {f:Addr}{fd:FuncData}(F:Fun K "part_read" "part_read" s_part_read f fd)(nb:NbX mg)(hE_row_read:HasE P w K mg base 3 "row_read" ["text"] (orSp spRowRead (spReadE c4)))(hE_number_read:HasE P w K mg base 1 "number_read" ["text"] (orSp spNumRead (spNumE c4)))(hE_need_name:HasE P w K mg base 1 "need_name" ["word"] (spName c4))(hm:mg "BadNote" = some (.ref c4))(ex:Exc K c4 bm4) :
 FnOk P w K mg base (CXF P w) 4 f fd ["form","word"] (spPart c4):=by
 have nd:=sc_part_read.nd
 refine F.okE (k:=3) sc_part_read (fun vs H Q E h=>?_) (fun cdv A outer s H vs Q E hr h=>?_)
 ·obtain⟨f,z,rfl,_⟩:=h
  rfl
 obtain⟨fo,z,rfl,zl,pr⟩:=h
 refine⟨_,(pss_cons (ps_if (pt_cmpR op_eq (pv 0) pe_str (nomark _))
(pss_one (ps_ret (pe_defE hE_row_read lvs_cx hr (pa_cons (pv 1) pa_nil))))
pss_nil)
(pss_cons (ps_if (pt_cmpR op_eq (pv 0) pe_str (nomark _))
(pss_one (ps_ret (pe_defE hE_number_read lvs_cx hr (pa_cons (pv 1) pa_nil))))
pss_nil)
(pss_cons (ps_expr (pe_defE hE_need_name lvs_cx hr (pa_cons (pv 1) pa_nil)))
(pss_one (ps_ret (pv 1)))))),?_⟩
 unfold PartR at pr
 refine⟨_,rfl,rfl,_,rfl,?_⟩
 by_cases c1:fo=oS "TEXT"
 ·rw[if_pos c1]at pr
  rw[decide_eq_true (by rw[c1])]
  exact iteT ⟨_,rfl,pr⟩
 rw[if_neg c1]at pr
 rw[decide_eq_false (fun e=>c1 (by injection e))]
 refine iteF ⟨_,rfl,rfl,_,rfl,?_⟩
 by_cases c2:fo=oS "K"
 ·rw[if_pos c2]at pr
  rw[decide_eq_true (by rw[c2])]
  exact iteT ⟨_,rfl,pr⟩
 rw[if_neg c2]at pr
 rw[decide_eq_false (fun e=>c2 (by injection e))]
 exact iteF ⟨_,rfl,z,rfl,by omega,fun h H' s'=>⟨_,rfl,pr.1 h H' s'⟩,pr.2⟩
end
end K96
namespace K96
open L2
def formsL:List (Str×List Str):=[("row",["N","TEXT"]),("kept",[]),("show",["A"]),("later",["A","K","N"]),("small",["A","K","N"]),("peel",["A","N"]),("lengths",["A"]),("takings",["A"]),("free",["A"]),("alike",["A","A"])]
def formsOf (x:Str):Option (List Str):=(formsL.find? fun p=>decide (p.1=x)).map (·.2)
def FormsAt (P:Program)(w:World)(K:W.Frag)(fm:Addr):Prop:=∃kvs,KDict P w K fm kvs/\∀x:Str,(formsOf x=none->valV kvs (Sum.inr x)=none)/\∀fs,formsOf x=some fs->∃t:Addr,valV kvs (Sum.inr x)=some (.ref t)/\∀H:Hp,SqT K H t (fs.map V.str)
def Val (H:Hp)(f z:Str)(v:V):Prop:=
 if f=oS "TEXT" then ∃(r:Addr) (row:List Int),v=.ref r/\H r=some (.tup (row.map V.int))/\Wd row/\row.length<=12/\z=rowTxt row
 else if f=oS "K" then ∃n:Int,v=.int n/\n.natAbs<10^30/\z=numT n else v=.str z/\nameB z=true
theorem Val.same {H H':Hp}{f z:Str}{v:V}(h:Val H f z v)(s:Same H H'):Val H' f z v:=by
 unfold Val at h ⊢
 split
 ·rename_i c
  rw[if_pos c]at h
  obtain⟨r,row,a,b,c⟩:=h
  exact⟨r,row,a,s _ _ b,c⟩
 ·rename_i c
  rw[if_neg c]at h
  exact h
def Good (f z:Str):Prop:=if f=oS "TEXT" then NoteOk z else if f=oS "K" then NumOk z else nameB z=true
def Refuse (H:Hp)(E:XK)(c:Addr):Prop:=∀e H',Same H H'->H' e=none->E (.ref c) (some e) H'
theorem Refuse.same {H H':Hp}{E:XK}{c:Addr}(h:Refuse H E c)(s:Same H H'):Refuse H' E c:=fun e H2 s2 he=>h e H2 (s.trans s2) he
theorem part_good {c4:Addr}{f z:Str}{H:Hp}{Q:VK}{E:XK}(g:Good f z)(q:∀v H',Same H H'->Val H' f z v->Q v H'):PartR c4 f z H Q E:=by
 unfold PartR
 unfold Good at g
 by_cases c1:f=oS "TEXT"
 ·rw[if_pos c1]at g ⊢
  obtain⟨row,wd,l12,rfl⟩:=g
  exact .inl ⟨row,rfl,wd,l12,trivial,fun r H' s hr=>q _ H' s (by unfold Val;rw[if_pos c1];exact⟨r,row,rfl,hr,wd,l12,rfl⟩)⟩
 rw[if_neg c1]at g ⊢
 by_cases c2:f=oS "K"
 ·rw[if_pos c2]at g ⊢
  obtain⟨n,n30,rfl⟩:=g
  exact .inl ⟨n,rfl,n30,fun H' s=>q _ H' s (by unfold Val;rw[if_neg c1,if_pos c2];exact⟨n,rfl,n30,rfl⟩)⟩
 rw[if_neg c2]at g ⊢
 exact⟨fun _ H' s=>q _ H' s (by unfold Val;rw[if_neg c1,if_neg c2];exact⟨rfl,g⟩),fun z=>absurd (g.symm.trans z) (by decide)⟩
theorem part_bad {c4:Addr}{f z:Str}{H:Hp}{Q:VK}{E:XK}(g:¬Good f z)(zl:z.length<=1900)(q:Refuse H E c4):PartR c4 f z H Q E:=by
 unfold PartR
 unfold Good at g
 by_cases c1:f=oS "TEXT"
 ·rw[if_pos c1]at g ⊢
  exact .inr ⟨.str z,rfl,.inr ⟨z,rfl,zl,g⟩,q⟩
 rw[if_neg c1]at g ⊢
 by_cases c2:f=oS "K"
 ·rw[if_pos c2]at g ⊢
  exact .inr ⟨z,rfl,by omega,g,q⟩
 rw[if_neg c2]at g ⊢
 exact⟨fun y=>absurd y g,fun _=>q⟩
abbrev BLK:Str:=oS " "
def LineR (c4:Addr)(z:Str)(H:Hp)(Q:VK)(E:XK):Prop:=∃(x:Str) (rest:List Str),Txt.split z BLK=x::rest/\(∀y∈rest,y.length<=1900)/\
 match formsOf x with
 |none=>Refuse H E c4
 |some fs=>if fs.length=rest.length then
  ((∃(j:Nat) (f y:Str),fs[j]?=some f/\rest[j]?=some y/\¬Good f y)->Refuse H E c4)/\
  ∀(tp L:Addr) (ys:List V) (H':Hp),Same H H'->H' tp=some (.tup [.str x,.ref L])->H' L=some (.lst ys)->ys.length=fs.length->
   (∀(j:Nat) (f y:Str),fs[j]?=some f->rest[j]?=some y->∃(p:Addr) (v:V),ys[j]?=some (.ref p)/\H' p=some (.tup [.str f,v])/\Val H' f y v)->Q (.ref tp) H'
  else Refuse H E c4
def spLine (c4:Addr):Sp:=fun vs H Q E=>∃v:V,vs=[v]/\((∃T,Kn H v T/\subT T "str" = false/\Refuse H E c4)\/∃z:Str,v=.str z/\z.length<=1900/\LineR c4 z H Q E)
section
variable {P:Program}{w:World}{K:W.Frag}{mg:Str->Option Value}{base:Heap}{c4:Addr}{bm4:List Value}{fm:Addr}
theorem ok_line_read {f:Addr}{fd:FuncData}(F:Fun K "line_read" "line_read" s_line_read f fd)(nb:NbX mg)(hE_part_read:HasE P w K mg base 4 "part_read" ["form","word"] (spPart c4))(c_FORMS:∃u,mg "FORMS" = some u/\RelV (.ref fm) u)(hm:mg "BadNote" = some (.ref c4))(ex:Exc K c4 bm4)(fms:FormsAt P w K fm) :
 FnOk P w K mg base (CXF P w) 5 f fd ["line"] (spLine c4):=by
 have nd:=sc_line_read.nd
 refine F.okE (k:=4) sc_line_read (fun vs H Q E h=>?_) (fun cdv A outer s H vs Q E hr h=>?_)
 ·obtain⟨v,rfl,_⟩:=h
  rfl
 obtain⟨v,rfl,lr⟩:=h
 refine⟨_,(pss_cons (ps_if (pt_not (pt_truth (pe_callB call_isiS rfl nb.isi boot_isinstance (pa_cons (pv 0) (pa_cons (pe_ty nb.str boot_str) pa_nil))) (fun _=>rfl)))
(pss_one (ps_raise lvs_cx rfl rfl hm ex (pa_cons pe_str pa_nil)))
pss_nil)
(pss_cons (ps_asg (pe_bm plainAttrs_str slot_str_split PySem.F.type_str_split mt_split (pv 0) (pa_cons pe_str pa_nil)) (pg_star rfl (pgs_cons (pg_name (i:=1) nd rfl (Or.inl rfl)) (pgs_cons (pg_name (i:=2) nd rfl (Or.inl rfl)) pgs_nil))))
(pss_cons (ps_if (PW.pt (pw_or (pt_cmpR op_notInKD (pv 1) (pe_const c_FORMS) rfl) (pw_or1 (pt_cmpR op_ne (pe_callB call_len_seq rfl nb.len PySem.boot_len (pa_cons (pv 2) pa_nil)) (pe_callB call_len_seq rfl nb.len PySem.boot_len (pa_cons (pe_kget (pe_const c_FORMS) (pv 1) (fun _ _=>rfl)) pa_nil)) (nomark _)))))
(pss_one (ps_raise lvs_cx rfl rfl hm ex (pa_cons pe_str pa_nil)))
pss_nil)
(pss_one (ps_ret (pe_tup (pa_cons (pv 1) (pa_cons (pe_compE2 (sc:=defScope s_line_read) (N0:=["line","word","rest"]) (N:=[]) (js:=[]) lvs_cx rfl rfl rfl (by constructor<;>first|decide +kernel|rfl) rfl rfl
(pi_zipm rfl nb.zip (pa_cons (pe_kget (pe_const c_FORMS) (pv 1) (fun _ _=>rfl)) (pa_cons (pv 2) pa_nil)))
(fun _ _ _ _ _=>by exact pts_nil)
(fun _ _ _ _ _=>by exact(pe_tup (pa_cons (pv 0) (pa_cons (pe_defP hE_part_read passes_blk hr (pa_cons (pv 0) (pa_cons (pv 1) pa_nil))) pa_nil))))) pa_nil)))))))),?_⟩
 rcases lr with⟨T,kn,ns,rf⟩ | ⟨z,rfl,zl,x,rest,es,ry,lr⟩
 ·refine⟨_,rfl,_,T,rfl,kn,_,rfl,?_⟩
  rw[ns]
  exact iteT ⟨by show 1<=sizeLine;decide,fun e he=>rf e H (Same.refl _) he⟩
 have raise:∀{t:Str},∀(D:Ends) (σ:L2.St) (H2:Hp),Refuse H2 E c4->tRaise E c4 (tCons (tC (V.str t)) tNil) D σ H2:=fun{t} D σ H2 rf=>⟨by show 1<=sizeLine;decide,fun e he=>rf e H2 (Same.refl _) he⟩
 obtain⟨kvs,kd,fk⟩:=fms
 have sl:=split_len z BLK
 refine⟨_,rfl,_,"str",rfl,.str _,_,rfl,iteF ?_⟩
 refine⟨_,rfl,rfl,z,BLK,rfl,rfl,by decide +kernel,by rw[sizeLine_eq];omega,by rw[sizeLine_eq];omega,by rw[sizeLine_eq];omega,fun l hl=>?_⟩
 rw[es]
 have l2:=sl.2
 rw[es,length_cons]at l2
 have s1:=same_new hl (.lst ((x::rest).map V.str))
 have h1:(upd H l (.lst ((x::rest).map V.str))) l=some (.lst (.str x::rest.map V.str)):=upd_same
 generalize upd H l (.lst ((x::rest).map V.str))=H1 at s1 h1 ⊢
 refine⟨l,.str x,rest.map V.str,rfl,SqL.of h1,by rw[length_map];omega,fun D hD=>?_⟩
 have s2:=s1.trans (same_new hD (.lst (rest.map V.str)))
 have h2:(upd H1 D (.lst (rest.map V.str))) D=some (.lst (rest.map V.str)):=upd_same
 generalize upd H1 D (.lst (rest.map V.str))=H2 at s2 h2 ⊢
 refine⟨_,_,rfl,_,_,rfl,rfl,?_⟩
 refine⟨_,rfl,fm,kvs,Sum.inr x,rfl,kd,rfl,_,rfl,?_⟩
 cases ef:formsOf x with
 |none=>
  rw[ef]at lr
  rw[(fk x).1 ef]
  exact iteT (iteT (raise _ _ _ (lr.same s2)))
 |some fs=>
  rw[ef]at lr
  obtain⟨t,ev,ht⟩:=(fk x).2 fs ef
  rw[ev]
  refine iteF ⟨_,rfl,D,_,rfl,.inl (SqL.of h2),_,rfl,fm,kvs,Sum.inr x,.ref t,rfl,kd,rfl,ev,t,_,rfl,.inr (ht H2),rfl,_,rfl,?_⟩
  rw[length_map,length_map]
  dsimp only at lr
  by_cases c:fs.length=rest.length
  ·rw[if_pos c]at lr
   rw[decide_eq_true (by rw[c])]
   obtain⟨bad,good⟩:=lr
   refine iteF ⟨_,rfl,_,rfl,fm,kvs,Sum.inr x,.ref t,rfl,kd,rfl,ev,_,rfl,t,D,_,_,rfl,ht H2,SqL.of h2,fun L hL=>?_⟩
   refine comp_any fs.length (by rw[sizeLine_eq];omega) (fun i σ H' ys=>(∃o1 o2,σ=[o1,o2])/\Same H2 H'/\H' L=some (.lst ys)/\ys.length=i/\(∀(j:Nat) (f y:Str),j<i->fs[j]?=some f->rest[j]?=some y->∃(p:Addr) (v:V),ys[j]?=some (.ref p)/\H' p=some (.tup [.str f,v])/\Val H' f y v)) (fun i H' v=>∃(p:Addr) (f y:Str),v=.ref p/\H' p=some (.tup [.str f,.str y])/\fs[i]?=some f/\rest[i]?=some y)
    ⟨⟨_,_,rfl⟩,same_new hL _,upd_same,rfl,fun j f y hj=>by omega⟩ (fun i σ H' ys pv=>⟨pv.2.2.1,by rw[pv.2.2.2.1];exact Nat.le_refl _⟩) (fun i σ H' ys pv=>?_) (fun i v σ H3 H4 ys hi pv s34 im R B hR hB=>?_) (fun σ H' ys pv=>?_)
   ·obtain⟨_,s3,_⟩:=pv
    have im:=items_zipm (K:=K) (ht H') (s3 _ _ h2) i
    rw[length_map,length_map,<-c,Nat.min_self]at im
    refine⟨fun hi=>⟨(im.1 hi).1,fun v H5 y=>?_⟩,im.2⟩
    obtain⟨sm,p,u,u',e1,e2,e3,e4⟩:=(im.1 hi).2 v H5 y
    refine⟨sm,p,fs[i],rest[i]'(by omega),e1,?_,List.getElem?_eq_getElem hi,List.getElem?_eq_getElem (by omega)⟩
    rw[getElem?_map,List.getElem?_eq_getElem hi]at e3
    rw[getElem?_map,List.getElem?_eq_getElem (by omega)]at e4
    cases e3
    cases e4
    exact e2
   ·obtain⟨⟨o1,o2,rfl⟩,s3,hL3,ly,all⟩:=pv
    obtain⟨p,f,y,rfl,hp,ff,fy⟩:=im
    refine⟨p,_,rfl,SqT.of hp,rfl,_,_,rfl,_,_,rfl,rfl,?_⟩
    unfold tYes
    dsimp only
    rw[if_pos rfl]
    refine⟨_,rfl,_,rfl,_,rfl,f,y,rfl,ry y (mem_of_getElem? fy),?_⟩
    by_cases gd:Good f y
    ·refine part_good gd fun v H5 s5 va=>⟨by show 2<=sizeLine;decide,fun q hq=>?_⟩
     have s45:=s34.trans s5
     have s6:=same_new hq (.tup [.str f,v])
     have hq6:(upd H5 q (.tup [.str f,v])) q=some (.tup [.str f,v]):=upd_same
     generalize upd H5 q (.tup [.str f,v])=H6 at s6 hq6 ⊢
     have s36:=s45.trans s6
     have qL:q≠L:=fun e=>by rw[e,s36 _ _ hL3]at hq6;cases hq6
     have keepL:∀{b:Addr} {o:HO},b≠L->H6 b=some o->(upd H6 L (.lst (ys++[.ref q]))) b=some o:=fun n e=>by rw[upd_ne n];exact e
     have notL:∀{b:Addr} {xs:List V},H6 b=some (.tup xs)->b≠L:=fun e n=>by rw[n,s36 _ _ hL3]at e;cases e
     have valL:∀{f y:Str} {v:V},Val H6 f y v->Val (upd H6 L (.lst (ys++[.ref q]))) f y v:=fun{f y v} h=>by
      unfold Val at h ⊢
      split
      ·rename_i c;rw[if_pos c]at h
       obtain⟨r,row,a1,a2,a3⟩:=h
       exact⟨r,row,a1,keepL (notL a2) a2,a3⟩
      ·rename_i c;rw[if_neg c]at h
       exact h
     refine hR _ _ _ (s36 _ _ hL3) ⟨⟨_,_,rfl⟩,?_,upd_same,by rw[length_append,ly];rfl,fun j f' y' hj e1 e2=>?_⟩
     ·intro b o e
      have nb:b≠L:=ne_of_none e hL
      exact keepL nb (s36 _ _ (s3 _ _ e))
     ·by_cases ji:j<i
      ·obtain⟨p',v',a1,a2,a3⟩:=all j f' y' ji e1 e2
       refine⟨p',v',by rw[getElem?_append_left (by omega)];exact a1,keepL (notL (s36 _ _ a2)) (s36 _ _ a2),valL (a3.same s36)⟩
      ·have ej:j=i:=by omega
       subst ej
       rw[ff]at e1
       rw[fy]at e2
       cases e1
       cases e2
       exact⟨q,v,by rw[getElem?_append_right (by omega),ly,Nat.sub_self];rfl,keepL qL hq6,valL (va.same s6)⟩
    ·exact part_bad gd (ry y (mem_of_getElem? fy)) ((bad ⟨i,f,y,ff,fy,gd⟩).same (s2.trans (s3.trans s34)))
   ·obtain⟨_,s3,hL3,ly,all⟩:=pv
    refine⟨by show 2<=sizeLine;decide,fun tp htp=>?_⟩
    have s4:=same_new htp (.tup [.str x,.ref L])
    have h4:(upd H' tp (.tup [.str x,.ref L])) tp=some (.tup [.str x,.ref L]):=upd_same
    generalize upd H' tp (.tup [.str x,.ref L])=H4 at s4 h4 ⊢
    refine good tp L ys H4 (s2.trans (s3.trans s4)) h4 (s4 _ _ hL3) ly fun j f y e1 e2=>?_
    obtain⟨p,v,a1,a2,a3⟩:=all j f y (List.getElem?_eq_some_iff.mp e1).1 e1 e2
    exact⟨p,v,a1,s4 _ _ a2,a3.same s4⟩
  ·rw[if_neg c]at lr
   rw[decide_eq_false (fun e=>c (by injection e with e;omega))]
   exact iteT (raise _ _ _ (lr.same s2))
end
end K96
namespace K96
open L2
theorem firsts_of {row:List Int}(up:row.Pairwise (· < ·)):(row.filter fun p=>decide (p - 1∉row))=(BB.blk row).map (·.1):=by
 cases row with
 |nil=>rfl
 |cons b r=>
  have u:=pairwise_cons.mp up
  exact BB.blk_firsts u.2 b u.1
theorem lasts_of {row:List Int}(up:row.Pairwise (· < ·)):(row.filter fun p=>decide (p+1∉row))=(BB.blk row).map fun q=>q.1+q.2 - 1:=by
 cases row with
 |nil=>rfl
 |cons b r=>
  have u:=pairwise_cons.mp up
  exact BB.blk_lasts u.2 b u.1
theorem blk_len:∀row:List Int,(BB.blk row).length<=row.length
 |[]=>Nat.le_refl _
 |p::r=>by
  have ih:=blk_len r
  unfold BB.blk
  split
  ·simp
  ·rename_i e
   rw[e]at ih
   split<;>simp only[length_cons]at ih ⊢<;>omega
def Tps (H:Hp)(ys:List V)(bl:List (Int×Int)):Prop:=ys.length=bl.length/\∀(j:Nat) (b:Int×Int),bl[j]?=some b->∃p,ys[j]?=some (.ref p)/\H p=some (.tup [.int b.1,.int b.2])
theorem Tps.same {H H':Hp}{ys:List V}{bl:List (Int×Int)}(t:Tps H ys bl)(s:Same H H'):Tps H' ys bl:=⟨t.1,fun j b e=>let⟨p,a,c⟩:=t.2 j b e;⟨p,a,s _ _ c⟩⟩
def spBin:Sp:=fun vs H Q _=>∃(a:Addr) (row:List Int),vs=[.ref a]/\H a=some (.tup (row.map V.int))/\row.Pairwise (· < ·)/\row.length<=12/\
 ∀(r:Addr) (ys:List V) (H':Hp),Same H H'->H' r=some (.lst ys)->Tps H' ys (BB.blk row)->Q (.ref r) H'
section
variable {P:Program}{w:World}{K:W.Frag}{mg:Str->Option Value}{base:Heap}
theorem ok_blocks_in {f:Addr}{fd:FuncData}(F:Fun K "blocks_in" "blocks_in" s_blocks_in f fd)(nb:Nb2 mg)   :
 FnOk P w K mg base CX0 1 f fd ["row"] spBin:=by
 have nd:=sc_blocks_in.nd
 refine F.ok (k:=0) sc_blocks_in (fun vs H Q E h=>?_) (fun cdv A outer s H vs Q E hr h=>?_)
 ·obtain⟨a,row,rfl,_⟩:=h
  rfl
 obtain⟨a,row,rfl,ha,up,r12,q⟩:=h
 refine⟨_,(pss_cons (ps_comp1 (ii:=1) nd rfl (Or.inl rfl) (sc:=defScope s_blocks_in) (N0:=["row","firsts","lasts"]) (N:=["row"]) (js:=[0]) rfl rfl rfl (by constructor<;>first|decide +kernel|rfl) rfl
(pi_tup (pv 0))
(fun _ _ _ _ _=>by exact(pts_one (pt_cmpR (op_notInK K rfl) (pe_op op_sub (pv 0) pe_int) (pv 1) rfl)))
(fun _ _ _ _ _=>by exact(pv 0)))
(pss_cons (ps_comp1 (ii:=2) nd rfl (Or.inl rfl) (sc:=defScope s_blocks_in) (N0:=["row","firsts","lasts"]) (N:=["row"]) (js:=[0]) rfl rfl rfl (by constructor<;>first|decide +kernel|rfl) rfl
(pi_tup (pv 0))
(fun _ _ _ _ _=>by exact(pts_one (pt_cmpR (op_notInK K rfl) (pe_op op_add (pv 0) pe_int) (pv 1) rfl)))
(fun _ _ _ _ _=>by exact(pv 0)))
(pss_one (ps_ret (pe_comp2 (sc:=defScope s_blocks_in) (N0:=["row","firsts","lasts"]) (N:=[]) (js:=[]) rfl rfl rfl (by constructor<;>first|decide +kernel|rfl) rfl rfl
(pi_zip false rfl nb.zip (pa_cons (pv 1) (pa_cons (pv 2) pa_nil)))
(fun _ _ _ _ _=>by exact pts_nil)
(fun _ _ _ _ _=>by exact(pe_tup (pa_cons (pv 0) (pa_cons (pe_op op_add (pe_op op_sub (pv 1) (pv 0)) pe_int) pa_nil))))))))),?_⟩
 refine⟨_,rfl,a,rfl,⟨_,SqT.of (ha)⟩,fun D1 hD1=>?_⟩
 refine comp_sel (row.map V.int).length (by rw[length_map,sizeLine_eq];omega) (fun i=>decide (row.getD i 0 - 1∉row)) (fun i=>.int (row.getD i 0)) (fun σ=>∃o1,σ=[o1,some (.ref a)]) _ hD1 (by exact⟨_,rfl⟩) (items_tup (ha)) (fun i x σ' H2 hi s2 im hσ R S hR hS=>?_) (fun H1 s1 hD1=>?_)
 ·obtain⟨o1,rfl⟩:=hσ
  obtain rfl:=num_at im
  refine⟨_,rfl,_,_,rfl,rfl,_,rfl,a,_,rfl,.inr (SqT.of (s2 _ _ (ha))),rfl,flat_nums row,_,rfl,?_⟩
  rw[in_nums,if_pos rfl]
  by_cases m:row.getD i 0 - 1∈row
  ·rw[decide_eq_true m]
   exact iteF (hS (decide_eq_false fun z=>z m) _ _ ⟨_,rfl⟩ (Same.refl _))
  ·rw[decide_eq_false m]
   exact iteT ⟨_,rfl,hR (decide_eq_true m) _ _ _ ⟨_,rfl⟩ (Same.refl _) rfl⟩
 rw[length_map,BB.sel_list 0 row (fun p=>decide (p - 1∉row)) V.int]at hD1
 have hF:H1 D1=some (.lst (((BB.blk row).map (·.1)).map V.int)):=by rw[<-firsts_of up];exact hD1
 refine⟨_,rfl,a,rfl,⟨_,SqT.of (s1 _ _ ha)⟩,fun D2 hD2=>?_⟩
 refine comp_sel (row.map V.int).length (by rw[length_map,sizeLine_eq];omega) (fun i=>decide (row.getD i 0+1∉row)) (fun i=>.int (row.getD i 0)) (fun σ=>∃o1,σ=[o1,some (.ref a)]) _ hD2 (by exact⟨_,rfl⟩) (items_tup (s1 _ _ ha)) (fun i x σ' H2 hi s2 im hσ R S hR hS=>?_) (fun H3 s3 hD3=>?_)
 ·obtain⟨o1,rfl⟩:=hσ
  obtain rfl:=num_at im
  refine⟨_,rfl,_,_,rfl,rfl,_,rfl,a,_,rfl,.inr (SqT.of (s2 _ _ (s1 _ _ ha))),rfl,flat_nums row,_,rfl,?_⟩
  rw[in_nums,if_pos rfl]
  by_cases m:row.getD i 0+1∈row
  ·rw[decide_eq_true m]
   exact iteF (hS (decide_eq_false fun z=>z m) _ _ ⟨_,rfl⟩ (Same.refl _))
  ·rw[decide_eq_false m]
   exact iteT ⟨_,rfl,hR (decide_eq_true m) _ _ _ ⟨_,rfl⟩ (Same.refl _) rfl⟩
 rw[length_map,BB.sel_list 0 row (fun p=>decide (p+1∉row)) V.int]at hD3
 have hL:H3 D2=some (.lst (((BB.blk row).map fun q=>q.1+q.2 - 1).map V.int)):=by rw[<-lasts_of up];exact hD3
 have hF3:=s3 _ _ hF
 have bl:=blk_len row
 refine⟨_,rfl,_,rfl,D1,D2,_,_,rfl,SqL.of hF3,SqL.of hL,fun D hD=>?_⟩
 have im:=items_zipL (K:=K) hF3 hL
 have hn:min (((BB.blk row).map (·.1)).map V.int).length (((BB.blk row).map fun q=>q.1+q.2 - 1).map V.int).length=(BB.blk row).length:=by simp
 rw[hn]at im
 refine comp_tups (BB.blk row).length (by rw[sizeLine_eq];omega) (fun i=>[.int ((BB.blk row).getD i (0,0)).1,.int ((BB.blk row).getD i (0,0)).2]) (fun σ=>∃o1 o2,σ=[o1,o2]) _ hD ⟨_,_,rfl⟩ im (fun i x σ' H4 hi s4 im' hσ R hR=>?_) (fun H' ys s' hD' ly hy=>?_)
 ·obtain⟨o1,o2,rfl⟩:=hσ
  obtain⟨r,y,z,rfl,hr',hy,hz'⟩:=im'
  rw[getElem?_map,getElem?_map,List.getElem?_eq_getElem hi]at hy hz'
  obtain rfl:V.int (BB.blk row)[i].1=y:=Option.some.inj hy
  obtain rfl:V.int ((BB.blk row)[i].1+(BB.blk row)[i].2 - 1)=z:=Option.some.inj hz'
  refine⟨r,_,rfl,SqT.of hr',rfl,_,_,rfl,_,_,rfl,rfl,?_⟩
  refine⟨_,rfl,_,rfl,_,rfl,_,_,rfl,rfl,_,_,rfl,rfl,(by show 2<=sizeLine;decide),fun p hp=>?_⟩
  refine hR _ p _ ⟨_,_,rfl⟩ (same_new hp _) ?_
  rw[upd_same,getD_eq_getElem?_getD,List.getElem?_eq_getElem hi]
  show some (HO.tup [V.int (BB.blk row)[i].1,V.int ((BB.blk row)[i].1+(BB.blk row)[i].2 - 1 - (BB.blk row)[i].1+1)])=some (HO.tup [V.int (BB.blk row)[i].1,V.int (BB.blk row)[i].2])
  rw[show(BB.blk row)[i].1+(BB.blk row)[i].2 - 1 - (BB.blk row)[i].1+1=(BB.blk row)[i].2 by omega]
 ·refine q D ys H' (s1.trans (s3.trans s')) hD' ⟨ly,fun j b e=>?_⟩
  have jl:j<ys.length:=by rw[ly];exact(List.getElem?_eq_some_iff.mp e).1
  obtain⟨p,e1,e2⟩:=hy j _ (List.getElem?_eq_getElem jl)
  refine⟨p,by rw[List.getElem?_eq_getElem jl,e1],?_⟩
  rw[getD_eq_getElem?_getD,e]at e2
  exact e2
end
end K96
namespace K96
open L2
def okP (b c:Int×Int):Bool:=!(decide (c.2<b.2)||decide (c.1 - b.1 - b.2<b.2))
def frB (bl:List (Int×Int)):Bool:=(List.range (bl.length - 1)).all fun i=>okP (bl.getD i (0,0)) (bl.getD (i+1) (0,0))
theorem frB_no {bl:List (Int×Int)}{i:Nat}(hi:i<bl.length - 1)(h:okP (bl.getD i (0,0)) (bl.getD (i+1) (0,0))=false):frB bl=false:=by
 unfold frB
 rw[eq_false_iff]
 intro z
 rw[all_eq_true]at z
 rw[z i (mem_range.mpr hi)]at h
 cases h
theorem frB_yes {bl:List (Int×Int)}(h:∀i,i<bl.length - 1->okP (bl.getD i (0,0)) (bl.getD (i+1) (0,0))=true):frB bl=true:=by
 unfold frB
 rw[all_eq_true]
 exact fun i hi=>h i (mem_range.mp hi)
def spFree:Sp:=fun vs H Q _=>∃(a:Addr) (row:List Int),vs=[.ref a]/\H a=some (.tup (row.map V.int))/\row.Pairwise (· < ·)/\row.length<=12/\∀H',Same H H'->Q (.bl (frB (BB.blk row))) H'
section
variable {P:Program}{w:World}{K:W.Frag}{mg:Str->Option Value}{base:Heap}
theorem ok_is_free {f:Addr}{fd:FuncData}(F:Fun K "is_free" "is_free" s_is_free f fd)(nb:Nb2 mg)(h_blocks_in:Has P w K mg base 1 "blocks_in" ["row"] spBin)  :
 FnOk P w K mg base CX0 2 f fd ["row"] spFree:=by
 have nd:=sc_is_free.nd
 refine F.ok (k:=1) sc_is_free (fun vs H Q E h=>?_) (fun cdv A outer s H vs Q E hr h=>?_)
 ·obtain⟨a,row,rfl,_⟩:=h
  rfl
 obtain⟨a,row,rfl,ha,up,r12,q⟩:=h
 refine⟨_,(pss_cons (ps_set (i:=1) nd rfl (Or.inl rfl) (pe_def h_blocks_in hr (pa_cons (pv 0) pa_nil)))
(pss_cons (ps_for PassesOwn.never rfl (pi_zip false rfl nb.zip (pa_cons (pv 1) (pa_cons (pe_slice sl_list (pv 1) (po_some pe_int) po_none) pa_nil))) (pg_tup rfl (pgs_cons (pg_tup rfl (pgs_cons (pg_name (i:=2) nd rfl (Or.inl rfl)) (pgs_cons (pg_name (i:=3) nd rfl (Or.inl rfl)) pgs_nil))) (pgs_cons (pg_tup rfl (pgs_cons (pg_name (i:=4) nd rfl (Or.inl rfl)) (pgs_cons (pg_name (i:=5) nd rfl (Or.inl rfl)) pgs_nil))) pgs_nil)))
(pss_one (ps_if (PW.pt (pw_or (pt_cmpR op_lt (pv 5) (pv 3) (nomark _)) (pw_or1 (pt_cmpR op_lt (pe_op op_sub (pe_op op_sub (pv 4) (pv 2)) (pv 3)) (pv 3) (nomark _)))))
(pss_one (ps_ret pe_bl))
pss_nil)))
(pss_one (ps_ret pe_bl)))),?_⟩
 refine⟨_,rfl,a,row,rfl,ha,up,r12,fun r ys H1 s1 hr1 tp=>?_⟩
 have bl:=blk_len row
 refine⟨_,rfl,_,rfl,_,rfl,r,ys,rfl,SqL.of hr1,fun p hp=>?_⟩
 have s2:=same_new hp (.lst (cutV ys (some 1) none))
 have hp2:(upd H1 p (.lst (cutV ys (some 1) none))) p=some (.lst (ys.drop 1)):=by rw[upd_same,show((1:Int))=((1:Nat):Int) from rfl,cut_from]
 have hr2:=s2 _ _ hr1
 have tp2:=tp.same s2
 have S2:=s1.trans s2
 refine⟨r,p,_,_,rfl,SqL.of hr2,SqL.of hp2,?_⟩
 generalize upd H1 p (.lst (cutV ys (some 1) none))=H2 at hp2 hr2 tp2 S2 ⊢
 have hn:min ys.length (ys.drop 1).length=(BB.blk row).length - 1:=by rw[length_drop,tp.1];omega
 refine for_items ((BB.blk row).length - 1) (fun i H' x=>∃p x' y',x=.ref p/\H' p=some (.tup [x',y'])/\ys[i]?=some x'/\(ys.drop 1)[i]?=some y')
  (fun i σ H'=>Same H2 H'/\(∀j,j<i->okP ((BB.blk row).getD j (0,0)) ((BB.blk row).getD (j+1) (0,0))=true)/\∃o2 o3 o4 o5,σ=[some (.ref a),some (.ref r),o2,o3,o4,o5])
  ⟨Same.refl _,fun j hj=>by omega,_,_,_,_,rfl⟩ (fun i σ H' hi hp=>?_) (fun i x σ H' H3 hi hp s3 im=>?_) (fun σ H' hp=>?_)
 ·have z:=items_zipL (K:=K) (hp.1 _ _ hr2) (hp.1 _ _ hp2) i H' (Same.refl _)
  rw[hn]at z
  exact z
 ·obtain⟨sm,al,o2,o3,o4,o5,rfl⟩:=hp
  obtain⟨q0,x',y',rfl,hq,hx,hy⟩:=im
  have sm3:=sm.trans s3
  have gb:=List.getElem?_eq_getElem (show i<(BB.blk row).length by omega)
  have gc:=List.getElem?_eq_getElem (show i+1<(BB.blk row).length by omega)
  obtain⟨p1,e1,h1⟩:=tp2.2 i _ gb
  obtain⟨p2,e2,h2⟩:=tp2.2 (i+1) _ gc
  rw[e1]at hx
  cases hx
  rw[getElem?_drop,Nat.add_comm,e2]at hy
  cases hy
  have db:(BB.blk row).getD i (0,0)=(BB.blk row)[i]'(by omega):=by rw[getD_eq_getElem?_getD,gb];rfl
  have dc:(BB.blk row).getD (i+1) (0,0)=(BB.blk row)[i+1]'(by omega):=by rw[getD_eq_getElem?_getD,gc];rfl
  generalize(BB.blk row)[i]'(by omega)=b at h1 db
  generalize(BB.blk row)[i+1]'(by omega)=c at h2 dc
  have bad:okP b c=false->Q (.bl false) H3:=fun z=>by
   have y:=q H3 (S2.trans sm3)
   rw[frB_no (i:=i) hi (by rw[db,dc];exact z)]at y
   exact y
  refine⟨q0,_,rfl,SqT.of hq,rfl,_,_,rfl,p1,_,rfl,SqT.of (sm3 _ _ h1),rfl,_,_,rfl,_,_,rfl,rfl,_,_,rfl,p2,_,rfl,SqT.of (sm3 _ _ h2),rfl,_,_,rfl,_,_,rfl,rfl,rfl,?_⟩
  refine⟨_,rfl,_,rfl,_,_,rfl,rfl,_,rfl,?_⟩
  refine ite2 (fun d1=>?_) (fun d1=>?_)
  ·exact iteT (bad (by unfold okP;rw[d1];rfl))
  ·refine⟨_,rfl,_,rfl,_,_,rfl,rfl,_,rfl,_,_,rfl,rfl,_,rfl,_,_,rfl,rfl,_,rfl,?_⟩
   refine ite2 (fun d2=>?_) (fun d2=>?_)
   ·exact bad (by unfold okP;rw[d2,Bool.or_true];rfl)
   ·refine⟨sm3,fun j hj=>?_,_,_,_,_,rfl⟩
    by_cases z:j=i
    ·subst z
     rw[db,dc]
     unfold okP
     rw[eq_false_iff.mpr d1,eq_false_iff.mpr d2]
     rfl
    ·exact al j (by omega)
 ·obtain⟨sm,al,o2,o3,o4,o5,rfl⟩:=hp
  have y:=q H' (S2.trans sm)
  rw[frB_yes al]at y
  exact y
end
end K96
namespace K96
open L2
structure Far (row:List Int):Prop where
 len:row.length<=12
 up:row.Pairwise (· < ·)
 bd:∀p∈row,-1000000000<=p/\p<=1000000000
def frAt (row:List Int)(j:Nat):Bool:=frB (BB.blk (BB.it (BB.step row.length) j row))
def ftF (row:List Int):Option Nat:=(List.range 61).find? (frAt row)
theorem ft_out {row:List Int}(h:ftF row=none){j:Nat}(hj:j<61):frAt row j=false:=by
 unfold ftF at h
 rw[find?_eq_none]at h
 exact eq_false_iff.mpr (h j (mem_range.mpr hj))
theorem Far.rw2 {row:List Int}(h:Far row):BB.Rw row row.length (-2000000000) 2000000000:=⟨h.up,rfl,fun p hp=>by have:=h.bd p hp;omega⟩
theorem far_ok {row:List Int}(h:Far row){i:Nat}(hi:i<61):Ok (BB.it (BB.step row.length) i row) row.length:=(ok_bound h.rw2 h.len i (by omega) (by omega) (by omega) row.length).1
def spUntilE (c2:Addr):Sp:=fun vs H Q E=>∃(a:Addr) (row:List Int),vs=[.ref a]/\H a=some (.tup (row.map V.int))/\Far row/\ftF row=none/\∀e H',Same H H'->H' e=none->E (.ref c2) (some e) H'
section
variable {P:Program}{w:World}{K:W.Frag}{mg:Str->Option Value}{base:Heap}{c2:Addr}{bm2:List Value}
theorem ok_until_freeE {f:Addr}{fd:FuncData}(F:Fun K "until_free" "until_free" s_until_free f fd)(nb:Nb2 mg)(h_is_free:Has P w K mg base 2 "is_free" ["row"] spFree)(h_carried:Has P w K mg base 2 "carried" ["row"] spCar)(c_MOST_TO_FREE:∃u,mg "MOST_TO_FREE" = some u/\RelV (.int 60) u)(hm:mg "TooLong" = some (.ref c2))(ex:Exc K c2 bm2) :
 FnOk P w K mg base (CXF P w) 3 f fd ["row"] (spUntilE c2):=by
 have nd:=sc_until_free.nd
 refine F.okE (k:=2) sc_until_free (fun vs H Q E h=>?_) (fun cdv A outer s H vs Q E hr h=>?_)
 ·obtain⟨a,row,rfl,_⟩:=h
  rfl
 obtain⟨a,row,rfl,ha,fa,ft,q⟩:=h
 refine⟨_,(pss_cons (ps_set (i:=1) nd rfl (Or.inl rfl) (pv 0))
(pss_cons (ps_calm (ps_for PassesOwn.never rfl (pi_range1 rfl nb.range (pa_cons (pe_op op_add (pe_const c_MOST_TO_FREE) pe_int) pa_nil)) (pg_name (i:=2) nd rfl (Or.inl rfl))
(pss_cons (ps_if (pt_truth (pe_def h_is_free hr (pa_cons (pv 1) pa_nil)) (fun _=>rfl))
(pss_one (ps_ret (pe_tup (pa_cons (pv 2) (pa_cons (pv 1) pa_nil)))))
pss_nil)
(pss_one (ps_set (i:=1) nd rfl (Or.inl rfl) (pe_def h_carried hr (pa_cons (pv 1) pa_nil)))))))
(pss_one (ps_raise lvs_cx rfl rfl hm ex (pa_cons (pe_fstr (pj_str (pj_int (pe_const c_MOST_TO_FREE) (pj_str pj_nil)))) pa_nil))))),?_⟩
 refine⟨_,rfl,?_⟩
 refine⟨_,_,rfl,rfl,_,rfl,by decide,by decide,?_⟩
 refine for_range (fun i σ H'=>Same H H'/\(∀j,j<i->frAt row j=false)/\∃r o2,σ=[some (.ref a),some (.ref r),o2]/\H' r=some (.tup ((BB.it (BB.step row.length) i row).map V.int))) ⟨Same.refl H,fun j hj=>by omega,a,_,rfl,ha⟩ (fun i σ H' hi hp=>?_) (fun σ H' hp=>?_)
 ·obtain⟨sm,al,r,o2,rfl,hr1⟩:=hp
  have i61:i<61:=hi
  have ok:=far_ok fa i61
  refine⟨_,rfl,r,_,rfl,hr1,ok.1.up,by have:=ok.1.len;have:=fa.len;omega,fun H1 s1=>?_⟩
  generalize hf:frB (BB.blk (BB.it (BB.step row.length) i row))=fb
  have hf':frAt row i=fb:=hf
  cases fb with
  |true=>
   rw[ft_out ft i61]at hf'
   cases hf'
  |false=>
   refine⟨_,rfl,iteF ?_⟩
   refine⟨_,rfl,r,_,row.length,rfl,s1 _ _ hr1,ok,fun r2 H2 s2 h2=>?_⟩
   refine⟨sm.trans (s1.trans s2),fun j hj=>?_,r2,_,rfl,h2⟩
   by_cases z:j=i
   ·rw[z];exact hf'
   ·exact al j (by omega)
 ·obtain⟨sm,al,r,o2,rfl,hr1⟩:=hp
  refine⟨by decide +kernel,60,rfl,by decide +kernel,by decide +kernel,by decide +kernel,by decide +kernel,by decide +kernel,?_⟩
  exact fun e he=>q e H' sm he
theorem ok_steps_to_freeE {f:Addr}{fd:FuncData}(F:Fun K "steps_to_free" "steps_to_free" s_steps_to_free f fd)(hE_until:HasE P w K mg base 3 "until_free" ["row"] (spUntilE c2)) :
 FnOk P w K mg base (CXF P w) 4 f fd ["row"] (spUntilE c2):=by
 have nd:=sc_steps_to_free.nd
 refine F.okE (k:=3) sc_steps_to_free (fun vs H Q E h=>?_) (fun cdv A outer s H vs Q E hr h=>?_)
 ·obtain⟨a,row,rfl,_⟩:=h
  rfl
 obtain⟨a,row,rfl,ha,fa,ft,q⟩:=h
 refine⟨_,(pss_cons (ps_asg (pe_defE hE_until lvs_cx hr (pa_cons (pv 0) pa_nil)) (pg_tup rfl (pgs_cons (pg_name (i:=1) nd rfl (Or.inl rfl)) (pgs_cons (pg_name (i:=2) nd rfl (Or.inl rfl)) pgs_nil)))) pss_never),?_⟩
 exact⟨_,rfl,a,row,rfl,ha,fa,ft,q⟩
end
end K96
namespace K96
open L2
def spNone:Sp:=fun _ _ _ _=>False
theorem none_at {P:Program}{w:World}{K:W.Frag}{mg:Str->Option Value}{base:Heap}{f:Addr}{fd:FuncData}{ps:List Str}:FnOk P w K mg base CX0 0 f fd ps spNone:=⟨fun vs H Q E h=>h.elim,fun A outer s H args us vs Q E _ _ _ _ h=>h.elim⟩
def spNeedE (c0:Addr):Sp:=fun vs H Q E=>∃(v lo hi:Int),vs=[.int v,.int lo,.int hi]/\(lo=-60/\hi=60\/lo=1/\hi=12)/\numB lo hi (.int v)=false/\∀e,H e=none->E (.ref c0) (some e) H
def spOddE (c0:Addr)(lo hi:Int):Sp:=fun vs H Q E=>∃(a:Addr) (v:Int),vs=[.ref a,.int v]/\numB lo hi (.int v)=false/\∀e,H e=none->E (.ref c0) (some e) H
section
variable {P:Program}{w:World}{K:W.Frag}{mg:Str->Option Value}{base:Heap}{c0:Addr}{bm0:List Value}
theorem ok_need_numberE {f:Addr}{fd:FuncData}(F:Fun K "need_number" "need_number" s_need_number f fd)(h_is_number:Has P w K mg base 1 "is_number" ["thing","least","greatest"] spNum)(hm:mg "NoNumber" = some (.ref c0))(ex:Exc K c0 bm0) :
 FnOk P w K mg base (CXF P w) 2 f fd ["thing","least","greatest"] (spNeedE c0):=by
 have nd:=sc_need_number.nd
 refine F.okE (k:=1) sc_need_number (fun vs H Q E h=>?_) (fun cdv A outer s H vs Q E hr h=>?_)
 ·obtain⟨v,lo,hi,rfl,_⟩:=h
  rfl
 obtain⟨v,lo,hi,rfl,lh,nm,q⟩:=h
 refine⟨_,(pss_one (ps_if (pt_not (pt_truth (pe_def h_is_number hr (pa_cons (pv 0) (pa_cons (pv 1) (pa_cons (pv 2) pa_nil)))) (fun _=>rfl)))
  (pss_one (ps_raise lvs_cx rfl rfl hm ex (pa_cons (pe_fstr (pj_str (pj_int (pv 1) (pj_str (pj_int (pv 2) (pj_str pj_nil)))))) pa_nil)))
  pss_nil)),?_⟩
 refine⟨_,rfl,_,rfl,_,rfl,.int v,"int",lo,hi,rfl,.int v,_,rfl,?_⟩
 rw[nm]
 refine iteT ?_
 clear nm
 rcases lh with⟨rfl,rfl⟩ | ⟨rfl,rfl⟩
 all_goals
  refine⟨by decide +kernel,_,rfl,_,rfl,by decide +kernel,by decide +kernel,by decide +kernel,_,rfl,_,rfl,by decide +kernel,by decide +kernel,by decide +kernel,by decide +kernel,by decide +kernel,?_⟩
  exact q
theorem ok_laterE {f:Addr}{fd:FuncData}(F:Fun K "later" "later" s_later f fd)(h_need_number:HasE P w K mg base 2 "need_number" ["thing","least","greatest"] (spNeedE c0))(c_MOST_STEPS:∃u,mg "MOST_STEPS" = some u/\RelV (.int 60) u) :
 FnOk P w K mg base (CXF P w) 3 f fd ["row","steps"] (spOddE c0 (-60) 60):=by
 have nd:=sc_later.nd
 refine F.okE (k:=2) sc_later (fun vs H Q E h=>?_) (fun cdv A outer s H vs Q E hr h=>?_)
 ·obtain⟨a,v,rfl,_⟩:=h
  rfl
 obtain⟨a,v,rfl,nm,q⟩:=h
 refine⟨_,(pss_cons (ps_expr (pe_defE h_need_number lvs_cx hr (pa_cons (pv 1) (pa_cons (pe_un un_neg (pe_const c_MOST_STEPS)) (pa_cons (pe_const c_MOST_STEPS) pa_nil))))) pss_never),?_⟩
 exact⟨_,rfl,_,rfl,v,-60,60,rfl,.inl ⟨rfl,rfl⟩,nm,q⟩
theorem ok_carried_byE {f:Addr}{fd:FuncData}(F:Fun K "carried_by" "carried_by" s_carried_by f fd)(h_need_number:HasE P w K mg base 2 "need_number" ["thing","least","greatest"] (spNeedE c0))(c_GREATEST_SIZE:∃u,mg "GREATEST_SIZE" = some u/\RelV (.int 12) u) :
 FnOk P w K mg base (CXF P w) 3 f fd ["row","size"] (spOddE c0 1 12):=by
 have nd:=sc_carried_by.nd
 refine F.okE (k:=2) sc_carried_by (fun vs H Q E h=>?_) (fun cdv A outer s H vs Q E hr h=>?_)
 ·obtain⟨a,v,rfl,_⟩:=h
  rfl
 obtain⟨a,v,rfl,nm,q⟩:=h
 refine⟨_,(pss_cons (ps_expr (pe_defE h_need_number lvs_cx hr (pa_cons (pv 1) (pa_cons pe_int (pa_cons (pe_const c_GREATEST_SIZE) pa_nil))))) pss_never),?_⟩
 exact⟨_,rfl,v,1,12,rfl,.inr ⟨rfl,rfl⟩,nm,q⟩
end
end K96
namespace K96
open L2
def AnsR (c2:Addr)(x:Str)(rs:List V)(H:Hp)(Q:VK)(E:XK):Prop:=
 ∃(r:Addr) (row:List Int),rs=[.ref r]/\H r=some (.tup (row.map V.int))/\
  ((x=oS "free"/\Far row/\ftF row=none/\Refuse H E c2)\/(x=oS "show"/\Wd row/\∀H',Same H H'->Q (.str (rowTxt row)) H'))
def spAns (c2:Addr):Sp:=fun vs H Q E=>∃(x:Str) (g:Addr) (rs:List V),vs=[.str x,.ref g]/\H g=some (.lst rs)/\AnsR c2 x rs H Q E
def KeepR (c0:Addr)(x:Str)(gs:List V)(H:Hp)(Q:VK)(E:XK):Prop:=
 (x=oS "row"/\∃r:V,gs=[r]/\Q r H)\/
 ∃(r:Addr) (v:Int),gs=[.ref r,.int v]/\((x=oS "later"/\numB (-60) 60 (.int v)=false/\Refuse H E c0)\/(x=oS "small"/\numB 1 12 (.int v)=false/\Refuse H E c0))
def spKeep (c0:Addr):Sp:=fun vs H Q E=>∃(x:Str) (g:Addr) (gs:List V),vs=[.str x,.ref g]/\H g=some (.lst gs)/\KeepR c0 x gs H Q E
section
variable {P:Program}{w:World}{K:W.Frag}{mg:Str->Option Value}{base:Heap}{c0 c2 c4:Addr}{bm4:List Value}
theorem ok_answer {f:Addr}{fd:FuncData}(F:Fun K "answer" "answer" s_answer f fd)(nb:NbX mg)(h_lengths:Has P w K mg base 0 "lengths" ["row"] spNone)(h_takings:Has P w K mg base 0 "takings" ["row"] spNone)(h_numbers_text:Has P w K mg base 0 "numbers_text" ["numbers"] spNone)(h_one_making:Has P w K mg base 0 "one_making" ["one","other"] spNone)(h_row_text:Has P w K mg base 1 "row_text" ["row"] spRowText)(hE_steps_to_free:HasE P w K mg base 4 "steps_to_free" ["row"] (spUntilE c2))   :
 FnOk P w K mg base (CXF P w) 5 f fd ["word","given"] (spAns c2):=by
 have nd:=sc_answer.nd
 refine F.okE (k:=4) sc_answer (fun vs H Q E h=>?_) (fun cdv A outer s H vs Q E hr h=>?_)
 ·obtain⟨x,g,rs,rfl,_⟩:=h
  rfl
 obtain⟨x,g,rs,rfl,hg,h⟩:=h
 refine⟨_,(pss_cons (ps_if (pt_cmpR op_eq (pv 0) pe_str (nomark _))
(pss_one (ps_ret (pe_def h_numbers_text hr (pa_cons (pe_def h_lengths hr (pa_cons (pe_ix ix_list (pv 1) pe_int (fun _ _=>rfl)) pa_nil)) pa_nil))))
pss_nil)
(pss_cons (ps_if (pt_cmpR op_eq (pv 0) pe_str (nomark _))
(pss_one (ps_ret (pe_def h_numbers_text hr (pa_cons (pe_def h_takings hr (pa_cons (pe_ix ix_list (pv 1) pe_int (fun _ _=>rfl)) pa_nil)) pa_nil))))
pss_nil)
(pss_cons (ps_if (pt_cmpR op_eq (pv 0) pe_str (nomark _))
(pss_cons (ps_set (i:=2) nd rfl (Or.inl rfl) (pe_defE hE_steps_to_free lvs_cx hr (pa_cons (pe_ix ix_list (pv 1) pe_int (fun _ _=>rfl)) pa_nil)))
(pss_one (ps_ret (pe_ifExp (pt_truth (pv 2) (fun _=>rfl)) (pe_callTy call_str_int rfl nb.str boot_str (pa_cons (pv 2) pa_nil)) pe_str))))
pss_nil)
(pss_cons (ps_if (pt_cmpR op_eq (pv 0) pe_str (nomark _))
(pss_one (ps_ret (pe_ifExp (pt_truth (pe_def h_one_making hr (pa_cons (pe_ix ix_list (pv 1) pe_int (fun _ _=>rfl)) (pa_cons (pe_ix ix_list (pv 1) pe_int (fun _ _=>rfl)) pa_nil))) (fun _=>rfl)) pe_str pe_str)))
pss_nil)
(pss_one (ps_ret (pe_def h_row_text hr (pa_cons (pe_ix ix_list (pv 1) pe_int (fun _ _=>rfl)) pa_nil)))))))),?_⟩
 have no:∀{y z:Str},y≠z->decide (V.str y=V.str z)=false:=fun n=>decide_eq_false fun e=>n (V.str.inj e)
 refine⟨_,rfl,rfl,_,rfl,?_⟩
 obtain⟨r,row,rfl,hr0,h⟩:=h
 have i0:atI [V.ref r] ((0:Nat):Int)=some (V.ref r):=atI_nat rfl
 rcases h with⟨rfl,far,e,q2⟩ | ⟨rfl,wd,q⟩
 ·rw[no (by decide +kernel)]
  refine iteF ⟨_,rfl,rfl,_,rfl,?_⟩
  rw[no (by decide +kernel)]
  refine iteF ⟨_,rfl,rfl,_,rfl,?_⟩
  rw[decide_eq_true rfl]
  exact iteT ⟨_,rfl,g,_,_,_,rfl,rfl,SqL.of hg,i0,r,row,rfl,hr0,far,e,q2⟩
 ·rw[no (by decide +kernel)]
  refine iteF ⟨_,rfl,rfl,_,rfl,?_⟩
  rw[no (by decide +kernel)]
  refine iteF ⟨_,rfl,rfl,_,rfl,?_⟩
  rw[no (by decide +kernel)]
  refine iteF ⟨_,rfl,rfl,_,rfl,?_⟩
  rw[no (by decide +kernel)]
  exact iteF ⟨_,rfl,g,_,_,_,rfl,rfl,SqL.of hg,i0,r,row,rfl,hr0,wd,q⟩
theorem ok_row_to_keep {f:Addr}{fd:FuncData}(F:Fun K "row_to_keep" "row_to_keep" s_row_to_keep f fd)(nb:NbX mg)(h_peeled:Has P w K mg base 0 "peeled" ["row"] spNone)(hE_later:HasE P w K mg base 3 "later" ["row","steps"] (spOddE c0 (-60) 60))(hE_carried_by:HasE P w K mg base 3 "carried_by" ["row","size"] (spOddE c0 1 12))   :
 FnOk P w K mg base (CXF P w) 5 f fd ["word","given"] (spKeep c0):=by
 have nd:=sc_row_to_keep.nd
 refine F.okE (k:=4) sc_row_to_keep (fun vs H Q E h=>?_) (fun cdv A outer s H vs Q E hr h=>?_)
 ·obtain⟨x,g,gs,rfl,_⟩:=h
  rfl
 obtain⟨x,g,gs,rfl,hg,h⟩:=h
 refine⟨_,(pss_cons (ps_if (pt_cmpR op_eq (pv 0) pe_str (nomark _))
(pss_one (ps_ret (pe_defE hE_later lvs_cx hr (pa_cons (pe_ix ix_list (pv 1) pe_int (fun _ _=>rfl)) (pa_cons (pe_ix ix_list (pv 1) pe_int (fun _ _=>rfl)) pa_nil)))))
pss_nil)
(pss_cons (ps_if (pt_cmpR op_eq (pv 0) pe_str (nomark _))
(pss_one (ps_ret (pe_defE hE_carried_by lvs_cx hr (pa_cons (pe_ix ix_list (pv 1) pe_int (fun _ _=>rfl)) (pa_cons (pe_ix ix_list (pv 1) pe_int (fun _ _=>rfl)) pa_nil)))))
pss_nil)
(pss_cons (ps_if (pt_cmpR op_eq (pv 0) pe_str (nomark _))
(pss_one (ps_ret (pe_def h_peeled hr (pa_cons (pe_ix ix_list (pv 1) pe_int (fun _ _=>rfl)) pa_nil))))
pss_nil)
(pss_one (ps_ret (pe_ix ix_list (pv 1) pe_int (fun _ _=>rfl))))))),?_⟩
 have no:∀{y z:Str},y≠z->decide (V.str y=V.str z)=false:=fun n=>decide_eq_false fun e=>n (V.str.inj e)
 refine⟨_,rfl,rfl,_,rfl,?_⟩
 rcases h with⟨rfl,r,rfl,q⟩ | ⟨r,v,rfl,h⟩
 ·have i0:atI [r] ((0:Nat):Int)=some r:=atI_nat rfl
  rw[no (by decide +kernel)]
  refine iteF ⟨_,rfl,rfl,_,rfl,?_⟩
  rw[no (by decide +kernel)]
  refine iteF ⟨_,rfl,rfl,_,rfl,?_⟩
  rw[no (by decide +kernel)]
  exact iteF ⟨_,rfl,g,_,_,_,rfl,rfl,SqL.of hg,i0,q⟩
 have i0:atI [V.ref r,V.int v] ((0:Nat):Int)=some (V.ref r):=atI_nat rfl
 have i1:atI [V.ref r,V.int v] ((1:Nat):Int)=some (V.int v):=atI_nat rfl
 rcases h with⟨rfl,e,q2⟩ | ⟨rfl,e,q2⟩
 ·rw[decide_eq_true rfl]
  exact iteT ⟨_,rfl,g,_,_,_,rfl,rfl,SqL.of hg,i0,_,rfl,g,_,_,_,rfl,rfl,SqL.of hg,i1,r,v,rfl,e,fun e' he=>q2 e' H (Same.refl H) he⟩
 ·rw[no (by decide +kernel)]
  refine iteF ⟨_,rfl,rfl,_,rfl,?_⟩
  rw[decide_eq_true rfl]
  exact iteT ⟨_,rfl,g,_,_,_,rfl,rfl,SqL.of hg,i0,_,rfl,g,_,_,_,rfl,rfl,SqL.of hg,i1,r,v,rfl,e,fun e' he=>q2 e' H (Same.refl H) he⟩
end
end K96
namespace K96
open L2
def mth (i:Nat):Stmt:=match top 57 with
 | .ClassDef _ _ _ body _ _ _ _ _ _ _=>body.getD i (.Pass ⟨0,0,0,0⟩)
 |s=>s
abbrev s___init__:Stmt:=mth 0
theorem sc___init__:FnScope ["self"] ["self"] (defScope s___init__):=⟨rfl,rfl,rfl,by decide +kernel,rfl,by decide +kernel,by decide +kernel⟩
abbrev s_row_of:Stmt:=mth 1
theorem sc_row_of:FnScope ["self","name"] ["self","name"] (defScope s_row_of):=⟨rfl,rfl,rfl,by decide +kernel,rfl,by decide +kernel,by decide +kernel⟩
abbrev s_say:Stmt:=mth 2
theorem sc_say:FnScope ["self","line","word","parts","given","names"] ["self","line"] (defScope s_say):=⟨rfl,rfl,rfl,by decide +kernel,rfl,by decide +kernel,by decide +kernel⟩
def DeskAt (C a d:Addr)(kvs:List (Key×V))(H:Hp):Prop:=∃dx,H a=some (.ins C dx [(oS "rows",.ref d)])/\H d=some (.dK kvs)
theorem DeskAt.same {C a d:Addr}{kvs:List (Key×V)}{H H':Hp}(h:DeskAt C a d kvs H)(s:Same H H'):DeskAt C a d kvs H':=by
 obtain⟨dx,h1,h2⟩:=h
 exact⟨dx,s _ _ h1,s _ _ h2⟩
theorem rows_fl {d:Addr}:([(oS "rows",V.ref d)]:List (Str×V)).lookup (oS "rows")=some (V.ref d):=by
 show(match(oS "rows"==oS "rows") with | true=>some (V.ref d) | false=>none)=_
 rw[show(oS "rows"==oS "rows")=true by decide +kernel]
theorem rows_no {d:Addr}:([(oS "rows",V.ref d)]:List (Str×V)).lookup (oS "row_of")=none:=by
 show(match(oS "row_of"==oS "rows") with | true=>some (V.ref d) | false=>none)=_
 rw[show(oS "row_of"==oS "rows")=false by decide +kernel]
theorem Val.good {H:Hp}{f z:Str}{v:V}(h:Val H f z v):Good f z:=by
 unfold Val at h
 unfold Good
 by_cases c1:f=oS "TEXT"
 ·rw[if_pos c1]at h ⊢
  obtain⟨r,row,_,_,wd,l12,e⟩:=h
  exact⟨row,wd,l12,e⟩
 rw[if_neg c1]at h ⊢
 by_cases c2:f=oS "K"
 ·rw[if_pos c2]at h ⊢
  obtain⟨n,_,n30,e⟩:=h
  exact⟨n,n30,e⟩
 rw[if_neg c2]at h ⊢
 exact h.2
def spInit (C:Addr):Sp:=fun vs H Q _=>∃a dx:Addr,vs=[.ref a]/\H a=some (.ins C dx [])/\∀(d:Addr),H d=none->Q .non (upd (upd H d (.dK [])) a (.ins C dx [(oS "rows",.ref d)]))
def spOf (C c3:Addr):Sp:=fun vs H Q E=>∃(a:Addr) (z:Str) (d:Addr) (kvs:List (Key×V)),vs=[.ref a,.str z]/\DeskAt C a d kvs H/\(∀v,valV kvs (Sum.inr z)=some v->Q v H)/\(valV kvs (Sum.inr z)=none->∀e,H e=none->E (.ref c3) (some e) H)
def BadLine (z:Str):Prop:=∃(x:Str) (rest:List Str),Txt.split z BLK=x::rest/\(∀y∈rest,y.length<=1900)/\
 match formsOf x with
 |none=>True
 |some fs=>fs.length≠rest.length\/∃(j:Nat) (f y:Str),fs[j]?=some f/\rest[j]?=some y/\¬Good f y
theorem bad_line {c4:Addr}{z:Str}{H:Hp}{Q:VK}{E:XK}(b:BadLine z)(rf:Refuse H E c4):LineR c4 z H Q E:=by
 obtain⟨x,rest,sp,r19,m⟩:=b
 refine⟨x,rest,sp,r19,?_⟩
 cases fo:formsOf x with
 |none=>exact rf
 |some fs=>
  rw[fo]at m
  dsimp only at m ⊢
  by_cases le:fs.length=rest.length
  ·rw[if_pos le]
   refine⟨fun _=>rf,fun tp L ys H' s' h1 h2 h3 all=>?_⟩
   rcases m with n | ⟨j,f,y,e1,e2,ng⟩
   ·exact absurd le n
   ·obtain⟨p,v,_,_,va⟩:=all j f y e1 e2
    exact absurd va.good ng
  ·rw[if_neg le]
   exact rf
def Gvn (H:Hp)(kvs:List (Key×V))(p:Str×Str)(v:V):Prop:=if p.1=oS "A" then valV kvs (Sum.inr p.2)=some v else Val H p.1 p.2 v
theorem Val.keep {H H':Hp}{f z:Str}{v:V}(k:∀r xs,H r=some (.tup xs)->H' r=some (.tup xs))(h:Val H f z v):Val H' f z v:=by
 unfold Val at h ⊢
 split
 ·rename_i c
  rw[if_pos c]at h
  obtain⟨r,row,a,b,c⟩:=h
  exact⟨r,row,a,k _ _ b,c⟩
 ·rename_i c
  rw[if_neg c]at h
  exact h
theorem Gvn.keep {H H':Hp}{kvs:List (Key×V)}{p:Str×Str}{v:V}(k:∀r xs,H r=some (.tup xs)->H' r=some (.tup xs))(h:Gvn H kvs p v):Gvn H' kvs p v:=by
 unfold Gvn at h ⊢
 split
 ·rename_i c
  rw[if_pos c]at h
  exact h
 ·rename_i c
  rw[if_neg c]at h
  exact h.keep k
theorem forms_few {x:Str}{fs:List Str}(h:formsOf x=some fs):fs.length<=3:=by
 unfold formsOf at h
 obtain⟨p,hp,rfl⟩:=map_eq_some_iff.mp h
 exact(show ∀p∈formsL,p.2.length<=3 by decide +kernel) p (List.mem_of_find?_eq_some hp)
theorem paired_snoc {α β:Type}{F:α->β->Prop}:∀{l:List α} {m:List β} {x:α} {y:β},Paired F l m->F x y->Paired F (l++[x]) (m++[y])
 |_,_,_,_,.nil,h=>.cons h .nil
 |_,_,_,_,.cons a b,h=>.cons a (paired_snoc b h)
abbrev nN (p:Str×Str):Bool:=!decide (p.1=oS "N")
abbrev yN (p:Str×Str):Bool:=decide (p.1=oS "N")
theorem n_row {n t:Str}:List.filter nN [(oS "N",n),(oS "TEXT",t)]=[(oS "TEXT",t)]:=by
 rw[filter_cons_of_neg (by show ¬(!decide (oS "N" = oS "N"))=true;decide +kernel),filter_cons_of_pos (by show(!decide (oS "TEXT" = oS "N"))=true;decide +kernel),filter_nil]
theorem y_row {n t:Str}:List.filter yN [(oS "N",n),(oS "TEXT",t)]=[(oS "N",n)]:=by
 rw[filter_cons_of_pos (by show decide (oS "N" = oS "N")=true;decide +kernel),filter_cons_of_neg (by show ¬decide (oS "TEXT" = oS "N")=true;decide +kernel),filter_nil]
theorem n_one {n:Str}:List.filter nN [(oS "A",n)]=[(oS "A",n)]:=by
 rw[filter_cons_of_pos (by show(!decide (oS "A" = oS "N"))=true;decide +kernel),filter_nil]
theorem y_one {n:Str}:List.filter yN [(oS "A",n)]=[]:=by
 rw[filter_cons_of_neg (by show ¬decide (oS "A" = oS "N")=true;decide +kernel),filter_nil]
theorem n_num {n t m:Str}:List.filter nN [(oS "A",n),(oS "K",t),(oS "N",m)]=[(oS "A",n),(oS "K",t)]:=by
 rw[filter_cons_of_pos (by show(!decide (oS "A" = oS "N"))=true;decide +kernel),filter_cons_of_pos (by show(!decide (oS "K" = oS "N"))=true;decide +kernel),filter_cons_of_neg (by show ¬(!decide (oS "N" = oS "N"))=true;decide +kernel),filter_nil]
theorem y_num {n t m:Str}:List.filter yN [(oS "A",n),(oS "K",t),(oS "N",m)]=[(oS "N",m)]:=by
 rw[filter_cons_of_neg (by show ¬decide (oS "A" = oS "N")=true;decide +kernel),filter_cons_of_neg (by show ¬decide (oS "K" = oS "N")=true;decide +kernel),filter_cons_of_pos (by show decide (oS "N" = oS "N")=true;decide +kernel),filter_nil]
theorem n_two {n m:Str}:List.filter nN [(oS "A",n),(oS "A",m)]=[(oS "A",n),(oS "A",m)]:=by
 rw[filter_cons_of_pos (by show(!decide (oS "A" = oS "N"))=true;decide +kernel),filter_cons_of_pos (by show(!decide (oS "A" = oS "N"))=true;decide +kernel),filter_nil]
theorem y_two {n m:Str}:List.filter yN [(oS "A",n),(oS "A",m)]=[]:=by
 rw[filter_cons_of_neg (by show ¬decide (oS "A" = oS "N")=true;decide +kernel),filter_cons_of_neg (by show ¬decide (oS "A" = oS "N")=true;decide +kernel),filter_nil]
theorem n_peel {n m:Str}:List.filter nN [(oS "A",n),(oS "N",m)]=[(oS "A",n)]:=by
 rw[filter_cons_of_pos (by show(!decide (oS "A" = oS "N"))=true;decide +kernel),filter_cons_of_neg (by show ¬(!decide (oS "N" = oS "N"))=true;decide +kernel),filter_nil]
theorem y_peel {n m:Str}:List.filter yN [(oS "A",n),(oS "N",m)]=[(oS "N",m)]:=by
 rw[filter_cons_of_neg (by show ¬decide (oS "A" = oS "N")=true;decide +kernel),filter_cons_of_pos (by show decide (oS "N" = oS "N")=true;decide +kernel),filter_nil]
theorem KeepR.imp {c0:Addr}{x:Str}{gs:List V}{H:Hp}{Q Q':VK}{E:XK}(h:KeepR c0 x gs H Q E)(m:∀v H',Same H H'->Q v H'->Q' v H'):KeepR c0 x gs H Q' E:=by
 rcases h with⟨e,r,e2,q⟩ | ⟨r,v,e,h⟩
 ·exact .inl ⟨e,r,e2,m _ _ (Same.refl H) q⟩
 ·exact .inr ⟨r,v,e,h⟩
theorem names_fit {ms:List Str}(h:ms.length<=100)(h8:∀z∈ms,z.length<=8):ms.toArray.foldl (fun a p=>a+p.length+(oS " ").length) 0<=1000/\(Str.join (oS " ") ms).length<=1000:=by
 have sm:∀(l:List Str),(∀z∈l,z.length<=8)->(l.map (·.length)).sum<=8*l.length:=by
  intro l
  induction l with
  |nil=>intro _;simp
  |cons n l ih=>
   intro h
   have:=h n mem_cons_self
   have:=ih fun m hm=>h m (mem_cons_of_mem _ hm)
   simp only[map_cons,sum_cons,length_cons]
   omega
 have s:=sm ms h8
 have l1:(oS " ").length=1:=by decide +kernel
 have jl:=StrLaws.join_length_le (oS " ") ms
 rw[l1]at jl
 refine⟨?_,by omega⟩
 rw[StrLaws.joinTotal,l1]
 omega
def SayR (C c0 c2 c3 d:Addr)(kvs:List (Key×V))(x:Str)(rest fs:List Str)(H:Hp)(Q:VK)(E:XK):Prop:=
 (x=oS "row"/\∃n t:Str,rest=[n,t]/\kvs.length<100/\∀(H1:Hp) (r:Addr) (row:List Int),Same H H1->H1 r=some (.tup (row.map V.int))->t=rowTxt row->Wd row->row.length<=12->Q (.str "ok") (upd H1 d (.dK (putK kvs (Sum.inr n) (.ref r)))))\/
 (x=oS "kept"/\∃ns:List Str,kvs.map (·.1)=ns.map Sum.inr/\ns.length<=60/\(∀z∈ns,z.length<=8)/\∀(ms:List Str) (H':Hp),ms.Perm ns->sortedS ms=true->Same H H'->Q (.str (Str.join (oS " ") ms)) H')\/
 (x≠oS "kept"/\(∃(j:Nat) (n:Str),fs[j]?=some (oS "A")/\rest[j]?=some n/\valV kvs (Sum.inr n)=none)/\Refuse H E c3)\/
 (x≠oS "kept"/\fs=[oS "A"]/\∃(n:Str) (r:V),rest=[n]/\valV kvs (Sum.inr n)=some r/\∀H1:Hp,Same H H1->AnsR c2 x [r] H1 Q E)\/
 (x≠oS "kept"/\fs=[oS "A",oS "K",oS "N"]/\∃(n t n2:Str) (r:V),rest=[n,t,n2]/\kvs.length<100/\valV kvs (Sum.inr n)=some r/\
  ∀(H1:Hp) (v:Int),Same H H1->v.natAbs<10^30->t=numT v->KeepR c0 x [r,.int v] H1 (fun u H2=>Q (.str "ok") (upd H2 d (.dK (putK kvs (Sum.inr n2) u)))) E)\/
 (x≠oS "kept"/\fs=[oS "A",oS "A"]/\∃(n m:Str) (r r':V),rest=[n,m]/\valV kvs (Sum.inr n)=some r/\valV kvs (Sum.inr m)=some r'/\∀H1:Hp,Same H H1->AnsR c2 x [r,r'] H1 Q E)\/
 (x≠oS "kept"/\fs=[oS "A",oS "N"]/\∃(n n2:Str) (r:V),rest=[n,n2]/\kvs.length<100/\valV kvs (Sum.inr n)=some r/\
  ∀H1:Hp,Same H H1->KeepR c0 x [r] H1 (fun u H2=>Q (.str "ok") (upd H2 d (.dK (putK kvs (Sum.inr n2) u)))) E)
def spSay (C c0 c2 c3 c4:Addr):Sp:=fun vs H Q E=>∃(a:Addr) (v:V) (d:Addr) (kvs:List (Key×V)),vs=[.ref a,v]/\DeskAt C a d kvs H/\
 ((∃T,Kn H v T/\subT T "str" = false/\Refuse H E c4)\/∃z:Str,v=.str z/\z.length<=1900/\((BadLine z/\Refuse H E c4)\/
   ∃(x:Str) (rest fs:List Str),Txt.split z BLK=x::rest/\(∀y∈rest,y.length<=1900)/\formsOf x=some fs/\fs.length=rest.length/\(∀(j:Nat) (f y:Str),fs[j]?=some f->rest[j]?=some y->Good f y)/\SayR C c0 c2 c3 d kvs x rest fs H Q E))
section
variable {P:Program}{w:World}{K:W.Frag}{mg:Str->Option Value}{base:Heap}{C c0 c2 c3 c4:Addr}{bm3 bm4:List Value}
theorem ok___init__ {f:Addr}{fd:FuncData}(F:Fun K "__init__" "Desk.__init__" s___init__ f fd)(cl:Cls K C)(nr:NoAttr K C "rows")   :
 FnOk P w K mg base CX0 1 f fd ["self"] (spInit C):=by
 have nd:=sc___init__.nd
 refine F.ok (k:=0) sc___init__ (fun vs H Q E h=>?_) (fun cdv A outer s H vs Q E hr h=>?_)
 ·obtain⟨a,dx,rfl,_⟩:=h
  rfl
 obtain⟨a,dx,rfl,ha,q⟩:=h
 refine⟨_,(pss_one (ps_fld (pv 0) pe_dnewK rfl)),?_⟩
 intro d hd
 have ne:a≠d:=ne_of_none ha hd
 exact⟨_,rfl,a,C,dx,[],rfl,by rw[upd_ne ne];exact ha,cl,nr,by decide,q d hd⟩
theorem ok_row_of {f:Addr}{fd:FuncData}(F:Fun K "row_of" "Desk.row_of" s_row_of f fd)(nb:NbX mg)(hm:mg "NoRow" = some (.ref c3))(ex:Exc K c3 bm3)(cl:Cls K C)(nr:NoAttr K C "rows") :
 FnOk P w K mg base (CXF P w) 1 f fd ["self","name"] (spOf C c3):=by
 have nd:=sc_row_of.nd
 refine F.okE (k:=0) sc_row_of (fun vs H Q E h=>?_) (fun cdv A outer s H vs Q E hr h=>?_)
 ·obtain⟨a,z,d,kvs,rfl,_⟩:=h
  rfl
 obtain⟨a,z,d,kvs,rfl,de,h1,h2⟩:=h
 refine⟨_,(pss_cons (ps_if (pt_cmp (pc_dnotin (hu1 hr) (pv 1) (pe_fld (pv 0) rfl)))
(pss_one (ps_raise lvs_cx rfl rfl hm ex (pa_cons pe_str pa_nil)))
pss_nil)
(pss_one (ps_ret (pe_dget (hu1 hr) (pe_fld (pv 0) rfl) (pv 1) (fun _ _=>rfl))))),?_⟩
 obtain⟨dx,ha,hd⟩:=de
 refine⟨_,rfl,_,rfl,a,C,dx,_,_,rfl,ha,cl,nr,rows_fl,d,_,rfl,DGet.k (k:=Sum.inr z) hd,?_⟩
 cases e:valV kvs (Sum.inr z) with
 |none=>exact⟨_,rfl,iteT ⟨by show 1<=sizeLine;decide,fun x hx=>h2 e x hx⟩⟩
 |some v=>exact⟨_,rfl,iteF ⟨_,rfl,a,C,dx,_,_,rfl,ha,cl,nr,rows_fl,_,rfl,d,v,rfl,by rw[<-e];exact DGet.k (k:=Sum.inr z) hd,h1 v e⟩⟩
theorem ok_say {f:Addr}{fd:FuncData}(F:Fun K "say" "Desk.say" s_say f fd)(nb:NbX mg)(hE_line_read:HasE P w K mg base 5 "line_read" ["line"] (spLine c4))(hE_answer:HasE P w K mg base 5 "answer" ["word","given"] (spAns c2))(hE_row_to_keep:HasE P w K mg base 5 "row_to_keep" ["word","given"] (spKeep c0))(cl:Cls K C)(nr:NoAttr K C "rows"){fo:Addr}{fdo:FuncData}(hmt:Meth K C "row_of" fo)(hF:FnOk P w K mg base (CXF P w) 1 fo fdo ["self","name"] (spOf C c3))(hbd:Binds K fdo ["self","name"] []) :
 FnOk P w K mg base (CXF P w) 6 f fd ["self","line"] (spSay C c0 c2 c3 c4):=by
 have nd:=sc_say.nd
 refine F.okE (k:=5) sc_say (fun vs H Q E h=>?_) (fun cdv A outer s H vs Q E hr h=>?_)
 ·obtain⟨a,v,d,kvs,rfl,_⟩:=h
  rfl
 obtain⟨a,v,d,kvs,rfl,de,h⟩:=h
 refine⟨_,(pss_cons (ps_asg (pe_defE hE_line_read lvs_cx hr (pa_cons (pv 1) pa_nil)) (pg_tup rfl (pgs_cons (pg_name (i:=2) nd rfl (Or.inl rfl)) (pgs_cons (pg_name (i:=3) nd rfl (Or.inl rfl)) pgs_nil))))
(pss_cons (ps_if (pt_cmpR op_eq (pv 2) pe_str (nomark _))
(pss_one (ps_ret (pe_bm plainAttrs_str slot_str_join type_str_join mt_join pe_str (pa_cons (pe_callB (call_sortDS rfl) rfl nb.sorted boot_sorted (pa_cons (pe_fld (pv 0) rfl) pa_nil)) pa_nil))))
pss_nil)
(pss_cons (ps_compE2 (ii:=4) nd rfl (Or.inl rfl) (sc:=defScope s_say) (N0:=["self","line","word","parts","given","names"]) (N:=["self"]) (js:=[0]) lvs_cx rfl rfl rfl (by constructor<;>first|decide +kernel|rfl) rfl rfl
(pi_list (pv 3))
(fun _ _ _ _ _=>by exact(pts_one (pt_cmpR op_ne (pv 0) pe_str (nomark _))))
(fun _ _ _ _ _=>by exact(pe_ifExp (pt_cmpR op_eq (pv 0) pe_str (nomark _)) (pe_meth (pv 2) cl hmt hF (hr.mono (by decide)) hbd .nil passes_blk (pa_cons (pv 1) pa_nil)) (pv 1))))
(pss_cons (ps_comp2 (ii:=5) nd rfl (Or.inl rfl) (sc:=defScope s_say) (N0:=["self","line","word","parts","given","names"]) (N:=[]) (js:=[]) rfl rfl rfl (by constructor<;>first|decide +kernel|rfl) rfl rfl
(pi_list (pv 3))
(fun _ _ _ _ _=>by exact(pts_one (pt_cmpR op_eq (pv 0) pe_str (nomark _))))
(fun _ _ _ _ _=>by exact(pv 1)))
(pss_cons (ps_if (pt_not (pt_truth (pv 5) (fun _=>rfl)))
(pss_one (ps_ret (pe_defE hE_answer lvs_cx hr (pa_cons (pv 2) (pa_cons (pv 4) pa_nil)))))
pss_nil)
(pss_cons (ps_dput (hu1 hr) (pe_fld (pv 0) rfl) (pe_ix ix_list (pv 5) pe_int (fun _ _=>rfl)) (pe_defE hE_row_to_keep lvs_cx hr (pa_cons (pv 2) (pa_cons (pv 4) pa_nil))) rfl)
(pss_one (ps_ret pe_str)))))))),?_⟩
 have no:∀{y z:Str},y≠z->decide (V.str y=V.str z)=false:=fun n=>decide_eq_false fun e=>n (V.str.inj e)
 refine⟨_,rfl,v,rfl,?_⟩
 rcases h with⟨T,kn,nt,rf⟩ | ⟨z,rfl,z19,⟨bad,rf⟩ | ⟨x,rest,fs,sp,r19,fo,le,gd,sr⟩⟩
 ·exact .inl ⟨T,kn,nt,rf⟩
 ·exact .inr ⟨z,rfl,z19,bad_line bad rf⟩
 refine .inr ⟨z,rfl,z19,x,rest,sp,r19,?_⟩
 rw[fo]
 dsimp only
 rw[if_pos le]
 refine⟨fun⟨j,f,y,e1,e2,ng⟩=>absurd (gd j f y e1 e2) ng,fun tp L ys H1 s1 htp hL ly all=>?_⟩
 refine⟨tp,_,rfl,SqT.of htp,rfl,_,_,rfl,_,_,rfl,rfl,?_⟩
 refine⟨_,rfl,rfl,_,rfl,?_⟩
 have de1:=de.same s1
 obtain⟨dx,ha1,hd1⟩:=de1
 by_cases ck:x=oS "kept"
 ·rw[decide_eq_true (by rw[ck])]
  refine iteT ?_
  rcases sr with⟨e,_⟩ | ⟨_,ns,kk,l100,n8,q⟩ | ⟨n,_⟩ | ⟨n,_⟩ | ⟨n,_⟩ | ⟨n,_⟩ | ⟨n,_⟩
  ·exact absurd (e.symm.trans ck) (by decide +kernel)
  ·refine⟨rfl,_,rfl,a,C,dx,_,_,rfl,ha1,cl,nr,rows_fl,d,ns,kvs,rfl,hd1,kk,by omega,fun ms l pm st hl=>?_⟩
   obtain⟨f1,f2⟩:=names_fit (by rw[pm.length_eq];omega) fun z hz=>n8 z (pm.mem_iff.mp hz)
   exact⟨_,l,_,rfl,rfl,upd_same,by rw[sizeLine_eq];omega,by rw[sizeLine_eq];omega,q _ _ pm st (s1.trans (same_new hl _))⟩
  ·exact absurd ck n
  ·exact absurd ck n
  ·exact absurd ck n
  ·exact absurd ck n
  ·exact absurd ck n
 rw[no ck]
 refine iteF ?_
 have mis:∀(j:Nat) (n:Str),fs[j]?=some (oS "A")->rest[j]?=some n->valV kvs (Sum.inr n)=none->Refuse H E c3:=by
  intro j n e1 e2 nn
  rcases sr with⟨rfl,n1,t,rfl,_⟩ | ⟨e,_⟩ | ⟨_,_,rf⟩ | ⟨_,rfl,n1,r,rfl,hv,_⟩ | ⟨_,rfl,n1,t,n2,r,rfl,_,hv,_⟩ | ⟨_,rfl,n1,n2,r,r',rfl,hv,hv',_⟩ | ⟨_,rfl,n1,n2,r,rfl,_,hv,_⟩
  ·rw[show formsOf (oS "row")=some [oS "N",oS "TEXT"] by decide +kernel]at fo
   cases fo
   match j,e1 with
   |0,e1=>exact absurd (Option.some.inj e1) (by decide +kernel)
   |1,e1=>exact absurd (Option.some.inj e1) (by decide +kernel)
  ·exact absurd e ck
  ·exact rf
  ·match j,e1,e2 with
   |0,_,e2=>cases e2;rw[hv]at nn;cases nn
  ·match j,e1,e2 with
   |0,_,e2=>cases e2;rw[hv]at nn;cases nn
   |1,e1,_=>exact absurd (Option.some.inj e1) (by decide +kernel)
   |2,e1,_=>exact absurd (Option.some.inj e1) (by decide +kernel)
  ·match j,e1,e2 with
   |0,_,e2=>cases e2;rw[hv]at nn;cases nn
   |1,_,e2=>cases e2;rw[hv']at nn;cases nn
  ·match j,e1,e2 with
   |0,_,e2=>cases e2;rw[hv]at nn;cases nn
   |1,e1,_=>exact absurd (Option.some.inj e1) (by decide +kernel)
 have pr:∀i,i<fs.length->∃f y,fs[i]?=some f/\rest[i]?=some y/\(fs.zip rest)[i]?=some (f,y):=fun i hi=>
  ⟨fs[i],rest[i]'(by omega),List.getElem?_eq_getElem hi,List.getElem?_eq_getElem (by omega),by rw[List.getElem?_zip_eq_some];exact⟨List.getElem?_eq_getElem hi,List.getElem?_eq_getElem (by omega)⟩⟩
 have f3:=forms_few fo
 refine⟨_,rfl,L,rfl,⟨_,SqL.of hL⟩,fun D hD=>?_⟩
 refine comp_any ys.length (by rw[sizeLine_eq];omega)
  (fun i σ' H' gs=>(∃o1 o2,σ'=[o1,o2,some (.ref a)])/\Same H1 H'/\H' D=some (.lst gs)/\gs.length<=i/\(∀j n,j<i->fs[j]?=some (oS "A")->rest[j]?=some n->valV kvs (Sum.inr n)≠none)/\Paired (Gvn H' kvs) (((fs.zip rest).take i).filter nN) gs)
  (fun i _ x=>ys[i]?=some x) ⟨⟨_,_,rfl⟩,same_new hD _,upd_same,Nat.le_refl _,fun j n h=>absurd h (Nat.not_lt_zero _),.nil⟩ (fun i σ' H' gs pv=>⟨pv.2.2.1,pv.2.2.2.1⟩) (fun i σ' H' gs pv=>items_lst hL i H' pv.2.1) (fun i x' σ' H2 H3 gs hi pv s23 im R S hR hS=>?_) (fun σ' H2 gs pv=>?_)
 ·obtain⟨⟨o1,o2,rfl⟩,s12,hgD,gl,fnd,pa⟩:=pv
  obtain⟨f,y,ff,fy,fz⟩:=pr i (by omega)
  obtain⟨p,u,yp,hp1,va⟩:=all i f y ff fy
  rw[im]at yp
  cases yp
  have s13:=s12.trans s23
  refine⟨p,_,rfl,SqT.of (s13 _ _ hp1),rfl,_,_,rfl,_,_,rfl,rfl,?_⟩
  refine⟨_,rfl,rfl,_,rfl,?_⟩
  have fnd2:(f=oS "A"->valV kvs (Sum.inr y)≠none)->∀j n,j<i+1->fs[j]?=some (oS "A")->rest[j]?=some n->valV kvs (Sum.inr n)≠none:=fun g j n hj e1 e2=>by
   by_cases ji:j<i
   ·exact fnd j n ji e1 e2
   ·obtain rfl:j=i:=by omega
    rw[ff]at e1
    rw[fy]at e2
    cases e2
    exact g (Option.some.inj e1)
  by_cases cN:f=oS "N"
  ·rw[decide_eq_true (by rw[cN])]
   refine iteF (hS _ _ ⟨⟨_,_,rfl⟩,s13,s23 _ _ hgD,by omega,fnd2 fun z=>absurd (cN.symm.trans z) (by decide +kernel),?_⟩)
   rw[take_add_one,fz,filter_append,show List.filter nN (some (f,y)).toList=[] by subst cN;exact filter_cons_of_neg (by show ¬(!decide (oS "N" = oS "N"))=true;decide +kernel),append_nil]
   exact L2.Paired.imp' (fun _ _ g=>g.keep fun r xs e=>s23 _ _ e) pa
  ·rw[no cN]
   have kp:∀o r xs,H2 r=some (.tup xs)->(upd H3 D o) r=some (.tup xs):=fun o r xs e=>by
    have e3:=s23 _ _ e
    rw[upd_ne (fun n=>by rw[n,s23 _ _ hgD]at e3;cases e3)]
    exact e3
   have nx:∀(w:V),Gvn H3 kvs (f,y) w->(f=oS "A"->valV kvs (Sum.inr y)≠none)->∀σ3,(∃o1 o2,σ3=[o1,o2,some (.ref a)])->R σ3 w H3:=fun w gw nn σ3 hσ=>by
    refine hR _ _ _ (s23 _ _ hgD) ⟨hσ,fun b o e=>by rw[upd_ne (ne_of_none e hD)];exact s13 _ _ e,upd_same,by rw[length_append,length_singleton];omega,fnd2 nn,?_⟩
    rw[take_add_one,fz,filter_append,show List.filter nN (some (f,y)).toList=[(f,y)] from filter_cons_of_pos (by show(!decide (f=oS "N"))=true;rw[decide_eq_false cN];rfl)]
    refine paired_snoc (L2.Paired.imp' (fun _ _ g=>g.keep (kp _)) pa) (gw.keep fun r xs e=>?_)
    rw[upd_ne (fun n=>by rw[n,s23 _ _ hgD]at e;cases e)]
    exact e
   refine iteT ⟨_,rfl,rfl,_,rfl,?_⟩
   by_cases cA:f=oS "A"
   ·rw[decide_eq_true (by rw[cA])]
    unfold Val at va
    rw[if_neg (by rw[cA];decide +kernel),if_neg (by rw[cA];decide +kernel)]at va
    obtain⟨rfl,_⟩:=va
    refine iteT ⟨_,rfl,a,dx,_,rfl,s13 _ _ ha1,rows_no,_,rfl,a,y,d,kvs,rfl,⟨dx,s13 _ _ ha1,s13 _ _ hd1⟩,fun w hw=>?_,fun nn e he=>?_⟩
    ·exact nx w (by unfold Gvn;rw[if_pos cA];exact hw) (fun _ z=>by rw[hw]at z;cases z) _ ⟨_,_,rfl⟩
    ·exact mis i y (cA▸ff) fy nn e H3 (s1.trans s13) he
   ·rw[no cA]
    exact iteF ⟨_,rfl,nx u (by unfold Gvn;rw[if_neg cA];exact va.keep fun r xs e=>s13 _ _ e) (fun z=>absurd z cA) _ ⟨_,_,rfl⟩⟩
 obtain⟨_,s12,hgD,gl,fnd,pa⟩:=pv
 have zl:(fs.zip rest).length=ys.length:=by rw[List.length_zip,ly,le,Nat.min_self]
 rw[<-zl,take_length]at pa
 refine⟨_,rfl,L,rfl,⟨_,SqL.of (s12 _ _ hL)⟩,fun D2 hD2=>?_⟩
 refine comp_any ys.length (by rw[sizeLine_eq];omega)
  (fun i σ' H' gs=>(∃o1 o2,σ'=[o1,o2])/\Same H2 H'/\H' D2=some (.lst gs)/\gs.length<=i/\gs=(((fs.zip rest).take i).filter yN).map fun p=>V.str p.2)
  (fun i _ x=>ys[i]?=some x) ⟨⟨_,_,rfl⟩,same_new hD2 _,upd_same,Nat.le_refl _,rfl⟩ (fun i σ' H' gs pv=>⟨pv.2.2.1,pv.2.2.2.1⟩) (fun i σ' H' gs pv=>items_lst (s12 _ _ hL) i H' pv.2.1) (fun i x' σ' H3 H4 gs hi pv s34 im R S hR hS=>?_) (fun σ' H3 gs' pv=>?_)
 ·obtain⟨⟨o1,o2,rfl⟩,s23,hgD2,gl2,eg⟩:=pv
  obtain⟨f,y,ff,fy,fz⟩:=pr i (by omega)
  obtain⟨p,u,yp,hp1,va⟩:=all i f y ff fy
  rw[im]at yp
  cases yp
  have s24:=s23.trans s34
  refine⟨p,_,rfl,SqT.of (s24 _ _ (s12 _ _ hp1)),rfl,_,_,rfl,_,_,rfl,rfl,?_⟩
  refine⟨_,rfl,rfl,_,rfl,?_⟩
  by_cases cN:f=oS "N"
  ·rw[decide_eq_true (by rw[cN])]
   unfold Val at va
   rw[if_neg (by rw[cN];decide +kernel),if_neg (by rw[cN];decide +kernel)]at va
   obtain⟨rfl,_⟩:=va
   refine iteT ⟨_,rfl,hR _ _ _ (s34 _ _ hgD2) ⟨⟨_,_,rfl⟩,fun b o e=>by rw[upd_ne (ne_of_none e hD2)];exact s24 _ _ e,upd_same,by rw[length_append,length_singleton];omega,?_⟩⟩
   rw[take_add_one,fz,filter_append,show List.filter yN (some (f,y)).toList=[(f,y)] from filter_cons_of_pos (by show decide (f=oS "N")=true;rw[decide_eq_true cN]),map_append,<-eg]
   rfl
  ·rw[no cN]
   refine iteF (hS _ _ ⟨⟨_,_,rfl⟩,s24,s34 _ _ hgD2,by omega,?_⟩)
   rw[take_add_one,fz,filter_append,show List.filter yN (some (f,y)).toList=[] from filter_cons_of_neg (by show ¬decide (f=oS "N")=true;rw[decide_eq_false cN];decide),append_nil]
   exact eg
 obtain⟨_,s23,hgD2,gl2,eg⟩:=pv
 rw[<-zl,take_length]at eg
 have s13:=s12.trans s23
 have hg3:=s23 _ _ hgD
 rcases sr with⟨rfl,n1,t,rfl,k100,q⟩ | ⟨e,_⟩ | ⟨_,⟨j,n,e1,e2,nn⟩,_⟩ | ⟨_,rfl,n1,r,rfl,hv,q⟩ | ⟨_,rfl,n1,t,n2,r,rfl,k100,hv,q⟩ | ⟨_,rfl,n1,n2,r,r',rfl,hv,hv',q⟩ | ⟨_,rfl,n1,n2,r,rfl,k100,hv,q⟩
 ·rw[show formsOf (oS "row")=some [oS "N",oS "TEXT"] by decide +kernel]at fo
  cases fo
  rw[show List.zip [oS "N",oS "TEXT"] [n1,t]=[(oS "N",n1),(oS "TEXT",t)] from rfl]at pa eg
  rw[n_row]at pa
  rw[y_row]at eg
  cases pa with
  |cons g t'=>
   cases t'
   unfold Gvn Val at g
   dsimp only at g
   rw[if_neg (show ¬oS "TEXT" = oS "A" by decide +kernel),if_pos rfl]at g
   obtain⟨r,row,rfl,hr2,wd,l12,et⟩:=g
   subst eg
   refine⟨_,rfl,true,.inl ⟨_,SqL.of hgD2,rfl⟩,iteF ?_⟩
   refine⟨_,rfl,_,rfl,_,D,_,rfl,hg3,.inl ⟨rfl,_,rfl,?_⟩⟩
   refine⟨_,rfl,a,C,dx,_,_,rfl,s13 _ _ ha1,cl,nr,rows_fl,_,rfl,D2,_,_,_,rfl,rfl,SqL.of hgD2,(show atI [V.str n1] ((0:Nat):Int)=some (V.str n1) from atI_nat rfl),d,_,rfl,DPut.k (k:=Sum.inr n1) (s13 _ _ hd1) (by rw[sizeLine_eq];omega),?_⟩
   exact q H3 r row (s1.trans s13) (s23 _ _ hr2) et wd l12
 ·exact absurd e ck
 ·exact absurd nn (fnd j n (by rw[ly];exact(List.getElem?_eq_some_iff.mp e1).1) e1 e2)
 ·rw[show List.zip [oS "A"] [n1]=[(oS "A",n1)] from rfl]at pa eg
  rw[n_one]at pa
  rw[y_one]at eg
  cases pa with
  |cons g t'=>
   cases t'
   unfold Gvn at g
   rw[if_pos rfl]at g
   rw[hv]at g
   cases g
   subst eg
   exact⟨_,rfl,false,.inl ⟨_,SqL.of hgD2,rfl⟩,iteT ⟨_,rfl,_,rfl,_,D,_,rfl,hg3,q H3 (s1.trans s13)⟩⟩
 ·rw[show List.zip [oS "A",oS "K",oS "N"] [n1,t,n2]=[(oS "A",n1),(oS "K",t),(oS "N",n2)] from rfl]at pa eg
  rw[n_num]at pa
  rw[y_num]at eg
  cases pa with
  |cons g t'=>
   cases t' with
   |cons g' t''=>
    cases t''
    unfold Gvn at g g'
    rw[if_pos rfl,hv]at g
    cases g
    unfold Val at g'
    dsimp only at g'
    rw[if_neg (show ¬oS "K" = oS "A" by decide +kernel),if_neg (show ¬oS "K" = oS "TEXT" by decide +kernel),if_pos rfl]at g'
    obtain⟨m,rfl,n30,et⟩:=g'
    subst eg
    refine⟨_,rfl,true,.inl ⟨_,SqL.of hgD2,rfl⟩,iteF ⟨_,rfl,_,rfl,_,D,_,rfl,hg3,(q H3 m (s1.trans s13) n30 et).imp fun u H4 s4 qq=>?_⟩⟩
    exact⟨_,rfl,a,C,dx,_,_,rfl,s4 _ _ (s13 _ _ ha1),cl,nr,rows_fl,_,rfl,D2,_,_,_,rfl,rfl,SqL.of (s4 _ _ hgD2),(show atI [V.str n2] ((0:Nat):Int)=some (V.str n2) from atI_nat rfl),d,_,rfl,DPut.k (k:=Sum.inr n2) (s4 _ _ (s13 _ _ hd1)) (by rw[sizeLine_eq];omega),qq⟩
 ·rw[show List.zip [oS "A",oS "A"] [n1,n2]=[(oS "A",n1),(oS "A",n2)] from rfl]at pa eg
  rw[n_two]at pa
  rw[y_two]at eg
  cases pa with
  |cons g t'=>
   cases t' with
   |cons g' t''=>
    cases t''
    unfold Gvn at g g'
    rw[if_pos rfl,hv]at g
    rw[if_pos rfl,hv']at g'
    cases g
    cases g'
    subst eg
    exact⟨_,rfl,false,.inl ⟨_,SqL.of hgD2,rfl⟩,iteT ⟨_,rfl,_,rfl,_,D,_,rfl,hg3,q H3 (s1.trans s13)⟩⟩
 ·rw[show List.zip [oS "A",oS "N"] [n1,n2]=[(oS "A",n1),(oS "N",n2)] from rfl]at pa eg
  rw[n_peel]at pa
  rw[y_peel]at eg
  cases pa with
  |cons g t'=>
   cases t'
   unfold Gvn at g
   rw[if_pos rfl,hv]at g
   cases g
   subst eg
   refine⟨_,rfl,true,.inl ⟨_,SqL.of hgD2,rfl⟩,iteF ⟨_,rfl,_,rfl,_,D,_,rfl,hg3,(q H3 (s1.trans s13)).imp fun u H4 s4 qq=>?_⟩⟩
   exact⟨_,rfl,a,C,dx,_,_,rfl,s4 _ _ (s13 _ _ ha1),cl,nr,rows_fl,_,rfl,D2,_,_,_,rfl,rfl,SqL.of (s4 _ _ hgD2),(show atI [V.str n2] ((0:Nat):Int)=some (V.str n2) from atI_nat rfl),d,_,rfl,DPut.k (k:=Sum.inr n2) (s4 _ _ (s13 _ _ hd1)) (by rw[sizeLine_eq];omega),qq⟩
end
end K96
namespace L2
def spl (c:Nat):List Nat->List (List Nat)
 |[]=>[[]]
 |x::r=>if x=c then []::spl c r else((x::(spl c r).headD [])::(spl c r).tail)
theorem spl_ne (c:Nat):∀l,spl c l≠[]
 |[]=>by unfold spl;simp
 |x::r=>by unfold spl;split<;>simp
theorem spl_free {c:Nat}:∀{w:List Nat},c∉w->spl c w=[w]
 |[],_=>rfl
 |x::r,h=>by
  unfold spl
  rw[if_neg (fun e=>h (by rw[e];exact mem_cons_self)),spl_free (fun z=>h (mem_cons_of_mem _ z))]
  rfl
theorem spl_cons (c x:Nat)(l:List Nat):spl c (x::l)=if x=c then []::spl c l else((x::(spl c l).headD [])::(spl c l).tail):=rfl
theorem spl_app {c:Nat}:∀(a b:List Nat),spl c (a++c::b)=spl c a++spl c b
 |[],b=>by
  show spl c (c::b)=[[]]++spl c b
  rw[spl_cons,if_pos rfl]
  rfl
 |x::r,b=>by
  show spl c (x::(r++c::b))=spl c (x::r)++spl c b
  rw[spl_cons,spl_cons,spl_app r b]
  split
  ·rfl
  ·have ne:=spl_ne c r
   cases e:spl c r with
   |nil=>exact absurd e ne
   |cons w ws=>rfl
theorem join_lists (c:Nat):∀(ps:List Str),ps≠[]->(∀p∈ps,c∉p.cps.toList)->spl c (Str.join ⟨#[c]⟩ ps).cps.toList=ps.map (·.cps.toList)
 |[],h,_=>absurd rfl h
 |[p],_,h=>spl_free (h p mem_cons_self)
 |p::q::r,_,h=>by
  have ih:=join_lists c (q::r) (by simp) fun x hx=>h x (mem_cons_of_mem _ hx)
  show spl c (p++⟨#[c]⟩++Str.join ⟨#[c]⟩ (q::r)).cps.toList=_
  rw[app_list,app_list,List.append_assoc]
  show spl c (p.cps.toList++c::(Str.join ⟨#[c]⟩ (q::r)).cps.toList)=_
  rw[spl_app,ih,spl_free (h p mem_cons_self)]
  rfl
theorem split_ne (x y:Str):Txt.split x y≠[]:=by
 unfold Txt.split
 split
 ·simp
 ·split
  ·simp
  ·unfold partsBetween
   intro e
   have:=congrArg List.length e
   simp at this
theorem split_spl (x:Str)(c:Nat):(Txt.split x ⟨#[c]⟩).map (·.cps.toList)=spl c x.cps.toList:=by
 have:=join_lists c (Txt.split x ⟨#[c]⟩) (split_ne x _) (StrLaws.split_free x c)
 rw[StrLaws.join_split]at this
 exact this.symm
theorem lists_inj {a b:List Str}(h:a.map (·.cps.toList)=b.map (·.cps.toList)):a=b:=by
 induction a generalizing b with
 |nil=>cases b with
  |nil=>rfl
  |cons _ _=>cases h
 |cons x a ih=>cases b with
  |nil=>cases h
  |cons y b=>
   rw[map_cons,map_cons]at h
   injection h with h1 h2
   rw[str_ext h1,ih h2]
theorem split_join (c:Nat){ps:List Str}(ne:ps≠[])(h:∀p∈ps,c∉p.cps.toList):Txt.split (Str.join ⟨#[c]⟩ ps) ⟨#[c]⟩=ps:=by
 apply lists_inj
 rw[split_spl,join_lists c ps ne h]
end L2
namespace K96
open L2
open BB (lens outs)
theorem passes_none {X:Cx}:Passes (CXF X.prog X.w) X (fun _ _ _=>False):=fun _ _ _ _ _ _ _ ⟨_,_,_,_,_,q⟩=>q.elim
abbrev Dk:=List (Str×List Int)
def Ent (H:Hp)(p:Str×List Int)(e:Key×V):Prop:=e.1=Sum.inr p.1/\∃r,e.2=.ref r/\H r=some (.tup (p.2.map V.int))
def DkAt (C a d:Addr)(D:Dk)(H:Hp):Prop:=∃kvs,DeskAt C a d kvs H/\Paired (Ent H) D kvs
def rowOf (D:Dk)(n:Str):Option (List Int):=(D.find? fun p=>decide (p.1=n)).map (·.2)
def putD (D:Dk)(n:Str)(row:List Int):Dk:=if(D.any fun p=>decide (p.1=n))=true then D.map (fun p=>if p.1=n then(p.1,row) else p) else D++[(n,row)]
def KeepD (d:Addr)(H H':Hp):Prop:=∀b o,b≠d->H b=some o->H' b=some o
theorem Ent.keep {H H':Hp}(k:∀r xs,H r=some (.tup xs)->H' r=some (.tup xs)){p:Str×List Int}{e:Key×V}(h:Ent H p e):Ent H' p e:=by
 obtain⟨h1,r,h2,h3⟩:=h
 exact⟨h1,r,h2,k _ _ h3⟩
section
variable {C a d c0 c2 c3 c4:Addr}{D:Dk}{H H':Hp}{Q:VK}{E:XK}{kvs:List (Key×V)}{n m t z:Str}{row:List Int}
theorem DkAt.same (h:DkAt C a d D H)(s:Same H H'):DkAt C a d D H':=by
 obtain⟨kvs,h1,h2⟩:=h
 exact⟨kvs,h1.same s,L2.Paired.imp' (fun _ _ g=>g.keep fun _ _ e=>s _ _ e) h2⟩
theorem dk_names:∀{D:Dk} {kvs:List (Key×V)},Paired (Ent H) D kvs->kvs.map (·.1)=(D.map (·.1)).map Sum.inr
 |_,_,.nil=>rfl
 |_,_,.cons h r=>by rw[map_cons,map_cons,map_cons,dk_names r,h.1]
theorem dk_len:∀{D:Dk} {kvs:List (Key×V)},Paired (Ent H) D kvs->kvs.length=D.length
 |_,_,.nil=>rfl
 |_,_,.cons h r=>by rw[length_cons,length_cons,dk_len r]
theorem dk_none:∀{D:Dk} {kvs:List (Key×V)},Paired (Ent H) D kvs->rowOf D n=none->valV kvs (Sum.inr n)=none
 |_,_,.nil,_=>rfl
 |_,_,@Paired.cons _ _ _ p e D kvs h r,q=>by
  unfold rowOf at q
  by_cases c:p.1=n
  ·rw[find?_cons_of_pos (by exact decide_eq_true c)]at q
   cases q
  ·rw[find?_cons_of_neg (by rw[decide_eq_false c];exact Bool.false_ne_true)]at q
   rw[valV_neg (by rw[h.1];exact fun z=>c (Sum.inr.inj z))]
   exact dk_none r q
theorem dk_some:∀{D:Dk} {kvs:List (Key×V)},Paired (Ent H) D kvs->rowOf D n=some row->∃r,valV kvs (Sum.inr n)=some (.ref r)/\H r=some (.tup (row.map V.int))
 |_,_,.nil,q=>by cases q
 |_,_,@Paired.cons _ _ _ p e D kvs h r,q=>by
  unfold rowOf at q
  by_cases c:p.1=n
  ·rw[find?_cons_of_pos (by exact decide_eq_true c)]at q
   cases q
   obtain⟨h1,r,h2,h3⟩:=h
   exact⟨r,by rw[valV_pos (by rw[h1,c]),h2],h3⟩
  ·rw[find?_cons_of_neg (by rw[decide_eq_false c];exact Bool.false_ne_true)]at q
   rw[valV_neg (by rw[h.1];exact fun z=>c (Sum.inr.inj z))]
   exact dk_some r q
theorem dk_any:∀{D:Dk} {kvs:List (Key×V)},Paired (Ent H) D kvs->(kvs.any fun kv=>decide (kv.1=Sum.inr n))=D.any fun p=>decide (p.1=n)
 |_,_,.nil=>rfl
 |_,_,@Paired.cons _ _ _ p e D kvs h r=>by
  rw[any_cons,any_cons,dk_any r,h.1,key_rr]
theorem dk_map {r0:Addr}(hr:H r0=some (.tup (row.map V.int))):∀{D:Dk} {kvs:List (Key×V)},Paired (Ent H) D kvs->Paired (Ent H) (D.map fun p=>if p.1=n then(p.1,row) else p) (kvs.map fun kv=>if kv.1=Sum.inr n then(kv.1,V.ref r0) else kv)
 |_,_,.nil=>.nil
 |_,_,@Paired.cons _ _ _ p e D kvs h r=>by
  refine .cons ?_ (dk_map hr r)
  dsimp only
  by_cases c:p.1=n
  ·rw[if_pos c,if_pos (by rw[h.1,c])]
   exact⟨h.1,r0,rfl,hr⟩
  ·rw[if_neg c,if_neg (by rw[h.1];exact fun z=>c (Sum.inr.inj z))]
   exact h
theorem dk_put {r0:Addr}(hr:H r0=some (.tup (row.map V.int)))(p:Paired (Ent H) D kvs):Paired (Ent H) (putD D n row) (putK kvs (Sum.inr n) (.ref r0)):=by
 unfold putD putK
 rw[dk_any p]
 split
 ·exact dk_map hr p
 ·exact paired_snoc p ⟨rfl,r0,rfl,hr⟩
theorem put_len (D:Dk)(n:Str)(row:List Int):(putD D n row).length<=D.length+1:=by
 unfold putD
 split
 ·rw[length_map];omega
 ·rw[length_append,length_singleton];exact Nat.le_refl _
theorem dk_upd {r0:Addr}(h:DeskAt C a d kvs H)(p:Paired (Ent H) D kvs)(hr:H r0=some (.tup (row.map V.int))):DkAt C a d (putD D n row) (upd H d (.dK (putK kvs (Sum.inr n) (.ref r0))))/\KeepD d H (upd H d (.dK (putK kvs (Sum.inr n) (.ref r0)))):=by
 obtain⟨dx,h1,h2⟩:=h
 refine⟨⟨_,⟨dx,by rw[upd_ne (fun z=>by rw[z,h2]at h1;cases h1)];exact h1,upd_same⟩,L2.Paired.imp' (fun _ _ g=>g.keep fun r xs e=>?_) (dk_put hr p)⟩,fun b o ne e=>by rw[upd_ne ne];exact e⟩
 rw[upd_ne (fun z=>by rw[z,h2]at e;cases e)]
 exact e
theorem KeepD.same (s:Same H H'){H2:Hp}(k:KeepD d H' H2):KeepD d H H2:=fun b o n e=>k b o n (s b o e)
theorem spl_le (c:Nat):∀(l:List Nat),∀w∈spl c l,w.length<=l.length
 |[],w,h=>by
  have:w=[]:=by simpa[spl]using h
  rw[this];exact Nat.le_refl _
 |x::r,w,h=>by
  rw[spl_cons]at h
  have ne:=spl_ne c r
  cases e:spl c r with
  |nil=>exact absurd e ne
  |cons w0 ws=>
   have h0:=spl_le c r w0 (by rw[e];exact mem_cons_self)
   have h1:=fun v hv=>spl_le c r v (by rw[e];exact hv)
   split at h
   ·rcases mem_cons.mp h with rfl | h
    ·exact zero_le _
    ·have:=spl_le c r w h
     rw[length_cons];omega
   ·rw[e]at h
    rcases mem_cons.mp h with rfl | h
    ·show(x::w0).length<=_
     rw[length_cons,length_cons];omega
    ·have:=h1 w (mem_cons_of_mem _ h)
     rw[length_cons];omega
theorem blk_is:BLK=⟨#[32]⟩:=by decide +kernel
theorem split_le {z y:Str}(h:y∈Txt.split z BLK):y.length<=z.length:=by
 rw[blk_is]at h
 have:=spl_le 32 z.cps.toList y.cps.toList (by rw[<-split_spl];exact List.mem_map_of_mem h)
 rw[str_len,str_len]
 exact this
structure Line (z x:Str)(rest fs:List Str):Prop where
 sp:Txt.split z BLK=x::rest
 len:z.length<=1900
 fo:formsOf x=some fs
 le:fs.length=rest.length
 gd:∀(j:Nat) (f y:Str),fs[j]?=some f->rest[j]?=some y->Good f y
theorem say_line {x:Str}{rest fs:List Str}(L:Line z x rest fs)(de:DeskAt C a d kvs H)(r:SayR C c0 c2 c3 d kvs x rest fs H Q E):spSay C c0 c2 c3 c4 [.ref a,.str z] H Q E:=
 ⟨a,_,d,kvs,rfl,de,.inr ⟨z,rfl,L.len,.inr ⟨x,rest,fs,L.sp,fun y hy=>le_trans (split_le (by rw[L.sp];exact mem_cons_of_mem _ hy)) L.len,L.fo,L.le,L.gd,r⟩⟩⟩
theorem good_text {row:List Int}(wd:Wd row)(l:row.length<=12):Good (oS "TEXT") (rowTxt row):=by
 unfold Good
 rw[if_pos rfl]
 exact⟨row,wd,l,rfl⟩
theorem good_num {v:Int}(h:v.natAbs<10^30):Good (oS "K") (numT v):=by
 unfold Good
 rw[if_neg (by decide +kernel),if_pos rfl]
 exact⟨v,h,rfl⟩
theorem good_name {f n:Str}(h1:f≠oS "TEXT")(h2:f≠oS "K")(h:nameB n=true):Good f n:=by
 unfold Good
 rw[if_neg h1,if_neg h2]
 exact h
theorem good_A {n:Str}(h:nameB n=true):Good (oS "A") n:=good_name (by decide +kernel) (by decide +kernel) h
theorem good_N {n:Str}(h:nameB n=true):Good (oS "N") n:=good_name (by decide +kernel) (by decide +kernel) h
theorem gd1 {f y:Str}(h:Good f y):∀(j:Nat) (f' y':Str),[f][j]?=some f'->[y][j]?=some y'->Good f' y'
 |0,_,_,e1,e2=>by cases e1;cases e2;exact h
 |j+1,_,_,e1,_=>by cases e1
theorem gdc {f y:Str}{fs ys:List Str}(h:Good f y)(r:∀(j:Nat) (f' y':Str),fs[j]?=some f'->ys[j]?=some y'->Good f' y'):∀(j:Nat) (f' y':Str),(f::fs)[j]?=some f'->(y::ys)[j]?=some y'->Good f' y'
 |0,_,_,e1,e2=>by cases e1;cases e2;exact h
 |j+1,_,_,e1,e2=>r j _ _ e1 e2
theorem sayG_row (L:Line z (oS "row") [n,rowTxt row] [oS "N",oS "TEXT"])(dk:DkAt C a d D H)(few:D.length<60)(q:∀H',KeepD d H H'->DkAt C a d (putD D n row) H'->Q (.str "ok") H')(inj:∀row',Wd row'->row'.length<=12->rowTxt row=rowTxt row'->row'=row):spSay C c0 c2 c3 c4 [.ref a,.str z] H Q E:=by
 obtain⟨kvs,de,pa⟩:=dk
 refine say_line L de (.inl ⟨rfl,n,_,rfl,by rw[dk_len pa];omega,fun H1 r row' s hr et wd l12=>?_⟩)
 obtain rfl:=inj row' wd l12 et
 have pa1:Paired (Ent H1) D kvs:=L2.Paired.imp' (fun _ _ g=>g.keep fun _ _ e=>s _ _ e) pa
 obtain⟨u1,u2⟩:=dk_upd (n:=n) (de.same s) pa1 hr
 exact q _ (u2.same s) u1
theorem sayG_kept (dk:DkAt C a d D H)(few:D.length<=60)(h8:∀p∈D,p.1.length<=8)(q:∀(ms:List Str) (H':Hp),ms.Perm (D.map (·.1))->sortedS ms=true->Same H H'->Q (.str (Str.join BLK ms)) H'):spSay C c0 c2 c3 c4 [.ref a,.str (oS "kept")] H Q E:=by
 obtain⟨kvs,de,pa⟩:=dk
 refine say_line (x:=oS "kept") (rest:=[]) (fs:=[]) ⟨by decide +kernel,by decide +kernel,by decide +kernel,rfl,fun j f y e=>by cases e⟩ de (.inr (.inl ⟨rfl,_,dk_names pa,by rw[length_map];exact few,fun z hz=>?_,q⟩))
 obtain⟨p,hp,rfl⟩:=mem_map.mp hz
 exact h8 p hp
theorem sayG_ask {x:Str}(L:Line z x [n] [oS "A"])(hk:x≠oS "kept")(dk:DkAt C a d D H)(ro:rowOf D n=some row)(q:∀(H1:Hp) (r:Addr),Same H H1->H1 r=some (.tup (row.map V.int))->AnsR c2 x [.ref r] H1 Q E):spSay C c0 c2 c3 c4 [.ref a,.str z] H Q E:=by
 obtain⟨kvs,de,pa⟩:=dk
 obtain⟨r,hv,hr⟩:=dk_some pa ro
 exact say_line L de (.inr (.inr (.inr (.inl ⟨hk,rfl,n,_,rfl,hv,fun H1 s=>q H1 r s (s _ _ hr)⟩))))
theorem sayG_show (L:Line z (oS "show") [n] [oS "A"])(dk:DkAt C a d D H)(ro:rowOf D n=some row)(wd:Wd row)(q:∀H',Same H H'->Q (.str (rowTxt row)) H'):spSay C c0 c2 c3 c4 [.ref a,.str z] H Q E:=
 sayG_ask L (by decide +kernel) dk ro fun H1 r s hr=>⟨r,row,rfl,hr,.inr ⟨rfl,wd,fun H2 s2=>q H2 (s.trans s2)⟩⟩
theorem sayG_free (L:Line z (oS "free") [n] [oS "A"])(dk:DkAt C a d D H)(ro:rowOf D n=some row)(far:Far row)(e:ftF row=none)(q2:Refuse H E c2):spSay C c0 c2 c3 c4 [.ref a,.str z] H Q E:=
 sayG_ask L (by decide +kernel) dk ro fun H1 r s hr=>⟨r,row,rfl,hr,.inl ⟨rfl,far,e,q2.same s⟩⟩
theorem sayG_odd {x:Str}{v:Int}(L:Line z x [n,numT v,m] [oS "A",oS "K",oS "N"])(hk:x≠oS "kept")(hv:v.natAbs<10^30)(dk:DkAt C a d D H)(few:D.length<60)(ro:rowOf D n=some row)(o:(x=oS "later"/\numB (-60) 60 (.int v)=false)\/(x=oS "small"/\numB 1 12 (.int v)=false))(q:Refuse H E c0):spSay C c0 c2 c3 c4 [.ref a,.str z] H Q E:=by
 obtain⟨kvs,de,pa⟩:=dk
 obtain⟨r,hv',hr⟩:=dk_some pa ro
 refine say_line L de (.inr (.inr (.inr (.inr (.inl ⟨hk,rfl,n,_,m,_,rfl,by rw[dk_len pa];omega,hv',fun H1 v' s n30 et=>?_⟩)))))
 have ev:v'=v:=by
  have:=num_read30 n30
  rw[<-et,num_read30 hv]at this
  exact(Option.some.inj this).symm
 subst ev
 refine .inr ⟨r,_,rfl,?_⟩
 rcases o with⟨e1,e2⟩ | ⟨e1,e2⟩
 ·exact .inl ⟨e1,e2,q.same s⟩
 ·exact .inr ⟨e1,e2,q.same s⟩
theorem sayG_lost {x:Str}{rest fs:List Str}(L:Line z x rest fs)(hk:x≠oS "kept")(dk:DkAt C a d D H){j:Nat}(hf:fs[j]?=some (oS "A"))(hr:rest[j]?=some n)(ro:rowOf D n=none)(q:Refuse H E c3):spSay C c0 c2 c3 c4 [.ref a,.str z] H Q E:=by
 obtain⟨kvs,de,pa⟩:=dk
 exact say_line L de (.inr (.inr (.inl ⟨hk,⟨j,n,hf,hr,dk_none pa ro⟩,q⟩)))
theorem sayG_bad (b:BadLine z)(l:z.length<=1900)(dk:DkAt C a d D H)(q:Refuse H E c4):spSay C c0 c2 c3 c4 [.ref a,.str z] H Q E:=by
 obtain⟨kvs,de,pa⟩:=dk
 exact⟨a,_,d,kvs,rfl,de,.inr ⟨z,rfl,l,.inl ⟨b,q⟩⟩⟩
end
theorem rows_ns {d:Addr}:([(oS "rows",V.ref d)]:List (Str×V)).lookup (oS "say")=none:=by
 show(match(oS "say"==oS "rows") with | true=>some (V.ref d) | false=>none)=_
 rw[show(oS "say"==oS "rows")=false by decide +kernel]
theorem desk_new {C x dx d:Addr}{H:Hp}(hx:H x=none)(hdx:H dx=none)(hd:(upd (upd H dx (.own x)) x (.ins C dx [])) d=none):∃G:Hp,G=upd (upd (upd (upd H dx (.own x)) x (.ins C dx [])) d (.dK [])) x (.ins C dx [(oS "rows",.ref d)])/\Same H G/\DkAt C x d [] G/\H d=none:=by
 have dx':d≠x:=fun z=>by rw[z,upd_same]at hd;cases hd
 have hd1:upd H dx (.own x) d=none:=(upd_ne dx').symm.trans hd
 have dn:d≠dx:=fun z=>by rw[z,upd_same]at hd1;cases hd1
 have hd0:H d=none:=(upd_ne dn).symm.trans hd1
 refine⟨_,rfl,fun b o e=>?_,⟨[],⟨dx,upd_same,by rw[upd_ne dx'];exact upd_same⟩,.nil⟩,hd0⟩
 rw[upd_ne (ne_of_none e hx),upd_ne (ne_of_none e hd0),upd_ne (ne_of_none e hx),upd_ne (ne_of_none e hdx)]
 exact e
end K96
namespace K96
open L2
def dueN (w:Str):Int:=((NumText.digitsVal (fgs w):Nat):Int)*(if w.cps.toList[0]?=some 45 then -1 else 1)
def dueP (w s:Str):Option (List Int):=
 if ¬(1<=s.length/\s.length<=200) then none
 else if fgs w=[]\/¬(∀c∈fgs w,48<=c/\c<=57)\/10<(fgs w).length then none
 else if(fgs w)[0]?=some 48/\w≠⟨#[48]⟩ then none
 else if ¬(∀c∈s.cps.toList,c=111\/c=46)\/s.cps.toList[0]?≠some 111\/s.cps.toList.getLast?≠some 111 then none
 else if 12<(balls (dueN w) s.cps.toList).length\/(balls (dueN w) s.cps.toList).headD 0 < -1000000000\/1000000000<(balls (dueN w) s.cps.toList).getLastD 0 then none
 else some (balls (dueN w) s.cps.toList)
def dueT (z:Str):Option (List Int):=
 if z=NOB then some [] else match Txt.split z (oS ":") with
  |[w,s]=>dueP w s
  |_=>none
theorem two_or (L:List Str):(∃w s,L=[w,s])\/(L.length≠2/\(match L with | [w,s]=>dueP w s | _=>none)=none):=by
 match L with
 |[]=>exact .inr ⟨by simp,rfl⟩
 |[_]=>exact .inr ⟨by simp,rfl⟩
 |[w,s]=>exact .inl ⟨w,s,rfl⟩
 |_::_::_::_=>exact .inr ⟨by simp,rfl⟩
theorem dig_char:∀d:Nat,d<10->(Nat.digitChar d).toNat=d+48:=by decide
theorem figs_back:∀(n:Nat) (fs:List Nat),fs.length=n+1->(∀c∈fs,48<=c/\c<=57)->fs[0]?≠some 48->figs (NumText.digitsVal fs)=fs/\0<NumText.digitsVal fs:=by
 intro n
 induction n with
 |zero=>
  intro fs l dg nz
  match fs,l with
  |[d],_=>
   have h:=dg d mem_cons_self
   have ne:d≠48:=fun e=>nz (by rw[e];rfl)
   have v:NumText.digitsVal [d]=d - 48:=by show 0*10+(d - 48)=_;omega
   rw[v]
   unfold figs
   rw[Nat.toDigits_of_lt_base (by omega),map_singleton,dig_char _ (by omega)]
   exact⟨by rw[show d - 48+48=d by omega],by omega⟩
 |succ n ih=>
  intro fs l dg nz
  rcases List.eq_nil_or_concat fs with rfl | ⟨pre,d,rfl⟩
  ·simp at l
  ·rw[List.concat_eq_append]at *
   have lp:pre.length=n+1:=by simpa using l
   have h:=dg d (by simp)
   obtain⟨i1,i2⟩:=ih pre lp (fun c hc=>dg c (by simp[hc])) (fun e=>nz (by rw[getElem?_append_left (by omega)];exact e))
   rw[NumText.digitsVal_snoc]
   refine⟨?_,by omega⟩
   have t:=Nat.toDigits_append_toDigits (b:=10) (n:=NumText.digitsVal pre) (d:=d - 48) (by decide) i2 (by omega)
   unfold figs at i1 ⊢
   rw[show NumText.digitsVal pre*10+(d - 48)=10*NumText.digitsVal pre+(d - 48) by omega,<-t,map_append,i1,Nat.toDigits_of_lt_base (by omega),map_singleton,dig_char _ (by omega),show d - 48+48=d by omega]
theorem word_num {w:Str}(c2:fgs w≠[])(c3:∀c∈fgs w,48<=c/\c<=57)(k3:¬((fgs w)[0]?=some 48/\w≠⟨#[48]⟩)):numT (dueN w)=w:=by
 have l1:(fgs w).length=((fgs w).length - 1)+1:=by
  have:=length_pos_iff.mpr c2
  omega
 apply str_ext
 by_cases m:w.cps.toList[0]?=some 45
 ·have lw:=fgs_minus m
  have nw:w≠⟨#[48]⟩:=fun e=>by rw[e]at m;simp at m
  obtain⟨e1,e2⟩:=figs_back _ (fgs w) l1 c3 (fun e=>k3 ⟨e,nw⟩)
  have en:dueN w=-((NumText.digitsVal (fgs w):Nat):Int):=by unfold dueN;rw[if_pos m];omega
  rw[en,numT_neg (by omega),lw,show(-((NumText.digitsVal (fgs w):Nat):Int)).natAbs=NumText.digitsVal (fgs w) by omega,e1]
 ·have lw:fgs w=w.cps.toList:=by unfold fgs;rw[if_neg m]
  have en:dueN w=((NumText.digitsVal (fgs w):Nat):Int):=by unfold dueN;rw[if_neg m];omega
  rw[en,numT_pos]
  by_cases z:(fgs w)[0]?=some 48
  ·have e:w=⟨#[48]⟩:=Classical.byContradiction fun h=>k3 ⟨z,h⟩
   rw[lw,e]
   decide +kernel
  ·rw[(figs_back _ (fgs w) l1 c3 z).1,lw]
theorem balls_up (n:Int)(sg:List Nat):(balls n sg).Pairwise (· < ·):=by
 unfold balls
 exact pairwise_map.mpr ((List.Pairwise.filter _ List.pairwise_lt_range).imp fun h=>by omega)
theorem balls_mem {n:Int}{sg:List Nat}{j:Nat}(h:j<sg.length):n+(j:Int)∈balls n sg↔sg.getD j 0=111:=by
 unfold balls
 rw[mem_map]
 constructor
 ·rintro⟨i,hi,e⟩
  have:i=j:=by omega
  subst this
  exact of_decide_eq_true (mem_filter.mp hi).2
 ·intro e
  exact⟨j,mem_filter.mpr ⟨mem_range.mpr h,decide_eq_true e⟩,rfl⟩
theorem balls_ends {n:Int}{sg:List Nat}(h0:sg[0]?=some 111)(h1:sg.getLast?=some 111):(balls n sg).headD 0=n/\(balls n sg).getLastD 0=n+(sg.length:Int) - 1/\balls n sg≠[]:=by
 have l0:0<sg.length:=by cases sg with | nil=>cases h0 | cons a b=>simp
 have m0:n∈balls n sg:=by
  have:=(balls_mem (n:=n) l0).mpr (by rw[getD_eq_getElem?_getD,h0];rfl)
  simpa using this
 have m1:n+(sg.length:Int) - 1∈balls n sg:=by
  have:=(balls_mem (n:=n) (sg:=sg) (j:=sg.length - 1) (by omega)).mpr (by rw[getD_eq_getElem?_getD,<-getLast?_eq_getElem?,h1];rfl)
  rw[show n+((sg.length - 1:Nat):Int)=n+(sg.length:Int) - 1 by omega]at this
  exact this
 have up:=balls_up n sg
 have bd:=balls_bd (n:=n) (sg:=sg)
 cases e:balls n sg with
 |nil=>rw[e]at m0;cases m0
 |cons x r=>
  rw[e]at m0 m1 up bd
  have hx:=bd x mem_cons_self
  refine⟨?_,?_,by simp⟩
  ·show x=n
   rcases mem_cons.mp m0 with z | z
   ·exact z.symm
   ·have:=(pairwise_cons.mp up).1 n z
    omega
  ·obtain⟨y,ey⟩:∃y,(x::r).getLast?=some y:=by
    cases q:(x::r).getLast? with
    |none=>exact absurd (List.getLast?_eq_none_iff.mp q) (by simp)
    |some y=>exact⟨y,rfl⟩
   rw[List.getLastD_eq_getLast?,ey]
   show y=_
   have a:=last_max up ey _ m1
   have b:=bd y (List.mem_of_getLast? ey)
   omega
theorem signs_back {n:Int}{sg:List Nat}(al:∀c∈sg,c=111\/c=46)(h0:sg[0]?=some 111)(h1:sg.getLast?=some 111):signsOf (balls n sg)=sg:=by
 obtain⟨e1,e2,_⟩:=balls_ends (n:=n) h0 h1
 unfold signsOf
 rw[e1,e2,show(n+(sg.length:Int) - 1+1 - n).toNat=sg.length by omega]
 apply ext_getElem?
 intro j
 rw[getElem?_map]
 by_cases h:j<sg.length
 ·rw[getElem?_range h,List.getElem?_eq_getElem h]
  show some (if n+(j:Int)∈balls n sg then 111 else 46)=some sg[j]
  have ge:sg.getD j 0=sg[j]:=by rw[getD_eq_getElem?_getD,List.getElem?_eq_getElem h];rfl
  congr 1
  by_cases c:sg[j]=111
  ·rw[if_pos ((balls_mem h).mpr (by rw[ge];exact c)),c]
  ·rw[if_neg (fun z=>c (by rw[<-ge];exact(balls_mem h).mp z))]
   rcases al sg[j] (getElem_mem h) with z | z
   ·exact absurd z c
   ·exact z.symm
 ·rw[List.getElem?_eq_none (by simpa using h),List.getElem?_eq_none (by omega)]
  rfl
theorem due_sound {z:Str}{row:List Int}(h:dueT z=some row):Wd row/\row.length<=12/\z=rowTxt row:=by
 unfold dueT at h
 by_cases c0:z=NOB
 ·rw[if_pos c0]at h
  cases h
  exact⟨⟨.nil,fun p hp=>absurd hp not_mem_nil,by decide⟩,by decide,by rw[c0];unfold rowTxt;rw[if_pos rfl]⟩
 rw[if_neg c0]at h
 rcases two_or (Txt.split z (oS ":")) with⟨w,s,e2⟩ | ⟨_,en⟩
 ·have jz:w++oS ":"++s=z:=by
   have:=StrLaws.join_split z (oS ":")
   rw[e2]at this
   exact this
  rw[e2]at h
  have h:dueP w s=some row:=h
  unfold dueP at h
  by_cases c1:¬(1<=s.length/\s.length<=200)
  ·rw[if_pos c1]at h;cases h
  rw[if_neg c1]at h
  by_cases c2:fgs w=[]\/¬(∀c∈fgs w,48<=c/\c<=57)\/10<(fgs w).length
  ·rw[if_pos c2]at h;cases h
  rw[if_neg c2]at h
  by_cases c3:(fgs w)[0]?=some 48/\w≠⟨#[48]⟩
  ·rw[if_pos c3]at h;cases h
  rw[if_neg c3]at h
  by_cases c4:¬(∀c∈s.cps.toList,c=111\/c=46)\/s.cps.toList[0]?≠some 111\/s.cps.toList.getLast?≠some 111
  ·rw[if_pos c4]at h;cases h
  rw[if_neg c4]at h
  by_cases c5:12<(balls (dueN w) s.cps.toList).length\/(balls (dueN w) s.cps.toList).headD 0 < -1000000000\/1000000000<(balls (dueN w) s.cps.toList).getLastD 0
  ·rw[if_pos c5]at h;cases h
  rw[if_neg c5]at h
  cases h
  have a1:∀c∈s.cps.toList,c=111\/c=46:=Classical.byContradiction fun q=>c4 (.inl q)
  have a2:s.cps.toList[0]?=some 111:=Classical.byContradiction fun q=>c4 (.inr (.inl q))
  have a3:s.cps.toList.getLast?=some 111:=Classical.byContradiction fun q=>c4 (.inr (.inr q))
  have f1:fgs w≠[]:=fun q=>c2 (.inl q)
  have f2:∀c∈fgs w,48<=c/\c<=57:=Classical.byContradiction fun q=>c2 (.inr (.inl q))
  have wn:=word_num f1 f2 c3
  have sb:=signs_back (n:=dueN w) a1 a2 a3
  obtain⟨e1,e3,e4⟩:=balls_ends (n:=dueN w) a2 a3
  have ls:=str_len s
  have b1:¬12<(balls (dueN w) s.cps.toList).length:=fun q=>c5 (.inl q)
  have b2:¬(balls (dueN w) s.cps.toList).headD 0 < -1000000000:=fun q=>c5 (.inr (.inl q))
  have b3:¬1000000000<(balls (dueN w) s.cps.toList).getLastD 0:=fun q=>c5 (.inr (.inr q))
  have c1':s.length<=200:=by
   have:=Classical.not_not.mp c1
   omega
  rw[e1]at b2
  rw[e3]at b3
  refine⟨⟨balls_up _ _,fun p hp=>?_,balls_wide (by omega)⟩,by omega,?_⟩
  ·have:=balls_bd p hp
   omega
  ·unfold rowTxt
   rw[if_neg e4,e1,sb,wn,<-jz]
 ·rw[en]at h;cases h
theorem figs_first (m:Nat)(h:m≠0):(figs m)[0]?≠some 48:=by
 induction m using Nat.strongRecOn with
 |_ m ih=>
  by_cases c:m<10
  ·unfold figs
   rw[Nat.toDigits_of_lt_base c,map_singleton,dig_char _ c]
   intro e
   have:m+48=48:=Option.some.inj e
   omega
  ·have q:m % 10<10:=Nat.mod_lt m (by decide)
   have t:=Nat.toDigits_append_toDigits (b:=10) (n:=m / 10) (d:=m % 10) (by decide) (by omega) q
   rw[Nat.div_add_mod]at t
   have e:figs m=figs (m / 10)++figs (m % 10):=by
    unfold figs
    rw[<-t,map_append]
   rw[e,getElem?_append_left (length_pos_iff.mpr (figs_ok _).2)]
   exact ih (m / 10) (by omega) (by omega)
theorem due_whole {row:List Int}(wd:Wd row)(len:row.length<=12):dueT (rowTxt row)=some row:=by
 cases row with
 |nil=>
  unfold dueT
  rw[if_pos (by unfold rowTxt;rw[if_pos rfl])]
 |cons p0 rest=>
  obtain⟨el,ge,ml⟩:=wd_last wd
  have bl:=wd.bd _ ml
  have b0:=wd.bd p0 mem_cons_self
  have wi:=wd.wide
  rw[show(p0::rest).headD 0=p0 from rfl]at wi
  have sl:=signs_len (p0::rest)
  rw[show(p0::rest).headD 0=p0 from rfl]at sl
  have rb:=read_back wd
  have n0:p0.natAbs<10^10:=by omega
  obtain⟨dg,ne⟩:=figs_ok p0.natAbs
  have fl:=figs_len n0
  unfold dueT
  rw[if_neg (txt_ne p0 rest),txt_cons,colon_is]
  have sgm:∀c∈signsOf (p0::rest),c=111\/c=46:=fun c hc=>by
   unfold signsOf at hc
   obtain⟨j,_,rfl⟩:=mem_map.mp hc
   split
   ·exact .inl rfl
   ·exact .inr rfl
  have fg:fgs (numT p0)=figs p0.natAbs:=by
   unfold fgs
   by_cases c:p0<0
   ·rw[numT_neg c,if_pos (show(45::figs p0.natAbs)[0]?=some 45 from rfl)]
    rfl
   ·obtain⟨m,rfl⟩:∃m:Nat,p0=(m:Int):=⟨p0.toNat,by omega⟩
    rw[numT_pos,if_neg (fun e=>by have:=dg 45 (mem_of_getElem? e);omega)]
    rfl
  have dn:dueN (numT p0)=p0:=by
   have v:=PySem.W.KIN.val_back p0.natAbs
   unfold dueN
   rw[fg]
   unfold figs
   rw[v]
   by_cases c:p0<0
   ·rw[if_pos (by rw[numT_neg c];rfl)]
    omega
   ·rw[if_neg (fun e=>?_)]
    ·omega
    ·obtain⟨m,hm⟩:∃m:Nat,p0=(m:Int):=⟨p0.toNat,by omega⟩
     rw[hm,numT_pos]at e
     have:=(figs_ok m).1 45 (mem_of_getElem? e)
     omega
  have ha:58∉(numT p0).cps.toList:=int_text_free' 58 ⟨by decide,by decide⟩ p0
  have hb:58∉(⟨(signsOf (p0::rest)).toArray⟩:Str).cps.toList:=fun e=>by
   rcases sgm 58 e with z | z<;>omega
  rw[split_once ha hb (by decide)]
  show dueP (numT p0) ⟨(signsOf (p0::rest)).toArray⟩=_
  have bs:balls p0 (signsOf (p0::rest))=p0::rest:=rb
  have g0:∀j:Nat,j<(signsOf (p0::rest)).length->(signsOf (p0::rest))[j]?=some (if p0+(j:Int)∈p0::rest then 111 else 46):=fun j hj=>by
   unfold signsOf at hj ⊢
   rw[length_map,length_range]at hj
   rw[getElem?_map,getElem?_range hj]
   rfl
  unfold dueP
  rw[if_neg (fun h=>h ⟨by rw[txt_len];omega,by rw[txt_len];omega⟩),fg,if_neg,if_neg,if_neg,dn]
  ·show(if 12<(balls p0 (signsOf (p0::rest))).length\/(balls p0 (signsOf (p0::rest))).headD 0 < -1000000000\/1000000000<(balls p0 (signsOf (p0::rest))).getLastD 0 then none else some (balls p0 (signsOf (p0::rest))))=_
   rw[bs,if_neg]
   rintro(h | h | h)
   ·omega
   ·have:p0 < -1000000000:=h
    omega
   ·omega
  ·rintro(h | h | h)
   ·exact h sgm
   ·refine h ?_
    show(signsOf (p0::rest))[0]?=some 111
    rw[g0 0 (by omega),if_pos (by simp)]
   ·refine h ?_
    show(signsOf (p0::rest)).getLast?=some 111
    rw[getLast?_eq_getElem?,g0 _ (by omega),if_pos]
    rw[sl,show p0+(((((p0::rest).getLastD 0+1 - p0).toNat - 1:Nat)):Int)=(p0::rest).getLastD 0 by omega]
    exact ml
  ·rintro⟨h1,h2⟩
   by_cases z:p0.natAbs=0
   ·have:p0=0:=by omega
    rw[this]at h2
    exact h2 (by decide +kernel)
   ·have hv:=figs_first _ z
    exact hv h1
  ·rintro(h | h | h)
   ·exact ne h
   ·exact h dg
   ·omega
theorem note_bad {z:Str}(h:dueT z=none):¬NoteOk z:=fun⟨row,wd,l,e⟩=>by
 rw[e,due_whole wd l]at h
 cases h
theorem note_good {z:Str}{row:List Int}(h:dueT z=some row):NoteOk z:=⟨row,due_sound h⟩
def numOkB (z:Str):Bool:=match PySem.intText? z with
 |some m=>decide (m.natAbs<10^30)&&decide (numT m=z)
 |none=>false
theorem num_iff {z:Str}:numOkB z=true↔NumOk z:=by
 unfold numOkB
 constructor
 ·intro h
  cases e:PySem.intText? z with
  |none=>rw[e]at h;cases h
  |some m=>
   rw[e]at h
   dsimp only at h
   rw[and_eq_true]at h
   exact⟨m,of_decide_eq_true h.1,(of_decide_eq_true h.2).symm⟩
 ·rintro⟨n,n30,rfl⟩
  rw[num_read30 n30]
  dsimp only
  rw[decide_eq_true n30,decide_eq_true rfl]
  rfl
def goodB (f z:Str):Bool:=if f=oS "TEXT" then(dueT z).isSome else if f=oS "K" then numOkB z else nameB z
theorem good_iff {f z:Str}:goodB f z=true↔Good f z:=by
 unfold goodB Good
 by_cases c1:f=oS "TEXT"
 ·rw[if_pos c1,if_pos c1]
  constructor
  ·intro h
   obtain⟨row,e⟩:=Option.isSome_iff_exists.mp h
   exact note_good e
  ·rintro⟨row,wd,l,rfl⟩
   rw[due_whole wd l]
   rfl
 rw[if_neg c1,if_neg c1]
 by_cases c2:f=oS "K"
 ·rw[if_pos c2,if_pos c2]
  exact num_iff
 rw[if_neg c2,if_neg c2]
def badB (z:Str):Bool:=match Txt.split z BLK with
 |[]=>false
 |x::rest=>rest.all (fun y=>decide (y.length<=1900))&&match formsOf x with
  |none=>true
  |some fs=>decide (fs.length≠rest.length)||(List.range fs.length).any fun j=>!goodB (fs.getD j Str.empty) (rest.getD j Str.empty)
theorem bad_of {z:Str}(h:badB z=true):BadLine z:=by
 unfold badB at h
 cases e:Txt.split z BLK with
 |nil=>rw[e]at h;cases h
 |cons x rest=>
  rw[e]at h
  dsimp only at h
  rw[and_eq_true]at h
  obtain⟨h1,h2⟩:=h
  refine⟨x,rest,e,fun y hy=>of_decide_eq_true (all_eq_true.mp h1 y hy),?_⟩
  cases fo:formsOf x with
  |none=>trivial
  |some fs=>
   rw[fo]at h2
   dsimp only at h2 ⊢
   by_cases le:fs.length=rest.length
   ·rw[decide_eq_false (fun n=>n le),Bool.false_or]at h2
    obtain⟨j,hj,ng⟩:=any_eq_true.mp h2
    have jl:=mem_range.mp hj
    refine .inr ⟨j,_,_,List.getElem?_eq_getElem jl,List.getElem?_eq_getElem (by omega),fun g=>?_⟩
    rw[getD_eq_getElem?_getD,List.getElem?_eq_getElem jl,getD_eq_getElem?_getD,List.getElem?_eq_getElem (by omega:j<rest.length)]at ng
    rw[show(some fs[j]).getD Str.empty=fs[j] from rfl,show(some (rest[j]'(by omega))).getD Str.empty=rest[j]'(by omega) from rfl,good_iff.mpr g]at ng
    cases ng
   ·exact .inl le
end K96
namespace K96
open L2
structure Nb4 (mg:Str->Option Value):Prop extends Nb3 mg where
 sum:mg "sum" = none
 verr:mg "ValueError" = none
theorem boot_VErr:bootBuiltins "ValueError" = some (.type "ValueError"):=by decide +kernel
structure Errs (K:W.Frag)(mg:Str->Option Value)(b c0 c1 c2 c3 c4:Addr):Prop where
 mb:mg "BallError" = some (.ref b)
 m0:mg "NoNumber" = some (.ref c0)
 m1:mg "NotFree" = some (.ref c1)
 m2:mg "TooLong" = some (.ref c2)
 m3:mg "NoRow" = some (.ref c3)
 m4:mg "BadNote" = some (.ref c4)
 eb:∃bm,Exc K b bm
structure Kind5 (K:W.Frag)(c0 c1 c2 c3 c4 C:Addr)(i:Nat):Prop where
 k0:kitOne K (.ref C) (.ref c0)=some (decide (0=i))
 k1:kitOne K (.ref C) (.ref c1)=some (decide (1=i))
 k2:kitOne K (.ref C) (.ref c2)=some (decide (2=i))
 k3:kitOne K (.ref C) (.ref c3)=some (decide (3=i))
 k4:kitOne K (.ref C) (.ref c4)=some (decide (4=i))
 kv:kitOne K (.ref C) (.type "ValueError")=some true
 lt:i<5
abbrev Rn:VK->VK:=fun Q _ H1=>Q .non H1
def Ec (K:W.Frag)(b c0 c1 c2 c3 c4:Addr):VK->XK:=fun Q c ea H1=>∃C bm e i,c=.ref C/\ea=some e/\H1 e=none/\ExcF K C bm/\(Value.ref C::bm).contains (.ref b)=true/\Kind5 K c0 c1 c2 c3 c4 C i/\
 ∀H2,Same (upd H1 e (ExcO e C)) H2->Q (.int (i:Nat)) H2
theorem runs_imp {P:Program}{w:World}{K:W.Frag}{mg:Str->Option Value}{base:Heap}{k:Nat}{f:Addr}{H:Hp}{Q Q':VK}{E E':XK}(r:Runs P w K mg base k f H Q E)(hq:∀v H1,Q v H1->Q' v H1)(he:∀c a H1,E c a H1->E' c a H1) :
 Runs P w K mg base k f H Q' E':=fun A outer s hr e0=>codeAny_mono (r A outer s hr e0) fun rs s' h=>by
 cases rs with
 |error e=>obtain⟨a,c,H1,e1,F,q⟩:=h;exact⟨a,c,H1,e1,F,he _ _ _ q⟩
 |ok fl=>
  cases fl with
  |ret u=>obtain⟨v,H1,a,b,c,d,e,q⟩:=h;exact⟨v,H1,a,b,c,d,e,hq _ _ q⟩
  |next=>exact h
  |brk=>exact h
  |cont=>exact h
section
variable {P:Program}{w:World}{K:W.Frag}{mg:Str->Option Value}{base:Heap}{b c0 c1 c2 c3 c4:Addr}
theorem ok_L_refused {f:Addr}{fd:FuncData}(F:Fun K "_law_refused" "_law_refused" s_L_refused f fd)(nb:Nb4 mg)(er:Errs K mg b c0 c1 c2 c3 c4) :
 FnOk P w K mg base CX0 8 f fd ["_law_call"] (spRef P w K mg base 7 Rn (Ec K b c0 c1 c2 c3 c4)):=by
 have nd:=sc_L_refused.nd
 refine F.ok (k:=7) sc_L_refused (fun vs H Q E h=>?_) (fun cdv A outer s H vs Q E hr h=>?_)
 ·obtain⟨f,o,fd,rfl,_⟩:=h
  rfl
 obtain⟨f0,o,fd0,rfl,hf,hd,run⟩:=h
 obtain⟨bm,eb⟩:=er.eb
 have c_NoNumber:∃u,mg "NoNumber" = some u/\RelV (.ref c0) u:=⟨_,er.m0,rfl⟩
 have c_NotFree:∃u,mg "NotFree" = some u/\RelV (.ref c1) u:=⟨_,er.m1,rfl⟩
 have c_TooLong:∃u,mg "TooLong" = some u/\RelV (.ref c2) u:=⟨_,er.m2,rfl⟩
 have c_NoRow:∃u,mg "NoRow" = some u/\RelV (.ref c3) u:=⟨_,er.m3,rfl⟩
 have c_BadNote:∃u,mg "BadNote" = some u/\RelV (.ref c4) u:=⟨_,er.m4,rfl⟩
 refine⟨_,(pss_cons (ps_set (i:=1) nd rfl (Or.inl rfl) pe_non)
(pss_cons (ps_try (k:=2) ⟨rfl,rfl,rfl⟩ nd rfl rfl rfl er.mb eb (pb_call (i:=0) hr rfl rfl) (fun A E=>by exact(pss_one (ps_set (i:=1) nd rfl (Or.inl rfl) (pv 2)))))
(pss_cons (ps_if (pt_cmpR op_isN (pv 1) pe_non (nomark _))
(pss_one (ps_ret pe_non))
pss_nil)
(pss_cons (ps_set (i:=3) nd rfl (Or.inl rfl) (pe_lst (pa_cons (pe_callB call_isiE rfl nb.isi boot_isinstance (pa_cons (pv 1) (pa_cons (pe_const c_NoNumber) pa_nil))) (pa_cons (pe_callB call_isiE rfl nb.isi boot_isinstance (pa_cons (pv 1) (pa_cons (pe_const c_NotFree) pa_nil))) (pa_cons (pe_callB call_isiE rfl nb.isi boot_isinstance (pa_cons (pv 1) (pa_cons (pe_const c_TooLong) pa_nil))) pa_nil)))))
(pss_cons (ps_set (i:=3) nd rfl (Or.inl rfl) (pe_op op_cat (pv 3) (pe_lst (pa_cons (pe_callB call_isiE rfl nb.isi boot_isinstance (pa_cons (pv 1) (pa_cons (pe_const c_NoRow) pa_nil))) (pa_cons (pe_callB call_isiE rfl nb.isi boot_isinstance (pa_cons (pv 1) (pa_cons (pe_const c_BadNote) pa_nil))) pa_nil)))))
(pss_cons (ps_if (PW.pt (pw_or (pt_not (pt_truth (pe_callB call_isiE rfl nb.isi boot_isinstance (pa_cons (pv 1) (pa_cons (pe_ty nb.verr boot_VErr) pa_nil))) (fun _=>rfl))) (pw_or1 (pt_cmpR op_ne (pe_callB (call_sumI rfl) rfl nb.sum boot_sum (pa_cons (pe_comp1 (sc:=defScope s_L_refused) (N0:=["_law_call","_law_error","e","_law_sorts"]) (N:=[]) (js:=[]) rfl rfl rfl (by constructor<;>first|decide +kernel|rfl) rfl
(pi_list (pv 3))
(fun _ _ _ _ _=>by exact pts_nil)
(fun _ _ _ _ _=>by exact(pe_callTy call_int1 rfl nb.int boot_int (pa_cons (pv 0) pa_nil)))) pa_nil)) pe_int (nomark _)))))
(pss_one (ps_ret (pe_un un_neg pe_int)))
pss_nil)
(pss_one (ps_ret (pe_bm plainAttrs_list PySem.F.slot_list_index PySem.F.type_list_index mt_indexT (pv 3) (pa_cons pe_bl pa_nil)))))))))),?_⟩
 refine⟨f0,o,fd0,rfl,hf,hd,runs_imp run (fun v H1 q=>?_) (fun c ea H1 q=>?_)⟩
 ·exact⟨_,rfl,rfl,_,rfl,iteT q⟩
 obtain⟨C,bm2,e,i,rfl,rfl,he,ex,hin,kd,q⟩:=q
 refine⟨C,bm2,e,rfl,rfl,ex,hin,_,rfl,?_⟩
 have hE:(upd H1 e (ExcO e C)) e=some (ExcO e C):=upd_same
 generalize upd H1 e (ExcO e C)=G at hE q ⊢
 refine⟨_,rfl,rfl,_,rfl,iteF ?_⟩
 refine⟨_,rfl,e,C,bm2,_,_,rfl,hE,ex,.inl ⟨c0,rfl,kd.k0⟩,_,rfl,e,C,bm2,_,_,rfl,hE,ex,.inl ⟨c1,rfl,kd.k1⟩,_,rfl,e,C,bm2,_,_,rfl,hE,ex,.inl ⟨c2,rfl,kd.k2⟩,(by show 3<=sizeLine;decide),fun p1 hp1=>?_⟩
 have s1:=same_new hp1 (.lst [.bl (decide (0=i)),.bl (decide (1=i)),.bl (decide (2=i))])
 refine⟨_,rfl,_,rfl,e,C,bm2,_,_,rfl,(s1 _ _ hE),ex,.inl ⟨c3,rfl,kd.k3⟩,_,rfl,e,C,bm2,_,_,rfl,(s1 _ _ hE),ex,.inl ⟨c4,rfl,kd.k4⟩,(by show 2<=sizeLine;decide),fun p2 hp2=>?_⟩
 have s2:=same_new hp2 (.lst [.bl (decide (3=i)),.bl (decide (4=i))])
 refine⟨p1,p2,_,_,rfl,rfl,s2 _ _ upd_same,upd_same,(by show 5<=sizeLine;decide),fun p3 hp3=>?_⟩
 have s3:=same_new hp3 (.lst ([.bl (decide (0=i)),.bl (decide (1=i)),.bl (decide (2=i))]++[.bl (decide (3=i)),.bl (decide (4=i))]))
 have h3:(upd (upd (upd G p1 (.lst [.bl (decide (0=i)),.bl (decide (1=i)),.bl (decide (2=i))])) p2 (.lst [.bl (decide (3=i)),.bl (decide (4=i))])) p3 (.lst ([.bl (decide (0=i)),.bl (decide (1=i)),.bl (decide (2=i))]++[.bl (decide (3=i)),.bl (decide (4=i))]))) p3=some (.lst ([decide (0=i),decide (1=i),decide (2=i),decide (3=i),decide (4=i)].map V.bl)):=upd_same
 have s123:=s1.trans (s2.trans s3)
 generalize(upd (upd (upd G p1 (.lst [.bl (decide (0=i)),.bl (decide (1=i)),.bl (decide (2=i))])) p2 (.lst [.bl (decide (3=i)),.bl (decide (4=i))])) p3 (.lst ([.bl (decide (0=i)),.bl (decide (1=i)),.bl (decide (2=i))]++[.bl (decide (3=i)),.bl (decide (4=i))])))=G3 at h3 s123 ⊢
 have hE3:=s123 _ _ hE
 refine⟨_,rfl,e,C,bm2,_,_,rfl,hE3,ex,.inr ⟨"ValueError",rfl,kd.kv⟩,_,rfl,iteF ?_⟩
 generalize hbs:[decide (0=i),decide (1=i),decide (2=i),decide (3=i),decide (4=i)]=bs at h3
 have l5:bs.length=5:=by rw[<-hbs];rfl
 refine⟨_,rfl,p3,rfl,⟨_,SqL.of h3⟩,fun D hD=>?_⟩
 refine comp_go 5 (by decide) (fun j=>.int (if bs.getD j false then 1 else 0)) (fun σ=>∃o1,σ=[o1]) _ hD (by exact⟨_,rfl⟩) (by have:=items_lst (K:=K) h3;rw[length_map,l5]at this;exact this) (fun j x σ' H2 hi s4 im hσ R hR=>?_) (fun H' s' hD'=>?_)
 ·obtain⟨o1,rfl⟩:=hσ
  rw[getElem?_map,List.getElem?_eq_getElem (show j<bs.length by omega)]at im
  have ev:x=.bl (bs.getD j false):=by
   have z:=Option.some.inj im
   rw[<-z]
   simp[getD_eq_getElem?_getD,List.getElem?_eq_getElem (show j<bs.length by omega)]
  subst ev
  exact⟨_,rfl,.inr ⟨_,rfl,hR _ _ _ ⟨_,rfl⟩ (Same.refl _) rfl⟩⟩
 ·have h3':=s' _ _ h3
  have sm:=s123.trans s'
  have e1:((List.range 5).map fun j=>V.int (if bs.getD j false then 1 else 0))=((List.range 5).map fun j=>if bs.getD j false then(1:Int) else 0).map V.int:=by rw[List.map_map];rfl
  have i5:i=0\/i=1\/i=2\/i=3\/i=4:=by have:=kd.lt;omega
  have e2:((List.range 5).map fun j=>if bs.getD j false then(1:Int) else 0).sum=1:=by
   rw[<-hbs]
   rcases i5 with rfl | rfl | rfl | rfl | rfl<;>decide
  have e3:bs[i]?=some true/\∀j,j<i->bs[j]?=some false:=by
   rw[<-hbs]
   rcases i5 with rfl | rfl | rfl | rfl | rfl<;>decide
  refine⟨D,_,rfl,SqL.of (hD'.trans (by rw[e1])),?_⟩
  refine⟨rfl,_,rfl,iteNS (congrArg V.int e2) ?_⟩
  exact⟨_,rfl,.inl ⟨rfl,_,SqL.of h3'⟩,p3,bs,i,rfl,rfl,h3',e3.1,e3.2,q _ sm⟩
end
end K96
namespace L2
theorem comp_inv {J:It}{g:TG}{te:TE}{Q:VK}{D:Addr}{H1:Hp}{σ0:St}(n:Nat)(hn:n<=sizeLine)(Pv:Nat->St->Hp->List V->Prop)(itm:Nat->V->Prop)(h0:Pv 0 σ0 (upd H1 D (.lst [])) [])(hD:∀i σ H ys,Pv i σ H ys->H D=some (.lst ys)/\ys.length=i)(items:∀i σ H ys,Pv i σ H ys->(i<n->J.go i H/\∀x H2,J.yld i H x H2->H2=H/\itm i x)/\(n<=i->J.stop i H))(step:∀i x σ H ys,i<n->Pv i σ H ys->itm i x->∀R:St->V->Hp->Prop,(∀σ3 y H5,H5 D=some (.lst ys)->Pv (i+1) σ3 (upd H5 D (.lst (ys++[y]))) (ys++[y])->R σ3 y H5)->g x σ H fun σ3 H3=>te σ3 H3 (R σ3))(fin:∀σ H ys,Pv n σ H ys->Q (.ref D) H):cmpW J g tYes te Q D σ0 H1:=by
 refine⟨fun i m σ H=>m=n - i/\i<=n/\∃ys,Pv i σ H ys,⟨n,by omega,zero_le _,[],h0⟩,?_⟩
 rintro i m σ H ⟨rfl,hi,ys,pv⟩
 by_cases hlt:i<n
 ·obtain⟨go,yl⟩:=(items i σ H ys pv).1 hlt
  refine .inr ⟨go,fun x H2 y=>?_⟩
  obtain⟨rfl,im⟩:=yl x H2 y
  have key:=step i x σ H2 ys hlt pv im (fun σ3 y H5=>∃ys,H5 D=some (.lst ys)/\ys.length<sizeLine/\∃m',m'<n - i/\(m'=n - (i+1)/\i+1<=n/\∃zs,Pv (i+1) σ3 (upd H5 D (.lst (ys++[y]))) zs)) fun σ3 y H5 e p=>by
   have:=(hD _ _ _ _ pv).2
   exact⟨ys,e,by omega,n - (i+1),by omega,rfl,by omega,_,p⟩
  have e:(fun(σ3:St) (H3:Hp)=>te σ3 H3 fun y H5=>∃ys,H5 D=some (.lst ys)/\ys.length<sizeLine/\∃m',m'<n - i/\(m'=n - (i+1)/\i+1<=n/\∃zs,Pv (i+1) σ3 (upd H5 D (.lst (ys++[y]))) zs)) =
   fun(σ3:St) (H3:Hp)=>tYes σ3 H3 fun ok H4=>if ok=true then te σ3 H4 fun y H5=>∃ys,H5 D=some (.lst ys)/\ys.length<sizeLine/\∃m',m'<n - i/\(m'=n - (i+1)/\i+1<=n/\∃zs,Pv (i+1) σ3 (upd H5 D (.lst (ys++[y]))) zs)
    else ∃m',m'<n - i/\(m'=n - (i+1)/\i+1<=n/\∃zs,Pv (i+1) σ3 H4 zs):=by
   funext σ3 H3
   unfold tYes
   dsimp only
   rw[if_pos rfl]
  rw[<-e]
  exact key
 ·have e:i=n:=by omega
  subst e
  exact .inl ⟨(items i σ H ys pv).2 (Nat.le_refl _),fin σ H ys pv⟩
end L2
namespace K96
open L2
def spNm:Sp:=fun vs H Q _=>∃(a:Addr) (x:Int) (b:Bool),vs=[.ref a]/\StAt H a x b/\
 ∀(n:Str) (H':Hp) (x':Int),Keep a H H'->StAt H' a x' b->nameB n=true->Q (.str n) H'
theorem name_join {cs:List Nat}(h1:1<=cs.length)(h8:cs.length<=8)(hl:∀c∈cs,c∈LET.cps.toList):nameB (Str.join (oS "") (cs.map fun c=>(⟨#[c]⟩:Str)))=true:=by
 rw[join_signs]
 unfold nameB
 show(decide (1<=cs.length)&&decide (cs.length<=8)&&cs.all _)=true
 rw[decide_eq_true h1,decide_eq_true h8,all_eq_true.mpr fun c hc=>decide_eq_true (hl c hc)]
 rfl
section
variable {P:Program}{w:World}{K:W.Frag}{mg:Str->Option Value}{base:Heap}
theorem ok_L_name {f:Addr}{fd:FuncData}(F:Fun K "_law_name" "_law_name" s_L_name f fd)(nb:Nb4 mg)(h_L_take:Has P w K mg base 1 "_law_take" ["_law_state_here","_law_many"] (spTake K))  :
 FnOk P w K mg base CX0 2 f fd ["_law_state_here"] spNm:=by
 have nd:=sc_L_name.nd
 refine F.ok (k:=1) sc_L_name (fun vs H Q E h=>?_) (fun cdv A outer s H vs Q E hr h=>?_)
 ·obtain⟨a,x,b,rfl,_⟩:=h
  rfl
 obtain⟨a,x,b,rfl,hS,q⟩:=h
 refine⟨_,(pss_cons (ps_set (i:=1) nd rfl (Or.inr rfl) pe_str)
(pss_one (ps_ret (pe_bm plainAttrs_str slot_str_join type_str_join mt_join pe_str (pa_cons (pe_comp1 (sc:=defScope s_L_name) (N0:=["_law_state_here","_law_letters"]) (N:=["_law_state_here","_law_letters"]) (js:=[0,1]) rfl rfl rfl (by constructor<;>first|decide +kernel|rfl) rfl
(pi_range1 rfl nb.range (pa_cons (pe_op op_add pe_int (pe_def h_L_take hr (pa_cons (pv 0) (pa_cons pe_int pa_nil)))) pa_nil))
(fun _ _ _ _ _=>by exact pts_nil)
(fun _ _ _ _ _=>by exact(pe_item_str (pv 2) (pe_def h_L_take hr (pa_cons (pv 1) (pa_cons pe_int pa_nil))) (fun _ _=>rfl)))) pa_nil))))),?_⟩
 refine⟨rfl,_,rfl,a,x,b,8,rfl,hS,by decide,by decide,fun v x3 v0 v1' d3=>?_⟩
 have k3:=keep_upd a H (.lst [.int x3,.bl b])
 have st3:StAt (upd H a (.lst [.int x3,.bl b])) a x3 b:=StAt.upd d3
 generalize upd H a (.lst [.int x3,.bl b])=H3 at k3 st3 ⊢
 refine⟨_,_,rfl,rfl,_,rfl,by omega,by omega,fun D hD=>?_⟩
 have Da:D≠a:=fun z=>by rw[z,st3.1]at hD;cases hD
 refine comp_inv (1+v).toNat (by rw[sizeLine_eq];omega) (fun i σ H' ys=>∃(o1:Option V) (cs:List Nat) (x':Int),σ=[o1,some (.ref a),some (.str LET)]/\Keep a H3 H'/\StAt H' a x' b/\H' D=some (.lst ys)/\ys=(cs.map fun c=>(⟨#[c]⟩:Str)).map V.str/\cs.length=i/\∀y∈cs,y∈LET.cps.toList) (fun i x=>x=.int (0+(i:Int))) ?_ (fun i σ H' ys h=>?_) (fun i σ H' ys _=>?_) (fun i x σ H' ys hi h im R hR=>?_) (fun σ H4 ys h=>?_)
 ·exact⟨_,[],x3,rfl,fun c o nc e=>(same_new hD _) c o e,st3.same (same_new hD _),upd_same,rfl,rfl,fun y hy=>absurd hy not_mem_nil⟩
 ·obtain⟨o1,cs,x',rfl,kp,st,hd,rfl,lk,bk⟩:=h
  exact⟨hd,by rw[length_map,length_map];exact lk⟩
 ·exact⟨fun hi=>⟨hi,fun x H2 ⟨e,y⟩=>⟨e,y⟩⟩,fun hi=>hi⟩
 ·obtain⟨o1,cs,x',rfl,kp,st,hd,rfl,lk,bk⟩:=h
  refine⟨_,rfl,_,rfl,a,x',b,26,rfl,st,by decide,by decide,fun v7 y7 v70 v71 d7=>?_⟩
  have k7:=keep_upd a H' (.lst [.int y7,.bl b])
  have st7:StAt (upd H' a (.lst [.int y7,.bl b])) a y7 b:=StAt.upd d7
  have hd7:=k7 _ _ Da hd
  have kp7:=kp.trans k7
  generalize upd H' a (.lst [.int y7,.bl b])=H7 at k7 st7 hd7 kp7 ⊢
  obtain⟨m,rfl⟩:=eq_ofNat_of_zero_le v70
  have sz:LET.cps.size=26:=by decide +kernel
  have ml:m<LET.cps.size:=by omega
  refine⟨LET,_,LET.cps[m],rfl,rfl,v70,by omega,(by show(m:Int)<((LET.cps.size:Nat):Int);omega),(by rw[toNat_natCast];exact Array.getElem?_eq_getElem ml),hR _ _ _ hd7 ⟨_,cs++[LET.cps[m]],y7,rfl,fun c o nc e=>?_,⟨by rw[upd_ne Da.symm];exact st7.1,st7.2⟩,upd_same,by rw[map_append,map_append];rfl,by rw[length_append,length_singleton,lk],fun y hy=>?_⟩⟩
  ·rw[upd_ne (ne_of_none e hD)]
   exact kp7 c o nc e
  ·rcases mem_append.mp hy with z | z
   ·exact bk y z
   ·rw[mem_singleton.mp z]
    exact Array.getElem_mem_toList ml
 obtain⟨o1,cs,x4,rfl,kp,st,hd,rfl,lk,bk⟩:=h
 have l1:1<=cs.length:=by omega
 have l8:cs.length<=8:=by omega
 refine⟨_,D,_,rfl,rfl,hd,by rw[sum_signs,sizeLine_eq];omega,?_,q _ _ _ (k3.trans kp) st (name_join l1 l8 bk)⟩
 rw[join_signs,sizeLine_eq]
 show cs.length<=_
 omega
end
end K96
namespace L2
section
variable {X:Cx}
def manyT (z:Str)(n:Nat):Str:=⟨(replicate n z.cps).foldl (·++·) #[]⟩
def rRepS:R2:=fun x y H Q=>∃(z:Str) (n:Nat),x=.str z/\y=.int (n:Int)/\2<=n/\n<=1000/\z.length=1/\(manyT z n).length<=sizeLine/\Q (.str (manyT z n)) H
theorem op_repS:OpR X (binaryOp .Mult) rRepS:=by
 intro pins s σ H x y v u Q I rx ry h
 obtain⟨z,n,rfl,rfl,n2,n9,z1,ml,q⟩:=h
 obtain⟨t,rfl⟩:=(show ∃t,v=Value.str z t from rx)
 obtain⟨t',rfl⟩:=(show ∃t,u=Value.int (n:Int) t from ry)
 refine P.mul_str ?_ (fun _ _=>?_) (fun _ _=>?_) ?_
 ·rw[decide_eq_false (by omega),decide_eq_false (by omega)];rfl
 ·rw[z1]
  have:(1:Int)<=(2^63 - 1) / (n:Int):=by
   rw[Int.le_ediv_iff_mul_le (by omega)]
   omega
  show ¬((1:Nat):Int)>_
  omega
 ·rw[z1,Nat.one_mul,toNat_natCast]
  exact decide_eq_false (by have:=sizeLine_eq;omega)
 ·rw[if_neg (by omega),if_neg (by
   rw[z1]
   have:((n:Int)==1)=false:=beq_eq_false_iff_ne.mpr (by omega)
   rw[this]
   decide)]
  rw[toNat_natCast]
  exact⟨ml,.str _,H,I.tok _,⟨_,rfl⟩,q⟩
def rIndexS:V->List V->Hp->VK->Prop:=fun x vs H Q=>∃(z y:Str) (i:Nat) (r:List Nat),x=.str z/\vs=[.str y]/\occurrences z y 0 z.length 1=i::r/\Q (.int (i:Int)) H
theorem mt_index:MtR X "str.index" rIndexS:=by
 intro pins s σ H x xs v us Q I rx rv h
 obtain⟨z,y,i,r,rfl,rfl,e,q⟩:=h
 obtain⟨t,rfl⟩:=(show ∃t,v=Value.str z t from rx)
 obtain⟨u,rfl,ru⟩:=vals1 rv
 obtain⟨t',rfl⟩:=(show ∃t,u=Value.str y t from ru)
 exact call_gives F.slot_str_index (typeIs_str _ _ _) F.entry_str_index (F.args_str_index_2 _ _) (gives_str_index z y t t' i r e) ⟨.int (i:Int),H,I.tok _,⟨_,rfl⟩,q⟩
def rListS:List V->Hp->VK->Prop:=fun xs H Q=>∃z:Str,xs=[.str z]/\z.cps.size<=sizeLine/\∀l,H l=none->Q (.ref l) (upd H l (.lst ((z.cps.toList.map fun c=>(⟨#[c]⟩:Str)).map V.str)))
theorem call_listS (hc:X.calm=true):CallR X (.type "list") rListS:=by
 intro pins s σ H xs us Q I r h
 obtain⟨z,rfl,hz,q⟩:=h
 obtain⟨u,rfl,rx⟩:=vals1 r
 obtain⟨t,rfl⟩:=(show ∃t,u=Value.str z t from rx)
 refine call_list_str (hn:=hz) (I.ok.hd hc) z t fun h' tk acc c' kp e it=>?_
 obtain⟨sz,at_⟩:=it
 have rv:Vals ((z.cps.toList.map fun c=>(⟨#[c]⟩:Str)).map V.str) acc.toList:=by
  refine vals_ofS acc.toList _ (by rw[length_map,length_toList,length_toList,sz]) fun j u e2=>?_
  rw[getElem?_toList]at e2
  obtain⟨c,u',e3,rfl⟩:=at_ j u e2
  exact⟨u',_,by rw[getElem?_map,getElem?_toList,e3];rfl,rfl⟩
 refine⟨.ref s.heap.objs.size,_,I.laid (t':=tk) kp (Nat.le_refl _) (show ObjOk X.prog X.w _ h' _ (.lst _) from⟨by rw[length_map,length_map,length_toList];exact hz,acc.toList,c',rv,by rw[e]⟩),rfl,q _ (I.hok.fresh (Nat.le_refl _))⟩
end
theorem sl_text (z:Str)(l u:Option Int):Txt.slice z l u=StrLaws.sliceText z l u:=by
 rfl
theorem sl_to {z:Str}{m:Nat}(h:m<=z.cps.toList.length):(Txt.slice z none (some (m:Int))).cps.toList=z.cps.toList.take m:=by
 rw[sl_text,StrLaws.sliceText_to ⟨by omega,by omega⟩]
 simp
theorem sl_from {z:Str}{m:Nat}(h:m<=z.cps.toList.length):(Txt.slice z (some (m:Int)) none).cps.toList=z.cps.toList.drop m:=by
 rw[sl_text,StrLaws.sliceText_from ⟨by omega,by omega⟩,toNat_natCast]
 show((z.cps.toList.drop m).take _).toArray.toList=_
 rw[take_of_length_le (by rw[length_drop];omega)]
end L2
namespace K96
open L2
structure BadN (z:Str):Prop where
 no:nameB z=false
 bl:32∉z.cps.toList
 len:z.length<=20
def spSpo:Sp:=fun vs H Q _=>∃(a:Addr) (x:Int) (b:Bool) (n:Str),vs=[.ref a,.str n]/\StAt H a x b/\nameB n=true/\
 ∀(z:Str) (H':Hp) (x':Int),Keep a H H'->StAt H' a x' b->BadN z->Q (.str z) H'
theorem name_len {n:Str}(h:nameB n=true):1<=n.cps.toList.length/\n.cps.toList.length<=8/\∀c∈n.cps.toList,c∈LET.cps.toList:=by
 unfold nameB at h
 simp only[and_eq_true,decide_eq_true_eq,all_eq_true]at h
 exact⟨h.1.1,h.1.2,h.2⟩
theorem len_is (z:Str):z.length=z.cps.toList.length:=(length_toList ..).symm
theorem let_no:32∉LET.cps.toList:=by decide +kernel
theorem name_blank {n:Str}(h:nameB n=true):32∉n.cps.toList:=fun m=>let_no ((name_len h).2.2 32 m)
theorem bad_with {z:Str}{c:Nat}(m:c∈z.cps.toList)(hc:c∉LET.cps.toList):nameB z=false:=by
 cases e:nameB z with
 |false=>rfl
 |true=>exact absurd ((name_len e).2.2 c m) hc
theorem bad_long {z:Str}(h:8<z.cps.toList.length):nameB z=false:=by
 cases e:nameB z with
 |false=>rfl
 |true=>have:=(name_len e).2.1;omega
abbrev SGN:Str:=oS "ABCDEFGHIJKLMNOPQRSTUVWXYZ0123456789`{_-.:;,!#$&'()*+/<=>?\x40[]^|}~"
theorem sgn_ok:∀c∈SGN.cps.toList,c∉LET.cps.toList/\c≠32:=by decide +kernel
theorem sgn_len:SGN.cps.size=65:=by decide +kernel
theorem bad_put {n:Str}{c:Nat}(hn:nameB n=true)(hc:c∈SGN.cps.toList){i j:Nat}(hi:i<=n.cps.toList.length)(hj:j<=n.cps.toList.length)(le:i<=j):BadN (Txt.slice n none (some (i:Int))++⟨#[c]⟩++Txt.slice n (some (j:Int)) none):=by
 obtain⟨l1,l8,lt⟩:=name_len hn
 have e:(Txt.slice n none (some (i:Int))++⟨#[c]⟩++Txt.slice n (some (j:Int)) none).cps.toList=n.cps.toList.take i++[c]++n.cps.toList.drop j:=by
  rw[app_list,app_list,sl_to hi,sl_from hj]
 have sg:=sgn_ok c hc
 refine⟨bad_with (c:=c) (by rw[e];simp) sg.1,fun m=>?_,?_⟩
 ·rw[e]at m
  rcases mem_append.mp m with m | m
  ·rcases mem_append.mp m with m | m
   ·exact name_blank hn (List.mem_of_mem_take m)
   ·exact sg.2 (mem_singleton.mp m).symm
  ·exact name_blank hn (List.mem_of_mem_drop m)
 ·rw[len_is,e,length_append,length_append,length_take,length_drop,length_singleton]
  omega
theorem bad_nine {n:Str}(hn:nameB n=true):BadN (Txt.slice (n++oS "abcdefgh") none (some ((8:Nat):Int))++Txt.slice n none (some ((1:Nat):Int))):=by
 obtain⟨l1,l8,lt⟩:=name_len hn
 have e8:(oS "abcdefgh").cps.toList.length=8:=by decide +kernel
 have e:(Txt.slice (n++oS "abcdefgh") none (some ((8:Nat):Int))++Txt.slice n none (some ((1:Nat):Int))).cps.toList=(n.cps.toList++(oS "abcdefgh").cps.toList).take 8++n.cps.toList.take 1:=by
  rw[app_list,sl_to (by rw[app_list,length_append];omega),sl_to (by omega),app_list]
 refine⟨bad_long ?_,fun m=>?_,?_⟩
 ·rw[e,length_append,length_take,length_take,length_append]
  omega
 ·rw[e]at m
  rcases mem_append.mp m with m | m
  ·rcases mem_append.mp (List.mem_of_mem_take m) with m | m
   ·exact name_blank hn m
   ·exact absurd m (by decide +kernel)
  ·exact name_blank hn (List.mem_of_mem_take m)
 ·rw[len_is,e,length_append,length_take,length_take,length_append]
  omega
theorem bad_none:BadN (oS ""):=⟨by decide +kernel,by decide +kernel,by decide +kernel⟩
section
variable {P:Program}{w:World}{K:W.Frag}{mg:Str->Option Value}{base:Heap}
theorem ok_L_spoiled {f:Addr}{fd:FuncData}(F:Fun K "_law_spoiled" "_law_spoiled" s_L_spoiled f fd)(nb:Nb4 mg)(h_L_take:Has P w K mg base 1 "_law_take" ["_law_state_here","_law_many"] (spTake K))  :
 FnOk P w K mg base CX0 2 f fd ["_law_state_here","_law_name_here"] spSpo:=by
 have nd:=sc_L_spoiled.nd
 refine F.ok (k:=1) sc_L_spoiled (fun vs H Q E h=>?_) (fun cdv A outer s H vs Q E hr h=>?_)
 ·obtain⟨a,x,b,n,rfl,_⟩:=h
  rfl
 obtain⟨a,x,b,n,rfl,hS,hn,q⟩:=h
 refine⟨_,(@pss_cons _ _ _ _ _ (@ps_set _ _ (2) _ _ _ _ nd rfl (Or.inl rfl) (pe_def h_L_take hr (@pa_cons _ _ _ _ _ (pv 0) (@pa_cons _ _ _ _ _ (pe_callB call_len_str rfl nb.len PySem.boot_len (@pa_cons _ _ _ _ _ (pv 1) pa_nil rfl)) pa_nil rfl) rfl)) rfl (by first | exact .inl rfl | exact .inr rfl)) (@pss_cons _ _ _ _ _ (@ps_set _ _ (3) _ _ _ _ nd rfl (Or.inl rfl) pe_str rfl (by first | exact .inl rfl | exact .inr rfl)) (@pss_cons _ _ _ _ _ (@ps_set _ _ (4) _ _ _ _ nd rfl (Or.inl rfl) (pe_item_str (pv 3) (pe_def h_L_take hr (@pa_cons _ _ _ _ _ (pv 0) (@pa_cons _ _ _ _ _ (pe_callB call_len_str rfl nb.len PySem.boot_len (@pa_cons _ _ _ _ _ (pv 3) pa_nil rfl)) pa_nil rfl) rfl)) (fun _ _=>rfl)) rfl (by first | exact .inl rfl | exact .inr rfl)) (@pss_cons _ _ _ _ _ (@ps_set _ _ (5) _ _ _ _ nd rfl (Or.inl rfl) (@pe_lst _ _ _ _ (@pa_cons _ _ _ _ _ (@pe_op _ _ _ _ _ _ _ _ op_add_str (@pe_op _ _ _ _ _ _ _ _ op_add_str (pe_slice sl_str (pv 1) po_none (po_some (pv 2))) (pv 4)) (pe_slice sl_str (pv 1) (po_some (@pe_op _ _ _ _ _ _ _ _ op_add (pv 2) pe_int)) po_none)) (@pa_cons _ _ _ _ _ (@pe_op _ _ _ _ _ _ _ _ op_add_str (@pe_op _ _ _ _ _ _ _ _ op_add_str (pe_slice sl_str (pv 1) po_none (po_some (pv 2))) (pv 4)) (pe_slice sl_str (pv 1) (po_some (@pe_op _ _ _ _ _ _ _ _ op_add (pv 2) pe_int)) po_none)) (@pa_cons _ _ _ _ _ (@pe_op _ _ _ _ _ _ _ _ op_add_str (@pe_op _ _ _ _ _ _ _ _ op_add_str (pe_slice sl_str (pv 1) po_none (po_some (pv 2))) (pv 4)) (pe_slice sl_str (pv 1) (po_some (pv 2)) po_none)) pa_nil rfl) rfl) rfl)) rfl (by first | exact .inl rfl | exact .inr rfl)) (@pss_one _ _ _ (@ps_ret _ _ _ _ (@pe_ix _ _ _ _ _ _ _ ix_list (@pe_op _ _ _ _ _ _ _ _ op_cat (pv 5) (@pe_lst _ _ _ _ (@pa_cons _ _ _ _ _ (@pe_op _ _ _ _ _ _ _ _ op_add_str (pe_slice sl_str (@pe_op _ _ _ _ _ _ _ _ op_add_str (pv 1) pe_str) po_none (po_some pe_int)) (pe_slice sl_str (pv 1) po_none (po_some pe_int))) (@pa_cons _ _ _ _ _ pe_str pa_nil rfl) rfl))) (pe_def h_L_take hr (@pa_cons _ _ _ _ _ (pv 0) (@pa_cons _ _ _ _ _ pe_int pa_nil rfl) rfl)) (fun _ _=>rfl)))))))),?_⟩
 have hn0:=hn
 obtain⟨l1,l8,lt⟩:=name_len hn
 have nl:=len_is n
 refine⟨_,rfl,_,rfl,n,rfl,by rw[sizeLine_eq];omega,a,x,b,_,rfl,hS,by omega,by omega,fun u x1 u0 u1 d1=>?_⟩
 have k1:=keep_upd a H (.lst [.int x1,.bl b])
 have st1:StAt (upd H a (.lst [.int x1,.bl b])) a x1 b:=StAt.upd d1
 generalize upd H a (.lst [.int x1,.bl b])=H1 at k1 st1 ⊢
 obtain⟨i,rfl⟩:=eq_ofNat_of_zero_le u0
 have sl:SGN.length=65:=sgn_len
 refine⟨_,rfl,_,rfl,_,rfl,SGN,rfl,by rw[sizeLine_eq];omega,a,x1,b,_,rfl,st1,by omega,by omega,fun u2 x2 u20 u21 d2=>?_⟩
 have k2:=k1.trans (keep_upd a H1 (.lst [.int x2,.bl b]))
 have st2:StAt (upd H1 a (.lst [.int x2,.bl b])) a x2 b:=StAt.upd d2
 generalize upd H1 a (.lst [.int x2,.bl b])=H2 at k2 st2 ⊢
 obtain⟨j,rfl⟩:=eq_ofNat_of_zero_le u20
 have jl:j<SGN.cps.size:=by rw[sgn_len];omega
 refine⟨SGN,_,SGN.cps[j],rfl,rfl,u20,by omega,by omega,(by rw[toNat_natCast];exact Array.getElem?_eq_getElem jl),?_⟩
 have hc:SGN.cps[j]∈SGN.cps.toList:=Array.getElem_mem_toList jl
 generalize SGN.cps[j]=c at hc ⊢
 have nz:n.length<=sizeLine:=by rw[sizeLine_eq];omega
 have sle:∀l u,(Txt.slice n l u).length<=8:=fun l u=>le_trans (Txt.slice_le n l u) (by omega)
 have f1:∀l u,(Txt.slice n l u).length+(⟨#[c]⟩:Str).length<=sizeLine:=fun l u=>by have:=sle l u;show _+1<=_;rw[sizeLine_eq];omega
 have f2:∀l u l' u',(Txt.slice n l u++(⟨#[c]⟩:Str)).length+(Txt.slice n l' u').length<=sizeLine:=fun l u l' u'=>by have:=sle l u;have:=sle l' u';rw[Str.length_append,sizeLine_eq];show _+1+_<=_;omega
 refine⟨_,rfl,_,rfl,_,rfl,n,rfl,nz,_,rfl,_,_,rfl,rfl,f1 _ _,_,rfl,_,rfl,_,_,rfl,rfl,_,rfl,n,rfl,nz,_,_,rfl,rfl,f2 _ _ _ _,_,rfl,_,rfl,_,rfl,n,rfl,nz,_,rfl,_,_,rfl,rfl,f1 _ _,_,rfl,_,rfl,_,_,rfl,rfl,_,rfl,n,rfl,nz,_,_,rfl,rfl,f2 _ _ _ _,_,rfl,_,rfl,_,rfl,n,rfl,nz,_,rfl,_,_,rfl,rfl,f1 _ _,_,rfl,_,rfl,_,rfl,n,rfl,nz,_,_,rfl,rfl,f2 _ _ _ _,(by show 3<=sizeLine;decide),fun g hg=>?_⟩
 obtain⟨z1,e1⟩:∃z,z=Txt.slice n none (some (i:Int))++(⟨#[c]⟩:Str)++Txt.slice n (some ((i:Int)+1)) none:=⟨_,rfl⟩
 obtain⟨z3,e3⟩:∃z,z=Txt.slice n none (some (i:Int))++(⟨#[c]⟩:Str)++Txt.slice n (some (i:Int)) none:=⟨_,rfl⟩
 have b1:BadN z1:=by rw[e1];exact bad_put (j:=i+1) hn hc (by omega) (by omega) (by omega)
 have b3:BadN z3:=by rw[e3];exact bad_put hn hc (by omega) (by omega) (Nat.le_refl _)
 rw[<-e1,<-e3]
 have k3:=k2.same (same_new hg (.lst [.str z1,.str z1,.str z3]))
 have st3:=st2.same (same_new hg (.lst [.str z1,.str z1,.str z3]))
 have g3:(upd H2 g (.lst [.str z1,.str z1,.str z3])) g=_:=upd_same
 generalize upd H2 g (.lst [.str z1,.str z1,.str z3])=H3 at k3 st3 g3 ⊢
 have l9:(oS "abcdefgh").length=8:=by decide +kernel
 have n16:(n++oS "abcdefgh").length<=16:=by rw[Str.length_append,l9];omega
 refine⟨_,rfl,_,rfl,_,_,rfl,rfl,by rw[sizeLine_eq,l9];omega,_,rfl,_,rfl,by rw[sizeLine_eq];omega,_,rfl,_,rfl,n,rfl,nz,_,_,rfl,rfl,?_,(by show 2<=sizeLine;decide),fun g2 hg2=>?_⟩
 ·have:=sle none (some 1)
  have:=Txt.slice_le (n++oS "abcdefgh") none (some 8)
  rw[sizeLine_eq]
  omega
 obtain⟨z4,e4⟩:∃z,z=Txt.slice (n++oS "abcdefgh") none (some 8)++Txt.slice n none (some 1):=⟨_,rfl⟩
 have b4:BadN z4:=by rw[e4];exact bad_nine hn
 rw[<-e4]
 have s4:=same_new hg2 (.lst [.str z4,.str (oS "")])
 have k4:=k3.same s4
 have st4:=st3.same s4
 have g4:=s4 _ _ g3
 have gg:(upd H3 g2 (.lst [.str z4,.str (oS "")])) g2=_:=upd_same
 generalize upd H3 g2 (.lst [.str z4,.str (oS "")])=H4 at k4 st4 g4 gg ⊢
 refine⟨g,g2,_,_,rfl,rfl,g4,gg,(by show 5<=sizeLine;decide),fun g5 hg5=>?_⟩
 have s5:=same_new hg5 (.lst [.str z1,.str z1,.str z3,.str z4,.str (oS "")])
 have k5:=k4.same s5
 have st5:=st4.same s5
 have g5a:g5≠a:=fun z=>by rw[z,st4.1]at hg5;cases hg5
 have e5:(upd H4 g5 (.lst [.str z1,.str z1,.str z3,.str z4,.str (oS "")])) g5=_:=upd_same
 show tCall _ _ _ _ _ (upd H4 g5 (.lst [.str z1,.str z1,.str z3,.str z4,.str (oS "")])) _
 generalize upd H4 g5 (.lst [.str z1,.str z1,.str z3,.str z4,.str (oS "")])=H5 at k5 st5 e5 ⊢
 refine⟨_,rfl,a,x2,b,5,rfl,st5,by decide,by decide,fun u6 x6 u60 u65 d6=>?_⟩
 have k6:=k5.trans (keep_upd a H5 (.lst [.int x6,.bl b]))
 have st6:StAt (upd H5 a (.lst [.int x6,.bl b])) a x6 b:=StAt.upd d6
 have e6:=keep_upd a H5 (.lst [.int x6,.bl b]) _ _ g5a e5
 obtain⟨m,rfl⟩:=eq_ofNat_of_zero_le u60
 have at_:∃z,[V.str z1,V.str z1,V.str z3,V.str z4,V.str (oS "")][m]?=some (V.str z)/\BadN z:=by
  have m5:m<5:=by omega
  match m,m5 with
  |0,_=>exact⟨z1,rfl,b1⟩
  |1,_=>exact⟨z1,rfl,b1⟩
  |2,_=>exact⟨z3,rfl,b3⟩
  |3,_=>exact⟨z4,rfl,b4⟩
  |4,_=>exact⟨_,rfl,bad_none⟩
 obtain⟨z,ez,bz⟩:=at_
 exact⟨g5,_,_,.str z,rfl,rfl,SqL.of e6,atI_nat ez,q z _ _ k6 st6 bz⟩
end
end K96
namespace K96
open L2
open BB (lens outs)
theorem RowOk.rw {row:List Int}(h:RowOk row):BB.Rw row row.length (-20) 105:=⟨h.up,rfl,h.bd⟩
theorem rw_wd {r:List Int}{k:Nat}{A B:Int}(h:BB.Rw r k A B)(a:-1000000000<=A)(b:B<=1000000000)(w:B - A<=199)(w0:0<=B - A):Wd r:=by
 refine⟨h.up,fun p hp=>by have:=h.bd p hp;omega,?_⟩
 cases r with
 |nil=>show(0:Int) - 0<=199;decide
 |cons p0 rest=>
  obtain⟨_,_,ml⟩:=up_last h.up
  have b1:=h.bd _ ml
  have b2:=h.bd p0 mem_cons_self
  show(p0::rest).getLastD 0 - p0<=199
  omega
theorem RowOk.wd {row:List Int}(h:RowOk row):Wd row:=rw_wd h.rw (by decide) (by decide) (by decide) (by decide)
theorem no_blank (n:Int):32∉(numT n).cps.toList:=int_text_free' 32 ⟨by decide,by decide⟩ n
theorem txt_blank (row:List Int):32∉(rowTxt row).cps.toList:=by
 cases row with
 |nil=>exact(show 32∉NOB.cps.toList by decide +kernel)
 |cons p0 rest=>
  rw[txt_cons,colon_is,app_list,app_list]
  intro m
  rcases mem_append.mp m with m | m
  ·rcases mem_append.mp m with m | m
   ·exact no_blank _ m
   ·simp at m
  ·unfold signsOf at m
   obtain⟨j,_,e⟩:=mem_map.mp m
   split at e<;>cases e
theorem txt_short {row:List Int}(h:Wd row):(rowTxt row).length<=300:=by
 cases row with
 |nil=>exact(show NOB.length<=300 by decide +kernel)
 |cons p0 rest=>
  have b:=h.bd p0 mem_cons_self
  have nl:=num_len (n:=p0) (by omega)
  have sl:=signs_len (p0::rest)
  have wi:=h.wide
  have tl:=txt_len (signsOf (p0::rest))
  rw[txt_cons,Str.length_append,Str.length_append,tl,sl,show(oS ":").length=1 by decide +kernel]
  have hd:(p0::rest).headD 0=p0:=rfl
  omega
theorem txt_inj {r r':List Int}(h:Wd r)(h':Wd r')(e:rowTxt r=rowTxt r'):r=r':=by
 cases r with
 |nil=>cases r' with
  |nil=>rfl
  |cons p' t'=>exact absurd e.symm (txt_ne p' t')
 |cons p t=>cases r' with
  |nil=>exact absurd e (txt_ne p t)
  |cons p' t'=>
   have b:=h.bd p mem_cons_self
   have b':=h'.bd p' mem_cons_self
   have q:=(txt_part p t).symm.trans ((congrArg (fun z=>partV z (oS ":")) e).trans (txt_part p' t'))
   injection q with q1 q2
   injection q1 with q1
   injection q2 with _ q3
   injection q3 with q3 _
   injection q3 with q3
   have ep:p=p':=by
    have a1:=num_read (n:=p) (by omega)
    rw[q1,num_read (n:=p') (by omega)]at a1
    exact(Option.some.inj a1).symm
   have es:signsOf (p::t)=signsOf (p'::t'):=by
    have:=congrArg (fun z:Str=>z.cps.toList) q3
    simpa using this
   rw[<-read_back h,<-read_back h',es,ep]
end K96
namespace K96
open L2
abbrev J (ws:List Str):Str:=Str.join BLK ws
structure FreeW (ws:List Str):Prop where
 nb:∀p∈ws,32∉p.cps.toList
 tot:(ws.map (·.length)).sum+ws.length<=1000
def BadW:List Str->Prop
 |[]=>False
 |x::rest=>match formsOf x with
  |none=>True
  |some fs=>fs.length≠rest.length\/∃(j:Nat) (f y:Str),fs[j]?=some f/\rest[j]?=some y/\¬Good f y
def BadR (o:Option (List Str))(rest:List Str):Prop:=match o with
 |none=>True
 |some fs=>fs.length≠rest.length\/∃(j:Nat) (f y:Str),fs[j]?=some f/\rest[j]?=some y/\¬Good f y
theorem badW_is (x:Str)(rest:List Str):BadW (x::rest)=BadR (formsOf x) rest:=rfl
theorem FreeW.len {ws:List Str}(f:FreeW ws):(J ws).length<=1000:=by
 have jl:=StrLaws.join_length_le BLK ws
 rw[show BLK.length=1 by decide +kernel]at jl
 have:=f.tot
 show(Str.join BLK ws).length<=1000
 omega
theorem FreeW.split {ws:List Str}(f:FreeW ws)(ne:ws≠[]):Txt.split (J ws) BLK=ws:=by
 rw[blk_is]
 exact split_join 32 ne f.nb
theorem FreeW.each {ws:List Str}(f:FreeW ws):∀p∈ws,p.length<=1000:=fun p hp=>by
 have:∀(l:List Str),p∈l->p.length<=(l.map (·.length)).sum:=fun l=>by
  induction l with
  |nil=>intro h;cases h
  |cons q r ih=>
   intro h
   rw[map_cons,sum_cons]
   rcases mem_cons.mp h with rfl | h
   ·omega
   ·have:=ih h;omega
 have:=this ws hp
 have:=f.tot
 omega
theorem bad_J {ws:List Str}(f:FreeW ws)(b:BadW ws):BadLine (J ws):=by
 cases ws with
 |nil=>exact b.elim
 |cons x rest=>exact⟨x,rest,f.split (by simp),fun y hy=>le_trans (f.each y (mem_cons_of_mem _ hy)) (by decide),b⟩
theorem bad_x {x:Str}{rest:List Str}(h:formsOf x=none):BadW (x::rest):=by
 rw[badW_is,h]
 trivial
theorem bad_n {x:Str}{rest fs:List Str}(h:formsOf x=some fs)(n:fs.length≠rest.length):BadW (x::rest):=by
 rw[badW_is,h]
 exact .inl n
theorem bad_p {x f y:Str}{rest fs:List Str}{j:Nat}(h:formsOf x=some fs)(hf:fs[j]?=some f)(hy:rest[j]?=some y)(n:¬Good f y):BadW (x::rest):=by
 rw[badW_is,h]
 exact .inr ⟨j,f,y,hf,hy,n⟩
theorem not_A {y:Str}(h:nameB y=false):¬Good (oS "A") y:=by
 unfold Good
 rw[if_neg (by decide +kernel),if_neg (by decide +kernel),h]
 exact Bool.false_ne_true
theorem not_N {y:Str}(h:nameB y=false):¬Good (oS "N") y:=by
 unfold Good
 rw[if_neg (by decide +kernel),if_neg (by decide +kernel),h]
 exact Bool.false_ne_true
theorem not_T {y:Str}(h:¬NoteOk y):¬Good (oS "TEXT") y:=by
 unfold Good
 rw[if_pos rfl]
 exact h
theorem not_K {y:Str}(h:¬NumOk y):¬Good (oS "K") y:=by
 unfold Good
 rw[if_neg (by decide +kernel),if_pos rfl]
 exact h
theorem num_low {c:Nat}(hc:c<45)(n:Int):c∉(numT n).cps.toList:=fun m=>by
 by_cases h:n<0
 ·rw[numT_neg h]at m
  rcases mem_cons.mp m with z | z
  ·omega
  ·have:=(figs_ok n.natAbs).1 c z;omega
 ·obtain⟨k,rfl⟩:=eq_ofNat_of_zero_le (by omega:0<=n)
  rw[numT_pos]at m
  have:=(figs_ok k).1 c m
  omega
theorem txt_low {c:Nat}(hc:c<45)(row:List Int):c∉(rowTxt row).cps.toList:=by
 cases row with
 |nil=>
  have:∀d∈NOB.cps.toList,45<=d:=by decide +kernel
  exact fun m=>by have:=this c m;omega
 |cons p0 rest=>
  rw[txt_cons,colon_is,app_list,app_list]
  intro m
  rcases mem_append.mp m with m | m
  ·rcases mem_append.mp m with m | m
   ·exact num_low hc _ m
   ·have:c=58:=by simpa using m
    omega
  ·unfold signsOf at m
   obtain⟨j,_,e⟩:=mem_map.mp m
   split at e<;>omega
theorem txt_last {row:List Int}(wd:Wd row):(rowTxt row).cps.toList.getLast?=some 101\/(rowTxt row).cps.toList.getLast?=some 111:=by
 cases row with
 |nil=>exact .inl (show NOB.cps.toList.getLast?=some 101 by decide +kernel)
 |cons p0 rest=>
  obtain⟨el,ge,ml⟩:=wd_last wd
  have sl:=signs_len (p0::rest)
  rw[show(p0::rest).headD 0=p0 from rfl]at sl
  right
  have hs:(signsOf (p0::rest)).getLast?=some 111:=by
   rw[getLast?_eq_getElem?]
   unfold signsOf
   rw[length_map,length_range,getElem?_map,getElem?_range (by rw[show(p0::rest).headD 0=p0 from rfl];omega)]
   show some (if _ then 111 else 46)=some 111
   rw[if_pos]
   rw[show(p0::rest).headD 0+((((p0::rest).getLastD 0+1 - (p0::rest).headD 0).toNat - 1:Nat):Int)=(p0::rest).getLastD 0 by rw[show(p0::rest).headD 0=p0 from rfl];omega]
   exact ml
  rw[txt_cons,app_list]
  show(_++(signsOf (p0::rest)).toArray.toList).getLast?=_
  rw[List.getLast?_append,hs]
  rfl
theorem txt_first {row:List Int}:(rowTxt row).cps.toList[0]?≠some 58/\(rowTxt row).cps.toList≠[]:=by
 cases row with
 |nil=>exact⟨(show NOB.cps.toList[0]?≠some 58 by decide +kernel),(show NOB.cps.toList≠[] by decide +kernel)⟩
 |cons p0 rest=>
  have ne:(numT p0).cps.toList≠[]/\(numT p0).cps.toList[0]?≠some 58:=by
   by_cases h:p0<0
   ·rw[numT_neg h];exact⟨by simp,by simp⟩
   ·obtain⟨k,rfl⟩:=eq_ofNat_of_zero_le (by omega:0<=p0)
    rw[numT_pos]
    refine⟨(figs_ok k).2,fun e=>?_⟩
    have:=(figs_ok k).1 58 (mem_of_getElem? e)
    omega
  rw[txt_cons,app_list,app_list]
  have l0:0<(numT p0).cps.toList.length:=length_pos_iff.mpr ne.1
  refine⟨?_,by simp[ne.1]⟩
  rw[List.append_assoc,getElem?_append_left l0]
  exact ne.2
theorem note_end {z:Str}{c:Nat}(h1:c≠101)(h2:c≠111):¬NoteOk (z++⟨#[c]⟩):=fun⟨row,wd,_,e⟩=>by
 have l:=txt_last wd
 rw[<-e,app_list]at l
 have g:(z.cps.toList++[c]).getLast?=some c:=by rw[List.getLast?_append];rfl
 rw[show(z.cps.toList++(⟨#[c]⟩:Str).cps.toList).getLast?=some c from g]at l
 rcases l with l | l
 ·exact h1 (Option.some.inj l)
 ·exact h2 (Option.some.inj l)
theorem note_low {z:Str}{c:Nat}(m:c∈z.cps.toList)(hc:c<45):¬NoteOk z:=fun⟨row,_,_,e⟩=>txt_low hc row (by rw[<-e];exact m)
theorem note_nought {row:List Int}:¬NoteOk (⟨#[48]⟩++rowTxt row):=fun⟨row',wd,_,e⟩=>by
 have el:=congrArg (fun z:Str=>z.cps.toList) e
 have el:48::(rowTxt row).cps.toList=(rowTxt row').cps.toList:=by
  have:(⟨#[48]⟩++rowTxt row:Str).cps.toList=48::(rowTxt row).cps.toList:=by rw[app_list];rfl
  rw[<-this];exact el
 cases row' with
 |nil=>
  have:(rowTxt []).cps.toList[0]?=some 110:=(show NOB.cps.toList[0]?=some 110 by decide +kernel)
  rw[<-el]at this
  cases this
 |cons p0 rest=>
  rw[txt_cons,colon_is,app_list,app_list]at el
  have f0:(numT p0).cps.toList[0]?=some 48->p0=0:=fun h=>by
   by_cases c:p0<0
   ·rw[numT_neg c]at h;cases h
   ·obtain⟨k,rfl⟩:=eq_ofNat_of_zero_le (by omega:0<=p0)
    rw[numT_pos]at h
    by_cases z:k=0
    ·rw[z];rfl
    ·exact absurd h (figs_first k z)
  have ne:(numT p0).cps.toList≠[]:=by
   by_cases h:p0<0
   ·rw[numT_neg h];simp
   ·obtain⟨k,rfl⟩:=eq_ofNat_of_zero_le (by omega:0<=p0)
    rw[numT_pos]
    exact(figs_ok k).2
  have h0:(numT p0).cps.toList[0]?=some 48:=by
   have:=congrArg (fun l:List Nat=>l[0]?) el
   rw[List.append_assoc]at this
   have e2:((numT p0).cps.toList++((⟨#[58]⟩:Str).cps.toList++(⟨(signsOf (p0::rest)).toArray⟩:Str).cps.toList))[0]?=(numT p0).cps.toList[0]?:=getElem?_append_left (length_pos_iff.mpr ne)
   rw[<-e2]
   exact this.symm
  obtain rfl:=f0 h0
  have z0:(numT 0).cps.toList=[48]:=by decide +kernel
  rw[z0]at el
  have tl:(rowTxt row).cps.toList=58::(⟨(signsOf (0::rest)).toArray⟩:Str).cps.toList:=(List.cons.inj el).2
  exact txt_first.1 (by rw[tl];rfl)
end K96
namespace K96
open L2
theorem J_cons (w v:Str)(r:List Str):J (w::v::r)=w++BLK++J (v::r):=rfl
theorem app_assoc (a b c:Str):a++b++c=a++(b++c):=PySem.Str.append_assoc a b c
theorem app_nil (a:Str):a++oS "" = a:=str_ext (by rw[app_list];show _++[]=_;exact append_nil _)
theorem nil_app (a:Str):oS ""++a=a:=str_ext (by rw[app_list];rfl)
theorem J2 {x y n:Str}(h:y=x++BLK):y++n=J [x,n]:=by rw[h];rfl
theorem J3 {x y n m:Str}(h:y=x++BLK):y++n++BLK++m=J [x,n,m]:=by
 rw[h,J_cons,J_cons]
 simp only[app_assoc]
 rfl
theorem J4 {x y n k w m:Str}(h:y=x++BLK)(hw:w=BLK++k++BLK):y++n++w++m=J [x,n,k,m]:=by
 rw[h,hw,J_cons,J_cons,J_cons]
 simp only[app_assoc]
 rfl
theorem J_pre (w:Str)(r:List Str):BLK++J (w::r)=J (oS ""::w::r):=by rw[J_cons,nil_app]
def addL:List Str->Str->List Str
 |[],_=>[]
 |[w],s=>[w++s]
 |w::v::r,s=>w::addL (v::r) s
theorem addL_ne {ws:List Str}(s:Str)(ne:ws≠[]):addL ws s≠[]:=by
 cases ws with
 |nil=>exact absurd rfl ne
 |cons w r=>cases r<;>(unfold addL;simp)
theorem J_add (s:Str):∀{ws:List Str},ws≠[]->J ws++s=J (addL ws s)
 |[],h=>absurd rfl h
 |[w],_=>rfl
 |w::v::r,_=>by
  have ih:=J_add s (ws:=v::r) (by simp)
  have e:addL (w::v::r) s=w::addL (v::r) s:=rfl
  rw[e,J_cons,app_assoc,ih]
  cases h:addL (v::r) s with
  |nil=>exact absurd h (addL_ne s (by simp))
  |cons a b=>rfl
theorem J_end:∀{ws:List Str},ws≠[]->∀n:Str,J ws++BLK++n=J (ws++[n])
 |[],h,_=>absurd rfl h
 |[w],_,n=>rfl
 |w::v::r,_,n=>by
  have ih:=J_end (ws:=v::r) (by simp) n
  show w++BLK++J (v::r)++BLK++n=w++BLK++J (v::(r++[n]))
  rw[show v::(r++[n])=(v::r)++[n] from rfl,<-ih]
  simp only[app_assoc]
theorem J_front (s w:Str)(r:List Str):s++J (w::r)=J ((s++w)::r):=by
 cases r with
 |nil=>rfl
 |cons v r=>rw[J_cons,J_cons];simp only[app_assoc]
theorem J_mid (w v:Str)(r:List Str):w++BLK++(BLK++J (v::r))=J (w::oS ""::v::r):=by rw[J_cons,J_cons,nil_app]
theorem J_glue (w s v:Str)(r:List Str):w++s++J (v::r)=J ((w++s++v)::r):=J_front (w++s) v r
theorem blk_list:BLK.cps.toList=[32]:=by decide +kernel
theorem cut_first (w v:Str)(r:List Str):Txt.slice (J (w::v::r)) none (some (w.cps.toList.length:Int))=w/\Txt.slice (J (w::v::r)) (some (w.cps.toList.length:Int)) none=BLK++J (v::r)/\
 Txt.slice (J (w::v::r)) (some ((w.cps.toList.length:Int)+1)) none=J (v::r):=by
 have e:(J (w::v::r)).cps.toList=w.cps.toList++(32::(J (v::r)).cps.toList):=by
  rw[J_cons,app_list,app_list,blk_list,List.append_assoc]
  rfl
 refine⟨str_ext ?_,str_ext ?_,str_ext ?_⟩
 ·rw[sl_to (by rw[e,length_append];omega),e,List.take_left]
 ·rw[sl_from (by rw[e,length_append];omega),e,List.drop_left,app_list,blk_list]
  rfl
 ·have:=sl_from (z:=J (w::v::r)) (m:=w.cps.toList.length+1) (by rw[e,length_append,length_cons];omega)
  rw[show(some ((w.cps.toList.length:Int)+1))=some ((w.cps.toList.length+1:Nat):Int) from rfl,this,e]
  rw[show w.cps.toList++32::(J (v::r)).cps.toList=(w.cps.toList++[32])++(J (v::r)).cps.toList by simp]
  rw[show w.cps.toList.length+1=(w.cps.toList++[32]).length by simp,List.drop_left]
theorem occ_first {w v:Str}{r:List Str}(h:32∉w.cps.toList):∃t,occurrences (J (w::v::r)) BLK 0 (J (w::v::r)).length 1=w.cps.toList.length::t:=by
 rw[blk_is]at *
 have lst:(J (w::v::r)).cps.toList=w.cps.toList++(32::(J (v::r)).cps.toList):=by
  rw[J_cons,app_list,app_list,blk_list,List.append_assoc]
  rfl
 have at_:∀i,StrLaws.At (J (w::v::r)) ⟨#[32]⟩ (J (w::v::r)).length i↔(J (w::v::r)).cps.toList[i]?=some 32:=fun i=>StrLaws.subAt_one _ 32 i
 have here:(J (w::v::r)).cps.toList[w.cps.toList.length]?=some 32:=by
  rw[lst,getElem?_append_right (Nat.le_refl _),Nat.sub_self]
  rfl
 have first:∀k,k<w.cps.toList.length->¬StrLaws.At (J (w::v::r)) ⟨#[32]⟩ (J (w::v::r)).length k:=fun k hk z=>by
  rw[at_,lst,getElem?_append_left hk]at z
  exact h (mem_of_getElem? z)
 rcases StrLaws.occ_head (J (w::v::r)) ⟨#[32]⟩ 1 (Nat.le_refl 1) with⟨h0,hn⟩ | ⟨i,t,h0,hi,hn⟩
 ·exact absurd ((at_ _).mpr here) (hn _)
 ·have:i=w.cps.toList.length:=by
   rcases Nat.lt_trichotomy i w.cps.toList.length with z | z | z
   ·exact absurd hi (first i z)
   ·exact z
   ·exact absurd ((at_ _).mpr here) (hn _ z)
  rw[this]at h0
  exact⟨t,h0⟩
end K96
namespace K96
open L2
abbrev w_ (s:String):Str:=oS s
def namedW (n o:Str):List (List Str):=[[w_ "show",n],[w_ "later",n,w_ "1",o],[w_ "small",n,w_ "1",o],[w_ "peel",n,o],[w_ "lengths",n],[w_ "takings",n],[w_ "free",n],[w_ "alike",n,o],[w_ "alike",o,n]]
theorem named_is (n o:Str):[oS "show "++n,oS "later "++n++oS " 1 "++o,oS "small "++n++oS " 1 "++o,oS "peel "++n++oS " "++o,oS "lengths "++n,oS "takings "++n,oS "free "++n,oS "alike "++n++oS " "++o,oS "alike "++o++oS " "++n]=(namedW n o).map J:=by
 unfold namedW
 simp only[map_cons,map_nil]
 rw[J2 (x:=w_ "show") (by decide +kernel),J4 (x:=w_ "later") (k:=w_ "1") (by decide +kernel) (by decide +kernel),J4 (x:=w_ "small") (k:=w_ "1") (by decide +kernel) (by decide +kernel),J3 (x:=w_ "peel") (by decide +kernel),J2 (x:=w_ "lengths") (by decide +kernel),J2 (x:=w_ "takings") (by decide +kernel),J2 (x:=w_ "free") (by decide +kernel),J3 (x:=w_ "alike") (by decide +kernel),J3 (x:=w_ "alike") (by decide +kernel)]
def spNd:Sp:=fun vs H Q _=>∃n o:Str,vs=[.str n,.str o]/\n.length<=20/\o.length<=20/\∀(l:Addr) (H':Hp),Same H H'->H' l=some (.lst (((namedW n o).map J).map V.str))->Q (.ref l) H'
section
variable {P:Program}{w:World}{K:W.Frag}{mg:Str->Option Value}{base:Heap}
theorem ok_L_named {f:Addr}{fd:FuncData}(F:Fun K "_law_named" "_law_named" s_L_named f fd)(nb:Nb4 mg)   :
 FnOk P w K mg base CX0 1 f fd ["_law_name_here","_law_other"] spNd:=by
 have nd:=sc_L_named.nd
 refine F.ok (k:=0) sc_L_named (fun vs H Q E h=>?_) (fun cdv A outer s H vs Q E hr h=>?_)
 ·obtain⟨n,o,rfl,_⟩:=h
  rfl
 obtain⟨n,o,rfl,ln,lo,q⟩:=h
 refine⟨_,(@pss_cons _ _ _ _ _ (@ps_set _ _ (2) _ _ _ _ nd rfl (Or.inl rfl) (@pe_lst _ _ _ _ (@pa_cons _ _ _ _ _ (@pe_op _ _ _ _ _ _ _ _ op_add_str pe_str (pv 0)) (@pa_cons _ _ _ _ _ (@pe_op _ _ _ _ _ _ _ _ op_add_str (@pe_op _ _ _ _ _ _ _ _ op_add_str (@pe_op _ _ _ _ _ _ _ _ op_add_str pe_str (pv 0)) pe_str) (pv 1)) (@pa_cons _ _ _ _ _ (@pe_op _ _ _ _ _ _ _ _ op_add_str (@pe_op _ _ _ _ _ _ _ _ op_add_str (@pe_op _ _ _ _ _ _ _ _ op_add_str pe_str (pv 0)) pe_str) (pv 1)) pa_nil rfl) rfl) rfl)) rfl (by first | exact .inl rfl | exact .inr rfl)) (@pss_cons _ _ _ _ _ (@ps_set _ _ (2) _ _ _ _ nd rfl (Or.inl rfl) (@pe_op _ _ _ _ _ _ _ _ op_cat (pv 2) (@pe_lst _ _ _ _ (@pa_cons _ _ _ _ _ (@pe_op _ _ _ _ _ _ _ _ op_add_str (@pe_op _ _ _ _ _ _ _ _ op_add_str (@pe_op _ _ _ _ _ _ _ _ op_add_str pe_str (pv 0)) pe_str) (pv 1)) (@pa_cons _ _ _ _ _ (@pe_op _ _ _ _ _ _ _ _ op_add_str pe_str (pv 0)) (@pa_cons _ _ _ _ _ (@pe_op _ _ _ _ _ _ _ _ op_add_str pe_str (pv 0)) (@pa_cons _ _ _ _ _ (@pe_op _ _ _ _ _ _ _ _ op_add_str pe_str (pv 0)) pa_nil rfl) rfl) rfl) rfl))) rfl (by first | exact .inl rfl | exact .inr rfl)) (@pss_one _ _ _ (@ps_ret _ _ _ _ (@pe_op _ _ _ _ _ _ _ _ op_cat (pv 2) (@pe_lst _ _ _ _ (@pa_cons _ _ _ _ _ (@pe_op _ _ _ _ _ _ _ _ op_add_str (@pe_op _ _ _ _ _ _ _ _ op_add_str (@pe_op _ _ _ _ _ _ _ _ op_add_str pe_str (pv 0)) pe_str) (pv 1)) (@pa_cons _ _ _ _ _ (@pe_op _ _ _ _ _ _ _ _ op_add_str (@pe_op _ _ _ _ _ _ _ _ op_add_str (@pe_op _ _ _ _ _ _ _ _ op_add_str pe_str (pv 1)) pe_str) (pv 0)) pa_nil rfl) rfl))))))),?_⟩
 have lC:(oS "show ").length=5/\(oS "later ").length=6/\(oS " 1 ").length=3/\(oS "small ").length=6/\(oS "peel ").length=5/\(oS " ").length=1/\(oS "lengths ").length=8/\(oS "takings ").length=8/\(oS "free ").length=5/\(oS "alike ").length=6:=by decide +kernel
 have fit:∀{a b:Str},a.length+b.length<=1000->a.length+b.length<=sizeLine:=fun{a b} h=>by rw[sizeLine_eq];omega
 refine⟨_,rfl,_,_,rfl,rfl,fit (by simp only[Str.length_append,lC];omega),_,rfl,_,_,rfl,rfl,fit (by simp only[Str.length_append,lC];omega),_,_,rfl,rfl,fit (by simp only[Str.length_append,lC];omega),_,rfl,_,_,rfl,rfl,fit (by simp only[Str.length_append,lC];omega),_,rfl,_,_,rfl,rfl,fit (by simp only[Str.length_append,lC];omega),_,_,rfl,rfl,fit (by simp only[Str.length_append,lC];omega),_,rfl,_,_,rfl,rfl,fit (by simp only[Str.length_append,lC];omega),(by show 3<=sizeLine;decide),fun p1 h1=>?_⟩
 have s1:=same_new h1 (.lst [.str (oS "show "++n),.str (oS "later "++n++oS " 1 "++o),.str (oS "small "++n++oS " 1 "++o)])
 have f1:(upd H p1 (.lst [.str (oS "show "++n),.str (oS "later "++n++oS " 1 "++o),.str (oS "small "++n++oS " 1 "++o)])) p1=_:=upd_same
 generalize upd H p1 (.lst [.str (oS "show "++n),.str (oS "later "++n++oS " 1 "++o),.str (oS "small "++n++oS " 1 "++o)])=H1 at s1 f1 ⊢
 refine⟨_,rfl,_,rfl,_,_,rfl,rfl,fit (by simp only[Str.length_append,lC];omega),_,_,rfl,rfl,fit (by simp only[Str.length_append,lC];omega),_,rfl,_,_,rfl,rfl,fit (by simp only[Str.length_append,lC];omega),_,rfl,_,_,rfl,rfl,fit (by simp only[Str.length_append,lC];omega),_,rfl,_,_,rfl,rfl,fit (by simp only[Str.length_append,lC];omega),_,rfl,_,_,rfl,rfl,fit (by simp only[Str.length_append,lC];omega),(by show 4<=sizeLine;decide),fun p2 h2=>?_⟩
 have s2:=same_new h2 (.lst [.str (oS "peel "++n++oS " "++o),.str (oS "lengths "++n),.str (oS "takings "++n),.str (oS "free "++n)])
 have f2:(upd H1 p2 (.lst [.str (oS "peel "++n++oS " "++o),.str (oS "lengths "++n),.str (oS "takings "++n),.str (oS "free "++n)])) p2=_:=upd_same
 generalize upd H1 p2 (.lst [.str (oS "peel "++n++oS " "++o),.str (oS "lengths "++n),.str (oS "takings "++n),.str (oS "free "++n)])=H2 at s2 f2 ⊢
 refine⟨p1,p2,_,_,rfl,rfl,s2 _ _ f1,f2,(by show 7<=sizeLine;decide),fun p3 h3=>?_⟩
 have s3:=same_new h3 (.lst ([.str (oS "show "++n),.str (oS "later "++n++oS " 1 "++o),.str (oS "small "++n++oS " 1 "++o)]++[.str (oS "peel "++n++oS " "++o),.str (oS "lengths "++n),.str (oS "takings "++n),.str (oS "free "++n)]))
 have f3:(upd H2 p3 (.lst ([.str (oS "show "++n),.str (oS "later "++n++oS " 1 "++o),.str (oS "small "++n++oS " 1 "++o)]++[.str (oS "peel "++n++oS " "++o),.str (oS "lengths "++n),.str (oS "takings "++n),.str (oS "free "++n)]))) p3=_:=upd_same
 generalize upd H2 p3 (.lst ([.str (oS "show "++n),.str (oS "later "++n++oS " 1 "++o),.str (oS "small "++n++oS " 1 "++o)]++[.str (oS "peel "++n++oS " "++o),.str (oS "lengths "++n),.str (oS "takings "++n),.str (oS "free "++n)]))=H3 at s3 f3 ⊢
 refine⟨_,rfl,_,rfl,_,_,rfl,rfl,fit (by simp only[Str.length_append,lC];omega),_,_,rfl,rfl,fit (by simp only[Str.length_append,lC];omega),_,rfl,_,_,rfl,rfl,fit (by simp only[Str.length_append,lC];omega),_,rfl,_,_,rfl,rfl,fit (by simp only[Str.length_append,lC];omega),_,_,rfl,rfl,fit (by simp only[Str.length_append,lC];omega),_,rfl,_,_,rfl,rfl,fit (by simp only[Str.length_append,lC];omega),(by show 2<=sizeLine;decide),fun p4 h4=>?_⟩
 have s4:=same_new h4 (.lst [.str (oS "alike "++n++oS " "++o),.str (oS "alike "++o++oS " "++n)])
 have f4:(upd H3 p4 (.lst [.str (oS "alike "++n++oS " "++o),.str (oS "alike "++o++oS " "++n)])) p4=_:=upd_same
 generalize upd H3 p4 (.lst [.str (oS "alike "++n++oS " "++o),.str (oS "alike "++o++oS " "++n)])=H4 at s4 f4 ⊢
 refine⟨p3,p4,_,_,rfl,rfl,s4 _ _ f3,f4,(by show 9<=sizeLine;decide),fun p5 h5=>?_⟩
 refine q p5 _ (s1.trans (s2.trans (s3.trans (s4.trans (same_new h5 _))))) ?_
 rw[upd_same,<-named_is]
 rfl
end
end K96
namespace K96
open L2
def blanksW (w v:Str)(r:List Str):List (List Str):=[w_ ""::w::v::r,(w::v::r)++[w_ ""],addL (w::v::r) (w_ "\n"),(w_ "\n"++w)::v::r,addL (w::v::r) (w_ "\t"),w::w_ ""::v::r,(w++w_ "\t"++v)::r]
theorem blanks_is (w0 v:Str)(r:List Str):[oS " "++J (w0::v::r),J (w0::v::r)++oS " ",J (w0::v::r)++oS "\n",oS "\n"++J (w0::v::r),J (w0::v::r)++oS "\t",w0++oS " "++(BLK++J (v::r)),w0++oS "\t"++J (v::r)]=(blanksW w0 v r).map J:=by
 unfold blanksW
 simp only[map_cons,map_nil]
 rw[<-J_pre,<-J_end (by simp),<-J_add _ (by simp),<-J_front,<-J_add _ (by simp),<-J_mid,<-J_glue,app_nil]
def spBk:Sp:=fun vs H Q _=>∃(w0 v:Str) (r:List Str),vs=[.str (J (w0::v::r))]/\32∉w0.cps.toList/\(J (w0::v::r)).length<=1000/\∀(l:Addr) (H':Hp),Same H H'->H' l=some (.lst (((blanksW w0 v r).map J).map V.str))->Q (.ref l) H'
section
variable {P:Program}{w:World}{K:W.Frag}{mg:Str->Option Value}{base:Heap}
theorem ok_L_blanks {f:Addr}{fd:FuncData}(F:Fun K "_law_blanks" "_law_blanks" s_L_blanks f fd)(nb:Nb4 mg)   :
 FnOk P w K mg base CX0 1 f fd ["_law_line"] spBk:=by
 have nd:=sc_L_blanks.nd
 refine F.ok (k:=0) sc_L_blanks (fun vs H Q E h=>?_) (fun cdv A outer s H vs Q E hr h=>?_)
 ·obtain⟨w0,v,r,rfl,_⟩:=h
  rfl
 obtain⟨w0,v,r,rfl,hw,lj,q⟩:=h
 refine⟨_,(@pss_cons _ _ _ _ _ (@ps_set _ _ (1) _ _ _ _ nd rfl (Or.inl rfl) (pe_bm plainAttrs_str PySem.F.slot_str_index PySem.F.type_str_index mt_index (pv 0) (@pa_cons _ _ _ _ _ pe_str pa_nil rfl)) rfl (by first | exact .inl rfl | exact .inr rfl)) (@pss_cons _ _ _ _ _ (@ps_set _ _ (2) _ _ _ _ nd rfl (Or.inl rfl) (@pe_lst _ _ _ _ (@pa_cons _ _ _ _ _ (@pe_op _ _ _ _ _ _ _ _ op_add_str pe_str (pv 0)) (@pa_cons _ _ _ _ _ (@pe_op _ _ _ _ _ _ _ _ op_add_str (pv 0) pe_str) (@pa_cons _ _ _ _ _ (@pe_op _ _ _ _ _ _ _ _ op_add_str (pv 0) pe_str) (@pa_cons _ _ _ _ _ (@pe_op _ _ _ _ _ _ _ _ op_add_str pe_str (pv 0)) (@pa_cons _ _ _ _ _ (@pe_op _ _ _ _ _ _ _ _ op_add_str (pv 0) pe_str) pa_nil rfl) rfl) rfl) rfl) rfl)) rfl (by first | exact .inl rfl | exact .inr rfl)) (@pss_one _ _ _ (@ps_ret _ _ _ _ (@pe_op _ _ _ _ _ _ _ _ op_cat (pv 2) (@pe_lst _ _ _ _ (@pa_cons _ _ _ _ _ (@pe_op _ _ _ _ _ _ _ _ op_add_str (@pe_op _ _ _ _ _ _ _ _ op_add_str (pe_slice sl_str (pv 0) po_none (po_some (pv 1))) pe_str) (pe_slice sl_str (pv 0) (po_some (pv 1)) po_none)) (@pa_cons _ _ _ _ _ (@pe_op _ _ _ _ _ _ _ _ op_add_str (@pe_op _ _ _ _ _ _ _ _ op_add_str (pe_slice sl_str (pv 0) po_none (po_some (pv 1))) pe_str) (pe_slice sl_str (pv 0) (po_some (@pe_op _ _ _ _ _ _ _ _ op_add (pv 1) pe_int)) po_none)) pa_nil rfl) rfl))))))),?_⟩
 have fit:∀{a b:Str},a.length+b.length<=3000->a.length+b.length<=sizeLine:=fun{a b} h=>by rw[sizeLine_eq];omega
 obtain⟨t,oc⟩:=occ_first (v:=v) (r:=r) hw
 refine⟨_,rfl,rfl,_,_,_,t,rfl,rfl,oc,?_⟩
 obtain⟨c1,c2,c3⟩:=cut_first w0 v r
 have jz:(J (w0::v::r)).length<=sizeLine:=by rw[sizeLine_eq];omega
 have lw:w0.length<=1000:=by rw[<-c1];exact le_trans (Txt.slice_le _ _ _) lj
 have lr:(BLK++J (v::r)).length<=1000:=by rw[<-c2];exact le_trans (Txt.slice_le _ _ _) lj
 have lr2:(J (v::r)).length<=1000:=by rw[<-c3];exact le_trans (Txt.slice_le _ _ _) lj
 have lc1:(oS " ").length=1:=by decide +kernel
 have lC:(oS " ").length=1/\(oS "\n").length=1/\(oS "\t").length=1:=by decide +kernel
 refine⟨_,rfl,_,_,rfl,rfl,fit (by simp only[Str.length_append,lC];omega),_,rfl,_,_,rfl,rfl,fit (by simp only[Str.length_append,lC];omega),_,rfl,_,_,rfl,rfl,fit (by simp only[Str.length_append,lC];omega),_,rfl,_,_,rfl,rfl,fit (by simp only[Str.length_append,lC];omega),_,rfl,_,_,rfl,rfl,fit (by simp only[Str.length_append,lC];omega),(by show 5<=sizeLine;decide),fun p1 h1=>?_⟩
 have s1:=same_new h1 (.lst [.str (oS " "++J (w0::v::r)),.str (J (w0::v::r)++oS " "),.str (J (w0::v::r)++oS "\n"),.str (oS "\n"++J (w0::v::r)),.str (J (w0::v::r)++oS "\t")])
 have f1:(upd H p1 (.lst [.str (oS " "++J (w0::v::r)),.str (J (w0::v::r)++oS " "),.str (J (w0::v::r)++oS "\n"),.str (oS "\n"++J (w0::v::r)),.str (J (w0::v::r)++oS "\t")])) p1=_:=upd_same
 generalize upd H p1 (.lst [.str (oS " "++J (w0::v::r)),.str (J (w0::v::r)++oS " "),.str (J (w0::v::r)++oS "\n"),.str (oS "\n"++J (w0::v::r)),.str (J (w0::v::r)++oS "\t")])=H1 at s1 f1 ⊢
 refine⟨_,rfl,_,rfl,_,rfl,_,rfl,_,rfl,jz,?_⟩
 rw[c1]
 refine⟨_,_,rfl,rfl,fit (by simp only[Str.length_append,lC];omega),_,rfl,_,rfl,_,rfl,_,rfl,jz,?_⟩
 rw[c2]
 refine⟨_,_,rfl,rfl,fit (by rw[Str.length_append,lc1];omega),?_⟩
 refine⟨_,rfl,_,rfl,_,rfl,_,rfl,jz,?_⟩
 rw[c1]
 refine⟨_,_,rfl,rfl,fit (by simp only[Str.length_append,lC];omega),_,rfl,_,rfl,_,_,rfl,rfl,_,rfl,_,rfl,jz,?_⟩
 rw[c3]
 refine⟨_,_,rfl,rfl,fit (by simp only[Str.length_append,lC];omega),(by show 2<=sizeLine;decide),fun p2 h2=>?_⟩
 have s2:=same_new h2 (.lst [.str (w0++oS " "++(BLK++J (v::r))),.str (w0++oS "\t"++J (v::r))])
 have f2:(upd H1 p2 (.lst [.str (w0++oS " "++(BLK++J (v::r))),.str (w0++oS "\t"++J (v::r))])) p2=_:=upd_same
 refine⟨p1,p2,_,_,rfl,rfl,s2 _ _ f1,upd_same,(by show 7<=sizeLine;decide),fun p3 h3=>?_⟩
 refine q p3 _ (s1.trans (s2.trans (same_new h3 _))) ?_
 rw[upd_same,<-blanks_is]
 rfl
end
end K96
namespace K96
open L2
theorem keep_of {a:Addr}{H H':Hp}(s:Same H H'):Keep a H H':=fun c o _ h=>s c o h
structure BadT (z:Str):Prop where
 no:¬NoteOk z
 bl:32∉z.cps.toList
 len:z.length<=310
theorem app_blank {a b:Str}(ha:32∉a.cps.toList)(hb:32∉b.cps.toList):32∉(a++b).cps.toList:=fun m=>by
 rw[app_list]at m
 exact(mem_append.mp m).elim ha hb
theorem one_blank {c:Nat}(h:c≠32):32∉(⟨#[c]⟩:Str).cps.toList:=fun m=>h (by
 have e:32=c:=by simpa using m
 exact e.symm)
theorem tx_len {row:List Int}(wd:Wd row)(c:Nat):(rowTxt row++⟨#[c]⟩:Str).length<=310/\(⟨#[c]⟩++rowTxt row:Str).length<=310:=by
 have:=txt_short wd
 rw[Str.length_append,Str.length_append]
 have:(⟨#[c]⟩:Str).length=1:=rfl
 omega
theorem tx_after {row:List Int}(c:Nat)(h1:c≠101)(h2:c≠111)(h3:c≠32)(wd:Wd row):BadT (rowTxt row++⟨#[c]⟩):=⟨note_end h1 h2,app_blank (txt_blank row) (one_blank h3),(tx_len wd c).1⟩
theorem tx_before {row:List Int}(c:Nat)(h1:c<45)(h3:c≠32)(wd:Wd row):BadT (⟨#[c]⟩++rowTxt row):=⟨note_low (c:=c) (by rw[app_list];simp) h1,app_blank (one_blank h3) (txt_blank row),(tx_len wd c).2⟩
theorem tx_nought {row:List Int}(wd:Wd row):BadT (⟨#[48]⟩++rowTxt row):=⟨note_nought,app_blank (one_blank (by decide)) (txt_blank row),(tx_len wd 48).2⟩
theorem tx_at {row:List Int}(wd:Wd row)(m:Nat)(h:m<21):∃t,(([.str (oS "0:"),.str (oS "0:.o"),.str (oS "0:o."),.str (oS "o"),.str (oS "00:o"),.str (oS "0:x"),.str (oS "-0:o"),.str (oS "+1:o"),.str (oS "0:"++manyT (oS "o") 13),.str (oS "1000000001:o"),.str (oS "None"),.str (oS "")]:List V)++[.str (oS ":o"),.str (oS "0;o"),.str (oS "none."),.str (rowTxt row++oS "\n"),.str (oS "\n"++rowTxt row),.str (rowTxt row++oS "\t"),.str (rowTxt row++oS "."),.str (oS "0"++rowTxt row),.str (rowTxt row++oS ":")])[m]?=some (.str t)/\BadT t:=by
 match m,h with
 |0,_=>exact⟨_,rfl,⟨note_bad (by decide +kernel),by decide +kernel,by decide +kernel⟩⟩
 |1,_=>exact⟨_,rfl,⟨note_bad (by decide +kernel),by decide +kernel,by decide +kernel⟩⟩
 |2,_=>exact⟨_,rfl,⟨note_bad (by decide +kernel),by decide +kernel,by decide +kernel⟩⟩
 |3,_=>exact⟨_,rfl,⟨note_bad (by decide +kernel),by decide +kernel,by decide +kernel⟩⟩
 |4,_=>exact⟨_,rfl,⟨note_bad (by decide +kernel),by decide +kernel,by decide +kernel⟩⟩
 |5,_=>exact⟨_,rfl,⟨note_bad (by decide +kernel),by decide +kernel,by decide +kernel⟩⟩
 |6,_=>exact⟨_,rfl,⟨note_bad (by decide +kernel),by decide +kernel,by decide +kernel⟩⟩
 |7,_=>exact⟨_,rfl,⟨note_bad (by decide +kernel),by decide +kernel,by decide +kernel⟩⟩
 |8,_=>exact⟨_,rfl,⟨note_bad (by decide +kernel),by decide +kernel,by decide +kernel⟩⟩
 |9,_=>exact⟨_,rfl,⟨note_bad (by decide +kernel),by decide +kernel,by decide +kernel⟩⟩
 |10,_=>exact⟨_,rfl,⟨note_bad (by decide +kernel),by decide +kernel,by decide +kernel⟩⟩
 |11,_=>exact⟨_,rfl,⟨note_bad (by decide +kernel),by decide +kernel,by decide +kernel⟩⟩
 |12,_=>exact⟨_,rfl,⟨note_bad (by decide +kernel),by decide +kernel,by decide +kernel⟩⟩
 |13,_=>exact⟨_,rfl,⟨note_bad (by decide +kernel),by decide +kernel,by decide +kernel⟩⟩
 |14,_=>exact⟨_,rfl,⟨note_bad (by decide +kernel),by decide +kernel,by decide +kernel⟩⟩
 |15,_=>exact⟨_,rfl,tx_after 10 (by decide) (by decide) (by decide) wd⟩
 |16,_=>exact⟨_,rfl,tx_before 10 (by decide) (by decide) wd⟩
 |17,_=>exact⟨_,rfl,tx_after 9 (by decide) (by decide) (by decide) wd⟩
 |18,_=>exact⟨_,rfl,tx_after 46 (by decide) (by decide) (by decide) wd⟩
 |19,_=>exact⟨_,rfl,tx_nought wd⟩
 |20,_=>exact⟨_,rfl,tx_after 58 (by decide) (by decide) (by decide) wd⟩
 |m+21,h=>omega
def spNt:Sp:=fun vs H Q _=>∃(a:Addr) (x:Int) (b:Bool) (row:List Int),vs=[.ref a,.str (rowTxt row)]/\StAt H a x b/\Wd row/\
 ∀(z:Str) (H':Hp) (x':Int),Keep a H H'->StAt H' a x' b->BadT z->Q (.str z) H'
section
variable {P:Program}{w:World}{K:W.Frag}{mg:Str->Option Value}{base:Heap}
theorem ok_L_no_text {f:Addr}{fd:FuncData}(F:Fun K "_law_no_text" "_law_no_text" s_L_no_text f fd)(nb:Nb4 mg)(h_L_take:Has P w K mg base 1 "_law_take" ["_law_state_here","_law_many"] (spTake K))  :
 FnOk P w K mg base CX0 2 f fd ["_law_state_here","_law_text"] spNt:=by
 have nd:=sc_L_no_text.nd
 refine F.ok (k:=1) sc_L_no_text (fun vs H Q E h=>?_) (fun cdv A outer s H vs Q E hr h=>?_)
 ·obtain⟨a,x,b,row,rfl,_⟩:=h
  rfl
 obtain⟨a,x,b,row,rfl,hS,wd,q⟩:=h
 refine⟨_,(@pss_cons _ _ _ _ _ (@ps_set _ _ (2) _ _ _ _ nd rfl (Or.inl rfl) (@pe_lst _ _ _ _ (@pa_cons _ _ _ _ _ pe_str (@pa_cons _ _ _ _ _ pe_str (@pa_cons _ _ _ _ _ pe_str (@pa_cons _ _ _ _ _ pe_str (@pa_cons _ _ _ _ _ pe_str (@pa_cons _ _ _ _ _ pe_str (@pa_cons _ _ _ _ _ pe_str (@pa_cons _ _ _ _ _ pe_str (@pa_cons _ _ _ _ _ (@pe_op _ _ _ _ _ _ _ _ op_add_str pe_str (@pe_op _ _ _ _ _ _ _ _ op_repS pe_str pe_int)) (@pa_cons _ _ _ _ _ pe_str (@pa_cons _ _ _ _ _ pe_str (@pa_cons _ _ _ _ _ pe_str pa_nil rfl) rfl) rfl) rfl) rfl) rfl) rfl) rfl) rfl) rfl) rfl) rfl)) rfl (by first | exact .inl rfl | exact .inr rfl)) (@pss_cons _ _ _ _ _ (@ps_set _ _ (2) _ _ _ _ nd rfl (Or.inl rfl) (@pe_op _ _ _ _ _ _ _ _ op_cat (pv 2) (@pe_lst _ _ _ _ (@pa_cons _ _ _ _ _ pe_str (@pa_cons _ _ _ _ _ pe_str (@pa_cons _ _ _ _ _ pe_str (@pa_cons _ _ _ _ _ (@pe_op _ _ _ _ _ _ _ _ op_add_str (pv 1) pe_str) (@pa_cons _ _ _ _ _ (@pe_op _ _ _ _ _ _ _ _ op_add_str pe_str (pv 1)) (@pa_cons _ _ _ _ _ (@pe_op _ _ _ _ _ _ _ _ op_add_str (pv 1) pe_str) (@pa_cons _ _ _ _ _ (@pe_op _ _ _ _ _ _ _ _ op_add_str (pv 1) pe_str) (@pa_cons _ _ _ _ _ (@pe_op _ _ _ _ _ _ _ _ op_add_str pe_str (pv 1)) (@pa_cons _ _ _ _ _ (@pe_op _ _ _ _ _ _ _ _ op_add_str (pv 1) pe_str) pa_nil rfl) rfl) rfl) rfl) rfl) rfl) rfl) rfl) rfl))) rfl (by first | exact .inl rfl | exact .inr rfl)) (@pss_one _ _ _ (@ps_ret _ _ _ _ (@pe_ix _ _ _ _ _ _ _ ix_list (pv 2) (pe_def h_L_take hr (@pa_cons _ _ _ _ _ (pv 0) (@pa_cons _ _ _ _ _ pe_int pa_nil rfl) rfl)) (fun _ _=>rfl)))))),?_⟩
 have lC:(oS "0:").length=2/\(oS "0:.o").length=4/\(oS "0:o.").length=4/\(oS "o").length=1/\(oS "00:o").length=4/\(oS "0:x").length=3/\(oS "-0:o").length=4/\(oS "+1:o").length=4/\(oS "1000000001:o").length=12/\(oS "None").length=4/\(oS "").length=0/\(oS ":o").length=2/\(oS "0;o").length=3/\(oS "none.").length=5/\(oS "\n").length=1/\(oS "\t").length=1/\(oS ".").length=1/\(oS "0").length=1/\(oS ":").length=1:=by decide +kernel
 have tl:=txt_short wd
 have lo:(manyT (oS "o") 13).length=13:=by decide +kernel
 have fit:∀{a b:Str},a.length+b.length<=1000->a.length+b.length<=sizeLine:=fun{a b} h=>by rw[sizeLine_eq];omega
 refine⟨_,13,rfl,rfl,by decide,by decide,by decide +kernel,(by rw[sizeLine_eq];exact le_trans (show(manyT (oS "o") 13).length<=20 by decide +kernel) (by omega)),_,_,rfl,rfl,fit (by simp only[Str.length_append,lo,lC];omega),(by show 12<=sizeLine;decide),fun p1 h1=>?_⟩
 have s1:=same_new h1 (.lst [.str (oS "0:"),.str (oS "0:.o"),.str (oS "0:o."),.str (oS "o"),.str (oS "00:o"),.str (oS "0:x"),.str (oS "-0:o"),.str (oS "+1:o"),.str (oS "0:"++manyT (oS "o") 13),.str (oS "1000000001:o"),.str (oS "None"),.str (oS "")])
 have f1:(upd H p1 (.lst [.str (oS "0:"),.str (oS "0:.o"),.str (oS "0:o."),.str (oS "o"),.str (oS "00:o"),.str (oS "0:x"),.str (oS "-0:o"),.str (oS "+1:o"),.str (oS "0:"++manyT (oS "o") 13),.str (oS "1000000001:o"),.str (oS "None"),.str (oS "")])) p1=_:=upd_same
 generalize upd H p1 (.lst [.str (oS "0:"),.str (oS "0:.o"),.str (oS "0:o."),.str (oS "o"),.str (oS "00:o"),.str (oS "0:x"),.str (oS "-0:o"),.str (oS "+1:o"),.str (oS "0:"++manyT (oS "o") 13),.str (oS "1000000001:o"),.str (oS "None"),.str (oS "")])=H1 at s1 f1 ⊢
 refine⟨_,rfl,_,rfl,_,_,rfl,rfl,fit (by simp only[Str.length_append,lo,lC];omega),_,rfl,_,_,rfl,rfl,fit (by simp only[Str.length_append,lo,lC];omega),_,rfl,_,_,rfl,rfl,fit (by simp only[Str.length_append,lo,lC];omega),_,rfl,_,_,rfl,rfl,fit (by simp only[Str.length_append,lo,lC];omega),_,rfl,_,_,rfl,rfl,fit (by simp only[Str.length_append,lo,lC];omega),_,rfl,_,_,rfl,rfl,fit (by simp only[Str.length_append,lo,lC];omega),(by show 9<=sizeLine;decide),fun p2 h2=>?_⟩
 have s2:=same_new h2 (.lst [.str (oS ":o"),.str (oS "0;o"),.str (oS "none."),.str (rowTxt row++oS "\n"),.str (oS "\n"++rowTxt row),.str (rowTxt row++oS "\t"),.str (rowTxt row++oS "."),.str (oS "0"++rowTxt row),.str (rowTxt row++oS ":")])
 have f2:(upd H1 p2 (.lst [.str (oS ":o"),.str (oS "0;o"),.str (oS "none."),.str (rowTxt row++oS "\n"),.str (oS "\n"++rowTxt row),.str (rowTxt row++oS "\t"),.str (rowTxt row++oS "."),.str (oS "0"++rowTxt row),.str (rowTxt row++oS ":")])) p2=_:=upd_same
 generalize upd H1 p2 (.lst [.str (oS ":o"),.str (oS "0;o"),.str (oS "none."),.str (rowTxt row++oS "\n"),.str (oS "\n"++rowTxt row),.str (rowTxt row++oS "\t"),.str (rowTxt row++oS "."),.str (oS "0"++rowTxt row),.str (rowTxt row++oS ":")])=H2 at s2 f2 ⊢
 refine⟨p1,p2,_,_,rfl,rfl,s2 _ _ f1,f2,(by show 21<=sizeLine;decide),fun p3 h3=>?_⟩
 have s3:=same_new h3 (.lst ([.str (oS "0:"),.str (oS "0:.o"),.str (oS "0:o."),.str (oS "o"),.str (oS "00:o"),.str (oS "0:x"),.str (oS "-0:o"),.str (oS "+1:o"),.str (oS "0:"++manyT (oS "o") 13),.str (oS "1000000001:o"),.str (oS "None"),.str (oS "")]++[.str (oS ":o"),.str (oS "0;o"),.str (oS "none."),.str (rowTxt row++oS "\n"),.str (oS "\n"++rowTxt row),.str (rowTxt row++oS "\t"),.str (rowTxt row++oS "."),.str (oS "0"++rowTxt row),.str (rowTxt row++oS ":")]))
 have f3:(upd H2 p3 (.lst ([.str (oS "0:"),.str (oS "0:.o"),.str (oS "0:o."),.str (oS "o"),.str (oS "00:o"),.str (oS "0:x"),.str (oS "-0:o"),.str (oS "+1:o"),.str (oS "0:"++manyT (oS "o") 13),.str (oS "1000000001:o"),.str (oS "None"),.str (oS "")]++[.str (oS ":o"),.str (oS "0;o"),.str (oS "none."),.str (rowTxt row++oS "\n"),.str (oS "\n"++rowTxt row),.str (rowTxt row++oS "\t"),.str (rowTxt row++oS "."),.str (oS "0"++rowTxt row),.str (rowTxt row++oS ":")]))) p3=_:=upd_same
 generalize upd H2 p3 (.lst ([.str (oS "0:"),.str (oS "0:.o"),.str (oS "0:o."),.str (oS "o"),.str (oS "00:o"),.str (oS "0:x"),.str (oS "-0:o"),.str (oS "+1:o"),.str (oS "0:"++manyT (oS "o") 13),.str (oS "1000000001:o"),.str (oS "None"),.str (oS "")]++[.str (oS ":o"),.str (oS "0;o"),.str (oS "none."),.str (rowTxt row++oS "\n"),.str (oS "\n"++rowTxt row),.str (rowTxt row++oS "\t"),.str (rowTxt row++oS "."),.str (oS "0"++rowTxt row),.str (rowTxt row++oS ":")]))=H3 at s3 f3 ⊢
 have S3:=s1.trans (s2.trans s3)
 have st3:=hS.same S3
 have p3a:p3≠a:=fun z=>by
  rw[z,st3.1]at f3
  cases f3
 refine⟨_,rfl,_,rfl,a,x,b,21,rfl,st3,by decide,by decide,fun u x4 u0 u21 d4=>?_⟩
 have k4:=(keep_of S3).trans (keep_upd a H3 (.lst [.int x4,.bl b]))
 have st4:StAt (upd H3 a (.lst [.int x4,.bl b])) a x4 b:=StAt.upd d4
 have f4:=keep_upd a H3 (.lst [.int x4,.bl b]) _ _ p3a f3
 obtain⟨m,rfl⟩:=eq_ofNat_of_zero_le u0
 obtain⟨t,et,bt⟩:=tx_at wd m (by omega)
 exact⟨p3,_,_,.str t,rfl,rfl,SqL.of f4,atI_nat et,q t _ _ k4 st4 bt⟩
end
end K96
namespace K96
open L2
def Fr (k:Nat)(p:Str):Prop:=32∉p.cps.toList/\p.length<=k
structure FreeK (m:Nat)(ws:List Str):Prop where
 nb:∀p∈ws,32∉p.cps.toList
 tot:(ws.map (·.length)).sum+ws.length<=m
theorem FreeK.w {m:Nat}{ws:List Str}(f:FreeK m ws)(h:m<=1000):FreeW ws:=⟨f.nb,le_trans f.tot h⟩
theorem fk_nil:FreeK 0 []:=⟨fun p hp=>absurd hp not_mem_nil,Nat.le_refl _⟩
theorem fk {k m:Nat}{p:Str}{ws:List Str}(h:Fr k p)(f:FreeK m ws):FreeK (k+1+m) (p::ws):=
 ⟨fun q hq=>by
  rcases mem_cons.mp hq with rfl | hq
  ·exact h.1
  ·exact f.nb q hq,by
  have:=h.2
  have:=f.tot
  rw[map_cons,sum_cons,length_cons]
  omega⟩
theorem FreeK.mono {k m:Nat}{ws:List Str}(f:FreeK k ws)(h:k<=m):FreeK m ws:=⟨f.nb,le_trans f.tot h⟩
theorem FreeK.end {k m:Nat}{p:Str}{ws:List Str}(f:FreeK m ws)(h:Fr k p):FreeK (k+1+m) (ws++[p]):=
 ⟨fun q hq=>by
  rcases mem_append.mp hq with hq | hq
  ·exact f.nb q hq
  ·rw[mem_singleton.mp hq];exact h.1,by
  have:=h.2
  have:=f.tot
  rw[map_append,List.sum_append,length_append,map_cons,sum_cons,map_nil,sum_nil,length_singleton]
  omega⟩
theorem FreeK.add {m k:Nat}{s:Str}(hs:Fr k s):∀{ws:List Str},FreeK m ws->FreeK (k+m) (addL ws s)
 |[],f=>f.mono (by omega)
 |[w],f=>by
  refine⟨fun q hq=>?_,?_⟩
  ·have:q=w++s:=by simpa[addL]using hq
   rw[this]
   exact app_blank (f.nb w (by simp)) hs.1
  ·have t:=f.tot
   have:=hs.2
   show([w++s].map (·.length)).sum+1<=_
   simp only[map_cons,map_nil,sum_cons,sum_nil,length_singleton]at t ⊢
   rw[Str.length_append]
   omega
 |w::v::r,f=>by
  have g:FreeK (m - (w.length+1)) (v::r):=⟨fun q hq=>f.nb q (mem_cons_of_mem _ hq),by
   have t:=f.tot
   rw[map_cons,sum_cons,length_cons]at t
   omega⟩
  have ih:=FreeK.add hs g
  have t:=f.tot
  rw[map_cons,sum_cons,length_cons]at t
  exact(fk (k:=w.length) ⟨f.nb w (by simp),Nat.le_refl _⟩ ih).mono (by omega)
theorem addL_len (s:Str):∀ws:List Str,(addL ws s).length=ws.length
 |[]=>rfl
 |[w]=>rfl
 |w::v::r=>congrArg (· + 1) (addL_len s (v::r))
theorem addL_last (s:Str):∀{ws:List Str} {y:Str},ws.getLast?=some y->(addL ws s).getLast?=some (y++s)
 |[],_,h=>by cases h
 |[w],y,h=>by cases h;rfl
 |w::v::r,y,h=>by
  have ih:=addL_last s (ws:=v::r) (y:=y) (by rw[List.getLast?_cons_cons]at h;exact h)
  show(w::addL (v::r) s).getLast?=_
  cases e:addL (v::r) s with
  |nil=>exact absurd e (addL_ne s (by simp))
  |cons a b=>rw[List.getLast?_cons_cons,<-e];exact ih
theorem no_ctrl {f y:Str}{c:Nat}(hf:f≠oS "K")(m:c∈y.cps.toList)(hc:c=9\/c=10):¬Good f y:=by
 unfold Good
 by_cases t:f=oS "TEXT"
 ·rw[if_pos t]
  exact note_low m (by omega)
 ·rw[if_neg t,if_neg hf,bad_with m (by rcases hc with rfl | rfl<;>decide +kernel)]
  exact Bool.false_ne_true
theorem forms_clean:∀p∈formsL,9∉p.1.cps.toList/\10∉p.1.cps.toList:=by decide +kernel
theorem forms_ctrl {x:Str}{c:Nat}(m:c∈x.cps.toList)(hc:c=9\/c=10):formsOf x=none:=by
 unfold formsOf
 rw[find?_eq_none.mpr fun p hp e=>?_]
 ·rfl
 ·have e:p.1=x:=of_decide_eq_true e
  have:=forms_clean p hp
  rw[e]at this
  rcases hc with rfl | rfl
  ·exact this.1 m
  ·exact this.2 m
theorem ctl_9:(w_ "\t").cps.toList=[9]:=by decide +kernel
theorem ctl_10:(w_ "\n").cps.toList=[10]:=by decide +kernel
theorem fr_9:Fr 1 (w_ "\t"):=by unfold Fr;decide +kernel
theorem fr_10:Fr 1 (w_ "\n"):=by unfold Fr;decide +kernel
theorem fr_0:Fr 0 (w_ ""):=by unfold Fr;decide +kernel
theorem bad_last {w s:Str}{rest fs:List Str}{c:Nat}(fo:formsOf w=some fs)(le:fs.length=rest.length)(lf:∃f,fs.getLast?=some f/\f≠oS "K")(hs:s.cps.toList=[c])(hc:c=9\/c=10)(ne:rest≠[]):BadW (w::addL rest s):=by
 obtain⟨f,hf,nk⟩:=lf
 obtain⟨y,hy⟩:∃y,rest.getLast?=some y:=by
  cases e:rest.getLast? with
  |none=>exact absurd (List.getLast?_eq_none_iff.mp e) ne
  |some y=>exact⟨y,rfl⟩
 have ha:=addL_last s hy
 rw[getLast?_eq_getElem?]at hf ha
 rw[addL_len]at ha
 rw[le]at hf
 exact bad_p fo hf ha (no_ctrl nk (c:=c) (by rw[app_list,hs];simp) hc)
theorem blanks_bad {w v:Str}{r fs:List Str}{m:Nat}(f:FreeK m (w::v::r))(hm:m<=900)(fo:formsOf w=some fs)(le:fs.length=(v::r).length)(lf:∃f,fs.getLast?=some f/\f≠oS "K"):∀ws∈blanksW w v r,FreeW ws/\BadW ws:=by
 have nw:32∉w.cps.toList:=f.nb w (by simp)
 have nv:32∉v.cps.toList:=f.nb v (by simp)
 have t:=f.tot
 rw[map_cons,map_cons,sum_cons,sum_cons,length_cons,length_cons]at t
 have fr:FreeK (m - w.length - 1) (v::r):=⟨fun q hq=>f.nb q (mem_cons_of_mem _ hq),by rw[map_cons,sum_cons,length_cons];omega⟩
 have fr2:FreeK (m - w.length - 1 - v.length - 1) r:=⟨fun q hq=>f.nb q (mem_cons_of_mem _ (mem_cons_of_mem _ hq)),by omega⟩
 intro ws hw
 unfold blanksW at hw
 simp only[mem_cons,not_mem_nil,or_false]at hw
 rcases hw with rfl | rfl | rfl | rfl | rfl | rfl | rfl
 ·exact⟨(fk fr_0 f).w (by omega),bad_x (by decide +kernel)⟩
 ·exact⟨(f.end fr_0).w (by omega),bad_n (rest:=(v::r)++[w_ ""]) fo (by rw[le,length_append];simp)⟩
 ·exact⟨(f.add fr_10).w (by omega),bad_last (rest:=v::r) fo le lf ctl_10 (.inr rfl) (by simp)⟩
 ·exact⟨(fk (k:=w.length+1) ⟨app_blank fr_10.1 nw,by rw[Str.length_append];have:=fr_10.2;omega⟩ fr).w (by omega),bad_x (forms_ctrl (c:=10) (by rw[app_list,ctl_10];simp) (.inr rfl))⟩
 ·exact⟨(f.add fr_9).w (by omega),bad_last (rest:=v::r) fo le lf ctl_9 (.inl rfl) (by simp)⟩
 ·exact⟨(fk (k:=w.length) ⟨nw,Nat.le_refl _⟩ (fk fr_0 fr)).w (by omega),bad_n fo (by rw[le];simp)⟩
 ·exact⟨(fk (k:=w.length+v.length+1) ⟨app_blank (app_blank nw fr_9.1) nv,by rw[Str.length_append,Str.length_append];have:=fr_9.2;omega⟩ fr2).w (by omega),bad_x (forms_ctrl (c:=9) (by rw[app_list,app_list,ctl_9];simp) (.inl rfl))⟩
end K96
namespace K96
open L2
theorem fr_name {n:Str}(h:nameB n=true):Fr 20 n:=⟨name_blank h,by have:=(name_len h).2.1;rw[len_is];omega⟩
theorem fr_bad {z:Str}(h:BadN z):Fr 20 z:=⟨h.bl,h.len⟩
theorem fr_text {row:List Int}(wd:Wd row):Fr 310 (rowTxt row):=⟨txt_blank row,by have:=txt_short wd;omega⟩
theorem fr_noT {z:Str}(h:BadT z):Fr 310 z:=⟨h.bl,h.len⟩
theorem fr_w (s:String)(h:decide (32∉(w_ s).cps.toList/\(w_ s).length<=40)=true):Fr 40 (w_ s):=by
 unfold Fr
 exact of_decide_eq_true h
def BadZ (z:Str):Prop:=BadLine z/\z.length<=1010
theorem bz {ws:List Str}(f:FreeW ws)(b:BadW ws):BadZ (J ws):=⟨bad_J f b,le_trans f.len (by decide)⟩
abbrev fA:Str:=w_ "A"
abbrev fN:Str:=w_ "N"
abbrev fK:Str:=w_ "K"
abbrev fT:Str:=w_ "TEXT"
section
variable {a b c x:Str}{fs:List Str}{ka kb kc:Nat}
theorem b2 (fx:Fr 40 x)(fo:formsOf x=some fs)(ha:Fr ka a)(l:ka<=320)(n:∃(j:Nat) (f y:Str),fs[j]?=some f/\[a][j]?=some y/\¬Good f y):BadZ (J [x,a]):=
 bz ((fk fx (fk ha fk_nil)).w (by omega)) (let⟨j,f,y,h1,h2,h3⟩:=n;bad_p fo h1 h2 h3)
theorem b3 (fx:Fr 40 x)(fo:formsOf x=some fs)(ha:Fr ka a)(hb:Fr kb b)(l:ka+kb<=640)(n:∃(j:Nat) (f y:Str),fs[j]?=some f/\[a,b][j]?=some y/\¬Good f y):BadZ (J [x,a,b]):=
 bz ((fk fx (fk ha (fk hb fk_nil))).w (by omega)) (let⟨j,f,y,h1,h2,h3⟩:=n;bad_p fo h1 h2 h3)
theorem b4 (fx:Fr 40 x)(fo:formsOf x=some fs)(ha:Fr ka a)(hb:Fr kb b)(hc:Fr kc c)(l:ka+kb+kc<=640)(n:∃(j:Nat) (f y:Str),fs[j]?=some f/\[a,b,c][j]?=some y/\¬Good f y):BadZ (J [x,a,b,c]):=
 bz ((fk fx (fk ha (fk hb (fk hc fk_nil)))).w (by omega)) (let⟨j,f,y,h1,h2,h3⟩:=n;bad_p fo h1 h2 h3)
end
theorem named_bad {z n:Str}(hz:BadN z)(hn:nameB n=true):∀y∈(namedW z n).map J,BadZ y:=fun y hy=>by
 have fz:=fr_bad hz
 have fn:=fr_name hn
 have nA:=not_A hz.no
 obtain⟨ws,hw,rfl⟩:=mem_map.mp hy
 unfold namedW at hw
 simp only[mem_cons,not_mem_nil,or_false]at hw
 rcases hw with rfl | rfl | rfl | rfl | rfl | rfl | rfl | rfl | rfl
 ·exact b2 (fs:=[fA]) (fr_w "show" (by decide +kernel)) (by decide +kernel) fz (by omega) ⟨0,_,_,rfl,rfl,nA⟩
 ·exact b4 (fs:=[fA,fK,fN]) (fr_w "later" (by decide +kernel)) (by decide +kernel) fz (fr_w "1" (by decide +kernel)) fn (by omega) ⟨0,_,_,rfl,rfl,nA⟩
 ·exact b4 (fs:=[fA,fK,fN]) (fr_w "small" (by decide +kernel)) (by decide +kernel) fz (fr_w "1" (by decide +kernel)) fn (by omega) ⟨0,_,_,rfl,rfl,nA⟩
 ·exact b3 (fs:=[fA,fN]) (fr_w "peel" (by decide +kernel)) (by decide +kernel) fz fn (by omega) ⟨0,_,_,rfl,rfl,nA⟩
 ·exact b2 (fs:=[fA]) (fr_w "lengths" (by decide +kernel)) (by decide +kernel) fz (by omega) ⟨0,_,_,rfl,rfl,nA⟩
 ·exact b2 (fs:=[fA]) (fr_w "takings" (by decide +kernel)) (by decide +kernel) fz (by omega) ⟨0,_,_,rfl,rfl,nA⟩
 ·exact b2 (fs:=[fA]) (fr_w "free" (by decide +kernel)) (by decide +kernel) fz (by omega) ⟨0,_,_,rfl,rfl,nA⟩
 ·exact b3 (fs:=[fA,fA]) (fr_w "alike" (by decide +kernel)) (by decide +kernel) fz fn (by omega) ⟨0,_,_,rfl,rfl,nA⟩
 ·exact b3 (fs:=[fA,fA]) (fr_w "alike" (by decide +kernel)) (by decide +kernel) fn fz (by omega) ⟨1,_,_,rfl,rfl,nA⟩
def Shp (ws:List Str):Prop:=∃(w v:Str) (r fs:List Str) (m:Nat),ws=w::v::r/\FreeK m (w::v::r)/\m<=900/\formsOf w=some fs/\fs.length=(v::r).length/\∃f,fs.getLast?=some f/\f≠w_ "K"
theorem named_shp {n o:Str}(hn:nameB n=true)(ho:nameB o=true):∀ws∈namedW n o,Shp ws:=fun ws hw=>by
 have fn:=fr_name hn
 have fo:=fr_name ho
 have n1:(fA:Str)≠w_ "K":=by decide +kernel
 have n2:(fN:Str)≠w_ "K":=by decide +kernel
 unfold namedW at hw
 simp only[mem_cons,not_mem_nil,or_false]at hw
 rcases hw with rfl | rfl | rfl | rfl | rfl | rfl | rfl | rfl | rfl
 ·exact⟨_,_,_,[fA],_,rfl,fk (fr_w "show" (by decide +kernel)) (fk fn fk_nil),by omega,by decide +kernel,rfl,_,rfl,n1⟩
 ·exact⟨_,_,_,[fA,fK,fN],_,rfl,fk (fr_w "later" (by decide +kernel)) (fk fn (fk (fr_w "1" (by decide +kernel)) (fk fo fk_nil))),by omega,by decide +kernel,rfl,_,rfl,n2⟩
 ·exact⟨_,_,_,[fA,fK,fN],_,rfl,fk (fr_w "small" (by decide +kernel)) (fk fn (fk (fr_w "1" (by decide +kernel)) (fk fo fk_nil))),by omega,by decide +kernel,rfl,_,rfl,n2⟩
 ·exact⟨_,_,_,[fA,fN],_,rfl,fk (fr_w "peel" (by decide +kernel)) (fk fn (fk fo fk_nil)),by omega,by decide +kernel,rfl,_,rfl,n2⟩
 ·exact⟨_,_,_,[fA],_,rfl,fk (fr_w "lengths" (by decide +kernel)) (fk fn fk_nil),by omega,by decide +kernel,rfl,_,rfl,n1⟩
 ·exact⟨_,_,_,[fA],_,rfl,fk (fr_w "takings" (by decide +kernel)) (fk fn fk_nil),by omega,by decide +kernel,rfl,_,rfl,n1⟩
 ·exact⟨_,_,_,[fA],_,rfl,fk (fr_w "free" (by decide +kernel)) (fk fn fk_nil),by omega,by decide +kernel,rfl,_,rfl,n1⟩
 ·exact⟨_,_,_,[fA,fA],_,rfl,fk (fr_w "alike" (by decide +kernel)) (fk fn (fk fo fk_nil)),by omega,by decide +kernel,rfl,_,rfl,n1⟩
 ·exact⟨_,_,_,[fA,fA],_,rfl,fk (fr_w "alike" (by decide +kernel)) (fk fo (fk fn fk_nil)),by omega,by decide +kernel,rfl,_,rfl,n1⟩
theorem row_shp {n:Str}{row:List Int}(hn:nameB n=true)(wd:Wd row):Shp [w_ "row",n,rowTxt row]:=
 ⟨_,_,_,[fN,fT],_,rfl,fk (fr_w "row" (by decide +kernel)) (fk (fr_name hn) (fk (fr_text wd) fk_nil)),by omega,by decide +kernel,rfl,_,rfl,by decide +kernel⟩
theorem Shp.more {ws:List Str}{n:Str}(s:Shp ws)(hn:nameB n=true):BadZ (J (ws++[n])):=by
 obtain⟨w,v,r,fs,m,rfl,f,hm,fo,le,lf⟩:=s
 exact bz ((f.end (fr_name hn)).w (by omega)) (bad_n (rest:=(v::r)++[n]) fo (by rw[le,length_append];simp))
def wordsB:List Str:=[w_ "01",w_ "-0",w_ "+1",w_ "1.0",w_ "x",w_ "",w_ "1"++manyT (w_ "0") 30,w_ "-1"++manyT (w_ "0") 30]
theorem words_bad:∀k∈wordsB,numOkB k=false/\32∉k.cps.toList/\k.length<=40:=by decide +kernel
theorem num_bad {k o n:Str}(hk:k∈wordsB)(ho:nameB o=true)(hn:nameB n=true):BadZ (J [w_ "later",o,k,n])/\BadZ (J [w_ "small",o,k,n]):=by
 obtain⟨h1,h2,h3⟩:=words_bad k hk
 have nk:=not_K (y:=k) fun z=>by rw[num_iff.mpr z]at h1;cases h1
 have fk':Fr 40 k:=⟨h2,h3⟩
 exact⟨b4 (fs:=[fA,fK,fN]) (fr_w "later" (by decide +kernel)) (by decide +kernel) (fr_name ho) fk' (fr_name hn) (by omega) ⟨1,_,_,rfl,rfl,nk⟩,
  b4 (fs:=[fA,fK,fN]) (fr_w "small" (by decide +kernel)) (by decide +kernel) (fr_name ho) fk' (fr_name hn) (by omega) ⟨1,_,_,rfl,rfl,nk⟩⟩
theorem six_bad {o z:Str}(ho:nameB o=true)(hz:BadN z):∀y∈[J [w_ "later",o,w_ "1",z],J [w_ "small",o,w_ "1",z],J [w_ "peel",o,z],J [w_ "later",o,w_ "61",z],J [w_ "small",o,w_ "0",z],J [w_ "alike",o,z]],BadZ y:=fun y hy=>by
 have fo:=fr_name ho
 have fz:=fr_bad hz
 have nA:=not_A hz.no
 have nN:=not_N hz.no
 simp only[mem_cons,not_mem_nil,or_false]at hy
 rcases hy with rfl | rfl | rfl | rfl | rfl | rfl
 ·exact b4 (fs:=[fA,fK,fN]) (fr_w "later" (by decide +kernel)) (by decide +kernel) fo (fr_w "1" (by decide +kernel)) fz (by omega) ⟨2,_,_,rfl,rfl,nN⟩
 ·exact b4 (fs:=[fA,fK,fN]) (fr_w "small" (by decide +kernel)) (by decide +kernel) fo (fr_w "1" (by decide +kernel)) fz (by omega) ⟨2,_,_,rfl,rfl,nN⟩
 ·exact b3 (fs:=[fA,fN]) (fr_w "peel" (by decide +kernel)) (by decide +kernel) fo fz (by omega) ⟨1,_,_,rfl,rfl,nN⟩
 ·exact b4 (fs:=[fA,fK,fN]) (fr_w "later" (by decide +kernel)) (by decide +kernel) fo (fr_w "61" (by decide +kernel)) fz (by omega) ⟨2,_,_,rfl,rfl,nN⟩
 ·exact b4 (fs:=[fA,fK,fN]) (fr_w "small" (by decide +kernel)) (by decide +kernel) fo (fr_w "0" (by decide +kernel)) fz (by omega) ⟨2,_,_,rfl,rfl,nN⟩
 ·exact b3 (fs:=[fA,fA]) (fr_w "alike" (by decide +kernel)) (by decide +kernel) fo fz (by omega) ⟨1,_,_,rfl,rfl,nA⟩
theorem row_bad {z n t:Str}{row:List Int}(hz:BadN z)(hn:nameB n=true)(wd:Wd row)(ht:BadT t):BadZ (J [w_ "row",z,rowTxt row])/\BadZ (J [w_ "row",n,t]):=
 ⟨b3 (fs:=[fN,fT]) (fr_w "row" (by decide +kernel)) (by decide +kernel) (fr_bad hz) (fr_text wd) (by omega) ⟨0,_,_,rfl,rfl,not_N hz.no⟩,
  b3 (fs:=[fN,fT]) (fr_w "row" (by decide +kernel)) (by decide +kernel) (fr_name hn) (fr_noT ht) (by omega) ⟨1,_,_,rfl,rfl,not_T ht.no⟩⟩
theorem kept_bad {n:Str}(hn:nameB n=true):∀y∈[w_ "kept ",w_ " kept",J [w_ "kept",n],w_ "kept\n",w_ "\nkept",w_ "kept\t"],BadZ y:=fun y hy=>by
 simp only[mem_cons,not_mem_nil,or_false]at hy
 rcases hy with rfl | rfl | rfl | rfl | rfl | rfl
 ·exact⟨bad_of (by decide +kernel),by decide +kernel⟩
 ·exact⟨bad_of (by decide +kernel),by decide +kernel⟩
 ·exact bz ((fk (fr_w "kept" (by decide +kernel)) (fk (fr_name hn) fk_nil)).w (by omega)) (bad_n (fs:=[]) (by decide +kernel) (by simp))
 ·exact⟨bad_of (by decide +kernel),by decide +kernel⟩
 ·exact⟨bad_of (by decide +kernel),by decide +kernel⟩
 ·exact⟨bad_of (by decide +kernel),by decide +kernel⟩
end K96
namespace K96
open L2
def BadL (H:Hp)(l:Addr)(k:Nat):Prop:=∃zs:List Str,H l=some (.lst (zs.map V.str))/\(∀z∈zs,BadZ z)/\zs.length<=k
def spBad:Sp:=fun vs H Q _=>∃(a:Addr) (x:Int) (b:Bool) (n z o:Str) (row:List Int),vs=[.ref a,.str n,.str z,.str o,.str (rowTxt row)]/\StAt H a x b/\nameB n=true/\BadN z/\nameB o=true/\Wd row/\
 ∀(l:Addr) (H':Hp) (x':Int),Keep a H H'->StAt H' a x' b->BadL H' l 200->Q (.ref l) H'
theorem J4' {x y n k m:Str}(h:y=x++BLK):y++n++BLK++k++BLK++m=J [x,n,k,m]:=by
 rw[h,J_cons,J_cons,J_cons]
 simp only[app_assoc]
 rfl
theorem BadL.same {H H':Hp}{l:Addr}{k:Nat}(b:BadL H l k)(s:Same H H'):BadL H' l k:=let⟨zs,e,h⟩:=b;⟨zs,s _ _ e,h⟩
theorem BadL.mono {H:Hp}{l:Addr}{k m:Nat}(b:BadL H l k)(h:k<=m):BadL H l m:=let⟨zs,e,h1,h2⟩:=b;⟨zs,e,h1,le_trans h2 h⟩
theorem cat_bad {H:Hp}{l p:Addr}{k:Nat}{ys:List Str}{Q:VK}(b:BadL H l k)(hk:k<=190)(hp:H p=some (.lst (ys.map V.str)))(hy:∀y∈ys,BadZ y)(ly:ys.length<=10)(q:∀(p':Addr) (H':Hp),Same H H'->H p'=none->BadL H' p' (k+ys.length)->Q (.ref p') H'):rCat (.ref l) (.ref p) H Q:=by
 obtain⟨zs,e,hz,hl⟩:=b
 refine⟨l,p,_,_,rfl,rfl,e,hp,by rw[length_map,length_map,sizeLine_eq];omega,fun p' h'=>q p' _ (same_new h' _) h' ⟨zs++ys,by rw[upd_same,map_append],fun y hm=>?_,by rw[length_append];omega⟩⟩
 exact(mem_append.mp hm).elim (hz y) (hy y)
theorem app_bad {H:Hp}{l:Addr}{k:Nat}{y:Str}{Q:VK}(b:BadL H l k)(hk:k<=190)(hy:BadZ y)(q:∀H',But l H H'->BadL H' l (k+1)->Q .non H'):rAppend (.ref l) [.str y] H Q:=by
 obtain⟨zs,e,hz,hl⟩:=b
 refine⟨l,_,_,rfl,rfl,e,by rw[length_map,sizeLine_eq];omega,q _ (fun c o n h=>by rw[upd_ne n];exact h) ⟨zs++[y],by rw[upd_same,map_append];rfl,fun u hu=>?_,by rw[length_append,length_singleton];omega⟩⟩
 rcases mem_append.mp hu with h | h
 ·exact hz u h
 ·rw[mem_singleton.mp h];exact hy
theorem none_back {H H':Hp}{d:Addr}(s:Same H H')(h:H' d=none):H d=none:=by
 cases e:H d with
 |none=>rfl
 |some o=>rw[s _ _ e]at h;cases h
section
variable {P:Program}{w:World}{K:W.Frag}{mg:Str->Option Value}{base:Heap}
theorem ok_L_bad_lines {f:Addr}{fd:FuncData}(F:Fun K "_law_bad_lines" "_law_bad_lines" s_L_bad_lines f fd)(nb:Nb4 mg)(h_L_no_text:Has P w K mg base 2 "_law_no_text" ["_law_state_here","_law_text"] spNt)(h_L_named:Has P w K mg base 1 "_law_named" ["_law_name_here","_law_other"] spNd)(h_L_blanks:Has P w K mg base 1 "_law_blanks" ["_law_line"] spBk)  :
 FnOk P w K mg base CX0 3 f fd ["_law_state_here","_law_name_here","_law_bad","_law_lost","_law_text"] spBad:=by
 have nd:=sc_L_bad_lines.nd
 refine F.ok (k:=2) sc_L_bad_lines (fun vs H Q E h=>?_) (fun cdv A outer s H vs Q E hr h=>?_)
 ·obtain⟨a,x,b,n,z,o,row,rfl,_⟩:=h
  rfl
 obtain⟨a,x,b,n,z,o,row,rfl,hS,hn,hz,ho,wd,q⟩:=h
 refine⟨_,(@pss_cons _ _ _ _ _ (@ps_set _ _ (5) _ _ _ _ nd rfl (Or.inl rfl) (@pe_op _ _ _ _ _ _ _ _ op_cat (@pe_lst _ _ _ _ (@pa_cons _ _ _ _ _ (@pe_op _ _ _ _ _ _ _ _ op_add_str (@pe_op _ _ _ _ _ _ _ _ op_add_str (@pe_op _ _ _ _ _ _ _ _ op_add_str pe_str (pv 2)) pe_str) (pv 4)) (@pa_cons _ _ _ _ _ (@pe_op _ _ _ _ _ _ _ _ op_add_str (@pe_op _ _ _ _ _ _ _ _ op_add_str (@pe_op _ _ _ _ _ _ _ _ op_add_str pe_str (pv 1)) pe_str) (pe_def h_L_no_text hr (@pa_cons _ _ _ _ _ (pv 0) (@pa_cons _ _ _ _ _ (pv 4) pa_nil rfl) rfl))) pa_nil rfl) rfl)) (pe_def h_L_named hr (@pa_cons _ _ _ _ _ (pv 2) (@pa_cons _ _ _ _ _ (pv 1) pa_nil rfl) rfl))) rfl (by first | exact .inl rfl | exact .inr rfl)) (@pss_cons _ _ _ _ _ (@ps_for _ _ _ _ _ _ _ _ PassesOwn.never rfl (@pi_list _ _ _ _ (@pe_lst _ _ _ _ (@pa_cons _ _ _ _ _ (pv 1) (@pa_cons _ _ _ _ _ (pv 3) pa_nil rfl) rfl))) (pg_name (i:=6) nd rfl (Or.inl rfl)) (@pss_cons _ _ _ _ _ (@ps_set _ _ (5) _ _ _ _ nd rfl (Or.inl rfl) (@pe_op _ _ _ _ _ _ _ _ op_cat (pv 5) (@pe_lst _ _ _ _ (@pa_cons _ _ _ _ _ (@pe_op _ _ _ _ _ _ _ _ op_add_str (@pe_op _ _ _ _ _ _ _ _ op_add_str (@pe_op _ _ _ _ _ _ _ _ op_add_str pe_str (pv 6)) pe_str) (pv 2)) (@pa_cons _ _ _ _ _ (@pe_op _ _ _ _ _ _ _ _ op_add_str (@pe_op _ _ _ _ _ _ _ _ op_add_str (@pe_op _ _ _ _ _ _ _ _ op_add_str pe_str (pv 6)) pe_str) (pv 2)) (@pa_cons _ _ _ _ _ (@pe_op _ _ _ _ _ _ _ _ op_add_str (@pe_op _ _ _ _ _ _ _ _ op_add_str (@pe_op _ _ _ _ _ _ _ _ op_add_str pe_str (pv 6)) pe_str) (pv 2)) pa_nil rfl) rfl) rfl))) rfl (by first | exact .inl rfl | exact .inr rfl)) (@pss_cons _ _ _ _ _ (@ps_set _ _ (5) _ _ _ _ nd rfl (Or.inl rfl) (@pe_op _ _ _ _ _ _ _ _ op_cat (pv 5) (@pe_lst _ _ _ _ (@pa_cons _ _ _ _ _ (@pe_op _ _ _ _ _ _ _ _ op_add_str (@pe_op _ _ _ _ _ _ _ _ op_add_str (@pe_op _ _ _ _ _ _ _ _ op_add_str pe_str (pv 6)) pe_str) (pv 2)) (@pa_cons _ _ _ _ _ (@pe_op _ _ _ _ _ _ _ _ op_add_str (@pe_op _ _ _ _ _ _ _ _ op_add_str (@pe_op _ _ _ _ _ _ _ _ op_add_str pe_str (pv 6)) pe_str) (pv 2)) (@pa_cons _ _ _ _ _ (@pe_op _ _ _ _ _ _ _ _ op_add_str (@pe_op _ _ _ _ _ _ _ _ op_add_str (@pe_op _ _ _ _ _ _ _ _ op_add_str pe_str (pv 6)) pe_str) (pv 2)) pa_nil rfl) rfl) rfl))) rfl (by first | exact .inl rfl | exact .inr rfl)) (@pss_one _ _ _ (@ps_for _ _ _ _ _ _ _ _ PassesOwn.never rfl (@pi_list _ _ _ _ (@pe_lst _ _ _ _ (@pa_cons _ _ _ _ _ pe_str (@pa_cons _ _ _ _ _ pe_str (@pa_cons _ _ _ _ _ pe_str (@pa_cons _ _ _ _ _ pe_str (@pa_cons _ _ _ _ _ pe_str (@pa_cons _ _ _ _ _ pe_str (@pa_cons _ _ _ _ _ (@pe_op _ _ _ _ _ _ _ _ op_add_str pe_str (@pe_op _ _ _ _ _ _ _ _ op_repS pe_str pe_int)) (@pa_cons _ _ _ _ _ (@pe_op _ _ _ _ _ _ _ _ op_add_str pe_str (@pe_op _ _ _ _ _ _ _ _ op_repS pe_str pe_int)) pa_nil rfl) rfl) rfl) rfl) rfl) rfl) rfl) rfl))) (pg_name (i:=7) nd rfl (Or.inl rfl)) (@pss_cons _ _ _ _ _ (@ps_expr _ _ _ _ (pe_bm plainAttrs_list PySem.F.slot_list_append PySem.F.type_list_append mt_append (pv 5) (@pa_cons _ _ _ _ _ (@pe_op _ _ _ _ _ _ _ _ op_add_str (@pe_op _ _ _ _ _ _ _ _ op_add_str (@pe_op _ _ _ _ _ _ _ _ op_add_str (@pe_op _ _ _ _ _ _ _ _ op_add_str (@pe_op _ _ _ _ _ _ _ _ op_add_str pe_str (pv 6)) pe_str) (pv 7)) pe_str) (pv 1)) pa_nil rfl)) rfl) (@pss_one _ _ _ (@ps_expr _ _ _ _ (pe_bm plainAttrs_list PySem.F.slot_list_append PySem.F.type_list_append mt_append (pv 5) (@pa_cons _ _ _ _ _ (@pe_op _ _ _ _ _ _ _ _ op_add_str (@pe_op _ _ _ _ _ _ _ _ op_add_str (@pe_op _ _ _ _ _ _ _ _ op_add_str (@pe_op _ _ _ _ _ _ _ _ op_add_str (@pe_op _ _ _ _ _ _ _ _ op_add_str pe_str (pv 6)) pe_str) (pv 7)) pe_str) (pv 1)) pa_nil rfl)) rfl))) (by intro _;rfl))))) (by intro _;rfl)) (@pss_cons _ _ _ _ _ (@ps_for _ _ _ _ _ _ _ _ PassesOwn.never rfl (@pi_list _ _ _ _ (@pe_op _ _ _ _ _ _ _ _ op_cat (pe_def h_L_named hr (@pa_cons _ _ _ _ _ (pv 1) (@pa_cons _ _ _ _ _ (pv 1) pa_nil rfl) rfl)) (@pe_lst _ _ _ _ (@pa_cons _ _ _ _ _ (@pe_op _ _ _ _ _ _ _ _ op_add_str (@pe_op _ _ _ _ _ _ _ _ op_add_str (@pe_op _ _ _ _ _ _ _ _ op_add_str pe_str (pv 1)) pe_str) (pv 4)) pa_nil rfl)))) (pg_name (i:=8) nd rfl (Or.inl rfl)) (@pss_one _ _ _ (@ps_set _ _ (5) _ _ _ _ nd rfl (Or.inl rfl) (@pe_op _ _ _ _ _ _ _ _ op_cat (@pe_op _ _ _ _ _ _ _ _ op_cat (pv 5) (pe_def h_L_blanks hr (@pa_cons _ _ _ _ _ (pv 8) pa_nil rfl))) (@pe_lst _ _ _ _ (@pa_cons _ _ _ _ _ (@pe_op _ _ _ _ _ _ _ _ op_add_str (@pe_op _ _ _ _ _ _ _ _ op_add_str (pv 8) pe_str) (pv 1)) pa_nil rfl))) rfl (by first | exact .inl rfl | exact .inr rfl))) (by intro _;rfl)) (@pss_one _ _ _ (@ps_ret _ _ _ _ (@pe_op _ _ _ _ _ _ _ _ op_cat (pv 5) (@pe_lst _ _ _ _ (@pa_cons _ _ _ _ _ pe_str (@pa_cons _ _ _ _ _ pe_str (@pa_cons _ _ _ _ _ (@pe_op _ _ _ _ _ _ _ _ op_add_str pe_str (pv 1)) (@pa_cons _ _ _ _ _ pe_str (@pa_cons _ _ _ _ _ pe_str (@pa_cons _ _ _ _ _ pe_str pa_nil rfl) rfl) rfl) rfl) rfl) rfl)))))))),?_⟩
 have lc10:(oS "1").length=1:=by decide +kernel
 have lc11:(oS "-1").length=2:=by decide +kernel
 have lC:(oS "row ").length=4/\(oS " ").length=1/\(oS "later ").length=6/\(oS " 1 ").length=3/\(oS "small ").length=6/\(oS "peel ").length=5/\(oS " 61 ").length=4/\(oS " 0 ").length=3/\(oS "alike ").length=6/\(oS "1").length=1/\(oS "-1").length=2/\(oS "kept ").length=5:=by decide +kernel
 have fit:∀{a b:Str},a.length+b.length<=3000->a.length+b.length<=sizeLine:=fun{a b} h=>by rw[sizeLine_eq];omega
 have tl:=txt_short wd
 have nl:=(fr_name hn).2
 have zl:=(fr_bad hz).2
 have ol:=(fr_name ho).2
 refine⟨_,rfl,_,_,rfl,rfl,fit (by simp only[Str.length_append,lC];omega),_,_,rfl,rfl,fit (by simp only[Str.length_append,lC];omega),_,rfl,_,_,rfl,rfl,fit (by simp only[Str.length_append,lC];omega),_,rfl,_,_,rfl,rfl,fit (by simp only[Str.length_append,lC];omega),_,_,rfl,rfl,fit (by simp only[Str.length_append,lC];omega),_,rfl,_,rfl,a,x,b,row,rfl,hS,wd,fun t H1 x1 k1 st1 bt=>?_⟩
 have ll:=bt.len
 refine⟨_,_,rfl,rfl,fit (by simp only[Str.length_append,lC];omega),(by show 2<=sizeLine;decide),fun p1 h1=>?_⟩
 have e1:(oS "row "++z++oS " "++rowTxt row)=J [w_ "row",z,rowTxt row]:=J3 (by decide +kernel)
 have e2:(oS "row "++n++oS " "++t)=J [w_ "row",n,t]:=J3 (by decide +kernel)
 rw[e1,e2]
 have s1:=same_new h1 (.lst [.str (J [w_ "row",z,rowTxt row]),.str (J [w_ "row",n,t])])
 have f1:(upd H1 p1 (.lst [.str (J [w_ "row",z,rowTxt row]),.str (J [w_ "row",n,t])])) p1=_:=upd_same
 generalize upd H1 p1 (.lst [.str (J [w_ "row",z,rowTxt row]),.str (J [w_ "row",n,t])])=H2 at s1 f1 ⊢
 refine⟨_,rfl,_,rfl,z,n,rfl,zl,nl,fun p2 H3 s2 f2=>?_⟩
 refine⟨p1,p2,_,_,rfl,rfl,s2 _ _ f1,f2,(by rw[length_map,length_map];show 2+9<=sizeLine;decide),fun p3 h3=>?_⟩
 obtain⟨rb1,rb2⟩:=row_bad hz hn wd bt
 have bl3:BadL (upd H3 p3 (.lst ([.str (J [w_ "row",z,rowTxt row]),.str (J [w_ "row",n,t])]++((namedW z n).map J).map V.str))) p3 11:=by
  refine⟨[J [w_ "row",z,rowTxt row],J [w_ "row",n,t]]++(namedW z n).map J,by rw[upd_same,map_append];rfl,fun y hy=>?_,by rw[length_append,length_map];show 2+9<=11;omega⟩
  rcases mem_append.mp hy with hy | hy
  ·simp only[mem_cons,not_mem_nil,or_false]at hy
   rcases hy with rfl | rfl
   ·exact rb1
   ·exact rb2
  ·exact named_bad hz hn y hy
 have s3:=s1.trans (s2.trans (same_new h3 (.lst ([.str (J [w_ "row",z,rowTxt row]),.str (J [w_ "row",n,t])]++((namedW z n).map J).map V.str))))
 generalize upd H3 p3 (.lst ([.str (J [w_ "row",z,rowTxt row]),.str (J [w_ "row",n,t])]++((namedW z n).map J).map V.str))=H4 at s3 bl3 ⊢
 have k4:=k1.same s3
 have st4:=st1.same s3
 -- of one that is kept,of one that is not
 refine⟨_,rfl,_,rfl,(by show 2<=sizeLine;decide),fun pl hpl=>?_⟩
 have sl:=same_new hpl (.lst [.str n,.str o])
 have fl:(upd H4 pl (.lst [.str n,.str o])) pl=_:=upd_same
 have bl5:=bl3.same sl
 have k5:=k4.same sl
 have st5:=st4.same sl
 generalize upd H4 pl (.lst [.str n,.str o])=H5 at fl bl5 k5 st5 ⊢
 refine⟨pl,rfl,⟨_,SqL.of fl⟩,?_⟩
 refine for_list (xs:=[.str n,.str o]) (fun i σ H'=>∃(l:Addr) (o6 o7 o8:Option V),σ=[some (.ref a),some (.str n),some (.str z),some (.str o),some (.str (rowTxt row)),some (.ref l),o6,o7,o8]/\Same H5 H'/\BadL H' l (11+22*i)) ⟨p3,_,_,_,rfl,Same.refl _,bl5⟩ (fun i σ H' hi hp=>?_) (fun i y σ H' hyi hp=>?_) (fun σ H' hp=>?_)
 ·obtain⟨l,o6,o7,o8,rfl,sm,bl⟩:=hp
  exact SqL.of (sm _ _ fl)
 ·obtain⟨l,o6,o7,o8,rfl,sm,bl⟩:=hp
  have i2:i<2:=(List.getElem?_eq_some_iff.mp hyi).1
  obtain⟨m,rfl,hm⟩:∃m:Str,y=.str m/\nameB m=true:=by
   match i,i2,hyi with
   |0,_,e=>cases e;exact⟨n,rfl,hn⟩
   |1,_,e=>cases e;exact⟨o,rfl,ho⟩
  have ml:=(fr_name hm).2
  -- three,and three
  refine⟨_,rfl,_,rfl,_,_,rfl,rfl,fit (by simp only[Str.length_append,lC];omega),_,_,rfl,rfl,fit (by simp only[Str.length_append,lC];omega),_,rfl,_,_,rfl,rfl,fit (by simp only[Str.length_append,lC];omega),_,rfl,_,_,rfl,rfl,fit (by simp only[Str.length_append,lC];omega),_,_,rfl,rfl,fit (by simp only[Str.length_append,lC];omega),_,rfl,_,_,rfl,rfl,fit (by simp only[Str.length_append,lC];omega),_,rfl,_,_,rfl,rfl,fit (by simp only[Str.length_append,lC];omega),_,_,rfl,rfl,fit (by simp only[Str.length_append,lC];omega),_,rfl,_,_,rfl,rfl,fit (by simp only[Str.length_append,lC];omega),(by show 3<=sizeLine;decide),fun p6 h6=>?_⟩
  rw[show(oS "later "++m++oS " 1 "++z)=J [w_ "later",m,w_ "1",z] from J4 (by decide +kernel) (by decide +kernel),show(oS "small "++m++oS " 1 "++z)=J [w_ "small",m,w_ "1",z] from J4 (by decide +kernel) (by decide +kernel),show(oS "peel "++m++oS " "++z)=J [w_ "peel",m,z] from J3 (by decide +kernel)]
  have six:=six_bad hm hz
  have s6:=same_new h6 (.lst [.str (J [w_ "later",m,w_ "1",z]),.str (J [w_ "small",m,w_ "1",z]),.str (J [w_ "peel",m,z])])
  refine cat_bad (ys:=[J [w_ "later",m,w_ "1",z],J [w_ "small",m,w_ "1",z],J [w_ "peel",m,z]]) (bl.same s6) (by omega) upd_same (fun y hy=>six y (mem_append_left [J [w_ "later",m,w_ "61",z],J [w_ "small",m,w_ "0",z],J [w_ "alike",m,z]] hy)) (by show 3<=10;omega) fun l7 H7 s7 n7 b7=>?_
  have sm7:=sm.trans (s6.trans s7)
  refine⟨_,rfl,_,rfl,_,_,rfl,rfl,fit (by simp only[Str.length_append,lC];omega),_,_,rfl,rfl,fit (by simp only[Str.length_append,lC];omega),_,rfl,_,_,rfl,rfl,fit (by simp only[Str.length_append,lC];omega),_,rfl,_,_,rfl,rfl,fit (by simp only[Str.length_append,lC];omega),_,_,rfl,rfl,fit (by simp only[Str.length_append,lC];omega),_,rfl,_,_,rfl,rfl,fit (by simp only[Str.length_append,lC];omega),_,rfl,_,_,rfl,rfl,fit (by simp only[Str.length_append,lC];omega),_,_,rfl,rfl,fit (by simp only[Str.length_append,lC];omega),_,rfl,_,_,rfl,rfl,fit (by simp only[Str.length_append,lC];omega),(by show 3<=sizeLine;decide),fun p8 h8=>?_⟩
  rw[show(oS "later "++m++oS " 61 "++z)=J [w_ "later",m,w_ "61",z] from J4 (by decide +kernel) (by decide +kernel),show(oS "small "++m++oS " 0 "++z)=J [w_ "small",m,w_ "0",z] from J4 (by decide +kernel) (by decide +kernel),show(oS "alike "++m++oS " "++z)=J [w_ "alike",m,z] from J3 (by decide +kernel)]
  have s8:=same_new h8 (.lst [.str (J [w_ "later",m,w_ "61",z]),.str (J [w_ "small",m,w_ "0",z]),.str (J [w_ "alike",m,z])])
  refine cat_bad (ys:=[J [w_ "later",m,w_ "61",z],J [w_ "small",m,w_ "0",z],J [w_ "alike",m,z]]) (b7.same s8) (by show 11+22*i+3<=190;omega) upd_same (fun y hy=>six y (mem_append_right [J [w_ "later",m,w_ "1",z],J [w_ "small",m,w_ "1",z],J [w_ "peel",m,z]] hy)) (by show 3<=10;omega) fun l9 H9 s9 n9 b9=>?_
  have sm9:=sm7.trans (s8.trans s9)
  have new9:H5 l9=none:=none_back sm7 (none_back s8 n9)
  clear s6 s7 s8 s9 b7 bl
  -- words that are no numbers
  have l30:(manyT (oS "0") 30).length=30:=by decide +kernel
  refine⟨_,30,rfl,rfl,by decide,by decide,by decide +kernel,(by rw[sizeLine_eq];exact le_trans (show(manyT (oS "0") 30).length<=40 by decide +kernel) (by omega)),_,_,rfl,rfl,fit (by rw[lc10,l30];omega),_,30,rfl,rfl,by decide,by decide,by decide +kernel,(by rw[sizeLine_eq];exact le_trans (show(manyT (oS "0") 30).length<=40 by decide +kernel) (by omega)),_,_,rfl,rfl,fit (by rw[lc11,l30];omega),(by show 8<=sizeLine;decide),fun pw hpw=>?_⟩
  have sw:=same_new hpw (.lst (wordsB.map V.str))
  have fw:(upd H9 pw (.lst (wordsB.map V.str))) pw=_:=upd_same
  have b10:=b9.same sw
  have sm10:=sm9.trans sw
  have wl:pw≠l9:=fun e=>by
   obtain⟨zs,e1,_⟩:=b9
   rw[e,e1]at hpw
   cases hpw
  have sq0:∀H',But l9 (upd H9 pw (.lst (wordsB.map V.str))) H'->H' pw=some (.lst (wordsB.map V.str)):=fun H' bt=>bt _ _ wl fw
  refine⟨pw,rfl,⟨wordsB.map V.str,SqL.of fw⟩,?_⟩
  refine for_list (xs:=wordsB.map V.str) (fun j σ H'=>∃(o7 o8:Option V),σ=[some (.ref a),some (.str n),some (.str z),some (.str o),some (.str (rowTxt row)),some (.ref l9),some (.str m),o7,o8]/\But l9 (upd H9 pw (.lst (wordsB.map V.str))) H'/\BadL H' l9 (11+22*i+6+2*j)) ⟨_,_,rfl,But.refl _ _,b10⟩ (fun j σ H' hj hp=>?_) (fun j y σ H' hyj hp=>?_) (fun σ H' hp=>?_)
  ·obtain⟨o7,o8,rfl,bt,bl⟩:=hp
   exact SqL.of (sq0 _ bt)
  ·obtain⟨o7,o8,rfl,bt,bl⟩:=hp
   have j8:j<8:=by
    have:=(List.getElem?_eq_some_iff.mp hyj).1
    rw[length_map]at this
    exact this
   rw[getElem?_map]at hyj
   obtain⟨k,ek,rfl⟩:=map_eq_some_iff.mp hyj
   have hk:=mem_of_getElem? ek
   have kl:=(words_bad k hk).2.2
   obtain⟨nb1,nb2⟩:=num_bad hk hm hn
   obtain⟨zs,ez,_⟩:=id bl
   refine⟨_,rfl,.inl ⟨rfl,_,SqL.of ez⟩,_,rfl,_,_,rfl,rfl,fit (by simp only[Str.length_append,lC];omega),_,_,rfl,rfl,fit (by simp only[Str.length_append,lC];omega),_,rfl,_,_,rfl,rfl,fit (by simp only[Str.length_append,lC];omega),_,_,rfl,rfl,fit (by simp only[Str.length_append,lC];omega),_,rfl,_,_,rfl,rfl,fit (by simp only[Str.length_append,lC];omega),?_⟩
   rw[show(oS "later "++m++oS " "++k++oS " "++n)=J [w_ "later",m,k,n] from J4' (by decide +kernel)]
   dsimp only[tNil]
   refine app_bad bl (by omega) nb1 fun H11 bt11 bl11=>?_
   obtain⟨zs',ez',_⟩:=id bl11
   refine⟨_,rfl,.inl ⟨rfl,_,SqL.of ez'⟩,_,rfl,_,_,rfl,rfl,fit (by simp only[Str.length_append,lC];omega),_,_,rfl,rfl,fit (by simp only[Str.length_append,lC];omega),_,rfl,_,_,rfl,rfl,fit (by simp only[Str.length_append,lC];omega),_,_,rfl,rfl,fit (by simp only[Str.length_append,lC];omega),_,rfl,_,_,rfl,rfl,fit (by simp only[Str.length_append,lC];omega),?_⟩
   rw[show(oS "small "++m++oS " "++k++oS " "++n)=J [w_ "small",m,k,n] from J4' (by decide +kernel)]
   dsimp only[tNil]
   refine app_bad bl11 (by omega) nb2 fun H12 bt12 bl12=>?_
   exact⟨_,_,rfl,bt.trans (bt11.trans bt12),bl12.mono (by omega)⟩
  ·obtain⟨o7,o8,rfl,bt,bl⟩:=hp
   exact⟨l9,_,_,_,rfl,fun c u e=>bt c u (ne_of_none e new9) (sm10 c u e),bl.mono (by show 11+22*i+6+2*8<=_;omega)⟩
 obtain⟨l,o6,o7,o8,rfl,sm,bl⟩:=hp
 have k6:=k5.same sm
 have st6:=st5.same sm
 clear sm fl bl5 k5 st5
 -- lines with blanks too much
 refine⟨_,rfl,_,rfl,n,n,rfl,nl,nl,fun pn H7 s7 f7=>?_⟩
 refine⟨_,rfl,_,_,rfl,rfl,fit (by simp only[Str.length_append,lC];omega),_,_,rfl,rfl,fit (by simp only[Str.length_append,lC];omega),_,rfl,_,_,rfl,rfl,fit (by simp only[Str.length_append,lC];omega),(by show 1<=sizeLine;decide),fun p8 h8=>?_⟩
 rw[show(oS "row "++n++oS " "++rowTxt row)=J [w_ "row",n,rowTxt row] from J3 (by decide +kernel)]
 have s8:=same_new h8 (.lst [.str (J [w_ "row",n,rowTxt row])])
 refine⟨pn,p8,_,_,rfl,rfl,s8 _ _ f7,upd_same,(by rw[length_map,length_map];show 9+1<=sizeLine;decide),fun p9 h9=>?_⟩
 have eW:(((namedW n n).map J).map V.str)++[V.str (J [w_ "row",n,rowTxt row])]=((namedW n n++[[w_ "row",n,rowTxt row]]).map J).map V.str:=by rw[map_append,map_append];rfl
 have shp:∀ws∈namedW n n++[[w_ "row",n,rowTxt row]],Shp ws:=fun ws hw=>by
  rcases mem_append.mp hw with h | h
  ·exact named_shp hn hn ws h
  ·rw[mem_singleton.mp h];exact row_shp hn wd
 have lW:(namedW n n++[[w_ "row",n,rowTxt row]]).length=10:=rfl
 rw[eW]
 generalize namedW n n++[[w_ "row",n,rowTxt row]]=WS at shp lW ⊢
 have s9:=s7.trans (s8.trans (same_new h9 (.lst ((WS.map J).map V.str))))
 have fp:(upd (upd H7 p8 (.lst [.str (J [w_ "row",n,rowTxt row])])) p9 (.lst ((WS.map J).map V.str))) p9=_:=upd_same
 have b9:=bl.same s9
 have k9:=k6.same s9
 have st9:=st6.same s9
 generalize upd (upd H7 p8 (.lst [.str (J [w_ "row",n,rowTxt row])])) p9 (.lst ((WS.map J).map V.str))=H9 at fp b9 k9 st9 ⊢
 refine⟨p9,rfl,⟨_,SqL.of fp⟩,?_⟩
 refine for_list (xs:=(WS.map J).map V.str) (fun i σ H'=>∃(l:Addr) (o6 o7 o8:Option V),σ=[some (.ref a),some (.str n),some (.str z),some (.str o),some (.str (rowTxt row)),some (.ref l),o6,o7,o8]/\Same H9 H'/\BadL H' l (55+8*i)) ⟨l,_,_,_,rfl,Same.refl _,b9⟩ (fun i σ H' hi hp=>?_) (fun i y σ H' hyi hp=>?_) (fun σ H' hp=>?_)
 ·obtain⟨l,o6,o7,o8,rfl,sm,bl⟩:=hp
  exact SqL.of (sm _ _ fp)
 ·obtain⟨l,o6,o7,o8,rfl,sm,bl⟩:=hp
  have i10:i<10:=by
   have:=(List.getElem?_eq_some_iff.mp hyi).1
   rw[length_map,length_map,lW]at this
   exact this
  rw[getElem?_map,getElem?_map]at hyi
  obtain⟨u,eu,rfl⟩:=map_eq_some_iff.mp hyi
  obtain⟨ws,ew,rfl⟩:=map_eq_some_iff.mp eu
  have sh:=shp ws (mem_of_getElem? ew)
  have more:=sh.more hn
  obtain⟨w0,v,r,fs,m,rfl,fr,hm,fo,le,lf⟩:=sh
  have fw:=fr.w (by omega)
  have jl:=fw.len
  refine⟨_,rfl,_,rfl,w0,v,r,rfl,fr.nb w0 (by simp),jl,fun pb Hb sb fb=>?_⟩
  refine cat_bad (ys:=(blanksW w0 v r).map J) (bl.same sb) (by omega) fb (fun y hy=>?_) (by rw[length_map];show 7<=10;omega) fun l2 H2 s2 n2 b2=>?_
  ·obtain⟨ws,hw,rfl⟩:=mem_map.mp hy
   obtain⟨f1,f2⟩:=blanks_bad fr hm fo le lf ws hw
   exact bz f1 f2
  refine⟨_,rfl,_,_,rfl,rfl,fit (by simp only[Str.length_append,lC];omega),_,rfl,_,_,rfl,rfl,fit (by simp only[Str.length_append,lC];omega),(by show 1<=sizeLine;decide),fun pc hc=>?_⟩
  rw[show(J (w0::v::r)++oS " "++n)=J ((w0::v::r)++[n]) from J_end (by simp) n]
  have s3:=same_new hc (.lst [.str (J ((w0::v::r)++[n]))])
  refine cat_bad (ys:=[J ((w0::v::r)++[n])]) (b2.same s3) (by rw[length_map];show 55+8*i+7<=190;omega) upd_same (fun y hy=>by rw[mem_singleton.mp hy];exact more) (by show 1<=10;omega) fun l4 H4 s4 n4 b4=>?_
  exact⟨l4,_,_,_,rfl,sm.trans (sb.trans (s2.trans (s3.trans s4))),b4.mono (by rw[length_map];show 55+8*i+7+1<=_;omega)⟩
 obtain⟨l,o6,o7,o8,rfl,sm,bl⟩:=hp
 rw[length_map,length_map,lW]at bl
 refine⟨_,rfl,_,rfl,_,_,rfl,rfl,fit (by simp only[Str.length_append,lC];omega),(by show 6<=sizeLine;decide),fun pe he=>?_⟩
 rw[show(oS "kept "++n)=J [w_ "kept",n] from J2 (by decide +kernel)]
 have se:=same_new he (.lst ([w_ "kept ",w_ " kept",J [w_ "kept",n],w_ "kept\n",w_ "\nkept",w_ "kept\t"].map V.str))
 refine cat_bad (ys:=[w_ "kept ",w_ " kept",J [w_ "kept",n],w_ "kept\n",w_ "\nkept",w_ "kept\t"]) (bl.same se) (by omega) upd_same (kept_bad hn) (by show 6<=10;omega) fun lf Hf sf nf bf=>?_
 have Sf:=sm.trans (se.trans sf)
 exact q lf Hf _ (k9.same Sf) (st9.same Sf) (bf.mono (by show 55+8*10+6<=200;omega))
end
end K96
namespace L2
theorem law_callTs {P:Program}{w:World}{K:W.Frag}{mg mb:Str->Option Value}{k:Nat}{fa a:Addr}{Ts:List Addr}{fd:FuncData}{x:Str}{sp:Sp}{s₁:Shared}{vs:List Value}{ns:List Int}{R:Result->Shared->Prop}(KX:K.In s₁.heap)(hns:s₁.heap.Ns mainGlobals mg)(hb:s₁.heap.Ns builtinsNs mb)(hbb:∀x:Str,x≠"__name__"->mb x=bootBuiltins x)(hlim:s₁.heap.NoLimit)(hg:s₁.gens=#[])(B:BltAt mg s₁.heap)(hKT:∀T∈Ts,K.lookup T=none)(hT:∀T∈Ts,s₁.heap.get? T=some (tabObj #[]))(C:∀T∈Ts,∃c,codeHdIn K c T=true)(ha:s₁.heap.get? a=some {cls:=.type "list",data:=.seq vs.toArray})(hi:IntsAre vs ns)(hl:ns.length<=sizeLine)(hr:Room k callerA)(F:∀base:Heap,K.In base->base.Ns mainGlobals mg->BltAt mg base->FnOk P w K mg base CX0 k fa fd [x] sp)(hbind:BindsTo s₁ fd ⟨[.ref a],[]⟩ [(x,.ref a)])(hsp:∀H:Hp,(∀T∈Ts,H T=some (.tbl #[]))->SqL K H a (ns.map V.int)->sp [.ref a] H (fun v _=>v=.bl true) E0)(hR:∀s',OldK s₁.heap s'.heap->s'.os=s₁.os->AllBare s'.gens->R (.ok (.ret (.bool true))) s'):codeAny (model P w) callerA (.call (.ref fa) ⟨[.ref a],[]⟩) R s₁:=by
 have aT:a∉Ts:=fun z=>by rw[hT a z]at ha;cases ha
 obtain⟨S,H,hS,tT,sq,hok,only⟩:∃(S:List Addr) (H:Hp),(∀b,H b=none↔b∉S)/\(∀T∈Ts,H T=some (.tbl #[]))/\SqL K H a (ns.map V.int)/\HOk P w H s₁.heap/\∀b∈S,K.lookup b=none/\(b∈Ts\/b=a/\∃o u,H a=some (.frz o u)):=by
  have okT:∀T∈Ts,∀H,ObjOk P w H s₁.heap T (.tbl #[]):=fun T h _=>hT T h
  cases hk:K.lookup a with
  |some o=>
   have e:=KX a o hk
   rw[ha]at e
   cases e
   refine⟨Ts,fun b=>if b∈Ts then some (.tbl #[]) else none,fun b=>?_,fun T h=>if_pos h,.inr ⟨_,vs.toArray,_,hk,rfl,rfl,rfl,by rw[size_toArray,hi.length];exact hl,by simpa using vals_ints hi⟩,fun b u z=>?_,fun b hb=>⟨hKT b hb,.inl hb⟩⟩
   ·by_cases z:b∈Ts
    ·simp[z]
    ·simp[z]
   ·by_cases q:b∈Ts
    ·have z':(if b∈Ts then some (HO.tbl #[]) else none)=some u:=z
     rw[if_pos q]at z'
     cases z'
     exact okT b q _
    ·have z':(if b∈Ts then some (HO.tbl #[]) else none)=some u:=z
     rw[if_neg q]at z'
     cases z'
  |none=>
   obtain⟨H,hH⟩:∃H:Hp,H=fun b=>if b∈Ts then some (.tbl #[]) else if b=a then some (.frz {cls:=.type "list",data:=.seq vs.toArray} (.lst (ns.map V.int))) else none:=⟨_,rfl⟩
   have hHT:∀T∈Ts,H T=some (.tbl #[]):=fun T h=>by rw[hH];exact if_pos h
   have hHa:H a=some (.frz {cls:=.type "list",data:=.seq vs.toArray} (.lst (ns.map V.int))):=by rw[hH];exact(if_neg aT).trans (if_pos rfl)
   have hHn:∀b,b∉Ts->b≠a->H b=none:=fun b h1 h2=>by rw[hH];exact(if_neg h1).trans (if_neg h2)
   refine⟨a::Ts,H,fun b=>?_,hHT,.inl (.inr ⟨_,hHa⟩),fun b u z=>?_,fun b hb=>?_⟩
   ·by_cases z:b∈Ts
    ·rw[hHT b z];simp[z]
    ·by_cases z2:b=a
     ·subst z2;simp[hHa]
     ·rw[hHn b z z2];simp[z,z2]
   ·by_cases q:b∈Ts
    ·rw[hHT b q]at z;cases z;exact okT b q _
    ·by_cases q2:b=a
     ·subst q2
      rw[hHa]at z
      cases z
      exact⟨ha,by rw[length_map];exact hl,vs,_,vals_ints hi,ha⟩
     ·rw[hHn b q q2]at z;cases z
   ·rcases mem_cons.mp hb with rfl | hb
    ·exact⟨hk,.inr ⟨rfl,_,_,hHa⟩⟩
    ·exact⟨hKT b hb,.inl hb⟩
 have inB:∀{b:Addr} {o:Obj},s₁.heap.get? b=some o->(∀ps,o≠tabObj ps)->(∀its n,o.data≠.seq its n)->(lessOf S s₁.heap).get? b=some o:=fun{b o} e h1 h2=>by
  rw[less_out]
  ·exact e
  ·intro z
   rcases(only b z).2 with q | ⟨q,_⟩
   ·rw[hT b q]at e;exact h1 _ (Option.some.inj e).symm
   ·rw[q,ha]at e;cases e;exact h2 _ _ rfl
 have nsB:∀{b:Addr} {m:Str->Option Value},s₁.heap.Ns b m->(lessOf S s₁.heap).Ns b m:=fun{b m} ⟨o,es,ep,e,d,r⟩=>
  ⟨o,es,ep,inB e (fun ps z=>by rw[z]at d;cases d) (fun _ _ z=>by rw[d]at z;cases z),d,r⟩
 have kB:K.In (lessOf S s₁.heap):=fun b o e=>by
  rw[less_out]
  ·exact KX b o e
  ·intro z
   rw[(only b z).1]at e;cases e
 have bB:BltAt mg (lessOf S s₁.heap):=let⟨bm,o,b1,b2,b3,b4,b5,b6,b7⟩:=B
  ⟨bm,o,b1,b2,b3,inB b4 (fun ps z=>by rw[z]at b7;cases b7) (fun _ _ z=>by rw[b7]at z;cases z),b5,b6,b7⟩
 have e0:Env0 P w K mg (lessOf S s₁.heap) callerA [] s₁ H:=
  ⟨rfl,⟨kB,nsB hns,⟨mb,nsB hb,hbb⟩,let⟨mc,h1,h2⟩:=hlim;⟨mc,nsB h1,h2⟩⟩,fun b o e=>⟨(less_some e).2,(hS b).mpr (less_some e).1⟩,Nat.le_of_eq (less_size _ _),trivial,fun b z=>(nomatch z),hok,.of_eq hg⟩
 refine codeAny_mono ((F _ kB (nsB hns) bB).run callerA [] s₁ H ⟨[.ref a],[]⟩ [.ref a] [.ref a] _ _ hr e0 hbind (.cons rfl .nil) (hsp H tT sq)) fun r s' h=>?_
 cases r with
 |error e=>exact False.elim h
 |ok fl=>
  cases fl with
  |next=>exact False.elim h
  |brk=>exact False.elim h
  |cont=>exact False.elim h
  |ret u=>
   obtain⟨v,H',os,bare,un,hok',r',q⟩:=h
   obtain rfl:v=.bl true:=q
   obtain rfl:u=Value.bool true:=r'
   refine hR s' ⟨fun b o e=>?_,fun b o e=>un.there b o e (by simp)⟩ os bare
   by_cases z:b∈S
   ·rcases(only b z).2 with y | ⟨y,o2,u2,y2⟩
    ·rw[hT b y]at e
     cases e
     obtain⟨more,m1⟩:=un.tbls _ _ (tT b y)
     obtain⟨c,hc⟩:=C b y
     exact .inr (.inl ⟨((codeHd_of_K KX hc).tab (hT b y)).isCodeTable,rfl,#[],more,rfl,hok' _ _ m1⟩)
    ·subst y
     have e1:=(hok _ _ y2).1
     rw[e]at e1
     cases e1
     exact .inl (hok' _ _ (un.frzs _ _ _ y2)).1
   ·exact .inl (un.keep b o e ((hS b).mpr z) (fun y=>nomatch y) (by simp))
theorem walk_ofTs {l:PySem.W.OpenLaw}{n k:Nat}{q:Program}{loose:List Str}{XP:(Str->Option Value)->Heap->Prop}{YP:World->Heap->Prop}{d:DefRec}{K:Params->W.Frag}{sp:World->Sp}{x:Str}{Ts:List Addr}(hn:l.most=some n)(hn2:n<=sizeLine)(hdf:d.params.defaults=[])(hr:Room k callerA)(hY:∀(w:World) (h:Heap),YP w h->(K w.params).In h/\∀T∈Ts,h.get? T=some (tabObj #[]))(F:∀(w:World) (mg:Str->Option Value) (fa:Addr) (h:Heap),(K w.params).In h->h.Ns mainGlobals mg->mg d.name=some (.ref fa)->
  ∃(fd:FuncData),(∀(s:Shared) (u:Value),BindsTo s fd ⟨[u],[]⟩ [(x,u)])/\(∀T∈Ts,(K w.params).lookup T=none)/\(∀T∈Ts,∃c,codeHdIn (K w.params) c T=true)/\
   ∀base:Heap,(K w.params).In base->base.Ns mainGlobals mg->BltAt mg base->FnOk l.prog w (K w.params) mg base CX0 k fa fd [x] (sp w))(hsp:∀(w:World) (H:Hp) (a:Addr) (ns:List Int),ns.length<=n->(∀T∈Ts,H T=some (.tbl #[]))->SqL (K w.params) H a (ns.map V.int)->sp w [.ref a] H (fun v _=>v=.bl true) E0) :
 PySem.W.WalkO q loose XP YP l.row.toRowW d [] (fun f vs=>PySem.call f vs):=by
 refine Att.attach_call hn hdf fun w s₀ s₁ mg mb fa o pm cd doc a vs ns G Y ho hd hcd hmg hobj hints hlen hg=>?_
 obtain⟨KX,hT⟩:=hY w _ Y
 obtain⟨fd,hb,k1,k2,hF⟩:=F w mg fa _ KX G.T.g hmg
 obtain⟨bm,ob,b1,b2,b3,b4,b5,b6⟩:=G.T.bmain
 have b7:bm≠mainGlobals:=fun z=>by
  obtain⟨u,es,ep,e,hd,_⟩:=G.T.g
  rw[z,e]at b3
  cases b3
  rw[hd]at b6
  cases b6
 exact law_callTs KX G.T.g G.T.b G.T.builtins G.T.nolimit hg ⟨bm,ob,b1,b2,b7,b3,b4,b5,b6⟩ k1 hT k2 hobj hints (le_trans hlen hn2) hr hF (hb _ _) (fun H h1 h2=>hsp w H a ns hlen h1 h2) fun s' h1 h2 h3=>⟨rfl,h1,h2,h3⟩
end L2
namespace K96
open L2
theorem gA {n:Str}(h:nameB n=true):Good fA n:=good_A h
theorem gN {n:Str}(h:nameB n=true):Good fN n:=good_N h
theorem gK (v:Int)(h:v.natAbs<10^30):Good fK (numT v):=good_num h
section
variable {a b c x:Str}{fs:List Str}{ka kb kc m:Nat}
theorem ln {ws:List Str}(f:FreeK m (x::ws))(hm:m<=1000)(fo:formsOf x=some fs)(le:fs.length=ws.length)(g:∀(j:Nat) (f' y':Str),fs[j]?=some f'->ws[j]?=some y'->Good f' y'):Line (J (x::ws)) x ws fs:=
 ⟨(f.w hm).split (by simp),le_trans (f.w hm).len (by decide),fo,le,g⟩
end
def Lost (o:Str)(ws:List Str):Prop:=∃(x:Str) (rest fs:List Str) (j:Nat),Line (J ws) x rest fs/\x≠w_ "kept"/\fs[j]?=some fA/\rest[j]?=some o
def lostW (o n:Str):List (List Str):=namedW o n++[[w_ "later",o,w_ "61",w_ "n"],[w_ "small",o,w_ "0",w_ "n"]]
theorem lost_all {o n:Str}(ho:nameB o=true)(hn:nameB n=true):∀ws∈lostW o n,Lost o ws:=fun ws hw=>by
 have fo:=fr_name ho
 have fn:=fr_name hn
 have n1:w_ "1" = numT 1:=by decide +kernel
 have n61:w_ "61" = numT 61:=by decide +kernel
 have n0:w_ "0" = numT 0:=by decide +kernel
 have k1:Good fK (w_ "1"):=by rw[n1];exact gK 1 (by decide)
 have k61:Good fK (w_ "61"):=by rw[n61];exact gK 61 (by decide)
 have k0:Good fK (w_ "0"):=by rw[n0];exact gK 0 (by decide)
 have nn:nameB (w_ "n")=true:=by decide +kernel
 unfold lostW namedW at hw
 simp only[List.cons_append,nil_append,mem_cons,not_mem_nil,or_false]at hw
 rcases hw with rfl | rfl | rfl | rfl | rfl | rfl | rfl | rfl | rfl | rfl | rfl
 ·exact⟨_,_,[fA],0,ln (fk (fr_w "show" (by decide +kernel)) (fk fo fk_nil)) (by omega) (by decide +kernel) rfl (gd1 (gA ho)),by decide +kernel,rfl,rfl⟩
 ·exact⟨_,_,[fA,fK,fN],0,ln (fk (fr_w "later" (by decide +kernel)) (fk fo (fk (fr_w "1" (by decide +kernel)) (fk fn fk_nil)))) (by omega) (by decide +kernel) rfl (gdc (gA ho) (gdc k1 (gd1 (gN hn)))),by decide +kernel,rfl,rfl⟩
 ·exact⟨_,_,[fA,fK,fN],0,ln (fk (fr_w "small" (by decide +kernel)) (fk fo (fk (fr_w "1" (by decide +kernel)) (fk fn fk_nil)))) (by omega) (by decide +kernel) rfl (gdc (gA ho) (gdc k1 (gd1 (gN hn)))),by decide +kernel,rfl,rfl⟩
 ·exact⟨_,_,[fA,fN],0,ln (fk (fr_w "peel" (by decide +kernel)) (fk fo (fk fn fk_nil))) (by omega) (by decide +kernel) rfl (gdc (gA ho) (gd1 (gN hn))),by decide +kernel,rfl,rfl⟩
 ·exact⟨_,_,[fA],0,ln (fk (fr_w "lengths" (by decide +kernel)) (fk fo fk_nil)) (by omega) (by decide +kernel) rfl (gd1 (gA ho)),by decide +kernel,rfl,rfl⟩
 ·exact⟨_,_,[fA],0,ln (fk (fr_w "takings" (by decide +kernel)) (fk fo fk_nil)) (by omega) (by decide +kernel) rfl (gd1 (gA ho)),by decide +kernel,rfl,rfl⟩
 ·exact⟨_,_,[fA],0,ln (fk (fr_w "free" (by decide +kernel)) (fk fo fk_nil)) (by omega) (by decide +kernel) rfl (gd1 (gA ho)),by decide +kernel,rfl,rfl⟩
 ·exact⟨_,_,[fA,fA],0,ln (fk (fr_w "alike" (by decide +kernel)) (fk fo (fk fn fk_nil))) (by omega) (by decide +kernel) rfl (gdc (gA ho) (gd1 (gA hn))),by decide +kernel,rfl,rfl⟩
 ·exact⟨_,_,[fA,fA],1,ln (fk (fr_w "alike" (by decide +kernel)) (fk fn (fk fo fk_nil))) (by omega) (by decide +kernel) rfl (gdc (gA hn) (gd1 (gA ho))),by decide +kernel,rfl,rfl⟩
 ·exact⟨_,_,[fA,fK,fN],0,ln (fk (fr_w "later" (by decide +kernel)) (fk fo (fk (fr_w "61" (by decide +kernel)) (fk (fr_w "n" (by decide +kernel)) fk_nil)))) (by omega) (by decide +kernel) rfl (gdc (gA ho) (gdc k61 (gd1 (gN nn)))),by decide +kernel,rfl,rfl⟩
 ·exact⟨_,_,[fA,fK,fN],0,ln (fk (fr_w "small" (by decide +kernel)) (fk fo (fk (fr_w "0" (by decide +kernel)) (fk (fr_w "n" (by decide +kernel)) fk_nil)))) (by omega) (by decide +kernel) rfl (gdc (gA ho) (gdc k0 (gd1 (gN nn)))),by decide +kernel,rfl,rfl⟩
def bigW:Str:=w_ "1"++manyT (w_ "0") 29
def bigM:Str:=w_ "-1"++manyT (w_ "0") 29
def laterB:List Str:=[w_ "61",w_ "-61",bigW,bigM]
def smallB:List Str:=[w_ "0",w_ "13",w_ "-1",bigW,bigM]
theorem later_num:∀k∈laterB,∃v:Int,k=numT v/\v.natAbs<10^30/\numB (-60) 60 (.int v)=false:=fun k hk=>by
 unfold laterB at hk
 simp only[mem_cons,not_mem_nil,or_false]at hk
 rcases hk with rfl | rfl | rfl | rfl
 ·exact⟨61,by decide +kernel,by decide,by decide⟩
 ·exact⟨-61,by decide +kernel,by decide,by decide⟩
 ·exact⟨10^29,by decide +kernel,by decide,by decide⟩
 ·exact⟨-10^29,by decide +kernel,by decide,by decide⟩
theorem small_num:∀k∈smallB,∃v:Int,k=numT v/\v.natAbs<10^30/\numB 1 12 (.int v)=false:=fun k hk=>by
 unfold smallB at hk
 simp only[mem_cons,not_mem_nil,or_false]at hk
 rcases hk with rfl | rfl | rfl | rfl | rfl
 ·exact⟨0,by decide +kernel,by decide,by decide⟩
 ·exact⟨13,by decide +kernel,by decide,by decide⟩
 ·exact⟨-1,by decide +kernel,by decide,by decide⟩
 ·exact⟨10^29,by decide +kernel,by decide,by decide⟩
 ·exact⟨-10^29,by decide +kernel,by decide,by decide⟩
theorem num_line {x n:Str}{v:Int}(hx:x=w_ "later"\/x=w_ "small")(hn:nameB n=true)(hv:v.natAbs<10^30):Line (J [x,n,numT v,n]) x [n,numT v,n] [fA,fK,fN]:=by
 have fn:=fr_name hn
 have fv:Fr 40 (numT v):=⟨no_blank v,by have:=num_len30 hv;omega⟩
 rcases hx with rfl | rfl
 ·exact ln (fk (fr_w "later" (by decide +kernel)) (fk fn (fk fv (fk fn fk_nil)))) (by omega) (by decide +kernel) rfl (gdc (gA hn) (gdc (gK v hv) (gd1 (gN hn))))
 ·exact ln (fk (fr_w "small" (by decide +kernel)) (fk fn (fk fv (fk fn fk_nil)))) (by omega) (by decide +kernel) rfl (gdc (gA hn) (gdc (gK v hv) (gd1 (gN hn))))
abbrev ZN:Str:=w_ "zzzzzzzz"
abbrev ZR:List Int:=[0,1,102]
theorem z_long:ftF ZR=none:=by decide +kernel
theorem z_name:nameB ZN=true:=by decide +kernel
theorem z_line:Line (w_ "free zzzzzzzz") (w_ "free") [ZN] [fA]:=by
 have:=ln (fk (fr_w "free" (by decide +kernel)) (fk (fr_name z_name) fk_nil)) (by omega) (fs:=[fA]) (by decide +kernel) rfl (gd1 (gA z_name))
 rw[show J [w_ "free",ZN]=w_ "free zzzzzzzz" by decide +kernel]at this
 exact this
theorem z_far:Far ZR:=⟨by decide,by decide,by decide⟩
theorem z_wd:Wd ZR:=⟨by decide,by decide,by decide⟩
end K96
namespace K96
open L2
abbrev AsQ:Str:=(("_law_asked_right" : Str)++".<locals>.")++"<lambda>"
theorem not_tabQ {q:Str}{H:Hp}{T p:Addr}{o:HO}(tb:Tab q H T)(h:H p=some o)(n:∀ps,o≠.tbl ps):p≠T:=fun z=>by
 obtain⟨l,e,_⟩:=tb
 rw[z,e]at h
 exact n _ (Option.some.inj h).symm
section
variable {C x d:Addr}{H H':Hp}{D:Dk}
theorem DkAt.ne (h:DkAt C x d D H){b:Addr}{o:HO}(e:H b=some o)(n:∀kvs,o≠.dK kvs):b≠d:=fun z=>by
 obtain⟨kvs,⟨dx,h1,h2⟩,_⟩:=h
 rw[z,h2]at e
 exact n _ (Option.some.inj e).symm
theorem meth_sayC {c0 c2 c3 c4:Addr}{σ:L2.St}{Q:VK}{E:XK}{i:Nat}{t:TE}(e:σ[i]?=some (some (.ref x)))(dk:DkAt C x d D H)(ht:t σ H fun v H2=>spSay C c0 c2 c3 c4 [.ref x,v] H2 Q E) :
 tMeth C "say" (spSay C c0 c2 c3 c4) [] E (tVar i) (tCons t tNil) σ H Q:=by
 obtain⟨kvs,⟨dx,ha,hd⟩,_⟩:=dk
 exact⟨_,e,x,dx,_,rfl,ha,rows_ns,ht⟩
theorem DkAt.lam {T:Addr}{ps:Array Value}(h:DkAt C x d D H)(hT:H T=some (.tbl ps))(k:∀c u,c≠T->H c=some u->H' c=some u):DkAt C x d D H':=by
 obtain⟨kvs,⟨dx,e1,e2⟩,p⟩:=h
 have n:∀{b:Addr} {o:HO},H b=some o->(∀ps,o≠.tbl ps)->b≠T:=fun{b o} e z y=>by rw[y,hT]at e;exact z _ (Option.some.inj e).symm
 exact⟨kvs,⟨dx,k _ _ (n e1 fun _ z=>nomatch z) e1,k _ _ (n e2 fun _ z=>nomatch z) e2⟩,L2.Paired.imp' (fun _ _ g=>g.keep fun r xs e=>k _ _ (n e fun _ z=>nomatch z) e) p⟩
end
structure Aq (C x d T:Addr)(D:Dk)(H0 H:Hp):Prop where
 kp:∀c o,c≠T->H0 c=some o->H c=some o
 tb:Tab AsQ H T
 dk:DkAt C x d D H
section
variable {C x d T:Addr}{D:Dk}{H0 H H':Hp}
theorem Aq.same (o:Aq C x d T D H0 H)(s:Same H H'):Aq C x d T D H0 H':=⟨fun c u n e=>s _ _ (o.kp c u n e),o.tb.same s,o.dk.same s⟩
theorem Aq.lam (o:Aq C x d T D H0 H)(k:∀c u,c≠T->H c=some u->H' c=some u)(t:Tab AsQ H' T):Aq C x d T D H0 H':=by
 obtain⟨ps,hT,_⟩:=o.tb
 exact⟨fun c u n e=>k c u n (o.kp c u n e),t,o.dk.lam hT k⟩
end
def spAsk (C c0 c2 c3 c4 T:Addr):Sp:=fun vs H Q _=>∃(x d:Addr) (n o:Str) (D:Dk) (row:List Int),vs=[.ref x,.str n,.str o]/\Aq C x d T D H H/\D.length<60/\nameB n=true/\nameB o=true/\rowOf D n=some row/\rowOf D o=none/\rowOf D ZN=some ZR/\
 ∀H',Aq C x d T D H H'->Q (.bl true) H'
theorem ne_no {α:Type}[DecidableEq α]{x y:α}(e:x=y):V.bl (!decide (x=y))=.bl false:=by rw[decide_eq_true e];rfl
theorem eq_yes {α:Type}[DecidableEq α]{x y:α}(e:x=y):V.bl (decide (x=y))=.bl true:=by rw[decide_eq_true e]
section
variable {P:Program}{w:World}{K:W.Frag}{mg:Str->Option Value}{base:Heap}{b c0 c1 c2 c3 c4 c T CD fs:Addr}{fds:FuncData}{bm0 bm2 bm3:List Value}
theorem ok_L_asked_right {f:Addr}{fd:FuncData}(F:Fun K "_law_asked_right" "_law_asked_right" s_L_asked_right f fd)(nb:Nb4 mg)(h_L_named:Has P w K mg base 1 "_law_named" ["_law_name_here","_law_other"] spNd)(h_ref:HasR P w K mg 8 7 "_law_refused" "_law_call" Rn (Ec K b c0 c1 c2 c3 c4))(clD:Cls K CD)(hms:Meth K CD "say" fs)(hFs:∀base,FnOk P w K mg base (CXF P w) 6 fs fds ["self","line"] (spSay CD c0 c2 c3 c4))(hbs:Binds K fds ["self","line"] [])(hcd:fd.code=.ref c)(C:CodeHd base c T)(Bl:BltAt mg base)(e0:ExcF K c0 bm0)(i0:(Value.ref c0::bm0).contains (.ref b)=true)(kd0:Kind5 K c0 c1 c2 c3 c4 c0 0)(e2:ExcF K c2 bm2)(i2:(Value.ref c2::bm2).contains (.ref b)=true)(kd2:Kind5 K c0 c1 c2 c3 c4 c2 2)(e3:ExcF K c3 bm3)(i3:(Value.ref c3::bm3).contains (.ref b)=true)(kd3:Kind5 K c0 c1 c2 c3 c4 c3 3) :
 FnOk P w K mg base CX0 9 f fd ["_law_desk","_law_name_here","_law_lost"] (spAsk CD c0 c2 c3 c4 T):=by
 have nd:=sc_L_asked_right.nd
 refine F.okC (k:=8) sc_L_asked_right (fun vs H Q E h=>?_) (fun A outer s H vs Q E hr h=>?_)
 ·obtain⟨x,d,n,o,D,row,rfl,_⟩:=h
  rfl
 obtain⟨x,d,n,o,D,row,rfl,aq,few,hn,ho,ro,lo,rz,q⟩:=h
 refine⟨_,(@pss_cons _ _ _ _ _ (@ps_for _ _ _ _ _ _ _ _ PassesOwn.never rfl (@pi_list _ _ _ _ (@pe_op _ _ _ _ _ _ _ _ op_cat (pe_def h_L_named hr (@pa_cons _ _ _ _ _ (pv 2) (@pa_cons _ _ _ _ _ (pv 1) pa_nil rfl) rfl)) (@pe_lst _ _ _ _ (@pa_cons _ _ _ _ _ (@pe_op _ _ _ _ _ _ _ _ op_add_str (@pe_op _ _ _ _ _ _ _ _ op_add_str pe_str (pv 2)) pe_str) (@pa_cons _ _ _ _ _ (@pe_op _ _ _ _ _ _ _ _ op_add_str (@pe_op _ _ _ _ _ _ _ _ op_add_str pe_str (pv 2)) pe_str) pa_nil rfl) rfl)))) (pg_name (i:=3) nd rfl (Or.inr rfl)) (@pss_one _ _ _ (@ps_if _ _ _ _ _ _ _ _ (pt_cmpR op_ne (pe_lambda (sc:=defScope s_L_asked_right) (N0:=["_law_desk","_law_name_here","_law_lost","_law_line","_law_word"]) (N:=["_law_desk","_law_line"]) (js:=[0,3]) h_ref hr hcd C Bl rfl rfl (by exact⟨rfl,rfl,rfl,by decide +kernel⟩) (by constructor<;>first|decide +kernel|rfl) (fun base E cl f cd A outer s H hr=>by exact(pe_meth (pv 0) clD hms (hFs base) (hr.mono (by decide)) hbs .nil (lvs_lam.pass fun _ _ _ z=>z) (@pa_cons _ _ _ _ _ (pv 1) pa_nil rfl)))) pe_int (nomark _)) (@pss_one _ _ _ (@ps_ret _ _ _ _ pe_bl)) pss_nil)) (by intro _;rfl)) (@pss_cons _ _ _ _ _ (@ps_for _ _ _ _ _ _ _ _ PassesOwn.never rfl (@pi_list _ _ _ _ (@pe_lst _ _ _ _ (@pa_cons _ _ _ _ _ pe_str (@pa_cons _ _ _ _ _ pe_str (@pa_cons _ _ _ _ _ (@pe_op _ _ _ _ _ _ _ _ op_add_str pe_str (@pe_op _ _ _ _ _ _ _ _ op_repS pe_str pe_int)) (@pa_cons _ _ _ _ _ (@pe_op _ _ _ _ _ _ _ _ op_add_str pe_str (@pe_op _ _ _ _ _ _ _ _ op_repS pe_str pe_int)) pa_nil rfl) rfl) rfl) rfl))) (pg_name (i:=4) nd rfl (Or.inl rfl)) (@pss_cons _ _ _ _ _ (@ps_set _ _ (3) _ _ _ _ nd rfl (Or.inr rfl) (@pe_op _ _ _ _ _ _ _ _ op_add_str (@pe_op _ _ _ _ _ _ _ _ op_add_str (@pe_op _ _ _ _ _ _ _ _ op_add_str (@pe_op _ _ _ _ _ _ _ _ op_add_str (@pe_op _ _ _ _ _ _ _ _ op_add_str pe_str (pv 1)) pe_str) (pv 4)) pe_str) (pv 1)) rfl (by first | exact .inl rfl | exact .inr rfl)) (@pss_one _ _ _ (@ps_if _ _ _ _ _ _ _ _ (pt_cmpR op_ne (pe_lambda (sc:=defScope s_L_asked_right) (N0:=["_law_desk","_law_name_here","_law_lost","_law_line","_law_word"]) (N:=["_law_desk","_law_line"]) (js:=[0,3]) h_ref hr hcd C Bl rfl rfl (by exact⟨rfl,rfl,rfl,by decide +kernel⟩) (by constructor<;>first|decide +kernel|rfl) (fun base E cl f cd A outer s H hr=>by exact(pe_meth (pv 0) clD hms (hFs base) (hr.mono (by decide)) hbs .nil (lvs_lam.pass fun _ _ _ z=>z) (@pa_cons _ _ _ _ _ (pv 1) pa_nil rfl)))) pe_int (nomark _)) (@pss_one _ _ _ (@ps_ret _ _ _ _ pe_bl)) pss_nil))) (by intro _;rfl)) (@pss_cons _ _ _ _ _ (@ps_for _ _ _ _ _ _ _ _ PassesOwn.never rfl (@pi_list _ _ _ _ (@pe_lst _ _ _ _ (@pa_cons _ _ _ _ _ pe_str (@pa_cons _ _ _ _ _ pe_str (@pa_cons _ _ _ _ _ pe_str (@pa_cons _ _ _ _ _ (@pe_op _ _ _ _ _ _ _ _ op_add_str pe_str (@pe_op _ _ _ _ _ _ _ _ op_repS pe_str pe_int)) (@pa_cons _ _ _ _ _ (@pe_op _ _ _ _ _ _ _ _ op_add_str pe_str (@pe_op _ _ _ _ _ _ _ _ op_repS pe_str pe_int)) pa_nil rfl) rfl) rfl) rfl) rfl))) (pg_name (i:=4) nd rfl (Or.inl rfl)) (@pss_cons _ _ _ _ _ (@ps_set _ _ (3) _ _ _ _ nd rfl (Or.inr rfl) (@pe_op _ _ _ _ _ _ _ _ op_add_str (@pe_op _ _ _ _ _ _ _ _ op_add_str (@pe_op _ _ _ _ _ _ _ _ op_add_str (@pe_op _ _ _ _ _ _ _ _ op_add_str (@pe_op _ _ _ _ _ _ _ _ op_add_str pe_str (pv 1)) pe_str) (pv 4)) pe_str) (pv 1)) rfl (by first | exact .inl rfl | exact .inr rfl)) (@pss_one _ _ _ (@ps_if _ _ _ _ _ _ _ _ (pt_cmpR op_ne (pe_lambda (sc:=defScope s_L_asked_right) (N0:=["_law_desk","_law_name_here","_law_lost","_law_line","_law_word"]) (N:=["_law_desk","_law_line"]) (js:=[0,3]) h_ref hr hcd C Bl rfl rfl (by exact⟨rfl,rfl,rfl,by decide +kernel⟩) (by constructor<;>first|decide +kernel|rfl) (fun base E cl f cd A outer s H hr=>by exact(pe_meth (pv 0) clD hms (hFs base) (hr.mono (by decide)) hbs .nil (lvs_lam.pass fun _ _ _ z=>z) (@pa_cons _ _ _ _ _ (pv 1) pa_nil rfl)))) pe_int (nomark _)) (@pss_one _ _ _ (@ps_ret _ _ _ _ pe_bl)) pss_nil))) (by intro _;rfl)) (@pss_one _ _ _ (@ps_ret _ _ _ _ (pe_cmpR op_eq (pe_lambda (sc:=defScope s_L_asked_right) (N0:=["_law_desk","_law_name_here","_law_lost","_law_line","_law_word"]) (N:=["_law_desk"]) (js:=[0]) h_ref hr hcd C Bl rfl rfl (by exact⟨rfl,rfl,rfl,by decide +kernel⟩) (by constructor<;>first|decide +kernel|rfl) (fun base E cl f cd A outer s H hr=>by exact(pe_meth (pv 0) clD hms (hFs base) (hr.mono (by decide)) hbs .nil (lvs_lam.pass fun _ _ _ z=>z) (@pa_cons _ _ _ _ _ pe_str pa_nil rfl)))) pe_int (nomark _))))))),?_⟩
 have lc6:(oS "1").length=1:=by decide +kernel
 have lc7:(oS "-1").length=2:=by decide +kernel
 have lC:(oS "later ").length=6/\(oS " 61 n").length=5/\(oS "small ").length=6/\(oS " 0 n").length=4/\(oS " ").length=1/\(oS "1").length=1/\(oS "-1").length=2:=by decide +kernel
 have fit:∀{a b:Str},a.length+b.length<=3000->a.length+b.length<=sizeLine:=fun{a b} h=>by rw[sizeLine_eq];omega
 have nl:=(fr_name hn).2
 have ol:=(fr_name ho).2
 -- of one by which nothing is kept
 refine⟨_,rfl,_,rfl,o,n,rfl,ol,nl,fun pn H1 s1 f1=>?_⟩
 refine⟨_,rfl,_,_,rfl,rfl,fit (by simp only[Str.length_append,lC];omega),_,_,rfl,rfl,fit (by simp only[Str.length_append,lC];omega),_,rfl,_,_,rfl,rfl,fit (by simp only[Str.length_append,lC];omega),_,_,rfl,rfl,fit (by simp only[Str.length_append,lC];omega),(by show 2<=sizeLine;decide),fun p2 h2=>?_⟩
 rw[show(oS "later "++o++oS " 61 n")=J [w_ "later",o,w_ "61",w_ "n"] from by rw[J_cons,J_cons,J_cons,show oS "later " = w_ "later"++BLK by decide +kernel,show oS " 61 n" = BLK++(w_ "61"++BLK++w_ "n") by decide +kernel];simp only[app_assoc];rfl,
  show(oS "small "++o++oS " 0 n")=J [w_ "small",o,w_ "0",w_ "n"] from by rw[J_cons,J_cons,J_cons,show oS "small " = w_ "small"++BLK by decide +kernel,show oS " 0 n" = BLK++(w_ "0"++BLK++w_ "n") by decide +kernel];simp only[app_assoc];rfl]
 have s2:=same_new h2 (.lst [.str (J [w_ "later",o,w_ "61",w_ "n"]),.str (J [w_ "small",o,w_ "0",w_ "n"])])
 refine⟨pn,p2,_,_,rfl,rfl,s2 _ _ f1,upd_same,(by rw[length_map,length_map];show 9+2<=sizeLine;decide),fun p3 h3=>?_⟩
 have eW:(((namedW o n).map J).map V.str)++[V.str (J [w_ "later",o,w_ "61",w_ "n"]),V.str (J [w_ "small",o,w_ "0",w_ "n"])]=((lostW o n).map J).map V.str:=by unfold lostW;rw[map_append,map_append];rfl
 rw[eW]
 have lost:=lost_all ho hn
 generalize lostW o n=WS at lost ⊢
 have s3:=s1.trans (s2.trans (same_new h3 (.lst ((WS.map J).map V.str))))
 have fp:(upd (upd H1 p2 (.lst [.str (J [w_ "later",o,w_ "61",w_ "n"]),.str (J [w_ "small",o,w_ "0",w_ "n"])])) p3 (.lst ((WS.map J).map V.str))) p3=_:=upd_same
 have aq3:=aq.same s3
 generalize upd (upd H1 p2 (.lst [.str (J [w_ "later",o,w_ "61",w_ "n"]),.str (J [w_ "small",o,w_ "0",w_ "n"])])) p3 (.lst ((WS.map J).map V.str))=H3 at fp aq3 ⊢
 refine⟨p3,rfl,⟨_,SqL.of fp⟩,?_⟩
 have pT:p3≠T:=not_tabQ aq3.tb fp fun _ z=>nomatch z
 refine for_list (xs:=(WS.map J).map V.str) (fun i σ H'=>∃(o3 o4:Option V),σ=[some (.ref x),some (.str n),some (.str o),o3,o4]/\Aq CD x d T D H H'/\H' p3=some (.lst ((WS.map J).map V.str))) ⟨_,_,rfl,aq3,fp⟩ (fun i σ H' hi hp=>?_) (fun i y σ H' hyi hp=>?_) (fun σ H' hp=>?_)
 ·obtain⟨o3,o4,rfl,w,hp3⟩:=hp
  exact SqL.of hp3
 ·obtain⟨o3,o4,rfl,w,hp3⟩:=hp
  rw[getElem?_map,getElem?_map]at hyi
  obtain⟨u,eu,rfl⟩:=map_eq_some_iff.mp hyi
  obtain⟨ws,ew,rfl⟩:=map_eq_some_iff.mp eu
  obtain⟨y,rest,fs',j,L,nk,hf,hr'⟩:=lost ws (mem_of_getElem? ew)
  refine⟨w.tb,fun f4 H4 LA=>?_⟩
  have w4:=w.lam LA.grow LA.tab
  refine meth_sayC rfl w4.dk ⟨_,rfl,sayG_lost L nk w4.dk hf hr' lo fun e H5 s5 he=>⟨c3,bm3,e,3,rfl,rfl,he,e3,i3,kd3,fun H6 s6=>⟨rfl,false,ne_no rfl,iteF ?_⟩⟩⟩
  exact⟨_,_,rfl,((w4.same s5).same (same_new he _)).same s6,s6 _ _ (same_new he _ _ _ (s5 _ _ (LA.grow _ _ pT hp3)))⟩
 obtain⟨o3,o4,rfl,w,_⟩:=hp
 have l29:(manyT (oS "0") 29).length=29:=by decide +kernel
 -- later,by numbers beyond
 refine⟨_,29,rfl,rfl,by decide,by decide,by decide +kernel,(by rw[sizeLine_eq];exact le_trans (show(manyT (oS "0") 29).length<=40 by decide +kernel) (by omega)),_,_,rfl,rfl,fit (by rw[lc6,l29];omega),_,29,rfl,rfl,by decide,by decide,by decide +kernel,(by rw[sizeLine_eq];exact le_trans (show(manyT (oS "0") 29).length<=40 by decide +kernel) (by omega)),_,_,rfl,rfl,fit (by rw[lc7,l29];omega),(by show 4<=sizeLine;decide),fun pw hpw=>?_⟩
 have sw:=same_new hpw (.lst (laterB.map V.str))
 have fw:(upd H' pw (.lst (laterB.map V.str))) pw=_:=upd_same
 have w:=w.same sw
 have pT:pw≠T:=not_tabQ w.tb fw fun _ z=>nomatch z
 refine⟨pw,rfl,⟨laterB.map V.str,SqL.of fw⟩,?_⟩
 refine for_list (xs:=laterB.map V.str) (fun i σ H'=>∃(o3 o4:Option V),σ=[some (.ref x),some (.str n),some (.str o),o3,o4]/\Aq CD x d T D H H'/\H' pw=some (.lst (laterB.map V.str))) ⟨_,_,rfl,w,fw⟩ (fun i σ H' hi hp=>?_) (fun i y σ H' hyi hp=>?_) (fun σ H' hp=>?_)
 ·obtain⟨o3,o4,rfl,w,hp3⟩:=hp
  exact SqL.of hp3
 ·obtain⟨o3,o4,rfl,w,hp3⟩:=hp
  rw[getElem?_map]at hyi
  obtain⟨k,ek,rfl⟩:=map_eq_some_iff.mp hyi
  obtain⟨v,rfl,hv,hb⟩:=later_num k (mem_of_getElem? ek)
  have kl:=num_len30 hv
  refine⟨_,rfl,_,_,rfl,rfl,fit (by simp only[Str.length_append,lC];omega),_,_,rfl,rfl,fit (by simp only[Str.length_append,lC];omega),_,rfl,_,_,rfl,rfl,fit (by simp only[Str.length_append,lC];omega),_,_,rfl,rfl,fit (by simp only[Str.length_append,lC];omega),_,rfl,_,_,rfl,rfl,fit (by simp only[Str.length_append,lC];omega),?_⟩
  rw[show(oS "later "++n++oS " "++numT v++oS " "++n)=J [w_ "later",n,numT v,n] from J4' (by decide +kernel)]
  refine⟨w.tb,fun f4 H4 LA=>?_⟩
  have w4:=w.lam LA.grow LA.tab
  refine meth_sayC rfl w4.dk ⟨_,rfl,sayG_odd (num_line (.inl rfl) hn hv) (by decide +kernel) hv w4.dk few ro (.inl ⟨rfl,hb⟩) fun e H5 s5 he=>⟨c0,bm0,e,0,rfl,rfl,he,e0,i0,kd0,fun H6 s6=>⟨rfl,false,ne_no rfl,iteF ?_⟩⟩⟩
  exact⟨_,_,rfl,((w4.same s5).same (same_new he _)).same s6,s6 _ _ (same_new he _ _ _ (s5 _ _ (LA.grow _ _ pT hp3)))⟩
 obtain⟨o3,o4,rfl,w,_⟩:=hp
 -- small,by numbers beyond
 refine⟨_,29,rfl,rfl,by decide,by decide,by decide +kernel,(by rw[sizeLine_eq];exact le_trans (show(manyT (oS "0") 29).length<=40 by decide +kernel) (by omega)),_,_,rfl,rfl,fit (by rw[lc6,l29];omega),_,29,rfl,rfl,by decide,by decide,by decide +kernel,(by rw[sizeLine_eq];exact le_trans (show(manyT (oS "0") 29).length<=40 by decide +kernel) (by omega)),_,_,rfl,rfl,fit (by rw[lc7,l29];omega),(by show 5<=sizeLine;decide),fun pw hpw=>?_⟩
 have sw:=same_new hpw (.lst (smallB.map V.str))
 have fw:(upd H' pw (.lst (smallB.map V.str))) pw=_:=upd_same
 have w:=w.same sw
 have pT:pw≠T:=not_tabQ w.tb fw fun _ z=>nomatch z
 refine⟨pw,rfl,⟨smallB.map V.str,SqL.of fw⟩,?_⟩
 refine for_list (xs:=smallB.map V.str) (fun i σ H'=>∃(o3 o4:Option V),σ=[some (.ref x),some (.str n),some (.str o),o3,o4]/\Aq CD x d T D H H'/\H' pw=some (.lst (smallB.map V.str))) ⟨_,_,rfl,w,fw⟩ (fun i σ H' hi hp=>?_) (fun i y σ H' hyi hp=>?_) (fun σ H' hp=>?_)
 ·obtain⟨o3,o4,rfl,w,hp3⟩:=hp
  exact SqL.of hp3
 ·obtain⟨o3,o4,rfl,w,hp3⟩:=hp
  rw[getElem?_map]at hyi
  obtain⟨k,ek,rfl⟩:=map_eq_some_iff.mp hyi
  obtain⟨v,rfl,hv,hb⟩:=small_num k (mem_of_getElem? ek)
  have kl:=num_len30 hv
  refine⟨_,rfl,_,_,rfl,rfl,fit (by simp only[Str.length_append,lC];omega),_,_,rfl,rfl,fit (by simp only[Str.length_append,lC];omega),_,rfl,_,_,rfl,rfl,fit (by simp only[Str.length_append,lC];omega),_,_,rfl,rfl,fit (by simp only[Str.length_append,lC];omega),_,rfl,_,_,rfl,rfl,fit (by simp only[Str.length_append,lC];omega),?_⟩
  rw[show(oS "small "++n++oS " "++numT v++oS " "++n)=J [w_ "small",n,numT v,n] from J4' (by decide +kernel)]
  refine⟨w.tb,fun f4 H4 LA=>?_⟩
  have w4:=w.lam LA.grow LA.tab
  refine meth_sayC rfl w4.dk ⟨_,rfl,sayG_odd (num_line (.inr rfl) hn hv) (by decide +kernel) hv w4.dk few ro (.inr ⟨rfl,hb⟩) fun e H5 s5 he=>⟨c0,bm0,e,0,rfl,rfl,he,e0,i0,kd0,fun H6 s6=>⟨rfl,false,ne_no rfl,iteF ?_⟩⟩⟩
  exact⟨_,_,rfl,((w4.same s5).same (same_new he _)).same s6,s6 _ _ (same_new he _ _ _ (s5 _ _ (LA.grow _ _ pT hp3)))⟩
 obtain⟨o3,o4,rfl,w,_⟩:=hp
 -- not free for long
 refine⟨w.tb,fun f4 H4 LA=>?_⟩
 have w4:=w.lam LA.grow LA.tab
 refine meth_sayC rfl w4.dk (sayG_free z_line w4.dk rz z_far z_long fun e H5 s5 he=>⟨c2,bm2,e,2,rfl,rfl,he,e2,i2,kd2,fun H6 s6=>⟨rfl,?_⟩⟩)
 rw[show V.bl (decide (V.int ((2:Nat):Int)=V.int 2))=.bl true from eq_yes rfl]
 exact q _ (((w4.same s5).same (same_new he _)).same s6)
end
end K96
namespace L2
open PySem.W
section
variable {X:Cx}{pins:List (Addr×Obj)}{σ:St}{H H':Hp}{s:Shared}{h':Heap}
end
section
variable {prog:Program}{w:World}{A:Around}{E:Value->Shared->Prop}{s:Shared}
end
end L2
namespace L2
open PySem.W
abbrev IsKI (h:Heap)(z d:Addr)(i n ep:Nat):Prop:=h.get? z=some {cls:=.type "dict_keyiterator",dict:=none,data:=.fields #[.ref d,.int (i:Int) 0,.int (n:Int) 0,.int (ep:Int) 0],slots:=#[]}
def RawD (h:Heap)(d:Addr)(es:Array DictEntry)(ep:Nat):Prop:=∃o,h.get? d=some o/\o.cls=.type "dict"/\o.data=.dict es ep
section
variable {prog:Program}{w:World}{A:Around}{E:Value->Shared->Prop}{s:Shared}
theorem ki_item {z d:Addr}{i ep:Nat}{es:Array DictEntry}{Q:Option Value->Shared->Prop}(hit:IsKI s.heap z d i es.size ep)(hd:RawD s.heap d es ep)(hi:i<es.size)(q:∀h',IsKI h' z d (i+1) es.size ep->Heap.SameBut z s.heap h'->Q (some es[i].key) {s with heap:=h'}):wpAny (model prog w) A (pyNext (.ref z)) Q E s:=by
 obtain⟨hp,g,dr,tk,os⟩:=s
 obtain⟨⟨c,dd,da,sl⟩,ho,hc,hda⟩:=hd
 simp only at hc hda ho
 subst hc hda
 have hT:Shared.TypeIs ⟨hp,g,dr,tk,os⟩ (.ref z) "dict_keyiterator":=⟨_,hit,rfl⟩
 unfold pyNext
 refine wpAny_bind (wpAny_attempt (wpAny_callSpecial?_slot (name:=oS "__next__") hT F.slot_dict_keyiterator_next (wpAny_call_entry F.slot_dict_keyiterator_next hT F.entry_dict_keyiterator_next ?_ (F.args_dict_keyiterator_next_1 _))))
 have e1:¬((i:Int)<0):=by omega
 have e2:es[(i:Int).toNat]?=some es[i]:=by rw[toNat_natCast];exact Array.getElem?_eq_getElem hi
 unfold Builtin.«dict_keyiterator.__next__»
 wp_walk
 rw[if_neg e1,e2]
 dsimp only
 wp_walk
 refine⟨_,rfl,wpAny_pure (q _ ?_ (Heap.SameBut.update ..))⟩
 refine(get?_update_self _ hit rfl).trans ?_
 kernel_rfl
theorem ki_end {z d:Addr}{i ep:Nat}{es:Array DictEntry}{Q:Option Value->Shared->Prop}(hh:A.handled=none)(hit:IsKI s.heap z d i es.size ep)(hd:RawD s.heap d es ep)(hi:es.size<=i)(q:∀h' tk,Heap.ExtBut z s.heap h'->Q none {s with heap:=h',toks:=tk}):wpAny (model prog w) A (pyNext (.ref z)) Q E s:=by
 obtain⟨hp,g,dr,tk,os⟩:=s
 obtain⟨⟨c,dd,da,sl⟩,ho,hc,hda⟩:=hd
 simp only at hc hda ho
 subst hc hda
 have hT:Shared.TypeIs ⟨hp,g,dr,tk,os⟩ (.ref z) "dict_keyiterator":=⟨_,hit,rfl⟩
 unfold pyNext
 refine wpAny_bind (wpAny_attempt (wpAny_callSpecial?_slot (name:=oS "__next__") hT F.slot_dict_keyiterator_next (wpAny_call_entry F.slot_dict_keyiterator_next hT F.entry_dict_keyiterator_next ?_ (F.args_dict_keyiterator_next_1 _))))
 have e1:¬((i:Int)<0):=by omega
 have e2:es[(i:Int).toNat]?=none:=by rw[toNat_natCast];exact Array.getElem?_eq_none hi
 unfold Builtin.«dict_keyiterator.__next__»
 wp_walk
 rw[if_neg e1,e2]
 dsimp only
 wp_walk
 simp only[raiseNew]
 refine wpAny_bind (wpAny_handled ?_)
 rw[show A.in1.handled=none from hh]
 refine wpAny_bind (wpAny_pure (wpAny_throw ?_))
 refine wpAny_bind (wpAny_isInstance (T:="StopIteration") (b:=true) ⟨_,get?_push_size _ rfl,rfl⟩ isSubtype_stop ?_)
 exact wpAny_pure (q _ _ (((Heap.SameBut.update ..).extBut.push _).push _))
theorem ki_iter {d:Addr}{ep:Nat}{es:Array DictEntry}{Q:Value->Shared->Prop}(ns:(d==sysModules)=false)(hd:RawD s.heap d es ep)(q:∀h',IsKI h' s.heap.objs.size d 0 es.size ep->(∀b o,s.heap.get? b=some o->h'.get? b=some o)->Q (.ref s.heap.objs.size) {s with heap:=h'}):wpAny (model prog w) A (pyIter (.ref d)) Q E s:=by
 obtain⟨hp,g,dr,tk,os⟩:=s
 obtain⟨⟨c,dd,da,sl⟩,ho,hc,hda⟩:=hd
 simp only at hc hda ho
 subst hc hda
 have hT:Shared.TypeIs ⟨hp,g,dr,tk,os⟩ (.ref d) "dict":=⟨_,ho,rfl⟩
 refine wpAny_pyIter_slot hT F.slot_dict_iter (wpAny_call_entry F.slot_dict_iter hT F.entry_dict_iter ?_ (F.args_dict_iter_1 _))
 unfold Builtin.«dict.__iter__»
 wp_walk
 exact⟨_,rfl,"dict_keyiterator",_,⟨_,get?_push_size _ rfl,rfl⟩,F.slot_dict_keyiterator_next.lookup,q _ (get?_push_size _ rfl) fun b o e=>get?_push_of_some _ e⟩
end
end L2
namespace L2
open PySem.W
theorem paired_get {α β:Type}{r:α->β->Prop}:∀{xs:List α} {ys:List β} {i:Nat} {x:α},Paired r xs ys->xs[i]?=some x->∃y,ys[i]?=some y/\r x y
 |_,_,_,_,.nil,e=>by simp at e
 |_,_,0,_,.cons r _,e=>by simp at e;subst e;exact⟨_,rfl,r⟩
 |_,_,i+1,p,.cons _ t,e=>paired_get (i:=i) (x:=p) t (by simpa using e)
section
variable {X:Cx}{tg:Expr}
end
end L2
namespace L2
open PySem.W
def Itk (d:Addr)(o:Obj):It:=
 ⟨fun i H=>∃kvs,H d=some (.frz o (.dK kvs))/\i<kvs.length,fun i H x H'=>H'=H/\∃kvs kv,H d=some (.frz o (.dK kvs))/\kvs[i]?=some kv/\x=kV kv.1,fun i H=>∃kvs,H d=some (.frz o (.dK kvs))/\kvs.length<=i⟩
theorem prs_get {P:Program}{w:World}:∀{es:List DictEntry} {vs:List (Key×Value)} {i:Nat} {q:Key×Value},Pairs (mixKind P w) es vs->vs[i]?=some q->∃e,es[i]?=some e/\keyIs q.1 e.key=true
 |_,_,_,_,.nil,e=>by cases e
 |_,_,0,_,.cons a _ _,e=>by cases e;exact⟨_,rfl,a⟩
 |_,_,i+1,_,.cons _ _ t,e=>prs_get (i:=i) t e
theorem key_rel {k:Key}{v:Value}(h:keyIs k v=true):RelV (kV k) v:=by
 rcases keyIs_shape h with⟨i,t,rfl,rfl⟩ | ⟨x,t,rfl,rfl⟩
 ·exact⟨t,rfl⟩
 ·exact⟨t,rfl⟩
theorem raw_dK {P:Program}{w:World}{H:Hp}{h:Heap}{d:Addr}{o:Obj}{kvs:List (Key×V)}(hd:ObjOk P w H h d (.frz o (.dK kvs))):(d==sysModules)=false/\kvs.length<=sizeLine/\
 ∃es ep,o.cls=.type "dict"/\o.data=.dict es ep/\h.get? d=some o/\es.size=kvs.length/\∀(i:Nat) (kv:Key×V),kvs[i]?=some kv->∃hi:i<es.size,RelV (kV kv.1) es[i].key:=by
 obtain⟨h0,z,ns,vs,kp,o',es,ep,h1,ex,da,ko,pr,nd⟩:=(show h.get? d=some o/\ObjOk P w H h d (.dK kvs) from hd)
 rw[h0]at h1
 cases h1
 have lx:kvs.length=vs.length:=KV.length kp
 have le:es.size=kvs.length:=by rw[<-length_toList,pr.length,lx]
 refine⟨ns,z,es,ep,ex.1,da,h0,le,fun i kv e=>?_⟩
 obtain⟨q,eq,q1,_⟩:=paired_get kp e
 obtain⟨en,ee,ek⟩:=prs_get pr eq
 have hi:i<es.size:=by rw[le];exact(List.getElem?_eq_some_iff.mp e).1
 rw[getElem?_toList,Array.getElem?_eq_getElem hi]at ee
 cases ee
 exact⟨hi,by rw[q1];exact key_rel ek⟩
theorem turn_dK {P:Program}{w:World}{K:W.Frag}{tg:Expr}(d it:Addr)(o:Obj)(es:Array DictEntry)(ep:Nat)(he:o.data=.dict es ep):Turn P w K tg (Itk d o) [it] it (fun i h=>IsKI h it d i es.size ep) where
 mem:=by simp
 obj:=fun i h st b hb=>by
  have e:b=it:=by simpa using hb
  subst e
  exact⟨_,st,fun v z=>nomatch z⟩
 keep:=fun i h h' st k=>k it (by simp) _ st
 item:=by
  intro X hP hw hK hc i pins s σ H E I hf st hg
  subst hP hw hK
  obtain⟨kvs,hd1,hi1⟩:=hg
  obtain⟨ns,zl,es',ep',c1,c2,c3,c4,c5⟩:=raw_dK (I.hok d _ hd1)
  rw[he]at c2
  cases c2
  obtain⟨hi,k1⟩:=c5 i _ (List.getElem?_eq_getElem hi1)
  obtain⟨f0,f1,f2,f3,f4,f5⟩:=hf it (by simp)
  refine ki_item st ⟨o,c3,c1,he⟩ hi fun h' st' sb=>?_
  have I1:Inv X pins σ H {s with heap:=h'}:=I.turned (t':=s.toks) (fun b o hb e=>(sb.2 b hb).trans e) f0 f1 f3 f4 f5
  exact⟨_,rfl,go_of (s:={s with heap:=h'}) st' rfl rfl (by decide) ⟨kV kvs[i].1,H,I1,k1,⟨rfl,kvs,_,hd1,List.getElem?_eq_getElem hi1,rfl⟩,st',fun b hb=>(hf b hb).1⟩⟩
 done:=by
   intro X hP hw hK hc i pins s σ H E I hf st hg
   subst hP hw hK
   obtain⟨kvs,hd1,hi1⟩:=hg
   obtain⟨ns,zl,es',ep',c1,c2,c3,c4,c5⟩:=raw_dK (I.hok d _ hd1)
   rw[he]at c2
   cases c2
   obtain⟨f0,f1,f2,f3,f4,f5⟩:=hf it (by simp)
   exact ki_end (I.ok.hd hc) st ⟨o,c3,c1,he⟩ (by omega) fun h' tk eb=>⟨rfl,I.turned (t':=tk) (fun b o hb e=>eb b o hb e) f0 f1 f3 f4 f5⟩
 self:=fun A i s Q E st h=>by
  obtain⟨hp,g,dr,tk,os⟩:=s
  have hT:Shared.TypeIs ⟨hp,g,dr,tk,os⟩ (.ref it) "dict_keyiterator":=⟨_,st,rfl⟩
  refine wpAny_pyIter_slot hT F.slot_dict_keyiterator_iter (wpAny_call_entry F.slot_dict_keyiterator_iter hT F.entry_dict_keyiterator_iter ?_ (F.args_dict_keyiterator_iter_1 _))
  unfold Builtin.«dict_keyiterator.__iter__»
  wp_walk
  exact⟨_,rfl,"dict_keyiterator",_,hT,F.slot_dict_keyiterator_next.lookup,h⟩
section
variable {X:Cx}{tg:Expr}
def iDI (tl:TE):TI:=fun σ H R=>tl σ H fun x H1=>∃(d:Addr) (kvs:List (Key×V)),x=.ref d/\H1 d=some (.dK kvs)/\∀(o:Obj) (J:It),
 (∀i H2,H2 d=some (.frz o (.dK kvs))->(∀kv,kvs[i]?=some kv->J.go i H2/\∀x H3,J.yld i H2 x H3->H3=H2/\x=kV kv.1)/\(kvs.length<=i->J.stop i H2))->R J (upd H1 d (.frz o (.dK kvs)))
theorem pi_dI {l:Expr}{tl:TE}(hl:PE X l tl):PI X tg l (iDI tl):=by
 intro pins s σ H R I h
 refine thn (hl pins s σ H _ I h) fun v s1 ⟨x,H1,I1,r1,q1⟩=>?_
 obtain⟨d,kvs,e,hd,q⟩:=q1
 subst e
 cases r1
 obtain⟨zl,ns,vs,kp,o,es,ep,h1,ex,da,ko,pr,nd⟩:=(show ObjOk X.prog X.w H1 s1.heap d (.dK kvs) from I1.hok d _ hd)
 have new:ObjOk X.prog X.w (upd H1 d (.frz o (.dK kvs))) s1.heap d (.frz o (.dK kvs)):=⟨h1,zl,ns,vs,kp,o,es,ep,h1,ex,da,ko,pr,nd⟩
 have I2:Inv X pins σ (upd H1 d (.frz o (.dK kvs))) s1:=d_write (t':=s1.toks) I1 (by rw[hd];exact trivial) (Heap.SameBut.refl _ _) ⟨_,h1⟩ new
 refine ki_iter ns ⟨o,h1,ex.1,da⟩ fun h' st k=>?_
 have I3:=I2.kept (t':=s1.toks) k
 have fr:(upd H1 d (.frz o (.dK kvs))) s1.heap.objs.size=none:=I2.hok.fresh (Nat.le_refl _)
 refine⟨s1.heap.objs.size,[s1.heap.objs.size],_,_,_,rfl,I3,turn_dK d _ o es ep da,st,fun b hb=>?_,q o _ fun i H2 h2=>⟨fun kv e=>⟨⟨kvs,h2,(List.getElem?_eq_some_iff.mp e).1⟩,fun x H3 hy=>⟨hy.1,?_⟩⟩,fun hi=>⟨kvs,h2,hi⟩⟩⟩
 ·have e:b=s1.heap.objs.size:=by simpa using hb
  subst e
  exact I2.fpOk (Nat.le_refl _) fr
 ·obtain⟨_,kvs',kv',h3,e3,e4⟩:=hy
  rw[h2]at h3
  cases h3
  rw[e]at e3
  cases e3
  exact e4
end
end L2
namespace L2
open PySem.W
theorem Inv.thaw {X:Cx}{pins:List (Addr×Obj)}{σ:St}{H:Hp}{s:Shared}{d:Addr}{o:Obj}{kvs:List (Key×V)}(I:Inv X pins σ H s)(hd:H d=some (.frz o (.dK kvs)))(h0:X.H₀ d=none):Inv X pins σ (upd H d (.dK kvs)) s:=by
 have ne:∀{b:Addr},H b=none->b≠d:=fun{b} e z=>by rw[z,hd]at e;cases e
 have n0:∀{b:Addr} {u:HO},X.H₀ b=some u->b≠d:=fun{b u} e z=>by rw[z,h0]at e;cases e
 refine⟨I.ok,I.os,I.bare,⟨I.base.keep,I.base.slot,fun b ob e n hx=>?_,I.base.there,fun b xs e=>?_,fun b ob u e=>?_,fun b ps e=>?_⟩,I.loc,I.cell,?_,fun x c e=>?_,fun p hp=>?_,fun b u e=>?_,I.len⟩
 ·have z:=I.base.free b ob e n hx
  rw[upd_ne (ne z)]
  exact z
 ·rw[upd_ne (n0 e)]
  exact I.base.tups b xs e
 ·rw[upd_ne (n0 e)]
  exact I.base.frzs b ob u e
 ·rw[upd_ne (n0 e)]
  exact I.base.tbls b ps e
 ·rw[upd_ne (ne I.free)]
  exact I.free
 ·have z:=I.freeC x c e
  rw[upd_ne (ne z)]
  exact z
 ·obtain⟨h1,h2,h3⟩:=I.pin p hp
  exact⟨h1,by rw[upd_ne (ne h2)];exact h2,h3⟩
 ·by_cases z:b=d
  ·subst z
   rw[upd_same]at e
   cases e
   have:=I.hok b _ hd
   exact this.2
  ·rw[upd_ne z]at e
   refine(I.hok b u e).stay (fun _ _ _ q=>q) (fun c q=>?_) fun c xs q=>?_
   ·rw[upd_ne (fun y=>by rw[y,hd]at q;cases q)];exact q
   ·rw[upd_ne (fun y=>by rw[y,hd]at q;cases q)];exact q
def tThaw (H0:Hp)(t:TS):TS:=fun D σ H=>t {D with nx:=fun σ' H'=>∃(d:Addr) (o:Obj) (kvs:List (Key×V)),H' d=some (.frz o (.dK kvs))/\H0 d=none/\D.nx σ' (upd H' d (.dK kvs))} σ H
theorem ps_thaw {X:Cx}{st:Stmt}{t:TS}(h:PS X st t):PS X st (tThaw X.H₀ t):=fun pins s σ H D I h1=>
 wpAny_mono (h pins s σ H _ I h1) (fun f s' q=>by
  cases f with
  |next=>obtain⟨σ',H',I',d,o,kvs,e,h0,q⟩:=q;exact⟨σ',_,I'.thaw e h0,q⟩
  |brk=>exact q
  |cont=>exact q
  |ret v=>exact q) fun _ _ z=>z
end L2
namespace L2
open PySem.W
section
variable {X:Cx}{k v:Expr}{tk tv:TE}{pos:Pos}
def tDict1 (tk tv:TE):TE:=fun σ H Q=>∀p,H p=none->tk σ (upd H p (.dK [])) fun x H1=>tv σ H1 fun y H2=>∃key:Key,x=kV key/\H2 p=some (.dK [])/\Q (.ref p) (upd H2 p (.dK [(key,y)]))
theorem pe_dict1 (hk:PE X k tk)(hv:PE X v tv):PE X (.Dict [some k] [v] pos) (tDict1 tk tv):=by
 intro pins s σ H Q I h
 have I1:=I.laid (a:=s.heap.objs.size) (o:=.dK []) (t':=s.toks) (fun _ _ q=>get?_push_of_some _ q) (Nat.le_refl _) (dk_empty s.heap I.big)
 have h1:=h _ (I.hok.fresh (Nat.le_refl _))
 refine wpAny_Dict_walk (knd:=mixKind X.prog X.w) rfl rfl (by simp) (by show 1<=15;omega) (pairTrees_cons_walk ?_)
 refine thn (hk pins _ σ _ _ I1 h1) fun u s1 ⟨x,H1,I2,r1,q1⟩=>thn (hv pins s1 σ H1 _ I2 q1) fun w s2 ⟨y,H2,I3,r2,key,ex,e2,q2⟩=>pairTrees_nil_walk ?_
 subst ex
 obtain⟨z,hd,vs,rel,dd⟩:=dk_of I3.hok e2
 cases rel
 refine⟨[(key,w)],⟨kV_is r1,rfl,trivial⟩,dd,fun h' dd' hs=>?_⟩
 refine⟨.ref s.heap.objs.size,_,d_write (t':=s2.toks+1) (ob:=.dK [(key,y)]) I3 (by rw[e2];exact True.intro) hs (let⟨q,_,_,hq,_⟩:=dd';⟨q,hq⟩) (dk_new (by show 1<=sizeLine;decide) hd (.cons ⟨rfl,r2⟩ .nil) dd'),rfl,q2⟩
def rLenD:List V->Hp->VK->Prop:=fun xs H Q=>∃(d:Addr) (kvs:List (Key×V)),xs=[.ref d]/\H d=some (.dK kvs)/\Q (.int kvs.length) H
theorem call_lenD:CallR X (.builtin "len") rLenD:=by
 intro pins s σ H xs us Q I r h
 obtain⟨d,kvs,rfl,hd,q⟩:=h
 obtain⟨u,rfl,rx⟩:=vals1 r
 cases(show u=Value.ref d from rx)
 obtain⟨z,hs,vs,rel,dd⟩:=dk_of I.hok hd
 have lx:kvs.length=vs.length:=rel.length
 have:=sizeLine_eq
 refine PySem.call_len_dict hs dd (by omega) ?_
 exact⟨.int kvs.length,H,I.tok _,by rw[lx];exact⟨_,rfl⟩,q⟩
end
end L2
namespace K96
open L2
theorem rising_pw:∀(p:Str) (l:List Str),risingS p l=true->(p::l).Pairwise (fun a b=>a.cps.toList<=b.cps.toList)
 |p,[],_=>List.pairwise_singleton _ _
 |p,x::r,h=>by
  obtain⟨h1,h2⟩:=(and_eq_true _ _).mp (show(!ltCps x.cps.toList p.cps.toList&&risingS x r)=true from h)
  have ih:=rising_pw x r h2
  have le:p.cps.toList<=x.cps.toList:=by
   rw[ltCps_eq]at h1
   have:¬x.cps.toList<p.cps.toList:=fun z=>by rw[decide_eq_true z]at h1;cases h1
   exact this
  refine pairwise_cons.mpr ⟨fun y hy=>?_,ih⟩
  rcases mem_cons.mp hy with z | z
  ·rw[z];exact le
  ·exact List.le_trans le ((pairwise_cons.mp ih).1 y z)
theorem sorted_pw {l:List Str}(h:sortedS l=true):l.Pairwise (fun a b=>a.cps.toList<=b.cps.toList):=by
 cases l with
 |nil=>exact .nil
 |cons x r=>exact rising_pw x r h
theorem sorted_one {l m:List Str}(p:l.Perm m)(h:sortedS l=true)(h':sortedS m=true):l=m:=
 List.Perm.eq_of_pairwise (fun a b _ _ h1 h2=>str_ext (List.le_antisymm h1 h2)) (sorted_pw h) (sorted_pw h') p
def KS (S:List Addr)(H H':Hp):Prop:=∀c o,c∉S->H c=some o->H' c=some o
def Soft:HO->Prop
 | .lst _=>True
 | .dK _=>True
 | .tbl _=>True
 | .frz _ (.dK _)=>True
 |_=>False
def Sof (S:List Addr)(H:Hp):Prop:=∀x∈S,∃o,H x=some o/\Soft o
section
variable {S:List Addr}{H H':Hp}
theorem KS.hard (k:KS S H H')(sf:Sof S H){c:Addr}{o:HO}(e:H c=some o)(n:¬Soft o):H' c=some o:=k c o (fun m=>by
 obtain⟨u,hu,s⟩:=sf c m
 rw[hu]at e
 cases e
 exact n s) e
theorem tab_ks {q:Str}{T:Addr}(t:Tab q H T)(n:T∉S)(sf:Sof S H)(k:KS S H H'):Tab q H' T:=by
 obtain⟨l,e,h⟩:=t
 refine⟨l,k _ _ n e,fun x hx=>?_⟩
 obtain⟨oc,vs,t,a,b⟩:=h x hx
 exact⟨oc,vs,t,k.hard sf a (fun z=>z),b⟩
theorem dk_ks {C a d:Addr}{D:Dk}(h:DkAt C a d D H)(n:d∉S)(sf:Sof S H)(k:KS S H H'):DkAt C a d D H':=by
 obtain⟨kvs,⟨dx,e1,e2⟩,p⟩:=h
 exact⟨kvs,⟨dx,k.hard sf e1 (fun z=>z),k _ _ n e2⟩,L2.Paired.imp' (fun _ _ g=>g.keep fun r xs e=>k.hard sf e (fun z=>z)) p⟩
end
abbrev LQ:Str:=(("law" : Str)++".<locals>.")++"<lambda>"
structure Pl where
 T:Addr
 TA:Addr
 x:Addr
 d:Addr
 h:Addr
structure Pl.Ok (p:Pl):Prop where
 t1:p.T≠p.TA
 d1:p.d≠p.h
structure Al (C:Addr)(p:Pl)(D:Dk)(H:Hp):Prop where
 tt:Tab LQ H p.T
 ta:Tab AsQ H p.TA
 dk:DkAt C p.x p.d D H
section
variable {C:Addr}{p:Pl}{D D':Dk}{H H':Hp}{r:Addr}{xs:List V}
theorem Al.same (w:Al C p D H)(s:Same H H'):Al C p D H':=⟨w.tt.same s,w.ta.same s,w.dk.same s⟩
theorem tab_at {q:Str}{T:Addr}(t:Tab q H T):∃ps,H T=some (.tbl ps):=let⟨_,e,_⟩:=t;⟨_,e⟩
theorem dk_at {x d:Addr}(h:DkAt C x d D H):∃kvs,H d=some (.dK kvs):=let⟨_,⟨_,_,e⟩,_⟩:=h;⟨_,e⟩
theorem ne_tab {q:Str}{T b:Addr}{o:HO}(t:Tab q H T)(e:H b=some o)(n:∀ps,o≠.tbl ps):T≠b:=fun z=>by
 obtain⟨ps,h⟩:=tab_at t
 rw[z,e]at h
 exact n _ (Option.some.inj h)
theorem ne_dict {d b:Addr}{kvs:List (Key×V)}{o:HO}(h:H d=some (.dK kvs))(e:H b=some o)(n:∀z,o≠.dK z):d≠b:=fun z=>by
 rw[z,e]at h
 exact n _ (Option.some.inj h)
theorem one_soft {x:Addr}{o:HO}(hx:H x=some o)(s:Soft o):Sof [x] H:=fun y hy=>by rw[mem_singleton.mp hy];exact⟨_,hx,s⟩
theorem one_ks {x:Addr}(k:∀c o,c≠x->H c=some o->H' c=some o):KS [x] H H':=fun c o n e=>k c o (fun z=>n (by rw[z];exact mem_singleton.mpr rfl)) e
theorem not1 {x y:Addr}(h:x≠y):x∉[y]:=fun m=>h (mem_singleton.mp m)
theorem Al.ks {x:Addr}{o:HO}(w:Al C p D H)(hx:H x=some o)(s:Soft o)(n1:p.T≠x)(n2:p.TA≠x)(n3:p.d≠x)(k:∀c u,c≠x->H c=some u->H' c=some u):Al C p D H':=
 ⟨tab_ks w.tt (not1 n1) (one_soft hx s) (one_ks k),tab_ks w.ta (not1 n2) (one_soft hx s) (one_ks k),dk_ks w.dk (not1 n3) (one_soft hx s) (one_ks k)⟩
theorem Al.lst (w:Al C p D H)(hr:H r=some (.lst xs))(k:Keep r H H'):Al C p D H':=by
 obtain⟨k1,h1⟩:=dk_at w.dk
 exact w.ks hr trivial (ne_tab w.tt hr fun _ z=>nomatch z) (ne_tab w.ta hr fun _ z=>nomatch z) (ne_dict h1 hr fun _ z=>nomatch z) k
theorem Al.lam (ok:p.Ok)(w:Al C p D H)(k:∀c u,c≠p.T->H c=some u->H' c=some u)(t:Tab LQ H' p.T):Al C p D H':=by
 obtain⟨ps,hT⟩:=tab_at w.tt
 obtain⟨k1,h1⟩:=dk_at w.dk
 exact⟨t,tab_ks w.ta (not1 ok.t1.symm) (one_soft hT trivial) (one_ks k),dk_ks w.dk (not1 (ne_tab w.tt h1 fun _ z=>nomatch z).symm) (one_soft hT trivial) (one_ks k)⟩
theorem Al.ask (ok:p.Ok)(w:Al C p D H)(a:Aq C p.x p.d p.TA D H H'):Al C p D H':=by
 obtain⟨ps,hT⟩:=tab_at w.ta
 exact⟨tab_ks w.tt (not1 ok.t1) (one_soft hT trivial) (one_ks a.kp),a.tb,a.dk⟩
theorem Al.put {n:Str}{row:List Int}(w:Al C p D H)(k:KeepD p.d H H')(dk:DkAt C p.x p.d (putD D n row) H'):Al C p (putD D n row) H':=by
 obtain⟨k1,h1⟩:=dk_at w.dk
 exact⟨tab_ks w.tt (not1 (ne_tab w.tt h1 fun _ z=>nomatch z)) (one_soft h1 trivial) (one_ks k),tab_ks w.ta (not1 (ne_tab w.ta h1 fun _ z=>nomatch z)) (one_soft h1 trivial) (one_ks k),dk⟩
theorem Al.own {o o':HO}(ok:p.Ok)(w:Al C p D H)(hh:H p.h=some o)(s:Soft o)(nt:∀ps,o≠.tbl ps):Al C p D (upd H p.h o'):=
 w.ks hh s (ne_tab w.tt hh nt) (ne_tab w.ta hh nt) ok.d1 fun c u n e=>by rw[upd_ne n];exact e
end
def heldK (D:Dk):List (Key×V):=D.map fun q=>(Sum.inr q.1,V.str (rowTxt q.2))
theorem held_len (D:Dk):(heldK D).length=D.length:=length_map ..
theorem held_keys (D:Dk):(heldK D).map (·.1)=(D.map (·.1)).map Sum.inr:=by unfold heldK;rw[List.map_map,List.map_map];rfl
theorem held_get {n:Str}:∀{D:Dk},valV (heldK D) (Sum.inr n)=(rowOf D n).map fun row=>V.str (rowTxt row)
 |[]=>rfl
 |(m,row)::D=>by
  have ih:=held_get (n:=n) (D:=D)
  by_cases c:m=n
  ·subst c
   rw[show rowOf ((m,row)::D) m=some row by unfold rowOf;rw[find?_cons_of_pos (by exact decide_eq_true rfl)];rfl]
   exact valV_pos (p:=(Sum.inr m,V.str (rowTxt row))) rfl
  ·rw[show rowOf ((m,row)::D) n=rowOf D n by unfold rowOf;rw[find?_cons_of_neg (by rw[decide_eq_false c];exact Bool.false_ne_true)],<-ih]
   exact valV_neg (p:=(Sum.inr m,V.str (rowTxt row))) (fun e=>c (Sum.inr.inj e))
theorem held_put (D:Dk)(n:Str)(row:List Int):putK (heldK D) (Sum.inr n) (V.str (rowTxt row))=heldK (putD D n row):=by
 have an:((heldK D).any fun kv=>decide (kv.1=Sum.inr n))=D.any fun q=>decide (q.1=n):=by
  unfold heldK
  rw[any_map]
  congr 1
  funext q
  show decide ((Sum.inr q.1:Key)=Sum.inr n)=decide (q.1=n)
  by_cases c:q.1=n
  ·rw[decide_eq_true c,decide_eq_true (by rw[c])]
  ·rw[decide_eq_false c,decide_eq_false (fun e=>c (Sum.inr.inj e))]
 unfold putK putD
 rw[an]
 by_cases c:(D.any fun q=>decide (q.1=n))=true
 ·rw[if_pos c,if_pos c]
  unfold heldK
  rw[List.map_map,List.map_map]
  refine map_congr_left fun q _=>?_
  show(if(Sum.inr q.1:Key)=Sum.inr n then _ else _)=_
  by_cases e:q.1=n
  ·rw[if_pos (by rw[e])]
   show _=((Sum.inr (if q.1=n then(q.1,row) else q).1:Key),V.str (rowTxt (if q.1=n then(q.1,row) else q).2))
   rw[if_pos e]
  ·rw[if_neg (fun z=>e (Sum.inr.inj z))]
   show _=((Sum.inr (if q.1=n then(q.1,row) else q).1:Key),V.str (rowTxt (if q.1=n then(q.1,row) else q).2))
   rw[if_neg e]
 ·rw[if_neg c,if_neg c]
  unfold heldK
  rw[map_append]
  rfl
end K96
namespace K96
open L2
def spLText:Sp:=fun vs H Q _=>∃(a:Addr) (row:List Int),vs=[.ref a]/\H a=some (.tup (row.map V.int))/\Wr row/\∀H',Same H H'->Q (.str (rowTxt row)) H'
section
variable {P:Program}{w:World}{K:W.Frag}{mg:Str->Option Value}{base:Heap}
theorem ok_L_row_text {f:Addr}{fd:FuncData}(F:Fun K "_law_row_text" "_law_row_text" s_L_row_text f fd)(nb:NbX mg)   :
 FnOk P w K mg base CX0 1 f fd ["_law_row_here"] spLText:=by
 have nd:=sc_L_row_text.nd
 refine F.ok (k:=0) sc_L_row_text (fun vs H Q E h=>?_) (fun cdv A outer s H vs Q E hr h=>?_)
 ·obtain⟨a,row,rfl,_⟩:=h
  rfl
 obtain⟨a,row,rfl,ha,wd,q⟩:=h
 refine⟨_,(pss_cons (ps_if (pt_cmpR (op_eqT hr.units0) (pv 0) (pe_tup pa_nil) (nomark _))
(pss_one (ps_ret pe_str))
pss_nil)
(pss_cons (ps_comp1 (ii:=1) nd rfl (Or.inl rfl) (sc:=defScope s_L_row_text) (N0:=["_law_row_here","_law_signs"]) (N:=["_law_row_here"]) (js:=[0]) rfl rfl rfl (by constructor<;>first|decide +kernel|rfl) rfl
(pi_range2 rfl nb.range (pa_cons (pe_ix ix_tup (pv 0) pe_int (fun _ _=>rfl)) (pa_cons (pe_op op_add (pe_ix ix_tup (pv 0) (pe_un un_neg pe_int) (fun _ _=>rfl)) pe_int) pa_nil)))
(fun _ _ _ _ _=>by exact pts_nil)
(fun _ _ _ _ _=>by exact(pe_ifExp (pt_cmpR (op_inK K rfl) (pv 0) (pv 1) rfl) pe_str pe_str)))
(pss_one (ps_ret (pe_op op_add_str (pe_op op_add_str (pe_callTy call_str_int rfl nb.str boot_str (pa_cons (pe_ix ix_tup (pv 0) pe_int (fun _ _=>rfl)) pa_nil)) pe_str) (pe_bm plainAttrs_str slot_str_join type_str_join mt_join pe_str (pa_cons (pv 1) pa_nil))))))),?_⟩
 refine⟨_,rfl,(by show 0<=sizeLine;decide),fun e0 he0=>?_⟩
 have s0:=same_new he0 (.tup [])
 have hE:(upd H e0 (.tup [])) e0=some (.tup (([]:List Int).map V.int)):=upd_same
 generalize upd H e0 (.tup [])=H0 at s0 hE ⊢
 refine⟨a,e0,_,_,rfl,rfl,SqT.of (s0 _ _ ha),SqT.of hE,_,rfl,?_⟩
 cases row with
 |nil=>
  rw[decide_eq_true rfl]
  exact iteT (q H0 s0)
 |cons p0 rest=>
  rw[decide_eq_false (by simp)]
  refine iteF ?_
  obtain⟨el,ge,ml⟩:=up_last wd.up
  have bl:=wd.bd _ ml
  have b0:=wd.bd p0 mem_cons_self
  have wi:=wd.wide
  have hd0:(p0::rest).headD 0=p0:=rfl
  rw[hd0]at wi
  have sl:=signs_len (p0::rest)
  rw[hd0]at sl
  have sa:=signs_are (p0::rest)
  rw[hd0]at sa
  have ih:atI ((p0::rest).map V.int) ((0:Nat):Int)=some (.int p0):=atI_nat rfl
  have il:=at_last el
  have js:=join_signs (signsOf (p0::rest))
  have ss:=sum_signs (signsOf (p0::rest))
  have n0:p0.natAbs<10^10:=by omega
  have nl:=num_len n0
  have tx:rowTxt (p0::rest)=numT p0++oS ":"++⟨(signsOf (p0::rest)).toArray⟩:=by
   unfold rowTxt
   rw[if_neg (by simp)]
   rfl
  rw[tx]at q
  generalize hL:(p0::rest).getLastD 0=last at *
  generalize hG:signsOf (p0::rest)=sg at *
  refine⟨_,rfl,a,_,_,_,rfl,rfl,SqT.of (s0 _ _ ha),ih,_,rfl,_,rfl,a,_,_,_,rfl,rfl,SqT.of (s0 _ _ ha),il,_,_,rfl,rfl,_,_,rfl,⟨by omega,by omega,by omega,by omega⟩,fun D hD=>?_⟩
  refine comp_go (last+1 - p0).toNat (by rw[sizeLine_eq];omega) (fun(j:Nat)=>.str (if p0+(j:Int)∈(p0::rest) then oS "o" else oS ".")) (fun σ=>∃o1,σ=[o1,some (.ref a)]) (fun i H' x=>x=.int (p0+(i:Int))) hD ⟨_,rfl⟩ (fun i H' _=>items_rng p0 _ i H' (Same.refl _)) (fun i x σ' H2 hi s2 im hσ R hR=>?_) (fun H1 s1 hD1=>?_)
  ·obtain⟨o1,rfl⟩:=hσ
   subst im
   refine⟨_,rfl,_,rfl,a,_,rfl,.inr (SqT.of (s2 _ _ (s0 _ _ ha))),rfl,flat_nums _,_,rfl,?_⟩
   rw[in_nums]
   by_cases m:p0+(i:Int)∈p0::rest
   ·rw[decide_eq_true m]
    exact iteT (hR _ _ _ ⟨_,rfl⟩ (Same.refl _) (by rw[if_pos m]))
   ·rw[decide_eq_false m]
    exact iteF (hR _ _ _ ⟨_,rfl⟩ (Same.refl _) (by rw[if_neg m]))
  rw[sa]at hD1
  refine⟨_,rfl,a,_,_,_,rfl,rfl,SqT.of (s1 _ _ (s0 _ _ ha)),ih,_,rfl,num_log n0,_,_,rfl,rfl,?_,?_⟩
  ·rw[sizeLine_eq]
   show(numT p0).length+1<=_
   omega
  ·refine⟨rfl,_,rfl,_,D,_,rfl,rfl,hD1,by rw[ss,sizeLine_eq];omega,by rw[js,txt_len,sizeLine_eq];omega,?_⟩
   rw[js]
   refine⟨_,_,rfl,rfl,?_,q H1 (s0.trans s1)⟩
   rw[Str.length_append,txt_len,sizeLine_eq]
   show(numT p0).length+1+sg.length<=_
   omega
end
end K96
namespace L2
def Din (K:W.Frag)(x:Str)(st:Stmt):Prop:=∃(f:Addr) (fd:FuncData),PySem.W.nsIn K mainGlobals x=some (some (.ref f))/\Fun K x x st f fd
theorem din {K:W.Frag}{x:Str}{st:Stmt}{f:Addr}{oc kV doc pm cdv ct:Value}{od an:Option Addr}{osl:Array (Option Value)}(a:PySem.W.nsIn K mainGlobals x=some (some (.ref f)))(l:K.lookup f=some ⟨oc,od,.func (PySem.W.fnOf x x (defArgs st) (defBody st) (defScope st) .none kV doc pm an cdv ct),osl⟩)(c:codeIn K cdv x=true)(k:keepIn K (.ref f)=true):Din K x st:=⟨f,_,a,fun_mk l c k⟩
theorem Din.has {P:Program}{w:World}{K:W.Frag}{mg:Str->Option Value}{base h:Heap}{x:Str}{st:Stmt}{ps:List Str}{sp:Sp}{lv:Nat}(d:Din K x st)(X:K.In h)(G:h.Ns mainGlobals mg)(ok:∀{f:Addr} {fd:FuncData},Fun K x x st f fd->FnOk P w K mg base CX0 lv f fd ps sp)(hb:∀(kV doc pm:Value) (an:Option Addr) (cdv ct:Value) (us:List Value),us.length=ps.length->bindArgs (PySem.W.fnOf x x (defArgs st) (defBody st) (defScope st) .none kV doc pm an cdv ct) ⟨us,[]⟩=pure (ps.zip us):=by
  intro _ _ _ _ _ _ us hl
  first
   |exact(match us,hl with | [_],_=>rfl)
   |exact(match us,hl with | [_,_],_=>rfl)
   |exact(match us,hl with | [_,_,_],_=>rfl)
   |exact(match us,hl with | [_,_,_,_],_=>rfl)):Has P w K mg base lv x ps sp:=by
 obtain⟨f,fd,a,F⟩:=d
 exact⟨f,fd,ok F,mg_of X G a,F.kp,F.binds hb⟩
section
variable {X:Cx}{T c:Addr}{params:Arguments}{body:Expr}{scope sc:Scope}{x:Str}{p lpos pos:Pos}{k kr k':Nat}{px:Str}{Ec:VK->XK}{te:XK->TE}{N N0:List Str}{js:List Nat}
end
section
variable {P:Program}{w:World}{K:W.Frag}{mg:Str->Option Value}{base h:Heap}{x px:Str}{st:Stmt}{ps:List Str}{sp:Sp}{lv k c:Nat}{R:VK->VK}{Ec:VK->XK}
theorem Din.hasE (d:Din K x st)(X:K.In h)(G:h.Ns mainGlobals mg)(ok:∀{f:Addr} {fd:FuncData},Fun K x x st f fd->FnOk P w K mg base (CXF P w) lv f fd ps sp)(hb:∀(kV doc pm:Value) (an:Option Addr) (cdv ct:Value) (us:List Value),us.length=ps.length->bindArgs (PySem.W.fnOf x x (defArgs st) (defBody st) (defScope st) .none kV doc pm an cdv ct) ⟨us,[]⟩=pure (ps.zip us):=by
  intro _ _ _ _ _ _ us hl
  first
   |exact(match us,hl with | [_],_=>rfl)
   |exact(match us,hl with | [_,_],_=>rfl)
   |exact(match us,hl with | [_,_,_],_=>rfl)):HasE P w K mg base lv x ps sp:=by
 obtain⟨f,fd,a,F⟩:=d
 exact⟨f,fd,ok F,mg_of X G a,F.kp,F.binds hb⟩
theorem Din.hasR (d:Din K x st)(X:K.In h)(G:h.Ns mainGlobals mg)(ok:∀{f:Addr} {fd:FuncData},Fun K x x st f fd->∀base,FnOk P w K mg base CX0 lv f fd [px] (spRef P w K mg base k R Ec))(hb:∀(kV doc pm:Value) (an:Option Addr) (cdv ct:Value) (us:List Value),us.length=[px].length->bindArgs (PySem.W.fnOf x x (defArgs st) (defBody st) (defScope st) .none kV doc pm an cdv ct) ⟨us,[]⟩=pure ([px].zip us):=by
  intro _ _ _ _ _ _ us hl
  exact(match us,hl with | [_],_=>rfl)):HasR P w K mg lv k x px R Ec:=by
 obtain⟨f,fd,a,F⟩:=d
 exact⟨f,fd,ok F,mg_of X G a,F.kp,F.binds hb⟩
def DinC (K:W.Frag)(x:Str)(st:Stmt)(c:Addr):Prop:=∃(f:Addr) (fd:FuncData),PySem.W.nsIn K mainGlobals x=some (some (.ref f))/\Fun K x x st f fd/\fd.code=.ref c
theorem dinC {c f:Addr}{oc kV doc pm ct:Value}{od an:Option Addr}{osl:Array (Option Value)}(a:PySem.W.nsIn K mainGlobals x=some (some (.ref f)))(l:K.lookup f=some ⟨oc,od,.func (PySem.W.fnOf x x (defArgs st) (defBody st) (defScope st) .none kV doc pm an (.ref c) ct),osl⟩)(cc:codeIn K (.ref c) x=true)(k:keepIn K (.ref f)=true):DinC K x st c:=⟨f,_,a,fun_mk l cc k,rfl⟩
theorem DinC.has {c:Addr}(d:DinC K x st c)(X:K.In h)(G:h.Ns mainGlobals mg)(ok:∀{f:Addr} {fd:FuncData},Fun K x x st f fd->fd.code=.ref c->FnOk P w K mg base CX0 lv f fd ps sp)(hb:∀(kV doc pm:Value) (an:Option Addr) (cdv ct:Value) (us:List Value),us.length=ps.length->bindArgs (PySem.W.fnOf x x (defArgs st) (defBody st) (defScope st) .none kV doc pm an cdv ct) ⟨us,[]⟩=pure (ps.zip us):=by
  intro _ _ _ _ _ _ us hl
  first
   |exact(match us,hl with | [_],_=>rfl)
   |exact(match us,hl with | [_,_],_=>rfl)
   |exact(match us,hl with | [_,_,_],_=>rfl)):Has P w K mg base lv x ps sp:=by
 obtain⟨f,fd,a,F,hc⟩:=d
 exact⟨f,fd,ok F hc,mg_of X G a,F.kp,F.binds hb⟩
def XIn (K:W.Frag)(x:Str)(k:Addr)(bm:List Value):Prop:=PySem.W.nsIn K mainGlobals x=some (some (.ref k))/\Exc K k bm
theorem xin {k N:Addr}{nm qq:Str}{bs bm sb:List Value}{hd ab:Bool}{sn:List Str}{co:Option Bool}{dd:Option Addr}{w0 w1 w2 w3 w5:Option Value}(a:PySem.W.nsIn K mainGlobals x=some (some (.ref k)))(lk:K.lookup k=some (excClassObj nm qq k N bs bm hd sn sb ab co dd w0 w1 w2 w3 w5 "ValueError.__new__"))(no:nsOkIn K N=true)(ni:PySem.W.nsIn K N "__init__" = some none)(tl:tailIn K mroV bm=true)(cb:bm.contains (.type "BaseException")=true)(cv:bm.contains (.type "ValueError")=true):XIn K x k bm:=
 ⟨a,⟨⟨_,_,_,_,_,_,_,_,_,_,_,_,_,_,_,lk,no,ni⟩,tl,cb,cv⟩⟩
end
open PySem.W
section
variable {prog:Program}{w:World}{A:Around}{E:Value->Shared->Prop}{s:Shared}
end
end L2
namespace L2
open PySem.W
section
variable {prog:Program}{w:World}{A:Around}{E:Value->Shared->Prop}{s:Shared}
end
end L2
namespace L2
open PySem.W
section
variable {prog:Program}{w:World}{A:Around}{E:Value->Shared->Prop}{s:Shared}
end
end L2
namespace L2
open PySem.W
section
variable {prog:Program}{w:World}{A:Around}{E:Value->Shared->Prop}{s:Shared}
structure Its5 (h:Heap)(lo:Addr)(es:Array DictEntry)(vs:List Value):Prop where
 len:vs.length<=es.size
 at_:∀(j:Nat) (v:Value),vs[j]?=some v->∃(hj:j<es.size) (a:Addr),v=.ref a/\lo<a/\h.get? a=some {cls:=.type "tuple",data:=.seq #[es[j].key,es[j].val]}
 up:∀(i j:Nat) (a b:Addr),i<j->vs[i]?=some (.ref a)->vs[j]?=some (.ref b)->a<b
end
end L2
namespace L2
open PySem.W
section
variable {P:Program}{w:World}{A:Around}{E:Value->Shared->Prop}{s:Shared}
end
end L2
namespace L2
open PySem.W
end L2
namespace BB
structure Ring (N:Int)(bs:List Int):Prop where
 up:bs.Pairwise (· < ·)
 bd:∀b∈bs,0<=b/\b<N
 few:2*(bs.length:Int)<N
section
variable {N:Int}{bs:List Int}
end
structure Way (N k:Nat)(w:List Int):Prop where
 len:w.length=k
 up:w.Pairwise (· < ·)
 bd:∀x∈w,0<=x/\x<(N:Int)
end BB
namespace L2
open PySem.W
structure Cnt (bl:List (List Int×Int))(xs:List (List Int)):Prop where
 nd:(bl.map (·.1)).Nodup
 mem:∀t n,(t,n)∈bl↔0<xs.count t/\n=((xs.count t:Nat):Int)
theorem nodup_le {α:Type}[DecidableEq α]:∀{xs ys:List α},xs.Nodup->(∀x∈xs,x∈ys)->xs.length<=ys.length
 |[],_,_,_=>zero_le _
 |x::xs,ys,nd,h=>by
  obtain⟨n1,n2⟩:=nodup_cons.mp nd
  have m:=h x mem_cons_self
  have:=nodup_le (xs:=xs) (ys:=ys.erase x) n2 fun z hz=>(List.mem_erase_of_ne (fun e=>n1 (by rw[<-e];exact hz))).mpr (h z (mem_cons_of_mem _ hz))
  rw[List.length_erase_of_mem m]at this
  have:=List.length_pos_of_mem m
  rw[length_cons]
  omega
end L2
namespace K96
open L2
def spLaw (K:W.Frag)(T TA:Addr):Sp:=fun vs H Q _=>∃(a:Addr) (ns:List Int),vs=[.ref a]/\SqL K H a (ns.map V.int)/\ns.length<=63/\H T=some (.tbl #[])/\H TA=some (.tbl #[])/\T≠TA/\∀H',Q (.bl true) H'
theorem mem_put {D:Dk}{n:Str}{row:List Int}{q:Str×List Int}(h:q∈putD D n row):q=(n,row)\/q∈D:=by
 unfold putD at h
 split at h
 ·obtain⟨q',hq',e⟩:=mem_map.mp h
  by_cases c:q'.1=n
  ·rw[if_pos c]at e;left;rw[<-e,c]
  ·rw[if_neg c]at e;right;rw[<-e];exact hq'
 ·exact(mem_append.mp h).symm.imp mem_singleton.mp id
theorem find_map {D:Dk}{n m:Str}{row:List Int}:((D.map fun p=>if p.1=n then(p.1,row) else p).find? fun p=>decide (p.1=m))=(D.find? fun p=>decide (p.1=m)).map fun p=>if p.1=n then(p.1,row) else p:=by
 induction D with
 |nil=>rfl
 |cons p D ih=>
  rw[map_cons,find?_cons,find?_cons]
  have e:(if p.1=n then(p.1,row) else p).1=p.1:=by split<;>rfl
  rw[e]
  cases decide (p.1=m) with
  |true=>rfl
  |false=>exact ih
theorem row_put_ne {D:Dk}{n m:Str}{row:List Int}(h:m≠n):rowOf (putD D n row) m=rowOf D m:=by
 unfold rowOf putD
 split
 ·rw[find_map,Option.map_map]
  cases e:D.find? fun p=>decide (p.1=m) with
  |none=>rfl
  |some p=>
   have h1:=find?_some e
   have e1:p.1=m:=of_decide_eq_true h1
   show some (if p.1=n then(p.1,row) else p).2=some p.2
   rw[if_neg (by rw[e1];exact h)]
 ·rw[find?_append]
  cases e:D.find? fun p=>decide (p.1=m) with
  |none=>
   rw[find?_cons_of_neg (by rw[decide_eq_false (fun z=>h z.symm)];exact Bool.false_ne_true)]
   rfl
  |some p=>rfl
theorem row_put {D:Dk}{n:Str}{row:List Int}:rowOf (putD D n row) n=some row:=by
 unfold rowOf putD
 split
 ·rename_i c
  rw[find_map,Option.map_map]
  obtain⟨p,hp,e⟩:=any_eq_true.mp c
  cases f:D.find? fun p=>decide (p.1=n) with
  |none=>exact absurd e (find?_eq_none.mp f p hp)
  |some p'=>
   have h1:=find?_some f
   have e1:p'.1=n:=of_decide_eq_true h1
   show some (if p'.1=n then(p'.1,row) else p').2=some row
   rw[if_pos e1]
 ·rename_i c
  rw[find?_append]
  have:(D.find? fun p=>decide (p.1=n))=none:=find?_eq_none.mpr fun p hp e=>c (any_eq_true.mpr ⟨p,hp,e⟩)
  rw[this,find?_cons_of_pos (by exact decide_eq_true rfl)]
  rfl
theorem put_names {D:Dk}{n:Str}{row:List Int}(nd:(D.map (·.1)).Nodup):((putD D n row).map (·.1)).Nodup:=by
 unfold putD
 split
 ·rw[List.map_map,show((fun x:Str×List Int=>x.1)∘fun p=>if p.1=n then(p.1,row) else p)=(fun p=>p.1) by funext p;show(if p.1=n then(p.1,row) else p).1=p.1;split<;>rfl]
  exact nd
 ·rename_i c
  rw[map_append]
  refine List.nodup_append.mpr ⟨nd,List.pairwise_singleton _ _,fun x hx y hy e=>c ?_⟩
  obtain⟨p,hp,rfl⟩:=mem_map.mp hx
  have:y=n:=by simpa using hy
  exact any_eq_true.mpr ⟨p,hp,decide_eq_true (by rw[e,this])⟩
theorem put_take {D:Dk}{i:Nat}{n:Str}{row:List Int}(nd:(D.map (·.1)).Nodup)(e:D[i]?=some (n,row)):putD (D.take i) n row=D.take (i+1):=by
 have il:=(List.getElem?_eq_some_iff.mp e).1
 unfold putD
 rw[if_neg]
 ·rw[take_add_one,e];rfl
 ·intro z
  obtain⟨p,hp,ep⟩:=any_eq_true.mp z
  have ep:p.1=n:=of_decide_eq_true ep
  obtain⟨j,hj⟩:=List.getElem?_of_mem hp
  have jl:j<i:=by have:=(List.getElem?_eq_some_iff.mp hj).1;rw[length_take]at this;omega
  rw[List.getElem?_take_of_lt jl]at hj
  have:=(List.nodup_iff_pairwise_ne.mp nd)
  have p1:(D.map (·.1))[j]?=some n:=by rw[getElem?_map,hj];show some p.1=_;rw[ep]
  have p2:(D.map (·.1))[i]?=some n:=by rw[getElem?_map,e];rfl
  have jm:j<(D.map (·.1)).length:=by rw[length_map];omega
  have im:i<(D.map (·.1)).length:=by rw[length_map];omega
  have ne:=List.pairwise_iff_getElem.mp this j i jm im jl
  rw[List.getElem?_eq_getElem jm]at p1
  rw[List.getElem?_eq_getElem im]at p2
  exact ne ((Option.some.inj p1).trans (Option.some.inj p2).symm)
theorem row_at {D:Dk}{i:Nat}{n:Str}{row:List Int}(nd:(D.map (·.1)).Nodup)(e:D[i]?=some (n,row)):rowOf D n=some row:=by
 have il:=(List.getElem?_eq_some_iff.mp e).1
 have t:=put_take nd e
 have h1:rowOf (D.take (i+1)) n=some row:=by rw[<-t];exact row_put
 unfold rowOf at h1 ⊢
 conv=>lhs;rw[<-List.take_append_drop (i+1) D,find?_append]
 cases f:(D.take (i+1)).find? fun p=>decide (p.1=n) with
 |none=>rw[f]at h1;cases h1
 |some p=>rw[f]at h1;exact h1
theorem row_mem {D:Dk}{n:Str}{row:List Int}(h:rowOf D n=some row):(n,row)∈D:=by
 unfold rowOf at h
 cases e:D.find? fun p=>decide (p.1=n) with
 |none=>rw[e]at h;cases h
 |some p=>
  rw[e]at h
  cases h
  have h1:=find?_some e
  have this:p.1=n:=of_decide_eq_true h1
  rw[<-this]
  exact List.mem_of_find?_eq_some e
def base13:List Str:=ZN::(List.range 12).map fun j=>(⟨#[107+j]⟩:Str)
structure DOk (i:Nat)(D:Dk):Prop where
 nm:∀q∈D,nameB q.1=true/\Wd q.2/\q.2.length<=12
 nd:(D.map (·.1)).Nodup
 z:rowOf D ZN=some ZR
 few:D.length<=13+i
 src:∃xs:List Str,xs.length<=i/\∀q∈D,q.1∈base13\/q.1∈xs
theorem DOk.put {i:Nat}{D:Dk}{n:Str}{row:List Int}(h:DOk i D)(hn:nameB n=true)(ne:n≠ZN)(wd:Wd row)(l12:row.length<=12):DOk (i+1) (putD D n row):=by
 obtain⟨xs,hx,sr⟩:=h.src
 refine⟨fun q hq=>?_,put_names h.nd,by rw[row_put_ne (fun e=>ne e.symm)];exact h.z,?_,n::xs,by rw[length_cons];omega,fun q hq=>?_⟩
 ·rcases mem_put hq with rfl | z
  ·exact⟨hn,wd,l12⟩
  ·exact h.nm q z
 ·have:=put_len D n row
  have:=h.few
  omega
 ·rcases mem_put hq with rfl | z
  ·exact .inr mem_cons_self
  ·exact(sr q z).imp id (mem_cons_of_mem _)
def L7:List Str:=(oS "abcdefg").cps.toList.map fun c=>(⟨#[c]⟩:Str)
theorem l7_ok:∀c∈L7,nameB c=true/\c∉base13:=by decide +kernel
theorem l7_nd:L7.Nodup:=by decide +kernel
theorem some_lost {i:Nat}{D:Dk}(h:DOk i D)(hi:i<=5):∃c∈L7,rowOf D c=none:=by
 apply Classical.byContradiction
 intro no
 obtain⟨xs,hx,sr⟩:=h.src
 have all:∀c∈L7,c∈xs:=fun c hc=>by
  cases e:rowOf D c with
  |none=>exact absurd ⟨c,hc,e⟩ no
  |some row=>exact(sr _ (row_mem e)).resolve_left (l7_ok c hc).2
 have:=nodup_le l7_nd all
 have:L7.length=7:=by decide +kernel
 omega
def dkN (m:Nat):Dk:=(ZN,ZR)::(List.range m).map fun j=>((⟨#[107+j]⟩:Str),[(j:Int)+1,(j:Int)+3])
theorem dkN_put:∀i,i<12->putD (dkN i) ⟨#[107+i]⟩ [(i:Int)+1,(i:Int)+3]=dkN (i+1):=by decide +kernel
theorem dkN_txt:∀i:Nat,i<12->numT ((i+1:Nat):Int)++oS ":o.o" = rowTxt [(i:Int)+1,(i:Int)+3]:=by decide +kernel
theorem dkN_len (m:Nat):(dkN m).length=m+1:=by unfold dkN;rw[length_cons,length_map,length_range]
theorem dkN_name:∀j,j<12->nameB (⟨#[107+j]⟩:Str)=true:=by decide +kernel
theorem dkN_ok {m:Nat}(h:m=0\/m=12):DOk 0 (dkN m):=by
 have m12:m<=12:=by omega
 have each:∀q∈dkN m,q=(ZN,ZR)\/∃j,j<12/\q=((⟨#[107+j]⟩:Str),[(j:Int)+1,(j:Int)+3]):=fun q hq=>by
  unfold dkN at hq
  rcases mem_cons.mp hq with e | e
  ·exact .inl e
  ·obtain⟨j,hj,rfl⟩:=mem_map.mp e
   exact .inr ⟨j,by have:=mem_range.mp hj;omega,rfl⟩
 refine⟨fun q hq=>?_,by rcases h with rfl | rfl<;>decide +kernel,by rcases h with rfl | rfl<;>decide +kernel,by rw[dkN_len];omega,[],Nat.le_refl _,fun q hq=>.inl ?_⟩
 ·rcases each q hq with rfl | ⟨j,hj,rfl⟩
  ·exact⟨z_name,z_wd,by decide⟩
  ·refine⟨dkN_name j hj,⟨?_,fun p hp=>?_,?_⟩,(by show 2<=12;omega)⟩
   ·simp
   ·simp only[mem_cons,not_mem_nil,or_false]at hp
    rcases hp with rfl | rfl<;>omega
   ·show(j:Int)+3 - ((j:Int)+1)<=199
    omega
 ·unfold base13
  rcases each q hq with rfl | ⟨j,hj,rfl⟩
  ·exact mem_cons_self
  ·exact mem_cons_of_mem _ (mem_map.mpr ⟨j,mem_range.mpr hj,rfl⟩)
def Hl (D:Dk)(u:HO):Prop:=u=.dK (heldK D)\/∃o,u=.frz o (.dK (heldK D))
section
variable {D:Dk}{u:HO}
theorem Hl.soft (h:Hl D u):Soft u:=by
 rcases h with rfl | ⟨o,rfl⟩<;>exact trivial
theorem Hl.tbl (h:Hl D u):∀ps,u≠.tbl ps:=by
 rcases h with rfl | ⟨o,rfl⟩<;>exact fun _ z=>nomatch z
theorem Hl.lst (h:Hl D u):∀ps,u≠.lst ps:=by
 rcases h with rfl | ⟨o,rfl⟩<;>exact fun _ z=>nomatch z
theorem Hl.get {H:Hp}{a:Addr}{n:Str}(h:Hl D u)(e:H a=some u):DGet H a (.str n) ((rowOf D n).map fun row=>V.str (rowTxt row)):=by
 rw[<-held_get]
 rcases h with rfl | ⟨o,rfl⟩
 ·exact DGet.k (k:=Sum.inr n) e
 ·exact .inl ⟨_,Sum.inr n,.inr ⟨o,e⟩,rfl,rfl⟩
end
structure It (C:Addr)(p:Pl)(r:Addr)(b:Bool)(D:Dk)(u:HO)(H0 H:Hp):Prop where
 al:Al C p D H
 st:∃x,StAt H r x b
 hh:H p.h=some u
 kp:KS [p.T,p.TA,p.d,p.h] H0 H
 rn:H0 r=none
section
variable {C:Addr}{p:Pl}{r:Addr}{b:Bool}{D D':Dk}{u:HO}{H0 H H':Hp}
theorem four {c:Addr}(h:c∉[p.T,p.TA,p.d,p.h]):c≠p.T/\c≠p.TA/\c≠p.d/\c≠p.h:=by
 simp only[mem_cons,not_mem_nil,or_false,not_or]at h
 exact h
theorem It.same (w:It C p r b D u H0 H)(s:Same H H'):It C p r b D u H0 H':=by
 obtain⟨x,hx⟩:=w.st
 exact⟨w.al.same s,⟨x,hx.same s⟩,s _ _ w.hh,fun c o n e=>s _ _ (w.kp c o n e),w.rn⟩
theorem It.keep (w:It C p r b D u H0 H)(h:Hl D' u)(k:Keep r H H'){x':Int}(d:StAt H' r x' b):It C p r b D u H0 H':=by
 obtain⟨x,hx⟩:=w.st
 refine⟨w.al.lst hx.1 k,⟨x',d⟩,k _ _ (fun z=>?_) w.hh,fun c o n e=>k _ _ (ne_of_none e w.rn) (w.kp c o n e),w.rn⟩
 have:=w.hh
 rw[z,hx.1]at this
 exact h.lst _ (Option.some.inj this).symm
theorem It.lam (ok:p.Ok)(h:Hl D' u)(w:It C p r b D u H0 H)(k:∀c o,c≠p.T->H c=some o->H' c=some o)(t:Tab LQ H' p.T):It C p r b D u H0 H':=by
 obtain⟨x,hx⟩:=w.st
 exact⟨w.al.lam ok k t,⟨x,k _ _ (ne_tab w.al.tt hx.1 fun _ z=>nomatch z).symm hx.1,hx.2⟩,k _ _ (ne_tab w.al.tt w.hh h.tbl).symm w.hh,fun c o n e=>k c o (four n).1 (w.kp c o n e),w.rn⟩
theorem It.ask (ok:p.Ok)(h:Hl D' u)(w:It C p r b D u H0 H)(a:Aq C p.x p.d p.TA D H H'):It C p r b D u H0 H':=by
 obtain⟨x,hx⟩:=w.st
 exact⟨w.al.ask ok a,⟨x,a.kp _ _ (ne_tab w.al.ta hx.1 fun _ z=>nomatch z).symm hx.1,hx.2⟩,a.kp _ _ (ne_tab w.al.ta w.hh h.tbl).symm w.hh,fun c o n e=>a.kp c o (four n).2.1 (w.kp c o n e),w.rn⟩
theorem It.put (ok:p.Ok){n:Str}{row:List Int}(w:It C p r b D u H0 H)(k:KeepD p.d H H')(dk:DkAt C p.x p.d (putD D n row) H'):It C p r b (putD D n row) u H0 H':=by
 obtain⟨x,hx⟩:=w.st
 obtain⟨k1,h1⟩:=dk_at w.al.dk
 exact⟨w.al.put k dk,⟨x,k _ _ (ne_dict h1 hx.1 fun _ z=>nomatch z).symm hx.1,hx.2⟩,k _ _ ok.d1.symm w.hh,fun c o n' e=>k c o (four n').2.2.1 (w.kp c o n' e),w.rn⟩
theorem It.own (ok:p.Ok)(h:Hl D' u)(u':HO)(w:It C p r b D u H0 H):It C p r b D u' H0 (upd H p.h u'):=by
 obtain⟨x,hx⟩:=w.st
 refine⟨w.al.own ok w.hh h.soft h.tbl,⟨x,?_,hx.2⟩,upd_same,fun c o n e=>?_,w.rn⟩
 ·rw[upd_ne (fun z=>by have:=w.hh;rw[<-z,hx.1]at this;exact h.lst _ (Option.some.inj this).symm)]
  exact hx.1
 ·rw[upd_ne (four n).2.2.2]
  exact w.kp c o n e
theorem sq_ks {K:W.Frag}{a:Addr}{xs:List V}{S:List Addr}(sq:SqL K H a xs)(hs:∀x∈S,∃o,H x=some o/\(∀l,o≠.lst l)/\∀ob l,o≠.frz ob (.lst l))(k:KS S H H'):SqL K H' a xs:=by
 rcases sq with(h | ⟨o,h⟩) | h
 ·refine .inl (.inl (k _ _ (fun m=>?_) h))
  obtain⟨u,e,n1,_⟩:=hs a m
  rw[h]at e
  exact n1 _ (Option.some.inj e).symm
 ·refine .inl (.inr ⟨o,k _ _ (fun m=>?_) h⟩)
  obtain⟨u,e,_,n2⟩:=hs a m
  rw[h]at e
  exact n2 _ _ (Option.some.inj e).symm
 ·exact .inr h
theorem Al.four (w:Al C p D H)(h:H p.h=some u)(hl:Hl D' u):∀x∈[p.T,p.TA,p.d,p.h],∃o,H x=some o/\(∀l,o≠.lst l)/\∀ob l,o≠.frz ob (.lst l):=fun x hx=>by
 simp only[mem_cons,not_mem_nil,or_false]at hx
 rcases hx with rfl | rfl | rfl | rfl
 ·obtain⟨ps,e⟩:=tab_at w.tt
  exact⟨_,e,fun _ z=>(nomatch z),fun _ _ z=>(nomatch z)⟩
 ·obtain⟨ps,e⟩:=tab_at w.ta
  exact⟨_,e,fun _ z=>(nomatch z),fun _ _ z=>(nomatch z)⟩
 ·obtain⟨ps,e⟩:=dk_at w.dk
  exact⟨_,e,fun _ z=>(nomatch z),fun _ _ z=>(nomatch z)⟩
 ·refine⟨_,h,hl.lst,?_⟩
  rcases hl with rfl | ⟨o,rfl⟩<;>exact fun _ _ z=>(nomatch z)
theorem sq_four {K:W.Frag}{a:Addr}{xs:List V}(sq:SqL K H a xs)(w:Al C p D H)(h:H p.h=some u)(hl:Hl D' u){x:Addr}(hx:x∈[p.T,p.TA,p.d,p.h])(k:∀c o,c≠x->H c=some o->H' c=some o):SqL K H' a xs:=
 sq_ks sq (w.four h hl) fun c o n e=>k c o (fun z=>n (by rw[z];exact hx)) e
end
theorem shp_row {n:Str}{row:List Int}(hn:nameB n=true)(wd:Wd row)(l12:row.length<=12):Line (oS "row "++n++oS " "++rowTxt row) (oS "row") [n,rowTxt row] [oS "N",oS "TEXT"]:=by
 rw[show(oS "row "++n++oS " "++rowTxt row)=J [w_ "row",n,rowTxt row] from J3 (by decide +kernel)]
 exact ln (fk (fr_w "row" (by decide +kernel)) (fk (fr_name hn) (fk (fr_text wd) fk_nil))) (by omega) (by decide +kernel) rfl (gdc (gN hn) (gd1 (good_text wd l12)))
theorem shp_show {n:Str}(hn:nameB n=true):Line (oS "show "++n) (oS "show") [n] [oS "A"]:=by
 rw[show(oS "show "++n)=J [w_ "show",n] from by rw[J_cons,show oS "show " = w_ "show"++BLK by decide +kernel];simp only[app_assoc];rfl]
 exact ln (fk (fr_w "show" (by decide +kernel)) (fk (fr_name hn) fk_nil)) (by omega) (by decide +kernel) rfl (gd1 (gA hn))
theorem sl_k {v:Int}(h:v=0\/v=12):∃m:Nat,(m=0\/m=12)/\Txt.slice (oS "klmnopqrstuv") none (some v)=⟨((List.range m).map (107+·)).toArray⟩:=by
 rcases h with rfl | rfl
 ·exact⟨0,.inl rfl,by decide +kernel⟩
 ·exact⟨12,.inr rfl,by decide +kernel⟩
theorem pick_k {v:Int}(h0:0<=v)(h2:v<2):∃y:Int,(y=0\/y=12)/\atI [V.int 0,V.int 12] v=some (.int y):=by
 obtain rfl | rfl:v=0\/v=1:=by omega
 ·exact⟨0,.inl rfl,atI_nat (j:=0) rfl⟩
 ·exact⟨12,.inr rfl,atI_nat (j:=1) rfl⟩
theorem k_sign {m i c:Nat}(h:(((List.range m).map (107+·)).toArray)[i]?=some c):c=107+i:=by
 rw[List.getElem?_toArray,getElem?_map]at h
 obtain⟨j,e,rfl⟩:=map_eq_some_iff.mp h
 rw[getElem?_range (by
  have:=(List.getElem?_eq_some_iff.mp e).1
  rwa [length_range]at this)]at e
 cases e
 rfl
theorem k_size (m:Nat):(((List.range m).map (107+·)).toArray).size=m:=by simp
def cand (n:Str)(i:Nat):Str:=(n::L7).getD i ⟨#[]⟩
theorem lost_first {D:Dk}{n:Str}(ex:∃c∈L7,rowOf D c=none)(hn:nameB n=true):∃o,nameB o=true/\rowOf D o=none/\(((List.range 8).filter fun i=>(rowOf D (cand n i)).isNone).map fun i=>V.str (cand n i))[0]?=some (.str o):=by
 have l8:(n::L7).length=8:=by rw[length_cons];decide +kernel
 cases e:(List.range 8).filter fun i=>(rowOf D (cand n i)).isNone with
 |nil=>
  obtain⟨c,hc,hr⟩:=ex
  obtain⟨j,hj⟩:=List.getElem?_of_mem (mem_cons_of_mem n hc)
  have jl:=(List.getElem?_eq_some_iff.mp hj).1
  have:j∈(List.range 8).filter fun i=>(rowOf D (cand n i)).isNone:=mem_filter.mpr ⟨mem_range.mpr (by omega),by
   show(rowOf D ((n::L7).getD j ⟨#[]⟩)).isNone=true
   rw[getD_eq_getElem?_getD,hj,Option.getD_some,hr]
   rfl⟩
  rw[e]at this
  exact absurd this not_mem_nil
 |cons i t=>
  have hi:i∈(List.range 8).filter fun i=>(rowOf D (cand n i)).isNone:=by rw[e];exact mem_cons_self
  obtain⟨h1,h2⟩:=mem_filter.mp hi
  have i8:=mem_range.mp h1
  refine⟨cand n i,?_,by simpa using h2,rfl⟩
  have hm:cand n i∈n::L7:=by
   unfold cand
   rw[getD_eq_getElem?_getD,List.getElem?_eq_getElem (by omega),Option.getD_some]
   exact getElem_mem _
  rcases mem_cons.mp hm with z | z
  ·rw[z];exact hn
  ·exact(l7_ok _ z).1
theorem held_at {D:Dk}{i:Nat}{kv:Key×V}(e:(heldK D)[i]?=some kv):∃n row,D[i]?=some (n,row)/\kv=(Sum.inr n,V.str (rowTxt row)):=by
 unfold heldK at e
 rw[getElem?_map]at e
 obtain⟨⟨n,row⟩,e1,rfl⟩:=map_eq_some_iff.mp e
 exact⟨n,row,e1,rfl⟩
theorem upd2 {H:Hp}{r:Addr}{A B:HO}(h:H r=none):Same H (upd (upd H r A) r B):=fun c o e=>by rw[upd_ne (ne_of_none e h),upd_ne (ne_of_none e h)];exact e
theorem txt_one {row:List Int}(wd:Wd row):∀row',Wd row'->row'.length<=12->rowTxt row=rowTxt row'->row'=row:=fun row' w' _ e=>(txt_inj wd w' e).symm
theorem join_fold {ps:List Str}{m:Nat}(h:∀p∈ps,p.length<=m):ps.toArray.foldl (fun a p=>a+p.length+BLK.length) 0<=ps.length*(m+1):=by
 rw[StrLaws.joinTotal,show BLK.length=1 by decide +kernel]
 have:(ps.map (·.length)).sum<=ps.length*m:=by
  induction ps with
  |nil=>simp
  |cons p r ih=>
   have:=h p mem_cons_self
   have:=ih fun q hq=>h q (mem_cons_of_mem _ hq)
   simp only[map_cons,sum_cons,length_cons,Nat.succ_mul]
   omega
 rw[Nat.mul_one,Nat.mul_add,Nat.mul_one]
 omega
theorem join_len {ps:List Str}{m:Nat}(h:∀p∈ps,p.length<=m):(Str.join BLK ps).length<=ps.length*(m+1):=by
 have jl:=StrLaws.join_length_le BLK ps
 rw[show BLK.length=1 by decide +kernel]at jl
 have:(ps.map (·.length)).sum<=ps.length*m:=by
  clear jl
  induction ps with
  |nil=>simp
  |cons p r ih=>
   have:=h p mem_cons_self
   have:=ih fun q hq=>h q (mem_cons_of_mem _ hq)
   simp only[map_cons,sum_cons,length_cons,Nat.succ_mul]
   omega
 rw[Nat.mul_succ]
 omega
end K96
namespace K96
open L2
section
variable {P:Program}{w:World}{K:W.Frag}{mg:Str->Option Value}{base:Heap}{b c0 c1 c2 c3 c4 c T TA CD fi fs:Addr}{fdi fds:FuncData}{bm4:List Value}
theorem ok_law {f:Addr}{fd:FuncData}(F:Fun K "law" "law" s_law f fd)(nb:Nb4 mg)(h_L_state:Has P w K mg base 2 "_law_state" ["_law_script","_law_k"] (spState K))(h_L_take:Has P w K mg base 1 "_law_take" ["_law_state_here","_law_many"] (spTake K))(h_L_name:Has P w K mg base 2 "_law_name" ["_law_state_here"] spNm)(h_L_row:Has P w K mg base 2 "_law_row" ["_law_state_here","_law_gaps"] spRow)(h_L_row_text:Has P w K mg base 1 "_law_row_text" ["_law_row_here"] spLText)(h_row_read:Has P w K mg base 3 "row_read" ["text"] spRowRead)(h_L_spoiled:Has P w K mg base 2 "_law_spoiled" ["_law_state_here","_law_name_here"] spSpo)(h_L_bad_lines:Has P w K mg base 3 "_law_bad_lines" ["_law_state_here","_law_name_here","_law_bad","_law_lost","_law_text"] spBad)(h_L_asked_right:Has P w K mg base 9 "_law_asked_right" ["_law_desk","_law_name_here","_law_lost"] (spAsk CD c0 c2 c3 c4 TA))(nbx:NbX mg)(h_ref:HasR P w K mg 8 7 "_law_refused" "_law_call" Rn (Ec K b c0 c1 c2 c3 c4))(clD:Cls K CD)(mk:Mk K CD fi)(hFi:FnOk P w K mg base CX0 1 fi fdi ["self"] (spInit CD))(hmD:mg "Desk" = some (.ref CD))(hbi:Binds K fdi ["self"] [])(hms:Meth K CD "say" fs)(hFs:∀base,FnOk P w K mg base (CXF P w) 6 fs fds ["self","line"] (spSay CD c0 c2 c3 c4))(hbs:Binds K fds ["self","line"] [])(hcd:fd.code=.ref c)(C:CodeHd base c T)(Bl:BltAt mg base)(e4:ExcF K c4 bm4)(i4:(Value.ref c4::bm4).contains (.ref b)=true)(kd4:Kind5 K c0 c1 c2 c3 c4 c4 4) :
 FnOk P w K mg base CX0 10 f fd ["_law_script"] (spLaw K T TA):=by
 have nd:=sc_law.nd
 refine F.okC (k:=9) sc_law (fun vs H Q E h=>?_) (fun A outer s H vs Q E hr h=>?_)
 ·obtain⟨a,ns,rfl,_⟩:=h
  rfl
 obtain⟨a,ns,rfl,hS,h63,hT,hTA,t1,q⟩:=h
 refine⟨_,(@pss_cons _ _ _ _ _ (@ps_set _ _ (1) _ _ _ _ nd rfl (Or.inr rfl) (pe_make0 mk hFi (hr.mono (by decide)) rfl hmD hbi .nil pass0) rfl (by first | exact .inl rfl | exact .inr rfl)) (@pss_cons _ _ _ _ _ (@ps_set _ _ (2) _ _ _ _ nd rfl (Or.inr rfl) (pe_dict1 pe_str (@pe_op _ _ _ _ _ _ _ _ op_add_str (@pe_op _ _ _ _ _ _ _ _ op_add_str pe_str (@pe_op _ _ _ _ _ _ _ _ op_repS pe_str pe_int)) pe_str)) rfl (by first | exact .inl rfl | exact .inr rfl)) (@pss_cons _ _ _ _ _ (@ps_for _ _ _ _ _ _ _ _ PassesOwn.never rfl (pi_str (pe_slice sl_str pe_str po_none (po_some (@pe_ix _ _ _ _ _ _ _ ix_list (@pe_lst _ _ _ _ (@pa_cons _ _ _ _ _ pe_int (@pa_cons _ _ _ _ _ pe_int pa_nil rfl) rfl)) (pe_def h_L_take hr (@pa_cons _ _ _ _ _ (pe_def h_L_state hr (@pa_cons _ _ _ _ _ (pv 0) (@pa_cons _ _ _ _ _ pe_int pa_nil rfl) rfl)) (@pa_cons _ _ _ _ _ pe_int pa_nil rfl) rfl)) (fun _ _=>rfl))))) (pg_name (i:=3) nd rfl (Or.inl rfl)) (@pss_one _ _ _ (ps_dput (hu1 hr) (pv 2) (pv 3) (@pe_op _ _ _ _ _ _ _ _ op_add_str (pe_callTy call_str_int rfl nbx.str boot_str (@pa_cons _ _ _ _ _ (pe_callB call_lenD rfl nb.len PySem.boot_len (@pa_cons _ _ _ _ _ (pv 2) pa_nil rfl)) pa_nil rfl)) pe_str) rfl)) (by intro _;rfl)) (@pss_cons _ _ _ _ _ (ps_thaw (@ps_for _ _ _ _ _ _ _ _ PassesOwn.never rfl (pi_dI (pv 2)) (pg_name (i:=4) nd rfl (Or.inl rfl)) (@pss_one _ _ _ (@ps_if _ _ _ _ _ _ _ _ (pt_cmpR op_ne (pe_meth (pv 1) clD hms (hFs base) (hr.mono (by decide)) hbs .nil passes_none (@pa_cons _ _ _ _ _ (@pe_op _ _ _ _ _ _ _ _ op_add_str (@pe_op _ _ _ _ _ _ _ _ op_add_str (@pe_op _ _ _ _ _ _ _ _ op_add_str pe_str (pv 4)) pe_str) (pe_dget (hu1 hr) (pv 2) (pv 4) (fun _ _=>rfl))) pa_nil rfl)) pe_str (nomark _)) (@pss_one _ _ _ (@ps_ret _ _ _ _ pe_bl)) pss_nil)) (by intro _;rfl))) (@pss_cons _ _ _ _ _ (@ps_for _ _ _ _ _ _ _ _ PassesOwn.never rfl (pi_range1 rfl nb.range (@pa_cons _ _ _ _ _ (pe_callB (call_max2 rfl) rfl nb.max boot_max (@pa_cons _ _ _ _ _ pe_int (@pa_cons _ _ _ _ _ (pe_callB (call_min2 rfl) rfl nb.min boot_min (@pa_cons _ _ _ _ _ (pe_callB call_len_seq rfl nb.len PySem.boot_len (@pa_cons _ _ _ _ _ (pv 0) pa_nil rfl)) (@pa_cons _ _ _ _ _ pe_int pa_nil rfl) rfl)) pa_nil rfl) rfl)) pa_nil rfl)) (pg_name (i:=5) nd rfl (Or.inl rfl)) (@pss_cons _ _ _ _ _ (@ps_set _ _ (6) _ _ _ _ nd rfl (Or.inl rfl) (pe_def h_L_state hr (@pa_cons _ _ _ _ _ (pv 0) (@pa_cons _ _ _ _ _ (pv 5) pa_nil rfl) rfl)) rfl (by first | exact .inl rfl | exact .inr rfl)) (@pss_cons _ _ _ _ _ (ps_par (i:=4) (j:=7) rfl nd rfl rfl (by decide) rfl rfl (@pa_cons _ _ _ _ _ (pe_def h_L_name hr (@pa_cons _ _ _ _ _ (pv 6) pa_nil rfl)) (@pa_cons _ _ _ _ _ (pe_def h_L_row hr (@pa_cons _ _ _ _ _ (pv 6) (@pa_cons _ _ _ _ _ (@pe_lst _ _ _ _ (@pa_cons _ _ _ _ _ pe_int (@pa_cons _ _ _ _ _ pe_int pa_nil rfl) rfl)) pa_nil rfl) rfl)) pa_nil rfl) rfl) rfl) (@pss_cons _ _ _ _ _ (@ps_set _ _ (8) _ _ _ _ nd rfl (Or.inl rfl) (pe_def h_L_row_text hr (@pa_cons _ _ _ _ _ (pv 7) pa_nil rfl)) rfl (by first | exact .inl rfl | exact .inr rfl)) (@pss_cons _ _ _ _ _ (ps_mid (@ps_if _ _ _ _ _ _ _ _ (pt_cmpR op_eq (pv 4) pe_str (nomark _)) (@pss_one _ _ _ (@ps_set _ _ (4) _ _ _ _ nd rfl (Or.inl rfl) pe_str rfl (by first | exact .inl rfl | exact .inr rfl))) pss_nil)) (@pss_cons _ _ _ _ _ (@ps_if _ _ _ _ _ _ _ _ (PW.pt (pw_or (pt_cmpR op_ne (pe_meth (pv 1) clD hms (hFs base) (hr.mono (by decide)) hbs .nil passes_none (@pa_cons _ _ _ _ _ (@pe_op _ _ _ _ _ _ _ _ op_add_str (@pe_op _ _ _ _ _ _ _ _ op_add_str (@pe_op _ _ _ _ _ _ _ _ op_add_str pe_str (pv 4)) pe_str) (pv 8)) pa_nil rfl)) pe_str (nomark _)) (pw_or1 (pt_cmpR (op_neT hr.units0) (pe_def h_row_read hr (@pa_cons _ _ _ _ _ (pv 8) pa_nil rfl)) (pv 7) (nomark _))))) (@pss_one _ _ _ (@ps_ret _ _ _ _ pe_bl)) pss_nil) (@pss_cons _ _ _ _ _ (ps_dput (hu1 hr) (pv 2) (pv 4) (pv 8) rfl) (@pss_cons _ _ _ _ _ (@ps_set _ _ (9) _ _ _ _ nd rfl (Or.inl rfl) (pe_def h_L_spoiled hr (@pa_cons _ _ _ _ _ (pv 6) (@pa_cons _ _ _ _ _ (pv 4) pa_nil rfl) rfl)) rfl (by first | exact .inl rfl | exact .inr rfl)) (@pss_cons _ _ _ _ _ (@ps_set _ _ (10) _ _ _ _ nd rfl (Or.inl rfl) (@pe_ix _ _ _ _ _ _ _ ix_list (pe_comp1 (sc:=defScope s_law) (N0:=["_law_script","_law_desk","_law_held","_law_letter","_law_name_here","_law_k","_law_state_here","_law_row_here","_law_text","_law_bad","_law_lost","_law_line"]) (N:=["_law_held"]) (js:=[2]) rfl rfl rfl (by constructor<;>first|decide +kernel|rfl) rfl (@pi_list _ _ _ _ (@pe_op _ _ _ _ _ _ _ _ op_cat (@pe_lst _ _ _ _ (@pa_cons _ _ _ _ _ (pe_def h_L_name hr (@pa_cons _ _ _ _ _ (pv 6) pa_nil rfl)) pa_nil rfl)) (pe_callTy (call_listS rfl) rfl nb.list boot_list (@pa_cons _ _ _ _ _ pe_str pa_nil rfl)))) (fun _ _ _ _ _=>by exact(pts_one (pt_cmp (pc_dnotin (hu1 hr) (pv 0) (pv 1))))) (fun _ _ _ _ _=>by exact(pv 0))) pe_int (fun _ _=>rfl)) rfl (by first | exact .inl rfl | exact .inr rfl)) (@pss_cons _ _ _ _ _ (@ps_for _ _ _ _ _ _ _ _ PassesOwn.never rfl (@pi_list _ _ _ _ (pe_def h_L_bad_lines hr (@pa_cons _ _ _ _ _ (pv 6) (@pa_cons _ _ _ _ _ (pv 4) (@pa_cons _ _ _ _ _ (pv 9) (@pa_cons _ _ _ _ _ (pv 10) (@pa_cons _ _ _ _ _ (pv 8) pa_nil rfl) rfl) rfl) rfl) rfl))) (pg_name (i:=11) nd rfl (Or.inr rfl)) (@pss_cons _ _ _ _ _ (@ps_if _ _ _ _ _ _ _ _ (pt_cmpR op_ne (pe_lambda (sc:=defScope s_law) (N0:=["_law_script","_law_desk","_law_held","_law_letter","_law_name_here","_law_k","_law_state_here","_law_row_here","_law_text","_law_bad","_law_lost","_law_line"]) (N:=["_law_desk","_law_line"]) (js:=[1,11]) h_ref hr hcd C Bl rfl rfl (by exact⟨rfl,rfl,rfl,by decide +kernel⟩) (by constructor<;>first|decide +kernel|rfl) (fun base E cl f cd A outer s H hr=>by exact(pe_meth (pv 0) clD hms (hFs base) (hr.mono (by decide)) hbs .nil (lvs_lam.pass fun _ _ _ z=>z) (@pa_cons _ _ _ _ _ (pv 1) pa_nil rfl)))) pe_int (nomark _)) (@pss_one _ _ _ (@ps_ret _ _ _ _ pe_bl)) pss_nil) (@pss_one _ _ _ (@ps_if _ _ _ _ _ _ _ _ (PW.pt (pw_and (pt_cmpR op_eq (pe_slice sl_str (pv 11) po_none (po_some pe_int)) pe_str (nomark _)) (pw_and1 (pt_cmpR op_ne (pe_meth (pv 1) clD hms (hFs base) (hr.mono (by decide)) hbs .nil passes_none (@pa_cons _ _ _ _ _ (@pe_op _ _ _ _ _ _ _ _ op_add_str pe_str (pv 4)) pa_nil rfl)) (pv 8) (nomark _))))) (@pss_one _ _ _ (@ps_ret _ _ _ _ pe_bl)) pss_nil))) (by intro _;rfl)) (@pss_cons _ _ _ _ _ (@ps_if _ _ _ _ _ _ _ _ (PW.pt (pw_or (pt_not (pt_truth (pe_def h_L_asked_right hr (@pa_cons _ _ _ _ _ (pv 1) (@pa_cons _ _ _ _ _ (pv 4) (@pa_cons _ _ _ _ _ (pv 10) pa_nil rfl) rfl) rfl)) (fun _=>rfl))) (pw_or1 (pt_cmpR op_ne (pe_meth (pv 1) clD hms (hFs base) (hr.mono (by decide)) hbs .nil passes_none (@pa_cons _ _ _ _ _ pe_str pa_nil rfl)) (pe_bm plainAttrs_str slot_str_join type_str_join mt_join pe_str (@pa_cons _ _ _ _ _ (pe_callB (call_sortDS rfl) rfl nb.sorted boot_sorted (@pa_cons _ _ _ _ _ (pv 2) pa_nil rfl)) pa_nil rfl)) (nomark _))))) (@pss_one _ _ _ (@ps_ret _ _ _ _ pe_bl)) pss_nil) (@pss_one _ _ _ (ps_thaw (@ps_if _ _ _ _ _ _ _ _ (pt_cmpR (op_neNil hr.units0) (pe_comp1 (sc:=defScope s_law) (N0:=["_law_script","_law_desk","_law_held","_law_letter","_law_name_here","_law_k","_law_state_here","_law_row_here","_law_text","_law_bad","_law_lost","_law_line"]) (N:=["_law_desk","_law_held"]) (js:=[1,2]) rfl rfl rfl (by constructor<;>first|decide +kernel|rfl) rfl (pi_dI (pv 2)) (fun _ _ _ _ _=>by exact(pts_one (pt_cmpR op_ne (pe_meth (pv 1) clD hms (hFs base) (hr.mono (by decide)) hbs .nil passes_none (@pa_cons _ _ _ _ _ (@pe_op _ _ _ _ _ _ _ _ op_add_str pe_str (pv 0)) pa_nil rfl)) (pe_dget (hu1 hr) (pv 2) (pv 0) (fun _ _=>rfl)) (nomark _)))) (fun _ _ _ _ _=>by exact(pv 0))) (@pe_lst _ _ _ _ pa_nil) (nomark _)) (@pss_one _ _ _ (@ps_ret _ _ _ _ pe_bl)) pss_nil))))))))))))) (by intro _;rfl)) (@pss_one _ _ _ (@ps_ret _ _ _ _ pe_bl))))))),?_⟩
 intro x dx hx hdx nx
 refine⟨x,dx,rfl,upd_same,fun d hd=>⟨rfl,?_⟩⟩
 obtain⟨G1,eG,s1,dk1,hd1⟩:=desk_new hx hdx hd
 rw[<-eG]
 clear eG hd
 intro h0 hh0
 have fit:∀{a b:Str},a.length+b.length<=3000->a.length+b.length<=sizeLine:=fun{a b} h=>by rw[sizeLine_eq];omega
 have m100:(manyT (oS ".") 100).length=100:=by decide +kernel
 have la:(oS "0:oo").length=4:=by decide +kernel
 have lb:(oS "o").length=1:=by decide +kernel
 have lc:(oS ":o.o").length=4:=by decide +kernel
 have lr:(oS "row ").length=4:=by decide +kernel
 have ls:(oS " ").length=1:=by decide +kernel
 have lw:(oS "show ").length=5:=by decide +kernel
 have t0:oS "0:oo"++manyT (oS ".") 100++oS "o" = rowTxt ZR:=by decide +kernel
 refine⟨_,100,rfl,rfl,by decide,by decide,by decide +kernel,(by rw[m100,sizeLine_eq];omega),_,_,rfl,rfl,fit (by rw[la,m100];omega),_,_,rfl,rfl,fit (by rw[Str.length_append,la,m100,lb];omega),Sum.inr ZN,rfl,upd_same,?_⟩
 rw[t0]
 have s2:Same G1 (upd (upd G1 h0 (.dK [])) h0 (.dK [(Sum.inr ZN,V.str (rowTxt ZR))])):=upd2 hh0
 have g2:(upd (upd G1 h0 (.dK [])) h0 (.dK [(Sum.inr ZN,V.str (rowTxt ZR))])) h0=some (.dK (heldK (dkN 0))):=upd_same
 have hn0:H h0=none:=none_back s1 hh0
 have dk2:=dk1.same s2
 have S2:=s1.trans s2
 have dh:d≠h0:=fun z=>by
  obtain⟨kvs,e⟩:=dk_at dk1
  rw[z,hh0]at e;cases e
 generalize upd (upd G1 h0 (.dK [])) h0 (.dK [(Sum.inr ZN,V.str (rowTxt ZR))])=G2 at s2 g2 dk2 S2 ⊢
 obtain⟨p,hp⟩:∃p:Pl,p=⟨T,TA,x,d,h0⟩:=⟨_,rfl⟩
 have ok:p.Ok:=by rw[hp];exact⟨t1,dh⟩
 have al0:Al CD p [] G2:=by rw[hp];exact⟨(Tab.empty hT).same S2,(Tab.empty hTA).same S2,dk2⟩
 have sq0:=S2.seq hS
 have eT:p.T=T:=by rw[hp]
 have eA:p.TA=TA:=by rw[hp]
 have ex:p.x=x:=by rw[hp]
 have eh:p.h=h0:=by rw[hp]
 clear hp dk1 dk2 s2 s1 S2 hd1 dh hh0 hx hdx
 subst eT eA ex eh
 -- the letters
 refine⟨(by show 2<=sizeLine;decide),fun g hg=>⟨_,rfl,a,ns,0,rfl,(same_new hg (.lst [.int 0,.int 12])).seq sq0,by omega,fun r x0 bb hr0 d0=>⟨r,x0,bb,2,rfl,StAt.upd d0,by omega,by omega,fun v x1 v0 v2 d1=>?_⟩⟩⟩
 have sA:=same_new hg (.lst [.int 0,.int 12])
 have sB:Same (upd G2 g (.lst [.int 0,.int 12])) (upd (upd (upd G2 g (.lst [.int 0,.int 12])) r (.lst [.int x0,.bl bb])) r (.lst [.int x1,.bl bb])):=upd2 hr0
 have fg:=sB g _ upd_same
 have SB:=sA.trans sB
 generalize upd (upd (upd G2 g (.lst [.int 0,.int 12])) r (.lst [.int x0,.bl bb])) r (.lst [.int x1,.bl bb])=G3 at fg SB ⊢
 obtain⟨y,hy,ey⟩:=pick_k v0 v2
 refine⟨g,_,_,.int y,rfl,rfl,SqL.of fg,ey,_,rfl,_,rfl,(by show _<=sizeLine;rw[sizeLine_eq];exact le_trans (show(oS "klmnopqrstuv").length<=12 by decide +kernel) (by omega)),_,rfl,?_⟩
 obtain⟨m,hm,em⟩:=sl_k hy
 rw[em]
 have al3:=al0.same SB
 have g3:=SB _ _ g2
 have sq3:=SB.seq sq0
 clear sA sB fg SB em ey hy v0 v2 d0 d1 hg hr0 al0 g2 sq0
 refine for_items m (fun i _ v=>v=.str ⟨#[107+i]⟩) (fun i σ H'=>Al CD p [] H'/\H' p.h=some (.dK (heldK (dkN i)))/\SqL K H' a (ns.map V.int)/\∃o3 o4 o5 o6 o7 o8 o9 oa ob,σ=[some (.ref a),some (.ref p.x),some (.ref p.h),o3,o4,o5,o6,o7,o8,o9,oa,ob]) ⟨al3,g3,sq3,_,_,_,_,_,_,_,_,_,rfl⟩ (fun i σ H' hi hp=>?_) (fun i v σ H' H2 hi hp sm im=>?_) (fun σ H' hp=>?_)
 ·have it:=items_str (x:=⟨((List.range m).map (107+·)).toArray⟩) i H' (Same.refl H')
  have sz:(⟨((List.range m).map (107+·)).toArray⟩:Str).cps.size=m:=k_size m
  rw[sz]at it
  refine⟨fun hlt=>⟨(it.1 hlt).1,fun v H2 hy=>?_⟩,it.2⟩
  obtain⟨s,c,hc,rfl⟩:=(it.1 hlt).2 v H2 hy
  exact⟨s,by rw[k_sign hc]⟩
 ·obtain⟨al,gh,sq,o3,o4,o5,o6,o7,o8,o9,oa,ob,rfl⟩:=hp
  subst im
  have i12:i<12:=by omega
  have al:=al.same sm
  have gh:=sm _ _ gh
  have sq:=sm.seq sq
  have ln:(heldK (dkN i)).length=i+1:=by rw[held_len,dkN_len]
  have nt:=dkN_txt i i12
  have nl:=num_len30 (n:=((i+1:Nat):Int)) (Nat.lt_of_lt_of_le (show _<100 by omega) (show 100<=10^30 by decide))
  have e1:putK (heldK (dkN i)) (Sum.inr ⟨#[107+i]⟩) (V.str (oS (toString (((heldK (dkN i)).length:Nat):Int))++oS ":o.o"))=heldK (dkN (i+1)):=by
   rw[ln,show(oS (toString ((i+1:Nat):Int))++oS ":o.o")=_ from nt,held_put,dkN_put i i12]
  refine⟨_,rfl,p.h,_,rfl,gh,_,rfl,(by rw[ln];exact Nat.lt_of_le_of_lt (Nat.log2_le_self _) (by omega)),_,_,rfl,rfl,(by rw[ln,lc];exact le_trans (Nat.add_le_add_right nl 4) (by rw[sizeLine_eq];omega)),_,rfl,_,rfl,p.h,_,rfl,DPut.k (k:=Sum.inr ⟨#[107+i]⟩) gh (by rw[ln,sizeLine_eq];omega),?_⟩
  rw[e1]
  have hl:Hl (dkN i) (.dK (heldK (dkN i))):=.inl rfl
  exact⟨al.own ok gh hl.soft hl.tbl,upd_same,sq_four sq al gh hl (x:=p.h) (by simp) fun c o n e=>by rw[upd_ne n];exact e,_,_,_,_,_,_,_,_,_,rfl⟩
 obtain⟨al,gh,sq,o3,o4,o5,o6,o7,o8,o9,oa,ob,rfl⟩:=hp
 -- the rows are said
 have dok:=dkN_ok hm
 have dl:=dkN_len m
 generalize dkN m=D0 at al gh sq dok dl ⊢
 refine⟨_,rfl,p.h,heldK D0,rfl,gh,fun o J hJ=>?_⟩
 have hl:Hl D0 (.frz o (.dK (heldK D0))):=.inr ⟨o,rfl⟩
 refine for_items D0.length (fun i _ v=>∃n row,D0[i]?=some (n,row)/\v=.str n) (fun i σ H'=>Al CD p (D0.take i) H'/\H' p.h=some (.frz o (.dK (heldK D0)))/\SqL K H' a (ns.map V.int)/\∃o3 o4 o5 o6 o7 o8 o9 oa ob,σ=[some (.ref a),some (.ref p.x),some (.ref p.h),o3,o4,o5,o6,o7,o8,o9,oa,ob]) ?_ (fun i σ H' hi hp=>?_) (fun i v σ H' H2 hi hp sm im=>?_) (fun σ H' hp=>?_)
 ·have hl':Hl D0 (.dK (heldK D0)):=.inl rfl
  refine⟨al.own ok gh hl'.soft hl'.tbl,upd_same,?_,_,_,_,_,_,_,_,_,_,rfl⟩
  exact sq_four sq al gh hl' (x:=p.h) (by simp) fun c o n e=>by rw[upd_ne n];exact e
 ·obtain⟨_,hz,_⟩:=hp
  obtain⟨j1,j2⟩:=hJ i H' hz
  rw[held_len]at j2
  refine⟨fun hlt=>?_,j2⟩
  have hk:=List.getElem?_eq_getElem (l:=heldK D0) (i:=i) (by rw[held_len];exact hlt)
  obtain⟨n,row,e1,e2⟩:=held_at hk
  obtain⟨j3,j4⟩:=j1 _ hk
  refine⟨j3,fun v H2 hy=>?_⟩
  obtain⟨rfl,e3⟩:=j4 v H2 hy
  exact⟨Same.refl _,n,row,e1,by rw[e3,e2];rfl⟩
 ·obtain⟨al,hz,sq,o3,o4,o5,o6,o7,o8,o9,oa,ob,rfl⟩:=hp
  obtain⟨n,row,e1,rfl⟩:=im
  have al:=al.same sm
  have hz:=sm _ _ hz
  have sq:=sm.seq sq
  obtain⟨hn,wd,l12⟩:nameB n=true/\Wd row/\row.length<=12:=dok.nm _ (mem_of_getElem? e1)
  have nl:=(fr_name hn).2
  have tl:=txt_short wd
  have ro:=row_at dok.nd e1
  have few:(D0.take i).length<60:=by
   have:=dok.few
   rw[length_take]
   omega
  have dg:=hl.get (n:=n) hz
  rw[ro]at dg
  refine meth_sayC rfl al.dk ⟨_,rfl,_,_,rfl,rfl,fit (by rw[lr];omega),_,_,rfl,rfl,fit (by rw[Str.length_append,lr,ls];omega),_,rfl,_,rfl,p.h,_,rfl,dg,_,_,rfl,rfl,fit (by rw[Str.length_append,Str.length_append,lr,ls];omega),sayG_row (shp_row hn wd l12) al.dk few (fun H3 k3 dk3=>⟨rfl,false,ne_no rfl,iteF ?_⟩) (txt_one wd)⟩
  have al3:=al.put k3 dk3
  rw[put_take dok.nd e1]at al3
  exact⟨al3,k3 _ _ ok.d1.symm hz,sq_four sq al hz hl (x:=p.d) (by simp) k3,_,_,_,_,_,_,_,_,_,rfl⟩
 obtain⟨al,hz,sq,o3,o4,o5,o6,o7,o8,o9,oa,ob,rfl⟩:=hp
 rw[take_length]at al
 refine⟨p.h,o,heldK D0,hz,hn0,?_⟩
 have al0:=al.own (o':=.dK (heldK D0)) ok hz hl.soft hl.tbl
 have sq0:=sq_four (H':=upd H' p.h (.dK (heldK D0))) sq al hz hl (x:=p.h) (by simp) fun c o n e=>by rw[upd_ne n];exact e
 have gh0:(upd H' p.h (.dK (heldK D0))) p.h=some (.dK (heldK D0)):=upd_same
 generalize upd H' p.h (.dK (heldK D0))=G4 at al0 sq0 gh0 ⊢
 clear al hz sq gh al3 g3 sq3 hl dl
 -- turn by turn
 refine⟨_,rfl,a,_,rfl,.inl sq0,_,_,rfl,_,_,rfl,_,rfl,?_,?_,?_⟩
 ·split<;>split<;>omega
 ·split<;>split<;>omega
 refine for_range (fun i σ H'=>i<=5/\∃D:Dk,Al CD p D H'/\H' p.h=some (.dK (heldK D))/\DOk i D/\SqL K H' a (ns.map V.int)/\∃o3 o4 o5 o6 o7 o8 o9 oa ob,σ=[some (.ref a),some (.ref p.x),some (.ref p.h),o3,o4,o5,o6,o7,o8,o9,oa,ob]) ⟨by omega,D0,al0,gh0,dok,sq0,_,_,_,_,_,_,_,_,_,rfl⟩ (fun i σ H0 hi hp=>?_) (fun σ H0 hp=>?_)
 ·obtain⟨_,D,al,gh,dok,sq,o3,o4,o5,o6,o7,o8,o9,oa,ob,rfl⟩:=hp
  have i5:i<5:=by
   revert hi
   split<;>split<;>omega
  have hl:∀D:Dk,Hl D (.dK (heldK D)):=fun D=>.inl rfl
  refine⟨_,rfl,_,rfl,a,ns,_,rfl,sq,by omega,fun r x0 bb hr0 d0=>?_⟩
  have w1:It CD p r bb D (.dK (heldK D)) H0 (upd H0 r (.lst [.int x0,.bl bb])):=⟨al.same (same_new hr0 _),⟨x0,StAt.upd d0⟩,same_new hr0 _ _ _ gh,fun c o n e=>by rw[upd_ne (ne_of_none e hr0)];exact e,hr0⟩
  generalize upd H0 r (.lst [.int x0,.bl bb])=H1 at w1 ⊢
  obtain⟨x1,st1⟩:=w1.st
  refine⟨_,rfl,r,x1,bb,rfl,st1,fun n0 H2 x2 k2 st2 hn0'=>?_⟩
  have w2:=w1.keep (hl D) k2 st2
  refine⟨_,rfl,(by show 2<=sizeLine;decide),fun g hg=>?_⟩
  have sg:=same_new hg (.lst [.int 2,.int 5])
  have w3:=w2.same sg
  have st3:=st2.same sg
  refine⟨r,g,x2,bb,[2,5],rfl,st3,upd_same,⟨by decide,by decide,by decide⟩,fun r1 row H4 x4 k4 st4 hr4 rok=>?_⟩
  have w4:=w3.keep (hl D) k4 st4
  clear w3 st3 sg w2 k2 st2 k4 hg
  refine⟨_,_,rfl,_,rfl,r1,row,rfl,hr4,rok.wd.wr,fun H5 s5=>?_⟩
  have w5:=w4.same s5
  have hr5:=s5 _ _ hr4
  clear w4 s5 st4 hr4
  refine⟨fun σ H6=>H6=H5/\∃n:Str,nameB n=true/\n≠ZN/\∃o3 o5 o9 oa ob,σ=[some (.ref a),some (.ref p.x),some (.ref p.h),o3,some (.str n),o5,some (.ref r),some (.ref r1),some (.str (rowTxt row)),o9,oa,ob],?_,fun σ H6 hm=>?_⟩
  ·refine⟨_,rfl,rfl,_,rfl,ite2 (fun c=>?_) (fun c=>?_)⟩
   ·exact⟨rfl,_,by decide +kernel,by decide +kernel,_,_,_,_,_,rfl⟩
   ·exact⟨rfl,n0,hn0',fun z=>c (decide_eq_true (by rw[z])),_,_,_,_,_,rfl⟩
  obtain⟨rfl,n,hn,nz,o3,o5,o9,oa,ob,rfl⟩:=hm
  have nl:=(fr_name hn).2
  have wd:=rok.wd
  have tl:=txt_short wd
  have few:D.length<60:=by have:=dok.few;omega
  refine meth_sayC rfl w5.al.dk ⟨_,rfl,_,_,rfl,rfl,fit (by rw[lr];omega),_,_,rfl,rfl,fit (by rw[Str.length_append,lr,ls];omega),_,rfl,_,_,rfl,rfl,fit (by rw[Str.length_append,Str.length_append,lr,ls];omega),sayG_row (shp_row hn wd rok.len) w5.al.dk few (fun H6 k6 dk6=>⟨rfl,false,ne_no rfl,iteF ?_⟩) (txt_one wd)⟩
  have w6:=w5.put ok k6 dk6
  have hr6:=k6 _ _ (w5.al.dk.ne hr5 fun _ z=>nomatch z) hr5
  refine⟨_,rfl,row,rfl,wd,rok.len,trivial,fun r2 H7 s7 hr7=>⟨_,rfl,r2,r1,row,row,rfl,rfl,SqT.of hr7,SqT.of (s7 _ _ hr6),false,ne_no rfl,iteF ?_⟩⟩
  have w7:=w6.same s7
  have dl:=dok.few
  refine⟨_,rfl,_,rfl,_,rfl,p.h,_,rfl,DPut.k (k:=Sum.inr n) w7.hh (by rw[held_len,sizeLine_eq];omega),?_⟩
  rw[held_put]
  have w8:=w7.own ok (hl D) (.dK (heldK (putD D n row)))
  generalize upd H7 p.h (.dK (heldK (putD D n row)))=H8 at w8 ⊢
  have dok1:=dok.put hn nz wd rok.len
  have ro:rowOf (putD D n row) n=some row:=row_put
  generalize putD D n row=D1 at w8 dok1 ro ⊢
  have hl1:=hl D1
  clear w7 w6 w5 hr6 hr5 k6 dk6 s7 hr7
  obtain⟨x8,st8⟩:=w8.st
  refine⟨_,rfl,_,rfl,r,x8,bb,n,rfl,st8,hn,fun z H9 x9 k9 st9 bz=>?_⟩
  have w9:=w8.keep hl1 k9 st9
  -- one by which nothing is kept
  refine⟨_,rfl,r,x9,bb,rfl,st9,fun n1 HA xA kA stA hn1=>?_⟩
  have wA:=w9.keep hl1 kA stA
  clear w8 w9 k9 kA
  refine⟨(by show 1<=sizeLine;decide),fun l1 hl1'=>⟨_,rfl,(by rw[sizeLine_eq];exact le_trans (show(oS "abcdefg").cps.size<=7 by decide +kernel) (by omega)),fun l2 hl2=>?_⟩⟩
  change (upd HA l1 (.lst [.str n1])) l2=none at hl2
  rw[show(List.map (fun c=>(⟨#[c]⟩:Str)) (oS "abcdefg").cps.toList)=L7 from rfl]
  have sB:=same_new hl1' (.lst [.str n1])
  have sC:=same_new hl2 (.lst (L7.map V.str))
  refine⟨l1,l2,[.str n1],L7.map V.str,rfl,rfl,sC _ _ upd_same,upd_same,(by rw[length_map];show 1+7<=sizeLine;decide),fun l3 hl3=>?_⟩
  have sD:=same_new hl3 (.lst ([.str n1]++L7.map V.str))
  have wD:=((wA.same sB).same sC).same sD
  have stD:=((stA.same sB).same sC).same sD
  have fD:(upd (upd (upd HA l1 (.lst [.str n1])) l2 (.lst (L7.map V.str))) l3 (.lst ([.str n1]++L7.map V.str))) l3=some (.lst ((n1::L7).map V.str)):=upd_same
  generalize upd (upd (upd HA l1 (.lst [.str n1])) l2 (.lst (L7.map V.str))) l3 (.lst ([.str n1]++L7.map V.str))=HD at wD stD fD ⊢
  clear sB sC sD wA stA
  obtain⟨o,ho,lo,eo⟩:=lost_first (n:=n1) (some_lost dok1 (by omega)) hn1
  refine⟨l3,rfl,⟨_,SqL.of fD⟩,fun l4 hl4=>?_⟩
  refine comp_sel 8 (by show 8<=sizeLine;decide) (fun i=>(rowOf D1 (cand n1 i)).isNone) (fun i=>V.str (cand n1 i)) (fun σ=>∃o,σ=[o,some (.ref p.h)]) (fun i _ v=>v=V.str (cand n1 i)) hl4 ⟨_,rfl⟩ (fun j H' sm=>?_) (fun j v σ' H' hj sm im sg R S hR hS=>?_) (fun HE sE fE=>?_)
  ·have it:=items_lst (K:=K) fD j H' sm
   have l8:((n1::L7).map V.str).length=8:=by rw[length_map,length_cons];decide +kernel
   rw[l8]at it
   refine⟨fun hlt=>⟨(it.1 hlt).1,fun v H2 hy=>?_⟩,it.2⟩
   obtain⟨s,e⟩:=(it.1 hlt).2 v H2 hy
   refine⟨s,?_⟩
   rw[getElem?_map]at e
   obtain⟨c,e',rfl⟩:=map_eq_some_iff.mp e
   unfold cand
   rw[getD_eq_getElem?_getD,e']
   rfl
  ·obtain⟨o',rfl⟩:=sg
   subst im
   have dg:=hl1.get (n:=cand n1 j) (sm _ _ wD.hh)
   refine⟨_,rfl,_,rfl,p.h,_,rfl,dg,_,rfl,?_⟩
   cases e:rowOf D1 (cand n1 j) with
   |none=>exact iteT ⟨_,rfl,hR (by rw[e];rfl) _ _ _ ⟨_,rfl⟩ (Same.refl _) rfl⟩
   |some row'=>exact iteF (hS (by rw[e];rfl) _ _ ⟨_,rfl⟩ (Same.refl _))
  have wE:=wD.same sE
  have stE:=stD.same sE
  refine⟨l4,_,0,V.str o,rfl,rfl,SqL.of fE,atI_nat (j:=0) eo,?_⟩
  clear wD stD fD fE sE eo hl4 hl3 hl2 hl1' hn1
  -- lines that are none
  refine⟨_,rfl,_,rfl,_,rfl,_,rfl,_,rfl,r,xA,bb,n,z,o,row,rfl,stE,hn,bz,ho,wd,fun l HF xF kF stF bl=>?_⟩
  obtain⟨zs,hz,zb,zl⟩:=bl
  have wF:=wE.keep hl1 kF stF
  clear wE stE kF stF bz
  refine⟨l,rfl,⟨_,SqL.of hz⟩,?_⟩
  have few1:D1.length<60:=by have:=dok1.few;omega
  refine for_list (xs:=zs.map V.str) (fun i σ H'=>∃ob,σ=[some (.ref a),some (.ref p.x),some (.ref p.h),o3,some (.str n),o5,some (.ref r),some (.ref r1),some (.str (rowTxt row)),some (.str z),some (.str o),ob]/\It CD p r bb D1 (.dK (heldK D1)) H0 H'/\H' l=some (.lst (zs.map V.str))) ⟨_,rfl,wF,hz⟩ (fun i σ H' hi hp=>?_) (fun i y σ H' hyi hp=>?_) (fun σ H' hp=>?_)
  ·obtain⟨ob,rfl,_,hz⟩:=hp
   exact SqL.of hz
  ·obtain⟨ob,rfl,w,hz⟩:=hp
   rw[getElem?_map]at hyi
   obtain⟨t,et,rfl⟩:=map_eq_some_iff.mp hyi
   obtain⟨tb,tl'⟩:=zb t (mem_of_getElem? et)
   have lT:l≠p.T:=not_tabQ w.al.tt hz fun _ z=>nomatch z
   refine⟨w.al.tt,fun f4 H4 LA=>?_⟩
   have w4:=w.lam ok hl1 LA.grow LA.tab
   have hz4:=LA.grow _ _ lT hz
   refine meth_sayC rfl w4.al.dk ⟨_,rfl,sayG_bad tb (by omega) w4.al.dk fun e H5 s5 he=>⟨c4,bm4,e,4,rfl,rfl,he,e4,i4,kd4,fun H6 s6=>⟨rfl,false,ne_no rfl,iteF ?_⟩⟩⟩
   have w6:=((w4.same s5).same (same_new he _)).same s6
   have hz6:=s6 _ _ (same_new he _ _ _ (s5 _ _ hz4))
   refine⟨_,rfl,_,rfl,_,rfl,(by rw[sizeLine_eq];omega),rfl,_,rfl,ite2 (fun _=>?_) (fun _=>iteF ⟨_,rfl,w6,hz6⟩)⟩
   refine meth_sayC rfl w6.al.dk ⟨_,rfl,_,_,rfl,rfl,fit (by rw[lw];omega),sayG_show (shp_show hn) w6.al.dk ro wd fun H7 s7=>⟨_,rfl,rfl,false,ne_no rfl,iteF ?_⟩⟩
   exact⟨_,rfl,w6.same s7,s7 _ _ hz6⟩
  obtain⟨ob,rfl,w,_⟩:=hp
  clear wF hz zb zl
  -- the desk is asked
  have aq:Aq CD p.x p.d p.TA D1 H' H':=⟨fun _ _ _ e=>e,w.al.ta,w.al.dk⟩
  refine⟨_,rfl,_,rfl,_,rfl,p.x,p.d,n,o,D1,row,rfl,aq,few1,hn,ho,ro,lo,dok1.z,fun HG aqG=>⟨_,rfl,iteF ?_⟩⟩
  have wG:=w.ask ok hl1 aqG
  have n8:∀q∈D1,q.1.length<=8:=fun q hq=>by rw[len_is];exact(name_len (dok1.nm q hq).1).2.1
  have dl1:=dok1.few
  refine meth_sayC rfl wG.al.dk (sayG_kept wG.al.dk (by omega) n8 fun ms' HI pm' so' sI=>?_)
  have wI:=wG.same sI
  refine⟨rfl,_,rfl,p.h,D1.map (·.1),heldK D1,rfl,wI.hh,held_keys D1,by rw[length_map];omega,fun ms lm pm so hlm=>?_⟩
  have sJ:=same_new hlm (.lst (ms.map V.str))
  have wJ:=wI.same sJ
  have m8:∀n∈ms,n.length<=8:=fun n hn=>by
   obtain⟨q',hq',rfl⟩:=mem_map.mp (pm.mem_iff.mp hn)
   exact n8 q' hq'
  have mlen:ms.length<=18:=by rw[pm.length_eq,length_map];omega
  have jl:=join_len m8
  have jf:=join_fold m8
  have j200:ms.length*(8+1)<=200:=by omega
  refine⟨_,lm,ms,rfl,rfl,upd_same,le_trans jf (by rw[sizeLine_eq];omega),le_trans jl (by rw[sizeLine_eq];omega),rfl,false,ne_no (by rw[sorted_one (pm'.trans pm.symm) so' so]),iteF ?_⟩
  generalize upd HI lm (.lst (ms.map V.str))=HJ at wJ ⊢
  clear wI wG w sI sJ hlm aq aqG jl jf j200 m8 mlen pm pm' so so'
  -- all are shown
  refine⟨_,rfl,p.h,heldK D1,rfl,wJ.hh,fun ob' J hJ=>?_⟩
  have wK:=wJ.own ok hl1 (.frz ob' (.dK (heldK D1)))
  generalize upd HJ p.h (.frz ob' (.dK (heldK D1)))=HK at wK ⊢
  have hl2:Hl D1 (.frz ob' (.dK (heldK D1))):=.inr ⟨ob',rfl⟩
  intro lc' hlc
  refine comp_sel D1.length (by rw[sizeLine_eq];omega) (fun _=>false) (fun _=>V.non) (fun σ=>∃o,σ=[o,some (.ref p.x),some (.ref p.h)]) (fun i _ v=>∃n row,D1[i]?=some (n,row)/\v=.str n) hlc ⟨_,rfl⟩ (fun j H' sm=>?_) (fun j v σ' H' hj sm im sg R S hR hS=>?_) (fun HE sE fE=>?_)
  ·obtain⟨j1,j2⟩:=hJ j H' (sm _ _ wK.hh)
   rw[held_len]at j2
   refine⟨fun hlt=>?_,j2⟩
   have hk:=List.getElem?_eq_getElem (l:=heldK D1) (i:=j) (by rw[held_len];exact hlt)
   obtain⟨n,row,e1,e2⟩:=held_at hk
   obtain⟨j3,j4⟩:=j1 _ hk
   refine⟨j3,fun v H2 hy=>?_⟩
   obtain⟨rfl,e3⟩:=j4 v H2 hy
   exact⟨Same.refl _,n,row,e1,by rw[e3,e2];rfl⟩
  ·obtain⟨o',rfl⟩:=sg
   obtain⟨m1,row1,e1,rfl⟩:=im
   have w1:=wK.same sm
   obtain⟨hn1,wd1,l12⟩:nameB m1=true/\Wd row1/\row1.length<=12:=dok1.nm _ (mem_of_getElem? e1)
   have ro1:=row_at dok1.nd e1
   have nl1:=(fr_name hn1).2
   refine meth_sayC rfl w1.al.dk ⟨_,rfl,_,_,rfl,rfl,fit (by rw[lw];omega),sayG_show (shp_show hn1) w1.al.dk ro1 wd1 fun H7 s7=>?_⟩
   have dg:=hl2.get (n:=m1) (w1.same s7).hh
   rw[ro1]at dg
   exact⟨_,rfl,_,rfl,p.h,_,rfl,dg,rfl,false,ne_no rfl,iteF (hS rfl _ _ ⟨_,rfl⟩ s7)⟩
  have nil:((List.range D1.length).filter fun _=>false).map (fun _=>V.non)=[]:=by simp
  rw[nil]at fE
  refine⟨(by show 0<=sizeLine;decide),fun e he=>?_⟩
  have sF:=same_new he (.lst [])
  refine⟨lc',e,[],rfl,rfl,SqL.of (sF _ _ fE),SqL.of upd_same,_,rfl,iteF ?_⟩
  have wL:=(wK.same sE).same sF
  refine⟨p.h,ob',heldK D1,wL.hh,hn0,?_⟩
  have wM:=wL.own ok hl2 (.dK (heldK D1))
  exact⟨by omega,D1,wM.al,wM.hh,dok1,sq_ks sq (al.four gh (hl D)) wM.kp,_,_,_,_,_,_,_,_,_,rfl⟩
 exact q _
end
end K96
namespace K96
open L2
def FEnt (w:World)(K:W.Frag)(p:Str×List Str)(e:DictEntry):Prop:=e.hash=keyH w (Sum.inr p.1)/\(∃u,e.key=.str p.1 u)/\∃t,e.val=.ref t/\∀H:Hp,SqT K H t (p.2.map V.str)
theorem ents_at {w:World}{K:W.Frag}:∀{L:List (Str×List Str)} {es:List DictEntry},Paired (FEnt w K) L es->∃(kvs:List (Key×V)) (vs:List (Key×Value)),KV kvs vs/\(∀P:Program,Pairs (mixKind P w) es vs)/\vs.map (·.1)=L.map (fun p=>Sum.inr p.1)/\(∀e∈es,∃k:Key,keyIs k e.key=true/\e.hash=keyH w k)/\
 ∀x:Str,((L.find? fun p=>decide (p.1=x)).map (·.2)=none->valV kvs (Sum.inr x)=none)/\∀fs,(L.find? fun p=>decide (p.1=x)).map (·.2)=some fs->∃t:Addr,valV kvs (Sum.inr x)=some (.ref t)/\∀H:Hp,SqT K H t (fs.map V.str)
 |_,_,.nil=>⟨[],[],.nil,fun _=>.nil,rfl,fun e h=>(not_mem_nil h).elim,fun x=>⟨fun _=>rfl,fun fs h=>by cases h⟩⟩
 |_,_,@Paired.cons _ _ _ p e L es ⟨h1,⟨u,h2⟩,t,h3,h4⟩ r=>by
  obtain⟨kvs,vs,a,b,c,d,f⟩:=ents_at r
  refine⟨(Sum.inr p.1,.ref t)::kvs,(Sum.inr p.1,.ref t)::vs,.cons ⟨rfl,rfl⟩ a,fun P=>.cons (by rw[h2];exact mixKind_str P w _ _) h3 (b P),by rw[map_cons,map_cons,c],fun e' he=>?_,fun x=>?_⟩
  ·rcases mem_cons.mp he with rfl | he
   ·exact⟨Sum.inr p.1,by rw[h2];exact keyIs_str _ _,h1⟩
   ·exact d e' he
  ·by_cases z:p.1=x
   ·rw[find?_cons_of_pos (by exact decide_eq_true z),valV_pos (by rw[z])]
    refine⟨fun n=>(nomatch n),fun fs hf=>?_⟩
    cases hf
    exact⟨t,rfl,h4⟩
   ·rw[find?_cons_of_neg (by rw[decide_eq_false z];exact Bool.false_ne_true),valV_neg (fun q=>z (Sum.inr.inj q))]
    exact f x
theorem forms_mk {P:Program}{w:World}{K:W.Frag}{fm:Addr}{es:Array DictEntry}{ep:Nat}(l:K.lookup fm=some ⟨.type "dict",none,.dict es ep,#[]⟩)(s:(fm==sysModules)=false)(p:Paired (FEnt w K) formsL es.toList):FormsAt P w K fm:=by
 obtain⟨kvs,vs,a,b,c,d,f⟩:=ents_at p
 refine⟨kvs,⟨s,vs,a,fun h hin=>⟨_,es,ep,hin _ _ l,⟨rfl,rfl,rfl⟩,rfl,fun e he=>?_,b P,?_⟩⟩,f⟩
 ·obtain⟨k,k1,k2⟩:=d e (Array.mem_toList_iff.mpr he)
  exact⟨k,k1,k2⟩
 ·rw[c]
  decide +kernel
theorem ent_mk {w:World}{K:W.Frag}{p:Str×List Str}{e:DictEntry}{u:Tok}{t:Addr}{od:Option Addr}{sl:Array (Option Value)}{its:Array Value}{n:Nat}(h:e.hash=keyH w (Sum.inr p.1))(k:e.key=.str p.1 u)(v:e.val=.ref t)(l:K.lookup t=some ⟨.type "tuple",od,.seq its n,sl⟩)(z:its.size<=sizeLine)(vs:Vals (p.2.map V.str) its.toList):FEnt w K p e:=⟨h,⟨u,k⟩,t,v,fun H=>.inr ⟨_,its,n,l,rfl,rfl,z,vs⟩⟩
theorem all_mk {l:PySem.W.OpenLaw}{w:World}{K:W.Frag}{h:Heap}{mg:Str->Option Value}{fa c T qA TA b_ c0_ c1_ c2_ c3_ c4_ CD fm fI fO fS:Addr}{bmb_ bmc0_ bmc2_ bmc3_ bmc4_:List Value}{u1 u2 u3 u4 u5 u6 u7 u8 u9 u10 u11:Value}{odI anI odO anO odS anS:Option Addr}{slI slO slS:Array (Option Value)}{ocI kVI dcI pmI cdI ctI ocO kVO dcO pmO cdO ctO ocS kVS dcS pmS cdS ctS:Value}{esF:Array DictEntry}{epF:Nat}(X:K.In h)(G:h.Ns mainGlobals mg)(hfa:mg "law" = some (.ref fa))(d1:Din K "is_number" s_is_number)(d2:Din K "is_rising" s_is_rising)(d3:Din K "is_row" s_is_row)(d4:Din K "need_number" s_need_number)(d5:Din K "carry" s_carry)(d6:Din K "carried" s_carried)(d7:Din K "carried_by" s_carried_by)(d8:Din K "later" s_later)(d9:Din K "blocks_in" s_blocks_in)(d10:Din K "is_free" s_is_free)(d11:Din K "until_free" s_until_free)(d12:Din K "steps_to_free" s_steps_to_free)(d13:Din K "takings" s_takings)(d14:Din K "lengths" s_lengths)(d15:Din K "peeled" s_peeled)(d16:Din K "one_making" s_one_making)(d17:Din K "number_read" s_number_read)(d18:Din K "row_text" s_row_text)(d19:Din K "row_read" s_row_read)(d20:Din K "need_name" s_need_name)(d21:Din K "part_read" s_part_read)(d22:Din K "line_read" s_line_read)(d23:Din K "numbers_text" s_numbers_text)(d24:Din K "row_to_keep" s_row_to_keep)(d25:Din K "answer" s_answer)(d26:Din K "_law_cell_at" s_L_cell_at)(d27:Din K "_law_state" s_L_state)(d28:Din K "_law_take" s_L_take)(d29:Din K "_law_refused" s_L_refused)(d30:Din K "_law_row" s_L_row)(d31:Din K "_law_row_text" s_L_row_text)(d32:Din K "_law_name" s_L_name)(d33:Din K "_law_spoiled" s_L_spoiled)(d34:Din K "_law_no_text" s_L_no_text)(d35:Din K "_law_named" s_L_named)(d36:Din K "_law_blanks" s_L_blanks)(d37:Din K "_law_bad_lines" s_L_bad_lines)(dA:DinC K "_law_asked_right" s_L_asked_right qA)(dT:DinC K "law" s_law c)(n1:PySem.W.nsIn K mainGlobals "MOST_BALLS" = some (some u1))(e1:RelV (.int 12) u1)(n2:PySem.W.nsIn K mainGlobals "FARTHEST" = some (some u2))(e2:RelV (.int 1000000000) u2)(n3:PySem.W.nsIn K mainGlobals "MOST_STEPS" = some (some u3))(e3:RelV (.int 60) u3)(n4:PySem.W.nsIn K mainGlobals "GREATEST_SIZE" = some (some u4))(e4:RelV (.int 12) u4)(n5:PySem.W.nsIn K mainGlobals "MOST_TO_FREE" = some (some u5))(e5:RelV (.int 60) u5)(n6:PySem.W.nsIn K mainGlobals "FIGURES" = some (some u6))(e6:RelV (.str FIG) u6)(n7:PySem.W.nsIn K mainGlobals "MOST_FIGURES" = some (some u7))(e7:RelV (.int 30) u7)(n8:PySem.W.nsIn K mainGlobals "MOST_BOXES" = some (some u8))(e8:RelV (.int 200) u8)(n9:PySem.W.nsIn K mainGlobals "NO_BALLS" = some (some u9))(e9:RelV (.str NOB) u9)(n10:PySem.W.nsIn K mainGlobals "LETTERS" = some (some u10))(e10:RelV (.str LET) u10)(n11:PySem.W.nsIn K mainGlobals "LONGEST_NAME" = some (some u11))(e11:RelV (.int 8) u11)(xb_:XIn K "BallError" b_ bmb_)(xc0_:XIn K "NoNumber" c0_ bmc0_)(xc2_:XIn K "TooLong" c2_ bmc2_)(xc3_:XIn K "NoRow" c3_ bmc3_)(xc4_:XIn K "BadNote" c4_ bmc4_)(xc1_:PySem.W.nsIn K mainGlobals "NotFree" = some (some (.ref c1_)))(g1c0_:findIn K (.ref c0_) "__getattribute__" = some (some (.builtin "BaseException.__getattribute__")))(g2c0_:findIn K (.ref c0_) "__class__" = some (some (.builtin "object.__class__")))(g3c0_:findIn K (.ref c0_) "__getattr__" = some none)(g4c0_:subIn K (.ref c0_) (.type "BaseException")=some true)(g5c0_:subIn K (.ref c0_) (.type "object")=some true)(q0c0_:kitOne K (.ref c0_) (.ref c0_)=some true)(q1c0_:kitOne K (.ref c0_) (.ref c1_)=some false)(q2c0_:kitOne K (.ref c0_) (.ref c2_)=some false)(q3c0_:kitOne K (.ref c0_) (.ref c3_)=some false)(q4c0_:kitOne K (.ref c0_) (.ref c4_)=some false)(qvc0_:kitOne K (.ref c0_) (.type "ValueError")=some true)(hic0_:(Value.ref c0_::bmc0_).contains (.ref b_)=true)(g1c2_:findIn K (.ref c2_) "__getattribute__" = some (some (.builtin "BaseException.__getattribute__")))(g2c2_:findIn K (.ref c2_) "__class__" = some (some (.builtin "object.__class__")))(g3c2_:findIn K (.ref c2_) "__getattr__" = some none)(g4c2_:subIn K (.ref c2_) (.type "BaseException")=some true)(g5c2_:subIn K (.ref c2_) (.type "object")=some true)(q0c2_:kitOne K (.ref c2_) (.ref c0_)=some false)(q1c2_:kitOne K (.ref c2_) (.ref c1_)=some false)(q2c2_:kitOne K (.ref c2_) (.ref c2_)=some true)(q3c2_:kitOne K (.ref c2_) (.ref c3_)=some false)(q4c2_:kitOne K (.ref c2_) (.ref c4_)=some false)(qvc2_:kitOne K (.ref c2_) (.type "ValueError")=some true)(hic2_:(Value.ref c2_::bmc2_).contains (.ref b_)=true)(g1c3_:findIn K (.ref c3_) "__getattribute__" = some (some (.builtin "BaseException.__getattribute__")))(g2c3_:findIn K (.ref c3_) "__class__" = some (some (.builtin "object.__class__")))(g3c3_:findIn K (.ref c3_) "__getattr__" = some none)(g4c3_:subIn K (.ref c3_) (.type "BaseException")=some true)(g5c3_:subIn K (.ref c3_) (.type "object")=some true)(q0c3_:kitOne K (.ref c3_) (.ref c0_)=some false)(q1c3_:kitOne K (.ref c3_) (.ref c1_)=some false)(q2c3_:kitOne K (.ref c3_) (.ref c2_)=some false)(q3c3_:kitOne K (.ref c3_) (.ref c3_)=some true)(q4c3_:kitOne K (.ref c3_) (.ref c4_)=some false)(qvc3_:kitOne K (.ref c3_) (.type "ValueError")=some true)(hic3_:(Value.ref c3_::bmc3_).contains (.ref b_)=true)(g1c4_:findIn K (.ref c4_) "__getattribute__" = some (some (.builtin "BaseException.__getattribute__")))(g2c4_:findIn K (.ref c4_) "__class__" = some (some (.builtin "object.__class__")))(g3c4_:findIn K (.ref c4_) "__getattr__" = some none)(g4c4_:subIn K (.ref c4_) (.type "BaseException")=some true)(g5c4_:subIn K (.ref c4_) (.type "object")=some true)(q0c4_:kitOne K (.ref c4_) (.ref c0_)=some false)(q1c4_:kitOne K (.ref c4_) (.ref c1_)=some false)(q2c4_:kitOne K (.ref c4_) (.ref c2_)=some false)(q3c4_:kitOne K (.ref c4_) (.ref c3_)=some false)(q4c4_:kitOne K (.ref c4_) (.ref c4_)=some true)(qvc4_:kitOne K (.ref c4_) (.type "ValueError")=some true)(hic4_:(Value.ref c4_::bmc4_).contains (.ref b_)=true)(xD:PySem.W.nsIn K mainGlobals "Desk" = some (some (.ref CD)))(pgD:plainGet K CD Str.empty=true)(hdD:hasDictIn K CD=true)(poD:plainOver K CD=true)(saD:findIn K (.ref CD) "__setattr__" = some (some (.builtin "object.__setattr__")))(naD:findIn K (.ref CD) "rows" = some none)(maD:makesIn K CD=true)(keD:keepIn K (.ref CD)=true)(aI:findIn K (.ref CD) "__init__" = some (some (.ref fI)))(lI:K.lookup fI=some ⟨ocI,odI,.func (PySem.W.fnOf "__init__" "Desk.__init__" (defArgs s___init__) (defBody s___init__) (defScope s___init__) .none kVI dcI pmI anI cdI ctI),slI⟩)(cI:codeIn K cdI "Desk.__init__" = true)(kI:keepIn K (.ref fI)=true)(iI:PySem.W.isFn K (.ref fI)=true)(aO:findIn K (.ref CD) "row_of" = some (some (.ref fO)))(lO:K.lookup fO=some ⟨ocO,odO,.func (PySem.W.fnOf "row_of" "Desk.row_of" (defArgs s_row_of) (defBody s_row_of) (defScope s_row_of) .none kVO dcO pmO anO cdO ctO),slO⟩)(cO:codeIn K cdO "Desk.row_of" = true)(kO:keepIn K (.ref fO)=true)(iO:PySem.W.isFn K (.ref fO)=true)(aS:findIn K (.ref CD) "say" = some (some (.ref fS)))(lS:K.lookup fS=some ⟨ocS,odS,.func (PySem.W.fnOf "say" "Desk.say" (defArgs s_say) (defBody s_say) (defScope s_say) .none kVS dcS pmS anS cdS ctS),slS⟩)(cS:codeIn K cdS "Desk.say" = true)(kS:keepIn K (.ref fS)=true)(iS:PySem.W.isFn K (.ref fS)=true)(xF:PySem.W.nsIn K mainGlobals "FORMS" = some (some (.ref fm)))(lF:K.lookup fm=some ⟨.type "dict",none,.dict esF epF,#[]⟩)(sF:(fm==sysModules)=false)(pF:Paired (FEnt w K) formsL esF.toList)(ch:codeHdIn K c T=true)(kt:K.lookup T=none)(chA:codeHdIn K qA TA=true)(ktA:K.lookup TA=none)(z1:PySem.W.nsIn K mainGlobals "len" = some none)(z2:PySem.W.nsIn K mainGlobals "isinstance" = some none)(z3:PySem.W.nsIn K mainGlobals "bool" = some none)(z4:PySem.W.nsIn K mainGlobals "int" = some none)(z5:PySem.W.nsIn K mainGlobals "tuple" = some none)(z6:PySem.W.nsIn K mainGlobals "list" = some none)(z7:PySem.W.nsIn K mainGlobals "range" = some none)(z8:PySem.W.nsIn K mainGlobals "zip" = some none)(z9:PySem.W.nsIn K mainGlobals "all" = some none)(z10:PySem.W.nsIn K mainGlobals "max" = some none)(z11:PySem.W.nsIn K mainGlobals "min" = some none)(z12:PySem.W.nsIn K mainGlobals "reversed" = some none)(z13:PySem.W.nsIn K mainGlobals "abs" = some none)(z14:PySem.W.nsIn K mainGlobals "dict" = some none)(z15:PySem.W.nsIn K mainGlobals "sorted" = some none)(z16:PySem.W.nsIn K mainGlobals "str" = some none)(z17:PySem.W.nsIn K mainGlobals "enumerate" = some none)(z18:PySem.W.nsIn K mainGlobals "sum" = some none)(z19:PySem.W.nsIn K mainGlobals "ValueError" = some none) :
 ∃(fd:FuncData),(∀(s:Shared) (v:Value),BindsTo s fd ⟨[v],[]⟩ [("_law_script",v)])/\(∀T0∈[TA,T],K.lookup T0=none)/\(∀T0∈[TA,T],∃c,codeHdIn K c T0=true)/\∀base:Heap,K.In base->base.Ns mainGlobals mg->BltAt mg base->FnOk l.prog w K mg base CX0 10 fa fd ["_law_script"] (spLaw K T TA):=by
 obtain⟨f,fd,a,F,hcd⟩:=dT
 cases hfa.symm.trans (mg_of X G a)
 have nb0:Nb mg:=⟨mg_none_of X G z1,mg_none_of X G z2,mg_none_of X G z3,mg_none_of X G z4,mg_none_of X G z5,mg_none_of X G z6,mg_none_of X G z7,mg_none_of X G z8,mg_none_of X G z9,mg_none_of X G z10,mg_none_of X G z11⟩
 have nb2:Nb2 mg:=⟨nb0,mg_none_of X G z12,mg_none_of X G z13⟩
 have nb3:Nb3 mg:=⟨nb2,mg_none_of X G z14,mg_none_of X G z15⟩
 have nbx:NbX mg:=⟨nb3,mg_none_of X G z16,mg_none_of X G z17⟩
 have nb:Nb4 mg:=⟨nb3,mg_none_of X G z18,mg_none_of X G z19⟩
 have c_MOST_BALLS:∃u,mg "MOST_BALLS" = some u/\RelV (.int 12) u:=⟨u1,mg_of X G n1,e1⟩
 have c_FARTHEST:∃u,mg "FARTHEST" = some u/\RelV (.int 1000000000) u:=⟨u2,mg_of X G n2,e2⟩
 have c_MOST_STEPS:∃u,mg "MOST_STEPS" = some u/\RelV (.int 60) u:=⟨u3,mg_of X G n3,e3⟩
 have c_GREATEST_SIZE:∃u,mg "GREATEST_SIZE" = some u/\RelV (.int 12) u:=⟨u4,mg_of X G n4,e4⟩
 have c_MOST_TO_FREE:∃u,mg "MOST_TO_FREE" = some u/\RelV (.int 60) u:=⟨u5,mg_of X G n5,e5⟩
 have c_FIGURES:∃u,mg "FIGURES" = some u/\RelV (.str FIG) u:=⟨u6,mg_of X G n6,e6⟩
 have c_MOST_FIGURES:∃u,mg "MOST_FIGURES" = some u/\RelV (.int 30) u:=⟨u7,mg_of X G n7,e7⟩
 have c_MOST_BOXES:∃u,mg "MOST_BOXES" = some u/\RelV (.int 200) u:=⟨u8,mg_of X G n8,e8⟩
 have c_NO_BALLS:∃u,mg "NO_BALLS" = some u/\RelV (.str NOB) u:=⟨u9,mg_of X G n9,e9⟩
 have c_LETTERS:∃u,mg "LETTERS" = some u/\RelV (.str LET) u:=⟨u10,mg_of X G n10,e10⟩
 have c_LONGEST_NAME:∃u,mg "LONGEST_NAME" = some u/\RelV (.int 8) u:=⟨u11,mg_of X G n11,e11⟩
 obtain⟨ab_,exb_⟩:=xb_
 have mb_:=mg_of X G ab_
 obtain⟨ac0_,exc0_⟩:=xc0_
 have mc0_:=mg_of X G ac0_
 obtain⟨ac2_,exc2_⟩:=xc2_
 have mc2_:=mg_of X G ac2_
 obtain⟨ac3_,exc3_⟩:=xc3_
 have mc3_:=mg_of X G ac3_
 obtain⟨ac4_,exc4_⟩:=xc4_
 have mc4_:=mg_of X G ac4_
 have efc0_:ExcF K c0_ bmc0_:=⟨exc0_,g1c0_,g2c0_,g3c0_,g4c0_,g5c0_⟩
 have kdc0_:Kind5 K c0_ c1_ c2_ c3_ c4_ c0_ 0:=⟨q0c0_,q1c0_,q2c0_,q3c0_,q4c0_,qvc0_,by decide⟩
 have efc2_:ExcF K c2_ bmc2_:=⟨exc2_,g1c2_,g2c2_,g3c2_,g4c2_,g5c2_⟩
 have kdc2_:Kind5 K c0_ c1_ c2_ c3_ c4_ c2_ 2:=⟨q0c2_,q1c2_,q2c2_,q3c2_,q4c2_,qvc2_,by decide⟩
 have efc3_:ExcF K c3_ bmc3_:=⟨exc3_,g1c3_,g2c3_,g3c3_,g4c3_,g5c3_⟩
 have kdc3_:Kind5 K c0_ c1_ c2_ c3_ c4_ c3_ 3:=⟨q0c3_,q1c3_,q2c3_,q3c3_,q4c3_,qvc3_,by decide⟩
 have efc4_:ExcF K c4_ bmc4_:=⟨exc4_,g1c4_,g2c4_,g3c4_,g4c4_,g5c4_⟩
 have kdc4_:Kind5 K c0_ c1_ c2_ c3_ c4_ c4_ 4:=⟨q0c4_,q1c4_,q2c4_,q3c4_,q4c4_,qvc4_,by decide⟩
 have er:Errs K mg b_ c0_ c1_ c2_ c3_ c4_:=⟨mb_,mc0_,mg_of X G xc1_,mc2_,mc3_,mc4_,⟨_,exb_⟩⟩
 have clD:Cls K CD:=⟨pgD,hdD,poD,saD⟩
 have nrD:NoAttr K CD "rows":=naD
 have mkD:Mk K CD fI:=⟨maD,aI,iI,keD⟩
 have FI:=fun_mk (st:=s___init__) lI cI kI
 have bI:=FI.binds (ps:=["self"]) fun _ _ _ _ _ _ us hl=>match us,hl with | [_],_=>rfl
 have mI:Meth K CD "__init__" fI:=⟨aI,iI,kI⟩
 have FO:=fun_mk (st:=s_row_of) lO cO kO
 have bO:=FO.binds (ps:=["self","name"]) fun _ _ _ _ _ _ us hl=>match us,hl with | [_,_],_=>rfl
 have mO:Meth K CD "row_of" fO:=⟨aO,iO,kO⟩
 have FS:=fun_mk (st:=s_say) lS cS kS
 have bS:=FS.binds (ps:=["self","line"]) fun _ _ _ _ _ _ us hl=>match us,hl with | [_,_],_=>rfl
 have mS:Meth K CD "say" fS:=⟨aS,iS,kS⟩
 have c_FORMS:∃u,mg "FORMS" = some u/\RelV (.ref fm) u:=⟨.ref fm,mg_of X G xF,rfl⟩
 have fms:FormsAt l.prog w K fm:=forms_mk lF sF pF
 have h_is_number:∀base,Has l.prog w K mg base 1 "is_number" ["thing","least","greatest"] spNum:=fun base=>d1.has X G fun F=>ok_is_number F nb0
 have h_is_rising:∀base,Has l.prog w K mg base 1 "is_rising" ["numbers"] spRise:=fun base=>d2.has X G fun F=>ok_is_rising F nb0
 have h_is_row:∀base,Has l.prog w K mg base 2 "is_row" ["thing"] spIsRow:=fun base=>d3.has X G fun F=>ok_is_row F nb0 (h_is_number base) (h_is_rising base) c_MOST_BALLS c_FARTHEST
 have h_number_read:∀base,Has l.prog w K mg base 1 "number_read" ["text"] spNumRead:=fun base=>d17.has X G fun F=>ok_number_read F nbx c_FIGURES c_MOST_FIGURES
 have hN_number_read:∀base,HasE l.prog w K mg base 1 "number_read" ["text"] (spNumE c4_):=fun base=>d17.hasE X G fun F=>ok_number_readE F nbx c_FIGURES c_MOST_FIGURES mc4_ exc4_
 have hE_number_read:∀base,HasE l.prog w K mg base 1 "number_read" ["text"] (orSp spNumRead (spNumE c4_)):=fun base=>d17.hasE X G fun F=>((ok_number_read F nbx c_FIGURES c_MOST_FIGURES).up).or (ok_number_readE F nbx c_FIGURES c_MOST_FIGURES mc4_ exc4_)
 have h_row_text:∀base,Has l.prog w K mg base 1 "row_text" ["row"] spRowText:=fun base=>d18.has X G fun F=>(ok_row_textW F nbx c_NO_BALLS).imp fun _ _ _ _=>text_imp
 have h_row_read:∀base,Has l.prog w K mg base 3 "row_read" ["text"] spRowRead:=fun base=>d19.has X G fun F=>ok_row_read F nbx (h_number_read base) (h_is_row base) (h_row_text base) c_NO_BALLS c_MOST_BOXES
 have hE_row_read:∀base,HasE l.prog w K mg base 3 "row_read" ["text"] (orSp spRowRead (spReadE c4_)):=fun base=>d19.hasE X G fun F=>((ok_row_read F nbx (h_number_read base) (h_is_row base) (h_row_text base) c_NO_BALLS c_MOST_BOXES).up).or (ok_row_readE F nbx (h_number_read base) (h_is_row base) (h_row_text base) (hN_number_read base) c_NO_BALLS c_MOST_BOXES mc4_ exc4_)
 have hE_need_name:∀base,HasE l.prog w K mg base 1 "need_name" ["word"] (spName c4_):=fun base=>d20.hasE X G fun F=>ok_need_name F nbx c_LETTERS c_LONGEST_NAME mc4_ exc4_
 have hE_part_read:∀base,HasE l.prog w K mg base 4 "part_read" ["form","word"] (spPart c4_):=fun base=>d21.hasE X G fun F=>ok_part_read F nbx (hE_row_read base) (hE_number_read base) (hE_need_name base) mc4_ exc4_
 have hE_line_read:∀base,HasE l.prog w K mg base 5 "line_read" ["line"] (spLine c4_):=fun base=>d22.hasE X G fun F=>ok_line_read F nbx (hE_part_read base) c_FORMS mc4_ exc4_ fms
 have hE_need_number:∀base,HasE l.prog w K mg base 2 "need_number" ["thing","least","greatest"] (spNeedE c0_):=fun base=>d4.hasE X G fun F=>ok_need_numberE F (h_is_number base) mc0_ exc0_
 have hE_later:∀base,HasE l.prog w K mg base 3 "later" ["row","steps"] (spOddE c0_ (-60) 60):=fun base=>d8.hasE X G fun F=>ok_laterE F (hE_need_number base) c_MOST_STEPS
 have hE_carried_by:∀base,HasE l.prog w K mg base 3 "carried_by" ["row","size"] (spOddE c0_ 1 12):=fun base=>d7.hasE X G fun F=>ok_carried_byE F (hE_need_number base) c_GREATEST_SIZE
 have h_lengths:∀base,Has l.prog w K mg base 0 "lengths" ["row"] spNone:=fun base=>d14.has X G fun F=>none_at
 have h_takings:∀base,Has l.prog w K mg base 0 "takings" ["row"] spNone:=fun base=>d13.has X G fun F=>none_at
 have h_numbers_text:∀base,Has l.prog w K mg base 0 "numbers_text" ["numbers"] spNone:=fun base=>d23.has X G fun F=>none_at
 have h_one_making:∀base,Has l.prog w K mg base 0 "one_making" ["one","other"] spNone:=fun base=>d16.has X G fun F=>none_at
 have h_peeled:∀base,Has l.prog w K mg base 0 "peeled" ["row"] spNone:=fun base=>d15.has X G fun F=>none_at
 have h_carry:∀base,Has l.prog w K mg base 1 "carry" ["row","size"] spCarry:=fun base=>d5.has X G fun F=>ok_carry F nb2
 have h_carried:∀base,Has l.prog w K mg base 2 "carried" ["row"] spCar:=fun base=>d6.has X G fun F=>ok_carried F nb2 (h_carry base)
 have h_blocks_in:∀base,Has l.prog w K mg base 1 "blocks_in" ["row"] spBin:=fun base=>d9.has X G fun F=>ok_blocks_in F nb2
 have h_is_free:∀base,Has l.prog w K mg base 2 "is_free" ["row"] spFree:=fun base=>d10.has X G fun F=>ok_is_free F nb2 (h_blocks_in base)
 have hE_until_free:∀base,HasE l.prog w K mg base 3 "until_free" ["row"] (spUntilE c2_):=fun base=>d11.hasE X G fun F=>ok_until_freeE F nb2 (h_is_free base) (h_carried base) c_MOST_TO_FREE mc2_ exc2_
 have hE_steps_to_free:∀base,HasE l.prog w K mg base 4 "steps_to_free" ["row"] (spUntilE c2_):=fun base=>d12.hasE X G fun F=>ok_steps_to_freeE F (hE_until_free base)
 have hE_answer:∀base,HasE l.prog w K mg base 5 "answer" ["word","given"] (spAns c2_):=fun base=>d25.hasE X G fun F=>ok_answer F nbx (h_lengths base) (h_takings base) (h_numbers_text base) (h_one_making base) (h_row_text base) (hE_steps_to_free base)
 have hE_row_to_keep:∀base,HasE l.prog w K mg base 5 "row_to_keep" ["word","given"] (spKeep c0_):=fun base=>d24.hasE X G fun F=>ok_row_to_keep F nbx (h_peeled base) (hE_later base) (hE_carried_by base)
 have h_L_cell_at:∀base,Has l.prog w K mg base 1 "_law_cell_at" ["_law_script","_law_k"] (spCell K):=fun base=>d26.has X G fun F=>ok_L_cell_at F nb0
 have h_L_state:∀base,Has l.prog w K mg base 2 "_law_state" ["_law_script","_law_k"] (spState K):=fun base=>d27.has X G fun F=>ok_L_state F nb0 (h_L_cell_at base)
 have h_L_take:∀base,Has l.prog w K mg base 1 "_law_take" ["_law_state_here","_law_many"] (spTake K):=fun base=>d28.has X G fun F=>ok_L_take F nb0
 have h_L_row:∀base,Has l.prog w K mg base 2 "_law_row" ["_law_state_here","_law_gaps"] spRow:=fun base=>d30.has X G fun F=>ok_L_row F nb0 (h_L_take base)
 have h_L_row_text:∀base,Has l.prog w K mg base 1 "_law_row_text" ["_law_row_here"] spLText:=fun base=>d31.has X G fun F=>ok_L_row_text F nbx
 have h_L_name:∀base,Has l.prog w K mg base 2 "_law_name" ["_law_state_here"] spNm:=fun base=>d32.has X G fun F=>ok_L_name F nb (h_L_take base)
 have h_L_spoiled:∀base,Has l.prog w K mg base 2 "_law_spoiled" ["_law_state_here","_law_name_here"] spSpo:=fun base=>d33.has X G fun F=>ok_L_spoiled F nb (h_L_take base)
 have h_L_no_text:∀base,Has l.prog w K mg base 2 "_law_no_text" ["_law_state_here","_law_text"] spNt:=fun base=>d34.has X G fun F=>ok_L_no_text F nb (h_L_take base)
 have h_L_named:∀base,Has l.prog w K mg base 1 "_law_named" ["_law_name_here","_law_other"] spNd:=fun base=>d35.has X G fun F=>ok_L_named F nb
 have h_L_blanks:∀base,Has l.prog w K mg base 1 "_law_blanks" ["_law_line"] spBk:=fun base=>d36.has X G fun F=>ok_L_blanks F nb
 have h_L_bad_lines:∀base,Has l.prog w K mg base 3 "_law_bad_lines" ["_law_state_here","_law_name_here","_law_bad","_law_lost","_law_text"] spBad:=fun base=>d37.has X G (hb:=fun _ _ _ _ _ _ us hl=>match us,hl with | [_,_,_,_,_],_=>rfl) fun F=>ok_L_bad_lines F nb (h_L_no_text base) (h_L_named base) (h_L_blanks base)
 have h_ref:HasR l.prog w K mg 8 7 "_law_refused" "_law_call" Rn (Ec K b_ c0_ c1_ c2_ c3_ c4_):=d29.hasR X G fun F _=>ok_L_refused F nb er
 have hFs:∀base,FnOk l.prog w K mg base (CXF l.prog w) 6 fS _ ["self","line"] (spSay CD c0_ c2_ c3_ c4_):=fun base=>ok_say FS nbx (hE_line_read base) (hE_answer base) (hE_row_to_keep base) clD nrD mO (ok_row_of FO nbx mc3_ exc3_ clD nrD) bO
 refine⟨fd,fun s v=>(by obtain⟨_,_,_,_,_,_,_,_,_,rfl,_⟩:=F.ex;exact .of_eq rfl),(forall_mem_cons.mpr ⟨ktA,forall_mem_cons.mpr ⟨kt,fun _ h0=>nomatch h0⟩⟩),(forall_mem_cons.mpr ⟨⟨_,chA⟩,forall_mem_cons.mpr ⟨⟨_,ch⟩,fun _ h0=>nomatch h0⟩⟩),fun base kb _ Bl=>?_⟩
 have h_L_asked_right:Has l.prog w K mg base 9 "_law_asked_right" ["_law_desk","_law_name_here","_law_lost"] (spAsk CD c0_ c2_ c3_ c4_ TA):=dA.has X G fun F hc=>ok_L_asked_right F nb (h_L_named base) h_ref clD mS hFs bS hc (codeHd_of_K kb chA) Bl efc0_ hic0_ kdc0_ efc2_ hic2_ kdc2_ efc3_ hic3_ kdc3_
 exact ok_law F nb (h_L_state base) (h_L_take base) (h_L_name base) (h_L_row base) (h_L_row_text base) (h_row_read base) (h_L_spoiled base) (h_L_bad_lines base) h_L_asked_right nbx h_ref clD mkD (ok___init__ FI clD nrD) (mg_of X G xD) bI mS hFs bS hcd (codeHd_of_K kb ch) Bl efc4_ hic4_ kdc4_
theorem walk {l:PySem.W.OpenLaw}{q:Program}{loose:List Str}{XP:(Str->Option Value)->Heap->Prop}{YP:World->Heap->Prop}{d:DefRec}{K:Params->W.Frag}{T TA:Addr}(hn:l.most=some 63)(hdf:d.params.defaults=[])(hY:∀(w:World) (h:Heap),YP w h->(K w.params).In h/\∀T0∈[TA,T],h.get? T0=some (tabObj #[]))(n1:T≠TA)(F:∀(w:World) (mg:Str->Option Value) (fa:Addr) (h:Heap),(K w.params).In h->h.Ns mainGlobals mg->mg d.name=some (.ref fa)->
  ∃(fd:FuncData),(∀(s:Shared) (v:Value),BindsTo s fd ⟨[v],[]⟩ [("_law_script",v)])/\(∀T0∈[TA,T],(K w.params).lookup T0=none)/\(∀T0∈[TA,T],∃c,codeHdIn (K w.params) c T0=true)/\∀base:Heap,(K w.params).In base->base.Ns mainGlobals mg->BltAt mg base->FnOk l.prog w (K w.params) mg base CX0 10 fa fd ["_law_script"] (spLaw (K w.params) T TA)) :
 PySem.W.WalkO q loose XP YP l.row.toRowW d [] (fun f vs=>PySem.call f vs):=
 L2.walk_ofTs (n:=63) (k:=10) (x:="_law_script") (sp:=fun w=>spLaw (K w.params) T TA) hn (by decide) hdf ⟨rfl,by decide,by decide⟩ hY F (fun _ _ a ns hl hT hS=>⟨a,ns,rfl,hS,hl,hT T (by simp),hT TA (by simp),n1,fun _=>rfl⟩)
end K96
namespace PySem.Challenge.cw_boxballs_k96_names_and_many_rows_at_a_de_holds
def tw10503163578012769416:=()
def tw7949366868234377993:=()
def tw10528850392252468820:=()
def tw6753732186344281522:=()
def tw14002533242758078341:=()
def tw16875262012667617621:=()
def tw16623436565170127590:=()
def tw14820386371884127556:=()
def tw3771022963256635666:=()
def tw13770592913028477114:=()
def tw15692779111206068824:=()
def tw6055626490244564705:=()
def tw2552957967975236306:=()
def tw11166833433437790851:=()
def tw7802825491364785230:=()
def tw4215414141940627:=()
def tw17813530188424383103:=()
def tw14270615166541200904:=()
def tw5935304095888783613:=()
def tw13005691000065129253:=()
def tw15251395676141900837:=()
def tw2430863088006274119:=()
def tw2297744043993452541:=()
def tw16544825214765324231:=()
def tw7184084730239318403:=()
def tw14758529308266565756:=()
def tw11535560030400917485:=()
def tw7397825680339973087:=()
def tw14757138184643173686:=()
def tw13834348803190017684:=()
def tw2032972620587678896:=()
def tw710430556370185731:=()
def tw43262653931975400:=()
def tw9076346103472427311:=()
def tw3822129696573429000:=()
def tw18337635622450241360:=()
def tw15897045084977172024:=()
def tw13215654691599832257:=()
def tw2989339330453429858:=()
def tw3510559496212967266:=()
def tw2893238506254094979:=()
def tw17824814417460019717:=()
def tw9665705616588995713:=()
def tw13278913199758093654:=()
def tw16181552089176088695:=()
def tw3125183173727662263:=()
def tw8473462676873639954:=()
def tw16848897123640062399:=()
def tw16056343116213729303:=()
def tw6954669172818976587:=()
def tw16955524233502151874:=()
def tw9412102465069606667:=()
def tw14433486986050400730:=()
def tw1316897126804783552:=()
def tw15901329409042518448:=()
def tw1583042338993353163:=()
def tw18067382860643571374:=()
def tw14640234877565458883:=()
def tw4208300897445201830:=()
def tw2673127663152826211:=()
def tw17875204241239913800:=()
def tw8389140400647668533:=()
def tw12729928680626936556:=()
def tw3158629906818175006:=()
def tw3499054113516754404:=()
def tw5468734305522165907:=()
def tw13492525030008044155:=()
def tw17916911807694100204:=()
def tw4271647069894570890:=()
def tw5922991575432408313:=()
def tw11371127229342208774:=()
def tw14762729160421289352:=()
def tw3491066146366271761:=()
def tw15719662906993503458:=()
def tw15964858421588746394:=()
def tw15324764368950730916:=()
def tw5845634636983696239:=()
def tw2796515067302238683:=()
def tw2434067528856520014:=()
def tw13562219864371271354:=()
def tw15279194128449688453:=()
def tw16961446014166673172:=()
def tw1098401678432914456:=()
def tw2942559095233966916:=()
def tw11223984089367001582:=()
def tw16399885488432727154:=()
def tw4399367160099908078:=()
def tw10224383845985753350:=()
def tw2255540340760995788:=()
def tw15856419686998875375:=()
def tw13398894848868954656:=()
def tw15580029263887507344:=()
def tw10556956698688275957:=()
def tw7402553350501744224:=()
def tw17470480301129373163:=()
def tw6601675919078741507:=()
def tw8005737565722484957:=()
def tw1032183410172090509:=()
def tw3366503980379146033:=()
def tw5986440498986687606:=()
def tw16823700701085239948:=()
def tw17510858770565175519:=()
def tw18045923056311725469:=()
def tw15918324000791884125:=()
def tw4197484566179039720:=()
def tw1467521668882250098:=()
def tw3568051309619554113:=()
def tw7853475735748861016:=()
def tw4128617266424944728:=()
def tw2440377550635504325:=()
def tw7600312796699990412:=()
def tw15184486762453366644:=()
def tw10235890849736356841:=()
def tw11001214268882827521:=()
def tw4985523941888573180:=()
def tw10783493340484844185:=()
def tw14967916073044974864:=()
def tw14290051945134939348:=()
def tw2477840391650859346:=()
def tw15454804750002238093:=()
def tw3025112306213163999:=()
def tw13478626645621780624:=()
def tw4721095884809746108:=()
def tw5110200848465885872:=()
def tw499753446699912024:=()
def tw2960205646129723477:=()
def tw7065551968418171352:=()
def tw2771118883121884973:=()
def tw5133187258495354325:=()
def tw6885513938230642781:=()
def tw2717092625830422419:=()
def tw3080186174036827124:=()
def tw12101136983831086477:=()
def tw14076808435053967345:=()
def tw5231558427548535724:=()
def tw3896788532763983183:=()
def tw4499267722085322326:=()
def tw16086200127480711765:=()
def tw10881997652575087562:=()
def tw9436748447668461805:=()
def tw5215255939086927452:=()
def tw10113013494791688099:=()
def tw14414192818094074925:=()
def tw3321384954628592044:=()
def tw3172542830776801521:=()
def tw10424668673395755472:=()
def tw7252638829982574935:=()
def tw14070300777541138187:=()
def tw7835357545181665358:=()
def tw9655512867163696984:=()
def tw15404184879389448560:=()
def tw507434485877320919:=()
def tw3217033148740893542:=()
def tw13441782125568981238:=()
def tw1189775711898417757:=()
def tw11270084426324381716:=()
def tw16842357956318475675:=()
def tw4169218592746627117:=()
def tw2771159866913084784:=()
def tw6935196665235552029:=()
def tw14914764068727332958:=()
def tw14291458998361914339:=()
def tw13395799680971455217:=()
def tw16241282314999088267:=()
def tw16033743709898702013:=()
def tw3659145114434550869:=()
def tw3172721953445387755:=()
def tw6692952746646189832:=()
def tw17644470849691648327:=()
def tw7966053969121137107:=()
def tw1751892609106802471:=()
def tw11820102143680061567:=()
def tw16154903252034081104:=()
def tw13912590486674625455:=()
def tw704610414737906882:=()
def tw15904731228550277862:=()
def tw3326964578693033989:=()
def tw5793678538326369422:=()
def tw6815120727626356307:=()
def tw8372359570823612087:=()
def tw17645941018971648163:=()
def tw3292424927342030588:=()
def tw17718014481456264669:=()
def tw13343767573944997757:=()
def tw9166032392511252846:=()
def tw3289211243999310714:=()
def tw17204270866264309221:=()
def tw8543934510390140638:=()
def tw7413968005257944220:=()
def tw3698871496042030178:=()
def tw17628492633376282829:=()
def tw1468295242857574770:=()
def tw13501935465390970698:=()
def tw2876095796583763709:=()
def tw1866603348802731669:=()
def tw2107370053460013955:=()
def tw1004949113684685612:=()
def tw18001033831215241721:=()
def tw5846975141197518843:=()
def tw5932701765910431011:=()
def tw7154696722307446891:=()
def tw828505529982698876:=()
def tw221294251758795081:=()
def tw2952333104113737917:=()
def tw3329884303535045157:=()
def tw2901515436790573452:=()
def tw10003512846786812363:=()
def tw13005857837465644265:=()
def tw13307495534286036892:=()
def tw18190421918065212936:=()
def tw2554819519325034015:=()
def tw4337909883213715138:=()
def tw14337010625606068116:=()
def tw4770137777398539935:=()
def tw10864848462787697250:=()
def tw5542343249482273019:=()
def tw1214566610697208199:=()
def tw9931752646087257931:=()
def tw8764321374101742163:=()
def tw13189896602984844563:=()
def tw2452075898575340137:=()
def tw11736723647932575262:=()
def tw17561829148002079004:=()
def tw8484651150699790968:=()
def tw15455841843541699520:=()
def tw519320078169086592:=()
def tw14957246439387946886:=()
def tw7723658808960235639:=()
def tw18155822328181417254:=()
def tw8342710810479888196:=()
def tw3891825913414307844:=()
def tw4117713140785745271:=()
def tw17186674272325378126:=()
def tw18421170512069776031:=()
end PySem.Challenge.cw_boxballs_k96_names_and_many_rows_at_a_de_holds
set_option Elab.async true
open PySem PySem.W PyProof.Rows
set_option maxHeartbeats 0 in
theorem PySem.Challenge.cw_boxballs_k96_names_and_many_rows_at_a_de_holds : PySem.Challenge.rw_boxballs_k96_names_and_many_rows_at_a_de.Holds := by
 w_on;o_law;k_head;(case hw=>w_witness2)
 k_fill
 refine K96.walk (l:=PySem.Challenge.rw_boxballs_k96_names_and_many_rows_at_a_de) rfl rfl (fun w h Y=>⟨PySem.W.km_in_of Y,List.forall_mem_cons.mpr ⟨PySem.W.km_tabs_of Y _ (.head _),List.forall_mem_cons.mpr ⟨PySem.W.km_tabs_of Y _ (.tail _ (.head _)),fun _ h0=>nomatch h0⟩⟩⟩) ?n1 ?F
 case n1=>decide
 case F=>
  intro w mg fa h KX G hmg
  refine' K96.all_mk KX G hmg ?d1 ?d2 ?d3 ?d4 ?d5 ?d6 ?d7 ?d8 ?d9 ?d10 ?d11 ?d12 ?d13 ?d14 ?d15 ?d16 ?d17 ?d18 ?d19 ?d20 ?d21 ?d22 ?d23 ?d24 ?d25 ?d26 ?d27 ?d28 ?d29 ?d30 ?d31 ?d32 ?d33 ?d34 ?d35 ?d36 ?d37 ?dA ?dT ?n1 ?e1 ?n2 ?e2 ?n3 ?e3 ?n4 ?e4 ?n5 ?e5 ?n6 ?e6 ?n7 ?e7 ?n8 ?e8 ?n9 ?e9 ?n10 ?e10 ?n11 ?e11 ?xb_ ?xc0_ ?xc2_ ?xc3_ ?xc4_ ?xc1_ ?g1c0_ ?g2c0_ ?g3c0_ ?g4c0_ ?g5c0_ ?q0c0_ ?q1c0_ ?q2c0_ ?q3c0_ ?q4c0_ ?qvc0_ ?hic0_ ?g1c2_ ?g2c2_ ?g3c2_ ?g4c2_ ?g5c2_ ?q0c2_ ?q1c2_ ?q2c2_ ?q3c2_ ?q4c2_ ?qvc2_ ?hic2_ ?g1c3_ ?g2c3_ ?g3c3_ ?g4c3_ ?g5c3_ ?q0c3_ ?q1c3_ ?q2c3_ ?q3c3_ ?q4c3_ ?qvc3_ ?hic3_ ?g1c4_ ?g2c4_ ?g3c4_ ?g4c4_ ?g5c4_ ?q0c4_ ?q1c4_ ?q2c4_ ?q3c4_ ?q4c4_ ?qvc4_ ?hic4_ ?xD ?pgD ?hdD ?poD ?saD ?naD ?maD ?keD ?aI ?lI ?cI ?kI ?iI ?aO ?lO ?cO ?kO ?iO ?aS ?lS ?cS ?kS ?iS ?xF ?lF ?sF ?pF ?ch ?kt ?chA ?ktA ?z1 ?z2 ?z3 ?z4 ?z5 ?z6 ?z7 ?z8 ?z9 ?z10 ?z11 ?z12 ?z13 ?z14 ?z15 ?z16 ?z17 ?z18 ?z19
  (case d1|d2|d3|d4|d5|d6|d7|d8|d9|d10|d11|d12|d13|d14|d15|d16|d17|d18|d19|d20|d21|d22|d23|d24|d25|d26|d27|d28|d29|d30|d31|d32|d33|d34|d35|d36|d37=>(refine' L2.din ?a ?l ?c ?k;(case a|l|c|k=>k_is)))
  (case dA|dT=>(refine' L2.dinC ?a ?l ?c ?k;(case a|l|c|k=>k_is)))
  (case n1|n2|n3|n4|n5|n6|n7|n8|n9|n10|n11=>k_is)
  (case e1|e2|e3|e4|e5|e6|e7|e8|e9|e10|e11=>exact⟨_,rfl⟩)
  (case xb_|xc0_|xc2_|xc3_|xc4_=>(refine' L2.xin ?a ?lk ?no ?ni ?tl ?cb ?cv;(case a=>k_is);(case lk=>k_is);(case no=>kernel_rfl);(case ni=>k_is);(case tl=>kernel_rfl);(case cb=>first | k_is | decide | rfl);(case cv=>first | k_is | decide | rfl)))
  (case xc1_|g1c0_|g2c0_|g3c0_|g4c0_|g5c0_=>k_is)
  (case q0c0_|q1c0_|q2c0_|q3c0_|q4c0_|qvc0_=>kernel_rfl)
  (case hic0_=>first | k_is | decide | rfl)
  (case g1c2_|g2c2_|g3c2_|g4c2_|g5c2_=>k_is)
  (case q0c2_|q1c2_|q2c2_|q3c2_|q4c2_|qvc2_=>kernel_rfl)
  (case hic2_=>first | k_is | decide | rfl)
  (case g1c3_|g2c3_|g3c3_|g4c3_|g5c3_=>k_is)
  (case q0c3_|q1c3_|q2c3_|q3c3_|q4c3_|qvc3_=>kernel_rfl)
  (case hic3_=>first | k_is | decide | rfl)
  (case g1c4_|g2c4_|g3c4_|g4c4_|g5c4_=>k_is)
  (case q0c4_|q1c4_|q2c4_|q3c4_|q4c4_|qvc4_=>kernel_rfl)
  (case hic4_=>first | k_is | decide | rfl)
  (case xD=>k_is)
  (case pgD|hdD|poD=>kernel_rfl)
  (case saD|naD=>k_is)
  (case maD|keD=>kernel_rfl)
  (case aI|lI=>k_is)
  (case cI|kI|iI=>kernel_rfl)
  (case aO|lO=>k_is)
  (case cO|kO|iO=>kernel_rfl)
  (case aS|lS=>k_is)
  (case cS|kS|iS=>kernel_rfl)
  (case xF|lF=>k_is)
  (case sF=>decide)
  (case pF=>(refine' .cons (K96.ent_mk rfl rfl rfl ?l ?z ?v) ?_;(case l=>k_is);(case z=>decide);(case v=>exact .cons ⟨_,rfl⟩ (.cons ⟨_,rfl⟩ .nil));refine' .cons (K96.ent_mk rfl rfl rfl ?l ?z ?v) ?_;(case l=>k_is);(case z=>decide);(case v=>exact .nil);refine' .cons (K96.ent_mk rfl rfl rfl ?l ?z ?v) ?_;(case l=>k_is);(case z=>decide);(case v=>exact .cons ⟨_,rfl⟩ .nil);refine' .cons (K96.ent_mk rfl rfl rfl ?l ?z ?v) ?_;(case l=>k_is);(case z=>decide);(case v=>exact .cons ⟨_,rfl⟩ (.cons ⟨_,rfl⟩ (.cons ⟨_,rfl⟩ .nil)));refine' .cons (K96.ent_mk rfl rfl rfl ?l ?z ?v) ?_;(case l=>k_is);(case z=>decide);(case v=>exact .cons ⟨_,rfl⟩ (.cons ⟨_,rfl⟩ (.cons ⟨_,rfl⟩ .nil)));refine' .cons (K96.ent_mk rfl rfl rfl ?l ?z ?v) ?_;(case l=>k_is);(case z=>decide);(case v=>exact .cons ⟨_,rfl⟩ (.cons ⟨_,rfl⟩ .nil));refine' .cons (K96.ent_mk rfl rfl rfl ?l ?z ?v) ?_;(case l=>k_is);(case z=>decide);(case v=>exact .cons ⟨_,rfl⟩ .nil);refine' .cons (K96.ent_mk rfl rfl rfl ?l ?z ?v) ?_;(case l=>k_is);(case z=>decide);(case v=>exact .cons ⟨_,rfl⟩ .nil);refine' .cons (K96.ent_mk rfl rfl rfl ?l ?z ?v) ?_;(case l=>k_is);(case z=>decide);(case v=>exact .cons ⟨_,rfl⟩ .nil);refine' .cons (K96.ent_mk rfl rfl rfl ?l ?z ?v) ?_;(case l=>k_is);(case z=>decide);(case v=>exact .cons ⟨_,rfl⟩ (.cons ⟨_,rfl⟩ .nil));exact .nil))
  (case ch|kt|chA|ktA=>kernel_rfl)
  (case z1|z2|z3|z4|z5|z6|z7|z8|z9|z10|z11|z12|z13|z14|z15|z16|z17|z18|z19=>k_is)

import PyProof.Rows.All
import Wide.All
import OpenK.AllK
import Wide.FinOn
import Lean
import PyProof.EqAt
import PyProof.EqKinds
import PyProof.TupleCall
import KE.KSortTup
import PyProof.TupleOfGen
import PyProof.ListRange
import PyProof.Rows.ZipGen
import KE.KRevIter
import PyProof.NeKinds
import PyProof.CompUse
import KE.KDictSum
import PyProof.Rows.SortWalk
import PyProof.AttrMissHeap
import KE.KDictOf
import PyProof.StationsW
import PyProof.ExcClass2
import PyProof.ExcBaseAll.ValueError
import OpenK.KOwn
import PyProof.RulesAs
import PyProof.Rows.Catch
import PyProof.ExcAttrAll.ValueError
import KE.KIsAll
import PyProof.NsDelKeeps
import KE.KLam
import KE.KTupSum
import PyProof.SeqI3
import PyProof.Rows.SeqMore
import PyProof.MinMaxWalk
import PyProof.WalkInts
import PyProof.Rows.CallKwBuiltin
import KE.KRevSl
import PyProof.Rows.SortRev
import PyProof.Rows.SetFrom
import PyProof.ListMulRoad
import PyProof.FactsAll.tuple
import PyProof.WalksMore
import KE.KItemsList
import PyProof.TupleKey
import PyProof.DictRoadsH
import PyProof.DictWalks
import PyProof.SumAny
import PyProof.Rows.SumGenD
import PyProof.StrWalks
import PyProof.MeetsStr
import PyProof.StrBlockH
import PyProof.EnumMake
import KE.KIntText
import PyProof.Rows.FStr
import KE.IntTextLaws
import KE.KxText
import PyProof.Rows.StrDigitsNeg
import PyProof.Rows.ReprOcc
import PyProof.StrLawsFirst
import PyProof.StrLawsIn
import PyProof.StrCalls2
import PyProof.StrLawsChain
import PyProof.StrLawsOcc
import PySem.Challenge.RW_boxballs_k84_whole_rows_made
set_option maxHeartbeats 4000000
set_option maxRecDepth 100000
set_option Elab.async false
set_option linter.unusedVariables false
set_option linter.all false
open PySem PySem.Spec PyProof.Rows
open Array (getD_eq_getD_getElem? getElem?_toList getElem_toList length_toList size_append size_map toList_append toList_extract toList_inj toList_map toList_push toList_reverse toList_zip)
open Bool (and_eq_true eq_false_iff false_eq_true)
open List (all_cons all_eq_true all_map any_cons any_map append_nil concat_eq_append cons_append count_cons count_eq_zero count_pos_iff drop_drop drop_eq_getElem_cons drop_of_length_le drop_zero eq_nil_or_concat ext_getElem ext_getElem? filter_append filter_congr filter_cons filter_cons_of_neg filter_cons_of_pos find?_cons flatMap_append flatMap_cons flatMap_singleton flatten_cons getD_eq_getElem?_getD getElem?_append_left getElem?_append_right getElem?_drop getElem?_of_mem getElem?_range getElem?_take getElem?_zip_eq_some getElem_mem length_append length_cons length_drop length_dropLast length_eq_zero_iff length_filter_le length_map length_nil length_range length_replicate length_reverse length_singleton length_take lookup_cons map_append map_congr_left map_cons map_drop map_id' map_map map_nil mem_append mem_append_left mem_append_right mem_cons mem_cons_of_mem mem_cons_self mem_filter mem_map mem_map_of_mem mem_of_getElem? mem_of_mem_drop mem_of_mem_take mem_range mem_singleton nil_append nodup_cons nodup_nil not_mem_nil of_mem_zip pairwise_append pairwise_cons pairwise_iff_getElem pairwise_map pairwise_singleton perm_append_comm perm_middle range_succ range_succ_eq_map replicate replicate_succ reverse_append size_toArray sum_append sum_cons take_add_one take_append_drop take_length take_nil take_of_length_le take_take)
open Option (getD_none)
open PySem.Calls (callWith_builtin spliced_cons spliced_nil)
open PySem.Heap (get?_push_at get?_push_of_some get?_push_size get?_update_of_ne get?_update_other get?_update_self lt_size size_after_update size_update)
open PySem.SetTable (insertAt movedTo sizeAbove toList_insertAt)
namespace L2
abbrev Key:=Sum Int Str
def keyIs:Key→Value→Bool
 | .inl k,v=>Value.isInt k v
 | .inr x,v=>Value.isStrOf x v
def keyH (w:World):Key→Int
 | .inl k=>hashInt k
 | .inr x=>hashStr w x
theorem keyIs_shape:∀{k:Key} {v:Value},keyIs k v=true→(∃i t,k=Sum.inl i∧v=Value.int i t)∨(∃x t,k=Sum.inr x∧v=Value.str x t)
 | .inl i,v,h=>by
   obtain⟨t,e⟩:=Value.isInt_shape (k:=i) (v:=v) h
   exact .inl ⟨i,t,rfl,e⟩
 | .inr x,v,h=>by
   obtain⟨t,e⟩:=Value.isStrOf_shape (x:=x) (v:=v) h
   exact .inr ⟨x,t,rfl,e⟩
theorem keyIs_int (i:Int)(t:Tok):keyIs (.inl i) (.int i t)=true:=by simp[keyIs,Value.isInt]
theorem keyIs_str (x:Str)(t:Tok):keyIs (.inr x) (.str x t)=true:=by simp[keyIs,Value.isStrOf]
theorem key_ll (a b:Int):decide ((Sum.inl a:Key)=Sum.inl b)=(a==b):=by
 by_cases e:a=b
 ·subst e;simp
 ·have h:¬(Sum.inl a:Key)=Sum.inl b:=fun q=>e (Sum.inl.inj q)
  rw[decide_eq_false h]
  exact(beq_eq_false_iff_ne.mpr e).symm
theorem key_rr (a b:Str):decide ((Sum.inr a:Key)=Sum.inr b)=decide (a=b):=by
 by_cases e:a=b
 ·subst e;simp
 ·have h:¬(Sum.inr a:Key)=Sum.inr b:=fun q=>e (Sum.inr.inj q)
  rw[decide_eq_false h,decide_eq_false e]
theorem key_lr (a:Int)(b:Str):decide ((Sum.inl a:Key)=Sum.inr b)=false:=decide_eq_false (fun q=>nomatch q)
theorem key_rl (a:Str)(b:Int):decide ((Sum.inr a:Key)=Sum.inl b)=false:=decide_eq_false (fun q=>nomatch q)
def mixKind (prog:Program)(w:World):PySem.KeyKind prog w Key where
 is:=keyIs
 hash:=keyH w
 inj:=fun v a b ha hb=>by
  rcases keyIs_shape ha with⟨i,t,rfl,rfl⟩ | ⟨x,t,rfl,rfl⟩
  ·rcases keyIs_shape hb with⟨j,u,rfl,e⟩ | ⟨y,u,rfl,e⟩
   ·injection e with e1 _;rw[e1]
   ·exact nomatch e
  ·rcases keyIs_shape hb with⟨j,u,rfl,e⟩ | ⟨y,u,rfl,e⟩
   ·exact nomatch e
   ·injection e with e1 _;rw[e1]
 byValue:=fun k v h=>by
   rcases keyIs_shape h with⟨i,t,rfl,rfl⟩ | ⟨x,t,rfl,rfl⟩<;>rfl
 pyHash:=fun hv h=>by
  rcases keyIs_shape hv with⟨i,t,rfl,rfl⟩ | ⟨x,t,rfl,rfl⟩
  ·exact wpAny_pyHash_int h
  ·exact wpAny_pyHash_str h
 eqBool:=fun hu hv h=>by
  rcases keyIs_shape hu with⟨i,t,rfl,rfl⟩ | ⟨x,t,rfl,rfl⟩
  ·rcases keyIs_shape hv with⟨j,u,rfl,rfl⟩ | ⟨y,u,rfl,rfl⟩
   ·rw[key_ll]at h;exact wpAny_eqBool_int h
   ·rw[key_lr]at h;exact SeqAt.EqAt.int_str i t y u _ _ _ _ h
  ·rcases keyIs_shape hv with⟨j,u,rfl,rfl⟩ | ⟨y,u,rfl,rfl⟩
   ·rw[key_rl]at h;exact SeqAt.EqAt.str_int x t j u _ _ _ _ h
   ·rw[key_rr]at h;exact wpAny_eqBool_str h
 «strs»:=fun k x t v h=>by
  rcases keyIs_shape h with⟨i,u,rfl,e⟩ | ⟨y,u,rfl,e⟩
  ·exact nomatch e
  ·injection e with e1 _
   subst e1
   cases v<;>rfl
theorem mixKind_int (prog:Program)(w:World)(i:Int)(t:Tok):(mixKind prog w).is (.inl i) (.int i t)=true:=keyIs_int i t
theorem mixKind_str (prog:Program)(w:World)(x:Str)(t:Tok):(mixKind prog w).is (.inr x) (.str x t)=true:=keyIs_str x t
inductive V where
 |non | bl (b:Bool) | int (i:Int) | str (x:Str) | byt (b:Array UInt8) | flt (b:UInt64) | ref (a:Addr) | ty (n:String)
 deriving DecidableEq
def RelV:V→Value→Prop
 | .non,u=>u=Value.none
 | .bl b,u=>u=Value.bool b
 | .int i,u=>∃t,u=Value.int i t
 | .str x,u=>∃t,u=Value.str x t
 | .byt b,u=>∃t,u=Value.bytes b t
 | .flt b,u=>∃t,u=Value.float b t
 | .ref a,u=>u=Value.ref a
 | .ty n,u=>u=Value.type n
abbrev Vals:List V→List Value→Prop:=Paired RelV
theorem Vals.length {xs:List V}{us:List Value}(r:Vals xs us):xs.length=us.length:=Paired.length r
theorem Vals.get:∀{xs:List V} {us:List Value} {i:Nat} {x:V},Vals xs us→xs[i]?=some x→∃u,us[i]?=some u∧RelV x u
 |_,_,_,_,.nil,e=>by simp at e
 |_,_,0,_,.cons r _,e=>by simp at e;subst e;exact⟨_,rfl,r⟩
 |_,_,i+1,x,.cons _ t,e=>by
  obtain⟨u,h1,h2⟩:=Vals.get (i:=i) (x:=x) t (by simpa using e)
  exact⟨u,by simpa using h1,h2⟩
theorem Vals.set {x:V}{u:Value}(r:RelV x u):∀{xs:List V} {us:List Value} (i:Nat),Vals xs us→Vals (xs.set i x) (us.set i u)
 |_,_,_,.nil=>.nil
 |_,_,0,.cons _ t=>.cons r t
 |_,_,i+1,.cons q t=>.cons q (Vals.set r i t)
theorem Vals.append:∀{xs ys:List V} {us ws:List Value},Vals xs us→Vals ys ws→Vals (xs++ys) (us++ws)
 |_,_,_,_,.nil,s=>s
 |_,_,_,_,.cons r t,s=>.cons r (Vals.append t s)
theorem Vals.take:∀{xs:List V} {us:List Value} (n:Nat),Vals xs us→Vals (xs.take n) (us.take n)
 |_,_,0,_=>.nil
 |_,_,_+1,.nil=>.nil
 |_,_,n+1,.cons r t=>.cons r (Vals.take n t)
theorem Vals.drop:∀{xs:List V} {us:List Value} (n:Nat),Vals xs us→Vals (xs.drop n) (us.drop n)
 |_,_,0,r=>r
 |_,_,_+1,.nil=>.nil
 |_,_,n+1,.cons _ t=>Vals.drop n t
theorem Vals.none_of:∀{xs:List V} {us:List Value} {i:Nat},Vals xs us→xs[i]?=none→us[i]?=none:=fun{xs us i} r e=>by
 have h1:=r.length
 have h2:xs.length≤i:=List.getElem?_eq_none_iff.mp e
 exact List.getElem?_eq_none_iff.mpr (by omega)
def RelO:Option V→Option Value→Prop
 |some v,some u=>RelV v u
 |none,none=>True
 |_,_=>False
def KV {κ:Type}:List (κ×V)→List (κ×Value)→Prop:=Paired fun(p:κ×V) (q:κ×Value)=>p.1=q.1∧RelV p.2 q.2
def kV:Key→V
 | .inl i=>.int i
 | .inr x=>.str x
inductive HO where
 |lst (xs:List V)
 |tup (xs:List V)
 |dK (kvs:List (Key×V)) | dT (kvs:List (List Key×V))
 |set (S:Int→Bool) (n:Nat)
 |ins (C dx:Addr) (fs:List (Str×V))
 |own (x:Addr)
 |xd (fs:List (Str×V))
 |met (f x:Addr)
 |rng (lo hi:Int)
 |frz (o:Obj) (u:HO)
 |tbl (ps:Array Value)
 |ext (φ:Heap→Prop)
abbrev Hp:=Addr→Option HO
def upd (H:Hp)(a:Addr)(o:HO):Hp:=fun b=>if b=a then some o else H b
theorem upd_same {H:Hp}{a:Addr}{o:HO}:upd H a o a=some o:=by unfold upd;rw[if_pos rfl]
theorem upd_ne {H:Hp}{a b:Addr}{o:HO}(h:b≠a):upd H a o b=H b:=by unfold upd;rw[if_neg h]
theorem ne_of {H:Hp}{a b:Addr}{o u:HO}(h:H a=some o)(h':H b=some u)(d:o≠u):a≠b:=by
 intro e;subst e;rw[h]at h';exact d (Option.some.inj h')
theorem ne_of_none {H:Hp}{a b:Addr}{o:HO}(h:H a=some o)(h':H b=none):a≠b:=by
 intro e;subst e;rw[h]at h';cases h'
section
variable (P:Program)(w:World)
def ObjOk (H:Hp)(h:Heap)(a:Addr):HO→Prop
 | .lst xs=>xs.length≤sizeLine∧∃(its:List Value) (n:Nat),Vals xs its∧h.get? a=some {cls:=.type "list",data:=.seq its.toArray n}
 | .tup xs=>xs.length≤sizeLine∧∃its:List Value,Vals xs its∧IsTup h a its.toArray
 | .dK kvs=>kvs.length≤sizeLine∧(a==sysModules)=false∧∃vs,KV kvs vs∧h.DictOf (mixKind P w) a vs
 | .dT kvs=>kvs.length≤sizeLine∧(a==sysModules)=false∧∃xs:List (List Key×Addr×Value),
  Paired (fun(p:List Key×V) (q:List Key×Addr×Value)=>p.1=q.1∧H q.2.1=some (.tup (p.1.map kV))∧RelV p.2 q.2.2) kvs xs∧
  ∃o es ep,h.get? a=some o∧o.ExactDict∧o.data=.dict es ep∧es.toList=xs.map (entryOfKey (tupleKind (mixKind P w)))∧(xs.map (·.1)).Nodup
 | .set S n=>h.SetOf (intKind P w) a S n
 | .ins C dx fs=>H dx=some (.own a)∧fs.length≤1000∧dx≠a∧h.get? a=some (PySem.W.instObj C dx)∧
  ∃mA,h.Ns1 dx mA∧(∀f,RelO (fs.lookup f) (mA f))∧PySem.Within mA (fs.map (·.1))
 | .own _=>∃o,h.get? a=some o
 | .xd fs=>∃mA,h.Ns1 a mA∧∀f,RelO (fs.lookup f) (mA f)
 | .rng lo hi=>∃t u v,h.get? a=some {cls:=.type "range",data:=.fields #[.int lo t,.int hi u,.int 1 v]}
 | .frz o u=>h.get? a=some o∧ObjOk H h a u
 | .tbl ps=>h.get? a=some {cls:=.none,data:=.fields ps}
 | .met f x=>h.get? a=some (PySem.W.methodObj (.ref f) (.ref x))
 | .ext φ=>φ h∧(∃o,h.get? a=some o)∧∀h1 h2:Heap,φ h1→(∀o,h1.get? a=some o→h2.get? a=some o)→φ h2
def HOk (H:Hp)(h:Heap):Prop:=∀a o,H a=some o→ObjOk P w H h a o
end
section
variable {P:Program}{w:World}{H H':Hp}{h h':Heap}{a:Addr}{o:HO}
theorem ObjOk.lt (x:ObjOk P w H h a o):a<h.objs.size:=by
 cases o with
 |lst xs=>obtain⟨_,_,_,_,e⟩:=x;exact lt_size e
 |tup xs=>obtain⟨_,_,_,p⟩:=x;exact p.lt
 |dK kvs=>obtain⟨_,_,_,_,o,_,_,e,_⟩:=x;exact lt_size e
 |dT kvs=>obtain⟨_,_,_,_,o,_,_,e,_⟩:=x;exact lt_size e
 |set S n=>obtain⟨o,_,_,_,e,_⟩:=x;exact lt_size e
 |ins C dx fs=>obtain⟨_,_,_,e,_⟩:=x;exact lt_size e
 |own y=>obtain⟨_,e⟩:=x;exact lt_size e
 |xd fs=>obtain⟨_,⟨_,_,_,e,_⟩,_⟩:=x;exact lt_size e
 |rng lo hi=>obtain⟨_,_,_,e⟩:=x;exact lt_size e
 |frz ob u=>obtain⟨e,_⟩:=x;exact lt_size e
 |tbl ps=>exact lt_size (show h.get? a=some _ from x)
 |met f y=>exact lt_size (show h.get? a=some _ from x)
 |ext φ=>obtain⟨_,⟨_,e⟩,_⟩:=x;exact lt_size e
theorem Paired.mapP {α β:Type}{F G:α→β→Prop}:∀{l₁:List α} {l₂:List β},Paired F l₁ l₂→(∀a b,F a b→G a b)→Paired G l₁ l₂
 |_,_,.nil,_=>.nil
 |_,_,.cons r t,f=>.cons (f _ _ r) (Paired.mapP t f)
theorem ObjOk.stay (x:ObjOk P w H h a o)(k:∀b u,(b=a∨H b=some (.own a))→h.get? b=some u→h'.get? b=some u)
 (ho:∀b,H b=some (.own a)→H' b=some (.own a)) (ht:∀b xs,H b=some (.tup xs)→H' b=some (.tup xs)):ObjOk P w H' h' a o:=by
 induction o with
 |lst xs=>obtain⟨z,its,n,r,e⟩:=x;exact⟨z,its,n,r,k _ _ (.inl rfl) e⟩
 |tup xs=>obtain⟨z,its,r,ob,e,c⟩:=x;exact⟨z,its,r,ob,k _ _ (.inl rfl) e,c⟩
 |dK kvs=>obtain⟨z,y,vs,r,ob,es,ep,e,c⟩:=x;exact⟨z,y,vs,r,ob,es,ep,k _ _ (.inl rfl) e,c⟩
 |dT kvs=>
  obtain⟨z,y,xs,r,ob,es,ep,e,c⟩:=x
  exact⟨z,y,xs,Paired.mapP r fun p q z=>⟨z.1,ht _ _ z.2.1,z.2.2⟩,ob,es,ep,k _ _ (.inl rfl) e,c⟩
 |set S n=>obtain⟨ob,es,ep,t,e,c⟩:=x;exact⟨ob,es,ep,t,k _ _ (.inl rfl) e,c⟩
 |ins C dx fs=>
  obtain⟨d,z,ne,e,mA,⟨od,es,ep,e2,c⟩,r⟩:=x
  exact⟨ho _ d,z,ne,k _ _ (.inl rfl) e,mA,⟨od,es,ep,k _ _ (.inr d) e2,c⟩,r⟩
 |own y=>obtain⟨ob,e⟩:=x;exact⟨ob,k _ _ (.inl rfl) e⟩
 |xd fs=>obtain⟨mA,⟨od,es,ep,e,c⟩,r⟩:=x;exact⟨mA,⟨od,es,ep,k _ _ (.inl rfl) e,c⟩,r⟩
 |rng lo hi=>obtain⟨t,u,v,e⟩:=x;exact⟨t,u,v,k _ _ (.inl rfl) e⟩
 |frz ob u ih=>obtain⟨e,q⟩:=x;exact⟨k _ _ (.inl rfl) e,ih q⟩
 |tbl ps=>
  have e:h.get? a=some {cls:=.none,data:=.fields ps}:=x
  show h'.get? a=some {cls:=.none,data:=.fields ps}
  exact k a _ (.inl rfl) e
 |met f y=>
  have e:h.get? a=some (PySem.W.methodObj (.ref f) (.ref y)):=x
  show h'.get? a=some (PySem.W.methodObj (.ref f) (.ref y))
  exact k a _ (.inl rfl) e
 |ext φ=>obtain⟨p,⟨o,e⟩,st⟩:=x;exact⟨st _ _ p fun o q=>k _ _ (.inl rfl) q,⟨o,k _ _ (.inl rfl) e⟩,st⟩
theorem HOk.lt (x:HOk P w H h)(e:H a=some o):a<h.objs.size:=(x a o e).lt
theorem HOk.fresh (x:HOk P w H h)(e:h.objs.size≤a):H a=none:=by
 cases q:H a with
 |none=>rfl
 |some u=>exact absurd (Nat.lt_of_lt_of_le (x.lt q) e) (Nat.lt_irrefl _)
theorem HOk.kept (x:HOk P w H h)(k:∀b u,h.get? b=some u→h'.get? b=some u):HOk P w H h':=fun a o e=>
 (x a o e).stay (fun b u _ q=>k b u q) (fun _ q=>q) fun _ _ q=>q
theorem HOk.laid (x:HOk P w H h)(k:∀b u,h.get? b=some u→h'.get? b=some u)(hp:h.objs.size≤a)(new:ObjOk P w (upd H a o) h' a o):HOk P w (upd H a o) h':=fun b u e=>by
 have hn:=x.fresh hp
 by_cases hb:b=a
 ·subst hb;rw[upd_same]at e;cases e;exact new
 ·rw[upd_ne hb]at e
  exact(x b u e).stay (fun c v _ q=>k c v q) (fun c q=>by rw[upd_ne (ne_of_none q hn)];exact q) fun c xs q=>by rw[upd_ne (ne_of_none q hn)];exact q
end
def Rd (H:Hp)(a:Addr)(u:HO):Prop:=H a=some u∨∃o,H a=some (.frz o u)
theorem Rd.ok {P:Program}{w:World}{H:Hp}{h:Heap}{a:Addr}{u:HO}(r:Rd H a u)(x:HOk P w H h):ObjOk P w H h a u:=by
 rcases r with r | ⟨o,r⟩
 ·exact x a u r
 ·obtain⟨_,q⟩:=x a _ r
  exact q
def Mut:Option HO→Prop
 |some (.lst _)=>True
 |some (.dK _)=>True
 |some (.dT _)=>True
 |some (.set _ _)=>True
 |some (.ins _ _ _)=>True
 |some (.ext _)=>True
 |_=>False
section
variable {P:Program}{w:World}{H:Hp}{h h':Heap}{x e:Addr}{o':HO}
theorem HOk.write (ok:HOk P w H h)(mu:Mut (H x))(he:e=x∨H e=some (.own x))(k:∀b u,b≠e→h.get? b=some u→h'.get? b=some u)(heo:∃u,h'.get? e=some u)
 (new:ObjOk P w (upd H x o') h' x o'):HOk P w (upd H x o') h':=fun b u q=>by
 have nown:∀c y,H c=some (.own y)→c≠x:=fun c y r z=>by subst z;rw[r]at mu;exact mu
 have ntup:∀c xs,H c=some (.tup xs)→c≠x:=fun c xs r z=>by subst z;rw[r]at mu;exact mu
 by_cases hb:b=x
 ·subst hb;rw[upd_same]at q;cases q;exact new
 ·rw[upd_ne hb]at q
  by_cases hbe:b=e
  ·have q':H b=some (.own x):=by
    rcases he with z | z
    ·exact absurd (hbe.trans z) hb
    ·rw[hbe];exact z
   rw[q]at q';cases q'
   obtain⟨v,hv⟩:=heo
   exact⟨v,by rw[hbe];exact hv⟩
  ·refine(ok b u q).stay (fun c v hc r=>k c v ?_ r) (fun c r=>by rw[upd_ne (nown c b r)];exact r) fun c xs r=>by rw[upd_ne (ntup c xs r)];exact r
   rcases hc with rfl | hc
   ·exact hbe
   ·rintro rfl
    rcases he with z | z
    ·exact nown c b hc z
    ·rw[hc]at z;cases z;exact hb rfl
end
structure Un (fs ex:List Addr)(H H':Hp)(h h':Heap):Prop where
 keep:∀b o,h.get? b=some o→H b=none→b∉fs→b∉ex→h'.get? b=some o
 slot:∀b o,h.get? b=some o→H b=none→b∈fs→b∉ex→∃sl,h'.get? b=some {o with slots:=sl}
 free:∀b o,h.get? b=some o→H b=none→b∉ex→H' b=none
 there:∀b o,h.get? b=some o→b∉ex→∃o',h'.get? b=some o'
 tups:∀b xs,H b=some (.tup xs)→H' b=some (.tup xs)
 frzs:∀b o u,H b=some (.frz o u)→H' b=some (.frz o u)
 tbls:∀b ps,H b=some (.tbl ps)→∃more,H' b=some (.tbl (ps++more))
section
variable {fs fs' ex ex':List Addr}{H H1 H2:Hp}{h h1 h2 h':Heap}{a x e:Addr}{o:HO}
theorem Un.any (u:Un fs ex H H1 h h1){b:Addr}{ob:Obj}(q:h.get? b=some ob)(n:H b=none)(hx:b∉ex):∃sl,h1.get? b=some {ob with slots:=sl}:=by
 by_cases hb:b∈fs
 ·exact u.slot b ob q n hb hx
 ·exact⟨ob.slots,u.keep b ob q n hb hx⟩
theorem Un.kept (k:∀b u,h.get? b=some u→h'.get? b=some u):Un fs ex H H h h':=
 ⟨fun b ob q _ _ _=>k b ob q,fun b ob q _ _ _=>⟨ob.slots,k b ob q⟩,fun _ _ _ n _=>n,fun b ob q _=>⟨ob,k b ob q⟩,fun _ _ q=>q,fun _ _ _ q=>q,fun _ ps q=>⟨#[],by rw[q];simp⟩⟩
theorem Un.refl:Un fs ex H H h h:=Un.kept fun _ _ q=>q
theorem Un.laid (k:∀b u,h.get? b=some u→h'.get? b=some u)(hp:h.objs.size≤a)(hn:H a=none):Un fs ex H (upd H a o) h h' where
 keep:=fun b u q _ _ _=>k b u q
 slot:=fun b u q _ _ _=>⟨u.slots,k b u q⟩
 free:=fun b u q n _=>by rw[upd_ne (Nat.ne_of_lt (Nat.lt_of_lt_of_le (lt_size q) hp))];exact n
 there:=fun b u q _=>⟨u,k b u q⟩
 tups:=fun b xs q=>by rw[upd_ne (ne_of_none q hn)];exact q
 frzs:=fun b u xs q=>by rw[upd_ne (ne_of_none q hn)];exact q
 tbls:=fun b ps q=>⟨#[],by rw[upd_ne (ne_of_none q hn),q];simp⟩
theorem Un.write (mu:Mut (H x))(he:e=x∨H e=some (.own x))(k:∀b u,b≠e→h.get? b=some u→h'.get? b=some u)(heo:∃u,h'.get? e=some u):Un fs ex H (upd H x o) h h':=by
 have hx:∀b,H b=none→b≠x:=fun b n z=>by subst z;rw[n]at mu;exact mu
 have hb:∀b,H b=none→b≠e:=fun b n z=>by
  subst z
  rcases he with r | r
  ·exact hx b n r
  ·rw[n]at r;cases r
 have hm:∀b u,H b=some u→¬Mut (some u)→b≠x:=fun b u q nm z=>by subst z;rw[q]at mu;exact nm mu
 refine⟨fun b u q n _ _=>k b u (hb b n) q,fun b u q n _ _=>⟨u.slots,k b u (hb b n) q⟩,fun b u q n _=>by rw[upd_ne (hx b n)];exact n,fun b u q _=>?_,
  fun b xs q=>by rw[upd_ne (hm b _ q fun z=>z)];exact q,fun b u xs q=>by rw[upd_ne (hm b _ q fun z=>z)];exact q,fun b ps q=>⟨#[],by rw[upd_ne (hm b _ q fun z=>z),q];simp⟩⟩
 by_cases hbe:b=e
 ·subst hbe;exact heo
 ·exact⟨u,k b u hbe q⟩
end
def trk (h:Heap)(H:Hp):List Addr:=(List.range h.objs.size).filter fun a=>(H a).isSome
def hidT (h:Heap)(H:Hp):Heap:=PySem.W.hideAll h (trk h H)
theorem hidT_size (h:Heap)(H:Hp):(hidT h H).objs.size=h.objs.size:=PySem.W.hideAll_size _ _
theorem hidT_get {h:Heap}{H:Hp}{b:Addr}{o:Obj}(e:h.get? b=some o)(n:H b=none):(hidT h H).get? b=some o:=
 PySem.W.hideAll_get _ e fun hm=>by
  have q:(H b).isSome=true:=(mem_filter.mp hm).2
  rw[n]at q;simp at q
theorem of_hidT {h:Heap}{H:Hp}{b:Addr}{o:Obj}(e:(hidT h H).get? b=some o):h.get? b=some o∧H b=none:=by
 have e':h.get? b=some o:=PySem.W.of_hideAll (trk h H) e
 refine⟨e',?_⟩
 cases q:H b with
 |none=>rfl
 |some x=>
  have hm:b∈trk h H:=mem_filter.mpr ⟨mem_range.mpr (lt_size e'),by simp[q]⟩
  have z:(hidT h H).get? b=none:=PySem.W.hideAll_none (trk h H) hm
  rw[z]at e;cases e
def allNews (g h:Heap)(L:Addr):List (Addr×Obj):=(List.range h.objs.size).filterMap fun a=>if a=L∨(g.get? a).isSome=true then none else(h.get? a).map fun o=>(a,o)
def rest (g h:Heap)(L d:Addr):List (Addr×Obj):=(allNews g h L).filter fun p=>decide (p.1≠d)
structure Mod (K:W.Frag)(mg:Str→Option Value)(base:Heap):Prop where
 kin:K.In base
 glob:base.Ns mainGlobals mg
 blt:∃mb,base.Ns builtinsNs mb∧∀x:Str,x≠"__name__"→mb x=bootBuiltins x
 nolimit:base.NoLimit
structure Cx where
 prog:Program
 w:World
 K:W.Frag
 mg:Str→Option Value
 base:Heap
 A:Around
 N:List Str
 s₀:Shared
 H₀:Hp
 env:Env
 outer:List Env
 stack:List Env
 ex:List Addr
 fn:Str→Bool
 calm:Bool
 pn:List (Addr×Obj)
 xe:Value→Shared→Prop
def frs (l:List Env):List Addr:=l.filterMap (·.frame)
abbrev Cx.fs (X:Cx):List Addr:=frs X.outer
def Vis (sc:Scope)(x:Str):Prop:=sc.names.lookup x=some .local∨sc.names.lookup x=some .cell∨sc.names.lookup x=some .free
def Loc (sc:Scope)(x:Str):Prop:=sc.names.lookup x=some .local∨sc.names.lookup x=some .cell
def Look (env:Env)(h:Heap)(m:Str→Option Value)(x:Str)(u:Value):Prop:=
 (env.kindOf x=some .local∧m x=some u)∨((env.kindOf x=some .cell∨env.kindOf x=some .free)∧∃c,env.cells.lookup x=some c∧h.IsCell c (some u))
structure Cx.Ok (X:Cx):Prop where
 mod:Mod X.K X.mg X.base
 kind:X.env.scope.kind=.function
 glob:X.env.globals=mainGlobals
 blt:X.env.builtins=builtinsNs
 above:X.s₀.heap.objs.size≤X.env.locals
 inj:∀x y c,X.env.cells.lookup x=some c→X.env.cells.lookup y=some c→x=y
 has:∀x,(X.env.kindOf x=some .cell∨X.env.kindOf x=some .free)→∃c,X.env.cells.lookup x=some c
 cab:∀x c,X.fn x=true→X.env.cells.lookup x=some c→X.s₀.heap.objs.size≤c
 hd:X.calm=true→X.A.handled=none
 frames:X.A.frames=some X.stack
 stk:X.stack=X.outer∨(X.stack=X.env::X.outer∧X.env.frame=some X.env.locals)
 exf:∀b∈X.ex,b≠X.env.locals∧∀x c,X.env.cells.lookup x=some c→c≠b
 bs:∀b o,X.base.get? b=some o→X.s₀.heap.get? b=some o∧X.H₀ b=none
 bsz:X.base.objs.size≤X.s₀.heap.objs.size
 noex:∀b o,X.base.get? b=some o→b∉X.ex
 exfs:∀b∈X.ex,b∉X.fs
 funs:X.s₀.heap.FunFrames X.base X.outer
 frf:∀b∈X.fs,X.H₀ b=none
structure Inv (X:Cx)(pins:List (Addr×Obj))(σ:List (Option V))(H:Hp)(s:Shared):Prop where
 ok:X.Ok
 os:s.os=X.s₀.os
 bare:AllBare s.gens
 base:Un X.fs X.ex X.H₀ H X.s₀.heap s.heap
 loc:∃m,s.heap.Ns X.env.locals m∧∀(i:Nat) (x:Str) (v:V),X.N[i]?=some x→σ[i]?=some (some v)→Vis X.env.scope x→∃u,RelV v u∧Look X.env s.heap m x u
 cell:∀x c,X.env.cells.lookup x=some c→∃v,s.heap.IsCell c v
 free:H X.env.locals=none
 freeC:∀x c,X.env.cells.lookup x=some c→H c=none
 pin:∀p∈X.pn++pins,s.heap.get? p.1=some p.2∧H p.1=none∧p.1≠X.env.locals∧p.1∉X.fs∧∀v,p.2.data≠.cell v
 hok:HOk X.prog X.w H s.heap
 len:σ.length=X.N.length
section
variable {X:Cx}{pins:List (Addr×Obj)}{σ:List (Option V)}{H H':Hp}{s:Shared}{h':Heap}
theorem Cx.Ok.nofr (ok:X.Ok){b:Addr}{o:Obj}(e:X.base.get? b=some o):b∉X.fs:=fun hb=>by
 have:=(ok.funs.mem hb).1
 rw[e]at this;cases this
theorem Inv.bs (I:Inv X pins σ H s):∀b o,X.base.get? b=some o→s.heap.get? b=some o∧H b=none:=fun b o e=>
 ⟨I.base.keep b o (I.ok.bs b o e).1 (I.ok.bs b o e).2 (I.ok.nofr e) (I.ok.noex b o e),I.base.free b o (I.ok.bs b o e).1 (I.ok.bs b o e).2 (I.ok.noex b o e)⟩
theorem Inv.bk (I:Inv X pins σ H s):∀b o,X.base.get? b=some o→s.heap.get? b=some o:=fun b o e=>(I.bs b o e).1
theorem Inv.mod (I:Inv X pins σ H s):Mod X.K X.mg X.base:=I.ok.mod
theorem Inv.kIn (I:Inv X pins σ H s):X.K.In s.heap:=I.ok.mod.kin.keeps I.bk
theorem Inv.lt (I:Inv X pins σ H s):X.env.locals<s.heap.objs.size:=let⟨_,hn,_⟩:=I.loc;hn.lt
theorem Inv.sz (I:Inv X pins σ H s):X.s₀.heap.objs.size≤s.heap.objs.size:=Nat.le_trans I.ok.above (Nat.le_of_lt I.lt)
theorem Inv.nofs (I:Inv X pins σ H s){a:Addr}(h:s.heap.objs.size≤a):a∉X.fs:=fun hb=>by
 obtain⟨_,o,ho,_⟩:=I.ok.funs.mem hb
 exact absurd (Nat.lt_of_lt_of_le (lt_size ho) (Nat.le_trans I.sz h)) (Nat.lt_irrefl _)
theorem Inv.cne (I:Inv X pins σ H s):∀x c,X.env.cells.lookup x=some c→c≠X.env.locals:=fun x c e z=>by
 obtain⟨v,o,ho,hd⟩:=I.cell x c e
 obtain⟨m,⟨o',es,ep,ho',hd',_⟩,_⟩:=I.loc
 rw[z,ho']at ho;cases ho;rw[hd']at hd;cases hd
theorem Inv.funs (I:Inv X pins σ H s):s.heap.FunFrames X.base X.outer:=by
 have all:∀(l:List Env),(∀b∈frs l,b∈X.fs)→X.s₀.heap.FunFrames X.base l→s.heap.FunFrames X.base l:=by
  intro l
  induction l with
  |nil=>intro _ _;trivial
  |cons env r ih=>
   intro hs hl
   obtain⟨hk,⟨L,o,hf,hn,ho,hd⟩,hr⟩:=hl
   have hL:L∈X.fs:=hs L (by unfold frs;rw[List.filterMap_cons,hf];exact mem_cons_self)
   obtain⟨sl,e⟩:=I.base.slot L o ho (I.ok.frf L hL) hL fun z=>I.ok.exfs L z hL
   exact⟨hk,⟨L,_,hf,hn,e,hd⟩,ih (fun b hb=>hs b (by unfold frs;rw[List.filterMap_cons,hf];exact mem_cons_of_mem _ hb)) hr⟩
 exact all X.outer (fun _ hb=>hb) I.ok.funs
theorem Inv.stack (I:Inv X pins σ H s):s.heap.FunFrames X.base X.stack:=by
 rcases I.ok.stk with e | ⟨e,hf⟩
 ·rw[e];exact I.funs
 ·rw[e]
  obtain⟨m,hn,_⟩:=I.loc
  refine .cons (by rw[I.ok.kind];decide) hf hn ?_ I.funs
  exact Heap.get?_none_of_le (Nat.le_trans I.ok.bsz I.ok.above)
theorem Inv.stkSub (I:Inv X pins σ H s):∀b∈frs X.stack,b∈X.env.locals::X.fs:=fun b hb=>by
 rcases I.ok.stk with e | ⟨e,hf⟩
 ·rw[e]at hb;exact mem_cons_of_mem _ hb
 ·rw[e]at hb
  unfold frs at hb
  rw[List.filterMap_cons,hf]at hb
  exact hb
theorem Inv.stkFree (I:Inv X pins σ H s):∀b∈frs X.stack,H b=none:=fun b hb=>by
 rcases mem_cons.mp (I.stkSub b hb) with e | hb
 ·rw[e];exact I.free
 ·obtain⟨_,o,ho,_⟩:=I.ok.funs.mem hb
  exact I.base.free b o ho (I.ok.frf b hb) fun z=>I.ok.exfs b z hb
theorem Inv.step {g':Array GenState}{t':Nat}{d':Drawn}{ch:List Addr}(I:Inv X pins σ H s)
 (hch:∀b∈ch,(b∈X.ex∨X.s₀.heap.objs.size≤b)∧b≠X.env.locals∧(∀x c,X.env.cells.lookup x=some c→c≠b)∧∀p∈X.pn++pins,p.1≠b)
 (keep:∀b o,b≠X.env.locals→b∉X.fs→b∉ch→s.heap.get? b=some o→H b=none→h'.get? b=some o)
 (slot:∀b o,b≠X.env.locals→b∈X.fs→b∉ch→s.heap.get? b=some o→H b=none→∃sl,h'.get? b=some {o with slots:=sl}) (free:∀b o,b∉ch→s.heap.get? b=some o→H b=none→H' b=none)
 (there:∀b o,b∉ch→s.heap.get? b=some o→∃o',h'.get? b=some o')
 (tups:∀b xs,H b=some (.tup xs)→H' b=some (.tup xs)) (frzs:∀b o u,H b=some (.frz o u)→H' b=some (.frz o u)) (tbls:∀b ps,H b=some (.tbl ps)→∃more,H' b=some (.tbl (ps++more)))
 (ns:∀m,s.heap.Ns X.env.locals m→h'.Ns X.env.locals m) (hok:HOk X.prog X.w H' h') (hg:AllBare g') :
 Inv X pins σ H' {s with heap:=h',gens:=g',drawn:=d',toks:=t'}:=by
 have neL:∀b o,X.s₀.heap.get? b=some o→b≠X.env.locals:=fun b o e=>Nat.ne_of_lt (Nat.lt_of_lt_of_le (lt_size e) I.ok.above)
 have neC:∀b o,X.s₀.heap.get? b=some o→b∉X.ex→b∉ch:=fun b o e hx hb=>by
  rcases(hch b hb).1 with z | z
  ·exact hx z
  ·exact absurd (Nat.lt_of_lt_of_le (lt_size e) z) (Nat.lt_irrefl _)
 have cellK:∀x c,X.env.cells.lookup x=some c→∀v,s.heap.IsCell c v→h'.IsCell c v:=fun x c e v ⟨o,ho,hd⟩=>by
  have nch:c∉ch:=fun z=>(hch c z).2.2.1 x c e rfl
  by_cases hc:c∈X.fs
  ·obtain⟨sl,q⟩:=slot c o (I.cne x c e) hc nch ho (I.freeC x c e)
   exact⟨_,q,hd⟩
  ·exact⟨o,keep c o (I.cne x c e) hc nch ho (I.freeC x c e),hd⟩
 refine⟨I.ok,I.os,hg,⟨fun b o e n hb hx=>?_,fun b o e n hb hx=>?_,fun b o e n hx=>?_,fun b o e hx=>?_,fun b xs e=>tups b xs (I.base.tups b xs e),fun b o xs e=>frzs b o xs (I.base.frzs b o xs e),fun b ps e=>?_⟩,?_,fun x c e=>?_,?_,fun x c e=>?_,fun p hp=>?_,hok,I.len⟩
 ·exact keep b o (neL b o e) hb (neC b o e hx) (I.base.keep b o e n hb hx) (I.base.free b o e n hx)
 ·obtain⟨sl,e1⟩:=I.base.slot b o e n hb hx
  obtain⟨sl',e2⟩:=slot b _ (neL b o e) hb (neC b o e hx) e1 (I.base.free b o e n hx)
  exact⟨sl',e2⟩
 ·obtain⟨o',e1⟩:=I.base.there b o e hx
  exact free b o' (neC b o e hx) e1 (I.base.free b o e n hx)
 ·obtain⟨o',e1⟩:=I.base.there b o e hx
  exact there b o' (neC b o e hx) e1
 ·obtain⟨m1,e1⟩:=I.base.tbls b ps e
  obtain⟨m2,e2⟩:=tbls b _ e1
  exact⟨m1++m2,by rw[e2,Array.append_assoc]⟩
 ·obtain⟨m,hn,hl⟩:=I.loc
  refine⟨m,ns m hn,fun i x v e1 e2 e3=>?_⟩
  obtain⟨u,r,l⟩:=hl i x v e1 e2 e3
  refine⟨u,r,?_⟩
  rcases l with l | ⟨k,c,e,z⟩
  ·exact .inl l
  ·exact .inr ⟨k,c,e,cellK x c e _ z⟩
 ·obtain⟨v,z⟩:=I.cell x c e
  exact⟨v,cellK x c e v z⟩
 ·obtain⟨m,⟨o,_,_,ho,_⟩,_⟩:=I.loc
  exact free _ o (fun z=>(hch _ z).2.1 rfl) ho I.free
 ·obtain⟨v,o,ho,hd⟩:=I.cell x c e
  exact free c o (fun z=>(hch c z).2.2.1 x c e rfl) ho (I.freeC x c e)
 ·obtain⟨e,n,ne,nf,d⟩:=I.pin p hp
  have nch:p.1∉ch:=fun z=>(hch p.1 z).2.2.2 p hp rfl
  exact⟨keep p.1 p.2 ne nf nch e n,free p.1 p.2 nch e n,ne,nf,d⟩
theorem Inv.un {t':Nat}(I:Inv X pins σ H s)(u:Un X.fs [] H H' s.heap h')(hok:HOk X.prog X.w H' h'):Inv X pins σ H' {s with heap:=h',toks:=t'}:=by
 obtain⟨m,⟨o,es,ep,ho,r⟩,_⟩:=id I.loc
 obtain⟨sl,hL⟩:=u.any ho I.free (by simp)
 exact I.step (g':=s.gens) (d':=s.drawn) (ch:=[]) (fun _ z=>nomatch z) (fun b o _ hb _ e n=>u.keep b o e n hb (by simp)) (fun b o _ hb _ e n=>u.slot b o e n hb (by simp)) (fun b o _ e n=>u.free b o e n (by simp)) (fun b o _ e=>u.there b o e (by simp)) u.tups u.frzs u.tbls (fun m' hm=>by
  obtain⟨o',es',ep',ho',r'⟩:=hm
  rw[ho]at ho';cases ho'
  exact⟨_,es',ep',hL,r'⟩) hok I.bare
theorem Inv.call {g':Array GenState}{t':Nat}{d':Drawn}{ch:List Addr}(I:Inv X pins σ H s)(u:Un (frs X.stack) ch H H' s.heap h')(hok:HOk X.prog X.w H' h')(hg:AllBare g')
 (hch:∀b∈ch,(b∈X.ex∨X.s₀.heap.objs.size≤b)∧b≠X.env.locals∧(∀x c,X.env.cells.lookup x=some c→c≠b)∧∀p∈X.pn++pins,p.1≠b) :
 Inv X pins σ H' {s with heap:=h',gens:=g',drawn:=d',toks:=t'}:=by
 obtain⟨m,⟨o,es,ep,ho,r⟩,_⟩:=id I.loc
 obtain⟨sl,hL⟩:=u.any ho I.free fun z=>(hch _ z).2.1 rfl
 exact I.step (ch:=ch) hch (fun b o hL hb hc e n=>u.keep b o e n (fun z=>(mem_cons.mp (I.stkSub b z)).elim hL hb) hc) (fun b o _ _ hc e n=>u.any e n hc) (fun b o hc e n=>u.free b o e n hc) (fun b o hc e=>u.there b o e hc) u.tups u.frzs u.tbls (fun m' hm=>by
  obtain⟨o',es',ep',ho',r'⟩:=hm
  rw[ho]at ho';cases ho'
  exact⟨_,es',ep',hL,r'⟩) hok hg
theorem Inv.turned {t':Nat}{it:Addr}(I:Inv X pins σ H s)(k:∀b o,b≠it→s.heap.get? b=some o→h'.get? b=some o)(hn:H it=none)(hL:it≠X.env.locals)
 (h1:it∈X.ex∨X.s₀.heap.objs.size≤it) (h2:∀x c,X.env.cells.lookup x=some c→c≠it) (h3:∀p∈X.pn++pins,p.1≠it):Inv X pins σ H {s with heap:=h',toks:=t'}:=by
 have nit:∀b u,H b=some u→b≠it:=fun b u e z=>by rw[z,hn]at e;cases e
 refine I.step (g':=s.gens) (d':=s.drawn) (ch:=[it]) (fun b hb=>?_) (fun b o _ _ hc e _=>k b o (fun z=>hc (by simp[z])) e) (fun b o _ _ hc e _=>⟨o.slots,k b o (fun z=>hc (by simp[z])) e⟩) (fun _ _ _ _ n=>n)
  (fun b o hc e=>⟨o,k b o (fun z=>hc (by simp[z])) e⟩) (fun _ _ e=>e) (fun _ _ _ e=>e) (fun b ps e=>⟨#[],by rw[e];simp⟩) (fun m hm=>?_) (fun b u e=>?_) I.bare
 ·have e:b=it:=by simpa using hb
  subst e
  exact⟨h1,hL,h2,h3⟩
 ·obtain⟨o,es,ep,ho,r⟩:=hm
  exact⟨o,es,ep,k _ o (Ne.symm hL) ho,r⟩
 ·refine(I.hok b u e).stay (fun c v hc q=>k c v ?_ q) (fun _ q=>q) fun _ _ q=>q
  rcases hc with z | z
  ·rw[z];exact nit b u e
  ·exact nit c _ z
theorem Inv.tok (I:Inv X pins σ H s)(t:Nat):Inv X pins σ H {s with toks:=t}:=I.un (h':=s.heap) (t':=t) Un.refl I.hok
theorem Inv.kept {t':Nat}(I:Inv X pins σ H s)(k:∀b u,s.heap.get? b=some u→h'.get? b=some u):Inv X pins σ H {s with heap:=h',toks:=t'}:=I.un (Un.kept k) (I.hok.kept k)
theorem Inv.laid {a:Addr}{o:HO}{t':Nat}(I:Inv X pins σ H s)(k:∀b u,s.heap.get? b=some u→h'.get? b=some u)(hp:s.heap.objs.size≤a)(new:ObjOk X.prog X.w (upd H a o) h' a o) :
 Inv X pins σ (upd H a o) {s with heap:=h',toks:=t'}:=I.un (Un.laid k hp (I.hok.fresh hp)) (I.hok.laid k hp new)
theorem Inv.write {x e:Addr}{o:HO}{t':Nat}(I:Inv X pins σ H s)(mu:Mut (H x))(he:e=x∨H e=some (.own x))(k:∀b u,b≠e→s.heap.get? b=some u→h'.get? b=some u)(heo:∃u,h'.get? e=some u)
 (new:ObjOk X.prog X.w (upd H x o) h' x o):Inv X pins σ (upd H x o) {s with heap:=h',toks:=t'}:=I.un (Un.write mu he k heo) (I.hok.write mu he k heo new)
theorem Inv.pins_of {pins':List (Addr×Obj)}(I:Inv X pins σ H s)(h:∀p∈pins',s.heap.get? p.1=some p.2∧H p.1=none∧p.1≠X.env.locals∧p.1∉X.fs∧∀v,p.2.data≠.cell v):Inv X pins' σ H s:=
 ⟨I.ok,I.os,I.bare,I.base,I.loc,I.cell,I.free,I.freeC,fun p hp=>(mem_append.mp hp).elim (fun z=>I.pin p (mem_append_left _ z)) (h p),I.hok,I.len⟩
theorem nodup_ix {N:List Str}(hN:N.Nodup){i j:Nat}{x:Str}(a:N[i]?=some x)(b:N[j]?=some x):i=j:=by
 obtain⟨h1,e1⟩:=List.getElem?_eq_some_iff.mp a
 obtain⟨h2,e2⟩:=List.getElem?_eq_some_iff.mp b
 exact(List.getElem_inj hN).mp (e1.trans e2.symm)
theorem store_ok2 {M:Model}{A:Around}{E:Value→Shared→Prop}{i:Nat}{x:Str}{v:V}{u:Value}{Q:Unit→Shared→Prop}(I:Inv X pins σ H s)(hN:X.N.Nodup)(hi:X.N[i]?=some x)(hx:Loc X.env.scope x)(r:RelV v u)
 (h:∀s',Inv X pins (σ.set i (some v)) H s'→(∃a,Heap.SameBut a s.heap s'.heap∧(a=X.env.locals∨X.env.cells.lookup x=some a))→Q () s') (hf:X.fn x=true∨X.env.scope.names.lookup x=some .local:=by first | exact .inl rfl | exact .inr rfl | assumption):wpAny M A (storeName X.env x u) Q E s:=by
 obtain⟨m,hn,hl⟩:=id I.loc
 have hcls:(X.env.scope.kind==.class||(X.env.scope.kind==.module&&X.env.locals !=X.env.globals))=false:=by rw[I.ok.kind];rfl
 have hiσ:i<σ.length:=by rw[I.len];exact(List.getElem?_eq_some_iff.mp hi).1
 have cne:=I.cne
 have tracked:∀{a:Addr} {h':Heap},(∃o,s.heap.get? a=some o∧H a=none)→Heap.SameBut a s.heap h'→HOk X.prog X.w H h':=fun{a h'} ha hs b ob e=>by
  obtain⟨_,_,hfree⟩:=ha
  refine(I.hok b ob e).stay (fun c w' hc q=>(hs.2 c ?_).trans q) (fun _ q=>q) fun _ _ q=>q
  rintro rfl
  rcases hc with rfl | hc
  ·rw[hfree]at e;cases e
  ·rw[hfree]at hc;cases hc
 rcases hx with hk | hk
 ·refine wpAny_storeName_local hk hn (fun h' hn' hs=>?_) hcls
  obtain⟨oL,_,_,hoL,_⟩:=id hn
  refine h _ ⟨I.ok,I.os,I.bare,⟨fun b o e n hb hx=>?_,fun b o e n hb hx=>?_,I.base.free,fun b o e hx=>?_,I.base.tups,I.base.frzs,I.base.tbls⟩,⟨_,hn',fun j y v' e1 e2 e3=>?_⟩,fun y c e=>?_,I.free,I.freeC,fun p hp=>?_,tracked ⟨oL,hoL,I.free⟩ hs,by simpa using I.len⟩ ⟨_,hs,.inl rfl⟩
  ·exact(hs.2 b (Nat.ne_of_lt (Nat.lt_of_lt_of_le (lt_size e) I.ok.above))).trans (I.base.keep b o e n hb hx)
  ·obtain⟨sl,e1⟩:=I.base.slot b o e n hb hx
   exact⟨sl,(hs.2 b (Nat.ne_of_lt (Nat.lt_of_lt_of_le (lt_size e) I.ok.above))).trans e1⟩
  ·obtain⟨o',e1⟩:=I.base.there b o e hx
   exact⟨o',(hs.2 b (Nat.ne_of_lt (Nat.lt_of_lt_of_le (lt_size e) I.ok.above))).trans e1⟩
  ·by_cases hj:j=i
   ·subst hj
    rw[hi]at e1;cases e1
    rw[List.getElem?_set_self hiσ]at e2
    cases e2
    exact⟨u,r,.inl ⟨hk,by simp⟩⟩
   ·rw[List.getElem?_set_ne (Ne.symm hj)]at e2
    obtain⟨u',r',q⟩:=hl j y v' e1 e2 e3
    refine⟨u',r',?_⟩
    rcases q with⟨k,e⟩ | ⟨k,c,e,z⟩
    ·refine .inl ⟨k,?_⟩
     have:y≠x:=fun e=>hj (nodup_ix hN e1 (e▸hi))
     simp[this,e]
    ·exact .inr ⟨k,c,e,z.sameBut hs (cne y c e)⟩
  ·obtain⟨w',z⟩:=I.cell y c e
   exact⟨w',z.sameBut hs (cne y c e)⟩
  ·obtain⟨e,n,ne,nf,d⟩:=I.pin p hp
   exact⟨(hs.2 p.1 ne).trans e,n,ne,nf,d⟩
 ·have hfn:X.fn x=true:=by
   rcases hf with z | z
   ·exact z
   ·rw[z]at hk;cases hk
  obtain⟨c,hc⟩:=I.ok.has x (.inl hk)
  obtain⟨w',z⟩:=I.cell x c hc
  refine wpAny_storeName_cell I.ok.kind hk hc z (fun h' hc' hs=>?_)
  obtain⟨oc,hoc,hocd⟩:=id z
  refine h {s with heap:=h'} ⟨I.ok,I.os,I.bare,⟨fun b o e n hb hx=>?_,fun b o e n hb hx=>?_,I.base.free,fun b o e hx=>?_,I.base.tups,I.base.frzs,I.base.tbls⟩,⟨m,hn.sameBut hs (Ne.symm (cne x c hc)),fun j y v' e1 e2 e3=>?_⟩,fun y c' e=>?_,I.free,I.freeC,fun p hp=>?_,tracked ⟨oc,hoc,I.freeC x c hc⟩ hs,by simpa using I.len⟩ ⟨c,hs,.inr hc⟩
  ·exact(hs.2 b (Nat.ne_of_lt (Nat.lt_of_lt_of_le (lt_size e) (I.ok.cab x c hfn hc)))).trans (I.base.keep b o e n hb hx)
  ·obtain⟨sl,e1⟩:=I.base.slot b o e n hb hx
   exact⟨sl,(hs.2 b (Nat.ne_of_lt (Nat.lt_of_lt_of_le (lt_size e) (I.ok.cab x c hfn hc)))).trans e1⟩
  ·obtain⟨o',e1⟩:=I.base.there b o e hx
   exact⟨o',(hs.2 b (Nat.ne_of_lt (Nat.lt_of_lt_of_le (lt_size e) (I.ok.cab x c hfn hc)))).trans e1⟩
  ·by_cases hj:j=i
   ·subst hj
    rw[hi]at e1;cases e1
    rw[List.getElem?_set_self hiσ]at e2
    cases e2
    exact⟨u,r,.inr ⟨.inl hk,c,hc,hc'⟩⟩
   ·rw[List.getElem?_set_ne (Ne.symm hj)]at e2
    obtain⟨u',r',q⟩:=hl j y v' e1 e2 e3
    refine⟨u',r',?_⟩
    rcases q with q | ⟨k,c',e,z'⟩
    ·exact .inl q
    ·refine .inr ⟨k,c',e,z'.sameBut hs ?_⟩
     rintro rfl
     exact hj (nodup_ix hN e1 (I.ok.inj _ _ _ e hc▸hi))
  ·by_cases hcc:c'=c
   ·subst hcc;exact⟨_,hc'⟩
   ·obtain⟨w2,z2⟩:=I.cell y c' e
    exact⟨w2,z2.sameBut hs hcc⟩
  ·obtain⟨e,n,ne,nf,d⟩:=I.pin p hp
   refine⟨(hs.2 p.1 ?_).trans e,n,ne,nf,d⟩
   intro q
   rw[q,hoc]at e
   have q':oc=p.2:=Option.some.inj e
   exact d w' (by rw[←q'];exact hocd)
theorem store_ok {M:Model}{A:Around}{E:Value→Shared→Prop}{i:Nat}{x:Str}{v:V}{u:Value}{Q:Unit→Shared→Prop}(I:Inv X pins σ H s)(hN:X.N.Nodup)(hi:X.N[i]?=some x)(hx:Loc X.env.scope x)(r:RelV v u)
 (h:∀s',Inv X pins (σ.set i (some v)) H s'→Q () s') (hf:X.fn x=true∨X.env.scope.names.lookup x=some .local:=by first | exact .inl rfl | exact .inr rfl | assumption):wpAny M A (storeName X.env x u) Q E s:=
 store_ok2 I hN hi hx r (fun s' I' _=>h s' I') hf
theorem Inv.call' {s':Shared}{ch:List Addr}(I:Inv X pins σ H s)(ho:s'.os=s.os)(u:Un (frs X.stack) ch H H' s.heap s'.heap)(hok:HOk X.prog X.w H' s'.heap)(hg:AllBare s'.gens)
 (hch:∀b∈ch,(b∈X.ex∨X.s₀.heap.objs.size≤b)∧b≠X.env.locals∧(∀x c,X.env.cells.lookup x=some c→c≠b)∧∀p∈X.pn++pins,p.1≠b):Inv X pins σ H' s':=by
 obtain⟨h',g',d',t',o'⟩:=s'
 have e:o'=s.os:=ho
 subst e
 exact I.call (g':=g') (t':=t') (d':=d') u hok hg hch
end
abbrev XK:=Value→Option Addr→Hp→Prop
abbrev St:=List (Option V)
abbrev VK:=V→Hp→Prop
abbrev TE:=St→Hp→VK→Prop
abbrev TT:=St→Hp→(Bool→Hp→Prop)→Prop
abbrev TA:=St→Hp→(List V→Hp→Prop)→Prop
structure Ends where
 nx:St→Hp→Prop
 rt:VK
 bk:St→Hp→Prop:=fun _ _=>False
 ct:St→Hp→Prop:=fun _ _=>False
abbrev TS:=Ends→St→Hp→Prop
def EP (X:Cx)(pins:List (Addr×Obj))(σ:St)(Q:VK)(u:Value)(s':Shared):Prop:=∃v H',Inv X pins σ H' s'∧RelV v u∧Q v H'
def TP (X:Cx)(pins:List (Addr×Obj))(σ:St)(Q:Bool→Hp→Prop)(b:Bool)(s':Shared):Prop:=∃H',Inv X pins σ H' s'∧Q b H'
def AP (X:Cx)(pins:List (Addr×Obj))(σ:St)(Q:List V→Hp→Prop)(us:List Value)(s':Shared):Prop:=∃vs H',Inv X pins σ H' s'∧Vals vs us∧Q vs H'
def SP (X:Cx)(pins:List (Addr×Obj))(D:Ends)(f:Flow)(s':Shared):Prop:=
 match f with
 | .next=>∃σ' H',Inv X pins σ' H' s'∧D.nx σ' H'
 | .brk=>∃σ' H',Inv X pins σ' H' s'∧D.bk σ' H'
 | .cont=>∃σ' H',Inv X pins σ' H' s'∧D.ct σ' H'
 | .ret u=>∃v σ' H',Inv X pins σ' H' s'∧RelV v u∧D.rt v H'
def PE (X:Cx)(e:Expr)(t:TE):Prop:=
 ∀(pins:List (Addr×Obj)) (s:Shared) (σ:St) (H:Hp) (Q:VK),Inv X pins σ H s→t σ H Q→wpAny (model X.prog X.w) X.A (eval e X.env) (EP X pins σ Q) X.xe s
def PT (X:Cx)(e:Expr)(t:TT):Prop:=
 ∀(pins:List (Addr×Obj)) (s:Shared) (σ:St) (H:Hp) (Q:Bool→Hp→Prop),Inv X pins σ H s→t σ H Q→wpAny (model X.prog X.w) X.A (isTrue e X.env (eval e X.env)) (TP X pins σ Q) X.xe s
def PW (X:Cx)(e:Expr)(t:TT):Prop:=
 ∀(whole:Sem Value) (pins:List (Addr×Obj)) (s:Shared) (σ:St) (H:Hp) (Q:Bool→Hp→Prop),Inv X pins σ H s→t σ H Q→wpAny (model X.prog X.w) X.A (isTrue e X.env whole) (TP X pins σ Q) X.xe s
theorem PW.pt {X:Cx}{e:Expr}{t:TT}(h:PW X e t):PT X e t:=h _
def PA (X:Cx)(es:List Expr)(t:TA):Prop:=
 ∀(pos:Pos) (pins:List (Addr×Obj)) (s:Shared) (σ:St) (H:Hp) (Q:List V→Hp→Prop),Inv X pins σ H s→t σ H Q→wpAny (model X.prog X.w) X.A (spliced (backTo pos (starEach es X.env))) (AP X pins σ Q) X.xe s
def PS (X:Cx)(st:Stmt)(t:TS):Prop:=
 ∀(pins:List (Addr×Obj)) (s:Shared) (σ:St) (H:Hp) (D:Ends),Inv X pins σ H s→t D σ H→wpAny (model X.prog X.w) X.A (exec st X.env) (SP X pins D) X.xe s
def PSs (X:Cx)(st:List Stmt)(t:TS):Prop:=
 ∀(pins:List (Addr×Obj)) (s:Shared) (σ:St) (H:Hp) (D:Ends),Inv X pins σ H s→t D σ H→wpAny (model X.prog X.w) X.A (execs st X.env) (SP X pins D) X.xe s
theorem thn {α:Type}{t:Sem α}{Q Q':α→Shared→Prop}{M:Model}{A:Around}{E:Value→Shared→Prop}{s:Shared}(h:wpAny M A t Q E s)(hQ:∀a s,Q a s→Q' a s):wpAny M A t Q' E s:=wpAny_mono h hQ fun _ _ x=>x
section
variable {X:Cx}
def tVar (i:Nat):TE:=fun σ H Q=>∃v,σ[i]?=some (some v)∧Q v H
def tC (v:V):TE:=fun _ H Q=>Q v H
theorem pe_var {i:Nat}{x:Str}{pos:Pos}(hN:X.N[i]?=some x)(hv:Vis X.env.scope x)(hd:(x==("__debug__" : Str))=false:=by decide)(hcd:(x==("__classdict__" : Str))=false:=by decide):PE X (.Name x pos) (tVar i):=by
 intro pins s σ H Q I h
 obtain⟨v,e,h⟩:=h
 obtain⟨m,hn,hl⟩:=I.loc
 obtain⟨u,r,l⟩:=hl i x v hN e hv
 have fin:EP X pins σ Q u s:=⟨v,H,I,r,h⟩
 rcases l with⟨hk,hm⟩ | ⟨hk,c,hc,hcell⟩
 ·exact wpAny_Name (wpAny_loadName_local I.ok.kind hk hn hm fin) hd
 ·rcases hk with hk | hk
  ·exact wpAny_Name (wpAny_loadName_cell I.ok.kind hk hc hcell fin) hd
  ·exact wpAny_Name (wpAny_loadName_free I.ok.kind hk hc hcell fin hcd) hd
theorem pe_int {i j pos}:PE X (.Constant (.int i) j pos) (tC (.int i)):=fun _ _ _ H _ I h=>wpAny_Constant_int ⟨.int i,H,I.tok _,⟨_,rfl⟩,h⟩
theorem pe_bl {b j pos}:PE X (.Constant (.bool b) j pos) (tC (.bl b)):=fun _ _ _ H _ I h=>Constant_bool ⟨.bl b,H,I,rfl,h⟩
def Gl (X:Cx)(x:Str):Prop:=X.env.kindOf x=some .globalImplicit
theorem ld_glob {E:Value→Shared→Prop}{pins:List (Addr×Obj)}{s:Shared}{σ:St}{H:Hp}{x:Str}{u:Value}{pos:Pos}{Q:Value→Shared→Prop}(I:Inv X pins σ H s)(hg:Gl X x)(hm:X.mg x=some u)(h:Q u s)
 (hd:(x==("__debug__" : Str))=false:=by decide):wpAny (model X.prog X.w) X.A (eval (.Name x pos) X.env) Q E s:=
 Calls.Name_function_global I.ok.kind hg (Calls.loadGlobal_global (by rw[I.ok.glob];exact I.mod.glob.keeps I.bk) hm h) hd
theorem ld_blt {E:Value→Shared→Prop}{pins:List (Addr×Obj)}{s:Shared}{σ:St}{H:Hp}{x:Str}{u:Value}{pos:Pos}{Q:Value→Shared→Prop}(I:Inv X pins σ H s)(hg:Gl X x)(hm:X.mg x=none)(hv:bootBuiltins x=some u)(h:Q u s)
 (hn:x≠"__name__":=by decide) (hd:(x==("__debug__" : Str))=false:=by decide):wpAny (model X.prog X.w) X.A (eval (.Name x pos) X.env) Q E s:=by
 obtain⟨mb,h1,h2⟩:=I.mod.blt
 exact Calls.Name_function_global I.ok.kind hg (Calls.loadGlobal_builtin (by rw[I.ok.glob];exact I.mod.glob.keeps I.bk) hm (by rw[I.ok.blt];exact h1.keeps I.bk) ((h2 x hn).trans hv) h) hd
theorem pe_glob {x:Str}{v:V}{u:Value}{pos:Pos}(hg:Gl X x)(hm:X.mg x=some u)(r:RelV v u)(hd:(x==("__debug__" : Str))=false:=by decide):PE X (.Name x pos) (tC v):=
 fun _ _ _ H _ I h=>ld_glob I hg hm ⟨v,H,I,r,h⟩ hd
theorem pe_bltn {x:Str}{v:V}{u:Value}{pos:Pos}(hg:Gl X x)(hm:X.mg x=none)(hv:bootBuiltins x=some u)(r:RelV v u)(hn:x≠"__name__":=by decide)(hd:(x==("__debug__" : Str))=false:=by decide):PE X (.Name x pos) (tC v):=
 fun _ _ _ H _ I h=>ld_blt I hg hm hv ⟨v,H,I,r,h⟩ hn hd
variable {a b:Expr}{ta tb:TE}{pos:Pos}
variable {tA tB':TT}{rest:List Expr}
def tOr (t u:TT):TT:=fun σ H Q=>t σ H fun c H1=>if c=true then Q true H1 else u σ H1 Q
def tNot (t:TT):TT:=fun σ H Q=>t σ H fun c H1=>Q (!c) H1
theorem pw_or1 (ha:PT X a tA):PW X (.BoolOp .Or [a] pos) tA:=by
 intro wh pins s σ H Q I h
 refine isTrue_or (thn (ha pins s σ H Q I h) fun c s1 e=>?_)
 cases c with
 |false=>exact isTrue_or_nil e
 |true=>exact e
theorem pw_or (ha:PT X a tA)(hb:PW X (.BoolOp .Or (b::rest) pos) tB'):PW X (.BoolOp .Or (a::b::rest) pos) (tOr tA tB'):=by
 intro wh pins s σ H Q I h
 refine isTrue_or (thn (ha pins s σ H _ I h) fun c s1 ⟨H1,I1,q1⟩=>?_)
 cases c with
 |true=>exact⟨H1,I1,q1⟩
 |false=>exact hb wh pins s1 σ H1 Q I1 q1
theorem pt_not (ha:PT X a tA):PT X (.UnaryOp .Not a pos) (tNot tA):=by
 intro pins s σ H Q I h
 exact isTrue_not (ha pins s σ H (fun c H1=>Q (!c) H1) I h)
def tAndV (ta tb:TE):TE:=fun σ H Q=>ta σ H fun x H1=>∃c,x=.bl c∧if c=true then tb σ H1 Q else Q (.bl false) H1
theorem pe_one {op}{t:TE}(h:PE X a t):PE X (.BoolOp op [a] pos) t:=fun pins s σ H Q I hw=>BoolOp_one (h pins s σ H Q I hw)
theorem pe_and (ha:PE X a ta)(hb:PE X (.BoolOp .And (b::rest) pos) tb):PE X (.BoolOp .And (a::b::rest) pos) (tAndV ta tb):=by
 intro pins s σ H Q I h
 refine BoolOp_and (thn (ha pins s σ H _ I h) fun v s1 ⟨x,H1,I1,r1,q1⟩=>?_)
 obtain⟨c,rfl,q1⟩:=q1
 cases r1
 refine wpAny_truthy_bool ?_
 cases c with
 |true=>exact hb pins s1 σ H1 Q I1 q1
 |false=>exact⟨.bl false,H1,I1,rfl,q1⟩
def tIf (t:TT)(ta tb:TE):TE:=fun σ H Q=>t σ H fun c H1=>if c=true then ta σ H1 Q else tb σ H1 Q
theorem pe_ifExp {c:Expr}(hc:PT X c tA)(ha:PE X a ta)(hb:PE X b tb):PE X (.IfExp c a b pos) (tIf tA ta tb):=by
 intro pins s σ H Q I h
 refine wpAny_IfExp (thn (hc pins s σ H _ I h) fun d s1 ⟨H1,I1,q1⟩=>?_)
 cases d with
 |true=>exact ha pins s1 σ H1 Q I1 q1
 |false=>exact hb pins s1 σ H1 Q I1 q1
end
def SqL (K:W.Frag)(H:Hp)(a:Addr)(xs:List V):Prop:=
 Rd H a (.lst xs)∨
  ∃(o:Obj) (its:Array Value) (n:Nat),K.lookup a=some o∧o.cls=.type "list"∧o.dict=none∧o.data=.seq its n∧its.size≤sizeLine∧Vals xs its.toList
def SqT (K:W.Frag)(H:Hp)(a:Addr)(xs:List V):Prop:=
 Rd H a (.tup xs)∨
  ∃(o:Obj) (its:Array Value) (n:Nat),K.lookup a=some o∧o.cls=.type "tuple"∧o.data=.seq its n∧its.size≤sizeLine∧Vals xs its.toList
def absV:Value→Option V
 | .none=>some .non
 | .bool b=>some (.bl b)
 | .int i _=>some (.int i)
 | .str x _=>some (.str x)
 | .bytes b _=>some (.byt b)
 | .float b _=>some (.flt b)
 | .ref a=>some (.ref a)
 | .type n=>some (.ty n)
 |_=>none
theorem RelV.abs {x:V}{u:Value}(r:RelV x u):absV u=some x:=by
 cases x with
 |non=>cases r;rfl
 |bl _=>cases r;rfl
 |int _=>obtain⟨t,rfl⟩:=r;rfl
 |str _=>obtain⟨t,rfl⟩:=r;rfl
 |byt _=>obtain⟨t,rfl⟩:=r;rfl
 |flt _=>obtain⟨t,rfl⟩:=r;rfl
 |ref _=>cases r;rfl
 |ty _=>cases r;rfl
theorem RelV.inj {x y:V}{u:Value}(r:RelV x u)(q:RelV y u):x=y:=Option.some.inj (r.abs.symm.trans q.abs)
theorem Vals.inj:∀{xs ys:List V} {us:List Value},Vals xs us→Vals ys us→xs=ys
 |_,_,_,.nil,.nil=>rfl
 |_,_,_,.cons r t,.cons r' t'=>by rw[r.inj r',Vals.inj t t']
section
variable {X:Cx}{pins:List (Addr×Obj)}{σ:St}{H:Hp}{s:Shared}{a:Addr}{xs ys:List V}
theorem SqL.of {K:W.Frag}(h:H a=some (.lst xs)):SqL K H a xs:=.inl (.inl h)
theorem SqT.of {K:W.Frag}(h:H a=some (.tup xs)):SqT K H a xs:=.inl (.inl h)
theorem Inv.list (I:Inv X pins σ H s)(h:SqL X.K H a xs):∃its:List Value,Vals xs its∧PlainL s.heap a its.toArray∧xs.length≤sizeLine:=by
 rcases h with h | ⟨o,its,n,hk,hc,hd,hs,hz,r⟩
 ·obtain⟨z,its,n,r,e⟩:=h.ok I.hok
  exact⟨its,r,⟨_,n,e,rfl,rfl,rfl⟩,z⟩
 ·refine⟨its.toList,r,⟨o,n,I.kIn a o hk,hc,hd,by simpa using hs⟩,?_⟩
  have e:=r.length
  simp only[length_toList]at e
  omega
theorem Inv.tuple (I:Inv X pins σ H s)(h:SqT X.K H a xs):∃its:List Value,Vals xs its∧IsTup s.heap a its.toArray∧xs.length≤sizeLine:=by
 rcases h with h | ⟨o,its,n,hk,hc,hs,hz,r⟩
 ·obtain⟨z,its,r,p⟩:=h.ok I.hok
  exact⟨its,r,p,z⟩
 ·refine⟨its.toList,r,⟨o,I.kIn a o hk,hc,n,by simpa using hs⟩,?_⟩
  have e:=r.length
  simp only[length_toList]at e
  omega
theorem Inv.list_inj (I:Inv X pins σ H s)(h:SqL X.K H a xs)(h':SqL X.K H a ys):xs=ys:=by
 obtain⟨its,r,⟨o,n,e,_,_,d⟩,_⟩:=I.list h
 obtain⟨its',r',⟨o',n',e',_,_,d'⟩,_⟩:=I.list h'
 rw[e]at e';cases e'
 rw[d]at d'
 injection d' with d1 _
 have:its=its':=by simpa using congrArg Array.toList d1
 subst this
 exact r.inj r'
theorem Inv.tuple_inj (I:Inv X pins σ H s)(h:SqT X.K H a xs)(h':SqT X.K H a ys):xs=ys:=by
 obtain⟨its,r,⟨o,e,_,n,d⟩,_⟩:=I.tuple h
 obtain⟨its',r',⟨o',e',_,n',d'⟩,_⟩:=I.tuple h'
 rw[e]at e';cases e'
 rw[d]at d'
 injection d' with d1 _
 have:its=its':=by simpa using congrArg Array.toList d1
 subst this
 exact r.inj r'
end
abbrev Cx.wish (X:Cx)(E:Value→Shared→Prop):Cx:={X with xe:=E}
abbrev Cx.nox (X:Cx):Cx:=X.wish fun _ _=>False
theorem Cx.Ok.wish {X:Cx}(ok:X.Ok)(E:Value→Shared→Prop):(X.wish E).Ok:=
 ⟨ok.mod,ok.kind,ok.glob,ok.blt,ok.above,ok.inj,ok.has,ok.cab,ok.hd,ok.frames,ok.stk,ok.exf,ok.bs,ok.bsz,ok.noex,ok.exfs,ok.funs,ok.frf⟩
theorem Cx.Ok.unwish {X:Cx}{E:Value→Shared→Prop}(ok:(X.wish E).Ok):X.Ok:=
 ⟨ok.mod,ok.kind,ok.glob,ok.blt,ok.above,ok.inj,ok.has,ok.cab,ok.hd,ok.frames,ok.stk,ok.exf,ok.bs,ok.bsz,ok.noex,ok.exfs,ok.funs,ok.frf⟩
section
variable {X:Cx}{pins:List (Addr×Obj)}{σ:St}{H:Hp}{s:Shared}{E:Value→Shared→Prop}
theorem Inv.wish (I:Inv X pins σ H s)(E:Value→Shared→Prop):Inv (X.wish E) pins σ H s:=⟨I.ok.wish E,I.os,I.bare,I.base,I.loc,I.cell,I.free,I.freeC,I.pin,I.hok,I.len⟩
theorem Inv.unwish (I:Inv (X.wish E) pins σ H s):Inv X pins σ H s:=⟨I.ok.unwish,I.os,I.bare,I.base,I.loc,I.cell,I.free,I.freeC,I.pin,I.hok,I.len⟩
theorem SP.unwish {D:Ends}{f:Flow}{s':Shared}(h:SP (X.wish E) pins D f s'):SP X pins D f s':=by
 cases f with
 |next=>obtain⟨σ',H',I,q⟩:=h;exact⟨σ',H',I.unwish,q⟩
 |brk=>obtain⟨σ',H',I,q⟩:=h;exact⟨σ',H',I.unwish,q⟩
 |cont=>obtain⟨σ',H',I,q⟩:=h;exact⟨σ',H',I.unwish,q⟩
 |ret u=>obtain⟨v,σ',H',I,r,q⟩:=h;exact⟨v,σ',H',I.unwish,r,q⟩
theorem PSs.nox {st:List Stmt}{t:TS}(h:PSs X.nox st t):PSs X st t:=fun pins s σ H D I hw=>
 wpAny_mono (h pins s σ H D (I.wish _) hw) (fun _ _ q=>q.unwish) fun _ _ z=>False.elim z
end
section
variable {X:Cx}{st:Stmt}{rest:List Stmt}{t u:TS}{e:Expr}{te:TE}{pos:Pos}
def tNext:TS:=fun D σ H=>D.nx σ H
def tSeq (t u:TS):TS:=fun D σ H=>t {D with nx:=u D} σ H
theorem pss_nil:PSs X [] tNext:=fun _ _ σ H _ I h=>wpAny_execs_nil ⟨σ,H,I,h⟩
theorem pss_cons (h1:PS X st t)(h2:PSs X rest u):PSs X (st::rest) (tSeq t u):=by
 intro pins s σ H D I h
 refine wpAny_execs_cons (thn (h1 pins s σ H {D with nx:=u D} I h) fun f s1 q=>?_)
 cases f with
 |next=>
  obtain⟨σ',H',I',q⟩:=q
  exact h2 pins s1 σ' H' D I' q
 |ret v=>exact q
 |brk=>exact q
 |cont=>exact q
theorem pss_one (h1:PS X st t):PSs X [st] t:=by
 intro pins s σ H D I h
 refine wpAny_execs_cons (thn (h1 pins s σ H D I h) fun f s1 q=>?_)
 cases f with
 |next=>exact wpAny_execs_nil q
 |ret v=>exact q
 |brk=>exact q
 |cont=>exact q
theorem Inv.quiet {pins:List (Addr×Obj)}{σ:St}{H:Hp}{s:Shared}(I:Inv X pins σ H s):interactive X.env=false:=by simp[interactive,I.ok.kind]
def tDrop (te:TE):TS:=fun D σ H=>te σ H fun _ H1=>D.nx σ H1
theorem ps_expr (he:PE X e te)(hs:swapsWith e none pos.line X.env=pure false:=by rfl):PS X (.Expr e pos) (tDrop te):=by
 intro pins s σ H D I h
 exact wpAny_Expr_any (thn (he pins s σ H _ I h) fun v s1 ⟨x,H1,I1,r1,q1⟩=>⟨σ,H1,I1,q1⟩) I.quiet hs
def tRet (te:TE):TS:=fun D σ H=>te σ H D.rt
theorem ps_ret (he:PE X e te):PS X (.Return (some e) pos) (tRet te):=by
 intro pins s σ H D I h
 exact wpAny_Return_some (thn (he pins s σ H _ I h) fun v s1 ⟨x,H1,I1,r1,q1⟩=>⟨x,σ,H1,I1,r1,q1⟩)
def tIfS (c:TT)(t u:TS):TS:=fun D σ H=>c σ H fun b H1=>if b=true then t D σ H1 else u D σ H1
theorem ps_if {c:Expr}{a b:List Stmt}{tc:TT}(hc:PT X c tc)(ha:PSs X a t)(hb:PSs X b u):PS X (.If c a b pos) (tIfS tc t u):=by
 intro pins s σ H D I h
 refine wpAny_If (thn (hc pins s σ H _ I h) fun d s1 ⟨H1,I1,q1⟩=>?_)
 cases d with
 |true=>exact ha pins s1 σ H1 D I1 q1
 |false=>exact hb pins s1 σ H1 D I1 q1
def tNever:TS:=fun _ _ _=>False
theorem ps_never:PS X st tNever:=fun _ _ _ _ _ _ h=>h.elim
end
abbrev TG:=V→St→Hp→(St→Hp→Prop)→Prop
abbrev TGs:=List V→St→Hp→(St→Hp→Prop)→Prop
def PG (X:Cx)(target:Expr)(t:TG):Prop:=
 ∀(pins:List (Addr×Obj)) (s:Shared) (σ:St) (H:Hp) (v:V) (u:Value) (Q:St→Hp→Prop),Inv X pins σ H s→RelV v u→t v σ H Q→
  wpAny (model X.prog X.w) X.A (assign target X.env u) (fun _ s'=>∃σ' H',Inv X pins σ' H' s'∧Q σ' H') X.xe s
def PGs (X:Cx)(ts:List Expr)(t:TGs):Prop:=
 ∀(pins:List (Addr×Obj)) (s:Shared) (σ:St) (H:Hp) (vs:List V) (us:List Value) (Q:St→Hp→Prop),Inv X pins σ H s→Vals vs us→t vs σ H Q→
  wpAny (model X.prog X.w) X.A (assignInOrder ((assignEach ts X.env).map (·.2)) us) (fun _ s'=>∃σ' H',Inv X pins σ' H' s'∧Q σ' H') X.xe s
abbrev TSet:=V→V→V→Hp→(Hp→Prop)→Prop
def PSet (X:Cx)(t:TSet):Prop:=
 ∀(pins:List (Addr×Obj)) (s:Shared) (σ:St) (H:Hp) (o i v:V) (ov iv u:Value) (Q:Hp→Prop),Inv X pins σ H s→RelV o ov→RelV i iv→RelV v u→t o i v H Q→
  wpAny (model X.prog X.w) X.A (setItem ov iv u) (fun _ s'=>∃H',Inv X pins σ H' s'∧Q H') X.xe s
abbrev TIp:=V→V→Hp→VK→Prop
def PIp (X:Cx)(op:Operator)(t:TIp):Prop:=
 ∀(pins:List (Addr×Obj)) (s:Shared) (σ:St) (H:Hp) (x y:V) (v u:Value) (Q:VK),Inv X pins σ H s→RelV x v→RelV y u→t x y H Q→
  wpAny (model X.prog X.w) X.A (inplaceOp op v u) (EP X pins σ Q) X.xe s
section
variable {X:Cx}{pos:Pos}
def gName (i:Nat):TG:=fun v σ H Q=>Q (σ.set i (some v)) H
theorem pg_name {i:Nat}{x:Str}(hN:X.N.Nodup)(hi:X.N[i]?=some x)(hx:Loc X.env.scope x)(hf:X.fn x=true∨X.env.scope.names.lookup x=some .local:=by first | exact .inl rfl | exact .inr rfl | assumption):PG X (.Name x pos) (gName i):=by
 intro pins s σ H v u Q I r h
 exact wpAny_assign_Name (store_ok I hN hi hx r (fun s' I'=>⟨_,H,I',h⟩) hf)
def gNil:TGs:=fun vs σ H Q=>vs=[]∧Q σ H
def gCons (t:TG)(u:TGs):TGs:=fun vs σ H Q=>∃v r,vs=v::r∧t v σ H fun σ' H'=>u r σ' H' Q
theorem pgs_nil:PGs X [] gNil:=by
 intro pins s σ H vs us Q I r h
 obtain⟨e,h⟩:=h
 subst e
 cases r
 exact assignInOrder_nil ⟨σ,H,I,h⟩
theorem pgs_cons {e:Expr}{es:List Expr}{t:TG}{u:TGs}(h1:PG X e t)(h2:PGs X es u)
 (hs:(assignEach (e::es) X.env).map (·.2)=assign e X.env::(assignEach es X.env).map (·.2):=by rfl):PGs X (e::es) (gCons t u):=by
 intro pins s σ H vs us Q I r h
 obtain⟨v,vr,e1,h⟩:=h
 subst e1
 cases r with
 |cons r rr=>
  rw[hs]
  refine assignInOrder_cons (thn (h1 pins s σ H _ _ _ I r h) fun _ s1 ⟨σ1,H1,I1,q1⟩=>?_)
  exact h2 pins s1 σ1 H1 _ _ Q I1 rr q1
def gTup (K:W.Frag)(n:Nat)(t:TGs):TG:=fun v σ H Q=>∃a xs,v=.ref a∧SqT K H a xs∧xs.length=n∧t xs σ H Q
theorem pg_tup {es:List Expr}{k:Nat}{t:TGs}{n:Nat}(hc:X.calm=true)(h:PGs X es t)
 (hn:(assignEach es X.env).length=n:=by rfl) (hst:(assignEach es X.env).findIdx? (·.1)=none:=by rfl):PG X (.Tuple es k pos) (gTup X.K n t):=by
 intro pins s σ H v u Q I r hw
 obtain⟨a,xs,e1,hq,hl,hw⟩:=hw
 subst e1
 cases r
 obtain⟨its,rv,ht,hz⟩:=I.tuple hq
 refine assign_Tuple_tuple (I.ok.hd hc) ht (by simp[hn,←hl,rv.length]) hst fun h' hx=>?_
 have I1:Inv X pins σ H {s with heap:=h'}:=I.kept (t':=s.toks) fun b o e=>hx b o (Nat.ne_of_lt (lt_size e)) e
 exact h pins _ σ H xs _ Q I1 (by simpa using rv) hw
def gSub (to ti:TE)(t:TSet):TG:=fun v σ H Q=>to σ H fun o H1=>ti σ H1 fun i H2=>t o i v H2 fun H3=>Q σ H3
theorem pg_sub {o i:Expr}{to ti:TE}{t:TSet}(ho:PE X o to)(hi:PE X i ti)(hs:PSet X t)
 (ha:∀v,assign (.Subscript o i pos) X.env v=(do
  let ov ←holding [v] (eval o X.env)
  let iv ←holding [v,ov] (eval i X.env)
  standAt pos
  holding [v,ov,iv] (setItem ov iv v)
  release [v,ov,iv] []):=by intro _;rfl):PG X (.Subscript o i pos) (gSub to ti t):=by
 intro pins s σ H v u Q I r h
 rw[ha]
 refine wpAny_bind (wpAny_holding (thn (ho pins s σ H _ I h) fun ov s1 ⟨x,H1,I1,r1,q1⟩=>?_))
 refine wpAny_bind (wpAny_holding (thn (hi pins s1 σ H1 _ I1 q1) fun iv s2 ⟨y,H2,I2,r2,q2⟩=>?_))
 refine wpAny_bind (wpAny_standAt (wpAny_bind (wpAny_holding (thn (hs pins s2 σ H2 x y v ov iv u _ I2 r1 r2 r q2) fun _ s3 ⟨H3,I3,q3⟩=>?_))))
 exact wpAny_release ⟨σ,H3,I3,q3⟩
def tAsg (te:TE)(g:TG):TS:=fun D σ H=>te σ H fun x H1=>g x σ H1 D.nx
theorem ps_asg {tg e:Expr}{te:TE}{g:TG}(he:PE X e te)(hg:PG X tg g)(hs:swapsWithSole [tg] e pos.line X.env=pure false:=by rfl)(hw:swappedStores [tg] e X.env=pure none:=by rfl)
 (h1:(assignEach [tg] X.env).map (·.2)=[assign tg X.env]:=by rfl):PS X (.Assign [tg] e pos) (tAsg te g):=by
 intro pins s σ H D I h
 refine wpAny_Assign_stores (thn (he pins s σ H _ I h) fun v s1 ⟨x,H1,I1,r1,q1⟩=>?_) hs hw
 rw[h1]
 exact thn (hg pins s1 σ H1 x v _ I1 r1 q1) fun _ s2 q=>q
theorem ps_set {i:Nat}{x:Str}{e:Expr}{te:TE}{pos':Pos}(hN:X.N.Nodup)(hi:X.N[i]?=some x)(hx:Loc X.env.scope x)(he:PE X e te)(hs:swapsWith e (some (.Name x pos')) pos.line X.env=pure false:=by rfl)(hf:X.fn x=true∨X.env.scope.names.lookup x=some .local:=by first | exact .inl rfl | exact .inr rfl | assumption) :
 PS X (.Assign [.Name x pos'] e pos) (tAsg te (gName i)):=by
 intro pins s σ H D I h
 refine wpAny_Assign_Name (thn (he pins s σ H _ I h) fun v s1 ⟨y,H1,I1,r1,q1⟩=>?_) hs
 exact store_ok I1 hN hi hx r1 (fun s2 I2=>⟨_,H1,I2,q1⟩) hf
def tAug (i:Nat)(te:TE)(ti:TIp):TS:=fun D σ H=>∃x,σ[i]?=some (some x)∧te σ H fun y H1=>ti x y H1 fun z H2=>D.nx (σ.set i (some z)) H2
theorem ps_aug {i:Nat}{x:Str}{e:Expr}{te:TE}{op:Operator}{ti:TIp}{pos':Pos}(hN:X.N.Nodup)(hi:X.N[i]?=some x)(hx:Loc X.env.scope x)(he:PE X e te)(ho:PIp X op ti)(hf:X.fn x=true∨X.env.scope.names.lookup x=some .local:=by first | exact .inl rfl | exact .inr rfl | assumption) :
 PS X (.AugAssign (.Name x pos') op e pos) (tAug i te ti):=by
 intro pins s σ H D I h
 obtain⟨v,e1,h⟩:=h
 obtain⟨m,hn,hl⟩:=I.loc
 have vis:Vis X.env.scope x:=by rcases hx with k | k;exact .inl k;exact .inr (.inl k)
 obtain⟨u,r,l⟩:=hl i x v hi e1 vis
 refine wpAny_AugAssign_Name ?_
 have go:wpAny (model X.prog X.w) X.A (eval e X.env) (fun w s₂=>wpAny (model X.prog X.w) X.A (inplaceOp op u w) (fun r s₃=>wpAny (model X.prog X.w) X.A (storeName X.env x r) (fun _=>SP X pins D .next) X.xe s₃) X.xe s₂) X.xe s:=by
  refine thn (he pins s σ H _ I h) fun w s1 ⟨y,H1,I1,r1,q1⟩=>?_
  refine thn (ho pins s1 σ H1 v y u w _ I1 r r1 q1) fun z s2 ⟨zv,H2,I2,r2,q2⟩=>?_
  exact store_ok I2 hN hi hx r2 (fun s3 I3=>⟨_,H2,I3,q2⟩) hf
 rcases l with⟨hk,hm⟩ | ⟨hk,c,hc,hcell⟩
 ·exact wpAny_loadName_local I.ok.kind hk hn hm go
 ·rcases hk with hk | hk
  ·exact wpAny_loadName_cell I.ok.kind hk hc hcell go
  ·rcases hx with k | k
   ·have:X.env.scope.names.lookup x=some .free:=hk
    rw[k]at this;cases this
   ·have:X.env.scope.names.lookup x=some .free:=hk
    rw[k]at this;cases this
def ipI (f:Int→Int→Int):TIp:=fun x y H Q=>∃i j,x=.int i∧y=.int j∧Q (.int (f i j)) H
theorem ip_add:PIp X .Add (ipI fun i j=>i+j):=by
 intro pins s σ H x y v u Q I r1 r2 h
 obtain⟨i,j,e1,e2,q⟩:=h
 subst e1;subst e2
 obtain⟨t,rfl⟩:=r1
 obtain⟨t',rfl⟩:=r2
 exact iadd_int ⟨.int _,H,I.tok _,⟨_,rfl⟩,q⟩
theorem ip_sub:PIp X .Sub (ipI fun i j=>i - j):=by
 intro pins s σ H x y v u Q I r1 r2 h
 obtain⟨i,j,e1,e2,q⟩:=h
 subst e1;subst e2
 obtain⟨t,rfl⟩:=r1
 obtain⟨t',rfl⟩:=r2
 exact isub_int ⟨.int _,H,I.tok _,⟨_,rfl⟩,q⟩
end
section
variable {X:Cx}{pos:Pos}
def tWhile (c:TT)(tb:TS):TS:=fun D σ H=>∃W:Nat→St→Hp→Prop,(∃m,W m σ H)∧∀m σ H,W m σ H→
 c σ H fun b H1=>if b=true then ∃N:St→Hp→Prop,(∀σ' H',N σ' H'→∃m',m'<m∧W m' σ' H')∧tb {D with nx:=N,ct:=N,bk:=D.nx} σ H1 else D.nx σ H1
theorem ps_while {c:Expr}{body:List Stmt}{tc:TT}{tb:TS}(hp:PassesOwn (model X.prog X.w) X.A X.env X.xe)(hc:PT X c tc)(hb:PSs X body tb):PS X (.While c body [] pos) (tWhile tc tb):=by
 intro pins s σ H D I h
 obtain⟨W,⟨m0,w0⟩,turn⟩:=h
 refine wpAny_While (codeAny_whileLoop (fun n s'=>∃σ' H',Inv X pins σ' H' s'∧W n σ' H') ?_ m0 ⟨σ,H,I,w0⟩)
 rintro n s1 ⟨σ1,H1,I1,w1⟩
 refine wpAny_passesOwn hp (thn (hc pins s1 σ1 H1 _ I1 (turn n σ1 H1 w1)) fun b s2 ⟨H2,I2,q2⟩=>?_)
 cases b with
 |true=>
  obtain⟨N,hN,q2⟩:=q2
  rw[if_pos rfl]
  refine wpAny_passesOwn hp (thn (hb pins s2 σ1 H2 _ I2 q2) fun f s3 q3=>?_)
  cases f with
  |next=>
   obtain⟨σ3,H3,I3,n3⟩:=q3
   obtain⟨m',hm,w3⟩:=hN σ3 H3 n3
   exact⟨m',hm,σ3,H3,I3,w3⟩
  |cont=>
   obtain⟨σ3,H3,I3,n3⟩:=q3
   obtain⟨m',hm,w3⟩:=hN σ3 H3 n3
   exact⟨m',hm,σ3,H3,I3,w3⟩
  |brk=>exact q3
  |ret v=>exact q3
 |false=>
  rw[if_neg Bool.false_ne_true]
  exact wpAny_execs_nil ⟨σ1,H2,I2,q2⟩
end
structure It where
 go:Nat→Hp→Prop
 yld:Nat→Hp→V→Hp→Prop
 stop:Nat→Hp→Prop
def FpOk (X:Cx)(pins:List (Addr×Obj))(H:Hp)(b:Addr):Prop:=
 H b=none∧b≠X.env.locals∧b∉X.fs∧(b∈X.ex∨X.s₀.heap.objs.size≤b)∧(∀x c,X.env.cells.lookup x=some c→c≠b)∧∀p∈X.pn++pins,p.1≠b
theorem Inv.fpOk {X:Cx}{pins:List (Addr×Obj)}{σ:St}{H H':Hp}{s:Shared}{b:Addr}(I:Inv X pins σ H s)(hb:s.heap.objs.size≤b)(hn:H' b=none):FpOk X pins H' b:=by
 refine⟨hn,Nat.ne_of_gt (Nat.lt_of_lt_of_le I.lt hb),I.nofs hb,.inr (Nat.le_trans I.sz hb),fun x c e z=>?_,fun p hp z=>?_⟩
 ·obtain⟨v,q⟩:=I.cell x c e
  exact absurd (Nat.lt_of_lt_of_le q.lt (by rw[z];exact hb)) (Nat.lt_irrefl _)
 ·exact absurd (Nat.lt_of_lt_of_le (lt_size (I.pin p hp).1) (by rw[z];exact hb)) (Nat.lt_irrefl _)
structure Turn (P:Program)(w:World)(K:W.Frag)(tg:Expr)(J:It)(fp:List Addr)(it:Addr)(tn:Nat→Heap→Prop):Prop where
 mem:it∈fp
 obj:∀i h,tn i h→∀b∈fp,∃o,h.get? b=some o∧∀v,o.data≠.cell v
 keep:∀i h h',tn i h→(∀b∈fp,∀o,h.get? b=some o→h'.get? b=some o)→tn i h'
 item:∀(X:Cx),X.prog=P→X.w=w→X.K=K→X.calm=true→∀(i:Nat) (pins:List (Addr×Obj)) (s:Shared) (σ:St) (H:Hp) (E:Value→Shared→Prop),Inv X pins σ H s→(∀b∈fp,FpOk X pins H b)→tn i s.heap→J.go i H→
  wpAny (model P w) X.A (pyNext (.ref it)) (fun r s1=>∃u,r=some u∧
   wpAny (model P w) X.A (letOwnedTupleGo tg (.ref it) u) (fun _ s2=>∃x H',Inv X pins σ H' s2∧RelV x u∧J.yld i H x H'∧tn (i+1) s2.heap∧∀b∈fp,H' b=none) E s1) E s
 done:∀(X:Cx),X.prog=P→X.w=w→X.K=K→X.calm=true→∀(i:Nat) (pins:List (Addr×Obj)) (s:Shared) (σ:St) (H:Hp) (E:Value→Shared→Prop),Inv X pins σ H s→(∀b∈fp,FpOk X pins H b)→tn i s.heap→J.stop i H→
   wpAny (model P w) X.A (pyNext (.ref it)) (fun r s1=>r=none∧Inv X pins σ H s1) E s
 self:∀(A:Around) (i:Nat) (s:Shared) (Q:Value→Shared→Prop) (E:Value→Shared→Prop),tn i s.heap→Q (.ref it) s→wpAny (model P w) A (pyIter (.ref it)) Q E s
abbrev TI:=St→Hp→(It→Hp→Prop)→Prop
def PIE (X:Cx)(pins:List (Addr×Obj))(σ:St)(tg:Expr)(R:It→Hp→Prop)(itv:Value)(s2:Shared):Prop:=
 ∃(it:Addr) (fp:List Addr) (tn:Nat→Heap→Prop) (J:It) (H':Hp),itv=.ref it∧Inv X pins σ H' s2∧Turn X.prog X.w X.K tg J fp it tn∧tn 0 s2.heap∧(∀b∈fp,FpOk X pins H' b)∧R J H'
def PI (X:Cx)(tg iter:Expr)(wi:TI):Prop:=
 ∀(pins:List (Addr×Obj)) (s:Shared) (σ:St) (H:Hp) (R:It→Hp→Prop),Inv X pins σ H s→wi σ H R→
  wpAny (model X.prog X.w) X.A (eval iter X.env) (fun v s1=>wpAny (model X.prog X.w) X.A (pyIter v) (PIE X pins σ tg R) X.xe s1) X.xe s
theorem go_of {M:Model}{A:Around}{E:Value→Shared→Prop}{s:Shared}{tg:Expr}{it:Addr}{u:Value}{o:Obj}{n:String}{vs:Array Value}{Q:Unit→Shared→Prop}(ho:s.heap.get? it=some o)(hc:o.cls=.type n)(hd:o.data=.fields vs)
 (hn:["enumerate","zip","dict_itemiterator","dict_reverseitemiterator","odict_iterator","itertools.zip_longest","itertools.pairwise"].contains n=false) (hQ:Q () s):wpAny M A (letOwnedTupleGo tg (.ref it) u) Q E s:=by
 unfold letOwnedTupleGo
 cases tg<;>first
  |exact wpAny_pure hQ
  |(cases u<;>first
   |exact wpAny_pure hQ
   |(refine wpAny_bind (wpAny_load ho ?_)
     rw[hc,hd]
     show wpAny M A (if(["enumerate","zip","dict_itemiterator","dict_reverseitemiterator","odict_iterator","itertools.zip_longest","itertools.pairwise"].contains n&&vs[0]?==some (rawInt _))=true then _ else _) Q E s
     rw[if_neg (by intro h;rw[hn,Bool.false_and]at h;cases h)]
     exact wpAny_pure hQ))
def Itl (K:W.Frag)(a:Addr):It:=
 ⟨fun i H=>∃xs x,SqL K H a xs∧xs[i]?=some x,fun i H x H'=>H'=H∧∀xs,SqL K H a xs→xs[i]?=some x,fun i H=>∃xs,SqL K H a xs∧xs.length≤i⟩
def Itt (K:W.Frag)(a:Addr):It:=
 ⟨fun i H=>∃xs x,SqT K H a xs∧xs[i]?=some x,fun i H x H'=>H'=H∧∀xs,SqT K H a xs→xs[i]?=some x,fun i H=>∃xs,SqT K H a xs∧xs.length≤i⟩
def Itr (lo:Int)(n:Nat):It:=⟨fun i _=>i<n,fun i H x H'=>H'=H∧x=.int (lo+i),fun i _=>n≤i⟩
theorem turn_list {P:Program}{w:World}{K:W.Frag}{tg:Expr}(a it:Addr):Turn P w K tg (Itl K a) [it] it (fun i h=>h.IsListIter it a i) where
 mem:=by simp
 obj:=fun i h st b hb=>by
  have e:b=it:=by simpa using hb
  subst e
  obtain⟨o,e,c,d⟩:=st
  exact⟨o,e,fun v z=>by rw[d]at z;cases z⟩
 keep:=fun i h h' st k=>st.at fun o e=>k it (by simp) o e
 item:=by
  intro X hP hw hK hc i pins s σ H E I hf st hg
  subst hP hw hK
  obtain⟨xs,x,hq,hx⟩:=hg
  obtain⟨its,rv,p,hz⟩:=I.list hq
  obtain⟨u,hu,ru⟩:=rv.get hx
  obtain⟨f0,f1,f2,f3,f4,f5⟩:=hf it (by simp)
  refine wpAny_pyNext_list_item st p.isList (x:=u) (by simpa using hu) fun h' st' sb=>?_
  have I1:Inv X pins σ H {s with heap:=h'}:=I.turned (t':=s.toks) (fun b o hb e=>(sb.2 b hb).trans e) f0 f1 f3 f4 f5
  obtain⟨o,e,c,d⟩:=id st'
  exact⟨u,rfl,go_of (s:={s with heap:=h'}) e c d (by decide) ⟨x,H,I1,ru,⟨rfl,fun ys hy=>by rw[I.list_inj hy hq];exact hx⟩,st',fun b hb=>(hf b hb).1⟩⟩
 done:=by
   intro X hP hw hK hc i pins s σ H E I hf st hg
   subst hP hw hK
   obtain⟨xs,hq,hx⟩:=hg
   obtain⟨its,rv,p,hz⟩:=I.list hq
   obtain⟨f0,f1,f2,f3,f4,f5⟩:=hf it (by simp)
   have hl:=rv.length
   exact wpAny_pyNext_list_end (I.ok.hd hc) st p.isList (by simp;omega) fun h' eb=>⟨rfl,I.turned (t':=s.toks) (fun b o hb e=>eb b o hb e) f0 f1 f3 f4 f5⟩
 self:=fun _ _ _ _ _ st h=>wpAny_pyIter_listiter st h
theorem turn_tuple {P:Program}{w:World}{K:W.Frag}{tg:Expr}(a it:Addr):Turn P w K tg (Itt K a) [it] it (fun i h=>h.IsTupleIter it a i) where
 mem:=by simp
 obj:=fun i h st b hb=>by
  have e:b=it:=by simpa using hb
  subst e
  obtain⟨o,e,c,d⟩:=st
  exact⟨o,e,fun v z=>by rw[d]at z;cases z⟩
 keep:=fun i h h' st k=>st.at fun o e=>k it (by simp) o e
 item:=by
  intro X hP hw hK hc i pins s σ H E I hf st hg
  subst hP hw hK
  obtain⟨xs,x,hq,hx⟩:=hg
  obtain⟨its,rv,p,hz⟩:=I.tuple hq
  obtain⟨u,hu,ru⟩:=rv.get hx
  obtain⟨f0,f1,f2,f3,f4,f5⟩:=hf it (by simp)
  refine wpAny_pyNext_tuple_item st (show s.heap.IsTuple a its.toArray from p) (x:=u) (by simpa using hu) fun h' st' sb=>?_
  have I1:Inv X pins σ H {s with heap:=h'}:=I.turned (t':=s.toks) (fun b o hb e=>(sb.2 b hb).trans e) f0 f1 f3 f4 f5
  obtain⟨o,e,c,d⟩:=id st'
  exact⟨u,rfl,go_of (s:={s with heap:=h'}) e c d (by decide) ⟨x,H,I1,ru,⟨rfl,fun ys hy=>by rw[I.tuple_inj hy hq];exact hx⟩,st',fun b hb=>(hf b hb).1⟩⟩
 done:=by
   intro X hP hw hK hc i pins s σ H E I hf st hg
   subst hP hw hK
   obtain⟨xs,hq,hx⟩:=hg
   obtain⟨its,rv,p,hz⟩:=I.tuple hq
   obtain⟨f0,f1,f2,f3,f4,f5⟩:=hf it (by simp)
   have hl:=rv.length
   exact wpAny_pyNext_tuple_end (I.ok.hd hc) st (show s.heap.IsTuple a its.toArray from p) (by simp;omega) fun h' eb=>⟨rfl,I.turned (t':=s.toks) (fun b o hb e=>eb b o hb e) f0 f1 f3 f4 f5⟩
 self:=fun _ _ _ _ _ st h=>wpAny_pyIter_tupleiter st h
theorem turn_range {P:Program}{w:World}{K:W.Frag}{tg:Expr}(it:Addr)(lo:Int)(n:Nat):Turn P w K tg (Itr lo n) [it] it (fun i h=>IsRangeIter h it (lo+(i:Nat)*1) ((n:Int) - (i:Nat)) 1) where
 mem:=by simp
 obj:=fun i h st b hb=>by
  have e:b=it:=by simpa using hb
  subst e
  exact⟨_,st,fun v z=>by
   have z':Data.fields _=Data.cell v:=z
   cases z'⟩
 keep:=fun i h h' st k=>k it (by simp) _ st
 item:=by
  intro X hP hw hK hc i pins s σ H E I hf st hg
  subst hP hw hK
  obtain⟨f0,f1,f2,f3,f4,f5⟩:=hf it (by simp)
  have W:=Walks.range (prog:=X.prog) (w:=X.w) (I.ok.hd hc) it lo 1 n
  refine W.item i s _ _ hg st fun v h' tk hv st' kk=>?_
  obtain⟨t,rfl⟩:=hv
  have I1:Inv X pins σ H {s with heap:=h',toks:=tk}:=I.turned (fun b o hb e=>kk b o (by simpa using hb) e) f0 f1 f3 f4 f5
  refine⟨_,rfl,go_of (s:={s with heap:=h',toks:=tk}) (n:="range_iterator") st' rfl rfl (by decide) ⟨.int (lo+i),H,I1,⟨t,?_⟩,⟨rfl,rfl⟩,st',fun b hb=>(hf b hb).1⟩⟩
  rw[Int.mul_one]
 done:=by
   intro X hP hw hK hc i pins s σ H E I hf st hg
   subst hP hw hK
   obtain⟨f0,f1,f2,f3,f4,f5⟩:=hf it (by simp)
   exact wpAny_pyNext_range_end (I.ok.hd hc) st (by have:n≤i:=hg;omega) fun h' eb=>⟨rfl,I.turned (t':=s.toks) (fun b o hb e=>eb b o hb e) f0 f1 f3 f4 f5⟩
 self:=fun _ _ _ _ _ st h=>wpAny_pyIter_rangeiter st h
section
variable {X:Cx}{tg:Expr}
def iList (K:W.Frag)(tl:TE):TI:=fun σ H R=>tl σ H fun x H1=>∃a,x=.ref a∧(∃xs,SqL K H1 a xs)∧R (Itl K a) H1
def iTup (K:W.Frag)(tl:TE):TI:=fun σ H R=>tl σ H fun x H1=>∃a,x=.ref a∧(∃xs,SqT K H1 a xs)∧R (Itt K a) H1
theorem pi_list {l:Expr}{tl:TE}(hl:PE X l tl):PI X tg l (iList X.K tl):=by
 intro pins s σ H R I h
 refine thn (hl pins s σ H _ I h) fun v s1 ⟨x,H1,I1,r1,q1⟩=>?_
 obtain⟨a,e,⟨xs,hq⟩,q⟩:=q1
 subst e
 cases r1
 obtain⟨its,rv,p,hz⟩:=I1.list hq
 refine wpAny_pyIter_list p.isList ?_
 refine⟨s1.heap.objs.size,[s1.heap.objs.size],_,_,H1,rfl,I1.kept (t':=s1.toks) fun b o e=>get?_push_of_some _ e,turn_list a _,⟨_,get?_push_size _ rfl,rfl,rfl⟩,fun b hb=>?_,q⟩
 have e:b=s1.heap.objs.size:=by simpa using hb
 subst e
 exact I1.fpOk (Nat.le_refl _) (I1.hok.fresh (Nat.le_refl _))
theorem pi_tup {l:Expr}{tl:TE}(hl:PE X l tl):PI X tg l (iTup X.K tl):=by
 intro pins s σ H R I h
 refine thn (hl pins s σ H _ I h) fun v s1 ⟨x,H1,I1,r1,q1⟩=>?_
 obtain⟨a,e,⟨xs,hq⟩,q⟩:=q1
 subst e
 cases r1
 obtain⟨its,rv,p,hz⟩:=I1.tuple hq
 refine wpAny_pyIter_tuple (show s1.heap.IsTuple a its.toArray from p) ?_
 refine⟨s1.heap.objs.size,[s1.heap.objs.size],_,_,H1,rfl,I1.kept (t':=s1.toks) fun b o e=>get?_push_of_some _ e,turn_tuple a _,⟨_,get?_push_size _ rfl,rfl,rfl⟩,fun b hb=>?_,q⟩
 have e:b=s1.heap.objs.size:=by simpa using hb
 subst e
 exact I1.fpOk (Nat.le_refl _) (I1.hok.fresh (Nat.le_refl _))
theorem range_it {pins:List (Addr×Obj)}{σ:St}{H:Hp}{s:Shared}{R:It→Hp→Prop}{E:Value→Shared→Prop}{lo hi:Int}{t u v:Tok}{tk:Nat}(I:Inv X pins σ H s)(h1:-(2^62)≤lo)(h2:lo<2^62)(h3:-(2^62)≤hi)(h4:hi<2^62)
 (q:R (Itr lo (hi - lo).toNat) H):wpAny (model X.prog X.w) X.A (pyIter (.ref s.heap.objs.size)) (PIE X pins σ tg R) E {s with heap:=s.heap.push {cls:=.type "range",data:=.fields #[.int lo t,.int hi u,.int 1 v]},toks:=tk}:=by
 refine wpAny_pyIter_range (IsRange.new ..) (small_one h1 h2 h3 h4) ?_
 have I1:Inv X pins σ H {s with heap:=s.heap.push {cls:=.type "range",data:=.fields #[.int lo t,.int hi u,.int 1 v]},toks:=tk}:=I.kept fun b o e=>get?_push_of_some _ e
 refine⟨(s.heap.push {cls:=.type "range",data:=.fields #[.int lo t,.int hi u,.int 1 v]}).objs.size,[(s.heap.push {cls:=.type "range",data:=.fields #[.int lo t,.int hi u,.int 1 v]}).objs.size],_,_,H,rfl,
  I1.kept (t':=tk) fun b o e=>get?_push_of_some _ e,turn_range _ lo (hi - lo).toNat,?_,fun b hb=>?_,q⟩
 ·have e1:lo+((0:Nat):Int)*1=lo:=by simp
  have e2:(((hi - lo).toNat:Nat):Int) - ((0:Nat):Int)=Builtin.Range.rangeSize lo hi 1:=by rw[rangeSize_one];split<;>omega
  show IsRangeIter _ _ (lo+((0:Nat):Int)*1) ((((hi - lo).toNat:Nat):Int) - ((0:Nat):Int)) 1
  rw[e1,e2]
  exact get?_push_size _ rfl
 ·have e:b=(s.heap.push {cls:=.type "range",data:=.fields #[.int lo t,.int hi u,.int 1 v]}).objs.size:=by simpa using hb
  subst e
  exact I1.fpOk (Nat.le_refl _) (I1.hok.fresh (Nat.le_refl _))
def iRng1 (ta:TA):TI:=fun σ H R=>ta σ H fun vs H1=>∃j:Int,vs=[.int j]∧-(2^62)≤j∧j<2^62∧R (Itr 0 j.toNat) H1
def iRng2 (ta:TA):TI:=fun σ H R=>ta σ H fun vs H1=>∃i j:Int,vs=[.int i,.int j]∧(-(2^62)≤i∧i<2^62∧-(2^62)≤j∧j<2^62)∧R (Itr i (j - i).toNat) H1
theorem pi_range1 {a:Expr}{ta:TA}{p pos:Pos}(hg:Gl X "range")(hm:X.mg "range" = none)(ha:PA X [a] ta)(hs:starEach [a] X.env=[(false,eval a X.env)]:=by rfl):PI X tg (.Call (.Name "range" p) [a] [] pos) (iRng1 ta):=by
 intro pins s σ H R I h
 refine Call_ (ld_blt I hg hm boot_range (callWith_type1 (thn (ha pos pins s σ H _ I h) fun us s1 ⟨vs,H1,I1,r1,q1⟩=>?_) hs rfl))
 obtain⟨j,e,q1,q2,q⟩:=q1
 subst e
 cases r1 with
 |cons r rr=>
  cases rr
  obtain⟨t,rfl⟩:=r
  exact call_range_1 (range_it I1 (by omega) (by omega) q1 q2 (by simpa using q))
theorem pi_range2 {a b:Expr}{ta:TA}{p pos:Pos}(hg:Gl X "range")(hm:X.mg "range" = none)(ha:PA X [a,b] ta)(hs:starEach [a,b] X.env=[(false,eval a X.env),(false,eval b X.env)]:=by rfl)(hs2:starEach [b] X.env=[(false,eval b X.env)]:=by rfl) :
 PI X tg (.Call (.Name "range" p) [a,b] [] pos) (iRng2 ta):=by
 intro pins s σ H R I h
 refine Call_ (ld_blt I hg hm boot_range (callWith_type1 (thn (ha pos pins s σ H _ I h) fun us s1 ⟨vs,H1,I1,r1,q1⟩=>?_) (by rw[hs,hs2]) (by rw[hs2];rfl)))
 obtain⟨i,j,e,⟨q1,q2,q3,q4⟩,q⟩:=q1
 subst e
 cases r1 with
 |cons r rr=>
  cases rr with
  |cons r' rr=>
   cases rr
   obtain⟨t,rfl⟩:=r
   obtain⟨t',rfl⟩:=r'
   exact call_range_2 (range_it I1 q1 q2 q3 q4 q)
def tFor (wi:TI)(g:TG)(tb:TS):TS:=fun D σ H=>wi σ H fun J H1=>∃W:Nat→Nat→St→Hp→Prop,(∃m,W 0 m σ H1)∧∀i m σ H,W i m σ H→
 (J.stop i H∧D.nx σ H)∨(J.go i H∧∃N:St→Hp→Prop,(∀σ' H',N σ' H'→∃m',m'<m∧W (i+1) m' σ' H')∧∀x H',J.yld i H x H'→g x σ H' fun σ2 H2=>tb {D with nx:=N,ct:=N,bk:=D.nx} σ2 H2)
def pinsAt (fp:List Addr)(h:Heap):List (Addr×Obj):=fp.filterMap fun b=>(h.get? b).map fun o=>(b,o)
theorem mem_pinsAt {fp:List Addr}{h:Heap}{b:Addr}{o:Obj}(hb:b∈fp)(e:h.get? b=some o):(b,o)∈pinsAt fp h:=List.mem_filterMap.mpr ⟨b,hb,by rw[e];rfl⟩
theorem of_pinsAt {fp:List Addr}{h:Heap}{p:Addr×Obj}(hp:p∈pinsAt fp h):p.1∈fp∧h.get? p.1=some p.2:=by
 obtain⟨b,hb,e⟩:=List.mem_filterMap.mp hp
 cases q:h.get? b with
 |none=>rw[q]at e;cases e
 |some o=>
  rw[q]at e
  have e':(b,o)=p:=Option.some.inj e
  subst e'
  exact⟨hb,q⟩
theorem Inv.pinned {pins:List (Addr×Obj)}{σ:St}{H:Hp}{s:Shared}{fp:List Addr}(I:Inv X pins σ H s)(hf:∀b∈fp,FpOk X pins H b)(ho:∀b∈fp,∃o,s.heap.get? b=some o∧∀v,o.data≠.cell v):Inv X (pins++pinsAt fp s.heap) σ H s:=
 I.pins_of fun p hp=>(mem_append.mp hp).elim (fun z=>I.pin p (mem_append_right _ z)) fun z=>by
  obtain⟨hb,e⟩:=of_pinsAt z
  obtain⟨f0,f1,f2,_⟩:=hf p.1 hb
  obtain⟨o,e',d⟩:=ho p.1 hb
  rw[e]at e';cases e'
  exact⟨e,f0,f1,f2,d⟩
theorem Inv.unpinned {pins pl:List (Addr×Obj)}{σ:St}{H:Hp}{s:Shared}(I:Inv X (pins++pl) σ H s):Inv X pins σ H s:=I.pins_of fun p hp=>I.pin p (mem_append_right _ (mem_append_left _ hp))
theorem ps_for {iter:Expr}{body:List Stmt}{wi:TI}{g:TG}{tb:TS}{pos:Pos}(hp:PassesOwn (model X.prog X.w) X.A X.env X.xe)(hc:X.calm=true)(hi:PI X tg iter wi)(hg:PG X tg g)(hb:PSs X body tb)
 (hs:∀x,foldedSetIterable iter X.env x=pure x:=by intro _;rfl):PS X (.For tg iter body [] pos) (tFor wi g tb):=by
 intro pins s σ H D I h
 refine wpAny_For (thn (hi pins s σ H _ I h) fun v s1 h1=>thn h1 fun itv s2 h2=>?_) hs
 obtain⟨it,fp,tn,J,H2,e,I2,T,st2,f2,W,⟨m0,w0⟩,turn⟩:=h2
 subst e
 -- what stays true of the iterator's objects through the loop
 have stat:∀{H':Hp},(∀b∈fp,H' b=none)→∀b∈fp,FpOk X pins H' b:=fun hn b hb=>⟨hn b hb,(f2 b hb).2⟩
 refine codeAny_forLoop_any (fun n s'=>∃i σ' H',Inv X pins σ' H' s'∧tn i s'.heap∧(∀b∈fp,H' b=none)∧W i n σ' H') ?_ m0 ⟨0,σ,H2,I2,st2,fun b hb=>(f2 b hb).1,w0⟩
 rintro n s3 ⟨i,σ3,H3,I3,st3,fr3,w3⟩
 rcases turn i n σ3 H3 w3 with⟨stop,qn⟩ | ⟨go,N,hN,step⟩
 ·refine wpAny_passesOwn hp (thn (T.done X rfl rfl rfl hc i pins s3 σ3 H3 X.xe I3 (stat fr3) st3 stop) fun r s4 ⟨hr,I4⟩=>?_)
  subst hr
  exact wpAny_execs_nil ⟨σ3,H3,I4,qn⟩
 ·refine wpAny_passesOwn hp (thn (T.item X rfl rfl rfl hc i pins s3 σ3 H3 X.xe I3 (stat fr3) st3 go) fun r s4 ⟨u,hr,h4⟩=>?_)
  subst hr
  refine wpAny_passesOwn hp (thn h4 fun _ s5 ⟨x,H5,I5,r5,y5,st5,fr5⟩=>?_)
  have I5':=I5.pinned (stat fr5) (T.obj _ _ st5)
  refine wpAny_passesOwn hp (thn (hg _ s5 σ3 H5 x u _ I5' r5 (step x H5 y5)) fun _ s6 ⟨σ6,H6,I6,q6⟩=>?_)
  refine wpAny_passesOwn hp (thn (hb _ s6 σ6 H6 _ I6 q6) fun f s7 q7=>?_)
  have again:∀{σ7:St} {H7:Hp},Inv X (pins++pinsAt fp s5.heap) σ7 H7 s7→N σ7 H7→∃m,m<n∧∃i σ' H',Inv X pins σ' H' s7∧tn i s7.heap∧(∀b∈fp,H' b=none)∧W i m σ' H':=fun{σ7 H7} I7 n7=>by
   obtain⟨m',hm,w7⟩:=hN σ7 H7 n7
   refine⟨m',hm,i+1,σ7,H7,I7.unpinned,T.keep _ _ _ st5 fun b hb o e=>(I7.pin (b,o) (mem_append_right _ (mem_append_right _ (mem_pinsAt hb e)))).1,fun b hb=>?_,w7⟩
   obtain⟨o,e,d⟩:=T.obj _ _ st5 b hb
   exact(I7.pin (b,o) (mem_append_right _ (mem_append_right _ (mem_pinsAt hb e)))).2.1
  cases f with
  |next=>obtain⟨σ7,H7,I7,n7⟩:=q7;exact again I7 n7
  |cont=>obtain⟨σ7,H7,I7,n7⟩:=q7;exact again I7 n7
  |brk=>obtain⟨σ7,H7,I7,q7⟩:=q7;exact⟨σ7,H7,I7.unpinned,q7⟩
  |ret v=>obtain⟨x7,σ7,H7,I7,r7,q7⟩:=q7;exact⟨x7,σ7,H7,I7.unpinned,r7,q7⟩
end
theorem for_list {K:W.Frag}{a:Addr}{xs:List V}{g:TG}{tb:TS}{D:Ends}{σ:St}{H:Hp}(Pv:Nat→St→Hp→Prop)(h0:Pv 0 σ H)(hl:∀i σ H,i≤xs.length→Pv i σ H→SqL K H a xs)
 (hs:∀i x σ H,xs[i]?=some x→Pv i σ H→g x σ H fun σ2 H2=>tb {D with nx:=Pv (i+1),ct:=Pv (i+1),bk:=D.nx} σ2 H2) (hd:∀σ H,Pv xs.length σ H→D.nx σ H) :
 ∃W:Nat→Nat→St→Hp→Prop,(∃m,W 0 m σ H)∧∀i m σ H,W i m σ H→
  ((Itl K a).stop i H∧D.nx σ H)∨((Itl K a).go i H∧∃N:St→Hp→Prop,(∀σ' H',N σ' H'→∃m',m'<m∧W (i+1) m' σ' H')∧∀x H',(Itl K a).yld i H x H'→g x σ H' fun σ2 H2=>tb {D with nx:=N,ct:=N,bk:=D.nx} σ2 H2):=by
 refine⟨fun i m σ H=>m=xs.length - i∧i≤xs.length∧Pv i σ H,⟨xs.length,by simp,Nat.zero_le _,h0⟩,?_⟩
 rintro i m σ H ⟨rfl,hi,p⟩
 have q:=hl i σ H hi p
 by_cases hlt:i<xs.length
 ·refine .inr ⟨⟨xs,xs[i],q,by simp[hlt]⟩,Pv (i+1),fun σ' H' p'=>⟨xs.length - (i+1),by omega,rfl,hlt,p'⟩,fun x H' y=>?_⟩
  obtain⟨e,y⟩:=y
  subst e
  exact hs i x σ _ (y xs q) p
 ·have e:i=xs.length:=by omega
  subst e
  exact .inl ⟨⟨xs,q,Nat.le_refl _⟩,hd σ H p⟩
theorem for_tup {K:W.Frag}{a:Addr}{xs:List V}{g:TG}{tb:TS}{D:Ends}{σ:St}{H:Hp}(Pv:Nat→St→Hp→Prop)(h0:Pv 0 σ H)(hl:∀i σ H,i≤xs.length→Pv i σ H→SqT K H a xs)
 (hs:∀i x σ H,xs[i]?=some x→Pv i σ H→g x σ H fun σ2 H2=>tb {D with nx:=Pv (i+1),ct:=Pv (i+1),bk:=D.nx} σ2 H2) (hd:∀σ H,Pv xs.length σ H→D.nx σ H) :
 ∃W:Nat→Nat→St→Hp→Prop,(∃m,W 0 m σ H)∧∀i m σ H,W i m σ H→
  ((Itt K a).stop i H∧D.nx σ H)∨((Itt K a).go i H∧∃N:St→Hp→Prop,(∀σ' H',N σ' H'→∃m',m'<m∧W (i+1) m' σ' H')∧∀x H',(Itt K a).yld i H x H'→g x σ H' fun σ2 H2=>tb {D with nx:=N,ct:=N,bk:=D.nx} σ2 H2):=by
 refine⟨fun i m σ H=>m=xs.length - i∧i≤xs.length∧Pv i σ H,⟨xs.length,by simp,Nat.zero_le _,h0⟩,?_⟩
 rintro i m σ H ⟨rfl,hi,p⟩
 have q:=hl i σ H hi p
 by_cases hlt:i<xs.length
 ·refine .inr ⟨⟨xs,xs[i],q,by simp[hlt]⟩,Pv (i+1),fun σ' H' p'=>⟨xs.length - (i+1),by omega,rfl,hlt,p'⟩,fun x H' y=>?_⟩
  obtain⟨e,y⟩:=y
  subst e
  exact hs i x σ _ (y xs q) p
 ·have e:i=xs.length:=by omega
  subst e
  exact .inl ⟨⟨xs,q,Nat.le_refl _⟩,hd σ H p⟩
theorem for_range {lo:Int}{n:Nat}{g:TG}{tb:TS}{D:Ends}{σ:St}{H:Hp}(Pv:Nat→St→Hp→Prop)(h0:Pv 0 σ H)
 (hs:∀i σ H,i<n→Pv i σ H→g (.int (lo+i)) σ H fun σ2 H2=>tb {D with nx:=Pv (i+1),ct:=Pv (i+1),bk:=D.nx} σ2 H2) (hd:∀σ H,Pv n σ H→D.nx σ H) :
 ∃W:Nat→Nat→St→Hp→Prop,(∃m,W 0 m σ H)∧∀i m σ H,W i m σ H→
  ((Itr lo n).stop i H∧D.nx σ H)∨((Itr lo n).go i H∧∃N:St→Hp→Prop,(∀σ' H',N σ' H'→∃m',m'<m∧W (i+1) m' σ' H')∧∀x H',(Itr lo n).yld i H x H'→g x σ H' fun σ2 H2=>tb {D with nx:=N,ct:=N,bk:=D.nx} σ2 H2):=by
 refine⟨fun i m σ H=>m=n - i∧i≤n∧Pv i σ H,⟨n,by simp,Nat.zero_le _,h0⟩,?_⟩
 rintro i m σ H ⟨rfl,hi,p⟩
 by_cases hlt:i<n
 ·refine .inr ⟨hlt,Pv (i+1),fun σ' H' p'=>⟨n - (i+1),by omega,rfl,hlt,p'⟩,fun x H' y=>?_⟩
  obtain⟨e,y⟩:=y
  subst e y
  exact hs i σ _ hlt p
 ·have e:i=n:=by omega
  subst e
  exact .inl ⟨Nat.le_refl _,hd σ H p⟩
theorem while_by {c:TT}{tb:TS}{D:Ends}{σ:St}{H:Hp}(Pv:St→Hp→Prop)(μ:St→Hp→Nat)(h0:Pv σ H)
 (hs:∀σ H,Pv σ H→c σ H fun b H1=>if b=true then tb {D with nx:=fun σ' H'=>Pv σ' H'∧μ σ' H'<μ σ H,ct:=fun σ' H'=>Pv σ' H'∧μ σ' H'<μ σ H,bk:=D.nx} σ H1 else D.nx σ H1)
 (mono:∀σ H Q Q',(∀b H1,Q b H1→Q' b H1)→c σ H Q→c σ H Q'):tWhile c tb D σ H:=by
 refine⟨fun m σ H=>m=μ σ H∧Pv σ H,⟨_,rfl,h0⟩,?_⟩
 rintro m σ H ⟨rfl,p⟩
 refine mono σ H _ _ (fun b H1 q=>?_) (hs σ H p)
 cases b with
 |true=>exact⟨_,fun σ' H' ⟨p',l⟩=>⟨_,l,rfl,p'⟩,q⟩
 |false=>exact q
abbrev R2:=V→V→Hp→VK→Prop
def OpR (X:Cx)(f:Value→Value→Sem Value)(r:R2):Prop:=
 ∀(pins:List (Addr×Obj)) (s:Shared) (σ:St) (H:Hp) (x y:V) (v u:Value) (Q:VK),Inv X pins σ H s→RelV x v→RelV y u→r x y H Q→
  wpAny (model X.prog X.w) X.A (f v u) (EP X pins σ Q) X.xe s
def UnR (X:Cx)(f:Value→Sem Value)(r:V→Hp→VK→Prop):Prop:=
 ∀(pins:List (Addr×Obj)) (s:Shared) (σ:St) (H:Hp) (x:V) (v:Value) (Q:VK),Inv X pins σ H s→RelV x v→r x H Q→
  wpAny (model X.prog X.w) X.A (f v) (EP X pins σ Q) X.xe s
def CallR (X:Cx)(f:Value)(r:List V→Hp→VK→Prop):Prop:=
 ∀(pins:List (Addr×Obj)) (s:Shared) (σ:St) (H:Hp) (xs:List V) (us:List Value) (Q:VK),Inv X pins σ H s→Vals xs us→r xs H Q→
  wpAny (model X.prog X.w) X.A (call f us) (EP X pins σ Q) X.xe s
def TruR (X:Cx)(r:V→Hp→(Bool→Hp→Prop)→Prop):Prop:=
 ∀(pins:List (Addr×Obj)) (s:Shared) (σ:St) (H:Hp) (x:V) (v:Value) (Q:Bool→Hp→Prop),Inv X pins σ H s→RelV x v→r x H Q→
  wpAny (model X.prog X.w) X.A (truthy v) (TP X pins σ Q) X.xe s
def tOp (r:R2)(ta tb:TE):TE:=fun σ H Q=>ta σ H fun x H1=>tb σ H1 fun y H2=>r x y H2 Q
def tUn (r:V→Hp→VK→Prop)(ta:TE):TE:=fun σ H Q=>ta σ H fun x H1=>r x H1 Q
def rI (C:Int→Int→Prop)(g:Int→Int→V):R2:=fun x y H Q=>∃i j,x=.int i∧y=.int j∧C i j∧Q (g i j) H
def rI0 (g:Int→Int→V):R2:=fun x y H Q=>∃i j,x=.int i∧y=.int j∧Q (g i j) H
def rU (g:Int→V):V→Hp→VK→Prop:=fun x H Q=>∃i,x=.int i∧Q (g i) H
section
variable {X:Cx}{a b c:Expr}{ta tb tc:TE}{pos:Pos}
theorem binT (ha:PE X a ta)(hb:PE X b tb){pins:List (Addr×Obj)}{s:Shared}{σ:St}{H:Hp}{R:V→V→Hp→Prop}(I:Inv X pins σ H s)
 (h:ta σ H fun x H1=>tb σ H1 fun y H2=>R x y H2) {Q:Value→Shared→Prop} {f:Value→Value→Sem Value}
 (hf:∀v u s2 x y H2,Inv X pins σ H2 s2→RelV x v→RelV y u→R x y H2→wpAny (model X.prog X.w) X.A (f v u) Q X.xe s2) :
 wpAny (model X.prog X.w) X.A (eval a X.env) (fun v s₁=>wpAny (model X.prog X.w) X.A (eval b X.env) (fun u s₂=>wpAny (model X.prog X.w) X.A (f v u) Q X.xe s₂) X.xe s₁) X.xe s:=by
 refine thn (ha pins s σ H _ I h) fun v s1 ⟨x,H1,I1,r1,q1⟩=>?_
 refine thn (hb pins s1 σ H1 _ I1 q1) fun u s2 ⟨y,H2,I2,r2,q2⟩=>?_
 exact hf v u s2 x y H2 I2 r1 r2 q2
theorem pe_op {op:Operator}{r:R2}(ho:OpR X (binaryOp op) r)(ha:PE X a ta)(hb:PE X b tb):PE X (.BinOp a op b pos) (tOp r ta tb):=by
 intro pins s σ H Q I h
 exact wpAny_BinOp (binT ha hb I h fun v u s2 x y H2 I2 rx ry q=>ho pins s2 σ H2 x y v u Q I2 rx ry q)
theorem pe_un {op:UnaryOp}{r:V→Hp→VK→Prop}(ho:UnR X (unaryOp op) r)(ha:PE X a ta):PE X (.UnaryOp op a pos) (tUn r ta):=by
 intro pins s σ H Q I h
 exact UnaryOp_ (thn (ha pins s σ H _ I h) fun v s1 ⟨x,H1,I1,r1,q1⟩=>ho pins s1 σ H1 x v Q I1 r1 q1)
theorem opI {f:Value→Value→Sem Value}{C:Int→Int→Prop}{g:Int→Int→Int}
 (rule:∀(i j:Int) (t u:Tok) (s:Shared) (Q:Value→Shared→Prop) (E:Value→Shared→Prop),C i j→Q (.int (g i j) s.toks) {s with toks:=s.toks+1}→wpAny (model X.prog X.w) X.A (f (.int i t) (.int j u)) Q E s) :
 OpR X f (rI C fun i j=>.int (g i j)):=by
 intro pins s σ H x y v u Q I rx ry h
 obtain⟨i,j,rfl,rfl,hc,q⟩:=h
 obtain⟨t,rfl⟩:=rx
 obtain⟨t',rfl⟩:=ry
 exact rule i j t t' s _ _ hc ⟨.int (g i j),H,I.tok _,⟨_,rfl⟩,q⟩
theorem opI0 {f:Value→Value→Sem Value}{g:Int→Int→Int}
 (rule:∀(i j:Int) (t u:Tok) (s:Shared) (Q:Value→Shared→Prop) (E:Value→Shared→Prop),Q (.int (g i j) s.toks) {s with toks:=s.toks+1}→wpAny (model X.prog X.w) X.A (f (.int i t) (.int j u)) Q E s) :
 OpR X f (rI0 fun i j=>.int (g i j)):=by
 intro pins s σ H x y v u Q I rx ry h
 obtain⟨i,j,rfl,rfl,q⟩:=h
 obtain⟨t,rfl⟩:=rx
 obtain⟨t',rfl⟩:=ry
 exact rule i j t t' s _ _ ⟨.int (g i j),H,I.tok _,⟨_,rfl⟩,q⟩
theorem opB0 {f:Value→Value→Sem Value}{g:Int→Int→Bool}
 (rule:∀(i j:Int) (t u:Tok) (s:Shared) (Q:Value→Shared→Prop) (E:Value→Shared→Prop),Q (.bool (g i j)) s→wpAny (model X.prog X.w) X.A (f (.int i t) (.int j u)) Q E s) :
 OpR X f (rI0 fun i j=>.bl (g i j)):=by
 intro pins s σ H x y v u Q I rx ry h
 obtain⟨i,j,rfl,rfl,q⟩:=h
 obtain⟨t,rfl⟩:=rx
 obtain⟨t',rfl⟩:=ry
 exact rule i j t t' s _ _ ⟨.bl (g i j),H,I,rfl,q⟩
def CDiv (i j:Int):Prop:=0<j∧j<1073741824
def CPow (i j:Int):Prop:=0≤j∧j≤1000000∧i.natAbs<2^64
def CMul (i j:Int):Prop:=(-(2^64)<i∧i<2^64)∨(-(2^64)<j∧j<2^64)
theorem CMul.ok {i j:Int}(h:CMul i j):IntMulOk i j:=by
 rcases h with⟨h1,h2⟩ | ⟨h1,h2⟩
 ·exact .of_left (intBits_le_64 h1 h2)
 ·exact .of_right (intBits_le_64 h1 h2)
theorem op_add:OpR X (binaryOp .Add) (rI0 fun i j=>.int (i+j)):=opI0 fun _ _ _ _ _ _ _ q=>add_int q
theorem op_sub:OpR X (binaryOp .Sub) (rI0 fun i j=>.int (i - j)):=opI0 fun _ _ _ _ _ _ _ q=>sub_int q
theorem op_mul:OpR X (binaryOp .Mult) (rI CMul fun i j=>.int (i*j)):=opI fun _ _ _ _ _ _ _ hc q=>mul_int q hc.ok
theorem op_fdiv:OpR X (binaryOp .FloorDiv) (rI CDiv fun i j=>.int (i / j)):=opI fun i j _ _ _ _ _ hc q=>by
 have h1:(0:Int)<j:=hc.1
 have h2:j<1073741824:=hc.2
 exact floordiv_int (by omega) (by rw[Int.fdiv_eq_ediv_of_nonneg i (by omega)];exact q) (.inl (PyProof.noPylong_small (by omega)))
theorem op_mod:OpR X (binaryOp .Mod) (rI (fun _ j=>0<j) fun i j=>.int (i % j)):=opI fun i j _ _ _ _ _ hc q=>by
 have h1:(0:Int)<j:=hc
 exact mod_int' (by omega) (by rw[Int.fmod_eq_emod_of_nonneg i (by omega)];exact q)
theorem op_pow:OpR X (binaryOp .Pow) (rI CPow fun i j=>.int (i^j.toNat)):=opI fun _ _ _ _ _ _ _ hc q=>pow_int_small hc.1 hc.2.1 hc.2.2 q
theorem unI {f:Value→Sem Value}{g:Int→Int}
 (rule:∀(i:Int) (t:Tok) (s:Shared) (Q:Value→Shared→Prop) (E:Value→Shared→Prop),Q (.int (g i) s.toks) {s with toks:=s.toks+1}→wpAny (model X.prog X.w) X.A (f (.int i t)) Q E s) :
 UnR X f (rU fun i=>.int (g i)):=by
 intro pins s σ H x v Q I rx h
 obtain⟨i,rfl,q⟩:=h
 obtain⟨t,rfl⟩:=rx
 exact rule i t s _ _ ⟨.int (g i),H,I.tok _,⟨_,rfl⟩,q⟩
theorem un_neg:UnR X (unaryOp .USub) (rU fun i=>.int (-i)):=unI fun _ _ _ _ _ q=>neg_int q
end
def scal:V→V→Bool
 | .non,.non=>true | .non,.int _=>true | .int _,.non=>true | .non,.bl _=>true | .bl _,.non=>true | .non,.str _=>true | .str _,.non=>true
 | .int _,.int _=>true | .bl _,.bl _=>true | .str _,.str _=>true | .byt _,.byt _=>true
 | .int _,.str _=>true | .str _,.int _=>true | .bl _,.str _=>true | .str _,.bl _=>true
 |_,_=>false
def rEq:R2:=fun x y H Q=>scal x y=true∧Q (.bl (decide (x=y))) H
def rNe:R2:=fun x y H Q=>scal x y=true∧Q (.bl (!decide (x=y))) H
theorem dec_int {i j:Int}:decide (V.int i=V.int j)=(i==j):=by
 rw[Bool.eq_iff_iff]
 simp
theorem dec_bl {i j:Bool}:decide (V.bl i=V.bl j)=(i==j):=by
 rw[Bool.eq_iff_iff]
 simp
theorem dec_str {i j:Str}:decide (V.str i=V.str j)=(i==j):=by
 rw[Bool.eq_iff_iff]
 simp
theorem dec_byt {i j:Array UInt8}:decide (V.byt i=V.byt j)=(i.toList==j.toList):=by
 rw[Bool.eq_iff_iff]
 cases i
 cases j
 simp
section
variable {X:Cx}{a b c:Expr}{ta tb tc:TE}{pos:Pos}
theorem fin_bl {pins:List (Addr×Obj)}{σ:St}{H:Hp}{s:Shared}{Q:VK}{k k':Bool}(I:Inv X pins σ H s)(q:Q (.bl k) H)(e:k=k'):EP X pins σ Q (.bool k') s:=by
 subst e
 exact⟨.bl k,H,I,rfl,q⟩
theorem op_eq:OpR X (compareOp .Eq) rEq:=by
 intro pins s σ H x y v u Q I rx ry h
 obtain⟨hs,q⟩:=h
 cases x with
 |non=>
  cases rx
  cases y with
  |non=>cases ry;exact PySem.EqNone.eq_none_none (fin_bl I q (by simp))
  |bl j=>cases ry;exact PySem.EqNone.eq_none_bool (fin_bl I q (by simp))
  |int j=>obtain⟨t',rfl⟩:=ry;exact PySem.EqNone.eq_none_int (fin_bl I q (by simp))
  |str j=>obtain⟨t',rfl⟩:=ry;exact PySem.EqNone.eq_none_str (fin_bl I q (by simp))
  |_=>exact absurd (show false=true from hs) Bool.false_ne_true
 |bl i=>
  cases rx
  cases y with
  |non=>cases ry;exact PySem.EqNone.eq_bool_none (fin_bl I q (by simp))
  |bl j=>cases ry;exact eq_bool (fin_bl I q dec_bl)
  |str j=>obtain⟨t',rfl⟩:=ry;exact PySem.EqMixed.eq_bool_str (fin_bl I q (by simp))
  |_=>exact absurd (show false=true from hs) Bool.false_ne_true
 |int i=>
  obtain⟨t,rfl⟩:=rx
  cases y with
  |non=>cases ry;exact PySem.EqNone.eq_int_none (fin_bl I q (by simp))
  |int j=>obtain⟨t',rfl⟩:=ry;exact eq_int (fin_bl I q dec_int)
  |str j=>obtain⟨t',rfl⟩:=ry;exact PySem.EqMixed.eq_int_str (fin_bl I q (by simp))
  |_=>exact absurd (show false=true from hs) Bool.false_ne_true
 |str i=>
  obtain⟨t,rfl⟩:=rx
  cases y with
  |non=>cases ry;exact PySem.EqNone.eq_str_none (fin_bl I q (by simp))
  |bl j=>cases ry;exact PySem.EqMixed.eq_str_bool (fin_bl I q (by simp))
  |int j=>obtain⟨t',rfl⟩:=ry;exact PySem.EqMixed.eq_str_int (fin_bl I q (by simp))
  |str j=>obtain⟨t',rfl⟩:=ry;exact eq_str (fin_bl I q dec_str)
  |_=>exact absurd (show false=true from hs) Bool.false_ne_true
 |byt i=>
  obtain⟨t,rfl⟩:=rx
  cases y with
  |byt j=>obtain⟨t',rfl⟩:=ry;exact PySem.W.eq_bytes (fin_bl I q dec_byt)
  |_=>exact absurd (show false=true from hs) Bool.false_ne_true
 |_=>cases y<;>exact absurd (show false=true from hs) Bool.false_ne_true
theorem op_ne:OpR X (compareOp .NotEq) rNe:=by
 intro pins s σ H x y v u Q I rx ry h
 obtain⟨hs,q⟩:=h
 cases x with
 |non=>
  cases rx
  cases y with
  |non=>cases ry;exact PySem.EqNone.ne_none_none (fin_bl I q (by simp))
  |bl j=>cases ry;exact PySem.EqNone.ne_none_bool (fin_bl I q (by simp))
  |int j=>obtain⟨t',rfl⟩:=ry;exact PySem.EqNone.ne_none_int (fin_bl I q (by simp))
  |str j=>obtain⟨t',rfl⟩:=ry;exact PySem.EqNone.ne_none_str (fin_bl I q (by simp))
  |_=>exact absurd (show false=true from hs) Bool.false_ne_true
 |bl i=>
  cases rx
  cases y with
  |non=>cases ry;exact PySem.EqNone.ne_bool_none (fin_bl I q (by simp))
  |bl j=>cases ry;exact ne_bool (fin_bl I q (congrArg not dec_bl))
  |str j=>obtain⟨t',rfl⟩:=ry;exact PySem.EqMixed.ne_bool_str (fin_bl I q (by simp))
  |_=>exact absurd (show false=true from hs) Bool.false_ne_true
 |int i=>
  obtain⟨t,rfl⟩:=rx
  cases y with
  |non=>cases ry;exact PySem.EqNone.ne_int_none (fin_bl I q (by simp))
  |int j=>obtain⟨t',rfl⟩:=ry;exact ne_int (fin_bl I q (congrArg not dec_int))
  |str j=>obtain⟨t',rfl⟩:=ry;exact PySem.EqMixed.ne_int_str (fin_bl I q (by simp))
  |_=>exact absurd (show false=true from hs) Bool.false_ne_true
 |str i=>
  obtain⟨t,rfl⟩:=rx
  cases y with
  |non=>cases ry;exact PySem.EqNone.ne_str_none (fin_bl I q (by simp))
  |bl j=>cases ry;exact PySem.EqMixed.ne_str_bool (fin_bl I q (by simp))
  |int j=>obtain⟨t',rfl⟩:=ry;exact PySem.EqMixed.ne_str_int (fin_bl I q (by simp))
  |str j=>obtain⟨t',rfl⟩:=ry;exact ne_str (fin_bl I q (congrArg not dec_str))
  |_=>exact absurd (show false=true from hs) Bool.false_ne_true
 |byt i=>
  obtain⟨t,rfl⟩:=rx
  cases y with
  |byt j=>obtain⟨t',rfl⟩:=ry;exact PySem.W.ne_bytes (fin_bl I q (congrArg not dec_byt))
  |_=>exact absurd (show false=true from hs) Bool.false_ne_true
 |_=>cases y<;>exact absurd (show false=true from hs) Bool.false_ne_true
theorem op_lt:OpR X (compareOp .Lt) (rI0 fun i j=>.bl (decide (i<j))):=opB0 fun _ _ _ _ _ _ _ q=>lt_int q
theorem op_le:OpR X (compareOp .LtE) (rI0 fun i j=>.bl (decide (i≤j))):=opB0 fun _ _ _ _ _ _ _ q=>le_int q
theorem op_gt:OpR X (compareOp .Gt) (rI0 fun i j=>.bl (decide (j<i))):=opB0 fun _ _ _ _ _ _ _ q=>gt_int q
theorem op_ge:OpR X (compareOp .GtE) (rI0 fun i j=>.bl (decide (j≤i))):=opB0 fun _ _ _ _ _ _ _ q=>ge_int q
theorem nomark (b:Expr){op:CmpOp}(h:op≠.In:=by decide)(h2:op≠.NotIn:=by decide):behindInMarks op b=false:=by
 have e1:(op==CmpOp.In)=false:=by cases op<;>first | rfl | exact absurd rfl h
 have e2:(op==CmpOp.NotIn)=false:=by cases op<;>first | rfl | exact absurd rfl h2
 cases b<;>simp[behindInMarks,e1,e2]
theorem pe_cmpR {op:CmpOp}{r:R2}(ho:OpR X (compareOp op) r)(ha:PE X a ta)(hb:PE X b tb)(hm:behindInMarks op b=false):PE X (.Compare a [op] [b] pos) (tOp r ta tb):=by
 intro pins s σ H Q I h
 exact wpAny_Compare1 (binT ha hb I h fun v u s2 x y H2 I2 rx ry q=>ho pins s2 σ H2 x y v u Q I2 rx ry q) hm
def tTest (t:TE):TT:=fun σ H Q=>t σ H fun x H'=>∃k,x=.bl k∧Q k H'
theorem pt_cmpR {op:CmpOp}{r:R2}(ho:OpR X (compareOp op) r)(ha:PE X a ta)(hb:PE X b tb)(hm:behindInMarks op b=false):PT X (.Compare a [op] [b] pos) (tTest (tOp r ta tb)):=by
 intro pins s σ H Q I h
 refine wpAny_isTrue_Compare1 (thn (ha pins s σ H _ I h) fun v s1 ⟨x,H1,I1,r1,q1⟩=>thn (hb pins s1 σ H1 _ I1 q1) fun u s2 ⟨y,H2,I2,r2,q2⟩=>
  thn (ho pins s2 σ H2 x y v u _ I2 r1 r2 q2) fun c s3 ⟨z,H3,I3,r3,k,e,q3⟩=>?_) hm
 subst e
 cases r3
 exact wpAny_truthy_bool ⟨H3,I3,q3⟩
def tChain (r r':R2)(ta tb tc:TE):TE:=fun σ H Q=>ta σ H fun x H1=>tb σ H1 fun y H2=>r x y H2 fun z H3=>∃k,z=.bl k∧
 (if k=true then tc σ H3 fun w' H4=>r' y w' H4 Q else Q (.bl false) H3)
theorem pe_chain {op op':CmpOp}{r r':R2}(ho:OpR X (compareOp op) r)(ho':OpR X (compareOp op') r')(ha:PE X a ta)(hb:PE X b tb)(hc:PE X c tc)
 (hm:lastMarks [op,op'] [b,c]=false:=by with_unfolding_all rfl):PE X (.Compare a [op,op'] [b,c] pos) (tChain r r' ta tb tc):=by
 intro pins s σ H Q I h
 refine Compare_chain (thn (ha pins s σ H _ I h) fun v s1 ⟨x,H1,I1,r1,q1⟩=>chain_link (thn (hb pins s1 σ H1 _ I1 q1) fun u s2 ⟨y,H2,I2,r2,q2⟩=>
  thn (ho pins s2 σ H2 x y v u _ I2 r1 r2 q2) fun d s3 ⟨z,H3,I3,r3,k,e,q3⟩=>?_)) hm
 subst e
 cases r3
 refine wpAny_truthy_bool ?_
 cases k with
 |false=>exact ite_ff ⟨.bl false,H3,I3,rfl,q3⟩
 |true=>exact ite_tt (chain_last (thn (hc pins s3 σ H3 _ I3 q3) fun w' s4 ⟨z',H4,I4,r4,q4⟩=>ho' pins s4 σ H4 y z' u w' Q I4 r2 r4 q4))
def TruV (K:W.Frag)(x:V)(H:Hp)(k:Bool):Prop:=
 match x with
 | .non=>k=false
 | .bl b=>k=b
 | .int i=>k=(i !=0)
 | .str y=>y.length≤sizeLine∧k=((y.length:Int) !=0)
 | .byt y=>y.size≤sizeLine∧k=((y.size:Int) !=0)
 | .ref p=>(∃xs,SqL K H p xs∧k=!xs.isEmpty)∨(∃xs,SqT K H p xs∧k=!xs.isEmpty)∨∃kvs,H p=some (.dK kvs)∧k=!kvs.isEmpty
 |_=>False
theorem isEmpty_kv {κ:Type}{kvs:List (κ×V)}{vs:List (κ×Value)}(r:KV kvs vs):(!vs.isEmpty)=!kvs.isEmpty:=by
 cases r<;>rfl
theorem isEmpty_of {xs:List V}{its:List Value}(r:Vals xs its):(!its.toArray.isEmpty)=!xs.isEmpty:=by
 cases r<;>simp
theorem line63:(sizeLine:Nat)<2^63:=by rw[sizeLine_eq];decide
theorem tru_ok:TruR X (fun x H Q=>∃k,TruV X.K x H k∧Q k H):=by
 intro pins s σ H x v Q I rx h
 obtain⟨k,e,q⟩:=h
 have hl:=line63
 have hs:sizeLine=16777216:=sizeLine_eq
 cases x with
 |non=>
  cases rx
  have e':k=false:=e
  subst e'
  exact truthy_none ⟨H,I,q⟩
 |bl b=>
  cases rx
  have e':k=b:=e
  subst e'
  exact wpAny_truthy_bool ⟨H,I,q⟩
 |int i=>
  obtain⟨t,rfl⟩:=rx
  have e':k=(i !=0):=e
  subst e'
  exact PySem.P.truthy_int ⟨H,I,q⟩
 |str y=>
  obtain⟨t,rfl⟩:=rx
  obtain⟨hy,e'⟩:y.length≤sizeLine∧k=((y.length:Int) !=0):=e
  subst e'
  exact PySem.P.truthy_str (by omega) ⟨H,I.tok _,q⟩
 |byt y=>
  obtain⟨t,rfl⟩:=rx
  obtain⟨hy,e'⟩:y.size≤sizeLine∧k=((y.size:Int) !=0):=e
  subst e'
  exact PySem.W.truthy_bytes (by omega) ⟨H,I.tok _,q⟩
 |ref p=>
  cases rx
  have e':(∃xs,SqL X.K H p xs∧k=!xs.isEmpty)∨(∃xs,SqT X.K H p xs∧k=!xs.isEmpty)∨∃kvs,H p=some (.dK kvs)∧k=!kvs.isEmpty:=e
  rcases e' with⟨xs,hx,e'⟩ | ⟨xs,hx,e'⟩ | ⟨kvs,hx,e'⟩
  ·subst e'
   obtain⟨its,r,pl,hz⟩:=I.list hx
   have hlen:=r.length
   exact wpAny_truthy_list pl.isList (by simp only[size_toArray];omega) ⟨H,I.tok _,by rw[isEmpty_of r];exact q⟩
  ·subst e'
   obtain⟨its,r,pl,hz⟩:=I.tuple hx
   have hlen:=r.length
   exact truthy_tuple pl (by simp only[size_toArray];omega) ⟨H,I.tok _,by rw[isEmpty_of r];exact q⟩
  ·subst e'
   obtain⟨hz,hS,vs,r,m⟩:kvs.length≤sizeLine∧(p==sysModules)=false∧∃vs,KV kvs vs∧s.heap.DictOf (mixKind X.prog X.w) p vs:=I.hok p _ hx
   have hlen:kvs.length=vs.length:=Paired.length r
   exact wpAny_truthy_dict hS m (by omega) ⟨H,I.tok _,by rw[isEmpty_kv r];exact q⟩
 |_=>exact(show False from e).elim
theorem pt_truth (ha:PE X a ta)(he:∀whole,isTrue a X.env whole=(do let v ←whole;standAt a.pos;holding [v] (truthy v))) :
 PT X a (fun σ H Q=>ta σ H fun x H'=>∃k,TruV X.K x H' k∧Q k H'):=by
 intro pins s σ H Q I h
 exact isTrue_plain (thn (ha pins s σ H _ I h) fun v s1 ⟨x,H1,I1,r1,q1⟩=>tru_ok pins s1 σ H1 x v Q I1 r1 q1) (he _)
theorem vals1 {x:V}{us:List Value}(r:Vals [x] us):∃u,us=[u]∧RelV x u:=by
 cases r with
 |cons r1 r2=>cases r2;exact⟨_,rfl,r1⟩
theorem vals2 {x y:V}{us:List Value}(r:Vals [x,y] us):∃u w',us=[u,w']∧RelV x u∧RelV y w':=by
 cases r with
 |cons r1 r2=>
  cases r2 with
  |cons r3 r4=>cases r4;exact⟨_,_,rfl,r1,r3⟩
theorem call_max2 (hc:X.calm=true):CallR X (.builtin "max") (fun xs H Q=>∃i j,xs=[.int i,.int j]∧Q (.int (if j>i then j else i)) H):=by
 intro pins s σ H xs us Q I r h
 obtain⟨i,j,rfl,q⟩:=h
 obtain⟨u,w',rfl,⟨t,rfl⟩,⟨t',rfl⟩⟩:=vals2 r
 refine max_two_ints (I.ok.hd hc) fun h' tk k=>⟨_,H,I.kept k,?_,q⟩
 by_cases hj:j>i
 ·rw[if_pos hj,if_pos hj];exact⟨_,rfl⟩
 ·rw[if_neg hj,if_neg hj];exact⟨_,rfl⟩
theorem call_min2 (hc:X.calm=true):CallR X (.builtin "min") (fun xs H Q=>∃i j,xs=[.int i,.int j]∧Q (.int (if j<i then j else i)) H):=by
 intro pins s σ H xs us Q I r h
 obtain⟨i,j,rfl,q⟩:=h
 obtain⟨u,w',rfl,⟨t,rfl⟩,⟨t',rfl⟩⟩:=vals2 r
 refine min_two_ints (I.ok.hd hc) fun h' tk k=>⟨_,H,I.kept k,?_,q⟩
 by_cases hj:j<i
 ·rw[if_pos hj,if_pos hj];exact⟨_,rfl⟩
 ·rw[if_neg hj,if_neg hj];exact⟨_,rfl⟩
end
structure ObjM (h:Heap)(x dx C:Addr)(mA:Str→Option Value):Prop where
 obj:h.get? x=some (PySem.W.instObj C dx)
 ns:h.Ns1 dx mA
 ne:dx≠x
theorem lookIn_ns {h:Heap}{dx:Addr}{mA:Str→Option Value}(n:h.Ns1 dx mA):∃od,h.get? dx=some od∧∀name,PySem.W.lookIn name od=some (mA name):=by
 obtain⟨o,es,ep,ho,hd,hk,_,hm⟩:=n
 refine⟨o,ho,fun name=>?_⟩
 have e:=hm name
 unfold nsFind findBy at e
 rw[←Array.find?_toList]at e
 unfold PySem.W.lookIn
 rw[hd]
 dsimp only
 split
 ·rename_i y q
  rw[q]at e
  exact congrArg some e
 ·rename_i q
  rw[q]at e
  have a:es.toList.any (·.refKey)=false:=by
   rw[List.any_eq_false]
   intro y hy
   obtain⟨z,t,hkey⟩:=hk y (Array.mem_toList_iff.mp hy)
   simp[DictEntry.refKey,hkey]
  have a':¬es.toList.any (·.refKey)=true:=by rw[a];exact Bool.false_ne_true
  rw[if_neg a']
  exact congrArg some e
theorem ObjM.look {h:Heap}{x dx C:Addr}{mA:Str→Option Value}(I:ObjM h x dx C mA):∃od,PySem.W.InstAt h x (PySem.W.instObj C dx) C (some od)∧∀name,PySem.W.lookIn name od=some (mA name):=
 let⟨od,ho,hl⟩:=lookIn_ns I.ns
 ⟨od,⟨I.obj,rfl,rfl,ho⟩,hl⟩
theorem RelO.some_of {v:V}{o:Option Value}(r:RelO (some v) o):∃u,o=some u∧RelV v u:=by
 cases o with
 |none=>exact(show False from r).elim
 |some u=>exact⟨u,rfl,r⟩
section
variable {P:Program}{w:World}{H H':Hp}{h h':Heap}{a C dx:Addr}{fs fs':List (Str×V)}
theorem ins_get (hok:HOk P w H h)(e:H a=some (.ins C dx fs)):∃mA,ObjM h a dx C mA∧(∀f,RelO (fs.lookup f) (mA f))∧PySem.Within mA (fs.map (·.1))∧fs.length≤1000∧H dx=some (.own a):=by
 obtain⟨d,z,ne,ob,mA,n,r,q⟩:=(show ObjOk P w H h a (.ins C dx fs) from hok a _ e)
 exact⟨mA,⟨ob,n,ne⟩,r,q,z,d⟩
end
structure Cls (K:W.Frag)(C:Addr):Prop where
 pg:PySem.W.plainGet K C Str.empty=true
 hd:PySem.W.hasDictIn K C=true
 po:PySem.W.plainOver K C=true
 sa:PySem.W.findIn K (.ref C) "__setattr__" = some (some (.builtin "object.__setattr__"))
theorem Cls.get {K:W.Frag}{C:Addr}(c:Cls K C)(f:Str):PySem.W.plainGet K C f=true:=c.pg
section
variable {X:Cx}{pins:List (Addr×Obj)}{σ:St}{H:Hp}{s:Shared}{A:Around}{E:Value→Shared→Prop}{Q:Value→Shared→Prop}{c:Value}{b:Bool}
inductive TyOf (K:W.Frag) (H:Hp):V→Value→Prop where
 |non:TyOf K H .non (.type "NoneType")
 |bl (x:Bool):TyOf K H (.bl x) (.type "bool")
 |int (i:Int):TyOf K H (.int i) (.type "int")
 |str (x:Str):TyOf K H (.str x) (.type "str")
 |flt (x:UInt64):TyOf K H (.flt x) (.type "float")
 |lst {a:Addr} {xs:List V} (e:H a=some (.lst xs)):TyOf K H (.ref a) (.type "list")
 |frz {a:Addr} {o:Obj} {xs:List V} (e:H a=some (.frz o (.lst xs))):TyOf K H (.ref a) (.type "list")
 |tup {a:Addr} {xs:List V} (e:H a=some (.tup xs)):TyOf K H (.ref a) (.type "tuple")
 |dK {a:Addr} {kvs:List (Key×V)} (e:H a=some (.dK kvs)):TyOf K H (.ref a) (.type "dict")
 |dT {a:Addr} {kvs:List (List Key×V)} (e:H a=some (.dT kvs)):TyOf K H (.ref a) (.type "dict")
 |ins {a C dx:Addr} {fs:List (Str×V)} (e:H a=some (.ins C dx fs)) (cl:Cls K C) (ha:PySem.W.findIn K (.ref C) "__class__" = some (some (.builtin "object.__class__")))
  (hn:PySem.W.specialIn K (.builtin "object.__class__") "__get__" = some (some (.builtin "getset_descriptor.__get__"))) (htk:PySem.W.takesIn K (.builtin "object.__class__")=some true)
  (hm:PySem.W.mroIn K C (.type "object")=some true):TyOf K H (.ref a) (.ref C)
theorem isinst_ok {x:V}{u t:Value}(I:Inv X pins σ H s)(rx:RelV x u)(ty:TyOf X.K H x t)(e:PySem.W.kitOne X.K t c=some b)(h:∀tk,Q (.bool b) {s with toks:=tk}) :
 wpAny (model X.prog X.w) A (call (.builtin "isinstance") [u,c]) Q E s:=by
 cases ty with
 |non=>cases(show u=Value.none from rx);exact PySem.W.kia_one PySem.W.kitx_none I.kIn True.intro e (fun z=>nomatch z) h
 |bl y=>cases(show u=Value.bool y from rx);exact PySem.W.kia_one PySem.W.kitx_bool I.kIn True.intro e (fun z=>nomatch z) h
 |int i=>obtain⟨t,q⟩:=(show ∃t,u=Value.int i t from rx);cases q;exact PySem.W.kia_one PySem.W.kitx_int I.kIn True.intro e (fun z=>nomatch z) h
 |str y=>obtain⟨t,q⟩:=(show ∃t,u=Value.str y t from rx);cases q;exact PySem.W.kia_one PySem.W.kitx_str I.kIn True.intro e (fun z=>nomatch z) h
 |flt y=>obtain⟨t,q⟩:=(show ∃t,u=Value.float y t from rx);cases q;exact PySem.W.kia_one PySem.W.kitx_float I.kIn True.intro e (fun z=>nomatch z) h
 | @lst a xs ea=>
   cases(show u=Value.ref a from rx)
   obtain⟨_,_,n,_,h1⟩:=(show ObjOk X.prog X.w H s.heap a (.lst xs) from I.hok a _ ea)
   exact PySem.W.kia_one PySem.W.kitx_list I.kIn ⟨_,h1,rfl⟩ e (fun z=>nomatch z) h
 | @frz a ob xs ea=>
   cases(show u=Value.ref a from rx)
   obtain⟨_,_,_,n,_,h1⟩:=(show ObjOk X.prog X.w H s.heap a (.frz ob (.lst xs)) from I.hok a _ ea)
   exact PySem.W.kia_one PySem.W.kitx_list I.kIn ⟨_,h1,rfl⟩ e (fun z=>nomatch z) h
 | @tup a xs ea=>
   cases(show u=Value.ref a from rx)
   obtain⟨_,_,_,p⟩:=(show ObjOk X.prog X.w H s.heap a (.tup xs) from I.hok a _ ea)
   obtain⟨o,h1,h2,_⟩:=p
   exact PySem.W.kia_one PySem.W.kitx_tuple I.kIn ⟨o,h1,h2⟩ e (fun z=>nomatch z) h
 | @dK a kvs ea=>
   cases(show u=Value.ref a from rx)
   obtain⟨_,_,vs,_,p⟩:=(show ObjOk X.prog X.w H s.heap a (.dK kvs) from I.hok a _ ea)
   obtain⟨o,es,ep,h1,h2,_⟩:=p
   exact PySem.W.kia_one PySem.W.kitx_dict I.kIn ⟨o,h1,h2.1⟩ e (fun z=>nomatch z) h
 | @dT a kvs ea=>
   cases(show u=Value.ref a from rx)
   obtain⟨_,_,xs,_,o,es,ep,h1,h2,_⟩:=(show ObjOk X.prog X.w H s.heap a (.dT kvs) from I.hok a _ ea)
   exact PySem.W.kia_one PySem.W.kitx_dict I.kIn ⟨o,h1,h2.1⟩ e (fun z=>nomatch z) h
 | @ins a C dx fs ea cl ha hn htk hm=>
   cases(show u=Value.ref a from rx)
   obtain⟨mA,O,_⟩:=ins_get I.hok ea
   obtain⟨od,J,_⟩:=O.look
   exact PySem.W.kia_one (PySem.W.kitx_own (cl.get _) cl.hd ha hn htk hm) I.kIn J e (fun z=>nomatch z) h
end
structure Room (k:Nat)(A:Around):Prop where
 hd:A.handled=none
 dp:A.depth+3*k+5<recursionLimit
 un:A.units+16*k+200<cLine
theorem Room.mono {j k:Nat}{A:Around}(r:Room k A)(h:j≤k):Room j A:=⟨r.hd,by have:=r.dp;omega,by have:=r.un;omega⟩
theorem Room.deeper {k:Nat}{A:Around}(r:Room (k+1) A)(env:Env):Room k (A.deeper env):=
 ⟨r.hd,by have:=r.dp;show A.depth+1+3*k+5<_;omega,by have:=r.un;show A.units+3+16*k+200<_;omega⟩
theorem Room.depth {k:Nat}{A:Around}(r:Room k A):A.depth<recursionLimit:=by have:=r.dp;omega
theorem Room.units {k:Nat}{A:Around}(r:Room k A):A.units+64<cLine:=by have:=r.un;omega
theorem Room.units0 {k:Nat}{A:Around}(r:Room k A):A.units<cLine:=by have:=r.un;omega
def tNil:TA:=fun _ H Q=>Q [] H
def tCons (ta:TE)(tr:TA):TA:=fun σ H Q=>ta σ H fun x H1=>tr σ H1 fun xs H2=>Q (x::xs) H2
section
variable {X:Cx}{e:Expr}{es:List Expr}{te:TE}{t:TA}{pos:Pos}
theorem pa_nil:PA X [] tNil:=fun _ _ _ _ H Q I h=>spliced_nil ⟨[],H,I,.nil,h⟩
theorem pa_cons (ha:PE X e te)(hr:PA X es t)(hs:starEach (e::es) X.env=(false,eval e X.env)::starEach es X.env:=by rfl):PA X (e::es) (tCons te t):=by
 intro pos pins s σ H Q I h
 rw[hs]
 show wpAny _ _ (spliced ((false,eval e X.env)::backTo pos (starEach es X.env))) _ _ s
 refine spliced_cons (thn (ha pins s σ H _ I h) fun u s1 ⟨x,H1,I1,r1,q1⟩=>?_)
 exact thn (hr pos pins s1 σ H1 _ I1 q1) fun us s2 ⟨xs,H2,I2,r2,q2⟩=>⟨x::xs,H2,I2,.cons r1 r2,q2⟩
def tTup (t:TA):TE:=fun σ H Q=>t σ H fun xs H1=>xs.length≤sizeLine∧∀p,H1 p=none→Q (.ref p) (upd H1 p (.tup xs))
def tLst (t:TA):TE:=fun σ H Q=>t σ H fun xs H1=>xs.length≤sizeLine∧∀p,H1 p=none→Q (.ref p) (upd H1 p (.lst xs))
theorem pe_tup {x1}(h:PA X es t):PE X (.Tuple es x1 pos) (tTup t):=by
 intro pins s σ H Q I hq
 refine wpAny_Tuple_spliced (thn (h pos pins s σ H _ I hq) fun us s1 ⟨xs,H1,I1,r,z,q⟩=>⟨by rw[←r.length];exact z,?_⟩)
 have hf:H1 s1.heap.objs.size=none:=I1.hok.fresh (Nat.le_refl _)
 refine⟨.ref s1.heap.objs.size,upd H1 s1.heap.objs.size (.tup xs),I1.laid (t':=s1.toks) (fun b u e=>get?_push_of_some _ e) (Nat.le_refl _) ?_,rfl,q _ hf⟩
 exact⟨z,us,r,⟨_,get?_push_size _ rfl,rfl,_,rfl⟩⟩
theorem pe_lst (h:PA X es t):PE X (.List es pos) (tLst t):=by
 intro pins s σ H Q I hq
 refine wpAny_List_spliced (thn (h pos pins s σ H _ I hq) fun us s1 ⟨xs,H1,I1,r,z,q⟩=>⟨by rw[←r.length];exact z,?_⟩)
 have hf:H1 s1.heap.objs.size=none:=I1.hok.fresh (Nat.le_refl _)
 refine⟨.ref s1.heap.objs.size,upd H1 s1.heap.objs.size (.lst xs),I1.laid (t':=s1.toks) (fun b u e=>get?_push_of_some _ e) (Nat.le_refl _) ?_,rfl,q _ hf⟩
 exact⟨z,us,0,r,get?_push_size _ rfl⟩
end
abbrev Sp:=List V→Hp→VK→XK→Prop
abbrev CXT:=List Env→Hp→Shared→XK→Value→Shared→Prop
structure Env0 (P:Program)(w:World)(K:W.Frag)(mg:Str→Option Value)(base:Heap)(A:Around)(outer:List Env)(s:Shared)(H:Hp):Prop where
 frames:A.frames=some outer
 mod:Mod K mg base
 bs:∀b o,base.get? b=some o→s.heap.get? b=some o∧H b=none
 bsz:base.objs.size≤s.heap.objs.size
 funs:s.heap.FunFrames base outer
 frf:∀b∈frs outer,H b=none
 hok:HOk P w H s.heap
 bare:AllBare s.gens
def CE (outer:List Env)(P:Program)(w:World)(H:Hp)(s:Shared)(Q:VK)(u:Value)(s':Shared):Prop:=
 ∃v H',s'.os=s.os∧AllBare s'.gens∧Un (frs outer) [] H H' s.heap s'.heap∧HOk P w H' s'.heap∧RelV v u∧Q v H'
def CR (CX:CXT)(outer:List Env)(P:Program)(w:World)(H:Hp)(s:Shared)(Q:VK)(E:XK)(r:Result)(s':Shared):Prop:=
 match r with
 | .ok (.ret u)=>CE outer P w H s Q u s'
 | .ok _=>False
 | .error e=>CX outer H s E e s'
structure FnOk (P:Program)(w:World)(K:W.Frag)(mg:Str→Option Value)(base:Heap)(CX:CXT)(k:Nat)(f:Addr)(fd:FuncData)(ps:List Str)(sp:Sp):Prop where
 len:∀vs H Q E,sp vs H Q E→vs.length=ps.length
 run:∀(A:Around) (outer:List Env) (s:Shared) (H:Hp) (args:Args) (us:List Value) (vs:List V) (Q:VK) (E:XK),Room k A→Env0 P w K mg base A outer s H→BindsTo s fd args (ps.zip us)→Vals vs us→sp vs H Q E→
  codeAny (model P w) A (.call (.ref f) args) (CR CX outer P w H s Q E) s
section
variable {X:Cx}{pins:List (Addr×Obj)}{σ:St}{H:Hp}{s s':Shared}
theorem Inv.env0 (I:Inv X pins σ H s):Env0 X.prog X.w X.K X.mg X.base X.A X.stack s H:=
 ⟨I.ok.frames,I.ok.mod,I.bs,Nat.le_trans I.ok.bsz I.sz,I.stack,I.stkFree,I.hok,I.bare⟩
theorem Inv.after {Q:VK}{u:Value}(I:Inv X pins σ H s)(h:CE X.stack X.prog X.w H s Q u s'):EP X pins σ Q u s':=by
 obtain⟨v,H',os,bare,un,hok,r,q⟩:=h
 obtain⟨hh,g,d,t,os'⟩:=s'
 obtain rfl:os'=s.os:=os
 exact⟨v,H',I.call (h':=hh) (g':=g) (d':=d) (t':=t) (ch:=[]) un hok bare (fun b z=>absurd z (by simp)),r,q⟩
end
def tCall (sp:Sp)(dvs:List V)(E:XK)(t:TA):TE:=fun σ H Q=>t σ H fun vs H1=>sp (vs++dvs) H1 Q E
def Binds (K:W.Frag)(fd:FuncData)(ps:List Str)(ds:List Value):Prop:=
 ∀(s:Shared) (us:List Value),K.In s.heap→(us++ds).length=ps.length→BindsTo s fd ⟨us,[]⟩ (ps.zip (us++ds))
theorem Binds.all {K:W.Frag}{fd:FuncData}{ps:List Str}(h:∀us:List Value,us.length=ps.length→bindArgs fd ⟨us,[]⟩=pure (ps.zip us)):Binds K fd ps []:=fun s us _ hl=>by
 rw[append_nil]at hl ⊢
 exact .of_eq (h us hl)
def Passes (CX:CXT)(X:Cx)(E:XK):Prop:=∀(pins:List (Addr×Obj)) (σ:St) (H:Hp) (s:Shared) (e:Value) (s':Shared),Inv X pins σ H s→CX X.stack H s E e s'→X.xe e s'
section
variable {X:Cx}{CX:CXT}{k:Nat}{f C:Addr}{fd:FuncData}{ps:List Str}{sp:Sp}{dvs:List V}{ds:List Value}{E:XK}{x m:Str}{p pos apos:Pos}{e o:Expr}{es:List Expr}{ta:TE}{t:TA}
theorem run_fn {pins:List (Addr×Obj)}{σ:St}{H:Hp}{s:Shared}{Q:VK}{us:List Value}{vs:List V}(F:FnOk X.prog X.w X.K X.mg X.base CX k f fd ps sp)(hr:Room k X.A)(hb:Binds X.K fd ps ds)(hd:Vals dvs ds)(hx:Passes CX X E)
 (I:Inv X pins σ H s) (r:Vals vs us) (h:sp (vs++dvs) H Q E):wpAny (model X.prog X.w) X.A (call (.ref f) us) (EP X pins σ Q) X.xe s:=by
 have r2:Vals (vs++dvs) (us++ds):=r.append hd
 have hl:(us++ds).length=ps.length:=by rw[←r2.length];exact F.len _ _ _ _ h
 refine wpAny_call (codeAny_mono (F.run X.A X.stack s H ⟨us,[]⟩ (us++ds) (vs++dvs) Q E hr I.env0 (hb s us I.kIn hl) r2 h) fun r s' hq=>?_)
 cases r with
 |error e=>exact hx pins σ H s e s' I hq
 |ok fl=>
  cases fl with
  |ret u=>exact I.after hq
  |next=>exact False.elim hq
  |brk=>exact False.elim hq
  |cont=>exact False.elim hq
theorem pe_call (F:FnOk X.prog X.w X.K X.mg X.base CX k f fd ps sp)(hr:Room k X.A)(hg:Gl X x)(hm:X.mg x=some (.ref f))(hk:PySem.W.keepIn X.K (.ref f)=true)(hb:Binds X.K fd ps ds)(hd:Vals dvs ds)(hx:Passes CX X E)
 (ha:PA X (e::es) t) (hdb:(x==("__debug__" : Str))=false:=by decide) (he:starEach (e::es) X.env=(false,eval e X.env)::starEach es X.env:=by rfl) (hpl:(backTo pos (starEach es X.env)).any (·.1)=false:=by rfl) :
 PE X (.Call (.Name x p) (e::es) [] pos) (tCall sp dvs E t):=by
 intro pins s σ H Q I h
 refine wpAny_Call_Name_kw (ld_glob I hg hm ?_ hdb)
 refine PySem.W.callWith_K (h₀:=X.base) I.ok.mod.kin hk (thn (ha pos pins s σ H _ I h) fun us s1 ⟨vs,H1,I1,r,q⟩=>⟨I1.kIn,?_⟩) he hpl
 exact run_fn F hr hb hd hx I1 r q
end
structure FnScope (N P:List Str)(sc:Scope):Prop where
 kind:sc.kind=.function
 co:sc.isCoroutine=false
 gen:sc.isGenerator=false
 nd:N.Nodup
 pre:N.take P.length=P
 par:∀x∈P,sc.names.lookup x=some .local∨sc.names.lookup x=some .cell
 nofree:∀y∈sc.names,y.2≠.free
theorem bindL_out {kindOf:Str→Option NameKind}{x:Str}:∀{binds:List (Str×Value)} {m:Str→Option Value},(∀v,(x,v)∉binds)→bindL kindOf binds m x=m x
 |[],_,_=>rfl
 |(n,v)::r,m,h=>by
  unfold bindL
  rw[bindL_out fun w hw=>h w (mem_cons_of_mem _ hw)]
  split
  ·have:x≠n:=by rintro rfl;exact h v mem_cons_self
   simp[this]
  ·rfl
theorem bindC_out {kindOf:Str→Option NameKind}{x:Str}:∀{binds:List (Str×Value)} {m:Str→Option Value},(∀v,(x,v)∉binds)→bindC kindOf binds m x=m x
 |[],_,_=>rfl
 |(n,v)::r,m,h=>by
  unfold bindC
  rw[bindC_out fun w hw=>h w (mem_cons_of_mem _ hw)]
  split
  ·rfl
  ·have:x≠n:=by rintro rfl;exact h v mem_cons_self
   simp[this]
theorem bindL_get {kindOf:Str→Option NameKind}{x:Str}{v:Value}:∀{P:List Str} {vs:List Value} {i:Nat} {m:Str→Option Value},P.Nodup→P[i]?=some x→vs[i]?=some v→kindOf x=some .local→
 bindL kindOf (P.zip vs) m x=some v
 |[],_,_,_,_,h,_,_=>by simp at h
 |_::_,[],_,_,_,_,h,_=>by simp at h
 |p::P,w::vs,0,m,nd,h1,h2,hk=>by
  simp at h1 h2;subst h1;subst h2
  show bindL kindOf ((p,w)::P.zip vs) m p=_
  unfold bindL
  rw[bindL_out fun v hv=>(nodup_cons.mp nd).1 (of_mem_zip hv).1,if_pos hk]
  simp
 |p::P,w::vs,i+1,m,nd,h1,h2,hk=>by
  show bindL kindOf ((p,w)::P.zip vs) m x=_
  unfold bindL
  exact bindL_get (i:=i) (nodup_cons.mp nd).2 (by simpa using h1) (by simpa using h2) hk
theorem bindC_get {kindOf:Str→Option NameKind}{x:Str}{v:Value}:∀{P:List Str} {vs:List Value} {i:Nat} {m:Str→Option Value},P.Nodup→P[i]?=some x→vs[i]?=some v→kindOf x≠some .local→
 bindC kindOf (P.zip vs) m x=some v
 |[],_,_,_,_,h,_,_=>by simp at h
 |_::_,[],_,_,_,_,h,_=>by simp at h
 |p::P,w::vs,0,m,nd,h1,h2,hk=>by
  simp at h1 h2;subst h1;subst h2
  show bindC kindOf ((p,w)::P.zip vs) m p=_
  unfold bindC
  rw[bindC_out fun v hv=>(nodup_cons.mp nd).1 (of_mem_zip hv).1,if_neg hk]
  simp
 |p::P,w::vs,i+1,m,nd,h1,h2,hk=>by
  show bindC kindOf ((p,w)::P.zip vs) m x=_
  unfold bindC
  exact bindC_get (i:=i) (nodup_cons.mp nd).2 (by simpa using h1) (by simpa using h2) hk
def start (N:List Str)(vs:List V):St:=vs.map some++replicate (N.length - vs.length) none
def cxOf (CX:CXT)(P:Program)(w:World)(K:W.Frag)(mg:Str→Option Value)(base:Heap)(N:List Str)(qual:Str)(scope:Scope)(f:Addr)(cd:Value)(A:Around)(outer:List Env)(s:Shared)(H:Hp)(E:XK):Cx where
 prog:=P
 w:=w
 K:=K
 mg:=mg
 base:=base
 A:=A.deeper (envOfC qual scope s.heap.objs.size f cd)
 N:=N
 s₀:=s
 H₀:=H
 env:=envOfC qual scope s.heap.objs.size f cd
 outer:=outer
 stack:=envOfC qual scope s.heap.objs.size f cd::outer
 ex:=[]
 calm:=true
 fn:=fun _=>true
 pn:=[]
 xe:=fun e s'=>wpAny (model P w) (A.deeper (envOfC qual scope s.heap.objs.size f cd)) (leaving (envOfC qual scope s.heap.objs.size f cd) e) (fun _ s''=>CX outer H s E e s'') (fun e' s''=>CX outer H s E e' s'') s'
theorem cell_has {sc:Scope}{n:Nat}{x:Str}(h:sc.names.lookup x=some .cell):∃c,(cellsFrom n sc.names []).lookup x=some c:=by
 have q:=PySem.W.cellsFrom_some sc.names n [] (.inl h)
 exact Option.isSome_iff_exists.mp q
theorem inv_start {CX:CXT}{P:Program}{w:World}{K:W.Frag}{mg:Str→Option Value}{base:Heap}{N ps:List Str}{qual:Str}{scope:Scope}{f:Addr}{cd:Value}{A:Around}{outer:List Env}{s s1:Shared}{H:Hp}{E:XK}{us:List Value}{vs:List V}
 (S:FnScope N ps scope) (hd:A.handled=none) (e0:Env0 P w K mg base A outer s H) (hl:vs.length=ps.length) (r:Vals vs us)
 (x:InCallC s s.heap.objs.size (bindL (envOfC qual scope s.heap.objs.size f cd).kindOf (ps.zip us) fun _=>none) (cellsFrom (s.heap.objs.size+1) scope.names []) (bindC (envOfC qual scope s.heap.objs.size f cd).kindOf (ps.zip us) fun _=>none) s1) :
 Inv (cxOf CX P w K mg base N qual scope f cd A outer s H E) [] (start N vs) H s1:=by
 have hpl:ps.length≤N.length:=by have:=congrArg List.length S.pre;rw[length_take]at this;omega
 obtain⟨h1,tk,rfl,hk⟩:=x.done
 have noA:∀b:Addr,b∉(cxOf CX P w K mg base N qual scope f cd A outer s H E).ex:=fun b z=>absurd (show b∈([]:List Addr) from z) (by simp)
 refine⟨⟨e0.mod,S.kind,rfl,rfl,Nat.le_refl _,fun y z c h1 h2=>?_,fun y hy=>?_,fun y c _ h=>?_,fun _=>hd,Around.frames_deeper e0.frames,.inr ⟨rfl,rfl⟩,fun b z=>absurd z (noA b),e0.bs,e0.bsz,fun b _ _=>noA b,fun b z=>absurd z (noA b),e0.funs,e0.frf⟩,
  rfl,e0.bare,Un.kept hk,⟨_,x.toInCall.ns,fun i y v h1 h2 h3=>?_⟩,fun y c h=>⟨_,x.cell y c h⟩,e0.hok.fresh (Nat.le_refl _),fun y c h=>?_,fun p hp=>absurd (show p∈([]:List (Addr×Obj)) from hp) (by simp),e0.hok.kept hk,?_⟩
 ·exact name_of_addr x.apart (PySem.mem_of_lookup h1) (PySem.mem_of_lookup h2)
 ·have hy:scope.names.lookup y=some .cell∨scope.names.lookup y=some .free:=hy
  rcases hy with hy | hy
  ·exact cell_has hy
  ·exact absurd rfl (S.nofree _ (PySem.mem_of_lookup hy))
 ·exact Nat.le_of_lt (x.above y c (PySem.mem_of_lookup h))
 ·have hi:i<vs.length:=by
   unfold start at h2
   by_cases hi:i<vs.length
   ·exact hi
   ·rw[getElem?_append_right (by simpa using hi)]at h2
    rw[List.getElem?_replicate]at h2
    split at h2<;>cases h2
  have ha:vs[i]?=some v:=by
   unfold start at h2
   rw[getElem?_append_left (by simpa using hi),List.getElem?_map]at h2
   cases e:vs[i]? with
   |none=>rw[e]at h2;cases h2
   |some a=>rw[e]at h2;cases h2;rfl
  obtain⟨u,hu,rv⟩:=r.get ha
  have hp:ps[i]?=some y:=by
   rw[←S.pre,List.getElem?_take_of_lt (by omega)];exact h1
  have ndP:ps.Nodup:=by rw[←S.pre];exact S.nd.sublist (List.take_sublist _ _)
  refine⟨u,rv,?_⟩
  rcases S.par y (mem_of_getElem? hp) with k | k
  ·exact .inl ⟨k,bindL_get ndP hp hu k⟩
  ·obtain⟨c,e⟩:=cell_has (n:=s.heap.objs.size+1) k
   refine .inr ⟨.inl k,c,e,?_⟩
   have q:=x.cell y c e
   rw[bindC_get ndP hp hu (by show scope.names.lookup y≠_;rw[k];decide)]at q
   exact q
 ·exact e0.hok.fresh (Nat.le_of_lt (x.above y c (PySem.mem_of_lookup h)))
 ·unfold start
  show _=N.length
  rw[length_append,length_map,length_replicate]
  omega
theorem fn_of {CX:CXT}{P:Program}{w:World}{K:W.Frag}{mg:Str→Option Value}{base:Heap}{k:Nat}{f:Addr}{name qual:Str}{params:Arguments}{body:List Stmt}{scope:Scope}{dV kV doc pm cdv ct oc:Value}{an od:Option Addr}
 {osl:Array (Option Value)} {N ps:List Str} {sp:Sp} (lk:K.lookup f=some ⟨oc,od,.func (PySem.W.fnOf name qual params body scope dV kV doc pm an cdv ct),osl⟩) (hcd:PySem.W.codeIn K cdv qual=true) (S:FnScope N ps scope)
 (len:∀vs H Q E,sp vs H Q E→vs.length=ps.length)
 (hbody:∀(A:Around) (outer:List Env) (s:Shared) (H:Hp) (vs:List V) (Q:VK) (E:XK),Room k (A.deeper (envOfC qual scope s.heap.objs.size f cdv))→sp vs H Q E→
  ∃t,PSs (cxOf CX P w K mg base N qual scope f cdv A outer s H E) body t∧t {nx:=fun _ H'=>Q .non H',rt:=Q} (start N vs) H) :
 FnOk P w K mg base CX (k+1) f (PySem.W.fnOf name qual params body scope dV kV doc pm an cdv ct) ps sp:=by
 refine⟨len,fun A outer s H args us vs Q E hr e0 hb r hsp=>?_⟩
 have hl:=len _ _ _ _ hsp
 have KX:K.In s.heap:=e0.mod.kin.keeps fun b o e=>(e0.bs b o e).1
 have lim:s.heap.NoLimit:=e0.mod.nolimit.keeps fun b o e=>(e0.bs b o e).1
 have hkind:∀y∈ps.zip us,scope.names.lookup y.1=some .local∨(scope.names.lookup y.1=some .cell∧((cellsFrom (s.heap.objs.size+1) scope.names []).lookup y.1).isSome=true):=fun⟨n,v⟩ hy=>by
  rcases S.par n (of_mem_zip hy).1 with q | q
  ·exact .inl q
  ·exact .inr ⟨q,PySem.W.cellsFrom_some _ _ _ (.inl q)⟩
 refine codeAny_call_function hr.depth (KX _ _ lk) rfl S.co S.gen rfl (PySem.W.codeRec_of KX hcd) (hb _ _ _ _ ?_)
 refine wpAny_newFunctionEnv_cells S.kind hkind fun env he s1 x=>?_
 subst he
 refine⟨lim.keeps x.toInCall.keep,codeAny_func ?_⟩
 obtain⟨t,ht,hq⟩:=hbody A outer s H vs Q E (hr.deeper _) hsp
 have I:Inv (cxOf CX P w K mg base N qual scope f cdv A outer s H E) [] (start N vs) H s1:=inv_start S hr.hd e0 hl r x
 refine wpAny_mono (ht [] s1 (start N vs) H _ I hq) (fun fl s' hs=>?_) fun e s' hs=>hs
 have fin:∀{σ':St} {H':Hp} {v:V} {u:Value},Inv (cxOf CX P w K mg base N qual scope f cdv A outer s H E) [] σ' H' s'→RelV v u→Q v H'→CE outer P w H s Q u s':=
  fun{σ' H' v u} J rv q=>⟨v,H',J.os,J.bare,J.base,J.hok,rv,q⟩
 cases fl with
 |ret u=>
  obtain⟨v,σ',H',J,rv,q⟩:=hs
  exact fin J rv q
 |next=>
  obtain⟨σ',H',J,q⟩:=hs
  exact fin (v:=V.non) (u:=Value.none) J rfl q
 |brk=>
  obtain⟨_,_,_,q⟩:=hs
  exact False.elim q
 |cont=>
  obtain⟨_,_,_,q⟩:=hs
  exact False.elim q
section
variable {X:Cx}{x:Str}{p pos:Pos}{e:Expr}{es:List Expr}{t:TA}{id T:String}{r:List V→Hp→VK→Prop}
def tCB (r:List V→Hp→VK→Prop)(t:TA):TE:=fun σ H Q=>t σ H fun vs H1=>r vs H1 Q
theorem pe_callB (hc:CallR X (.builtin id) r)(hg:Gl X x)(hm:X.mg x=none)(hv:bootBuiltins x=some (.builtin id))(ha:PA X (e::es) t)(hn:x≠"__name__":=by decide)(hdb:(x==("__debug__" : Str))=false:=by decide)
 (he:starEach (e::es) X.env=(false,eval e X.env)::starEach es X.env:=by rfl) (hpl:(backTo pos (starEach es X.env)).any (·.1)=false:=by rfl):PE X (.Call (.Name x p) (e::es) [] pos) (tCB r t):=by
 intro pins s σ H Q I h
 refine wpAny_Call_Name_kw (ld_blt I hg hm hv ?_ hn hdb)
 exact callWith_builtin1 (thn (ha pos pins s σ H _ I h) fun us s1 ⟨vs,H1,I1,r1,q1⟩=>hc pins s1 σ H1 vs us Q I1 r1 q1) he hpl
theorem pe_callTy (hc:CallR X (.type T) r)(hg:Gl X x)(hm:X.mg x=none)(hv:bootBuiltins x=some (.type T))(ha:PA X (e::es) t)(hn:x≠"__name__":=by decide)(hdb:(x==("__debug__" : Str))=false:=by decide)
 (he:starEach (e::es) X.env=(false,eval e X.env)::starEach es X.env:=by rfl) (hpl:(backTo pos (starEach es X.env)).any (·.1)=false:=by rfl):PE X (.Call (.Name x p) (e::es) [] pos) (tCB r t):=by
 intro pins s σ H Q I h
 refine wpAny_Call_Name_kw (ld_blt I hg hm hv ?_ hn hdb)
 exact callWith_type1 (thn (ha pos pins s σ H _ I h) fun us s1 ⟨vs,H1,I1,r1,q1⟩=>hc pins s1 σ H1 vs us Q I1 r1 q1) he hpl
end
end L2
namespace HT
open PySem PyProof.Rows
def lexLt:List Int→List Int→Bool
 |[],[]=>false
 |[],_::_=>true
 |_::_,[]=>false
 |x::xs,y::ys=>if x=y then lexLt xs ys else decide (x<y)
theorem lexLt_cons (x y:Int)(xs ys:List Int):lexLt (x::xs) (y::ys)=if x=y then lexLt xs ys else decide (x<y):=rfl
theorem lexLt_nil_nil:lexLt [] []=false:=rfl
theorem lexLt_nil_cons (y:Int)(ys:List Int):lexLt [] (y::ys)=true:=rfl
theorem lexLt_cons_nil (x:Int)(xs:List Int):lexLt (x::xs) []=false:=rfl
theorem eqAt_int (A:Around)(s:Shared)(a:Int)(t:Tok)(c:Int)(u:Tok):∃e,SeqAt.EqAt A s (.int a t) (.int c u) e∧(e=true↔a=c):=
 ⟨(a==c),SeqAt.EqAt.int_int a t c u,by simp⟩
theorem rcLt_int (A:Around)(s:Shared)(a:Int)(t:Tok)(c:Int)(u:Tok)(prog:Program)(w:World)(E:Value→Shared→Prop)(Q:Value→Shared→Prop)(h:Q (.bool (decide (a<c))) s) :
 wpAny (model prog w) A (richCompare .Lt (.int a t) (.int c u)) Q E s:=
 (lt_int h:wpAny (model prog w) A (compareOp .Lt (.int a t) (.int c u)) Q E s)
section
open PySem.SeqAt
open PySem.AutoSeq1 (wpAny_loadPart')
open PySem.MeetsSeq PySem.MeetsSeq2 PySem.MeetsSeq3
theorem tuple_lt_ints (l b:Addr)(items items2:Array Value)(n n2:Nat)(dd dd2:Option Addr)(sl sl2:Array (Option Value))(ns ms:List Int)(hi:IntsAre items.toList ns)(hj:IntsAre items2.toList ms) :
 Meets (Builtin.«tuple.__lt__» ⟨[.ref l,.ref b],[]⟩)
  (fun _ R s=>s.heap.get? l=some {cls:=.type "tuple",dict:=dd,data:=.seq items n,slots:=sl}∧s.heap.get? b=some {cls:=.type "tuple",dict:=dd2,data:=.seq items2 n2,slots:=sl2}∧
   R (.ok (.ret (.bool (lexLt ns ms)))) s):=
 .of_wp fun prog w A R s h=>by
  obtain⟨hp,g,d,tk,os⟩:=s;obtain⟨hl,hb,h⟩:=h
  have f2:=AutoSeq1.sub_tuple_tuple
  have z1:items.size=ns.length:=by rw[←hi.length];simp
  have z2:items2.size=ms.length:=by rw[←hj.length];simp
  wp_walk using wpAny_loadPart' hl,wpAny_loadPart' hb,wpAny_forIn_list _ (fun rest b s'=>b.1=none∧s'=⟨hp,g,d,tk,os⟩∧∃(vs ws:List Value) (ns' ms':List Int),rest=vs.zip ws∧
   IntsAre vs ns'∧IntsAre ws ms'∧ns'.length+items2.size=ms'.length+items.size∧R (.ok (.ret (.bool (lexLt ns' ms')))) ⟨hp,g,d,tk,os⟩) _
  case turn=>
   rintro⟨y,x⟩ rest b s' ⟨hb',rfl,vs,ws,ns',ms',hz,hvi,hwi,hlen,hR⟩
   cases hvi with
   |nil=>rw[List.zip_nil_left]at hz;cases hz
   |cons a t hvi'=>
    cases hwi with
    |nil=>rw[List.zip_nil_right]at hz;cases hz
    |cons c u hwi'=>
     rw[List.zip_cons_cons]at hz
     injection hz with hyx hrest
     injection hyx with hy hx
     subst hy hx
     rw[lexLt_cons]at hR
     simp only[length_cons]at hlen
     obtain⟨e,he,hiff⟩:=eqAt_int A.in1 ⟨hp,g,d,tk,os⟩ a t c u
     refine wpAny_bind (he prog w _ _ ?_)
     cases e with
     |true=>
      rw[if_pos (hiff.mp rfl)]at hR
      wp_walk
      exact⟨rfl,rfl,_,_,_,_,hrest,hvi',hwi',by omega,hR⟩
     |false=>
      rw[if_neg (fun q=>absurd (hiff.mpr q) Bool.false_ne_true)]at hR
      have hri:=rcLt_int A.in1 ⟨hp,g,d,tk,os⟩ a t c u prog w
      wp_walk using hri
      exact⟨_,rfl,by simpa using hR⟩
  case fin=>
   rintro⟨b1,b2⟩ s' ⟨hb',rfl,vs,ws,ns',ms',hz,hvi,hwi,hlen,hR⟩
   simp only at hb'
   subst hb'
   have hv:lexLt ns' ms'=decide (items.size<items2.size):=by
    cases hvi with
    |nil=>
     cases hwi with
     |nil=>
      simp only[length_nil]at hlen
      rw[lexLt_nil_nil]
      exact(decide_eq_false (by omega)).symm
     |cons c u hw=>
      simp only[length_nil,length_cons]at hlen
      rw[lexLt_nil_cons]
      exact(decide_eq_true (by omega)).symm
    |cons a t hv=>
     cases hwi with
     |nil=>
      simp only[length_nil,length_cons]at hlen
      rw[lexLt_cons_nil]
      exact(decide_eq_false (by omega)).symm
     |cons c u hw=>
      rw[List.zip_cons_cons]at hz
      cases hz
   rw[hv]at hR
   wp_walk
   exact⟨_,rfl,by simpa[Builtin.Tuple.tupleCompareSizes]using hR⟩
  case h=>
   exact⟨rfl,rfl,items.toList,items2.toList,ns,ms,rfl,hi,hj,by omega,h⟩
end
section
variable {prog:Program}{w:World}{A:Around}{E:Value→Shared→Prop}{s:Shared}
theorem lt_tupInts {l b:Addr}{items items2:Array Value}{ns ms:List Int}{Q:Value→Shared→Prop}(hl:IsTup s.heap l items)(hb:IsTup s.heap b items2)(hi:IntsAre items.toList ns)(hj:IntsAre items2.toList ms)
 (hu:A.units<cLine) (h:Q (.bool (lexLt ns ms)) s):wpAny (model prog w) A (compareOp .Lt (.ref l) (.ref b)) Q E s:=by
 obtain⟨⟨cls,dd,data,sl⟩,ho,hc,n,hd⟩:=id hl
 obtain⟨⟨cls2,dd2,data2,sl2⟩,ho2,hc2,n2,hd2⟩:=id hb
 simp only at hc hd hc2 hd2
 subst hc hd hc2 hd2
 exact richCompare_meets_room (op:=.Lt) ⟨_,ho,rfl⟩ ⟨_,ho2,rfl⟩ PySem.F.slot_tuple_lt PySem.F.entry_tuple_lt (PySem.F.args_tuple_lt_2 _ _) (tuple_lt_ints l b items items2 n n2 dd dd2 sl sl2 ns ms hi hj)
  ⟨ho,ho2,show Value.bool (lexLt ns ms)≠Value.notImplemented∧Q (.bool (lexLt ns ms)) s from⟨(fun x=>nomatch x),h⟩⟩ hu
theorem cat_tup {t b:Addr}{vs ws:List Value}{Q:Value→Shared→Prop}(ht:IsTup s.heap t vs.toArray)(hb:IsTup s.heap b ws.toArray)(hv:vs≠[])
 (h1:ws=[]→Q (.ref t) s) (h2:ws≠[]→Q (.ref s.heap.objs.size) {s with heap:=s.heap.push {cls:=.type "tuple",data:=.seq (vs++ws).toArray}})
 (hsz:vs.length+ws.length≤sizeLine):wpAny (model prog w) A (binaryOp .Add (.ref t) (.ref b)) Q E s:=by
 obtain⟨⟨cls,dd,data,sl⟩,ho,hc,n,hd⟩:=id ht
 obtain⟨⟨cls2,dd2,data2,sl2⟩,ho2,hc2,n2,hd2⟩:=id hb
 simp only at hc hd hc2 hd2
 subst hc hd hc2 hd2
 have e:vs.toArray++ws.toArray=(vs++ws).toArray:=by simp
 by_cases hw:ws=[]
 ·exact concat_meets ⟨_,ho,rfl⟩ ⟨_,ho2,rfl⟩ noFill_tuple_add seq_tuple_add PySem.F.slot_tuple_add PySem.F.entry_tuple_add (PySem.F.args_tuple_add_2 _ _)
   (tuple_addW1 t b vs.toArray ws.toArray n n2 dd dd2 sl sl2 (by simpa using hv) (by simp[hw])) ⟨ho,ho2,h1 hw⟩
 ·refine concat_meets ⟨_,ho,rfl⟩ ⟨_,ho2,rfl⟩ noFill_tuple_add seq_tuple_add PySem.F.slot_tuple_add PySem.F.entry_tuple_add (PySem.F.args_tuple_add_2 _ _)
   (tuple_addW2 t b vs.toArray ws.toArray n n2 dd dd2 sl sl2 (by simpa using hv) (by simpa using hw) (by rw[size_toArray,size_toArray];exact hsz)) ⟨ho,ho2,?_⟩
  rw[e]
  exact h2 hw
def sIx (n d:Nat):Option Int→Nat
 |none=>d
 |some v=>if v<0 then(v+(n:Int)).toNat else min v.toNat n
theorem sIx_none (n d:Nat):sIx n d none=d:=rfl
theorem sIx_nat (n d k:Nat):sIx n d (some (k:Int))=min k n:=by
 show(if(k:Int)<0 then((k:Int)+(n:Int)).toNat else min (k:Int).toNat n)=min k n
 rw[if_neg (by omega),Int.toNat_natCast]
theorem sIx_le (n d:Nat)(hd:d≤n)(o:Option Int):sIx n d o≤n:=by
 cases o with
 |none=>exact hd
 |some v=>
  show(if v<0 then(v+(n:Int)).toNat else min v.toNat n)≤n
  by_cases hv:v<0
  ·rw[if_pos hv];omega
  ·rw[if_neg hv];exact Nat.min_le_right _ _
theorem clip_eq (v:Int)(n d:Nat):(if v<0 then max (v+(n:Int)) 0 else min v (n:Int))=((sIx n d (some v):Nat):Int):=by
 show(if v<0 then max (v+(n:Int)) 0 else min v (n:Int))=(((if v<0 then(v+(n:Int)).toNat else min v.toNat n):Nat):Int)
 by_cases hv:v<0
 ·simp only[if_pos hv];omega
 ·simp only[if_neg hv];omega
theorem adjust_gen (lo hi:Option Int)(n:Nat):Builtin.Slice.sliceAdjust lo hi 1 (n:Int)=(((sIx n 0 lo:Nat):Int),((sIx n n hi:Nat):Int)):=by
 have h1:¬((1:Int)<0):=by omega
 unfold Builtin.Slice.sliceAdjust
 simp only[h1,if_false]
 refine Prod.ext ?_ ?_
 ·cases lo with
  |none=>rfl
  |some v=>exact clip_eq v n 0
 ·cases hi with
  |none=>rfl
  |some v=>exact clip_eq v n n
theorem places_gen (i j:Nat):Builtin.Slice.slicePlaces (i:Int) (j:Int) 1=j - i:=by
 unfold Builtin.Slice.slicePlaces
 have h1:(1:Int)>0:=by omega
 simp only[h1,if_true,Int.ediv_one]
 split<;>omega
theorem slicePart_ {v:Value}{o:Option Int}{Q:Option Int→Shared→Prop}(p:IsPart v o)(h:Q o s):wpAny (model prog w) A (Builtin.Slice.slicePartIndex v) Q E s:=by
 cases p with
 |none=>exact slicePart_none h
 |int i t=>exact slicePart_int h
theorem sliceApplied_gen {sl:Addr}{vl vu:Value}{lo hi:Option Int}{n:Nat}{Q:Int×Int×Nat→Shared→Prop}(hs:s.heap.IsSliceOf sl vl vu .none)(pl:IsPart vl lo)(pu:IsPart vu hi)
 (h:Q (((sIx n 0 lo:Nat):Int),1,sIx n n hi - sIx n 0 lo) s):wpAny (model prog w) A (Builtin.Slice.sliceApplied (.ref sl) (pure (n:Int))) Q E s:=by
 obtain⟨os,hos,hcs,hds⟩:=id hs
 unfold Builtin.Slice.sliceApplied Builtin.Slice.sliceFields
 refine wpAny_bind (wpAny_bind (wpAny_field hos hds (x:=vl) rfl (wpAny_bind (wpAny_field hos hds (x:=vu) rfl (wpAny_bind (wpAny_field hos hds (x:=.none) rfl (wpAny_pure ?_)))))))
 refine wpAny_bind (slicePart_none ?_)
 show wpAny _ _ (if((1:Int)==0)=true then _ else _) _ _ s
 rw[if_neg (by decide)]
 refine wpAny_bind (slicePart_ pl (wpAny_bind (slicePart_ pu (wpAny_bind (wpAny_pure ?_)))))
 show wpAny _ _ (match Builtin.Slice.sliceAdjust lo hi 1 (n:Int) with | (lo,hi)=>pure (lo,(1:Int),Builtin.Slice.slicePlaces lo hi 1)) _ _ s
 rw[adjust_gen lo hi n]
 show wpAny _ _ (pure (((sIx n 0 lo:Nat):Int),(1:Int),Builtin.Slice.slicePlaces ((sIx n 0 lo:Nat):Int) ((sIx n n hi:Nat):Int) 1)) _ _ s
 rw[places_gen]
 exact wpAny_pure h
theorem pick_gen (xs:Array Value)(i k:Nat):((List.range k).filterMap fun(m:Nat)=>xs[((i:Int)+(m:Int)*1).toNat]?).toArray=((xs.toList.drop i).take k).toArray:=by
 have e:(fun(m:Nat)=>xs[((i:Int)+(m:Int)*1).toNat]?)=fun m=>xs[i+m]?:=by
  funext m
  have:((i:Int)+(m:Int)*1).toNat=i+m:=by omega
  rw[this]
 rw[e]
 have:=pick_run xs i k
 rw[List.filterMap_map]at this
 have e2:((fun x=>xs[x]?)∘fun x=>i+x)=fun m=>xs[i+m]?:=rfl
 rw[e2]at this
 rw[this]
theorem getItem_tuple_cut {t sl:Addr}{items:Array Value}{vl vu:Value}{lo hi:Option Int}{Q:Value→Shared→Prop}(ht:IsTup s.heap t items)(hs:s.heap.IsSliceOf sl vl vu .none)(pl:IsPart vl lo)(pu:IsPart vu hi)
 (hw:¬(sIx items.size 0 lo=0∧sIx items.size items.size hi=items.size))
 (h:Q (.ref s.heap.objs.size) {s with heap:=s.heap.push {cls:=.type "tuple",data:=.seq ((items.toList.drop (sIx items.size 0 lo)).take (sIx items.size items.size hi - sIx items.size 0 lo)).toArray}})
 (hsz:items.size≤sizeLine):wpAny (model prog w) A (getItem (.ref t) (.ref sl)) Q E s:=by
 have htake:sizeOk (.seq ((items.toList.drop (sIx items.size 0 lo)).take (sIx items.size items.size hi - sIx items.size 0 lo)).toArray):=by
  show((items.toList.drop (sIx items.size 0 lo)).take (sIx items.size items.size hi - sIx items.size 0 lo)).toArray.size≤sizeLine
  rw[size_toArray,length_take,length_drop,length_toList]
  omega
 have hj:sIx items.size items.size hi≤items.size:=sIx_le _ _ (Nat.le_refl _) hi
 obtain⟨os,hos,hcs,hds⟩:=id hs
 have hTs:s.TypeIs (.ref sl) "slice":=⟨os,hos,hcs⟩
 unfold getItem
 try with_reducible refine wpAny_holding ?_
 first | refine wpAny_bind (wpAny_pure ?_) | skip
 refine wpAny_bind (wpAny_sequenceKey ht.typeIs (by decide) ?_)
 refine wpAny_bind (wpAny_callSpecial?_slot (name:=Str.ofString "__getitem__") ht.typeIs slot_tuple_getitem
  (wpAny_call_entry slot_tuple_getitem ht.typeIs entry_tuple_getitem ?_ (args_tuple_getitem _ _)))
 show wpAny _ _ (Builtin.Tuple.tupleItemsOf (.ref t) >>= _) _ _ s
 refine wpAny_bind (tupleItemsOf_ ht ?_)
 refine wpAny_bind (wpAny_typeOf hTs ?_)
 rw[if_pos (by decide)]
 refine wpAny_bind (sliceApplied_gen hs pl pu ?_)
 have hno:¬((((sIx items.size 0 lo:Nat):Int)==0&&(1:Int)==1&&(sIx items.size items.size hi - sIx items.size 0 lo)==items.size)=true):=by
  intro q
  rw[and_eq_true,and_eq_true]at q
  have q1:((sIx items.size 0 lo:Nat):Int)=0:=eq_of_beq q.1.1
  have q2:sIx items.size items.size hi - sIx items.size 0 lo=items.size:=eq_of_beq q.2
  exact hw ⟨by omega,by omega⟩
 show wpAny _ _ (if(((sIx items.size 0 lo:Nat):Int)==0&&(1:Int)==1&&(sIx items.size items.size hi - sIx items.size 0 lo)==items.size)=true then _ else _) _ _ s
 rw[if_neg hno,pick_gen]
 first
  |exact wpAny_bind (m:=Builtin.Tuple.tupleExact _) (wpAny_newObj_type (wpAny_pure ⟨_,rfl,wpAny_pure h⟩) htake)
  |exact wpAny_bind (m:=Builtin.Tuple.tupleExact _) (wpAny_newObj_type (wpAny_bind (wpAny_pure (wpAny_pure ⟨_,rfl,wpAny_pure h⟩))) htake)
  |exact wpAny_bind (wpAny_bind (m:=Builtin.Tuple.tupleExact _) (wpAny_newObj_type (wpAny_pure (wpAny_pure ⟨_,rfl,wpAny_pure h⟩)) htake))
  |exact wpAny_bind (wpAny_bind (m:=Builtin.Tuple.tupleExact _) (wpAny_newObj_type (wpAny_pure ⟨_,rfl,wpAny_pure h⟩) htake))
end
end HT
namespace L2
abbrev TO:=St→Hp→(Option Int→Hp→Prop)→Prop
def PO (X:Cx)(e:Option Expr)(t:TO):Prop:=
 ∀(pins:List (Addr×Obj)) (s:Shared) (σ:St) (H:Hp) (Q:Option Int→Hp→Prop),Inv X pins σ H s→t σ H Q→
  wpAny (model X.prog X.w) X.A (evalPart e X.env) (fun u s'=>∃o H',Inv X pins σ H' s'∧IsPart u o∧Q o H') X.xe s
def tNoPart:TO:=fun _ H Q=>Q none H
def tPart (t:TE):TO:=fun σ H Q=>t σ H fun x H1=>∃i,x=.int i∧Q (some i) H1
theorem intsAre_of {ns:List Int}:∀{us:List Value},Vals (ns.map V.int) us→IntsAre us ns:=by
 induction ns with
 |nil=>intro us r;rw[map_nil]at r;cases r;exact .nil
 |cons n ns ih=>
  intro us r
  rw[map_cons]at r
  cases r with
  |cons r1 r2=>
   obtain⟨t,e⟩:=r1
   subst e
   exact .cons n t (ih r2)
section
variable {X:Cx}{e:Expr}{te:TE}{lo hi:Option Expr}{tl th:TO}{pos p2:Pos}
theorem po_none:PO X none tNoPart:=by
 intro pins s σ H Q I h
 rw[evalPart_none]
 exact wpAny_pure ⟨none,H,I,.none,h⟩
theorem po_some (h:PE X e te):PO X (some e) (tPart te):=by
 intro pins s σ H Q I hw
 rw[evalPart_some]
 refine thn (h pins s σ H _ I hw) fun u s1 ⟨x,H1,I1,r1,q1⟩=>?_
 obtain⟨i,rfl,q⟩:=q1
 obtain⟨t,rfl⟩:=r1
 exact⟨some i,H1,I1,.int i t,q⟩
def SlR (X:Cx)(r:V→Option Int→Option Int→Hp→VK→Prop):Prop:=
 ∀(pins:List (Addr×Obj)) (s:Shared) (σ:St) (H:Hp) (x:V) (v vl vu:Value) (lo hi:Option Int) (sl:Addr) (Q:VK),Inv X pins σ H s→RelV x v→s.heap.IsSliceOf sl vl vu .none→IsPart vl lo→IsPart vu hi→r x lo hi H Q→
  ∃T id,typeLookup (.type T) "__getitem__" = pure (some (.builtin id))∧s.TypeIs v T∧wpAny (model X.prog X.w) X.A (getItem v (.ref sl)) (EP X pins σ Q) X.xe s
def tSl (r:V→Option Int→Option Int→Hp→VK→Prop)(te:TE)(tl th:TO):TE:=fun σ H Q=>te σ H fun x H1=>tl σ H1 fun l H2=>th σ H2 fun u H3=>r x l u H3 Q
theorem pe_slice {r:V→Option Int→Option Int→Hp→VK→Prop}(hr:SlR X r)(he:PE X e te)(hl:PO X lo tl)(hu:PO X hi th):PE X (.Subscript e (.Slice lo hi none p2) pos) (tSl r te tl th):=by
 intro pins s σ H Q I h
 refine Subscript_ (thn (he pins s σ H _ I h) fun v s1 ⟨x,H1,I1,r1,q1⟩=>?_)
 refine wpAny_Slice (thn (hl pins s1 σ H1 _ I1 q1) fun vl s2 ⟨l,H2,I2,pl,q2⟩=>thn (hu pins s2 σ H2 _ I2 q2) fun vu s3 ⟨u,H3,I3,pu,q3⟩=>?_)
 rw[evalPart_none]
 refine wpAny_pure ?_
 have I4:Inv X pins σ H3 {s3 with heap:=s3.heap.push {cls:=.type "slice",data:=.fields #[vl,vu,.none]}}:=I3.kept (t':=s3.toks) fun b ob q=>get?_push_of_some _ q
 obtain⟨T,id,hT,ht,hg⟩:=hr pins {s3 with heap:=s3.heap.push {cls:=.type "slice",data:=.fields #[vl,vu,.none]}} σ H3 x v vl vu l u s3.heap.objs.size Q I4 r1 (Heap.IsSliceOf.new ..) pl pu q3
 show wpAny (model X.prog X.w) X.A (subscriptTail e (.Slice lo hi none p2) v (.ref s3.heap.objs.size)) (EP X pins σ Q) X.xe {s3 with heap:=s3.heap.push {cls:=.type "slice",data:=.fields #[vl,vu,.none]}}
 exact tail_any (ops:=[.ref s3.heap.objs.size,v]) ht hT hg (by with_unfolding_all rfl)
def cutV (xs:List V)(lo hi:Option Int):List V:=(xs.drop (HT.sIx xs.length 0 lo)).take (HT.sIx xs.length xs.length hi - HT.sIx xs.length 0 lo)
theorem cutV_length (xs:List V)(lo hi:Option Int):(cutV xs lo hi).length≤xs.length:=by
 unfold cutV
 rw[length_take,length_drop]
 omega
def rSlT (K:W.Frag):V→Option Int→Option Int→Hp→VK→Prop:=fun x lo hi H Q=>∃a xs,x=.ref a∧SqT K H a xs∧
 ¬(HT.sIx xs.length 0 lo=0∧HT.sIx xs.length xs.length hi=xs.length)∧∀p,H p=none→Q (.ref p) (upd H p (.tup (cutV xs lo hi)))
theorem sl_tup:SlR X (rSlT X.K):=by
 intro pins s σ H x v vl vu lo hi sl Q I rx hs pl pu h
 obtain⟨a,xs,rfl,hx,hw,q⟩:=h
 cases rx
 obtain⟨its,r,ht,hz⟩:=I.tuple hx
 have hlen:its.toArray.size=xs.length:=by rw[size_toArray];exact r.length.symm
 refine⟨"tuple",_,slot_tuple_getitem.lookup,ht.typeIs,?_⟩
 refine HT.getItem_tuple_cut ht hs pl pu (by rw[hlen];exact hw) ?_ (by rw[hlen];exact hz)
 rw[hlen]
 refine⟨.ref s.heap.objs.size,_,I.laid (t':=s.toks) (o:=.tup (cutV xs lo hi)) (fun b ob q=>get?_push_of_some _ q) (Nat.le_refl _) ?_,rfl,q _ (I.hok.fresh (Nat.le_refl _))⟩
 exact⟨Nat.le_trans (cutV_length xs lo hi) hz,_,(r.drop (HT.sIx xs.length 0 lo)).take (HT.sIx xs.length xs.length hi - HT.sIx xs.length 0 lo),IsTup.new _ _⟩
end
def ixN (n:Nat)(i:Int):Option Nat:=if 0≤i then(if i<n then some i.toNat else none) else if -(n:Int)≤i then some (i+n).toNat else none
def atI {α:Type}(xs:List α)(i:Int):Option α:=(ixN xs.length i).bind fun j=>xs[j]?
theorem ixN_seq {n:Nat}{i:Int}{j:Nat}(h:ixN n i=some j):seqIndex? i n=some j∧j<n∧-(n:Int)≤i∧i<n:=by
 unfold ixN at h
 by_cases h0:0≤i
 ·rw[if_pos h0]at h
  by_cases h1:i<n
  ·rw[if_pos h1]at h
   have e:i.toNat=j:=Option.some.inj h
   exact⟨by rw[seqIndex_of h0 h1,e],by omega,by omega,h1⟩
  ·rw[if_neg h1]at h;cases h
 ·rw[if_neg h0]at h
  by_cases h1:-(n:Int)≤i
  ·rw[if_pos h1]at h
   have e:(i+n).toNat=j:=Option.some.inj h
   exact⟨by rw[seqIndex_neg (by omega) h1,e],by omega,h1,by omega⟩
  ·rw[if_neg h1]at h;cases h
theorem atI_get {α:Type}{xs:List α}{i:Int}{v:α}(h:atI xs i=some v):∃j,seqIndex? i xs.length=some j∧xs[j]?=some v∧j<xs.length∧-(xs.length:Int)≤i∧i<xs.length:=by
 unfold atI at h
 cases e:ixN xs.length i with
 |none=>rw[e]at h;cases h
 |some j=>
  rw[e]at h
  obtain⟨h1,h2,h3,h4⟩:=ixN_seq e
  exact⟨j,h1,h,h2,h3,h4⟩
theorem atI_nat {α:Type}{xs:List α}{j:Nat}{v:α}(h:xs[j]?=some v):atI xs (j:Int)=some v:=by
 have hj:j<xs.length:=(List.getElem?_eq_some_iff.mp h).1
 have e:ixN xs.length (j:Int)=some j:=by
  unfold ixN
  rw[if_pos (by omega),if_pos (by omega)];simp
 unfold atI;rw[e];exact h
def PlainIx (b:Expr):Prop:=∀o i,subscripted b false o i=operate [o,i] (getItem o i)
def IxR (X:Cx)(r:R2):Prop:=
 ∀(value slice:Expr) (pins:List (Addr×Obj)) (s:Shared) (σ:St) (H:Hp) (x y:V) (v u:Value) (Q:VK),Inv X pins σ H s→RelV x v→RelV y u→r x y H Q→
  subscripted slice false v u=operate [v,u] (getItem v u)→wpAny (model X.prog X.w) X.A (subscriptTail value slice v u) (EP X pins σ Q) X.xe s
def MtR (X:Cx)(id:String)(r:V→List V→Hp→VK→Prop):Prop:=
 ∀(pins:List (Addr×Obj)) (s:Shared) (σ:St) (H:Hp) (x:V) (xs:List V) (v:Value) (us:List Value) (Q:VK),Inv X pins σ H s→RelV x v→Vals xs us→r x xs H Q→
  wpAny (model X.prog X.w) X.A (call (.builtin id) (v::us)) (EP X pins σ Q) X.xe s
section
variable {X:Cx}{a b:Expr}{ta tb:TE}{pos:Pos}
theorem pe_ix {r:R2}(hr:IxR X r)(ha:PE X a ta)(hb:PE X b tb)(hs:PlainIx b):PE X (.Subscript a b pos) (tOp r ta tb):=by
 intro pins s σ H Q I h
 exact Subscript_ (binT ha hb I h fun v u s2 x y H2 I2 rx ry q=>hr a b pins s2 σ H2 x y v u Q I2 rx ry q (hs _ _))
def rIxL (K:W.Frag):R2:=fun x y H Q=>∃p xs i v,x=.ref p∧y=.int i∧SqL K H p xs∧atI xs i=some v∧Q v H
def rIxT (K:W.Frag):R2:=fun x y H Q=>∃p xs i v,x=.ref p∧y=.int i∧SqT K H p xs∧atI xs i=some v∧Q v H
theorem ix_list:IxR X (rIxL X.K):=by
 intro value slice pins s σ H x y v u Q I rx ry h hs
 obtain⟨p,xs,i,z,rfl,rfl,hq,he,q⟩:=h
 cases rx
 obtain⟨t,rfl⟩:=ry
 obtain⟨its,r,pl,hz⟩:=I.list hq
 obtain⟨j,h1,h2,h3,h4,h5⟩:=atI_get he
 obtain⟨w,ew,rw'⟩:=r.get h2
 have hl:=r.length
 have hn:=line63
 have fin:EP X pins σ Q w s:=⟨z,H,I,rw',q⟩
 by_cases h0:0≤i
 ·have hj:i.toNat=j:=by
   rw[seqIndex_of h0 h5]at h1
   exact Option.some.inj h1
  exact item_listR pl.isList h0 (by omega) (by rw[hj];simpa using ew) fin hs
 ·have hj:(i+(its.toArray.size:Int)).toNat=j:=by
   rw[seqIndex_neg (by omega) h4]at h1
   rw[size_toArray,←hl]
   exact Option.some.inj h1
  exact subscriptTail_builtinR (x:=w) pl.isList.typeIs slot_list_getitem.lookup
   (wpAny_getItem_list_neg (Q:=fun r s'=>r=w∧EP X pins σ Q r s') pl.isList (by omega) (by rw[size_toArray]<;>omega) (by omega) (by rw[hj];simpa using ew) ⟨rfl,fin⟩) hs
theorem ix_tup:IxR X (rIxT X.K):=by
 intro value slice pins s σ H x y v u Q I rx ry h hs
 obtain⟨p,xs,i,z,rfl,rfl,hq,he,q⟩:=h
 cases rx
 obtain⟨t,rfl⟩:=ry
 obtain⟨its,r,pl,hz⟩:=I.tuple hq
 obtain⟨j,h1,h2,h3,h4,h5⟩:=atI_get he
 obtain⟨w,ew,rw'⟩:=r.get h2
 have hl:=r.length
 have hn:=line63
 have fin:EP X pins σ Q w s:=⟨z,H,I,rw',q⟩
 exact subscriptTail_builtinR (x:=w) pl.typeIs slot_tuple_getitem.lookup
  (getItem_tuple (j:=j) (Q:=fun r s'=>r=w∧EP X pins σ Q r s') pl (by omega) (by omega) (by rw[size_toArray,←hl];exact h1) (by simpa using ew) ⟨rfl,fin⟩) hs
theorem mapSeq_set (its:List Value)(n j:Nat)(u:Value):Obj.mapSeq (·.setIfInBounds j u) {cls:=.type "list",data:=.seq its.toArray n}={cls:=.type "list",data:=.seq (its.set j u).toArray n}:=by
 simp[Obj.mapSeq]
theorem Inv.lst {pins:List (Addr×Obj)}{σ:St}{H:Hp}{s:Shared}{p:Addr}{xs:List V}(I:Inv X pins σ H s)(h:H p=some (.lst xs)) :
 ∃(its:List Value) (n:Nat),Vals xs its∧s.heap.get? p=some {cls:=.type "list",data:=.seq its.toArray n}∧xs.length≤sizeLine:=by
 obtain⟨z,its,n,r,e⟩:=I.hok p _ h
 exact⟨its,n,r,e,z⟩
theorem Inv.lstUpd {pins:List (Addr×Obj)}{σ:St}{H:Hp}{s:Shared}{p:Addr}{xs ys:List V}{its its':List Value}{n n':Nat}{f:Obj→Obj}(I:Inv X pins σ H s)(h:H p=some (.lst xs))
 (ho:s.heap.get? p=some {cls:=.type "list",data:=.seq its.toArray n}) (hf:f {cls:=.type "list",data:=.seq its.toArray n}={cls:=.type "list",data:=.seq its'.toArray n'}) (r:Vals ys its') (hz:ys.length≤sizeLine) (t:Nat) :
 Inv X pins σ (upd H p (.lst ys)) {s with heap:=s.heap.update p f,toks:=t}:=by
 have e:(s.heap.update p f).get? p=some {cls:=.type "list",data:=.seq its'.toArray n'}:=by
  rw[get?_update_self f ho (by rw[hf]<;>rfl),hf]
 refine I.write (x:=p) (e:=p) (by rw[h];trivial) (.inl rfl) (fun b u hb q=>(get?_update_other _ _ (Ne.symm hb)).trans q) ⟨_,e⟩ ?_
 exact⟨hz,its',n',r,e⟩
def rSetL:V→V→V→Hp→(Hp→Prop)→Prop:=fun o i v H Q=>∃p xs k j,o=.ref p∧i=.int k∧H p=some (.lst xs)∧ixN xs.length k=some j∧Q (upd H p (.lst (xs.set j v)))
theorem set_list:PSet X rSetL:=by
 intro pins s σ H o i v ov iv u Q I ro ri rv h
 obtain⟨p,xs,k,j,rfl,rfl,hp,hj,q⟩:=h
 cases ro
 obtain⟨t,rfl⟩:=ri
 obtain⟨its,n,r,ho,hz⟩:=I.lst hp
 obtain⟨h1,h2,h3,h4⟩:=ixN_seq hj
 have hl:=r.length
 have hn:=line63
 have I':Inv X pins σ (upd H p (.lst (xs.set j v))) {s with heap:=s.heap.update p (Obj.mapSeq (·.setIfInBounds j u))}:=
  I.lstUpd hp ho (mapSeq_set its n j u) (r.set rv j) (by rw[List.length_set];exact hz) s.toks
 by_cases h0:0≤k
 ·have hk:k.toNat=j:=by
   rw[seqIndex_of h0 h4]at h1
   exact Option.some.inj h1
  exact PySem.W.ki_setAt ho h0 (by omega) (by rw[size_toArray,←hl];exact h4) (by rw[hk];exact⟨_,I',q⟩)
 ·have hk:(k+(its.toArray.size:Int)).toNat=j:=by
   rw[seqIndex_neg (by omega) h3]at h1
   rw[size_toArray,←hl]
   exact Option.some.inj h1
  exact PySem.W.ki_setBack ho (by omega) (by rw[size_toArray,←hl];exact h3) (by omega) (by rw[hk];exact⟨_,I',q⟩)
theorem slice_bounds (lo hi:Option Int)(n:Nat):(sliceBounds lo hi none n).1=((HT.sIx n 0 lo:Nat):Int)∧(sliceBounds lo hi none n).2.1=((HT.sIx n n hi:Nat):Int)∧(sliceBounds lo hi none n).2.2=1:=by
 refine⟨?_,?_,rfl⟩
 ·cases lo with
  |none=>simp[sliceBounds,HT.sIx]
  |some i=>
   simp only[sliceBounds,HT.sIx,getD_none,show(1:Int)>0 by decide,if_true]
   by_cases h:i<0
   ·simp only[h,if_true]<;>omega
   ·simp only[h,if_false]<;>omega
 ·cases hi with
  |none=>simp[sliceBounds,HT.sIx]
  |some i=>
   simp only[sliceBounds,HT.sIx,getD_none,show(1:Int)>0 by decide,if_true]
   by_cases h:i<0
   ·simp only[h,if_true]<;>omega
   ·simp only[h,if_false]<;>omega
theorem slicePick_cut (its:List Value)(lo hi:Option Int):slicePick its.toArray lo hi none=((its.drop (HT.sIx its.length 0 lo)).take (HT.sIx its.length its.length hi - HT.sIx its.length 0 lo)).toArray:=by
 obtain⟨h1,h2,h3⟩:=slice_bounds lo hi its.toArray.size
 unfold slicePick
 rw[h1,h2,h3]
 simp only[sliceRange_one,pick_run,size_toArray]<;>rfl
def rSlL (K:W.Frag):V→Option Int→Option Int→Hp→VK→Prop:=fun x lo hi H Q=>∃a xs,x=.ref a∧SqL K H a xs∧∀p,H p=none→Q (.ref p) (upd H p (.lst (cutV xs lo hi)))
theorem sl_list:SlR X (rSlL X.K):=by
 intro pins s σ H x v vl vu lo hi sl Q I rx hs pl pu h
 obtain⟨a,xs,rfl,hx,q⟩:=h
 cases rx
 obtain⟨its,r,ht,hz⟩:=I.list hx
 have hlen:=r.length
 refine⟨"list",_,slot_list_getitem.lookup,ht.isList.typeIs,?_⟩
 refine wpAny_getItem_list_slice ht.isList hs pl pu .none (by simp) ?_ (by rw[size_toArray]<;>omega)
 rw[slicePick_cut,←hlen]
 refine⟨.ref s.heap.objs.size,_,I.laid (t':=s.toks) (o:=.lst (cutV xs lo hi)) (fun b ob q=>get?_push_of_some _ q) (Nat.le_refl _) ?_,rfl,q _ (I.hok.fresh (Nat.le_refl _))⟩
 exact⟨Nat.le_trans (cutV_length xs lo hi) hz,_,0,(r.drop (HT.sIx xs.length 0 lo)).take (HT.sIx xs.length xs.length hi - HT.sIx xs.length 0 lo),get?_push_size _ rfl⟩
def flatV:V→Bool
 | .non=>true
 | .bl _=>true
 | .int _=>true
 | .str _=>true
 |_=>false
def eqV:V→V→Bool
 | .non,.non=>true
 | .bl a,.bl b=>a==b
 | .bl a,.int b=>(if a then 1 else 0)==b
 | .int a,.bl b=>a==(if b then 1 else 0)
 | .int a,.int b=>a==b
 | .str a,.str b=>a==b
 |_,_=>false
theorem eqAt_V {A:Around}{s:Shared}{y x:V}{u v:Value}(ry:RelV y u)(rx:RelV x v)(fy:flatV y=true)(fx:flatV x=true):SeqAt.EqAt A s u v (eqV y x):=by
 cases y with
 |non=>
  cases ry
  cases x with
  |non=>cases rx;exact SeqAt.EqAt.same _
  |bl b=>cases rx;exact SeqAt.EqAt.none_bool b
  |int b=>obtain⟨t,rfl⟩:=rx;exact SeqAt.EqAt.none_int b t
  |str b=>obtain⟨t,rfl⟩:=rx;exact SeqAt.EqAt.none_str b t
  |_=>exact absurd (show false=true from fx) Bool.false_ne_true
 |bl a=>
  cases ry
  cases x with
  |non=>cases rx;exact SeqAt.EqAt.bool_none a
  |bl b=>cases rx;exact SeqAt.EqAt.bool_bool a b
  |int b=>obtain⟨t,rfl⟩:=rx;exact SeqAt.EqAt.bool_int a b t
  |str b=>obtain⟨t,rfl⟩:=rx;exact SeqAt.EqAt.bool_str a b t
  |_=>exact absurd (show false=true from fx) Bool.false_ne_true
 |int a=>
  obtain⟨t',rfl⟩:=ry
  cases x with
  |non=>cases rx;exact SeqAt.EqAt.int_none a t'
  |bl b=>cases rx;exact SeqAt.EqAt.int_bool a t' b
  |int b=>obtain⟨t,rfl⟩:=rx;exact SeqAt.EqAt.int_int a t' b t
  |str b=>obtain⟨t,rfl⟩:=rx;exact SeqAt.EqAt.int_str a t' b t
  |_=>exact absurd (show false=true from fx) Bool.false_ne_true
 |str a=>
  obtain⟨t',rfl⟩:=ry
  cases x with
  |non=>cases rx;exact SeqAt.EqAt.str_none a t'
  |bl b=>cases rx;exact SeqAt.EqAt.str_bool a t' b
  |int b=>obtain⟨t,rfl⟩:=rx;exact SeqAt.EqAt.str_int a t' b t
  |str b=>obtain⟨t,rfl⟩:=rx;exact SeqAt.EqAt.str_str a t' b t
  |_=>exact absurd (show false=true from fx) Bool.false_ne_true
 |_=>exact absurd (show false=true from fy) Bool.false_ne_true
def eqU (x:V)(u:Value):Bool:=match u with
 | .none=>eqV .non x
 | .bool b=>eqV (.bl b) x
 | .int i _=>eqV (.int i) x
 | .str z _=>eqV (.str z) x
 |_=>false
theorem eqU_of {x y:V}{u:Value}(r:RelV y u)(f:flatV y=true):eqU x u=eqV y x:=by
 cases y with
 |non=>cases r;rfl
 |bl b=>cases r;rfl
 |int i=>obtain⟨t,rfl⟩:=r;rfl
 |str z=>obtain⟨t,rfl⟩:=r;rfl
 |_=>exact absurd (show false=true from f) Bool.false_ne_true
theorem any_eqU {x:V}:∀{xs:List V} {us:List Value},Vals xs us→xs.all flatV=true→us.any (eqU x)=xs.any fun y=>eqV y x
 |_,_,.nil,_=>rfl
 |y::xs,u::us,.cons r t,f=>by
  rw[all_cons,and_eq_true]at f
  rw[any_cons,any_cons,eqU_of r f.1,any_eqU t f.2]
theorem mem_eqAt {A:Around}{s:Shared}{x:V}{v:Value}(rx:RelV x v)(fx:flatV x=true):∀{xs:List V} {us:List Value},Vals xs us→xs.all flatV=true→∀u∈us,SeqAt.EqAt A s u v (eqU x u)
 |_,_,.nil,_=>fun u hu=>by cases hu
 |y::xs,u::us,.cons r t,f=>fun u' hu=>by
  rw[all_cons,and_eq_true]at f
  rcases mem_cons.mp hu with rfl | hu
  ·rw[eqU_of r f.1];exact eqAt_V r rx f.1 fx
  ·exact mem_eqAt rx fx t f.2 u' hu
def inV (x:V)(xs:List V):Bool:=xs.any fun y=>eqV y x
def rIn (K:W.Frag)(neg:Bool):R2:=fun x y H Q=>∃p xs,y=.ref p∧(SqL K H p xs∨SqT K H p xs)∧flatV x=true∧xs.all flatV=true∧Q (.bl (if neg then !inV x xs else inV x xs)) H
theorem op_notIn_seq:OpR X (compareOp .NotIn) (rIn X.K true):=by
 intro pins s σ H x y v u Q I rx ry h
 obtain⟨p,xs,rfl,hq,fx,fs,q⟩:=h
 cases ry
 rcases hq with hq | hq
 ·obtain⟨its,r,pl,hz⟩:=I.list hq
  refine SeqAt.notIn_listAt (eqU x) pl.isList (fun w hw=>mem_eqAt rx fx r fs w (by simpa using hw)) ⟨.bl _,H,I,rfl,?_⟩
  rw[show its.toArray.any (eqU x)=its.any (eqU x) by simp,any_eqU r fs]
  exact q
 ·obtain⟨its,r,pl,hz⟩:=I.tuple hq
  refine SeqAt.notIn_tupleAt (eqU x) pl (fun w hw=>mem_eqAt rx fx r fs w (by simpa using hw)) ⟨.bl _,H,I,rfl,?_⟩
  rw[show its.toArray.any (eqU x)=its.any (eqU x) by simp,any_eqU r fs]
  exact q
theorem call_len_seq:CallR X (.builtin "len") (fun xs H Q=>∃p ys,xs=[.ref p]∧(SqL X.K H p ys∨SqT X.K H p ys)∧Q (.int ys.length) H):=by
 intro pins s σ H xs us Q I r h
 obtain⟨p,ys,rfl,hq,q⟩:=h
 obtain⟨u,rfl,rx⟩:=vals1 r
 cases rx
 have hn:=line63
 rcases hq with hq | hq
 ·obtain⟨its,r',pl,hz⟩:=I.list hq
  have hlen:=r'.length
  exact Calls.call_len_list pl.isList (by simp only[size_toArray]<;>omega) ⟨.int ys.length,H,I.tok _,⟨s.toks+1,by rw[size_toArray,hlen]⟩,q⟩
 ·obtain⟨its,r',pl,hz⟩:=I.tuple hq
  have hlen:=r'.length
  exact len_tuple pl (by simp only[size_toArray]<;>omega) ⟨.int ys.length,H,I.tok _,⟨s.toks+1,by rw[size_toArray,hlen]⟩,q⟩
theorem call_list_of:CallR X (.type "list") (fun xs H Q=>∃p ys,xs=[.ref p]∧(SqL X.K H p ys∨SqT X.K H p ys)∧∀l,H l=none→Q (.ref l) (upd H l (.lst ys))):=by
 intro pins s σ H xs us Q I r h
 obtain⟨p,ys,rfl,hq,q⟩:=h
 obtain⟨u,rfl,rx⟩:=vals1 r
 cases rx
 have fin:∀(its:List Value),Vals ys its→ys.length≤sizeLine→∀(h':Heap) (c':Nat),(∀b o',s.heap.get? b=some o'→h'.get? b=some o')→
  h'.get? s.heap.objs.size=some {cls:=.type "list",dict:=none,data:=.seq its.toArray c',slots:=#[]}→EP X pins σ Q (.ref s.heap.objs.size) {s with heap:=h'}:=fun its r' hz h' c' kp e=>
  ⟨.ref s.heap.objs.size,_,I.laid (t':=s.toks) kp (Nat.le_refl _) (show ObjOk X.prog X.w _ h' _ (.lst ys) from⟨hz,its,c',r',e⟩),rfl,q _ (I.hok.fresh (Nat.le_refl _))⟩
 rcases hq with hq | hq
 ·obtain⟨its,r',pl,hz⟩:=I.list hq
  have hlen:=r'.length
  obtain⟨o,ho,hc,n,hd⟩:=pl.isList
  exact call_list_seq p (.inl rfl) ho hc hd (fun h' c' kp e=>fin its r' hz h' c' kp e) (by simp only[size_toArray]<;>omega)
 ·obtain⟨its,r',pl,hz⟩:=I.tuple hq
  have hlen:=r'.length
  obtain⟨o,ho,hc,n,hd⟩:=pl
  exact call_list_seq p (.inr rfl) ho hc hd (fun h' c' kp e=>fin its r' hz h' c' kp e) (by simp only[size_toArray]<;>omega)
theorem call_tuple_of:CallR X (.type "tuple") (fun xs H Q=>∃p ys,xs=[.ref p]∧((SqL X.K H p ys∧∀l,H l=none→Q (.ref l) (upd H l (.tup ys)))∨(SqT X.K H p ys∧Q (.ref p) H))):=by
 intro pins s σ H xs us Q I r h
 obtain⟨p,ys,rfl,h⟩:=h
 obtain⟨u,rfl,rx⟩:=vals1 r
 cases rx
 rcases h with⟨hq,q⟩ | ⟨hq,q⟩
 ·obtain⟨its,r',pl,hz⟩:=I.list hq
  have hlen:=r'.length
  refine call_tuple_list pl.isList (fun h' kp=>?_) (by simp only[size_toArray]<;>omega)
  have I1:Inv X pins σ H {s with heap:=h'}:=I.kept (t':=s.toks) kp
  have I2:Inv X pins σ (upd H h'.objs.size (.tup ys)) {s with heap:=h'.push {cls:=.type "tuple",data:=.seq its.toArray}}:=
   I1.laid (t':=s.toks) (fun b o e=>get?_push_of_some _ e) (Nat.le_refl _) (show ObjOk X.prog X.w _ _ _ (.tup ys) from⟨hz,its,r',IsTup.new _ _⟩)
  exact⟨.ref h'.objs.size,_,I2,rfl,q _ (I1.hok.fresh (Nat.le_refl _))⟩
 ·obtain⟨its,r',pl,hz⟩:=I.tuple hq
  exact call_tuple_same pl ⟨.ref p,H,I,rfl,q⟩
def tyV (K:W.Frag)(T:String)(x:V)(H:Hp):Prop:=match x with
 | .str _=>T="str"
 | .int _=>T="int"
 | .ref p=>(T="list"∧∃xs,SqL K H p xs)∨(T="tuple"∧∃o,K.lookup p=some o∧o.cls=.type "tuple"∧o.dict=none)∨
  (T="dict"∧((∃kvs,H p=some (.dK kvs))∨∃kvs,H p=some (.dT kvs)))∨(T="set"∧∃S n,H p=some (.set S n))
 |_=>False
theorem tyV_is {pins:List (Addr×Obj)}{σ:St}{H:Hp}{s:Shared}{T:String}{x:V}{v:Value}(I:Inv X pins σ H s)(r:RelV x v)(ty:tyV X.K T x H) :
 s.TypeIs v T∧∀a,v=.ref a→∃ob,s.heap.get? a=some ob∧ob.dict=none:=by
 cases x with
 |str z=>
  obtain⟨t,rfl⟩:=r
  cases(show T="str" from ty)
  exact⟨typeIs_str s z t,fun _ e=>nomatch e⟩
 |int i=>
  obtain⟨t,rfl⟩:=r
  cases(show T="int" from ty)
  exact⟨typeIs_int s i t,fun _ e=>nomatch e⟩
 |ref p=>
  cases r
  rcases ty with⟨rfl,xs,hq⟩ | ⟨rfl,o,hk,hc,hd⟩ | ⟨rfl,hk⟩ | ⟨rfl,S,n,hk⟩
  ·obtain⟨its,_,pl,_⟩:=I.list hq
   refine⟨pl.isList.typeIs,fun a e=>?_⟩
   cases e
   obtain⟨o,n,e,c,hd,_⟩:=pl
   exact⟨o,e,hd⟩
  ·refine⟨⟨o,I.kIn p o hk,hc⟩,fun a e=>?_⟩
   cases e
   exact⟨o,I.kIn _ o hk,hd⟩
  ·have z:∃o,s.heap.get? p=some o∧o.ExactDict:=by
    rcases hk with⟨kvs,hk⟩ | ⟨kvs,hk⟩
    ·obtain⟨_,_,_,_,o,_,_,e,ex,_⟩:=I.hok p _ hk
     exact⟨o,e,ex⟩
    ·obtain⟨_,_,_,_,o,_,_,e,ex,_⟩:=I.hok p _ hk
     exact⟨o,e,ex⟩
   obtain⟨o,e,ex⟩:=z
   refine⟨⟨o,e,ex.1⟩,fun a e2=>?_⟩
   cases e2
   exact⟨o,e,ex.2.1⟩
  ·obtain⟨o,_,_,_,e,ex,_⟩:=I.hok p _ hk
   refine⟨⟨o,e,ex.1⟩,fun a e2=>?_⟩
   cases e2
   exact⟨o,e,ex.2.1⟩
 |_=>exact False.elim ty
def tBM0 (K:W.Frag)(T:String)(r:V→List V→Hp→VK→Prop)(to:TE):TE:=fun σ H Q=>to σ H fun x H1=>tyV K T x H1∧r x [] H1 Q
def tBM (K:W.Frag)(T:String)(r:V→List V→Hp→VK→Prop)(to:TE)(t:TA):TE:=fun σ H Q=>to σ H fun x H1=>tyV K T x H1∧t σ H1 fun xs H2=>r x xs H2 Q
variable {o e:Expr}{es:List Expr}{to:TE}{t:TA}{name:Str}{apos cpos:Pos}{T id:String}{r:V→List V→Hp→VK→Prop}
theorem pe_bm0 (pa:PlainAttrs T)(slot:Slot T name id)(hty:typeOf (.builtin id)=pure (.type "method_descriptor"))(hm:MtR X id r)(ho:PE X o to)
 (hbase:attributeBase o name X.env (eval o X.env)=eval o X.env:=by rfl) (hline:(apos.endLine==cpos.line)=true:=by rfl):PE X (.Call (.Attribute o name apos) [] [] cpos) (tBM0 X.K T r to):=by
 intro pins s σ H Q I h
 refine wpAny_Call_method0_late hbase hline (thn (ho pins s σ H _ I h) fun v s1 ⟨x,H1,I1,r1,ty,q1⟩=>?_)
 obtain⟨h1,h2⟩:=tyV_is I1 r1 ty
 exact⟨T,id,pa,slot,hty,h1,h2,callWith_builtin rfl (PySem.evalArgs_none (hm pins s1 σ H1 x [] v [] Q I1 r1 .nil q1))⟩
theorem pe_bm (pa:PlainAttrs T)(slot:Slot T name id)(hty:typeOf (.builtin id)=pure (.type "method_descriptor"))(hm:MtR X id r)(ho:PE X o to)(ha:PA X (e::es) t)
 (hbase:attributeBase o name X.env (eval o X.env)=eval o X.env:=by rfl)
 (hfew:((backTo cpos (starEach (e::es) X.env)).all (fun x=>!x.1)&&(backToKw cpos (keywordEach [] X.env)).all (fun x=>x.1.isSome)
  &&decide ((e::es).length+([]:List Keyword).length+(if([]:List Keyword).isEmpty then 0 else 1)<30))=true:=by rfl)
 (hline:(apos.endLine==cpos.line)=true:=by rfl) (hs:starEach (e::es) X.env=(false,eval e X.env)::starEach es X.env:=by rfl) (hplain:(backTo cpos (starEach es X.env)).any (·.1)=false:=by rfl) :
 PE X (.Call (.Attribute o name apos) (e::es) [] cpos) (tBM X.K T r to t):=by
 intro pins s σ H Q I h
 refine wpAny_Call_method_late hbase hfew hline rfl (thn (ho pins s σ H _ I h) fun v s1 ⟨x,H1,I1,r1,ty,q1⟩=>?_)
 obtain⟨h1,h2⟩:=tyV_is I1 r1 ty
 refine⟨T,id,pa,slot,hty,h1,h2,?_⟩
 have hA:=ha cpos pins s1 σ H1 _ I1 q1
 rw[hs]at hA ⊢
 refine callWith_builtin (by show(false||(backTo cpos (starEach es X.env)).any (·.1))=false;rw[hplain]<;>rfl) (Calls.evalArgs_plain ?_)
 exact thn hA fun us s2 ⟨vs,H2,I2,r2,q2⟩=>hm pins s2 σ H2 x vs v us Q I2 r1 r2 q2
end
def MtM (X:Cx)(id:String)(r:V→List V→Hp→VK→Prop):Prop:=
 ∀(pins:List (Addr×Obj)) (s:Shared) (σ:St) (H:Hp) (x:V) (xs:List V) (v:Value) (us:List Value) (Q:VK),Inv X pins σ H s→RelV x v→Vals xs us→r x xs H Q→
  wpAny (model X.prog X.w) X.A (call (.builtin id) (v::us)) (EP X pins σ Q) X.xe s
theorem Vals.one:∀{x:V} {us:List Value},Vals [x] us→∃u,us=[u]∧RelV x u
 |_,_,.cons r .nil=>⟨_,rfl,r⟩
section
variable {X:Cx}{pins:List (Addr×Obj)}{σ:St}{H:Hp}{s:Shared}{l b:Addr}{xs ys zs:List V}
theorem Inv.lset {its its':List Value}{n:Nat}{f:Array Value→Array Value}{t':Nat}(I:Inv X pins σ H s)(hH:H l=some (.lst xs))
 (e:s.heap.get? l=some {cls:=.type "list",data:=.seq its.toArray n}) (hf:f its.toArray=its'.toArray) (hv:Vals ys its') (hz:ys.length≤sizeLine) :
 Inv X pins σ (upd H l (.lst ys)) {s with heap:=s.heap.update l (Obj.mapSeq f),toks:=t'}:=by
 have q:=PySem.IsL.update e f
 rw[hf]at q
 refine I.write (x:=l) (e:=l) (by rw[hH];exact trivial) (.inl rfl) (fun b' u hb hu=>(get?_update_other s.heap (Obj.mapSeq f) (Ne.symm hb)).trans hu) ⟨_,q⟩ ?_
 exact⟨hz,its',_,hv,q⟩
theorem Inv.lnew {its:List Value}{t':Nat}(I:Inv X pins σ H s)(hv:Vals ys its)(hz:ys.length≤sizeLine) :
 Inv X pins σ (upd H s.heap.objs.size (.lst ys)) {s with heap:=s.heap.push {cls:=.type "list",data:=.seq its.toArray},toks:=t'}:=
 I.laid (fun _ _ q=>get?_push_of_some _ q) (Nat.le_refl _) ⟨hz,its,0,hv,get?_push_size _ rfl⟩
theorem Inv.fresh (I:Inv X pins σ H s):H s.heap.objs.size=none:=I.hok.fresh (Nat.le_refl _)
theorem Inv.lstM (I:Inv X pins σ H s)(hH:H l=some (.lst xs)):xs.length≤sizeLine∧∃(its:List Value) (n:Nat),Vals xs its∧xs.length=its.length∧s.heap.get? l=some {cls:=.type "list",data:=.seq its.toArray n}:=by
 obtain⟨z,its,n,r,e⟩:=I.hok l _ hH
 exact⟨z,its,n,r,r.length,e⟩
theorem notLongL {n:Nat}(h:n≤sizeLine):Builtin.List.listTooLong n=false:=by
 unfold Builtin.List.listTooLong
 exact decide_eq_false (by omega)
end
section
variable {X:Cx}
def rAppend:V→List V→Hp→VK→Prop:=fun x vs H Q=>∃l xs y,x=.ref l∧vs=[y]∧H l=some (.lst xs)∧xs.length<sizeLine∧Q .non (upd H l (.lst (xs++[y])))
theorem mt_append:MtM X "list.append" rAppend:=by
 intro pins s σ H x vs v us Q I rx rv h
 obtain⟨l,xs,y,rfl,rfl,hH,hz,q⟩:=h
 cases rx
 obtain⟨u,rfl,ru⟩:=rv.one
 obtain⟨z,its,n,r,hl,e⟩:=I.lstM hH
 refine call_meets F.slot_list_append ⟨_,e,rfl⟩ F.entry_list_append (F.args_list_append_2 _ _) (PySem.list_append l its.toArray n u (by rw[size_toArray];omega)) ⟨e,?_⟩
 refine⟨.non,_,I.lset (its':=its++[u]) hH e (by simp) (r.append (.cons ru .nil)) ?_,rfl,q⟩
 rw[length_append,length_singleton]
 omega
def rExtend:V→List V→Hp→VK→Prop:=fun x vs H Q=>∃l b xs zs,x=.ref l∧vs=[.ref b]∧H l=some (.lst xs)∧H b=some (.lst zs)∧xs.length+zs.length≤sizeLine∧Q .non (upd H l (.lst (xs++zs)))
theorem mt_extend:MtM X "list.extend" rExtend:=by
 intro pins s σ H x vs v us Q I rx rv h
 obtain⟨l,b,xs,zs,rfl,rfl,hH,hB,hz,q⟩:=h
 cases rx
 obtain⟨u,rfl,ru⟩:=rv.one
 cases ru
 obtain⟨z,its,n,r,hl,e⟩:=I.lstM hH
 obtain⟨z2,its2,n2,r2,hl2,e2⟩:=I.lstM hB
 have hsz:its.toArray.size+its2.toArray.size≤sizeLine:=by rw[size_toArray,size_toArray];omega
 have hlong:¬(!its.toArray.isEmpty&&Builtin.List.listTooLong (its.toArray.size+its2.toArray.size))=true:=by
  rw[notLongL hsz,Bool.and_false]
  exact Bool.false_ne_true
 refine call_meets F.slot_list_extend ⟨_,e,rfl⟩ F.entry_list_extend (F.args_list_extend_2 _ _)
  (AutoSeq1.list_extend_list_list_0 l its.toArray n b its2.toArray n2 hlong (by rw[size_toArray];omega) (by omega)) ⟨e,e2,?_⟩
 refine⟨.non,_,I.lset (its':=its++its2) hH e (by simp) (r.append r2) ?_,rfl,q⟩
 rw[length_append]
 omega
def rCat:R2:=fun x y H Q=>∃l b xs zs,x=.ref l∧y=.ref b∧H l=some (.lst xs)∧H b=some (.lst zs)∧xs.length+zs.length≤sizeLine∧∀p,H p=none→Q (.ref p) (upd H p (.lst (xs++zs)))
theorem op_cat:OpR X (binaryOp .Add) rCat:=by
 intro pins s σ H x y v u Q I rx ry h
 obtain⟨l,b,xs,zs,rfl,rfl,hH,hB,hz,q⟩:=h
 cases rx
 cases ry
 obtain⟨z,its,n,r,hl,e⟩:=I.lstM hH
 obtain⟨z2,its2,n2,r2,hl2,e2⟩:=I.lstM hB
 refine PySem.P.add_list e e2 ?_ (by rw[size_toArray,size_toArray];omega)
 have ea:its.toArray++its2.toArray=(its++its2).toArray:=by simp
 rw[ea]
 exact⟨.ref _,_,I.lnew (t':=s.toks) (r.append r2) (by rw[length_append];omega),rfl,q _ I.fresh⟩
end
end L2
namespace Att
open PySem PySem.W PySem.Calls PyProof.Rows
theorem ints_of_wellAll {P:Params}{h:Heap}:∀(ns:List Int) (vs:List Value),WellAll P h vs (ns.map WData.int)→IntsAre vs ns:=by
 intro ns
 induction ns with
 |nil=>
  intro vs w
  rw[map_nil]at w
  cases w
  exact .nil
 |cons n ns ih=>
  intro vs w
  rw[map_cons]at w
  cases w with
  |cons a b=>
   cases a
   exact .cons _ _ (ih _ b)
theorem script_of {l:OpenLaw}{n:Nat}(hn:l.most=some n){P:Params}{h:Heap}{args:List WData}{vals:List Value}
 (hpre:l.row.toRowW.claim.pre args=true) (hwl:WellAll P h vals args) :
 ∃a vs ns,vals=[Value.ref a]∧args=[WData.list (ns.map WData.int)]∧h.get? a=some {cls:=.type "list",data:=.seq vs.toArray}∧IntsAre vs ns∧ns.length≤n:=by
 have hsh:WShape.hasAll [] args [.list .int]=true:=(pre_splitW hpre).1
 have hc:l.pre.holds [] {args:=args}=true:=(pre_splitW hpre).2
 obtain⟨d,r,rfl,h1,h2⟩:=hasAllW_cons hsh
 obtain rfl:=hasAllW_nil h2
 obtain⟨xs,rfl,h3⟩:=hasW_list h1
 obtain⟨ns,rfl⟩:=items_int h3
 have hlen:ns.length≤n:=by
  unfold OpenLaw.pre at hc
  have h4:(WTm.not (.lt (.lit (.int (n:Int))) (.len (.arg 0)))).holds [] {args:=[.list (ns.map .int)]}=true:=by
   have h4:=(holds_andW hc).1
   rw[hn]at h4
   exact h4
  have h5:=condW_of h4 (w_not (w_lt w_lit (w_len_list (w_arg rfl))))
  rw[length_map]at h5
  refine Nat.le_of_not_lt fun q=>?_
  have q':(n:Int)<((ns.length:Nat):Int):=by omega
  first
   |(rw[decide_eq_true q']at h5;exact absurd h5 (by decide))
   |(simp at h5;omega)
 cases hwl with
 |cons w1 w2=>
  cases w2
  cases w1 with
  |list ho hall=>exact⟨_,_,ns,rfl,rfl,ho,ints_of_wellAll ns _ hall,hlen⟩
theorem post_true (l:OpenLaw)(args:List WData):l.row.toRowW.claim.post args (.bool true) args=true:=
 postW_of (r:=l.row.toRowW) (X:=(true==true))
  (show WShape.has [] (.bool true) .bool=true by first | rfl | decide | simp[WShape.has,WShape.arms,WShape.armsAll])
  (show(WTm.eq .res (.lit (.bool true))).value [] {args:=args,res:=some (.bool true),after:=args}=some (.bool (true==true)) from w_eq_bool (w_res rfl) w_lit) rfl
theorem attach_call {l:OpenLaw}{n:Nat}{q:Program}{loose:List Str}{XP:(Str→Option Value)→Heap→Prop}{YP:World→Heap→Prop}{d:DefRec}
 (hn:l.most=some n) (hdf:d.params.defaults=[])
 (call:∀(w:World) (s₀ s₁:Shared) (mg mb:Str→Option Value) (fa:Addr) (o:Obj) (pm cd doc:Value) (a:Addr) (vs:List Value) (ns:List Int),
  Ground q loose [] XP w s₀ mg mb s₁.heap→YP w s₁.heap→
  s₁.heap.get? fa=some o→o.data=.func (docDef d.name d.params d.body d.scope pm cd doc)→s₁.heap.CodeRec cd d.name→mg d.name=some (.ref fa)→
  s₁.heap.get? a=some {cls:=.type "list",data:=.seq vs.toArray}→IntsAre vs ns→ns.length≤n→s₁.gens=#[]→
  codeAny (model l.prog w) callerA (.call (.ref fa) ⟨[.ref a],[]⟩) (fun r s'=>r=.ok (.ret (.bool true))∧OldK s₁.heap s'.heap∧s'.os=s₁.os∧AllBare s'.gens) s₁) :
 WalkO q loose XP YP l.row.toRowW d [] (fun f vs=>PySem.call f vs):=by
 intro w s₀ s₁ mg mb G Y fa o pm cd doc dV kV ho hd hcd hD hmg hg args vals as hpre hlay hrd hwl hlo
 obtain rfl:dV=.none:=Dflts.none hD hdf
 obtain rfl:kV=.none:=Dflts.noKw hD
 obtain⟨a,vs,ns,rfl,rfl,hobj,hints,hlen⟩:=script_of hn hpre hwl
 refine enter_call (codeAny_mono (call w s₀ s₁ mg mb fa o pm cd doc a vs ns G Y ho (fd_plain hd) hcd hmg hobj hints hlen hg) fun r s' hq=>?_)
 obtain⟨rfl,h2,h3,h4⟩:=hq
 exact⟨.inl ⟨.bool true,.bool true,[],rfl,fun _=>rfl,.bool true,post_true l _,fun _=>⟨List.Pairwise.nil,fun _ hm=>(nomatch hm)⟩⟩,h2,h3,h4⟩
end Att
namespace L2
theorem vals_ints:∀{vs:List Value} {ns:List Int},IntsAre vs ns→Vals (ns.map V.int) vs
 |_,_,.nil=>.nil
 |_,_,.cons n t h=>.cons ⟨t,rfl⟩ (vals_ints h)
def Only (H:Hp):Prop:=∀b,H b=none∨∃o xs,H b=some (.frz o (.lst xs))
theorem law_call {P:Program}{w:World}{K:W.Frag}{mg mb:Str→Option Value}{CX:CXT}{k:Nat}{fa a:Addr}{fd:FuncData}{x:Str}{sp:Sp}{s₁:Shared}{vs:List Value}{ns:List Int}
 (KX:K.In s₁.heap) (hns:s₁.heap.Ns mainGlobals mg) (hb:s₁.heap.Ns builtinsNs mb) (hbb:∀x:Str,x≠"__name__"→mb x=bootBuiltins x) (hlim:s₁.heap.NoLimit) (hg:s₁.gens=#[])
 (ha:s₁.heap.get? a=some {cls:=.type "list",data:=.seq vs.toArray}) (hi:IntsAre vs ns) (hl:ns.length≤sizeLine) (hr:Room k callerA)
 (F:∀base:Heap,K.In base→base.Ns mainGlobals mg→FnOk P w K mg base CX k fa fd [x] sp) (hbind:∀(s:Shared) (u:Value),BindsTo s fd ⟨[u],[]⟩ [(x,u)])
 (hsp:∀H:Hp,Only H→SqL K H a (ns.map V.int)→sp [.ref a] H (fun v _=>v=.bl true) fun _ _ _=>False)
 (hCX:∀H e s',CX [] H s₁ (fun _ _ _=>False) e s'→False) :
 codeAny (model P w) callerA (.call (.ref fa) ⟨[.ref a],[]⟩) (fun r s'=>r=.ok (.ret (.bool true))∧OldK s₁.heap s'.heap∧s'.os=s₁.os∧AllBare s'.gens) s₁:=by
 have rv:=vals_ints hi
 have lenV:=hi.length
 -- from an abstract heap in which nothing but the script may be tracked
 have core:∀H:Hp,Only H→SqL K H a (ns.map V.int)→HOk P w H s₁.heap→(∀b,H b≠none→b=a)→(H a≠none→K.lookup a=none)→
  codeAny (model P w) callerA (.call (.ref fa) ⟨[.ref a],[]⟩) (fun r s'=>r=.ok (.ret (.bool true))∧OldK s₁.heap s'.heap∧s'.os=s₁.os∧AllBare s'.gens) s₁:=by
  intro H hO hS hok hA hK
  have base_of:∀{b:Addr} {o:Obj},s₁.heap.get? b=some o→H b=none→(hidT s₁.heap H).get? b=some o:=fun e n=>hidT_get e n
  have noA:∀{b:Addr} {o:Obj} {es:Array DictEntry} {ep:Nat},s₁.heap.get? b=some o→o.data=.dict es ep→H b=none:=fun{b o es ep} e d=>by
   cases q:H b with
   |none=>rfl
   |some u=>
    have e':b=a:=hA b (by rw[q];simp)
    subst e'
    rw[ha]at e;cases e
    have d':Data.seq vs.toArray _=Data.dict es ep:=d
    cases d'
  have nsK:∀{b:Addr} {m:Str→Option Value},s₁.heap.Ns b m→(hidT s₁.heap H).Ns b m:=fun{b m} ⟨o,es,ep,e,d,r⟩=>⟨o,es,ep,base_of e (noA e d),d,r⟩
  have hKb:K.In (hidT s₁.heap H):=fun b o e=>base_of (KX b o e) (by
   cases q:H b with
   |none=>rfl
   |some u=>
    have e':b=a:=hA b (by rw[q];simp)
    subst e'
    rw[hK (by rw[q];simp)]at e;cases e)
  have hM:Mod K mg (hidT s₁.heap H):=⟨hKb,nsK hns,⟨mb,nsK hb,hbb⟩,let⟨mc,h1,h2⟩:=hlim;⟨mc,nsK h1,h2⟩⟩
  have e0:Env0 P w K mg (hidT s₁.heap H) callerA [] s₁ H:=⟨rfl,hM,fun b o e=>of_hidT e,Nat.le_of_eq (hidT_size _ _),trivial,fun b hb=>absurd (show b∈([]:List Addr) from hb) (by simp),hok,.of_eq hg⟩
  refine codeAny_mono ((F _ hKb (nsK hns)).run callerA [] s₁ H ⟨[.ref a],[]⟩ [.ref a] [.ref a] _ _ hr e0 (hbind s₁ (.ref a)) (.cons rfl .nil) (hsp H hO hS)) fun r s' h=>?_
  cases r with
  |error e=>exact(hCX H e s' h).elim
  |ok fl=>
   cases fl with
   |next=>exact False.elim h
   |brk=>exact False.elim h
   |cont=>exact False.elim h
   |ret u=>
    obtain⟨v,H',os,bare,un,hok',r',q⟩:=h
    have q':v=.bl true:=q
    subst q'
    obtain rfl:u=Value.bool true:=r'
    refine⟨rfl,OldK.of_keep fun b o e=>?_,os,bare⟩
    cases q:H b with
    |none=>exact un.keep b o e q (by intro z;exact absurd (show b∈([]:List Addr) from z) (by simp)) (by simp)
    |some u=>
     rcases hO b with z | ⟨ob,xs,z⟩
     ·rw[q]at z;cases z
     ·have z2:=un.frzs b ob _ z
      obtain⟨e1,_⟩:=hok b _ z
      obtain⟨e2,_⟩:=hok' b _ z2
      rw[e]at e1;cases e1
      exact e2
 cases hk:K.lookup a with
 |some o=>
  -- the script is one of the module's own objects
  have e:=KX a o hk
  rw[ha]at e
  cases e
  refine core (fun _=>none) (fun _=>.inl rfl) (.inr ⟨_,vs.toArray,_,hk,rfl,rfl,rfl,by rw[size_toArray,lenV];exact hl,by simpa using rv⟩) (fun b u z=>by have z':(none:Option HO)=some u:=z;cases z') (fun b z=>absurd rfl z) fun z=>absurd rfl z
 |none=>
  refine core (fun b=>if b=a then some (.frz {cls:=.type "list",data:=.seq vs.toArray} (.lst (ns.map V.int))) else none) (fun b=>?_) (.inl (.inr ⟨{cls:=.type "list",data:=.seq vs.toArray},if_pos rfl⟩)) (fun b u z=>?_) (fun b z=>?_) fun _=>hk
  ·by_cases hb:b=a
   ·exact .inr ⟨_,_,if_pos hb⟩
   ·exact .inl (if_neg hb)
  ·by_cases hb:b=a
   ·have z':=(if_pos hb).symm.trans z
    cases z'
    subst hb
    exact⟨ha,by rw[length_map];exact hl,vs,_,rv,ha⟩
   ·have z':=(if_neg hb).symm.trans z
    cases z'
  ·by_cases hb:b=a
   ·exact hb
   ·exact absurd (if_neg hb) z
theorem walk_of {l:PySem.W.OpenLaw}{n k:Nat}{q:Program}{loose:List Str}{XP:(Str→Option Value)→Heap→Prop}{YP:World→Heap→Prop}{d:DefRec}{K:Params→W.Frag}{CX:World→CXT}{sp:World→Sp}{x:Str}
 (hn:l.most=some n) (hn2:n≤sizeLine) (hdf:d.params.defaults=[]) (hr:Room k callerA)
 (hY:∀(w:World) (h:Heap),YP w h→(K w.params).In h)
 (F:∀(w:World) (mg:Str→Option Value) (fa:Addr) (h:Heap),(K w.params).In h→h.Ns mainGlobals mg→mg d.name=some (.ref fa)→
  ∃fd:FuncData,(∀(s:Shared) (u:Value),BindsTo s fd ⟨[u],[]⟩ [(x,u)])∧
   ∀base:Heap,(K w.params).In base→base.Ns mainGlobals mg→FnOk l.prog w (K w.params) mg base (CX w) k fa fd [x] (sp w))
 (hsp:∀(w:World) (H:Hp) (a:Addr) (ns:List Int),ns.length≤n→Only H→SqL (K w.params) H a (ns.map V.int)→sp w [.ref a] H (fun v _=>v=.bl true) fun _ _ _=>False)
 (hCX:∀(w:World) (H:Hp) (s:Shared) (e:Value) (s':Shared),CX w [] H s (fun _ _ _=>False) e s'→False) :
 PySem.W.WalkO q loose XP YP l.row.toRowW d [] (fun f vs=>PySem.call f vs):=by
 refine Att.attach_call hn hdf fun w s₀ s₁ mg mb fa o pm cd doc a vs ns G Y ho hd hcd hmg hobj hints hlen hg=>?_
 have KX:=hY w _ Y
 obtain⟨fd,hb,hF⟩:=F w mg fa _ KX G.T.g hmg
 exact law_call KX G.T.g G.T.b G.T.builtins G.T.nolimit hg hobj hints (Nat.le_trans hlen hn2) hr hF hb (fun H hO hS=>hsp w H a ns hlen hO hS) fun H e s'=>hCX w H s₁ e s'
def defArgs (s:Stmt):Arguments:=match s with
 | .FunctionDef _ a _ _ _ _ _ _ _ _=>a
 |_=>{posonlyargs:=[],args:=[],vararg:=none,kwonlyargs:=[],kw_defaults:=[],kwarg:=none,defaults:=[]}
def defBody (s:Stmt):List Stmt:=match s with
 | .FunctionDef _ _ b _ _ _ _ _ _ _=>b
 |_=>[]
def defScope (s:Stmt):Scope:=match s with
 | .FunctionDef _ _ _ _ _ _ sc _ _ _=>sc
 |_=>{kind:=.function,names:=[],isGenerator:=false,isCoroutine:=false}
abbrev CX0:CXT:=fun _ _ _ _ _ _=>False
abbrev E0:XK:=fun _ _ _=>False
theorem pass0 {X:Cx}:Passes CX0 X E0:=fun _ _ _ _ _ _ _ h=>h.elim
structure Fun (K:W.Frag)(x qual:Str)(st:Stmt)(f:Addr)(fd:FuncData):Prop where
 ex:∃(oc:Value) (od:Option Addr) (kV doc pm:Value) (an:Option Addr) (cdv ct:Value) (osl:Array (Option Value)),
  fd=PySem.W.fnOf x qual (defArgs st) (defBody st) (defScope st) .none kV doc pm an cdv ct∧K.lookup f=some ⟨oc,od,.func fd,osl⟩∧PySem.W.codeIn K cdv qual=true
 kp:PySem.W.keepIn K (.ref f)=true
section
variable {P:Program}{w:World}{K:W.Frag}{mg:Str→Option Value}{base:Heap}
theorem Fun.ok {x qual:Str}{st:Stmt}{f:Addr}{fd:FuncData}{N ps:List Str}{k:Nat}{sp:Sp}(F:Fun K x qual st f fd)(S:FnScope N ps (defScope st))(len:∀vs H Q E,sp vs H Q E→vs.length=ps.length)
 (hbody:∀(cdv:Value) (A:Around) (outer:List Env) (s:Shared) (H:Hp) (vs:List V) (Q:VK) (E:XK),Room k (A.deeper (envOfC qual (defScope st) s.heap.objs.size f cdv))→sp vs H Q E→
  ∃t,PSs (cxOf CX0 P w K mg base N qual (defScope st) f cdv A outer s H E).nox (defBody st) t∧t {nx:=fun _ H'=>Q .non H',rt:=Q} (start N vs) H):FnOk P w K mg base CX0 (k+1) f fd ps sp:=by
 obtain⟨oc,od,kV,doc,pm,an,cdv,ct,osl,rfl,lk,hcd⟩:=F.ex
 refine fn_of lk hcd S len fun A outer s H vs Q E hr hsp=>?_
 obtain⟨t,h,q⟩:=hbody cdv A outer s H vs Q E hr hsp
 exact⟨t,h.nox,q⟩
theorem Fun.binds {x qual:Str}{st:Stmt}{f:Addr}{fd:FuncData}{ps:List Str}(F:Fun K x qual st f fd)
 (h:∀(kV doc pm:Value) (an:Option Addr) (cdv ct:Value) (us:List Value),us.length=ps.length→bindArgs (PySem.W.fnOf x qual (defArgs st) (defBody st) (defScope st) .none kV doc pm an cdv ct) ⟨us,[]⟩=pure (ps.zip us)):Binds K fd ps []:=by
 obtain⟨oc,od,kV,doc,pm,an,cdv,ct,osl,rfl,lk,hcd⟩:=F.ex
 exact .all (h kV doc pm an cdv ct)
theorem fun_mk {x qual:Str}{st:Stmt}{f:Addr}{oc:Value}{od an:Option Addr}{osl:Array (Option Value)}{kV doc pm cdv ct:Value}(l:K.lookup f=some ⟨oc,od,.func (PySem.W.fnOf x qual (defArgs st) (defBody st) (defScope st) .none kV doc pm an cdv ct),osl⟩)
 (c:PySem.W.codeIn K cdv qual=true) (k:PySem.W.keepIn K (.ref f)=true):Fun K x qual st f (PySem.W.fnOf x qual (defArgs st) (defBody st) (defScope st) .none kV doc pm an cdv ct):=⟨⟨oc,od,kV,doc,pm,an,cdv,ct,osl,rfl,l,c⟩,k⟩
end
section
variable {X:Cx}
theorem pv (i:Nat){x:Str}{pos:Pos}(hN:X.N[i]?=some x:=by rfl)(hv:Vis X.env.scope x:=by first | exact Or.inl rfl | exact Or.inr (Or.inl rfl) | exact Or.inr (Or.inr rfl))(hd:(x==("__debug__" : Str))=false:=by decide)
 (hcd:(x==("__classdict__" : Str))=false:=by decide):PE X (.Name x pos) (tVar i):=pe_var hN hv hd hcd
end
theorem iteF {A B:Prop}(h:B):if false=true then A else B:=by
 rw[if_neg Bool.false_ne_true]
 exact h
theorem iteT {A B:Prop}(h:A):if true=true then A else B:=by
 rw[if_pos rfl]
 exact h
theorem ite2 {c A B:Prop}[Decidable c](h1:c→A)(h2:¬c→B):if c then A else B:=by
 by_cases h:c
 ·rw[if_pos h]
  exact h1 h
 ·rw[if_neg h]
  exact h2 h
def Same (H H':Hp):Prop:=∀b o,H b=some o→H' b=some o
theorem Same.refl (H:Hp):Same H H:=fun _ _ h=>h
theorem Same.trans {H H1 H2:Hp}(a:Same H H1)(b:Same H1 H2):Same H H2:=fun c o h=>b c o (a c o h)
theorem Same.seq {K:W.Frag}{H H':Hp}{a:Addr}{xs:List V}(e:Same H H')(h:SqL K H a xs):SqL K H' a xs:=by
 rcases h with(h | ⟨o,h⟩) | h
 ·exact .inl (.inl (e _ _ h))
 ·exact .inl (.inr ⟨o,e _ _ h⟩)
 ·exact .inr h
open PySem PySem.W PyProof.Rows
structure Pm (n:Nat)(p:Array Nat):Prop where
 perm:p.toList.Perm (List.range n)
section
variable {n:Nat}{p:Array Nat}
theorem Pm.size (h:Pm n p):p.size=n:=by
 have:=h.perm.length_eq
 rw[length_range,length_toList]at this
 exact this
theorem Pm.lt (h:Pm n p)(n0:0<n)(j:Nat):p.getD j 0<n:=by
 by_cases c:j<p.size
 ·have e:p.getD j 0=p[j]:=by simp[Array.getD,c]
  rw[e]
  exact mem_range.mp (h.perm.mem_iff.mp (by simp))
 ·have e:p.getD j 0=0:=by simp[Array.getD,c]
  rw[e]
  exact n0
theorem Pm.inj (h:Pm n p){i j:Nat}(hi:i<n)(hj:j<n)(e:p.getD i 0=p.getD j 0):i=j:=by
 have hi':i<p.size:=by rw[h.size];exact hi
 have hj':j<p.size:=by rw[h.size];exact hj
 have e1:p.getD i 0=p[i]:=by simp[Array.getD,hi']
 have e2:p.getD j 0=p[j]:=by simp[Array.getD,hj']
 have nd:p.toList.Nodup:=h.perm.nodup_iff.mpr List.nodup_range
 rw[e1,e2]at e
 have pw:=pairwise_iff_getElem.mp nd
 rcases Nat.lt_trichotomy i j with c | c | c
 ·exact absurd (by rw[getElem_toList,getElem_toList];exact e) (pw i j _ _ c)
 ·exact c
 ·exact absurd (by rw[getElem_toList,getElem_toList];exact e.symm) (pw j i _ _ c)
theorem Pm.of (h:Pm n p){q:Array Nat}(hq:q.Perm p):Pm n q:=⟨(Array.perm_iff_toList_perm.mp hq).trans h.perm⟩
theorem getD_of? {p:Array Nat}{q:Array Nat}{i j:Nat}(h:p[i]?=q[j]?):p.getD i 0=q.getD j 0:=by
 rw[getD_eq_getD_getElem?,getD_eq_getD_getElem?,h]
end
def Up (key:Nat→Int)(p:Array Nat)(k:Nat):Prop:=∀j,1≤j→j<k→key (p.getD (j - 1) 0)<key (p.getD j 0)
theorem Up.lt {key:Nat→Int}{p:Array Nat}{k:Nat}(h:Up key p k):∀(d i:Nat),i+d+1<k→key (p.getD i 0)<key (p.getD (i+d+1) 0)
 |0,i,hi=>h (i+1) (by omega) hi
 |d+1,i,hi=>Int.lt_trans (Up.lt h d i (by omega)) (h (i+(d+1)+1) (by omega) hi)
theorem Up.lt' {key:Nat→Int}{p:Array Nat}{k i j:Nat}(h:Up key p k)(hij:i<j)(hj:j<k):key (p.getD i 0)<key (p.getD j 0):=by
 have:=h.lt (j - i - 1) i (by omega)
 rwa [show i+(j - i - 1)+1=j by omega]at this
section
variable {cmp:Nat→Nat→(Bool→Shared→Prop)→Shared→Prop}{key:Nat→Int}{J:Shared→Prop}{n:Nat}{s:Shared}
def Told (cmp:Nat→Nat→(Bool→Shared→Prop)→Shared→Prop)(key:Nat→Int)(J:Shared→Prop)(n:Nat):Prop:=
 ∀i j (C:Bool→Shared→Prop) s,i<n→j<n→J s→(∀s',J s'→C (decide (key i<key j)) s')→cmp i j C s
theorem go_asc (A:Told cmp key J n){p:Array Nat}(hp:Pm n p)(n0:0<n){Q:Nat→Shared→Prop}:∀(f m:Nat) (s:Shared),J s→1≤m→m+f=n→
 (∀m' s',J s'→m≤m'→m'≤n→(∀j,m≤j→j<m'→¬key (p.getD j 0)<key (p.getD (j - 1) 0))→(m'<n→key (p.getD m' 0)<key (p.getD (m' - 1) 0))→Q m' s')→(kas_asc p f m).kasWp cmp Q s
 |0,m,s,hJ,h1,hf,q=>q m s hJ (Nat.le_refl _) (by omega) (fun j a b=>by omega) (fun z=>by omega)
 |f+1,m,s,hJ,h1,hf,q=>by
  refine A _ _ _ s (hp.lt n0 _) (hp.lt n0 _) hJ fun s' hJ'=>?_
  by_cases c:key (p.getD m 0)<key (p.getD (m - 1) 0)
  ·rw[decide_eq_true c]
   dsimp only
   rw[if_pos rfl]
   exact q m s' hJ' (Nat.le_refl _) (by omega) (fun j a b=>by omega) fun _=>c
  ·rw[decide_eq_false c]
   dsimp only
   rw[if_neg Bool.false_ne_true]
   refine go_asc A hp n0 f (m+1) s' hJ' (by omega) (by omega) fun m' s2 hJ2 a b d e=>q m' s2 hJ2 (by omega) b (fun j x y=>?_) e
   by_cases z:j=m
   ·rw[z];exact c
   ·exact d j (by omega) y
theorem go_desc (A:Told cmp key J n){p:Array Nat}(hp:Pm n p)(n0:0<n)(inj:∀i j,i<n→j<n→key i=key j→i=j){Q:Array Nat×Nat×Nat→Shared→Prop}:∀(f m:Nat) (s:Shared),J s→2≤m→m+f=n→
 (∀j,1≤j→j<m→key (p.getD j 0)<key (p.getD (j - 1) 0))→
 (∀m' s',J s'→m≤m'→m'≤n→(∀j,1≤j→j<m'→key (p.getD j 0)<key (p.getD (j - 1) 0))→Q (p,m',0) s')→(kas_desc f p m 0).kasWp cmp Q s
 |0,m,s,hJ,h1,hf,dn,q=>q m s hJ (Nat.le_refl _) (by omega) dn
 |f+1,m,s,hJ,h1,hf,dn,q=>by
  refine A _ _ _ s (hp.lt n0 _) (hp.lt n0 _) hJ fun s' hJ'=>?_
  by_cases c:key (p.getD m 0)<key (p.getD (m - 1) 0)
  ·rw[decide_eq_true c]
   dsimp only
   rw[if_pos rfl,if_neg (by decide)]
   refine go_desc A hp n0 inj f (m+1) s' hJ' (by omega) (by omega) (fun j x y=>?_) fun m' s2 hJ2 a b d=>q m' s2 hJ2 (by omega) b d
   by_cases z:j=m
   ·rw[z];exact c
   ·exact dn j x (by omega)
  ·rw[decide_eq_false c]
   dsimp only
   rw[if_neg Bool.false_ne_true]
   refine A _ _ _ s' (hp.lt n0 _) (hp.lt n0 _) hJ' fun s2 hJ2=>?_
   have ne:key (p.getD m 0)≠key (p.getD (m - 1) 0):=fun e=>by
    have:=hp.inj (by omega) (by omega) (inj _ _ (hp.lt n0 _) (hp.lt n0 _) e)
    omega
   rw[decide_eq_true (by omega:key (p.getD (m - 1) 0)<key (p.getD m 0))]
   dsimp only
   rw[if_pos rfl]
   exact q m s2 hJ2 (Nat.le_refl _) (by omega) dn
theorem up_of_not {p:Array Nat}(hp:Pm n p)(n0:0<n)(inj:∀i j,i<n→j<n→key i=key j→i=j){k:Nat}(hk:k≤n)(h:∀j,1≤j→j<k→¬key (p.getD j 0)<key (p.getD (j - 1) 0)):Up key p k:=fun j h1 h2=>by
 have ne:key (p.getD j 0)≠key (p.getD (j - 1) 0):=fun e=>by
  have:=hp.inj (by omega) (by omega) (inj _ _ (hp.lt n0 _) (hp.lt n0 _) e)
  omega
 have:=h j h1 h2
 omega
theorem go_tail (A:Told cmp key J n){p:Array Nat}(hp:Pm n p)(n0:0<n)(inj:∀i j,i<n→j<n→key i=key j→i=j){m:Nat}(m1:1≤m)(mn:m≤n)(hJ:J s)(dn:∀j,1≤j→j<m→key (p.getD j 0)<key (p.getD (j - 1) 0)){Q:Nat×Array Nat→Shared→Prop}
 (q:∀k p' s',J s'→Pm n p'→1≤k→k≤n→Up key p' k→Q (k,p') s'):(kas_tail3 m n p).kasWp cmp Q s:=by
 have hp':Pm n (kas_rev p 0 m):=hp.of (mirror_perm _ _ _ _)
 have at_:∀k,k<m→(kas_rev p 0 m).getD k 0=p.getD (m - 1 - k) 0:=fun k hk=>getD_of? (by
  unfold kas_rev
  rw[getElem?_mirror_all (by rw[hp.size];exact mn),if_pos ⟨Nat.zero_le _,hk⟩]
  congr 1
  omega)
 unfold kas_tail3
 rw[KasT.kasWp_bind]
 refine go_asc A hp' n0 (n - m) m s hJ m1 (by omega) fun k s' hJ' a b d e=>q k _ s' hJ' hp' (by omega) b ?_
 intro j h1 h2
 by_cases c:j<m
 ·rw[at_ j c,at_ (j - 1) (by omega)]
  have:=dn (m - 1 - (j - 1)) (by omega) (by omega)
  rwa [show m - 1 - (j - 1) - 1=m - 1 - j by omega]at this
 ·have ne:key ((kas_rev p 0 m).getD j 0)≠key ((kas_rev p 0 m).getD (j - 1) 0):=fun e=>by
   have:=hp'.inj (by omega) (by omega) (inj _ _ (hp'.lt n0 _) (hp'.lt n0 _) e)
   omega
  have:=d j (by omega) h2
  omega
theorem go_count (A:Told cmp key J n){p:Array Nat}(hp:Pm n p)(n2:2≤n)(inj:∀i j,i<n→j<n→key i=key j→i=j)(hJ:J s){Q:Nat×Array Nat→Shared→Prop}
 (q:∀k p' s',J s'→Pm n p'→1≤k→k≤n→Up key p' k→Q (k,p') s'):(kas_count n p).kasWp cmp Q s:=by
 have n0:0<n:=by omega
 unfold kas_count
 rw[KasT.kasWp_bind]
 refine go_asc A hp n0 (n - 1) 1 s hJ (Nat.le_refl _) (by omega) fun m s' hJ' a b d e=>?_
 have up:Up key p m:=up_of_not hp n0 inj b d
 by_cases c:m=n
 ·rw[if_pos (by rw[c];exact beq_self_eq_true n)]
  exact q m p s' hJ' hp a b up
 rw[if_neg (by simpa using c)]
 by_cases c1:m>1
 ·rw[if_pos c1]
  refine A _ _ _ s' (hp.lt n0 _) (hp.lt n0 _) hJ' fun s2 hJ2=>?_
  rw[decide_eq_true (up.lt' (show 0<m - 1 by omega) (by omega))]
  dsimp only
  rw[if_pos rfl]
  exact q m p s2 hJ2 hp a b up
 ·rw[if_neg c1]
  have em:m=1:=by omega
  subst em
  unfold kas_descPart
  rw[KasT.kasWp_bind]
  refine go_desc A hp n0 inj (n - (1+1)) (1+1) s' hJ' (by omega) (by omega) (fun j x y=>?_) fun m' s2 hJ2 x y z=>?_
  ·have ej:j=1:=by omega
   subst ej
   exact e (by omega)
  ·dsimp only
   rw[if_neg (by decide)]
   exact go_tail A hp n0 inj (by omega) y hJ2 z q
theorem go_place (A:Told cmp key J n){p:Array Nat}(hp:Pm n p)(n0:0<n){k:Nat}(kn:k<n)(up:Up key p k){Q:Nat→Shared→Prop}:∀(f l r:Nat) (s:Shared),J s→r - l≤f→l≤r→r≤k→
 (∀j,j<l→¬key (p.getD k 0)<key (p.getD j 0))→(∀j,r≤j→j<k→key (p.getD k 0)<key (p.getD j 0))→
 (∀l' s',J s'→l'≤k→(∀j,j<l'→¬key (p.getD k 0)<key (p.getD j 0))→(∀j,l'≤j→j<k→key (p.getD k 0)<key (p.getD j 0))→Q l' s')→(kas_place p k f l r).kasWp cmp Q s
 |0,l,r,s,hJ,h1,h2,h3,lo,hi,q=>q l s hJ (by omega) lo (by rw[show l=r by omega];exact hi)
 |f+1,l,r,s,hJ,h1,h2,h3,lo,hi,q=>by
  show KasT.kasWp cmp (if l≥r then .ret l else _) Q s
  by_cases c:l≥r
  ·rw[if_pos c]
   exact q l s hJ (by omega) lo (by rw[show l=r by omega];exact hi)
  rw[if_neg c]
  refine A _ _ _ s (hp.lt n0 _) (hp.lt n0 _) hJ fun s' hJ'=>?_
  by_cases d:key (p.getD k 0)<key (p.getD ((l+r) / 2) 0)
  ·rw[decide_eq_true d]
   dsimp only
   rw[if_pos rfl]
   refine go_place A hp n0 kn up f l ((l+r) / 2) s' hJ' (by omega) (by omega) (by omega) lo (fun j x y=>?_) q
   by_cases z:j=(l+r) / 2
   ·rw[z];exact d
   ·exact Int.lt_trans d (up.lt' (by omega) y)
  ·rw[decide_eq_false d]
   dsimp only
   rw[if_neg Bool.false_ne_true]
   refine go_place A hp n0 kn up f ((l+r) / 2+1) r s' hJ' (by omega) (by omega) (by omega) (fun j x=>?_) hi q
   by_cases z:j=(l+r) / 2
   ·rw[z];exact d
   ·have:=up.lt' (i:=j) (j:=(l+r) / 2) (by omega) (by omega)
    omega
theorem go_bin (A:Told cmp key J n)(n0:0<n)(inj:∀i j,i<n→j<n→key i=key j→i=j){Q:Array Nat→Shared→Prop}:∀(f:Nat) (p:Array Nat) (k:Nat) (s:Shared),J s→Pm n p→k+f=n→Up key p k→
 (∀p' s',J s'→Pm n p'→Up key p' n→Q p' s')→(kas_bin f p k).kasWp cmp Q s
 |0,p,k,s,hJ,hp,hf,up,q=>q p s hJ hp (by rw[←hf];exact up)
 |f+1,p,k,s,hJ,hp,hf,up,q=>by
  have kn:k<n:=by omega
  show KasT.kasWp cmp ((kas_place p k k 0 k).bind fun l=>kas_bin f (bubble p k (k - l)) (k+1)) Q s
  rw[KasT.kasWp_bind]
  refine go_place A hp n0 kn up k 0 k s hJ (by omega) (Nat.zero_le _) (Nat.le_refl _) (fun j z=>by omega) (fun j x y=>by omega) fun l s' hJ' lk lo hi=>?_
  have at_:∀j,(bubble p k (k - l)).getD j 0=if j=l then p.getD k 0 else if l<j∧j≤k then p.getD (j - 1) 0 else p.getD j 0:=fun j=>by
   have g:=getElem?_bubble (xs:=p) (src:=k) (by rw[hp.size];exact kn) (k - l) (by omega) j
   rw[show k - (k - l)=l by omega]at g
   split
   ·rename_i c;rw[if_pos c]at g;exact getD_of? g
   ·rename_i c
    rw[if_neg c]at g
    split
    ·rename_i d;rw[if_pos d]at g;exact getD_of? g
    ·rename_i d;rw[if_neg d]at g;exact getD_of? g
  refine go_bin A n0 inj f _ (k+1) s' hJ' (hp.of (bubble_perm _ _ _)) (by omega) (fun j h1 h2=>?_) q
  rw[at_,at_]
  by_cases c1:j=l
  ·subst c1
   rw[if_neg (by omega),if_neg (by omega),if_pos rfl]
   have:=lo (j - 1) (by omega)
   have ne:key (p.getD k 0)≠key (p.getD (j - 1) 0):=fun e=>by
    have:=hp.inj (by omega) (by omega) (inj _ _ (hp.lt n0 _) (hp.lt n0 _) e)
    omega
   omega
  ·rw[if_neg c1]
   by_cases c2:l<j
   ·rw[if_pos (show l<j∧j≤k by omega)]
    by_cases c3:j - 1=l
    ·rw[if_pos c3]
     exact hi (j - 1) (by omega) (by omega)
    ·rw[if_neg c3,if_pos (show l<j - 1∧j - 1≤k by omega)]
     exact up (j - 1) (by omega) (by omega)
   ·rw[if_neg (show ¬(l<j∧j≤k) by omega),if_neg (by omega),if_neg (by omega)]
    exact up j h1 (by omega)
theorem go_sort (A:Told cmp key J n)(n2:2≤n)(inj:∀i j,i<n→j<n→key i=key j→i=j)(hJ:J s){Q:Array Nat→Shared→Prop}(q:∀p s',J s'→Pm n p→Up key p n→Q p s'):(kas_sort n).kasWp cmp Q s:=by
 unfold kas_sort
 rw[KasT.kasWp_bind]
 refine go_count A ⟨by simp⟩ n2 inj hJ fun k p s' hJ' hp k1 kn up=>?_
 dsimp only
 by_cases c:k<n
 ·rw[if_pos c,show max k 1=k by omega]
  exact go_bin A (by omega) inj (n - k) p k s' hJ' hp (by omega) up q
 ·rw[if_neg c]
  exact q p s' hJ' hp (by rw[show n=k by omega];exact up)
end
end L2
namespace L2
theorem relab_free {env:Env}:∀{ns:List (Str×NameKind)} {x:Str},ns.lookup x=some .free→
 (ns.map fun(n,k)=>if(k==NameKind.free&&env.scope.kind==.function&&env.kindOf n==some .cell) then(n,NameKind.cell) else(n,k)).lookup x=some .cell∨
 (ns.map fun(n,k)=>if(k==NameKind.free&&env.scope.kind==.function&&env.kindOf n==some .cell) then(n,NameKind.cell) else(n,k)).lookup x=some .free
 |[],_,h=>by simp at h
 |(n,k)::r,x,h=>by
  rw[map_cons]
  by_cases e:(x==n)=true
  ·rw[lookup_cons,e]at h
   have hk:k=.free:=by simpa using h
   subst hk
   by_cases q:(NameKind.free==NameKind.free&&env.scope.kind==.function&&env.kindOf n==some .cell)=true
   ·left;dsimp only;rw[if_pos q,lookup_cons,e]
   ·right;dsimp only;rw[if_neg q,lookup_cons,e]
  ·have e':(x==n)=false:=by simpa using e
   rw[lookup_cons,e']at h
   have ih:=relab_free (env:=env) h
   dsimp only
   split<;>(rw[lookup_cons,e'];exact ih)
theorem relab_back {env:Env}:∀{ns:List (Str×NameKind)} {x:Str} {k:NameKind},(∀y∈ns,y.2≠.cell)→(k=.cell∨k=.free)→
 (ns.map fun(n,k)=>if(k==NameKind.free&&env.scope.kind==.function&&env.kindOf n==some .cell) then(n,NameKind.cell) else(n,k)).lookup x=some k→(x,NameKind.free)∈ns
 |[],_,_,_,_,h=>by simp at h
 |(n,k')::r,x,k,nc,hk,h=>by
  rw[map_cons]at h
  have ih:=relab_back (env:=env) (ns:=r) (x:=x) (k:=k) (fun y hy=>nc y (mem_cons_of_mem _ hy)) hk
  by_cases e:(x==n)=true
  ·have ex:x=n:=by simpa using e
   subst ex
   by_cases q:(k'==NameKind.free&&env.scope.kind==.function&&env.kindOf x==some .cell)=true
   ·have:k'=.free:=by
     cases k'<;>first | rfl | (simp at q)
    subst this
    exact mem_cons_self
   ·dsimp only at h
    rw[if_neg q,lookup_cons,e]at h
    have:k'=k:=by simpa using h
    subst this
    rcases hk with z | z
    ·exact absurd z (nc (x,k') mem_cons_self)
    ·subst z;exact mem_cons_self
  ·have e':(x==n)=false:=by simpa using e
   refine mem_cons_of_mem _ (ih ?_)
   dsimp only at h
   split at h<;>(rw[lookup_cons,e']at h;exact h)
theorem clos_step {env:Env}:∀(ns:List (Str×NameKind)) (acc:List (Str×Addr)),(∀y∈ns,y.2=.free→∃c,env.cells.lookup y.1=some c)→
 (∀x c,acc.lookup x=some c→env.cells.lookup x=some c)→
 ∃cl:List (Str×Addr),(forIn ns acc fun x r=>(match x with | (name,kind)=>if(kind==NameKind.free)=true then do let c ←cellOf env name;pure (ForInStep.yield ((name,c)::r)) else pure (ForInStep.yield r):Sem (ForInStep (List (Str×Addr)))):Sem (List (Str×Addr)))=pure cl∧
  (∀x c,cl.lookup x=some c→env.cells.lookup x=some c)∧(∀x,(x,NameKind.free)∈ns→∃c,cl.lookup x=some c)∧∀x c,acc.lookup x=some c→∃c',cl.lookup x=some c'
 |[],acc,_,hacc=>⟨acc,rfl,hacc,fun _ h=>absurd h (by simp),fun x c h=>⟨c,h⟩⟩
 |(n,k)::r,acc,hfr,hacc=>by
  by_cases q:(k==NameKind.free)=true
  ·have hk:k=.free:=by cases k<;>first | rfl | (simp at q)
   subst hk
   obtain⟨c,hc⟩:=hfr (n,.free) mem_cons_self rfl
   have hof:cellOf env n=pure c:=by unfold cellOf;rw[hc]
   obtain⟨cl,h1,h2,h3,h4⟩:=clos_step (env:=env) r ((n,c)::acc) (fun y hy=>hfr y (mem_cons_of_mem _ hy)) (fun x c' h=>by
    by_cases e:(x==n)=true
    ·have ex:x=n:=by simpa using e
     subst ex
     rw[lookup_cons,e]at h
     have:c=c':=by simpa using h
     rw[←this];exact hc
    ·have e':(x==n)=false:=by simpa using e
     rw[lookup_cons,e']at h
     exact hacc x c' h)
   refine⟨cl,?_,h2,fun x hx=>?_,fun x c' h=>?_⟩
   ·rw[List.forIn_cons]
    dsimp only
    rw[if_pos q,hof]
    exact h1
   ·rcases mem_cons.mp hx with e | e
    ·cases e
     exact h4 n c (by simp)
    ·exact h3 x e
   ·by_cases e:(x==n)=true
    ·have ex:x=n:=by simpa using e
     subst ex
     exact h4 x c (by simp)
    ·have e':(x==n)=false:=by simpa using e
     exact h4 x c' (by rw[lookup_cons,e'];exact h)
  ·obtain⟨cl,h1,h2,h3,h4⟩:=clos_step (env:=env) r acc (fun y hy=>hfr y (mem_cons_of_mem _ hy)) hacc
   refine⟨cl,?_,h2,fun x hx=>?_,h4⟩
   ·rw[List.forIn_cons]
    dsimp only
    rw[if_neg q]
    exact h1
   ·rcases mem_cons.mp hx with e | e
    ·cases e
     exact absurd rfl q
    ·exact h3 x e
theorem clos_of {env:Env}{scope:Scope}(hfr:∀y∈scope.names,y.2=.free→∃c,env.cells.lookup y.1=some c) :
 ∃cl:List (Str×Addr),closureFor scope env=pure cl∧(∀x c,cl.lookup x=some c→env.cells.lookup x=some c)∧∀x,(x,NameKind.free)∈scope.names→∃c,cl.lookup x=some c:=by
 obtain⟨cl,h1,h2,h3,_⟩:=clos_step (env:=env) scope.names [] hfr (fun x c h=>by simp at h)
 refine⟨cl,?_,h2,h3⟩
 unfold closureFor
 dsimp only
 rw[h1]
 rfl
def inner (nt:Nat)(js:List Nat)(σ:St):St:=replicate nt none++js.map fun j=>(σ[j]?).join
def blk (X:Cx)(N:List Str)(scope:Scope)(cl:List (Str×Addr))(C:Addr)(s:Shared)(H:Hp)(fp:List Addr):Cx:=
 {X with N:=N,s₀:=s,H₀:=H,env:=compEnvC scope cl C X.env,outer:=X.stack,ex:=fp,fn:=fun _=>false,pn:=[],xe:=fun _ _=>False}
structure Blk (sc:Scope)(N0:List Str)(N:List Str)(nt:Nat)(js:List Nat)(scope:Scope):Prop where
 kind:scope.kind=.function
 loc:∀y∈scope.names,y.2=.local→scope.names.lookup y.1=some .local
 nocell:∀y∈scope.names,y.2≠.cell
 cap:∀y∈scope.names,y.2=.free→sc.names.lookup y.1=some .cell∨sc.names.lookup y.1=some .free
 len:N.length=nt+js.length
 out:N.drop nt=js.map fun j=>N0.getD j ""
 js:∀j∈js,j<N0.length
 fr:∀x∈N.drop nt,scope.names.lookup x=some .free
 nd:N.Nodup
theorem inner_get {nt:Nat}{js:List Nat}{σ:St}{i:Nat}{v:V}(h:(inner nt js σ)[i]?=some (some v)):∃k j,i=nt+k∧js[k]?=some j∧σ[j]?=some (some v):=by
 unfold inner at h
 by_cases hi:i<nt
 ·rw[getElem?_append_left (by simpa using hi),List.getElem?_replicate,if_pos hi]at h
  cases h
 ·rw[getElem?_append_right (by simpa using hi),length_replicate,List.getElem?_map]at h
  cases e:js[i - nt]? with
  |none=>rw[e]at h;cases h
  |some j=>
   rw[e]at h
   refine⟨i - nt,j,by omega,e,?_⟩
   have h':(σ[j]?).join=some v:=by simpa using h
   cases e2:σ[j]? with
   |none=>rw[e2]at h';cases h'
   |some o=>rw[e2]at h';cases o with
    |none=>cases h'
    |some w=>have:w=v:=by simpa using h'
             rw[this]
section
variable {X:Cx}{pins:List (Addr×Obj)}{σ:St}{H:Hp}{s:Shared}{N:List Str}{nt:Nat}{js:List Nat}{scope:Scope}{cl:List (Str×Addr)}{fp:List Addr}
theorem blk_start {h':Heap}{tk:Nat}(I:Inv X pins σ H s)(B:Blk X.env.scope X.N N nt js scope)
 (c1:∀x c,cl.lookup x=some c→X.env.cells.lookup x=some c) (c2:∀x,(x,NameKind.free)∈scope.names→∃c,cl.lookup x=some c)
 (hf:∀b∈fp,FpOk X pins H b) (hlt:∀b∈fp,b<s.heap.objs.size)
 (kp:∀b o,s.heap.get? b=some o→h'.get? b=some o) (hC:h'.Ns (s.heap.objs.size+1) fun _=>none)
 (hD:h'.get? s.heap.objs.size=some {cls:=.type "list",data:=.seq ([]:List Value).toArray 0}) :
 Inv (blk X N scope cl (s.heap.objs.size+1) s H fp) [] (inner nt js σ) (upd H s.heap.objs.size (.lst [])) {s with heap:=h',toks:=tk}:=by
 have hfr:∀a,s.heap.objs.size≤a→H a=none:=fun a ha=>I.hok.fresh ha
 have cold:∀x c,X.env.cells.lookup x=some c→c<s.heap.objs.size:=fun x c e=>by
  obtain⟨v,q⟩:=I.cell x c e
  exact q.lt
 refine⟨⟨I.ok.mod,B.kind,I.ok.glob,I.ok.blt,Nat.le_succ _,fun x y c a b=>I.ok.inj x y c (c1 x c a) (c1 y c b),fun x hx=>?_,fun x c z _=>absurd z Bool.false_ne_true,I.ok.hd,I.ok.frames,.inl rfl,fun b hb=>?_,I.bs,Nat.le_trans I.ok.bsz I.sz,fun b o e hb=>?_,fun b hb z=>?_,I.stack,I.stkFree⟩,
  rfl,I.bare,Un.laid kp (Nat.le_refl _) (hfr _ (Nat.le_refl _)),⟨_,hC,fun i x v h1 h2 h3=>?_⟩,fun x c e=>?_,?_,fun x c e=>?_,fun p hp=>absurd (show p∈([]:List (Addr×Obj)) from hp) (by simp),I.hok.laid kp (Nat.le_refl _) ⟨Nat.zero_le _,[],0,.nil,hD⟩,?_⟩
 ·have:(x,NameKind.free)∈scope.names:=hx.elim (fun z=>relab_back B.nocell (.inl rfl) z) fun z=>relab_back B.nocell (.inr rfl) z
  exact c2 x this
 ·refine⟨Nat.ne_of_lt (Nat.lt_succ_of_lt (hlt b hb)),fun x c e=>(hf b hb).2.2.2.2.1 x c (c1 x c e)⟩
 ·rcases(hf b hb).2.2.2.1 with z | z
  ·exact I.ok.noex b o e z
  ·exact absurd (Nat.lt_of_lt_of_le (lt_size (I.ok.bs b o e).1) z) (Nat.lt_irrefl _)
 ·rcases mem_cons.mp (I.stkSub b z) with q | q
  ·exact(hf b hb).2.1 q
  ·exact(hf b hb).2.2.1 q
 ·obtain⟨k,j,rfl,hk,hv⟩:=inner_get h2
  have hkl:k<js.length:=(List.getElem?_eq_some_iff.mp hk).1
  have h1':(N.drop nt)[k]?=some x:=by rw[getElem?_drop];exact h1
  have hxm:x∈N.drop nt:=mem_of_getElem? h1'
  have hfree:scope.names.lookup x=some .free:=B.fr x hxm
  have hj:X.N[j]?=some x:=by
   rw[B.out,List.getElem?_map,hk]at h1'
   have hjl:j<X.N.length:=B.js j (mem_of_getElem? hk)
   rw[List.getElem?_eq_getElem hjl]
   have e:X.N.getD j "" = x:=by simpa using h1'
   rw[←e]
   simp[getD_eq_getElem?_getD,List.getElem?_eq_getElem hjl]
  have hcap:=B.cap _ (PySem.mem_of_lookup hfree) rfl
  obtain⟨m,hn,hl⟩:=I.loc
  obtain⟨u,ru,lk⟩:=hl j x v hj hv (hcap.elim (fun z=>.inr (.inl z)) fun z=>.inr (.inr z))
  refine⟨u,ru,.inr ⟨relab_free hfree,?_⟩⟩
  rcases lk with⟨z,_⟩ | ⟨_,c,e,q⟩
  ·exact absurd (show X.env.scope.names.lookup x=some .local from z) (by rcases hcap with y | y<;>(rw[y];decide))
  ·obtain⟨c',e'⟩:=c2 x (PySem.mem_of_lookup hfree)
   have ec:=c1 x c' e'
   rw[e]at ec
   cases ec
   obtain⟨o,ho,hd⟩:=q
   exact⟨c,e',o,kp c o ho,hd⟩
 ·obtain⟨v,o,ho,hd⟩:=I.cell x c (c1 x c e)
  exact⟨v,o,kp c o ho,hd⟩
 ·show upd H _ _ (s.heap.objs.size+1)=none
  rw[upd_ne (Nat.ne_of_gt (Nat.lt_succ_self _))]
  exact hfr _ (Nat.le_succ _)
 ·show upd H _ _ c=none
  rw[upd_ne (Nat.ne_of_lt (cold x c (c1 x c e)))]
  exact I.freeC x c (c1 x c e)
 ·show(inner nt js σ).length=N.length
  unfold inner
  rw[length_append,length_replicate,length_map,B.len]
end
def PTs (X:Cx)(ifs:List Expr)(t:TT):Prop:=
 ∀(pins:List (Addr×Obj)) (s:Shared) (σ:St) (H:Hp) (Q:Bool→Hp→Prop),Inv X pins σ H s→t σ H Q→
  wpAny (model X.prog X.w) X.A (forIn ifs true fun c r=>if r=true then do let ok ←isTrue c X.env (eval c X.env);pure (ForInStep.yield ok) else pure (ForInStep.yield r)) (TP X pins σ Q) X.xe s
def tYes:TT:=fun _ H Q=>Q true H
theorem pts_nil {X:Cx}:PTs X [] tYes:=fun _ _ _ H _ I h=>wpAny_tests_nil ⟨H,I,h⟩
theorem pts_one {X:Cx}{c:Expr}{t:TT}(h:PT X c t):PTs X [c] t:=fun pins s σ H Q I q=>wpAny_tests_one (h pins s σ H Q I q)
section
variable {prog:Program}{w:World}{A:Around}{s:Shared}{R:Result→Shared→Prop}
theorem comp_turns {elt tg iter:Expr}{ifs:List Expr}{scope:Scope}{pos:Pos}{it acc:Value}{env:Env}(J:Nat→Shared→Prop)
 (turn:∀n s,J n s→wpAny (model prog w) A (pyNext it) (fun r s1=>match r with
  |none=>R (.ok .next) s1
  |some v=>wpAny (model prog w) A (letOwnedTupleGo tg it v) (fun _ s2=>wpAny (model prog w) A (assign tg env v) (fun _ s3=>
   wpAny (model prog w) A (forIn ifs true fun c r=>if r=true then do let ok ←isTrue c env (eval c env);pure (ForInStep.yield ok) else pure (ForInStep.yield r)) (fun ok s4=>
    if ok=true then wpAny (model prog w) A (eval elt env) (fun x s5=>wpAny (model prog w) A (call (.builtin "list.append") [acc,x]) (fun _ s6=>∃m,m<n∧J m s6) (fun _ _=>False) s5) (fun _ _=>False) s4
    else ∃m,m<n∧J m s4) (fun _ _=>False) s3) (fun _ _=>False) s2) (fun _ _=>False) s1) (fun _ _=>False) s)
 (n:Nat) (h:J n s):codeAny (model prog w) A (.compLoop (.ListComp elt [⟨tg,iter,ifs,0⟩] scope pos) 0 it acc env) R s:=by
 refine codeAny_loop rfl J (fun k s' hJ=>?_) n h
 show wpAny _ A ((compTurn (.ListComp elt [⟨tg,iter,ifs,0⟩] scope pos) 0 it acc env).onRaise (fun x=>do noteFrame x env;theTreesLotGoes x)) _ _ s'
 refine wpAny_noted ?_
 rw[compTurn_list]
 refine wpAny_bind (wpAny_standAt (wpAny_bind (wpAny_mono (turn k s' hJ) (fun r s1 q1=>?_) fun _ _ z=>z.elim)))
 cases r with
 |none=>exact wpAny_pure q1
 |some v=>
  refine wpAny_bind (wpAny_mono q1 (fun _ s2 q2=>wpAny_bind (wpAny_mono q2 (fun _ s3 q3=>wpAny_bind (wpAny_mono q3 (fun ok s4 q4=>?_) fun _ _ z=>z.elim)) fun _ _ z=>z.elim)) fun _ _ z=>z.elim)
  cases ok with
  |false=>exact wpAny_pure ⟨rfl,q4⟩
  |true=>exact wpAny_bind (wpAny_bind (wpAny_mono q4 (fun x s5 q5=>wpAny_bind (wpAny_mono q5 (fun _ s6 q6=>wpAny_pure (wpAny_pure ⟨rfl,q6⟩)) fun _ _ z=>z.elim)) fun _ _ z=>z.elim))
end
def cmpW (J:It)(g:TG)(tt:TT)(te:TE)(Q:VK)(D:Addr)(σ0:St)(H1:Hp):Prop:=∃W:Nat→Nat→St→Hp→Prop,(∃m,W 0 m σ0 (upd H1 D (.lst [])))∧
 ∀i m σ' H',W i m σ' H'→(J.stop i H'∧Q (.ref D) H')∨(J.go i H'∧∀x H2,J.yld i H' x H2→g x σ' H2 fun σ3 H3=>tt σ3 H3 fun ok H4=>
  if ok=true then te σ3 H4 fun y H5=>∃ys,H5 D=some (.lst ys)∧ys.length<sizeLine∧∃m',m'<m∧W (i+1) m' σ3 (upd H5 D (.lst (ys++[y]))) else ∃m',m'<m∧W (i+1) m' σ3 H4)
def tComp (nt:Nat)(js:List Nat)(wi:TI)(g:TG)(tt:TT)(te:TE):TE:=fun σ H Q=>wi σ H fun J H1=>∀D,H1 D=none→cmpW J g tt te Q D (inner nt js σ) H1
theorem pe_comp {X:Cx}{elt tg iter:Expr}{ifs:List Expr}{scope:Scope}{pos:Pos}{N:List Str}{nt:Nat}{js:List Nat}{sc:Scope}{N0:List Str}{wi:TI}{g:TG}{tt:TT}{te:TE}
 (hc:X.calm=true) (hsc:X.env.scope=sc) (hN:X.N=N0) (B:Blk sc N0 N nt js scope) (hi:PI X tg iter wi)
 (hg:∀cl C s H fp,PG (blk X N scope cl C s H fp) tg g) (ht:∀cl C s H fp,PTs (blk X N scope cl C s H fp) ifs tt) (he:∀cl C s H fp,PE (blk X N scope cl C s H fp) elt te)
 (hs:∀x,foldedSetIterable iter X.env x=pure x:=by intro _;rfl):PE X (.ListComp elt [⟨tg,iter,ifs,0⟩] scope pos) (tComp nt js wi g tt te):=by
 subst hsc hN
 intro pins s σ H Q I h
 obtain⟨cl,hcl,c1,c2⟩:=clos_of (env:=X.env) (scope:=scope) fun y hy hk=>I.ok.has y.1 (B.cap y hy hk)
 rw[eval_ListComp]
 refine wpAny_comprehension_free (use:=none) rfl hs hcl B.kind B.loc (thn (hi pins s σ H _ I h) fun v s1 q1=>thn q1 fun itv s2 q2=>?_)
 obtain⟨it,fp,tn,J,H2,e,I2,T,st2,f2,q2⟩:=q2
 subst e
 obtain⟨W,⟨m0,w0⟩,turn⟩:=q2 s2.heap.objs.size (I2.hok.fresh (Nat.le_refl _))
 have hlt:∀b∈fp,b<s2.heap.objs.size:=fun b hb=>by
  obtain⟨o,eo,_⟩:=T.obj _ _ st2 b hb
  exact lt_size eo
 refine wpAny_newObj_type (wpAny_newFunctionEnv B.nocell (by intro y hy;simp at hy) (fun h1 hns hsb=>?_) B.kind)
 dsimp only at hns hsb ⊢
 have hsz:(s2.heap.push {cls:=.type "list",dict:=none,data:=.seq ([]:List Value).toArray}).objs.size=s2.heap.objs.size+1:=by rw[Heap.size_push]
 have old:∀b o,s2.heap.get? b=some o→h1.get? b=some o:=fun b o eb=>hsb.extBut b o (by rw[hsz];exact Nat.ne_of_lt (Nat.lt_succ_of_lt (lt_size eb))) (get?_push_of_some _ (get?_push_of_some _ eb))
 have hD:h1.get? s2.heap.objs.size=some {cls:=.type "list",data:=.seq ([]:List Value).toArray 0}:=hsb.extBut _ _ (by rw[hsz];exact Nat.ne_of_lt (Nat.lt_succ_self _)) (get?_push_of_some _ (get?_push_size _ rfl))
 rw[hsz]at hns
 have I3:=blk_start (cl:=cl) (fp:=fp) (tk:=s2.toks+([]:List (Str×Value)).length) I2 B c1 c2 f2 hlt old (show h1.Ns (s2.heap.objs.size+1) fun _=>none from hns) hD
 have stat:∀{H':Hp},(∀b∈fp,H' b=none)→∀b∈fp,FpOk (blk X N scope cl (s2.heap.objs.size+1) s2 H2 fp) [] H' b:=fun{H'} hn b hb=>
  ⟨hn b hb,Nat.ne_of_lt (Nat.lt_succ_of_lt (hlt b hb)),fun z=>(mem_cons.mp (I2.stkSub b z)).elim (f2 b hb).2.1 (f2 b hb).2.2.1,.inl hb,fun x c ec=>(f2 b hb).2.2.2.2.1 x c (c1 x c ec),fun p hp=>absurd (show p∈([]:List (Addr×Obj)) from hp) (by simp)⟩
 have fin:∀{i:Nat} {σ':St} {H':Hp} {s':Shared},Inv (blk X N scope cl (s2.heap.objs.size+1) s2 H2 fp) [] σ' H' s'→Q (.ref s2.heap.objs.size) H'→
  compPost (model X.prog X.w) X.A X.xe none (EP X pins σ Q) (.ref s2.heap.objs.size) (s2.heap.objs.size+1) (.ok .next) s':=fun{i σ' H' s'} Ib q=>by
  obtain⟨m,hn,_⟩:=id Ib.loc
  refine⟨m,hn,fun h'' hs''=>?_⟩
  have I4:Inv X pins σ H' s':=I2.call' Ib.os Ib.base Ib.hok Ib.bare fun b hb=>⟨(f2 b hb).2.2.2.1,(f2 b hb).2.1,(f2 b hb).2.2.2.2.1,(f2 b hb).2.2.2.2.2⟩
  obtain⟨g0,g1,g2,g3,g4,g5⟩:=I2.fpOk (H':=H') (Nat.le_succ _) Ib.free
  exact⟨.ref s2.heap.objs.size,H',I4.turned (t':=s'.toks) (fun b o hb eb=>hs''.extBut b o hb eb) g0 g1 g3 g4 g5,rfl,q⟩
 have loop:codeAny (model X.prog X.w) X.A (.compLoop (.ListComp elt [⟨tg,iter,ifs,0⟩] scope pos) 0 (.ref it) (.ref s2.heap.objs.size) (compEnvC scope cl (s2.heap.objs.size+1) X.env))
  (compPost (model X.prog X.w) X.A X.xe none (EP X pins σ Q) (.ref s2.heap.objs.size) (s2.heap.objs.size+1)) {s2 with heap:=h1,toks:=s2.toks+([]:List (Str×Value)).length}:=by
  refine comp_turns (fun n s'=>∃i σ' H',Inv (blk X N scope cl (s2.heap.objs.size+1) s2 H2 fp) [] σ' H' s'∧tn i s'.heap∧(∀b∈fp,H' b=none)∧W i n σ' H') ?_ m0
   ⟨0,_,_,I3,T.keep _ _ _ st2 fun b _ o eb=>old b o eb,fun b hb=>?_,w0⟩
  ·rintro n s3 ⟨i,σ3,H3,J3,st3,fr3,w3⟩
   rcases turn i n σ3 H3 w3 with⟨stop,qn⟩ | ⟨go,step⟩
   ·refine thn (T.done (blk X N scope cl (s2.heap.objs.size+1) s2 H2 fp) rfl rfl rfl hc i [] s3 σ3 H3 _ J3 (stat fr3) st3 stop) fun r s4 ⟨hr,I4⟩=>?_
    subst hr
    exact fin (i:=i) I4 qn
   ·refine thn (T.item (blk X N scope cl (s2.heap.objs.size+1) s2 H2 fp) rfl rfl rfl hc i [] s3 σ3 H3 _ J3 (stat fr3) st3 go) fun r s4 ⟨u,hr,h4⟩=>?_
    subst hr
    refine thn h4 fun _ s5 ⟨x,H5,I5,r5,y5,st5,fr5⟩=>?_
    have I5':=I5.pinned (stat fr5) (T.obj _ _ st5)
    refine thn (hg _ _ _ _ _ _ s5 σ3 H5 x u _ I5' r5 (step x H5 y5)) fun _ s6 ⟨σ6,H6,I6,q6⟩=>?_
    have again:∀{σ7:St} {H7:Hp} {s7:Shared} {k:Nat},Inv (blk X N scope cl (s2.heap.objs.size+1) s2 H2 fp) ([]++pinsAt fp s5.heap) σ7 H7 s7→k<n→W (i+1) k σ7 H7→
     ∃k,k<n∧∃i σ' H',Inv (blk X N scope cl (s2.heap.objs.size+1) s2 H2 fp) [] σ' H' s7∧tn i s7.heap∧(∀b∈fp,H' b=none)∧W i k σ' H':=fun{σ7 H7 s7 k} I7 hk w7=>by
     refine⟨k,hk,i+1,σ7,H7,I7.unpinned,T.keep _ _ _ st5 fun b hb o eb=>(I7.pin (b,o) (mem_append_right _ (mem_append_right _ (mem_pinsAt hb eb)))).1,fun b hb=>?_,w7⟩
     obtain⟨o,eb,_⟩:=T.obj _ _ st5 b hb
     exact(I7.pin (b,o) (mem_append_right _ (mem_append_right _ (mem_pinsAt hb eb)))).2.1
    refine thn (ht _ _ _ _ _ _ s6 σ6 H6 _ I6 q6) fun ok s7 ⟨H7,I7,q7⟩=>?_
    cases ok with
    |false=>
     rw[if_neg Bool.false_ne_true]at q7 ⊢
     obtain⟨k,hk,w7⟩:=q7
     exact again I7 hk w7
    |true=>
     rw[if_pos rfl]at q7 ⊢
     refine thn (he _ _ _ _ _ _ s7 σ6 H7 _ I7 q7) fun y s8 ⟨v8,H8,I8,r8,ys,e8,z8,k,hk,w8⟩=>?_
     refine thn (mt_append _ s8 σ6 H8 (.ref s2.heap.objs.size) [v8] _ [y] (fun _ H9=>W (i+1) k σ6 H9) I8 rfl (.cons r8 .nil) ⟨_,ys,v8,rfl,rfl,e8,z8,w8⟩) fun _ s9 ⟨_,H9,I9,_,w9⟩=>?_
     exact again I9 hk w9
  ·show upd H2 _ _ b=none
   rw[upd_ne (Nat.ne_of_lt (hlt b hb))]
   exact(f2 b hb).1
 rw[hsz]
 exact codeAny_compStart_list loop (T.self _ 0 _ _ _ (T.keep _ _ _ st2 fun b _ o eb=>old b o eb) loop)
section
variable {X:Cx}
theorem same_bl {x:V}{v:Value}(r:RelV x v)(k:Bool):(v==Value.bool k)=decide (x=.bl k)∧plainIs v (.bool k)=true:=by
 cases x with
 |non=>cases(show v=Value.none from r);exact⟨by cases k<;>rfl,rfl⟩
 |bl b=>cases(show v=Value.bool b from r);exact⟨by cases b<;>cases k<;>rfl,rfl⟩
 |int i=>obtain⟨t,rfl⟩:=(show ∃t,v=Value.int i t from r);exact⟨rfl,rfl⟩
 |str i=>obtain⟨t,rfl⟩:=(show ∃t,v=Value.str i t from r);exact⟨rfl,rfl⟩
 |byt i=>obtain⟨t,rfl⟩:=(show ∃t,v=Value.bytes i t from r);exact⟨rfl,rfl⟩
 |flt i=>obtain⟨t,rfl⟩:=(show ∃t,v=Value.float i t from r);exact⟨rfl,rfl⟩
 |ref a=>cases(show v=Value.ref a from r);exact⟨rfl,rfl⟩
 |ty n=>cases(show v=Value.type n from r);exact⟨rfl,rfl⟩
theorem op_isntB:OpR X (compareOp .IsNot) (fun x y H Q=>∃k,y=.bl k∧Q (.bl (!decide (x=.bl k))) H):=by
 intro pins s σ H x y v u Q I rx ry h
 obtain⟨k,rfl,q⟩:=h
 cases(show u=Value.bool k from ry)
 exact wpAny_isNot_plain (same_bl rx k).2 (fin_bl I q (by rw[(same_bl rx k).1]))
inductive Kn (H:Hp):V→String→Prop where
 |non:Kn H .non "NoneType"
 |bl (b:Bool):Kn H (.bl b) "bool"
 |int (i:Int):Kn H (.int i) "int"
 |str (x:Str):Kn H (.str x) "str"
 |lst {a:Addr} {xs:List V} (e:H a=some (.lst xs)):Kn H (.ref a) "list"
 |tup {a:Addr} {xs:List V} (e:H a=some (.tup xs)):Kn H (.ref a) "tuple"
 |dK {a:Addr} {kvs:List (Key×V)} (e:H a=some (.dK kvs)):Kn H (.ref a) "dict"
theorem Kn.ty {K:W.Frag}{H:Hp}{v:V}{T:String}(h:Kn H v T):TyOf K H v (.type T):=by
 cases h with
 |non=>exact .non
 |bl b=>exact .bl b
 |int i=>exact .int i
 |str x=>exact .str x
 |lst e=>exact .lst e
 |tup e=>exact .tup e
 |dK e=>exact .dK e
def subT (T U:String):Bool:=T==U||(T=="bool"&&U=="int")
theorem kit_int {K:W.Frag}{H:Hp}{v:V}{T:String}(h:Kn H v T):PySem.W.kitOne K (.type T) (.type "int")=some (subT T "int"):=by
 cases h<;>rfl
theorem kit_bool {K:W.Frag}{H:Hp}{v:V}{T:String}(h:Kn H v T):PySem.W.kitOne K (.type T) (.type "bool")=some (subT T "bool"):=by
 cases h<;>rfl
theorem kit_tuple {K:W.Frag}{H:Hp}{v:V}{T:String}(h:Kn H v T):PySem.W.kitOne K (.type T) (.type "tuple")=some (subT T "tuple"):=by
 cases h<;>rfl
theorem kit_list {K:W.Frag}{H:Hp}{v:V}{T:String}(h:Kn H v T):PySem.W.kitOne K (.type T) (.type "list")=some (subT T "list"):=by
 cases h<;>rfl
theorem call_isi:CallR X (.builtin "isinstance") (fun xs H Q=>∃x T U,xs=[x,.ty U]∧Kn H x T∧(U="int"∨U="bool"∨U="tuple"∨U="list")∧Q (.bl (subT T U)) H):=by
 intro pins s σ H xs us Q I r h
 obtain⟨x,T,U,rfl,hk,hU,q⟩:=h
 obtain⟨u,c,rfl,rx,rc⟩:=vals2 r
 cases(show c=Value.type U from rc)
 refine isinst_ok I rx hk.ty (b:=subT T U) ?_ fun tk=>⟨.bl (subT T U),H,I.tok tk,rfl,q⟩
 rcases hU with rfl | rfl | rfl | rfl
 ·exact kit_int hk
 ·exact kit_bool hk
 ·exact kit_tuple hk
 ·exact kit_list hk
theorem call_allB (hc:X.calm=true):CallR X (.builtin "all") (fun xs H Q=>∃(p:Addr) (bs:List Bool),xs=[.ref p]∧SqL X.K H p (bs.map V.bl)∧Q (.bl (bs.all id)) H):=by
 intro pins s σ H xs us Q I r h
 obtain⟨p,bs,rfl,hq,q⟩:=h
 obtain⟨u,rfl,rx⟩:=vals1 r
 cases(show u=Value.ref p from rx)
 obtain⟨its,r',pl,hz⟩:=I.list hq
 have hsz:its.length=bs.length:=by have:=r'.length;rw[length_map]at this;exact this.symm
 refine call_all_walk (wpAny_pyIter_list pl.isList ?_)
 have hne:p≠s.heap.objs.size:=by
  obtain⟨o,ho,_⟩:=pl.isList
  exact Nat.ne_of_lt (lt_size ho)
 refine⟨_,_,_,its.toArray.size,_,_,fun i=>bs.getD i true,rfl,Walks.list (A:=X.A.in1) (show X.A.in1.handled=none from I.ok.hd hc) s.heap.objs.size p hne its.toArray,⟨⟨_,get?_push_size _ rfl,rfl,rfl⟩,pl.isList.push _⟩,?_,?_⟩
 ·intro i v s' Q' E' hP hQ
  have hv:its[i]?=some v:=by simpa using hP
  have hi:i<its.length:=(List.getElem?_eq_some_iff.mp hv).1
  have hb:(bs.map V.bl)[i]?=some (V.bl (bs.getD i true)):=by
   rw[List.getElem?_map,List.getElem?_eq_getElem (by omega)]
   simp[getD_eq_getElem?_getD,List.getElem?_eq_getElem (show i<bs.length by omega)]
  obtain⟨w',hw,rw'⟩:=r'.get hb
  rw[hv]at hw
  cases hw
  cases(show v=Value.bool _ from rw')
  exact wpAny_truthy_bool hQ
 ·intro h' tk hk
  have e:(List.range its.toArray.size).all (fun i=>bs.getD i true)=bs.all id:=by
   rw[size_toArray,hsz]
   rw[Bool.eq_iff_iff,all_eq_true,all_eq_true]
   constructor
   ·intro h1 x hx
    obtain⟨i,hi,rfl⟩:=List.getElem_of_mem hx
    have:=h1 i (mem_range.mpr hi)
    rw[getD_eq_getElem?_getD,List.getElem?_eq_getElem hi]at this
    exact this
   ·intro h1 i hi
    have hi':=mem_range.mp hi
    rw[getD_eq_getElem?_getD,List.getElem?_eq_getElem hi']
    exact h1 _ (getElem_mem hi')
  rw[e]
  refine⟨.bl (bs.all id),H,I.kept (t':=tk) fun b o eb=>hk b o (fun z=>?_) (get?_push_of_some _ eb),rfl,q⟩
  have:b=s.heap.objs.size:=by simpa using z
  exact absurd (lt_size eb) (by rw[this];exact Nat.lt_irrefl _)
def rCatA (K:W.Frag):R2:=fun x y H Q=>∃a b xs ys,x=.ref a∧y=.ref b∧H a=some (.tup xs)∧H b=some (.tup ys)∧xs.length+ys.length≤sizeLine∧
 ∀p H',Same H H'→H' p=some (.tup (xs++ys))→Q (.ref p) H'
theorem same_new {H:Hp}{p:Addr}(h:H p=none)(o:HO):Same H (upd H p o):=fun b u q=>by rw[upd_ne (ne_of_none q h)];exact q
theorem op_catA:OpR X (binaryOp .Add) (rCatA X.K):=by
 intro pins s σ H x y v u Q I rx ry h
 obtain⟨a,b,xs,ys,rfl,rfl,ha,hb,hz,q⟩:=h
 cases(show v=Value.ref a from rx)
 cases(show u=Value.ref b from ry)
 obtain⟨its,r1,t1,z1⟩:=I.tuple (SqT.of ha)
 obtain⟨jts,r2,t2,z2⟩:=I.tuple (SqT.of hb)
 have l1:=r1.length
 have l2:=r2.length
 by_cases hx:its=[]
 ·subst hx
  have ex:xs=[]:=length_eq_zero_iff.mp l1
  subst ex
  obtain⟨⟨cls,dd,data,sl⟩,ho,hc,n,hd⟩:=id t1
  obtain⟨⟨cls2,dd2,data2,sl2⟩,ho2,hc2,n2,hd2⟩:=id t2
  simp only at hc hd hc2 hd2
  subst hc hd hc2 hd2
  exact concat_meets ⟨_,ho,rfl⟩ ⟨_,ho2,rfl⟩ noFill_tuple_add seq_tuple_add PySem.F.slot_tuple_add PySem.F.entry_tuple_add (PySem.F.args_tuple_add_2 _ _)
   (tuple_addW0 a b ([]:List Value).toArray jts.toArray n n2 dd dd2 sl sl2 rfl) ⟨ho,ho2,⟨.ref b,H,I,rfl,q b H (Same.refl H) hb⟩⟩
 ·refine HT.cat_tup t1 t2 hx (fun e=>?_) (fun e=>?_) (by omega)
  ·subst e
   have ey:ys=[]:=length_eq_zero_iff.mp l2
   subst ey
   exact⟨.ref a,H,I,rfl,q a H (Same.refl H) (by rw[append_nil];exact ha)⟩
  ·have fr:=I.hok.fresh (Nat.le_refl s.heap.objs.size)
   refine⟨.ref s.heap.objs.size,_,I.laid (t':=s.toks) (o:=.tup (xs++ys)) (fun b ob q=>get?_push_of_some _ q) (Nat.le_refl _) ?_,rfl,q _ _ (same_new fr _) upd_same⟩
   exact⟨by rw[length_append];exact hz,_,r1.append r2,IsTup.new _ _⟩
def rSlA:V→Option Int→Option Int→Hp→VK→Prop:=fun x lo hi H Q=>∃a xs,x=.ref a∧H a=some (.tup xs)∧∀p H',Same H H'→H' p=some (.tup (cutV xs lo hi))→Q (.ref p) H'
end
section
variable {prog:Program}{w:World}{A:Around}{E:Value→Shared→Prop}{s:Shared}
theorem tup_at {t:Addr}{items:Array Value}{k:Value}{Q:Value→Shared→Prop}(ht:IsTup s.heap t items)
 (h:wpAny (model prog w) A.in1 (Builtin.«tuple.__getitem__» ⟨[.ref t,k],[]⟩) (fun fin s'=>∃v,fin=.done (.ret v)∧Q v s') E s):wpAny (model prog w) A (getItem (.ref t) k) Q E s:=by
 have sl:=slot_tuple_getitem
 unfold getItem
 wp_walk using wpAny_sequenceKey ht.typeIs (by decide),wpAny_callSpecial?_slot (name:=Str.ofString "__getitem__") ht.typeIs sl (wpAny_call_entry sl ht.typeIs entry_tuple_getitem (wpAny_mono h (fun fin s' ⟨v,e,q⟩=>⟨v,e,wpAny_pure q⟩) fun _ _ e=>e) (args_tuple_getitem _ _))
theorem cut_whole {t sl:Addr}{items:Array Value}{vl vu:Value}{lo hi:Option Int}{Q:Value→Shared→Prop}(ht:IsTup s.heap t items)(hs:s.heap.IsSliceOf sl vl vu .none)(pl:IsPart vl lo)(pu:IsPart vu hi)
 (hw:HT.sIx items.size 0 lo=0∧HT.sIx items.size items.size hi=items.size) (h:Q (.ref t) s):wpAny (model prog w) A (getItem (.ref t) (.ref sl)) Q E s:=by
 have f1:s.TypeIs (.ref sl) "slice":=let⟨o,ho,hc,_⟩:=hs;⟨o,ho,hc⟩
 have f2:=ht.typeIs
 refine tup_at ht ?_
 wp_walk using tupleItemsOf_ ht,HT.sliceApplied_gen hs pl pu
 exact⟨_,rfl,h⟩
end
section
variable {X:Cx}
theorem sl_tupA:SlR X rSlA:=by
 intro pins s σ H x v vl vu lo hi sl Q I rx hs pl pu h
 obtain⟨a,xs,rfl,hx,q⟩:=h
 cases(show v=Value.ref a from rx)
 by_cases hw:HT.sIx xs.length 0 lo=0∧HT.sIx xs.length xs.length hi=xs.length
 ·obtain⟨its,r,ht,hz⟩:=I.tuple (SqT.of hx)
  have hlen:its.toArray.size=xs.length:=by rw[size_toArray];exact r.length.symm
  refine⟨"tuple",_,slot_tuple_getitem.lookup,ht.typeIs,cut_whole ht hs pl pu (by rw[hlen];exact hw) ⟨.ref a,H,I,rfl,q a H (Same.refl H) ?_⟩⟩
  rw[hx]
  unfold cutV
  rw[hw.1,hw.2,drop_zero,Nat.sub_zero,take_length]
 ·exact sl_tup (X:=X) pins s σ H (.ref a) _ vl vu lo hi sl Q I rfl hs pl pu ⟨a,xs,rfl,SqT.of hx,hw,fun p hp=>q p _ (same_new hp _) upd_same⟩
end
structure Nx (P:Program)(w:World)(i l:Addr)(pl:Nat→Heap→Prop)(vs:Array Value):Prop where
 ne:l≠i
 there:∀k h,pl k h→(∃o,h.get? i=some o∧(∃c,o.cls=.type c∧(c="list_iterator"∨c="tuple_iterator"))∧∃f,o.data=.fields f)∧∃o,h.get? l=some o∧(o.cls=.type "list"∨o.cls=.type "tuple")
 keep:∀k h h',pl k h→(∀o,h.get? i=some o→h'.get? i=some o)→(∀o,h.get? l=some o→h'.get? l=some o)→pl k h'
 item:∀(A:Around) k (s:Shared) (Q:Value→Shared→Prop) (E:Value→Shared→Prop) x,pl k s.heap→vs[k]?=some x→(∀h',pl (k+1) h'→Heap.SameBut i s.heap h'→Q x {s with heap:=h'})→
  wpAny (model P w) A (Builtin.SmallTypes.nextOf (.ref i)) Q E s
 done:∀(A:Around) k (s:Shared) (Q:Value→Shared→Prop) (E:Value→Shared→Prop),A.handled=none→pl k s.heap→vs[k]?=none→
   (∀h' e,Heap.ExtBut i s.heap h'→(∃o,h'.get? e=some o∧o.cls=.type "StopIteration")→E (.ref e) {s with heap:=h'})→wpAny (model P w) A (Builtin.SmallTypes.nextOf (.ref i)) Q E s
theorem nx_list {P:Program}{w:World}{i l:Addr}(vs:Array Value)(hne:l≠i):Nx P w i l (fun k h=>h.IsListIter i l k∧h.IsList l vs) vs where
 ne:=hne
 there:=fun k h ⟨⟨o,e,c,d⟩,⟨o',e',c',_⟩⟩=>⟨⟨o,e,⟨_,c,.inl rfl⟩,_,d⟩,o',e',.inl c'⟩
 keep:=fun k h h' ⟨a,b⟩ e1 e2=>⟨a.at e1,b.at e2⟩
 item:=fun A k s Q E x ⟨a,b⟩ hx q=>wpAny_nextOf_list_item a b hx fun h' a' sb=>q h' ⟨a',b.extBut sb.extBut hne⟩ sb
 done:=fun A k s Q E hh ⟨a,b⟩ hx q=>wpAny_nextOf_list_end hh a b hx q
theorem tn_item (it t:Addr)(i:Nat)(dc:Option Addr)(sl:Array (Option Value))(items:Array Value)(x:Value)(hx:items[i]?=some x) :
 Meets (Builtin.«tuple_iterator.__next__» ⟨[.ref it],[]⟩) (fun _ R s=>s.heap.get? it=some ⟨.type "tuple_iterator",dc,.fields #[.ref t,.int i 0],sl⟩∧s.heap.IsTuple t items∧
  ∀h',h'.IsTupleIter it t (i+1)→Heap.SameBut it s.heap h'→R (.ok (.ret x)) {s with heap:=h'}):=
 .of_wp fun prog w A R s h=>by
  obtain⟨hp,g,d,tk,os⟩:=s
  obtain⟨h1,⟨⟨c,dc2,dt,sl2⟩,h2,hc,n,hd⟩,h⟩:=h
  simp only at hc hd
  subst hc hd
  simp only at h1 h2
  wp_walk
  rw[Int.toNat_natCast,hx]
  wp_walk
  exact⟨_,rfl,h _ ⟨_,get?_update_self _ h1 rfl,rfl,rfl⟩ (.update ..)⟩
theorem tn_end (it t:Addr)(i:Nat)(dc:Option Addr)(sl:Array (Option Value))(items:Array Value)(hx:items[i]?=none) :
 Meets (Builtin.«tuple_iterator.__next__» ⟨[.ref it],[]⟩) (fun A R s=>A.handled=none∧s.heap.get? it=some ⟨.type "tuple_iterator",dc,.fields #[.ref t,.int i 0],sl⟩∧s.heap.IsTuple t items∧
  ∀h' e,Heap.ExtBut it s.heap h'→(∃o,h'.get? e=some o∧o.cls=.type "StopIteration")→R (.error (.ref e)) {s with heap:=h'}):=
 .of_wp fun prog w A R s h=>by
  obtain⟨hp,g,d,tk,os⟩:=s
  obtain⟨hh,h1,⟨⟨c,dc2,dt,sl2⟩,h2,hc,n,hd⟩,h⟩:=h
  simp only at hc hd
  subst hc hd
  simp only at h1 h2
  wp_walk
  rw[Int.toNat_natCast,hx]
  wp_walk
  exact wpAny_raiseNew_none hh (h _ _ (fun b o n e=>by repeat (first | exact get?_update_of_ne _ (Ne.symm n) e | refine get?_push_of_some _ ?_)) ⟨_,get?_push_size _ rfl,rfl⟩)
theorem nx_tup {P:Program}{w:World}{i l:Addr}(vs:Array Value)(hne:l≠i):Nx P w i l (fun k h=>h.IsTupleIter i l k∧h.IsTuple l vs) vs where
 ne:=hne
 there:=fun k h ⟨⟨o,e,c,d⟩,⟨o',e',c',_⟩⟩=>⟨⟨o,e,⟨_,c,.inr rfl⟩,_,d⟩,o',e',.inr c'⟩
 keep:=fun k h h' ⟨a,b⟩ e1 e2=>⟨a.at e1,b.at e2⟩
 item:=fun A k s Q E x ⟨a,b⟩ hx q=>by
  obtain⟨⟨c,dc,dt,sl⟩,e,hc,hd⟩:=a
  simp only at hc hd
  subst hc hd
  have hT:s.TypeIs (.ref i) "tuple_iterator":=⟨_,e,rfl⟩
  exact wpAny_bind (wpAny_callSpecial?_slot (name:=Str.ofString "__next__") hT F.slot_tuple_iterator_next (call_meets F.slot_tuple_iterator_next hT F.entry_tuple_iterator_next (F.args_tuple_iterator_next_1 _)
   (tn_item i l k dc sl vs x hx) ⟨e,b,fun h' a' sb=>wpAny_pure (q h' ⟨a',b.extBut sb.extBut hne⟩ sb)⟩))
 done:=fun A k s Q E hh ⟨a,b⟩ hx q=>by
   obtain⟨⟨c,dc,dt,sl⟩,e,hc,hd⟩:=a
   simp only at hc hd
   subst hc hd
   have hT:s.TypeIs (.ref i) "tuple_iterator":=⟨_,e,rfl⟩
   exact wpAny_bind (wpAny_callSpecial?_slot (name:=Str.ofString "__next__") hT F.slot_tuple_iterator_next (call_meets F.slot_tuple_iterator_next hT F.entry_tuple_iterator_next (F.args_tuple_iterator_next_1 _)
    (tn_end i l k dc sl vs hx) ⟨hh,e,b,q⟩))
section
variable {P:Program}{w:World}{A:Around}{E:Value→Shared→Prop}{s:Shared}{z TI TO i j l m:Addr}{p1 p2:Nat→Heap→Prop}{xs ys:Array Value}{k:Nat}
theorem zip_item {x y a b:Value}{Q:Option Value→Shared→Prop}(nd:[z,TI,TO,i,j].Nodup)(c1:l∉[z,TI,TO,i,j])(c2:m∉[z,TI,TO,i,j])(N1:Nx P w i l p1 xs)(N2:Nx P w j m p2 ys)
 (hz:IsZip s.heap z TI TO .none) (hTI:IsPair s.heap TI (.ref i) (.ref j)) (hTO:IsPair s.heap TO a b) (q1:p1 k s.heap) (q2:p2 k s.heap) (hx:xs[k]?=some x) (hy:ys[k]?=some y)
 (hQ:∀h',IsZip h' z TI TO (rawInt s.heap.objs.size)→IsPair h' TO x y→p1 (k+1) h'→p2 (k+1) h'→IsPair h' s.heap.objs.size x y→h'.objs.size=s.heap.objs.size+1→
  (∀c o,c≠z→c≠TO→c≠i→c≠j→s.heap.get? c=some o→h'.get? c=some o)→Q (some (.ref s.heap.objs.size)) {s with heap:=h'}) :
 wpAny (model P w) A (pyNext (.ref z)) Q E s:=by
 simp only[nodup_cons,mem_cons,not_mem_nil,or_false,not_or,not_false_eq_true,and_true,nodup_nil]at nd c1 c2
 have hT:s.TypeIs (.ref z) "zip":=⟨_,hz,rfl⟩
 unfold pyNext
 refine wpAny_bind (wpAny_attempt (wpAny_callSpecial?_slot (name:=Str.ofString "__next__") hT F.slot_zip_next (wpAny_call_entry F.slot_zip_next hT F.entry_zip_next ?_ (F.args_zip_next_1 _))))
 obtain⟨hp,g,d,tk,os⟩:=s
 wp_walk using wpAny_onRaise,N1.item _ k _ _ _ x
 ·exact N1.keep _ _ _ q1 (fun o e=>get?_update_of_ne _ nd.1.2.2.1 e) fun o e=>get?_update_of_ne _ (Ne.symm c1.1) e
 ·exact hx
 intro g2 r2 s2
 have t2:IsPair g2 TO a b:=s2.extBut _ _ nd.2.2.1.1 (get?_update_of_ne _ nd.1.2.1 hTO)
 wp_walk using wpAny_onRaise,N2.item _ k _ _ _ y
 ·exact N2.keep _ _ _ q2 (fun o e=>get?_update_of_ne _ nd.2.2.1.2 (s2.extBut _ _ (Ne.symm nd.2.2.2) (get?_update_of_ne _ nd.1.2.2.2 e)))
   fun o e=>get?_update_of_ne _ (Ne.symm c2.2.2.1) (s2.extBut _ _ c2.2.2.2.1 (get?_update_of_ne _ (Ne.symm c2.1) e))
 ·exact hy
 intro g4 r4 s4
 have t4:=s4.extBut _ _ nd.2.2.1.2 (get?_update_self (Obj.mapSeq fun q=>q.setIfInBounds 0 x) t2 rfl)
 have nz:TO≠z:=Ne.symm nd.1.2.1
 have z4:=s4.extBut _ _ nd.1.2.2.2 (get?_update_of_ne (Obj.mapSeq fun q=>q.setIfInBounds 0 x) nz (s2.extBut _ _ nd.1.2.2.1 (get?_update_self (Obj.mapFields fun q=>q.setIfInBounds 0 Value.ellipsis) hz rfl)))
 wp_walk
 refine⟨_,rfl,wpAny_pure ?_⟩
 have sz:(g4.update TO (Obj.mapSeq fun q=>q.setIfInBounds (0+1) y)).objs.size=hp.objs.size:=by
  rw[size_after_update,s4.1]
  show(g2.update TO _).objs.size=_
  rw[size_after_update,s2.1]
  exact size_after_update ..
 rw[sz]
 have zl:z<hp.objs.size:=lt_size hz
 have last:∀{G:Heap} {c:Addr} {o:Obj} {f1 f2:Obj→Obj},c≠z→G.get? c=some o→((G.update z f1).update z f2).get? c=some o:=fun n e=>get?_update_of_ne _ (Ne.symm n) (get?_update_of_ne _ (Ne.symm n) e)
 have mid:∀{c:Addr} {o:Obj} {T:Obj},c≠TO→g4.get? c=some o→((g4.update TO (Obj.mapSeq fun q=>q.setIfInBounds (0+1) y)).push T).get? c=some o:=fun n e=>get?_push_of_some _ (get?_update_of_ne _ (Ne.symm n) e)
 refine hQ _ (get?_update_self _ (get?_update_self _ (mid (Ne.symm nz) z4) rfl) rfl) (last nz (get?_push_of_some _ (get?_update_self _ t4 rfl)))
  (N1.keep _ _ _ r2 (fun o e=>last (Ne.symm nd.1.2.2.1) (mid (Ne.symm nd.2.2.1.1) (s4.extBut _ _ nd.2.2.2 (get?_update_of_ne _ nd.2.2.1.1 e))))
   fun o e=>last c1.1 (mid c1.2.2.1 (s4.extBut _ _ c1.2.2.2.2 (get?_update_of_ne _ (Ne.symm c1.2.2.1) e))))
  (N2.keep _ _ _ r4 (fun o e=>last (Ne.symm nd.1.2.2.2) (mid (Ne.symm nd.2.2.1.2) e)) fun o e=>last c2.1 (mid c2.2.2.1 e))
  (last (Nat.ne_of_gt zl) (get?_push_at sz.symm rfl)) ?_ fun c o n1 n2 n3 n4 e=>last n1 (mid n2 (s4.extBut _ _ n4 (get?_update_of_ne _ (Ne.symm n2) (s2.extBut _ _ n3 (get?_update_of_ne _ (Ne.symm n1) e)))))
 rw[size_after_update,size_after_update,Heap.size_push,sz]
theorem zip_done {a b:Value}{Q:Option Value→Shared→Prop}(hh:A.handled=none)(nd:[z,TI,TO,i,j].Nodup)(c1:l∉[z,TI,TO,i,j])(c2:m∉[z,TI,TO,i,j])(N1:Nx P w i l p1 xs)(N2:Nx P w j m p2 ys)
 (hz:IsZip s.heap z TI TO .none) (hTI:IsPair s.heap TI (.ref i) (.ref j)) (hTO:IsPair s.heap TO a b) (q1:p1 k s.heap) (q2:p2 k s.heap) (hend:xs[k]?=none∨ys[k]?=none)
 (hQ:∀h',(∀c o,c≠z→c≠TO→c≠i→c≠j→s.heap.get? c=some o→h'.get? c=some o)→Q none {s with heap:=h'}):wpAny (model P w) A (pyNext (.ref z)) Q E s:=by
 simp only[nodup_cons,mem_cons,not_mem_nil,or_false,not_or,not_false_eq_true,and_true,nodup_nil]at nd c1 c2
 have hT:s.TypeIs (.ref z) "zip":=⟨_,hz,rfl⟩
 have stop:∀(G:Heap) (e:Addr) (o:Obj),G.get? z=some ⟨.type "zip",none,.fields #[.ellipsis,.bool false,.bool false,.ref TI,.ref TO],#[]⟩→G.get? e=some o→o.cls=.type "StopIteration"→
  (∀c o,c≠z→c≠TO→c≠i→c≠j→s.heap.get? c=some o→G.get? c=some o)→
  wpAny (model P w) A.in1 (setField (.ref z) 0 .none) (fun _ s''=>wpAny (model P w) A (do if(←isInstance (.ref e) (.type "StopIteration"))=true then pure none else throw (.ref e)) Q E s'') (fun e' s''=>wpAny (model P w) A (do if(←isInstance e' (.type "StopIteration"))=true then pure none else throw e') Q E s'') {s with heap:=G}:=fun G e o g1 g2 hc kp=>by
  have ne:z≠e:=fun q=>by subst q;rw[g1]at g2;cases g2;exact absurd (show Value.type "zip" = Value.type "StopIteration" from hc) (by decide)
  have g3:=get?_update_of_ne (Obj.mapFields fun q=>q.setIfInBounds 0 Value.none) ne g2
  obtain⟨hp,gs,d,tk,os⟩:=s
  have ht:Shared.TypeIs ⟨G.update z (Obj.mapFields fun q=>q.setIfInBounds 0 Value.none),gs,d,tk,os⟩ (.ref e) "StopIteration":=⟨o,g3,hc⟩
  have sub:=isSubtype_stop
  wp_walk
  exact hQ _ fun c o n1 n2 n3 n4 q=>get?_update_of_ne _ (Ne.symm n1) (kp c o n1 n2 n3 n4 q)
 unfold pyNext
 refine wpAny_bind (wpAny_attempt (wpAny_callSpecial?_slot (name:=Str.ofString "__next__") hT F.slot_zip_next (wpAny_call_entry F.slot_zip_next hT F.entry_zip_next ?_ (F.args_zip_next_1 _))))
 have z1:=get?_update_self (Obj.mapFields fun q=>q.setIfInBounds 0 Value.ellipsis) hz rfl
 obtain⟨hp,g,d,tk,os⟩:=s
 have f1:p1 k (hp.update z (Obj.mapFields fun q=>q.setIfInBounds 0 Value.ellipsis)):=N1.keep _ _ _ q1 (fun o e=>get?_update_of_ne _ nd.1.2.2.1 e) fun o e=>get?_update_of_ne _ (Ne.symm c1.1) e
 cases hx:xs[k]? with
 |none=>
  wp_walk using wpAny_onRaise,N1.done _ k
  ·exact hh
  ·exact f1
  ·exact hx
  intro g2 e s2 he
  obtain⟨o,ho,hc⟩:=he
  exact stop g2 e o (s2 _ _ nd.1.2.2.1 z1) ho hc fun c o n1 n2 n3 n4 q=>s2 _ _ n3 (get?_update_of_ne _ (Ne.symm n1) q)
 |some x=>
  have hy:ys[k]?=none:=hend.resolve_left (by rw[hx];exact nofun)
  wp_walk using wpAny_onRaise,N1.item _ k _ _ _ x
  ·exact f1
  ·exact hx
  intro g2 r2 s2
  have t2:IsPair g2 TO a b:=s2.extBut _ _ nd.2.2.1.1 (get?_update_of_ne _ nd.1.2.1 hTO)
  wp_walk using wpAny_onRaise,N2.done _ k
  ·exact hh
  ·exact N2.keep _ _ _ q2 (fun o e=>get?_update_of_ne _ nd.2.2.1.2 (s2.extBut _ _ (Ne.symm nd.2.2.2) (get?_update_of_ne _ nd.1.2.2.2 e)))
    fun o e=>get?_update_of_ne _ (Ne.symm c2.2.2.1) (s2.extBut _ _ c2.2.2.2.1 (get?_update_of_ne _ (Ne.symm c2.1) e))
  ·exact hy
  intro g4 e s4 he
  obtain⟨o,ho,hc⟩:=he
  exact stop g4 e o (s4 _ _ nd.1.2.2.2 (get?_update_of_ne _ (Ne.symm nd.1.2.1) (s2.extBut _ _ nd.1.2.2.1 z1))) ho hc
   fun c o n1 n2 n3 n4 q=>s4 _ _ n4 (get?_update_of_ne _ (Ne.symm n2) (s2.extBut _ _ n3 (get?_update_of_ne _ (Ne.symm n1) q)))
end
def ups (lo:Int)(n:Nat):List Int:=(List.range n).map fun(k:Nat)=>lo+(k:Int)
theorem ups_length (lo:Int)(n:Nat):(ups lo n).length=n:=by unfold ups;rw[length_map,length_range]
theorem vals_items {lo:Int}{n:Nat}{acc:Array Value}(h:ItemsOf (fun i v=>∃t,v=Value.int (lo+i*1) t) acc n):Vals ((ups lo n).map V.int) acc.toList:=by
 have:∀(us:List Value) (ns:List Int),us.length=ns.length→(∀(j:Nat) (u:Value),us[j]?=some u→∃t,∃i,ns[j]?=some i∧u=Value.int i t)→Vals (ns.map V.int) us:=by
  intro us
  induction us with
  |nil=>intro ns hl _;cases ns with
   |nil=>exact .nil
   |cons=>cases hl
  |cons x r ih=>
   intro ns hl hh
   cases ns with
   |nil=>cases hl
   |cons n ns=>
    obtain⟨t,i,e1,e2⟩:=hh 0 x rfl
    have:n=i:=by simpa using e1
    subst this
    exact .cons ⟨t,e2⟩ (ih ns (by simpa using hl) fun j u hj=>hh (j+1) u (by simpa using hj))
 refine this _ _ (by rw[ups_length,length_toList];exact h.1) fun j u hj=>?_
 have hj':acc[j]?=some u:=by simpa using hj
 obtain⟨t,e⟩:=h.2 j u hj'
 have hjn:j<n:=by rw[←h.1];exact(Array.getElem?_eq_some_iff.mp hj').1
 refine⟨t,lo+(j:Int),?_,by rw[e,Int.mul_one]⟩
 unfold ups
 rw[List.getElem?_map,getElem?_range hjn]
 rfl
section
variable {X:Cx}
theorem call_rng2:CallR X (.type "range") (fun xs H Q=>∃i j:Int,xs=[.int i,.int j]∧∀p,H p=none→Q (.ref p) (upd H p (.rng i j))):=by
 intro pins s σ H xs us Q I r h
 obtain⟨i,j,rfl,q⟩:=h
 obtain⟨u,u',rfl,r1,r2⟩:=vals2 r
 obtain⟨t,rfl⟩:=(show ∃t,u=Value.int i t from r1)
 obtain⟨t',rfl⟩:=(show ∃t,u'=Value.int j t from r2)
 refine call_range_2 ⟨.ref s.heap.objs.size,_,I.laid (a:=s.heap.objs.size) (o:=.rng i j) (fun b ob q=>get?_push_of_some _ q) (Nat.le_refl _) ⟨_,_,_,get?_push_size _ rfl⟩,rfl,q _ (I.hok.fresh (Nat.le_refl _))⟩
theorem call_list_rng (hc:X.calm=true):CallR X (.type "list") (fun xs H Q=>∃p i j,xs=[.ref p]∧H p=some (.rng i j)∧(-(2^62)≤i∧i<2^62∧-(2^62)≤j∧j<2^62)∧(j - i).toNat≤sizeLine∧
 ∀l,H l=none→Q (.ref l) (upd H l (.lst ((ups i (j - i).toNat).map V.int)))):=by
 intro pins s σ H xs us Q I r h
 obtain⟨p,i,j,rfl,hp,⟨b1,b2,b3,b4⟩,hz,q⟩:=h
 obtain⟨u,rfl,rx⟩:=vals1 r
 cases(show u=Value.ref p from rx)
 obtain⟨t1,t2,t3,ho⟩:=(show ObjOk X.prog X.w H s.heap p (.rng i j) from I.hok p _ hp)
 refine call_list_range (I.ok.hd hc) ho (small_one b1 b2 b3 b4) (n:=(j - i).toNat) (by rw[rangeSize_one];split<;>omega) (by rw[sizeLine_eq]at hz;exact hz) fun h' tk acc c' hk hS hacc=>?_
 refine⟨.ref s.heap.objs.size,_,I.laid (a:=s.heap.objs.size) (t':=tk) (o:=.lst ((ups i (j - i).toNat).map V.int)) hk (Nat.le_refl _) ?_,rfl,q _ (I.hok.fresh (Nat.le_refl _))⟩
 refine⟨by rw[length_map,ups_length];exact hz,acc.toList,c',vals_items hacc,?_⟩
 have e:acc.toList.toArray=acc:=by simp
 rw[e]
 exact hS
end
def ItAt (t:Bool)(i l:Addr)(k:Nat)(h:Heap):Prop:=match t with
 |true=>h.IsTupleIter i l k
 |false=>h.IsListIter i l k
def SqK (t:Bool)(K:W.Frag)(H:Hp)(l:Addr)(xs:List V):Prop:=match t with
 |true=>SqT K H l xs
 |false=>SqL K H l xs
theorem ItAt.at {t:Bool}{i l:Addr}{k:Nat}{h h':Heap}(x:ItAt t i l k h)(e:∀o,h.get? i=some o→h'.get? i=some o):ItAt t i l k h':=by
 cases t
 ·exact Heap.IsListIter.at x e
 ·exact Heap.IsTupleIter.at x e
theorem ItAt.obj {t:Bool}{i l:Addr}{k:Nat}{h:Heap}(x:ItAt t i l k h):∃o f c,h.get? i=some o∧o.data=.fields f∧o.cls=.type c∧(c="list_iterator"∨c="tuple_iterator"):=by
 cases t
 ·obtain⟨o,e,c,d⟩:=(show h.IsListIter i l k from x)
  exact⟨o,_,_,e,d,c,.inl rfl⟩
 ·obtain⟨o,e,c,d⟩:=(show h.IsTupleIter i l k from x)
  exact⟨o,_,_,e,d,c,.inr rfl⟩
section
variable {X:Cx}{pins:List (Addr×Obj)}{σ:St}{H:Hp}{s:Shared}
theorem Inv.sqk {t:Bool}{l:Addr}{xs:List V}(I:Inv X pins σ H s)(h:SqK t X.K H l xs):∃its:List Value,Vals xs its∧(∃o,s.heap.get? l=some o∧(o.cls=.type "list"∨o.cls=.type "tuple"))∧
 ∀(i:Addr),l≠i→∃pl:Nat→Heap→Prop,Nx X.prog X.w i l pl its.toArray∧(∀k,ItAt t i l k s.heap→pl k s.heap)∧(∀k h',pl k h'→ItAt t i l k h'):=by
 cases t
 ·obtain⟨its,r,p,hz⟩:=I.list (show SqL X.K H l xs from h)
  obtain⟨o,ho,hc,n,hd⟩:=id p.isList
  exact⟨its,r,⟨o,ho,.inl hc⟩,fun i ne=>⟨_,nx_list its.toArray ne,fun k z=>⟨z,p.isList⟩,fun k h' z=>z.1⟩⟩
 ·obtain⟨its,r,p,hz⟩:=I.tuple (show SqT X.K H l xs from h)
  obtain⟨o,ho,hc,n,hd⟩:=id p
  exact⟨its,r,⟨o,ho,.inr hc⟩,fun i ne=>⟨_,nx_tup its.toArray ne,fun k z=>⟨z,p⟩,fun k h' z=>z.1⟩⟩
theorem Inv.sqk_inj {t:Bool}{l:Addr}{xs ys:List V}(I:Inv X pins σ H s)(h:SqK t X.K H l xs)(h':SqK t X.K H l ys):xs=ys:=by
 cases t
 ·exact I.list_inj h h'
 ·exact I.tuple_inj h h'
end
def Itz (t:Bool)(K:W.Frag)(l m:Addr):It where
 go:=fun i H=>∃xs ys x y,SqK t K H l xs∧SqK t K H m ys∧xs[i]?=some x∧ys[i]?=some y
 yld:=fun i H v H'=>∃p x y,v=.ref p∧H p=none∧H'=upd H p (.tup [x,y])∧(∀xs,SqK t K H l xs→xs[i]?=some x)∧∀ys,SqK t K H m ys→ys[i]?=some y
 stop:=fun i H=>∃xs ys,SqK t K H l xs∧SqK t K H m ys∧(xs[i]?=none∨ys[i]?=none)
theorem turn_zip {P:Program}{w:World}{K:W.Frag}{es:List Expr}{k0:Nat}{pos:Pos}{t:Bool}{z TI TO i j l m:Addr}(a1:TI≠z)(a2:TO≠z)(a3:i≠z)(a4:j≠z)(a5:TI≠TO)(a6:TI≠i)(a7:TI≠j)(a8:TO≠i)(a9:TO≠j)(b1:i≠j)
 (c1:l∉[z,TI,TO,i,j]) (c2:m∉[z,TI,TO,i,j]) :
 Turn P w K (.Tuple es k0 pos) (Itz t K l m) [z,TI,TO,i,j] z (fun k h=>IsZip h z TI TO .none∧IsPair h TI (.ref i) (.ref j)∧(∃a b,IsPair h TO a b)∧ItAt t i l k h∧ItAt t j m k h) where
 mem:=by simp
 obj:=fun k h ⟨hz,h1,⟨a,b,h2⟩,h3,h4⟩ c hc=>by
  obtain⟨o1,f1,_,e1,d1,_⟩:=h3.obj
  obtain⟨o2,f2,_,e2,d2,_⟩:=h4.obj
  simp only[mem_cons,not_mem_nil,or_false]at hc
  rcases hc with rfl | rfl | rfl | rfl | rfl
  ·exact⟨_,hz,fun v q=>by cases q⟩
  ·exact⟨_,h1,fun v q=>by cases q⟩
  ·exact⟨_,h2,fun v q=>by cases q⟩
  ·exact⟨_,e1,fun v q=>by rw[d1]at q;cases q⟩
  ·exact⟨_,e2,fun v q=>by rw[d2]at q;cases q⟩
 keep:=fun k h h' ⟨hz,h1,⟨a,b,h2⟩,h3,h4⟩ kp=>⟨kp z (by simp) _ hz,kp TI (by simp) _ h1,⟨a,b,kp TO (by simp) _ h2⟩,h3.at fun o e=>kp i (by simp) o e,h4.at fun o e=>kp j (by simp) o e⟩
 item:=by
  intro X hP hw hK hc k pins s σ H E I hf st hg
  subst hP hw hK
  obtain⟨xs,ys,x,y,hl,hm,hx,hy⟩:=hg
  obtain⟨hz,h1,⟨a,b,h2⟩,h3,h4⟩:=st
  have cl:=c1
  have cm:=c2
  simp only[mem_cons,not_mem_nil,or_false,not_or]at c1 c2
  obtain⟨its,r1,_,n1⟩:=I.sqk hl
  obtain⟨jts,r2,_,n2⟩:=I.sqk hm
  obtain⟨p1,N1,u1,v1⟩:=n1 i c1.2.2.2.1
  obtain⟨p2,N2,u2,v2⟩:=n2 j c2.2.2.2.2
  obtain⟨u,hu,ru⟩:=r1.get hx
  obtain⟨u',hu',ru'⟩:=r2.get hy
  have D:[z,TI,TO,i,j].Nodup:=by simp[a1,a2,a3,a4,a5,a6,a7,a8,a9,b1,Ne.symm a1,Ne.symm a2,Ne.symm a3,Ne.symm a4]
  refine zip_item D cl cm N1 N2 hz h1 h2 (u1 k h3) (u2 k h4) (x:=u) (y:=u') (by simpa using hu) (by simpa using hu') fun h' z1 z2 z3 z4 z5 z6 kp=>?_
  refine⟨_,rfl,wpAny_letOwnedTupleGo_zip z1 fun h'' y1 sb=>?_⟩
  have fz:H s.heap.objs.size=none:=I.hok.fresh (Nat.le_refl _)
  have zlt:z<s.heap.objs.size:=lt_size hz
  have mine:∀c∈[z,TI,TO,i,j],c≠s.heap.objs.size:=fun c hc'=>by
   obtain⟨o1,f1,_,e1,d1,_⟩:=h3.obj
   obtain⟨o2,f2,_,e2,d2,_⟩:=h4.obj
   simp only[mem_cons,not_mem_nil,or_false]at hc'
   rcases hc' with rfl | rfl | rfl | rfl | rfl
   ·exact Nat.ne_of_lt (lt_size hz)
   ·exact Nat.ne_of_lt (lt_size h1)
   ·exact Nat.ne_of_lt (lt_size h2)
   ·exact Nat.ne_of_lt (lt_size e1)
   ·exact Nat.ne_of_lt (lt_size e2)
  have kp2:∀c o,c∉[z,TI,TO,i,j]→s.heap.get? c=some o→h''.get? c=some o:=fun c o hc' e=>by
   simp only[mem_cons,not_mem_nil,or_false,not_or]at hc'
   exact sb.extBut _ _ hc'.1 (kp c o hc'.1 hc'.2.2.1 hc'.2.2.2.1 hc'.2.2.2.2 e)
  have tp:h''.get? s.heap.objs.size=some {cls:=.type "tuple",data:=.seq #[u,u']}:=sb.extBut _ _ (mine z (by simp)).symm z5
  have notH:∀c∈[z,TI,TO,i,j],H c=none:=fun c hc'=>(hf c hc').1
  have I1:Inv X pins σ (upd H s.heap.objs.size (.tup [x,y])) {s with heap:=h''}:=by
   have un:Un X.fs [z,TI,TO,i,j] H (upd H s.heap.objs.size (.tup [x,y])) s.heap h'':=
    ⟨fun c o e n nf hx=>kp2 c o hx e,fun c o e n nf hx=>⟨o.slots,kp2 c o hx e⟩,fun c o e n hx=>by rw[upd_ne (Nat.ne_of_lt (lt_size e))];exact n,
     fun c o e hx=>⟨o,kp2 c o hx e⟩,fun c xs e=>by rw[upd_ne (ne_of_none e fz)];exact e,fun c o xs e=>by rw[upd_ne (ne_of_none e fz)];exact e,fun c ps e=>⟨#[],by rw[upd_ne (ne_of_none e fz),e];simp⟩⟩
   have hok:HOk X.prog X.w (upd H s.heap.objs.size (.tup [x,y])) h'':=fun c o e=>by
    by_cases hcs:c=s.heap.objs.size
    ·subst hcs
     rw[upd_same]at e
     cases e
     exact⟨by show 2≤sizeLine;decide,[u,u'],.cons ru (.cons ru' .nil),⟨_,tp,rfl,_,rfl⟩⟩
    ·rw[upd_ne hcs]at e
     refine(I.hok c o e).stay (fun d w' hd q=>kp2 d w' (fun zz=>?_) q) (fun d q=>?_) fun d w' q=>?_
     ·have hn:=notH d zz
      rcases hd with rfl | hd
      ·rw[hn]at e;cases e
      ·rw[hn]at hd;cases hd
     ·rw[upd_ne (ne_of_none q fz)];exact q
     ·rw[upd_ne (ne_of_none q fz)];exact q
   have hch:∀b∈[z,TI,TO,i,j],(b∈X.ex∨X.s₀.heap.objs.size≤b)∧b≠X.env.locals∧(∀x c,X.env.cells.lookup x=some c→c≠b)∧∀p∈X.pn++pins,p.1≠b:=fun b hb=>⟨(hf b hb).2.2.2.1,(hf b hb).2.1,(hf b hb).2.2.2.2.1,(hf b hb).2.2.2.2.2⟩
   refine I.step (g':=s.gens) (d':=s.drawn) (t':=s.toks) (ch:=[z,TI,TO,i,j]) hch (fun c o _ _ hc' e _=>kp2 c o hc' e) (fun c o _ _ hc' e _=>⟨o.slots,kp2 c o hc' e⟩) (fun c o hc' e n=>un.free c o e n hc') (fun c o hc' e=>un.there c o e hc') un.tups un.frzs un.tbls (fun m' hm'=>?_) hok I.bare
   obtain⟨o,es',ep,ho,r⟩:=hm'
   exact⟨o,es',ep,kp2 _ o (fun zz=>(hf _ zz).2.1 rfl) ho,r⟩
  refine⟨.ref s.heap.objs.size,_,I1,rfl,⟨s.heap.objs.size,x,y,rfl,fz,rfl,fun xs' q=>by rw[I.sqk_inj q hl];exact hx,fun ys' q=>by rw[I.sqk_inj q hm];exact hy⟩,?_,fun c hc'=>?_⟩
  ·have up:∀c o,c≠z→h'.get? c=some o→h''.get? c=some o:=fun c o hc' e=>sb.extBut _ _ hc' e
   exact⟨y1,up _ _ a1 (kp _ _ a1 a5 a6 a7 h1),⟨_,_,up _ _ a2 z2⟩,(v1 _ _ z3).at fun o e=>up _ o a3 e,(v2 _ _ z4).at fun o e=>up _ o a4 e⟩
  ·rw[upd_ne (mine c hc')]
   exact notH c hc'
 done:=by
   intro X hP hw hK hc k pins s σ H E I hf st hg
   subst hP hw hK
   obtain⟨xs,ys,hl,hm,hend⟩:=hg
   obtain⟨hz,h1,⟨a,b,h2⟩,h3,h4⟩:=st
   have cl:=c1
   have cm:=c2
   simp only[mem_cons,not_mem_nil,or_false,not_or]at c1 c2
   obtain⟨its,r1,_,n1⟩:=I.sqk hl
   obtain⟨jts,r2,_,n2⟩:=I.sqk hm
   obtain⟨p1,N1,u1,v1⟩:=n1 i c1.2.2.2.1
   obtain⟨p2,N2,u2,v2⟩:=n2 j c2.2.2.2.2
   have D:[z,TI,TO,i,j].Nodup:=by simp[a1,a2,a3,a4,a5,a6,a7,a8,a9,b1,Ne.symm a1,Ne.symm a2,Ne.symm a3,Ne.symm a4]
   refine zip_done (I.ok.hd hc) D cl cm N1 N2 hz h1 h2 (u1 k h3) (u2 k h4) (hend.elim (fun q=>.inl (by simpa using r1.none_of q)) fun q=>.inr (by simpa using r2.none_of q)) fun h' kp=>⟨rfl,?_⟩
   have kp2:∀c o,c∉[z,TI,TO,i,j]→s.heap.get? c=some o→h'.get? c=some o:=fun c o hc' e=>by
    simp only[mem_cons,not_mem_nil,or_false,not_or]at hc'
    exact kp c o hc'.1 hc'.2.2.1 hc'.2.2.2.1 hc'.2.2.2.2 e
   have hch:∀b∈[z,TI,TO,i,j],(b∈X.ex∨X.s₀.heap.objs.size≤b)∧b≠X.env.locals∧(∀x c,X.env.cells.lookup x=some c→c≠b)∧∀p∈X.pn++pins,p.1≠b:=fun b hb=>⟨(hf b hb).2.2.2.1,(hf b hb).2.1,(hf b hb).2.2.2.2.1,(hf b hb).2.2.2.2.2⟩
   refine I.step (g':=s.gens) (d':=s.drawn) (t':=s.toks) (ch:=[z,TI,TO,i,j]) hch (fun c o _ _ hc' e _=>kp2 c o hc' e) (fun c o _ _ hc' e _=>⟨o.slots,kp2 c o hc' e⟩) (fun _ _ _ _ n=>n) (fun c o hc' e=>⟨o,kp2 c o hc' e⟩) (fun _ _ e=>e) (fun _ _ _ e=>e) (fun b ps e=>⟨#[],by rw[e];simp⟩) (fun m' hm'=>?_) (fun c o e=>?_) I.bare
   ·obtain⟨o,es',ep,ho,r⟩:=hm'
    exact⟨o,es',ep,kp2 _ o (fun zz=>(hf _ zz).2.1 rfl) ho,r⟩
   ·refine(I.hok c o e).stay (fun d w' hd q=>kp2 d w' (fun zz=>?_) q) (fun _ q=>q) fun _ _ q=>q
    have hn:=(hf d zz).1
    rcases hd with rfl | hd
    ·rw[hn]at e;cases e
    ·rw[hn]at hd;cases hd
 self:=fun A k s Q E st h=>wpAny_pyIter_zip st.1 h
theorem tz_new (l m:Addr)(xs ys:Array Value):Meets (Builtin.«zip.__new__» ⟨[.type "zip",.ref l,.ref m],[]⟩) (fun _ R s=>s.heap.IsTuple l xs∧s.heap.IsTuple m ys∧
 ∀h':Heap,IsZip h' (s.heap.objs.size+4) (s.heap.objs.size+2) (s.heap.objs.size+3) .none→IsPair h' (s.heap.objs.size+2) (.ref s.heap.objs.size) (.ref (s.heap.objs.size+1))→
  IsPair h' (s.heap.objs.size+3) .none .none→h'.IsTupleIter s.heap.objs.size l 0→h'.IsTupleIter (s.heap.objs.size+1) m 0→(∀c o,s.heap.get? c=some o→h'.get? c=some o)→
  R (.ok (.ret (.ref (s.heap.objs.size+4)))) {s with heap:=h'}):=
 .of_wp fun prog w A R s h=>by
  obtain⟨hp,g,d,tk,os⟩:=s
  obtain⟨h1,h2,h⟩:=h
  have hsub:=sub_zip
  wp_walk using wpAny_pyIter_tuple h1,wpAny_pyIter_tuple (Heap.IsTuple.push h2 _)
  simp only[Heap.size_push]
  refine⟨_,rfl,h _ (get?_push_at (by simp only[Heap.size_push]) rfl) ?_ ?_ ?_ ?_ fun c o x=>?_⟩
  ·exact get?_push_of_some _ (get?_push_of_some _ (get?_push_at (by simp only[Heap.size_push]) rfl))
  ·exact get?_push_of_some _ (get?_push_at (by simp only[Heap.size_push]) rfl)
  ·exact⟨_,get?_push_of_some _ (get?_push_of_some _ (get?_push_of_some _ (get?_push_of_some _ (get?_push_size _ rfl)))),rfl,rfl⟩
  ·exact⟨_,get?_push_of_some _ (get?_push_of_some _ (get?_push_of_some _ (get?_push_at (by simp only[Heap.size_push]) rfl))),rfl,rfl⟩
  repeat (first | exact x | refine get?_push_of_some _ ?_)
section
variable {prog:Program}{w:World}{A:Around}{E:Value→Shared→Prop}{s:Shared}
theorem zip_tups {l m:Addr}{xs ys:Array Value}{Q:Value→Shared→Prop}(h1:s.heap.IsTuple l xs)(h2:s.heap.IsTuple m ys)
 (h:∀h',IsZip h' (s.heap.objs.size+4) (s.heap.objs.size+2) (s.heap.objs.size+3) .none→IsPair h' (s.heap.objs.size+2) (.ref s.heap.objs.size) (.ref (s.heap.objs.size+1))→
  IsPair h' (s.heap.objs.size+3) .none .none→h'.IsTupleIter s.heap.objs.size l 0→h'.IsTupleIter (s.heap.objs.size+1) m 0→
  (∀c o,s.heap.get? c=some o→h'.get? c=some o)→Q (.ref (s.heap.objs.size+4)) {s with heap:=h'}) :
 wpAny (model prog w) A (call (.type "zip") [.ref l,.ref m]) Q E s:=
 callType_new F.called_zip (by decide) (F.typeCall_zip_2 _ _) (F.newCall_zip_2 _ _) (fun obj=>F.args_object_init_3 obj _ _) F.entry_zip_new (tz_new l m xs ys)
  ⟨h1,h2,fun h' z p1 p2 i1 i2 kp=>⟨⟨_,z,rfl⟩,h h' z p1 p2 i1 i2 kp⟩⟩
end
theorem apart_nat (n:Nat){a b:Nat}(h:a≠b):n+a≠n+b:=fun z=>h (Nat.add_left_cancel z)
theorem not_fresh5 {n c:Nat}(h:c<n)(z:c=n+4∨c=n+2∨c=n+3∨c=n∨c=n+1):False:=by omega
theorem fresh5 {n c:Nat}(z:c=n+4∨c=n+2∨c=n+3∨c=n∨c=n+1):n≤c:=by omega
section
variable {X:Cx}
def iZip (t:Bool)(K:W.Frag)(ta:TA):TI:=fun σ H R=>ta σ H fun vs H1=>∃l m xs ys,vs=[.ref l,.ref m]∧SqK t K H1 l xs∧SqK t K H1 m ys∧R (Itz t K l m) H1
theorem pi_zip (t:Bool){es:List Expr}{k0:Nat}{tp:Pos}{a b:Expr}{ta:TA}{p pos:Pos}(hg:Gl X "zip")(hm:X.mg "zip" = none)(ha:PA X [a,b] ta)(hs:starEach [a,b] X.env=[(false,eval a X.env),(false,eval b X.env)]:=by rfl)(hs2:starEach [b] X.env=[(false,eval b X.env)]:=by rfl) :
 PI X (.Tuple es k0 tp) (.Call (.Name "zip" p) [a,b] [] pos) (iZip t X.K ta):=by
 intro pins s σ H R I h
 refine Call_ (ld_blt I hg hm boot_zip (callWith_type1 (thn (ha pos pins s σ H _ I h) fun us s1 ⟨vs,H1,I1,r1,q1⟩=>?_) (by rw[hs,hs2]) (by rw[hs2];rfl)))
 obtain⟨l,m,xs,ys,e,hl,hm',q⟩:=q1
 subst e
 obtain⟨u,u',rfl,ru,ru'⟩:=vals2 r1
 cases(show u=Value.ref l from ru)
 cases(show u'=Value.ref m from ru')
 obtain⟨its,_,⟨ol,eol,_⟩,_⟩:=I1.sqk hl
 obtain⟨jts,_,⟨om,eom,_⟩,_⟩:=I1.sqk hm'
 have ll:l<s1.heap.objs.size:=lt_size eol
 have lm:m<s1.heap.objs.size:=lt_size eom
 have fin:∀h':Heap,IsZip h' (s1.heap.objs.size+4) (s1.heap.objs.size+2) (s1.heap.objs.size+3) .none→IsPair h' (s1.heap.objs.size+2) (.ref s1.heap.objs.size) (.ref (s1.heap.objs.size+1))→
  IsPair h' (s1.heap.objs.size+3) .none .none→ItAt t s1.heap.objs.size l 0 h'→ItAt t (s1.heap.objs.size+1) m 0 h'→(∀c o,s1.heap.get? c=some o→h'.get? c=some o)→
  wpAny (model X.prog X.w) X.A (pyIter (.ref (s1.heap.objs.size+4))) (PIE X pins σ (.Tuple es k0 tp) R) X.xe {s1 with heap:=h'}:=fun h' z1 z2 z3 z4 z5 kp=>by
  have I2:Inv X pins σ H1 {s1 with heap:=h'}:=I1.kept (t':=s1.toks) kp
  refine wpAny_pyIter_zip z1 ⟨s1.heap.objs.size+4,[s1.heap.objs.size+4,s1.heap.objs.size+2,s1.heap.objs.size+3,s1.heap.objs.size,s1.heap.objs.size+1],_,_,H1,rfl,I2,
   turn_zip (t:=t) (l:=l) (m:=m) (apart_nat _ (a:=2) (b:=4) (by decide)) (apart_nat _ (a:=3) (b:=4) (by decide)) (apart_nat _ (a:=0) (b:=4) (by decide)) (apart_nat _ (a:=1) (b:=4) (by decide)) (apart_nat _ (a:=2) (b:=3) (by decide)) (apart_nat _ (a:=2) (b:=0) (by decide)) (apart_nat _ (a:=2) (b:=1) (by decide)) (apart_nat _ (a:=3) (b:=0) (by decide)) (apart_nat _ (a:=3) (b:=1) (by decide)) (apart_nat _ (a:=0) (b:=1) (by decide)) (fun z=>?_) (fun z=>?_),⟨z1,z2,⟨_,_,z3⟩,z4,z5⟩,fun c hc=>?_,q⟩
  ·simp only[mem_cons,not_mem_nil,or_false]at z;exact not_fresh5 ll z
  ·simp only[mem_cons,not_mem_nil,or_false]at z;exact not_fresh5 lm z
  ·have hcs:s1.heap.objs.size≤c:=by simp only[mem_cons,not_mem_nil,or_false]at hc;exact fresh5 hc
   exact I1.fpOk hcs (I1.hok.fresh hcs)
 cases t
 ·obtain⟨its,_,pl,_⟩:=I1.list (show SqL X.K H1 l xs from hl)
  obtain⟨jts,_,pm,_⟩:=I1.list (show SqL X.K H1 m ys from hm')
  exact call_zip_2 pl.isList pm.isList fun h' z1 z2 z3 z4 z5 _ kp=>fin h' z1 z2 z3 z4 z5 kp
 ·obtain⟨its,_,pl,_⟩:=I1.tuple (show SqT X.K H1 l xs from hl)
  obtain⟨jts,_,pm,_⟩:=I1.tuple (show SqT X.K H1 m ys from hm')
  exact zip_tups pl pm fun h' z1 z2 z3 z4 z5 kp=>fin h' z1 z2 z3 z4 z5 kp
end
def Has (P:Program)(w:World)(K:W.Frag)(mg:Str→Option Value)(base:Heap)(k:Nat)(x:Str)(ps:List Str)(sp:Sp):Prop:=
 ∃(f:Addr) (fd:FuncData),FnOk P w K mg base CX0 k f fd ps sp∧mg x=some (.ref f)∧PySem.W.keepIn K (.ref f)=true∧Binds K fd ps []
section
variable {X:Cx}{k k':Nat}{x:Str}{ps:List Str}{sp:Sp}{e:Expr}{es:List Expr}{t:TA}{p pos:Pos}
theorem pe_def (h:Has X.prog X.w X.K X.mg X.base k x ps sp)(hr:Room k' X.A)(ha:PA X (e::es) t)(hg:Gl X x:=by rfl)(hk:k≤k':=by decide)(hdb:(x==("__debug__" : Str))=false:=by decide)
 (he:starEach (e::es) X.env=(false,eval e X.env)::starEach es X.env:=by rfl) (hpl:(backTo pos (starEach es X.env)).any (·.1)=false:=by rfl):PE X (.Call (.Name x p) (e::es) [] pos) (tCall sp [] E0 t):=by
 obtain⟨f,fd,F,m,kp,b⟩:=h
 exact pe_call F (hr.mono hk) hg m kp b .nil pass0 ha hdb he hpl
theorem pe_const {v:V}(h:∃u,X.mg x=some u∧RelV v u)(hg:Gl X x:=by rfl)(hd:(x==("__debug__" : Str))=false:=by decide):PE X (.Name x pos) (tC v):=by
 obtain⟨u,m,r⟩:=h
 exact pe_glob hg m r hd
theorem pe_ty {T:String}(hm:X.mg x=none)(hv:bootBuiltins x=some (.type T))(hg:Gl X x:=by rfl)(hn:x≠"__name__":=by decide)(hd:(x==("__debug__" : Str))=false:=by decide):PE X (.Name x pos) (tC (.ty T)):=pe_bltn hg hm hv rfl hn hd
end
structure Nb (mg:Str→Option Value):Prop where
 len:mg "len" = none
 isi:mg "isinstance" = none
 bool:mg "bool" = none
 int:mg "int" = none
 tuple:mg "tuple" = none
 list:mg "list" = none
 range:mg "range" = none
 zip:mg "zip" = none
 all:mg "all" = none
 max:mg "max" = none
 min:mg "min" = none
theorem Same.upd_free {H1 H5:Hp}{D:Addr}(s:Same H1 H5)(hD:H1 D=none)(o:HO):Same H1 (upd H5 D o):=fun b u q=>by rw[upd_ne (ne_of_none q hD)];exact s b u q
theorem comp_go {J:It}{g:TG}{te:TE}{Q:VK}{D:Addr}{H1:Hp}{σ0:St}(n:Nat)(hn:n≤sizeLine)(f:Nat→V)(Sg:St→Prop)(itm:Nat→Hp→V→Prop)(hD:H1 D=none)(s0:Sg σ0)
 (items:∀i H,Same H1 H→(i<n→J.go i H∧∀x H2,J.yld i H x H2→Same H H2∧itm i H2 x)∧(n≤i→J.stop i H))
 (step:∀i x σ' H,i<n→Same H1 H→itm i H x→Sg σ'→∀R:St→V→Hp→Prop,(∀σ3 y H5,Sg σ3→Same H H5→y=f i→R σ3 y H5)→g x σ' H fun σ3 H3=>te σ3 H3 (R σ3))
 (fin:∀H',Same H1 H'→H' D=some (.lst ((List.range n).map f))→Q (.ref D) H') :
 cmpW J g tYes te Q D σ0 H1:=by
 refine⟨fun i m σ H=>m=n - i∧i≤n∧Sg σ∧Same H1 H∧H D=some (.lst ((List.range i).map f)),⟨n,by omega,Nat.zero_le _,s0,(Same.refl H1).upd_free hD _,upd_same⟩,?_⟩
 rintro i m σ H ⟨rfl,hi,hs,sm,hd⟩
 by_cases hlt:i<n
 ·obtain⟨go,yl⟩:=(items i H sm).1 hlt
  refine .inr ⟨go,fun x H2 y=>?_⟩
  obtain⟨s2,im⟩:=yl x H2 y
  have e:(fun(σ3:St) (H3:Hp)=>tYes σ3 H3 fun ok H4=>
   if ok=true then te σ3 H4 fun y H5=>∃ys,H5 D=some (.lst ys)∧ys.length<sizeLine∧∃m',m'<n - i∧(m'=n - (i+1)∧i+1≤n∧Sg σ3∧Same H1 (upd H5 D (.lst (ys++[y])))∧upd H5 D (.lst (ys++[y])) D=some (.lst ((List.range (i+1)).map f)))
   else ∃m',m'<n - i∧(m'=n - (i+1)∧i+1≤n∧Sg σ3∧Same H1 H4∧H4 D=some (.lst ((List.range (i+1)).map f)))) =
   fun σ3 H3=>te σ3 H3 fun y H5=>∃ys,H5 D=some (.lst ys)∧ys.length<sizeLine∧∃m',m'<n - i∧(m'=n - (i+1)∧i+1≤n∧Sg σ3∧Same H1 (upd H5 D (.lst (ys++[y])))∧upd H5 D (.lst (ys++[y])) D=some (.lst ((List.range (i+1)).map f))):=by
   funext σ3 H3
   unfold tYes
   dsimp only
   rw[if_pos rfl]
  rw[e]
  refine step i x σ H2 hlt (sm.trans s2) im hs _ fun σ3 y H5 g3 s5 ey=>?_
  refine⟨_,s5 _ _ (s2 _ _ hd),by rw[length_map,length_range];omega,n - (i+1),by omega,rfl,by omega,g3,(sm.trans (s2.trans s5)).upd_free hD _,?_⟩
  rw[upd_same,ey,range_succ,map_append]
  rfl
 ·have e:i=n:=by omega
  subst e
  exact .inl ⟨(items i H sm).2 (Nat.le_refl _),fin H sm hd⟩
theorem items_tup {K:W.Frag}{a:Addr}{xs:List V}{H1:Hp}(h:H1 a=some (.tup xs))(i:Nat)(H:Hp)(s:Same H1 H) :
 (i<xs.length→(Itt K a).go i H∧∀x H2,(Itt K a).yld i H x H2→Same H H2∧xs[i]?=some x)∧(xs.length≤i→(Itt K a).stop i H):=by
 have q:SqT K H a xs:=SqT.of (s _ _ h)
 refine⟨fun hi=>⟨⟨xs,xs[i],q,List.getElem?_eq_getElem hi⟩,fun x H2 ⟨e,y⟩=>?_⟩,fun hi=>⟨xs,q,hi⟩⟩
 subst e
 exact⟨Same.refl _,y xs q⟩
theorem items_lst {K:W.Frag}{a:Addr}{xs:List V}{H1:Hp}(h:H1 a=some (.lst xs))(i:Nat)(H:Hp)(s:Same H1 H) :
 (i<xs.length→(Itl K a).go i H∧∀x H2,(Itl K a).yld i H x H2→Same H H2∧xs[i]?=some x)∧(xs.length≤i→(Itl K a).stop i H):=by
 have q:SqL K H a xs:=SqL.of (s _ _ h)
 refine⟨fun hi=>⟨⟨xs,xs[i],q,List.getElem?_eq_getElem hi⟩,fun x H2 ⟨e,y⟩=>?_⟩,fun hi=>⟨xs,q,hi⟩⟩
 subst e
 exact⟨Same.refl _,y xs q⟩
theorem items_zip {K:W.Frag}{a b:Addr}{xs ys:List V}{H1:Hp}(h:H1 a=some (.tup xs))(h':H1 b=some (.tup ys))(i:Nat)(H:Hp)(s:Same H1 H) :
 (i<min xs.length ys.length→(Itz true K a b).go i H∧∀v H2,(Itz true K a b).yld i H v H2→Same H H2∧∃p x y,v=.ref p∧H2 p=some (.tup [x,y])∧xs[i]?=some x∧ys[i]?=some y)∧(min xs.length ys.length≤i→(Itz true K a b).stop i H):=by
 have q:SqK true K H a xs:=SqT.of (s _ _ h)
 have q':SqK true K H b ys:=SqT.of (s _ _ h')
 refine⟨fun hi=>⟨⟨xs,ys,xs[i]'(by omega),ys[i]'(by omega),q,q',List.getElem?_eq_getElem (by omega),List.getElem?_eq_getElem (by omega)⟩,fun v H2 ⟨p,x,y,e1,e2,e3,e4,e5⟩=>?_⟩,fun hi=>⟨xs,ys,q,q',?_⟩⟩
 ·subst e3
  exact⟨same_new e2 _,p,x,y,e1,upd_same,e4 xs q,e5 ys q'⟩
 ·by_cases hx:xs.length≤i
  ·exact .inl (List.getElem?_eq_none hx)
  ·exact .inr (List.getElem?_eq_none (by omega))
section
variable {X:Cx}{elt iter:Expr}{ifs:List Expr}{scope:Scope}{pos:Pos}{N:List Str}{js:List Nat}{sc:Scope}{N0:List Str}{wi:TI}{tt:TT}{te:TE}{x y:Str}{px py tp:Pos}{k:Nat}
theorem blk_loc {cl:List (Str×Addr)}{C:Addr}{s:Shared}{H:Hp}{fp:List Addr}(h:scope.names.lookup x=some .local):(blk X N scope cl C s H fp).env.scope.names.lookup x=some .local:=lookup_relabel_local h
theorem pe_comp1 (hc:X.calm=true)(hsc:X.env.scope=sc)(hN:X.N=N0)(B:Blk sc N0 (x::N) 1 js scope)(hx:scope.names.lookup x=some .local)(hi:PI X (.Name x px) iter wi)
 (ht:∀cl C s H fp,PTs (blk X (x::N) scope cl C s H fp) ifs tt) (he:∀cl C s H fp,PE (blk X (x::N) scope cl C s H fp) elt te)
 (hs:∀x,foldedSetIterable iter X.env x=pure x:=by intro _;rfl):PE X (.ListComp elt [⟨.Name x px,iter,ifs,0⟩] scope pos) (tComp 1 js wi (gName 0) tt te):=
 pe_comp hc hsc hN B hi (fun cl C s H fp=>pg_name (i:=0) B.nd rfl (.inl (blk_loc hx)) (.inr (blk_loc hx))) ht he hs
theorem pe_comp2 (hc:X.calm=true)(hsc:X.env.scope=sc)(hN:X.N=N0)(B:Blk sc N0 (x::y::N) 2 js scope)(hx:scope.names.lookup x=some .local)(hy:scope.names.lookup y=some .local)(hi:PI X (.Tuple [.Name x px,.Name y py] k tp) iter wi)
 (ht:∀cl C s H fp,PTs (blk X (x::y::N) scope cl C s H fp) ifs tt) (he:∀cl C s H fp,PE (blk X (x::y::N) scope cl C s H fp) elt te)
 (hs:∀x,foldedSetIterable iter X.env x=pure x:=by intro _;rfl):PE X (.ListComp elt [⟨.Tuple [.Name x px,.Name y py] k tp,iter,ifs,0⟩] scope pos) (tComp 2 js wi (gTup X.K 2 (gCons (gName 0) (gCons (gName 1) gNil))) tt te):=
 pe_comp hc hsc hN B hi (fun cl C s H fp=>pg_tup (X:=blk X (x::y::N) scope cl C s H fp) hc (pgs_cons (pg_name (i:=0) B.nd rfl (.inl (blk_loc hx)) (.inr (blk_loc hx))) (pgs_cons (pg_name (i:=1) B.nd rfl (.inl (blk_loc hy)) (.inr (blk_loc hy))) pgs_nil))) ht he hs
end
structure SA (X:Cx)(es:List Expr)(t:TA):Prop where
 get:PA X es t
theorem lookup_by {T:String}{n:Str}{r:Option Value}(h:fastLookup T n=some r):typeLookup (.type T) n=pure r:=by rw[typeLookup_type,builtinLookup_eq_fast,h]
theorem slot_by {T id owner n:String}{mro:List Value}(found:fastLookup T (Str.ofString n)=some (some (.builtin id)))(above:fastBuiltinMro T=some mro)(mine:mro.contains (.type owner)=true)
 (named:splitId id=some (owner,n)∧withoutEnding? id "#opaque" = none∧withoutEnding? id "#data" = none∧plainId id=true)
 (kind:(Manifest.find? owner).bind (·.attrs.lookup n)=some .slot∨(Manifest.find? owner).bind (·.attrs.lookup n)=some .method):Slot T (Str.ofString n) id:=
 .of (lookup_by found) named.1 named.2.1 named.2.2.1 kind (by rw[isSubtype_type,above];exact congrArg pure mine) named.2.2.2
theorem args_by {id:String}{v:List Value}{n o:List Char}{rows:List (String×Manifest.Signature)}(cut:((id.toList.map fun c=>if c.isAlphanum||c=='_'||c=='.' then c else '_').reverse.span (· !='.'))=(n,'.'::o))
 (own:Manifest.owners.lookup (String.ofList o.reverse)=some rows) (ok:∀sg,Manifest.signature? id=rows.lookup (String.ofList n.reverse)→sg=rows.lookup (String.ofList n.reverse)→argsOk id ⟨v,[]⟩):argsOk id ⟨v,[]⟩:=
 ok _ (signature?_of cut own) rfl
theorem vals_of:∀(us:List Value) (ns:List Int),us.length=ns.length→(∀(j:Nat) (u:Value),us[j]?=some u→∃t,∃i,ns[j]?=some i∧u=Value.int i t)→Vals (ns.map V.int) us
 |[],[],_,_=>.nil
 |x::r,n::ns,hl,hh=>by
  obtain⟨t,i,e1,e2⟩:=hh 0 x rfl
  have e1':n=i:=by simpa using e1
  subst e1' e2
  exact .cons ⟨t,rfl⟩ (vals_of r ns (by simpa using hl) fun j u h=>hh (j+1) u h)
theorem all_same (ns ms:List Int):((List.range (min ns.length ms.length)).all (fun j=>ns.getD j 0==ms.getD j 0)&&(ns.length==ms.length))=decide (ns=ms):=by
 rw[Bool.eq_iff_iff,and_eq_true,all_eq_true,decide_eq_true_eq,beq_iff_eq]
 constructor
 ·rintro⟨h1,h2⟩
  apply ext_getElem h2
  intro i a b
  have:=h1 i (mem_range.mpr (by omega))
  rw[beq_iff_eq,getD_eq_getElem?_getD,getD_eq_getElem?_getD,List.getElem?_eq_getElem a,List.getElem?_eq_getElem b]at this
  exact this
 ·rintro rfl
  exact⟨fun i _=>by rw[beq_iff_eq],rfl⟩
theorem of_rcne' {prog:Program}{w:World}{A:Around}{E:Value→Shared→Prop}{s:Shared}{a b:Value}{k:Bool}{Q:Value→Shared→Prop}(h:SeqAt.RcNeAt A s a b k)(hq:Q (.bool k) s):wpAny (model prog w) A (compareOp .NotEq a b) Q E s:=h prog w E Q hq
section
variable {X:Cx}
theorem int_val {n:Int}{u:Value}(r:RelV (.int n) u):∃t,u=.int n t:=r
theorem ints_eqAt {A:Around}{s:Shared}{ns ms:List Int}{its its2:List Value}(r1:Vals (ns.map V.int) its)(r2:Vals (ms.map V.int) its2)(j:Nat)(h1:j<its.toArray.size)(h2:j<its2.toArray.size) :
 SeqAt.EqAt A s its.toArray[j] its2.toArray[j] (ns.getD j 0==ms.getD j 0):=by
 have l1:=r1.length
 have l2:=r2.length
 rw[length_map]at l1 l2
 simp only[size_toArray]at h1 h2
 have e1:(ns.map V.int)[j]?=some (.int ns[j]):=by rw[List.getElem?_map,List.getElem?_eq_getElem (by omega)];rfl
 have e2:(ms.map V.int)[j]?=some (.int ms[j]):=by rw[List.getElem?_map,List.getElem?_eq_getElem (by omega)];rfl
 obtain⟨u,hu,ru⟩:=r1.get e1
 obtain⟨v,hv,rv⟩:=r2.get e2
 obtain⟨t,rfl⟩:=int_val ru
 obtain⟨t',rfl⟩:=int_val rv
 have a1:its.toArray[j]=.int ns[j] t:=by
  have:=(List.getElem?_eq_some_iff.mp hu).2
  simpa using this
 have a2:its2.toArray[j]=.int ms[j] t':=by
  have:=(List.getElem?_eq_some_iff.mp hv).2
  simpa using this
 rw[a1,a2,getD_eq_getElem?_getD,getD_eq_getElem?_getD,List.getElem?_eq_getElem (by omega),List.getElem?_eq_getElem (by omega)]
 exact SeqAt.EqAt.int_int _ _ _ _
def rEqT (K:W.Frag):R2:=fun x y H Q=>∃(a b:Addr) (ns ms:List Int),x=.ref a∧y=.ref b∧SqT K H a (ns.map V.int)∧SqT K H b (ms.map V.int)∧Q (.bl (decide (ns=ms))) H
def rNeT (K:W.Frag):R2:=fun x y H Q=>∃(a b:Addr) (ns ms:List Int),x=.ref a∧y=.ref b∧SqT K H a (ns.map V.int)∧SqT K H b (ms.map V.int)∧Q (.bl (!decide (ns=ms))) H
theorem op_eqT (hu:X.A.units<cLine):OpR X (compareOp .Eq) (rEqT X.K):=by
 intro pins s σ H x y v u Q I rx ry h
 obtain⟨a,b,ns,ms,rfl,rfl,ha,hb,q⟩:=h
 cases rx
 cases ry
 obtain⟨its,r1,p1,_⟩:=I.tuple ha
 obtain⟨its2,r2,p2,_⟩:=I.tuple hb
 have l1:=r1.length
 have l2:=r2.length
 rw[length_map]at l1 l2
 refine SeqAt.eq_tupleAt (show s.heap.IsTuple a its.toArray from p1) (show s.heap.IsTuple b its2.toArray from p2) hu (ints_eqAt r1 r2) ?_
 simp only[size_toArray]
 rw[←l1,←l2,all_same]
 exact⟨.bl (decide (ns=ms)),H,I,rfl,q⟩
theorem op_neT (hu:X.A.units<cLine):OpR X (compareOp .NotEq) (rNeT X.K):=by
 intro pins s σ H x y v u Q I rx ry h
 obtain⟨a,b,ns,ms,rfl,rfl,ha,hb,q⟩:=h
 cases rx
 cases ry
 obtain⟨its,r1,p1,_⟩:=I.tuple ha
 obtain⟨its2,r2,p2,_⟩:=I.tuple hb
 have l1:=r1.length
 have l2:=r2.length
 rw[length_map]at l1 l2
 refine of_rcne' (SeqAt.RcNeAt.tuples (show s.heap.IsTuple a its.toArray from p1) (show s.heap.IsTuple b its2.toArray from p2) hu (ints_eqAt r1 r2)) ?_
 simp only[size_toArray]
 rw[←l1,←l2,all_same]
 exact⟨.bl (!decide (ns=ms)),H,I,rfl,q⟩
end
def tSetC (i:Nat)(te:TE):TS:=fun D σ H=>te σ H fun v H1=>D.nx (σ.set i (some v)) H1
theorem ps_comp {X:Cx}{elt tg iter:Expr}{ifs:List Expr}{scope:Scope}{pos pos' spos:Pos}{N:List Str}{nt:Nat}{js:List Nat}{sc:Scope}{N0:List Str}{wi:TI}{g:TG}{tt:TT}{te:TE}{ii:Nat}{nm:Str}
 (hNd:X.N.Nodup) (hii:X.N[ii]?=some nm) (hloc:Loc X.env.scope nm)
 (hc:X.calm=true) (hsc:X.env.scope=sc) (hN:X.N=N0) (B:Blk sc N0 N nt js scope) (hi:PI X tg iter wi)
 (hg:∀cl C s H fp,PG (blk X N scope cl C s H fp) tg g) (ht:∀cl C s H fp,PTs (blk X N scope cl C s H fp) ifs tt) (he:∀cl C s H fp,PE (blk X N scope cl C s H fp) elt te)
 (hsw:swapsWith (.ListComp elt [⟨tg,iter,ifs,0⟩] scope pos) (some (.Name nm pos')) spos.line X.env=pure true:=by rfl)
 (hf:X.fn nm=true∨X.env.scope.names.lookup nm=some .local:=by first | exact .inl rfl | exact .inr rfl | assumption)
 (hs:∀x,foldedSetIterable iter X.env x=pure x:=by intro _;rfl):PS X (.Assign [.Name nm pos'] (.ListComp elt [⟨tg,iter,ifs,0⟩] scope pos) spos) (tSetC ii (tComp nt js wi g tt te)):=by
 subst hsc hN
 intro pins s σ H D I h
 obtain⟨cl,hcl,c1,c2⟩:=clos_of (env:=X.env) (scope:=scope) fun y hy hk=>I.ok.has y.1 (B.cap y hy hk)
 rw[PySem.exec_Assign_Name_used _ _ _ _ hsw]
 refine wpAny_bind (wpAny_standAt (wpAny_bind ?_))
 show wpAny _ _ (comprehension _ scope X.env _ _ _ _ (some (assign (.Name nm pos') X.env)) >>= _) _ _ _
 refine wpAny_bind (thn (Q:=fun _ s'=>∃σ' H',Inv X pins σ' H' s'∧D.nx σ' H') ?_ fun _ s9 q9=>wpAny_pure (wpAny_pure q9))
 refine wpAny_comprehension_free (use:=some (assign (.Name nm pos') X.env)) rfl hs hcl B.kind B.loc (thn (hi pins s σ H _ I h) fun v s1 q1=>thn q1 fun itv s2 q2=>?_)
 obtain⟨it,fp,tn,J,H2,e,I2,T,st2,f2,q2⟩:=q2
 subst e
 obtain⟨W,⟨m0,w0⟩,turn⟩:=q2 s2.heap.objs.size (I2.hok.fresh (Nat.le_refl _))
 have hlt:∀b∈fp,b<s2.heap.objs.size:=fun b hb=>by
  obtain⟨o,eo,_⟩:=T.obj _ _ st2 b hb
  exact lt_size eo
 refine wpAny_newObj_type (wpAny_newFunctionEnv B.nocell (by intro y hy;simp at hy) (fun h1 hns hsb=>?_) B.kind)
 dsimp only at hns hsb ⊢
 have hsz:(s2.heap.push {cls:=.type "list",dict:=none,data:=.seq ([]:List Value).toArray}).objs.size=s2.heap.objs.size+1:=by rw[Heap.size_push]
 have old:∀b o,s2.heap.get? b=some o→h1.get? b=some o:=fun b o eb=>hsb.extBut b o (by rw[hsz];exact Nat.ne_of_lt (Nat.lt_succ_of_lt (lt_size eb))) (get?_push_of_some _ (get?_push_of_some _ eb))
 have hD:h1.get? s2.heap.objs.size=some {cls:=.type "list",data:=.seq ([]:List Value).toArray 0}:=hsb.extBut _ _ (by rw[hsz];exact Nat.ne_of_lt (Nat.lt_succ_self _)) (get?_push_of_some _ (get?_push_size _ rfl))
 rw[hsz]at hns
 have I3:=blk_start (cl:=cl) (fp:=fp) (tk:=s2.toks+([]:List (Str×Value)).length) I2 B c1 c2 f2 hlt old (show h1.Ns (s2.heap.objs.size+1) fun _=>none from hns) hD
 have stat:∀{H':Hp},(∀b∈fp,H' b=none)→∀b∈fp,FpOk (blk X N scope cl (s2.heap.objs.size+1) s2 H2 fp) [] H' b:=fun{H'} hn b hb=>
  ⟨hn b hb,Nat.ne_of_lt (Nat.lt_succ_of_lt (hlt b hb)),fun z=>(mem_cons.mp (I2.stkSub b z)).elim (f2 b hb).2.1 (f2 b hb).2.2.1,.inl hb,fun x c ec=>(f2 b hb).2.2.2.2.1 x c (c1 x c ec),fun p hp=>absurd (show p∈([]:List (Addr×Obj)) from hp) (by simp)⟩
 have fin:∀{i:Nat} {σ':St} {H':Hp} {s':Shared},Inv (blk X N scope cl (s2.heap.objs.size+1) s2 H2 fp) [] σ' H' s'→D.nx (σ.set ii (some (.ref s2.heap.objs.size))) H'→
  compPost (model X.prog X.w) X.A X.xe (some (assign (.Name nm pos') X.env)) (fun _ s'=>∃σ' H',Inv X pins σ' H' s'∧D.nx σ' H') (.ref s2.heap.objs.size) (s2.heap.objs.size+1) (.ok .next) s':=fun{i σ' H' s'} Ib q=>by
  obtain⟨m,hn,_⟩:=id Ib.loc
  have I4:Inv X pins σ H' s':=I2.call' Ib.os Ib.base Ib.hok Ib.bare fun b hb=>⟨(f2 b hb).2.2.2.1,(f2 b hb).2.1,(f2 b hb).2.2.2.2.1,(f2 b hb).2.2.2.2.2⟩
  obtain⟨g0,g1,g2,g3,g4,g5⟩:=I2.fpOk (H':=H') (Nat.le_succ _) Ib.free
  show wpAny _ _ (assign (.Name nm pos') X.env (.ref s2.heap.objs.size)) _ _ _
  refine wpAny_bind (wpAny_standAt (wpAny_bindName (store_ok2 I4 hNd hii hloc (v:=.ref s2.heap.objs.size) rfl (fun s5 I5 ⟨a,sb,ha⟩=>?_) hf)))
  have na:s2.heap.objs.size+1≠a:=by
   rcases ha with rfl | ha
   ·exact g1
   ·exact fun z=>g4 _ _ ha z.symm
  refine⟨m,hn.sameBut sb na,fun h'' hs''=>?_⟩
  exact⟨_,H',I5.turned (t':=s5.toks) (fun b o hb eb=>hs''.extBut b o hb eb) g0 g1 g3 g4 g5,q⟩
 have loop:codeAny (model X.prog X.w) X.A (.compLoop (.ListComp elt [⟨tg,iter,ifs,0⟩] scope pos) 0 (.ref it) (.ref s2.heap.objs.size) (compEnvC scope cl (s2.heap.objs.size+1) X.env))
  (compPost (model X.prog X.w) X.A X.xe (some (assign (.Name nm pos') X.env)) (fun _ s'=>∃σ' H',Inv X pins σ' H' s'∧D.nx σ' H') (.ref s2.heap.objs.size) (s2.heap.objs.size+1)) {s2 with heap:=h1,toks:=s2.toks+([]:List (Str×Value)).length}:=by
  refine comp_turns (fun n s'=>∃i σ' H',Inv (blk X N scope cl (s2.heap.objs.size+1) s2 H2 fp) [] σ' H' s'∧tn i s'.heap∧(∀b∈fp,H' b=none)∧W i n σ' H') ?_ m0
   ⟨0,_,_,I3,T.keep _ _ _ st2 fun b _ o eb=>old b o eb,fun b hb=>?_,w0⟩
  ·rintro n s3 ⟨i,σ3,H3,J3,st3,fr3,w3⟩
   rcases turn i n σ3 H3 w3 with⟨stop,qn⟩ | ⟨go,step⟩
   ·refine thn (T.done (blk X N scope cl (s2.heap.objs.size+1) s2 H2 fp) rfl rfl rfl hc i [] s3 σ3 H3 _ J3 (stat fr3) st3 stop) fun r s4 ⟨hr,I4⟩=>?_
    subst hr
    exact fin (i:=i) I4 qn
   ·refine thn (T.item (blk X N scope cl (s2.heap.objs.size+1) s2 H2 fp) rfl rfl rfl hc i [] s3 σ3 H3 _ J3 (stat fr3) st3 go) fun r s4 ⟨u,hr,h4⟩=>?_
    subst hr
    refine thn h4 fun _ s5 ⟨x,H5,I5,r5,y5,st5,fr5⟩=>?_
    have I5':=I5.pinned (stat fr5) (T.obj _ _ st5)
    refine thn (hg _ _ _ _ _ _ s5 σ3 H5 x u _ I5' r5 (step x H5 y5)) fun _ s6 ⟨σ6,H6,I6,q6⟩=>?_
    have again:∀{σ7:St} {H7:Hp} {s7:Shared} {k:Nat},Inv (blk X N scope cl (s2.heap.objs.size+1) s2 H2 fp) ([]++pinsAt fp s5.heap) σ7 H7 s7→k<n→W (i+1) k σ7 H7→
     ∃k,k<n∧∃i σ' H',Inv (blk X N scope cl (s2.heap.objs.size+1) s2 H2 fp) [] σ' H' s7∧tn i s7.heap∧(∀b∈fp,H' b=none)∧W i k σ' H':=fun{σ7 H7 s7 k} I7 hk w7=>by
     refine⟨k,hk,i+1,σ7,H7,I7.unpinned,T.keep _ _ _ st5 fun b hb o eb=>(I7.pin (b,o) (mem_append_right _ (mem_append_right _ (mem_pinsAt hb eb)))).1,fun b hb=>?_,w7⟩
     obtain⟨o,eb,_⟩:=T.obj _ _ st5 b hb
     exact(I7.pin (b,o) (mem_append_right _ (mem_append_right _ (mem_pinsAt hb eb)))).2.1
    refine thn (ht _ _ _ _ _ _ s6 σ6 H6 _ I6 q6) fun ok s7 ⟨H7,I7,q7⟩=>?_
    cases ok with
    |false=>
     rw[if_neg Bool.false_ne_true]at q7 ⊢
     obtain⟨k,hk,w7⟩:=q7
     exact again I7 hk w7
    |true=>
     rw[if_pos rfl]at q7 ⊢
     refine thn (he _ _ _ _ _ _ s7 σ6 H7 _ I7 q7) fun y s8 ⟨v8,H8,I8,r8,ys,e8,z8,k,hk,w8⟩=>?_
     refine thn (mt_append _ s8 σ6 H8 (.ref s2.heap.objs.size) [v8] _ [y] (fun _ H9=>W (i+1) k σ6 H9) I8 rfl (.cons r8 .nil) ⟨_,ys,v8,rfl,rfl,e8,z8,w8⟩) fun _ s9 ⟨_,H9,I9,_,w9⟩=>?_
     exact again I9 hk w9
  ·show upd H2 _ _ b=none
   rw[upd_ne (Nat.ne_of_lt (hlt b hb))]
   exact(f2 b hb).1
 rw[hsz]
 exact codeAny_compStart_list loop (T.self _ 0 _ _ _ (T.keep _ _ _ st2 fun b _ o eb=>old b o eb) loop)
theorem range_filter_succ (n:Nat)(keep:Nat→Bool):(List.range (n+1)).filter keep=(List.range n).filter keep++(if keep n=true then [n] else []):=by
 rw[range_succ,filter_append]
 congr 1
 cases h:keep n<;>simp[h]
theorem comp_sel {J:It}{g:TG}{tt:TT}{te:TE}{Q:VK}{D:Addr}{H1:Hp}{σ0:St}(n:Nat)(hn:n≤sizeLine)(keep:Nat→Bool)(f:Nat→V)(Sg:St→Prop)(itm:Nat→Hp→V→Prop)(hD:H1 D=none)(s0:Sg σ0)
 (items:∀i H,Same H1 H→(i<n→J.go i H∧∀x H2,J.yld i H x H2→Same H H2∧itm i H2 x)∧(n≤i→J.stop i H))
 (step:∀i x σ' H,i<n→Same H1 H→itm i H x→Sg σ'→∀(R:St→V→Hp→Prop) (S:St→Hp→Prop),(keep i=true→∀σ3 y H5,Sg σ3→Same H H5→y=f i→R σ3 y H5)→(keep i=false→∀σ3 H4,Sg σ3→Same H H4→S σ3 H4)→
  g x σ' H fun σ3 H3=>tt σ3 H3 fun ok H4=>if ok=true then te σ3 H4 (R σ3) else S σ3 H4)
 (fin:∀H',Same H1 H'→H' D=some (.lst (((List.range n).filter keep).map f))→Q (.ref D) H') :
 cmpW J g tt te Q D σ0 H1:=by
 refine⟨fun i m σ H=>m=n - i∧i≤n∧Sg σ∧Same H1 H∧H D=some (.lst (((List.range i).filter keep).map f)),⟨n,by omega,Nat.zero_le _,s0,(Same.refl H1).upd_free hD _,upd_same⟩,?_⟩
 rintro i m σ H ⟨rfl,hi,hs,sm,hd⟩
 by_cases hlt:i<n
 ·obtain⟨go,yl⟩:=(items i H sm).1 hlt
  refine .inr ⟨go,fun x H2 y=>?_⟩
  obtain⟨s2,im⟩:=yl x H2 y
  refine step i x σ H2 hlt (sm.trans s2) im hs _ _ (fun kp σ3 y H5 g3 s5 ey=>?_) (fun kp σ3 H4 g3 s4=>?_)
  ·have ll:(((List.range i).filter keep).map f).length≤i:=by
    rw[length_map]
    exact Nat.le_trans (length_filter_le _ _) (by rw[length_range];exact Nat.le_refl _)
   refine⟨_,s5 _ _ (s2 _ _ hd),by omega,n - (i+1),by omega,rfl,by omega,g3,(sm.trans (s2.trans s5)).upd_free hD _,?_⟩
   rw[upd_same,ey,range_filter_succ,if_pos kp,map_append]
   rfl
  ·refine⟨n - (i+1),by omega,rfl,by omega,g3,sm.trans (s2.trans s4),?_⟩
   rw[s4 _ _ (s2 _ _ hd),range_filter_succ,if_neg (by rw[kp];exact Bool.false_ne_true),append_nil]
 ·have e:i=n:=by omega
  subst e
  exact .inl ⟨(items i H sm).2 (Nat.le_refl _),fin H sm hd⟩
theorem items_rng {H1:Hp}(lo:Int)(n:Nat)(i:Nat)(H:Hp)(s:Same H1 H) :
 (i<n→(Itr lo n).go i H∧∀x H2,(Itr lo n).yld i H x H2→Same H H2∧x=.int (lo+(i:Int)))∧(n≤i→(Itr lo n).stop i H):=by
 refine⟨fun hi=>⟨hi,fun x H2 ⟨e,y⟩=>?_⟩,fun hi=>hi⟩
 subst e
 exact⟨Same.refl _,y⟩
end L2
namespace BB
def stp (z L:Nat)(b:Bool):Nat×Bool:=
 if b then(if L<z then(L+1,false) else(L,true)) else(if 0<L then(L - 1,true) else(0,false))
def out (z:Nat):Nat→List Bool→List Bool
 |_,[]=>[]
 |L,b::r=>(stp z L b).2::out z (stp z L b).1 r
def fin (z:Nat):Nat→List Bool→Nat
 |L,[]=>L
 |L,b::r=>fin z (stp z L b).1 r
theorem out_append (z:Nat):∀(L:Nat) (x y:List Bool),out z L (x++y)=out z L x++out z (fin z L x) y
 |_,[],_=>rfl
 |L,b::r,y=>by
  show _::out z _ (r++y)=_::(out z _ r++_)
  rw[out_append z _ r y]
  rfl
theorem fin_append (z:Nat):∀(L:Nat) (x y:List Bool),fin z L (x++y)=fin z (fin z L x) y
 |_,[],_=>rfl
 |L,b::r,y=>fin_append z _ r y
theorem out_length (z:Nat):∀(L:Nat) (bs:List Bool),(out z L bs).length=bs.length
 |_,[]=>rfl
 |L,b::r=>by
  show(out z _ r).length+1=r.length+1
  rw[out_length z _ r]
theorem count_out {z:Nat}:∀{L:Nat} {bs:List Bool},(out z L bs).count true+fin z L bs=L+bs.count true
 |L,[]=>by simp[out,fin]
 |L,b::r=>by
  have ih:=count_out (z:=z) (L:=(stp z L b).1) (bs:=r)
  have e1:out z L (b::r)=(stp z L b).2::out z (stp z L b).1 r:=rfl
  have e2:fin z L (b::r)=fin z (stp z L b).1 r:=rfl
  rw[e1,e2,count_cons,count_cons]
  have k:(stp z L b).1+(if(stp z L b).2==true then 1 else 0)=L+(if b==true then 1 else 0):=by
   unfold stp
   cases b
   ·simp only[false_eq_true,if_false]
    split<;>simp<;>omega
   ·simp only[if_true]
    split<;>simp
  omega
def places:Int→List Bool→List Int
 |_,[]=>[]
 |lo,b::r=>(if b=true then [lo] else [])++places (lo+1) r
theorem places_append:∀(lo:Int) (x y:List Bool),places lo (x++y)=places lo x++places (lo+(x.length:Int)) y
 |lo,[],y=>by show places lo y=places (lo+((0:Nat):Int)) y;congr 1;omega
 |lo,b::r,y=>by
  show _++places (lo+1) (r++y)=(_++places (lo+1) r)++places (lo+((r.length+1:Nat):Int)) y
  rw[places_append (lo+1) r y,List.append_assoc]
  congr 3
  omega
theorem places_length:∀(lo:Int) (bs:List Bool),(places lo bs).length=bs.count true
 |_,[]=>rfl
 |lo,b::r=>by
  show(_++places (lo+1) r).length=_
  rw[length_append,places_length (lo+1) r,count_cons]
  cases b<;>simp<;>omega
theorem places_ge:∀{lo:Int} {bs:List Bool} {p:Int},p∈places lo bs→lo≤p∧p<lo+(bs.length:Int)
 |lo,[],p,h=>by cases h
 |lo,b::r,p,h=>by
  rcases mem_append.mp (show p∈(if b=true then [lo] else [])++places (lo+1) r from h) with h | h
  ·cases b
   ·cases h
   ·have:p=lo:=by simpa using h
    subst this
    simp only[length_cons]
    omega
  ·have:=places_ge h
   simp only[length_cons]
   omega
theorem places_up:∀(lo:Int) (bs:List Bool),(places lo bs).Pairwise (· < ·)
 |_,[]=>.nil
 |lo,b::r=>by
  refine pairwise_append.mpr ⟨by cases b<;>simp,places_up (lo+1) r,fun x hx y hy=>?_⟩
  have:=places_ge hy
  cases b
  ·cases hx
  ·have:x=lo:=by simpa using hx
   omega
def row (lo:Int)(n:Nat):List Int:=(List.range n).map fun(k:Nat)=>lo+(k:Int)
theorem row_zero (lo:Int):row lo 0=[]:=rfl
theorem row_succ (lo:Int)(n:Nat):row lo (n+1)=lo::row (lo+1) n:=by
 unfold row
 rw[range_succ_eq_map,map_cons,map_map]
 congr 1
 ·show lo+((0:Nat):Int)=lo
  omega
 ·refine map_congr_left fun k _=>?_
  show lo+((k+1:Nat):Int)=lo+1+(k:Int)
  omega
def sp (z:Nat):Nat→Int→List Int→List Int
 |L,box,[]=>row box L
 |L,box,p::r=>row box (min L (p - box).toNat)++
  (if L - min L (p - box).toNat<z then sp z (L - min L (p - box).toNat+1) (p+1) r else p::sp z (L - min L (p - box).toNat) (p+1) r)
theorem sp_gap {z L:Nat}{lo:Int}{rw_:List Int}(h:∀p∈rw_,lo+1≤p):sp z L lo rw_=if 0<L then lo::sp z (L - 1) (lo+1) rw_ else sp z 0 (lo+1) rw_:=by
 cases rw_ with
 |nil=>
  show row lo L=if 0<L then lo::row (lo+1) (L - 1) else row (lo+1) 0
  cases L with
  |zero=>rfl
  |succ L=>rw[if_pos (Nat.succ_pos L),row_succ];rfl
 |cons p r=>
  have hp:=h p (mem_cons_self ..)
  cases L with
  |zero=>
   rw[if_neg (by omega)]
   unfold sp
   rw[Nat.zero_min,Nat.zero_min]
   rfl
  |succ L=>
   rw[if_pos (Nat.succ_pos L)]
   have e:min (L+1) (p - lo).toNat=min L (p - (lo+1)).toNat+1:=by omega
   unfold sp
   rw[e,row_succ,show L+1 - 1=L from rfl,show L+1 - (min L (p - (lo+1)).toNat+1)=L - min L (p - (lo+1)).toNat by omega]
   rfl
theorem sp_places (z:Nat):∀(L:Nat) (lo:Int) (bs:List Bool),sp z L lo (places lo bs)=places lo (out z L bs)++row (lo+(bs.length:Int)) (fin z L bs)
 |L,lo,[]=>by
  show row lo L=[]++row (lo+((0:Nat):Int)) L
  rw[nil_append]
  congr 1
  omega
 |L,lo,false::r=>by
  have e:places lo (false::r)=places (lo+1) r:=rfl
  rw[e,sp_gap fun p hp=>(places_ge hp).1]
  have el:lo+1+(r.length:Int)=lo+((false::r).length:Int):=by simp only[length_cons];omega
  by_cases c:0<L
  ·rw[if_pos c,sp_places z (L - 1) (lo+1) r,el]
   have e1:stp z L false=(L - 1,true):=by unfold stp;simp only[false_eq_true,if_false,if_pos c]
   show _=((if(stp z L false).2=true then [lo] else [])++places (lo+1) (out z (stp z L false).1 r))++row _ (fin z (stp z L false).1 r)
   rw[e1]
   rfl
  ·rw[if_neg c,sp_places z 0 (lo+1) r,el]
   have e1:stp z L false=(0,false):=by unfold stp;simp only[false_eq_true,if_false,if_neg c]
   show _=((if(stp z L false).2=true then [lo] else [])++places (lo+1) (out z (stp z L false).1 r))++row _ (fin z (stp z L false).1 r)
   rw[e1]
   rfl
 |L,lo,true::r=>by
  have e:places lo (true::r)=lo::places (lo+1) r:=rfl
  have el:lo+1+(r.length:Int)=lo+((true::r).length:Int):=by simp only[length_cons];omega
  rw[e]
  unfold sp
  have em:min L (lo - lo).toNat=0:=by rw[Int.sub_self];exact Nat.min_zero L
  rw[em,row_zero,nil_append,Nat.sub_zero]
  by_cases c:L<z
  ·rw[if_pos c,sp_places z (L+1) (lo+1) r,el]
   have e1:stp z L true=(L+1,false):=by unfold stp;simp only[if_true,if_pos c]
   show _=((if(stp z L true).2=true then [lo] else [])++places (lo+1) (out z (stp z L true).1 r))++row _ (fin z (stp z L true).1 r)
   rw[e1]
   rfl
  ·rw[if_neg c,sp_places z L (lo+1) r,el]
   have e1:stp z L true=(L,true):=by unfold stp;simp only[if_true,if_neg c]
   show _=((if(stp z L true).2=true then [lo] else [])++places (lo+1) (out z (stp z L true).1 r))++row _ (fin z (stp z L true).1 r)
   rw[e1]
   rfl
theorem sp_free {z:Nat}{box box':Int}:∀{r:List Int},sp z 0 box r=sp z 0 box' r
 |[]=>rfl
 |p::r=>by
  unfold sp
  rw[Nat.zero_min,Nat.zero_min]
  rfl
def step (z:Nat)(r:List Int):List Int:=sp z 0 (r.headD 0) r
theorem step_places {z:Nat}{lo:Int}{bs:List Bool}(h:fin z 0 bs=0):step z (places lo bs)=places lo (out z 0 bs):=by
 unfold step
 rw[sp_free (box':=lo),sp_places,h,row_zero,append_nil]
theorem cells:∀(n:Nat) (lo:Int) (r:List Int),r.Pairwise (· < ·)→(∀p∈r,lo≤p∧p<lo+(n:Int))→∃bs:List Bool,bs.length=n∧places lo bs=r
 |0,lo,r,_,h=>by
  cases r with
  |nil=>exact⟨[],rfl,rfl⟩
  |cons p r=>have:=h p (mem_cons_self ..);omega
 |n+1,lo,r,up,h=>by
  cases r with
  |nil=>
   obtain⟨bs,e1,e2⟩:=cells n (lo+1) [] .nil (fun p hp=>by cases hp)
   exact⟨false::bs,by rw[length_cons,e1],e2⟩
  |cons p r=>
   obtain⟨u1,u2⟩:=pairwise_cons.mp up
   have hp:=h p (mem_cons_self ..)
   by_cases c:p=lo
   ·subst c
    obtain⟨bs,e1,e2⟩:=cells n (p+1) r u2 fun q hq=>by
     have:=u1 q hq
     have:=h q (mem_cons_of_mem _ hq)
     omega
    refine⟨true::bs,by rw[length_cons,e1],?_⟩
    show [p]++places (p+1) bs=_
    rw[e2]
    rfl
   ·obtain⟨bs,e1,e2⟩:=cells n (lo+1) (p::r) up fun q hq=>by
     have:=h q hq
     rcases mem_cons.mp hq with rfl | hq'
     ·omega
     ·have:=u1 q hq'
      omega
    exact⟨false::bs,by rw[length_cons,e1],e2⟩
theorem fin_falses (z:Nat):∀(k L:Nat),fin z L (replicate k false)=L - k
 |0,L=>rfl
 |k+1,L=>by
  show fin z (stp z L false).1 (replicate k false)=_
  rw[fin_falses z k]
  unfold stp
  simp only[false_eq_true,if_false]
  split<;>simp only<;>omega
theorem places_falses:∀(k:Nat) (lo:Int),places lo (replicate k false)=[]
 |0,_=>rfl
 |k+1,lo=>places_falses k (lo+1)
theorem window (z:Nat){A B:Int}{r:List Int}(up:r.Pairwise (· < ·))(h:∀p∈r,A≤p∧p≤B):∃bs:List Bool,places A bs=r∧fin z 0 bs=0∧bs.count true=r.length∧(r≠[]→A+(bs.length:Int)≤B+1+(r.length:Int)):=by
 obtain⟨bs,e1,e2⟩:=cells (B+1 - A).toNat A r up fun p hp=>by have:=h p hp;omega
 have hc:bs.count true=r.length:=by rw[←places_length A bs,e2]
 have hf:fin z 0 bs≤r.length:=by have:=count_out (z:=z) (L:=0) (bs:=bs);omega
 refine⟨bs++replicate (fin z 0 bs) false,?_,?_,?_,fun ne=>?_⟩
 ·rw[places_append,places_falses,append_nil,e2]
 ·rw[fin_append,fin_falses,Nat.sub_self]
 ·rw[List.count_append,hc]
  have:(replicate (fin z 0 bs) false).count true=0:=by simp[List.count_replicate]
  omega
 ·cases r with
  |nil=>exact absurd rfl ne
  |cons p r=>
   have:=h p (mem_cons_self ..)
   rw[length_append,length_replicate,e1]
   omega
structure Rw (r:List Int)(k:Nat)(A B:Int):Prop where
 up:r.Pairwise (· < ·)
 len:r.length=k
 bd:∀p∈r,A≤p∧p≤B
theorem Rw.step {r:List Int}{k:Nat}{A B:Int}(z:Nat)(h:Rw r k A B):Rw (step z r) k A (B+(k:Int)):=by
 obtain⟨bs,e1,e2,e3,e4⟩:=window z h.up h.bd
 have hc:=count_out (z:=z) (L:=0) (bs:=bs)
 rw[←e1,step_places e2]
 refine⟨places_up _ _,by rw[places_length];have:=h.len;omega,fun p hp=>?_⟩
 have:=places_ge hp
 rw[out_length]at this
 have ne:r≠[]:=fun w=>by
  have:(places A (out z 0 bs)).length=0:=by rw[places_length];rw[w]at e3;simp only[length_nil]at e3;omega
  rw[length_eq_zero_iff]at this
  rw[this]at hp
  cases hp
 have:=e4 ne
 have:=h.len
 omega
def it (f:List Int→List Int):Nat→List Int→List Int
 |0,r=>r
 |n+1,r=>f (it f n r)
def ld (L:Nat)(b:Bool):Nat:=if b then L+1 else L - 1
def lst:Nat→List Bool→Nat
 |L,[]=>L
 |L,b::r=>lst (ld L b) r
end BB
namespace L2
structure Nb2 (mg:Str→Option Value):Prop extends Nb mg where
 rev:mg "reversed" = none
 abs:mg "abs" = none
section
variable {X:Cx}{elt iter:Expr}{ifs:List Expr}{scope:Scope}{pos pos' spos:Pos}{N:List Str}{js:List Nat}{sc:Scope}{N0:List Str}{wi:TI}{tt:TT}{te:TE}{x nm:Str}{px:Pos}{ii:Nat}
theorem ps_comp1 (hNd:X.N.Nodup)(hii:X.N[ii]?=some nm)(hloc:Loc X.env.scope nm)(hc:X.calm=true)(hsc:X.env.scope=sc)(hN:X.N=N0)(B:Blk sc N0 (x::N) 1 js scope)(hx:scope.names.lookup x=some .local)(hi:PI X (.Name x px) iter wi)
 (ht:∀cl C s H fp,PTs (blk X (x::N) scope cl C s H fp) ifs tt) (he:∀cl C s H fp,PE (blk X (x::N) scope cl C s H fp) elt te)
 (hsw:swapsWith (.ListComp elt [⟨.Name x px,iter,ifs,0⟩] scope pos) (some (.Name nm pos')) spos.line X.env=pure true:=by rfl)
 (hf:X.fn nm=true∨X.env.scope.names.lookup nm=some .local:=by first | exact .inl rfl | exact .inr rfl | assumption)
 (hs:∀x,foldedSetIterable iter X.env x=pure x:=by intro _;rfl):PS X (.Assign [.Name nm pos'] (.ListComp elt [⟨.Name x px,iter,ifs,0⟩] scope pos) spos) (tSetC ii (tComp 1 js wi (gName 0) tt te)):=
 ps_comp hNd hii hloc hc hsc hN B hi (fun cl C s H fp=>pg_name (i:=0) B.nd rfl (.inl (blk_loc hx)) (.inr (blk_loc hx))) ht he hsw hf hs
end
section
variable {κ:Type}[DecidableEq κ]
def valV (kvs:List (κ×V))(k:κ):Option V:=(kvs.find? fun kv=>decide (kv.1=k)).map (·.2)
def putK (kvs:List (κ×V))(k:κ)(v:V):List (κ×V):=
 if(kvs.any fun kv=>decide (kv.1=k))=true then kvs.map (fun kv=>if kv.1=k then(kv.1,v) else kv) else kvs++[(k,v)]
theorem valV_pos {p:κ×V}{r:List (κ×V)}{k:κ}(e:p.1=k):valV (p::r) k=some p.2:=by simp[valV,find?_cons,e]
theorem valV_neg {p:κ×V}{r:List (κ×V)}{k:κ}(e:¬p.1=k):valV (p::r) k=valV r k:=by simp[valV,find?_cons,e]
theorem valV_any (k:κ):∀kvs:List (κ×V),(kvs.any fun kv=>decide (kv.1=k))=(valV kvs k).isSome
 |[]=>rfl
 |p::r=>by
  rw[any_cons]
  by_cases e:p.1=k
  ·simp only[valV_pos e,decide_eq_true e,Bool.true_or,Option.isSome_some]
  ·rw[valV_neg e,decide_eq_false e,Bool.false_or];exact valV_any k r
theorem length_putK (kvs:List (κ×V))(k:κ)(v:V):(putK kvs k v).length≤kvs.length+1:=by
 unfold putK
 split
 ·rw[length_map];omega
 ·rw[length_append,length_cons,length_nil];omega
theorem RelO.isSome_eq {o:Option V}{u:Option Value}(r:RelO o u):o.isSome=u.isSome:=by
 cases o with
 |none=>cases u with
  |none=>rfl
  |some _=>exact(show False from r).elim
 |some _=>cases u with
  |none=>exact(show False from r).elim
  |some _=>rfl
theorem RelO.getD {o:Option V}{u:Option Value}{d:V}{d':Value}(r:RelO o u)(rd:RelV d d'):RelV (o.getD d) (u.getD d'):=by
 cases o with
 |none=>cases u with
  |none=>exact rd
  |some _=>exact(show False from r).elim
 |some _=>cases u with
  |none=>exact(show False from r).elim
  |some _=>exact r
theorem KV.val {kvs:List (κ×V)}{vs:List (κ×Value)}(r:KV kvs vs)(k:κ):RelO (valV kvs k) (valueAt vs k):=by
 unfold KV at r
 induction r with
 |nil=>exact True.intro
 | @cons p q ps qs h t ih=>
   obtain⟨h1,h2⟩:=h
   by_cases e:p.1=k
   ·have e':q.1=k:=h1.symm.trans e
    have b:valueAt (q::qs) k=some q.2:=by simp[valueAt,find?_cons,e']
    rw[valV_pos e,b];exact h2
   ·have e':¬q.1=k:=fun z=>e (h1.trans z)
    have b:valueAt (q::qs) k=valueAt qs k:=by simp[valueAt,find?_cons,e']
    rw[valV_neg e,b];exact ih
theorem KV.any {kvs:List (κ×V)}{vs:List (κ×Value)}(r:KV kvs vs)(k:κ):(kvs.any fun kv=>decide (kv.1=k))=vs.any fun kv=>decide (kv.1=k):=by
 unfold KV at r
 induction r with
 |nil=>rfl
 |cons h t ih=>rw[any_cons,any_cons,ih,h.1]
theorem KV.repl {kvs:List (κ×V)}{vs:List (κ×Value)}(r:KV kvs vs)(k:κ){y:V}{u:Value}(ry:RelV y u) :
 KV (kvs.map fun kv=>if kv.1=k then(kv.1,y) else kv) (vs.map fun kv=>if kv.1=k then(kv.1,u) else kv):=by
 unfold KV at r ⊢
 induction r with
 |nil=>exact .nil
 | @cons p q ps qs h t ih=>
   rw[map_cons,map_cons]
   refine .cons ?_ ih
   obtain⟨h1,h2⟩:=h
   by_cases e:p.1=k
   ·rw[if_pos e,if_pos (h1.symm.trans e)];exact⟨h1,ry⟩
   ·rw[if_neg e,if_neg (fun z=>e (h1.trans z))];exact⟨h1,h2⟩
theorem KV.put {kvs:List (κ×V)}{vs:List (κ×Value)}(r:KV kvs vs)(k:κ){y:V}{u:Value}(ry:RelV y u):KV (putK kvs k y) (stored vs k u):=by
 unfold putK stored
 rw[r.any k]
 by_cases e:(vs.any fun kv=>decide (kv.1=k))=true
 ·rw[if_pos e,if_pos e];exact r.repl k ry
 ·rw[if_neg e,if_neg e];exact Paired.snoc r ⟨rfl,ry⟩
theorem KV.length {kvs:List (κ×V)}{vs:List (κ×Value)}(r:KV kvs vs):kvs.length=vs.length:=Paired.length r
end
theorem kV_is {P:Program}{w:World}{k:Key}{u:Value}(r:RelV (kV k) u):(mixKind P w).is k u=true:=by
 cases k with
 |inl i=>obtain⟨t,e⟩:=(show ∃t,u=Value.int i t from r);subst e;exact mixKind_int P w i t
 |inr x=>obtain⟨t,e⟩:=(show ∃t,u=Value.str x t from r);subst e;exact mixKind_str P w x t
theorem items_are {P:Program}{w:World}:∀{ks:List Key} {us:List Value},Vals (ks.map kV) us→ItemsAre (mixKind P w) ks us
 |[],_,r=>by rw[map_nil]at r;cases r;exact .nil
 |k::ks,_,r=>by
  rw[map_cons]at r
  cases r with
  |cons h t=>exact .cons (kV_is h) (items_are t)
abbrev KT (H:Hp):List (List Key×V)→List (List Key×Addr×Value)→Prop:=Paired fun p q=>p.1=q.1∧H q.2.1=some (.tup (p.1.map kV))∧RelV p.2 q.2.2
theorem KT.val {H:Hp}{kvs:List (List Key×V)}{xs:List (List Key×Addr×Value)}(r:KT H kvs xs)(k:List Key):RelO (valV kvs k) ((atKey xs k).map (·.2)):=by
 induction r with
 |nil=>exact True.intro
 | @cons p q ps qs h t ih=>
   obtain⟨h1,_,h2⟩:=h
   by_cases e:p.1=k
   ·have e':q.1=k:=h1.symm.trans e
    have b:atKey (q::qs) k=some q.2:=by simp[atKey,find?_cons,e']
    rw[valV_pos e,b];exact h2
   ·have e':¬q.1=k:=fun z=>e (h1.trans z)
    have b:atKey (q::qs) k=atKey qs k:=by simp[atKey,find?_cons,e']
    rw[valV_neg e,b];exact ih
theorem KT.repl {H:Hp}{kvs:List (List Key×V)}{xs:List (List Key×Addr×Value)}(r:KT H kvs xs)(k:List Key){y:V}{u:Value}(ry:RelV y u) :
 KT H (kvs.map fun kv=>if kv.1=k then(kv.1,y) else kv) (xs.map (putAt k u)):=by
 induction r with
 |nil=>exact .nil
 | @cons p q ps qs h t ih=>
   rw[map_cons,map_cons]
   refine .cons ?_ ih
   obtain⟨h1,h2,h3⟩:=h
   unfold putAt
   by_cases e:p.1=k
   ·rw[if_pos e,if_pos (h1.symm.trans e)];exact⟨h1,h2,ry⟩
   ·rw[if_neg e,if_neg (fun z=>e (h1.trans z))];exact⟨h1,h2,h3⟩
theorem KT.put {H:Hp}{kvs:List (List Key×V)}{xs:List (List Key×Addr×Value)}(r:KT H kvs xs)(k:List Key){b:Addr}{y:V}{u:Value}(hb:H b=some (.tup (k.map kV)))(ry:RelV y u) :
 KT H (putK kvs k y) (storedH xs k b u):=by
 have e:(kvs.any fun kv=>decide (kv.1=k))=(atKey xs k).isSome:=by
  rw[valV_any,(r.val k).isSome_eq,Option.isSome_map]
 unfold putK storedH
 rw[e]
 by_cases q:(atKey xs k).isSome=true
 ·rw[if_pos q,if_pos q];exact r.repl k ry
 ·rw[if_neg q,if_neg q];exact Paired.snoc r ⟨rfl,hb,ry⟩
theorem KT.keeps {H H':Hp}{kvs:List (List Key×V)}{xs:List (List Key×Addr×Value)}(r:KT H kvs xs)(ht:∀b ys,H b=some (.tup ys)→H' b=some (.tup ys)):KT H' kvs xs:=
 Paired.mapP r fun _ _ z=>⟨z.1,ht _ _ z.2.1,z.2.2⟩
section
variable {P:Program}{w:World}{H:Hp}{h:Heap}{a:Addr}
theorem rd_of {u:HO}(ok:HOk P w H h)(e:Rd H a u):ObjOk P w H h a u:=e.ok ok
theorem dk_rd {kvs:List (Key×V)}(ok:HOk P w H h)(e:Rd H a (.dK kvs)):kvs.length≤sizeLine∧(a==sysModules)=false∧∃vs,KV kvs vs∧h.DictOf (mixKind P w) a vs:=
 show ObjOk P w H h a (.dK kvs) from rd_of ok e
theorem dk_of {kvs:List (Key×V)}(ok:HOk P w H h)(e:H a=some (.dK kvs)):kvs.length≤sizeLine∧(a==sysModules)=false∧∃vs,KV kvs vs∧h.DictOf (mixKind P w) a vs:=dk_rd ok (.inl e)
theorem key_of {ks:List Key}(ok:HOk P w H h)(e:H a=some (.tup (ks.map kV))):(tupleKind (mixKind P w)).is h ks a:=by
 obtain⟨_,its,r,o,h1,h2,n,h3⟩:=(show ObjOk P w H h a (.tup (ks.map kV)) from ok a _ e)
 exact⟨o,its.toArray,n,h1,h2,h3,by simpa using items_are r⟩
theorem dt_rd {kvs:List (List Key×V)}(ok:HOk P w H h)(e:Rd H a (.dT kvs)):kvs.length≤sizeLine∧(a==sysModules)=false∧
 ∃xs,KT H kvs xs∧h.DictOfH (tupleKind (mixKind P w)) a xs:=by
 obtain⟨z,y,xs,r,o,es,ep,h1,h2,h3,h4,h5⟩:=(show ObjOk P w H h a (.dT kvs) from rd_of ok e)
 refine⟨z,y,xs,r,o,es,ep,h1,h2,h3,h4,fun x hx=>?_,h5⟩
 have all:∀{l:List (List Key×V)} {m:List (List Key×Addr×Value)},KT H l m→∀x∈m,(tupleKind (mixKind P w)).is h x.1 x.2.1:=by
  intro l m q
  induction q with
  |nil=>intro x hx;exact nomatch hx
  | @cons p q ps qs hq t ih=>
    intro x hx
    rcases mem_cons.mp hx with e | hx
    ·subst e
     exact key_of ok (by rw[←hq.1];exact hq.2.1)
    ·exact ih x hx
 exact all r x hx
theorem dt_of {kvs:List (List Key×V)}(ok:HOk P w H h)(e:H a=some (.dT kvs)):kvs.length≤sizeLine∧(a==sysModules)=false∧
 ∃xs,KT H kvs xs∧h.DictOfH (tupleKind (mixKind P w)) a xs:=dt_rd ok (.inl e)
end
def DGet (H:Hp)(a:Addr)(y:V)(r:Option V):Prop:=
 (∃kvs k,Rd H a (.dK kvs)∧y=kV k∧r=valV kvs k)∨∃kvs k b,Rd H a (.dT kvs)∧y=.ref b∧H b=some (.tup (k.map kV))∧r=valV kvs k
def DPut (H:Hp)(a:Addr)(y v:V)(H':Hp):Prop:=
 (∃kvs k,H a=some (.dK kvs)∧y=kV k∧kvs.length<sizeLine∧H'=upd H a (.dK (putK kvs k v)))∨
 ∃kvs k b,H a=some (.dT kvs)∧y=.ref b∧H b=some (.tup (k.map kV))∧kvs.length<sizeLine∧H'=upd H a (.dT (putK kvs k v))
theorem DGet.t {H:Hp}{a b:Addr}{kvs:List (List Key×V)}{k:List Key}(e:H a=some (.dT kvs))(eb:H b=some (.tup (k.map kV))):DGet H a (.ref b) (valV kvs k):=.inr ⟨kvs,k,b,.inl e,rfl,eb,rfl⟩
theorem DPut.t {H:Hp}{a b:Addr}{kvs:List (List Key×V)}{k:List Key}{v:V}(e:H a=some (.dT kvs))(eb:H b=some (.tup (k.map kV)))(hl:kvs.length<sizeLine) :
 DPut H a (.ref b) v (upd H a (.dT (putK kvs k v))):=.inr ⟨kvs,k,b,e,rfl,eb,hl,rfl⟩
section
variable {X:Cx}{pins:List (Addr×Obj)}{σ:St}{H:Hp}{s:Shared}{a:Addr}{y v:V}{u r:Value}{o:Option V}{A:Around}{E:Value→Shared→Prop}
theorem Inv.big (I:Inv X pins σ H s):sysModules<s.heap.objs.size:=by
 have h:mainGlobals<s.heap.objs.size:=(I.mod.glob.keeps I.bk).lt
 exact Nat.lt_trans (by decide) h
theorem d_getItem {Q:Value→Shared→Prop}(hu:A.units+1<cLine)(I:Inv X pins σ H s)(g:DGet H a y (some v))(ry:RelV y u)(h:∀w' s',Inv X pins σ H s'→RelV v w'→Q w' s') :
 wpAny (model X.prog X.w) A (getItem (.ref a) u) Q E s:=by
 rcases g with⟨kvs,k,e,ey,l⟩ | ⟨kvs,k,b,e,ey,eb,l⟩
 ·subst ey
  obtain⟨z,hd,vs,rel,dd⟩:=dk_rd I.hok e
  obtain⟨w',hw,rw'⟩:=RelO.some_of (v:=v) (o:=valueAt vs k) (by rw[l];exact rel.val k)
  exact wpAny_getItem_of (kV_is ry) dd.mapOf hw (h w' _ (I.tok _) rw')
 ·subst ey
  cases(show u=Value.ref b from ry)
  obtain⟨z,hd,xs,rel,dd⟩:=dt_rd I.hok e
  obtain⟨w',hw,rw'⟩:=RelO.some_of (v:=v) (o:=(atKey xs k).map (·.2)) (by rw[l];exact rel.val k)
  obtain⟨p,hp,hp2⟩:=Option.map_eq_some_iff.mp hw
  refine wpAny_getItem_heap (tupleKind_room_in1 hu) (key_of I.hok eb) dd hp ?_
  rw[hp2]
  exact h w' _ (I.tok _) rw'
theorem d_write {h':Heap}{t':Nat}{ob:HO}(I:Inv X pins σ H s)(mu:Mut (H a))(hs:Heap.SameBut a s.heap h')(he:∃q,h'.get? a=some q)(new:ObjOk X.prog X.w (upd H a ob) h' a ob) :
 Inv X pins σ (upd H a ob) {s with heap:=h',toks:=t'}:=
 I.write (x:=a) (e:=a) mu (.inl rfl) (fun b q hb z=>(hs.2 b hb).trans z) he new
theorem dk_new {P:Program}{w:World}{H':Hp}{h':Heap}{kvs:List (Key×V)}{vs:List (Key×Value)}(z:kvs.length≤sizeLine)(hd:(a==sysModules)=false)(rel:KV kvs vs)(dd:h'.DictOf (mixKind P w) a vs) :
 ObjOk P w H' h' a (.dK kvs):=⟨z,hd,vs,rel,dd⟩
theorem d_setItem {H':Hp}{Q:Unit→Shared→Prop}(hu:A.units+1<cLine)(I:Inv X pins σ H s)(g:DPut H a y v H')(ry:RelV y u)(rv:RelV v r)(h:∀s',Inv X pins σ H' s'→Q () s') :
 wpAny (model X.prog X.w) A (setItem (.ref a) u r) Q E s:=by
 rcases g with⟨kvs,k,e,ey,l,eH⟩ | ⟨kvs,k,b,e,ey,eb,l,eH⟩
 ·subst ey eH
  obtain⟨z,hd,vs,rel,dd⟩:=dk_of I.hok e
  have hz:vs.length≤sizeLine:=by rw[←rel.length];exact z
  have hl:(putK kvs k v).length≤sizeLine:=by have:=length_putK kvs k v;omega
  refine wpAny_setItem_pairs (hsz:=hz) (kV_is ry) dd fun h' dd' hs=>h _ ?_
  have he:∃q,h'.get? a=some q:=let⟨q,_,_,hq,_⟩:=dd';⟨q,hq⟩
  exact d_write I (by rw[e];exact True.intro) hs he (dk_new hl hd (rel.put k rv) dd')
 ·subst ey eH
  cases(show u=Value.ref b from ry)
  obtain⟨z,hd,xs,rel,dd⟩:=dt_of I.hok e
  have hz:xs.length≤sizeLine:=by rw[←Paired.length rel];exact z
  have hl:(putK kvs k v).length≤sizeLine:=by have:=length_putK kvs k v;omega
  refine wpAny_setItem_heap (hsz:=hz) (tupleKind_room_in1 hu) (key_of I.hok eb) dd fun h' dd' hs=>h _ ?_
  obtain⟨q,es,ep,hq,h2,h3,h4,_,h5⟩:=dd'
  refine d_write I (by rw[e];exact True.intro) hs ⟨q,hq⟩ ⟨hl,hd,_,(rel.put k eb rv).keeps fun c ys ec=>?_,q,es,ep,hq,h2,h3,h4,h5⟩
  rw[upd_ne (ne_of ec e (fun z=>nomatch z))]
  exact ec
end
def NoSl (i:Expr):Prop:=∀ov iv,subscripted i false ov iv=operate [ov,iv] (getItem ov iv)
theorem subD_of {prog:Program}{w:World}{A:Around}{E:Value→Shared→Prop}{s:Shared}{env:Env}{value slice:Expr}{pos:Pos}{T id:String}{Q:Value→Shared→Prop}
 (hl:typeLookup (.type T) "__getitem__" = pure (some (.builtin id))) (hs:NoSl slice)
 (h:wpAny (model prog w) A (eval value env) (fun o s₁=>wpAny (model prog w) A (eval slice env) (fun i s₂=>s₂.TypeIs o T∧wpAny (model prog w) A (getItem o i) Q E s₂) E s₁) E s) :
 wpAny (model prog w) A (eval (.Subscript value slice pos) env) Q E s:=by
 refine Subscript_ (wpAny_mono h (fun o s₁ h₁=>wpAny_mono h₁ (fun i s₂ h₂=>?_) fun _ _ x=>x) fun _ _ x=>x)
 obtain⟨hT,h₂⟩:=h₂
 unfold subscriptTail
 refine wpAny_bind ?_
 rw[getitemInPython_of_ne hT.not_modules]
 refine wpAny_bind (wpAny_specialOf hT hl ?_)
 have fin:wpAny (model prog w) A (subscripted slice false o i) (fun r s₃=>wpAny (model prog w) A (letTemporaryGo value o r >>= fun _=>pure r) Q E s₃) E s₂:=by
  rw[hs o i]
  exact wpAny_operating (wpAny_mono h₂ (fun r s₃ h₃=>wpAny_bind (wpAny_letTemporaryGo (wpAny_pure h₃))) fun _ _ x=>x)
 first
  |exact wpAny_pure (wpAny_bind fin)
  |exact wpAny_bind (wpAny_pure (wpAny_bind fin))
  |exact wpAny_bind fin
theorem dict_typeIs {X:Cx}{pins:List (Addr×Obj)}{σ:St}{H:Hp}{s:Shared}{a:Addr}{y:V}{o:Option V}(I:Inv X pins σ H s)(g:DGet H a y o):s.TypeIs (.ref a) "dict":=by
 rcases g with⟨kvs,k,e,_,_⟩ | ⟨kvs,k,b,e,_,_,_⟩
 ·obtain⟨_,_,vs,_,dd⟩:=dk_rd I.hok e
  exact dd.typeIs
 ·obtain⟨_,_,xs,_,dd⟩:=dt_rd I.hok e
  exact dd.typeIs
def tDGet (td ty:TE):TE:=fun σ H Q=>td σ H fun x H1=>ty σ H1 fun y H2=>∃a v,x=.ref a∧DGet H2 a y (some v)∧Q v H2
def sDPut (td ty tv:TE):TS:=fun D σ H=>tv σ H fun v H1=>td σ H1 fun x H2=>ty σ H2 fun y H3=>∃a H4,x=.ref a∧DPut H3 a y v H4∧D.nx σ H4
section
variable {X:Cx}{o i e value:Expr}{pos pos' tpos:Pos}{td ty tv:TE}
theorem pe_dget (hu:X.A.units+1<cLine)(ho:PE X o td)(hi:PE X i ty)(hs:NoSl i):PE X (.Subscript o i pos) (tDGet td ty):=by
 intro pins s σ H Q I h
 refine subD_of PySem.F.slot_dict_getitem.lookup hs (thn (ho pins s σ H _ I h) fun u s1 ⟨x,H1,I1,rx,q1⟩=>thn (hi pins s1 σ H1 _ I1 q1) fun iv s2 ⟨y,H2,I2,ry,a,v,ex,g,q2⟩=>?_)
 subst ex
 obtain rfl:u=Value.ref a:=rx
 exact⟨dict_typeIs I2 g,d_getItem hu I2 g ry fun w' s3 I3 rw'=>⟨v,H2,I3,rw',q2⟩⟩
theorem ps_dput (hu:X.A.units+1<cLine)(ho:PE X o td)(hi:PE X i ty)(hv:PE X value tv)(hs:swapsWith value (some (.Subscript o i pos')) pos.line X.env=pure false) :
 PS X (.Assign [.Subscript o i pos'] value pos) (sDPut td ty tv):=by
 intro pins s σ H D I h
 refine wpAny_Assign_Subscript (thn (hv pins s σ H _ I h) fun r s1 ⟨v,H1,I1,rv,q1⟩=>thn (ho pins s1 σ H1 _ I1 q1) fun u s2 ⟨x,H2,I2,rx,q2⟩=>thn (hi pins s2 σ H2 _ I2 q2) fun iv s3 ⟨y,H3,I3,ry,a,H4,ex,g,q3⟩=>?_) hs
 subst ex
 obtain rfl:u=Value.ref a:=rx
 exact d_setItem hu I3 g ry rv fun s4 I4=>⟨σ,H4,I4,q3⟩
end
theorem dt_empty {P:Program}{w:World}{H:Hp}(h:Heap)(hb:sysModules<h.objs.size):ObjOk P w H (h.push {cls:=.type "dict",data:=.dict #[]}) h.objs.size (.dT []):=
 ⟨Nat.zero_le _,beq_eq_false_iff_ne.mpr (Ne.symm (Nat.ne_of_lt hb)),[],.nil,_,#[],0,get?_push_size _ rfl,⟨rfl,rfl,rfl⟩,rfl,rfl,nodup_nil⟩
def tDNewT:TE:=fun _ H Q=>∀p,H p=none→Q (.ref p) (upd H p (.dT []))
section
variable {X:Cx}{pos:Pos}
theorem pe_dnewT:PE X (.Dict [] [] pos) tDNewT:=fun pins s σ H Q I h=>
 wpAny_Dict_empty ⟨.ref s.heap.objs.size,_,I.laid (a:=s.heap.objs.size) (o:=.dT []) (t':=s.toks) (fun _ _ q=>get?_push_of_some _ q) (Nat.le_refl _) (dt_empty s.heap I.big),rfl,h _ (I.hok.fresh (Nat.le_refl _))⟩
end
structure M2 (X:Cx)(o:Expr)(m:Str)(apos:Pos)(e f:Expr)(cpos:Pos):Prop where
 base:attributeBase o m X.env (eval o X.env)=eval o X.env
 few:((backTo cpos (starEach [e,f] X.env)).all (fun x=>!x.1)&&(backToKw cpos (keywordEach [] X.env)).all (fun x=>x.1.isSome)
  &&decide (([e,f]:List Expr).length+([]:List Keyword).length+(if([]:List Keyword).isEmpty then 0 else 1)<30))=true
 line:(apos.endLine==cpos.line)=true
 trees:backTo cpos (starEach [e,f] X.env)=[(false,eval e X.env),(false,eval f X.env)]
def IsD (H:Hp)(a:Addr):Prop:=(∃kvs,Rd H a (.dK kvs))∨∃kvs,Rd H a (.dT kvs)
theorem isD_at {X:Cx}{pins:List (Addr×Obj)}{σ:St}{H:Hp}{s:Shared}{a:Addr}(I:Inv X pins σ H s)(d:IsD H a) :
 s.TypeIs (.ref a) "dict"∧(∀b,Value.ref a=.ref b→∃ob,s.heap.get? b=some ob∧ob.dict=none)∧(a==sysModules)=false:=by
 rcases d with⟨kvs,e⟩ | ⟨kvs,e⟩
 ·obtain⟨_,hd,vs,_,dd⟩:=dk_rd I.hok e
  refine⟨dd.typeIs,fun b q=>?_,hd⟩
  cases q
  obtain⟨ob,_,_,h1,h2,_⟩:=dd
  exact⟨ob,h1,h2.2.1⟩
 ·obtain⟨_,hd,xs,_,dd⟩:=dt_rd I.hok e
  refine⟨dd.typeIs,fun b q=>?_,hd⟩
  cases q
  obtain⟨ob,_,_,h1,h2,_⟩:=dd
  exact⟨ob,h1,h2.2.1⟩
section
variable {X:Cx}{pins:List (Addr×Obj)}{σ:St}{H:Hp}{s:Shared}{a:Addr}{y d:V}{u r:Value}{o:Option V}{A:Around}{E:Value→Shared→Prop}
theorem d_get2 {Q:Value→Shared→Prop}(hu:A.units+1<cLine)(I:Inv X pins σ H s)(g:DGet H a y o)(ry:RelV y u)(rd:RelV d r)(h:∀w' s',Inv X pins σ H s'→RelV (o.getD d) w'→Q w' s') :
 wpAny (model X.prog X.w) A (call (.builtin "dict.get") [.ref a,u,r]) Q E s:=by
 rcases g with⟨kvs,k,e,ey,l⟩ | ⟨kvs,k,b,e,ey,eb,l⟩
 ·subst ey
  obtain⟨z,hd,vs,rel,dd⟩:=dk_rd I.hok e
  refine call_meetsIn PySem.F.slot_dict_get dd.typeIs PySem.F.entry_dict_get (PySem.F.args_dict_get_3 _ _ _) (meets_dict_get_default (mixKind X.prog X.w) a (kV_is ry) hd r) ⟨_,dd.mapOf,h _ _ (I.tok _) ?_⟩
  rw[l]
  exact(rel.val k).getD rd
 ·subst ey
  cases(show u=Value.ref b from ry)
  obtain⟨z,hd,xs,rel,dd⟩:=dt_rd I.hok e
  refine call_meetsIn PySem.F.slot_dict_get dd.typeIs PySem.F.entry_dict_get (PySem.F.args_dict_get_3 _ _ _) (meetsH_dict_get_default (tupleKind (mixKind X.prog X.w)) a b hd r) ⟨tupleKind_room_in1 hu,k,xs,key_of I.hok eb,dd,h _ _ (I.tok _) ?_⟩
  rw[l]
  exact(rel.val k).getD rd
end
def tDGet2 (td ty tx:TE):TE:=fun σ H Q=>td σ H fun x H1=>∃a,x=.ref a∧IsD H1 a∧ty σ H1 fun y H2=>tx σ H2 fun z H3=>∃o,DGet H3 a y o∧Q (o.getD z) H3
section
variable {X:Cx}{o e f:Expr}{apos cpos:Pos}{td ty tx:TE}
theorem pe_dget2 (hu:X.A.units+1<cLine)(ho:PE X o td)(he:PE X e ty)(hf:PE X f tx)(m:M2 X o "get" apos e f cpos):PE X (.Call (.Attribute o "get" apos) [e,f] [] cpos) (tDGet2 td ty tx):=by
 intro pins s σ H Q I h
 refine wpAny_Call_method m.base m.few m.line PySem.F.plainAttrs_dict PySem.F.slot_dict_get PySem.F.type_dict_get (thn (ho pins s σ H _ I h) fun u s1 ⟨x,H1,I1,rx,a,ex,d,q1⟩=>?_)
 subst ex
 obtain rfl:u=Value.ref a:=rx
 obtain⟨t1,t2,_⟩:=isD_at I1 d
 refine⟨t1,t2,?_⟩
 rw[m.trees]
 refine callWith_builtin rfl (Calls.evalArgs_plain (spliced_cons (thn (he pins s1 σ H1 _ I1 q1) fun iv s2 ⟨y,H2,I2,ry,q2⟩=>
  spliced_cons (thn (hf pins s2 σ H2 _ I2 q2) fun fv s3 ⟨z,H3,I3,rz,ov,g,q3⟩=>spliced_nil ?_))))
 exact d_get2 hu I3 g ry rz fun w' s4 I4 rw'=>⟨_,H3,I4,rw',q3⟩
end
section
variable {X:Cx}
theorem items_zipL {K:W.Frag}{a b:Addr}{xs ys:List V}{H1:Hp}(h:H1 a=some (.lst xs))(h':H1 b=some (.lst ys))(i:Nat)(H:Hp)(s:Same H1 H) :
 (i<min xs.length ys.length→(Itz false K a b).go i H∧∀v H2,(Itz false K a b).yld i H v H2→Same H H2∧∃p x y,v=.ref p∧H2 p=some (.tup [x,y])∧xs[i]?=some x∧ys[i]?=some y)∧(min xs.length ys.length≤i→(Itz false K a b).stop i H):=by
 have q:SqK false K H a xs:=SqL.of (s _ _ h)
 have q':SqK false K H b ys:=SqL.of (s _ _ h')
 refine⟨fun hi=>⟨⟨xs,ys,xs[i]'(by omega),ys[i]'(by omega),q,q',List.getElem?_eq_getElem (by omega),List.getElem?_eq_getElem (by omega)⟩,fun v H2 ⟨p,x,y,e1,e2,e3,e4,e5⟩=>?_⟩,fun hi=>⟨xs,ys,q,q',?_⟩⟩
 ·subst e3
  exact⟨same_new e2 _,p,x,y,e1,upd_same,e4 xs q,e5 ys q'⟩
 ·by_cases hx:xs.length≤i
  ·exact .inl (List.getElem?_eq_none hx)
  ·exact .inr (List.getElem?_eq_none (by omega))
end
theorem keys_none:typeLookup (.type "list") "keys" = pure none:=by rw[typeLookup_type,builtinLookup_eq_fast];kernel_rfl
theorem no_keys {prog:Program}{w:World}{A:Around}{E:Value→Shared→Prop}{s:Shared}{a:Addr}{xs:Array Value}{n:Nat}{sl:Array (Option Value)}{Q:Option Value→Shared→Prop}
 (hx:s.heap.get? a=some {cls:=.type "list",dict:=none,data:=.seq xs n,slots:=sl}) (hA:A.handled=none)
 (q:∀h' tk,(∀b o,s.heap.get? b=some o→h'.get? b=some o)→Q none {s with heap:=h',toks:=tk}):wpAny (model prog w) A (getAttr? (.ref a) "keys") Q E s:=by
 obtain⟨hp,g,d,tk,os⟩:=s
 have look:=F.slot_list_getattribute.lookup
 have bound:=F.slot_list_getattribute.bind (.ref a)
 have plain:=am_list_getattr_none
 have under:=sub_AttributeError
 simp only at hx
 have ask:∀{R:Value→Shared→Prop} {F:Value→Shared→Prop},(∀(h':Heap) (tk':Nat) (e:Addr),Heap.NewAttrErr hp h' e (.ref a) "keys"→F (.ref e) ⟨h',g,d,tk',os⟩)→
  wpAny (model prog w) A (call (.builtin "list.__getattribute__") ([.ref a]++[.str (Str.ofString "keys") tk])) R F ⟨hp,g,d,tk+1,os⟩:=fun f=>
  call_meets F.slot_list_getattribute ⟨_,hx,rfl⟩ am_entry_list_getattribute (F.args_list_getattribute_2 _ _) (meets_getattribute_miss_list a xs n sl "keys" _ keys_none (by decide)) ⟨hx,hA,fun h' tk' e made=>f h' tk' e made⟩
 wp_walk using ask
 intro h' tk' e made
 obtain⟨t',u',he⟩:=made.there
 have kept:=q h' tk' made.keeps
 wp_walk
 exact kept
theorem dl_entry:entryFor table "dict.update.loop" = some Builtin.«dict.update.loop»:=entryFor_of_tree (by kernel_rfl)
theorem dl_plain:plainId "dict.update.loop" = true:=by decide +kernel
section
variable {prog:Program}{w:World}{A:Around}{s:Shared}{R:Result→Shared→Prop}
theorem di_list {d l:Addr}{xs:Array Value}{n:Nat}(hA:A.handled=none)(hd:s.TypeIs (.ref d) "dict")(hl:s.heap.get? l=some {cls:=.type "list",dict:=none,data:=.seq xs n,slots:=#[]})
 (next:∀(h1:Heap) (tk:Nat),(∀b o,s.heap.get? b=some o→h1.get? b=some o)→
  codeAny (model prog w) A (.builtin "dict.update.loop" ⟨[.ref d,.ref h1.objs.size,rawInt (0:Nat),.none],[]⟩) R {s with heap:=h1.push {cls:=.type "list_iterator",data:=.fields #[.ref l,.int 0 0]},toks:=tk}) :
 wpAny (model prog w) A.in1 (Builtin.«dict.__init__» ⟨[.ref d,.ref l],[]⟩) (fun fin s'=>match fin with | .done f=>R (.ok f) s' | .again c'=>c'.quiet=true∧codeAny (model prog w) A c' R s') (fun e s'=>R (.error e) s') s:=by
 have hT:s.TypeIs (.ref l) "list":=⟨_,hl,rfl⟩
 wp_walk using wpAny_notOrdered_dict hd,no_keys (A:=A.in1) hl hA
 intro h1 tk kp
 have hl1:h1.IsList l xs:=⟨_,kp _ _ hl,rfl,n,rfl⟩
 have go:=next h1 tk kp
 wp_walk using wpAny_pyIter_list hl1
 exact⟨plainId_quiet dl_plain _,go⟩
end
end L2
namespace BB
def nx:Int→List Int→Int
 |x,[]=>x
 |x,q::R=>if q<x then nx x R else if q=x then nx (x+1) R else x
def gy:Nat→Int→List Int→Int
 |0,b,R=>nx b R
 |n+1,b,R=>gy n (nx b R+1) R
end BB
namespace L2
structure Nb3 (mg:Str→Option Value):Prop extends Nb2 mg where
 dict:mg "dict" = none
 sorted:mg "sorted" = none
theorem hu1 {k:Nat}{A:Around}(r:Room k A):A.units+1<cLine:=by have:=r.units;omega
theorem comp_tups {J:It}{g:TG}{te:TE}{Q:VK}{D:Addr}{H1:Hp}{σ0:St}(n:Nat)(hn:n≤sizeLine)(f:Nat→List V)(Sg:St→Prop)(itm:Nat→Hp→V→Prop)(hD:H1 D=none)(s0:Sg σ0)
 (items:∀i H,Same H1 H→(i<n→J.go i H∧∀x H2,J.yld i H x H2→Same H H2∧itm i H2 x)∧(n≤i→J.stop i H))
 (step:∀i x σ' H,i<n→Same H1 H→itm i H x→Sg σ'→∀R:St→V→Hp→Prop,(∀σ3 p H5,Sg σ3→Same H H5→H5 p=some (.tup (f i))→R σ3 (.ref p) H5)→g x σ' H fun σ3 H3=>te σ3 H3 (R σ3))
 (fin:∀H' ys,Same H1 H'→H' D=some (.lst ys)→ys.length=n→(∀(j:Nat) (y:V),ys[j]?=some y→∃p,y=.ref p∧H' p=some (.tup (f j)))→Q (.ref D) H') :
 cmpW J g tYes te Q D σ0 H1:=by
 refine⟨fun i m σ H=>m=n - i∧i≤n∧Sg σ∧Same H1 H∧∃ys,H D=some (.lst ys)∧ys.length=i∧∀(j:Nat) (y:V),ys[j]?=some y→∃p,y=.ref p∧H p=some (.tup (f j)),⟨n,by omega,Nat.zero_le _,s0,(Same.refl H1).upd_free hD _,[],upd_same,rfl,fun j y h=>by cases h⟩,?_⟩
 rintro i m σ H ⟨rfl,hi,hs,sm,ys,hd,hl,hy⟩
 by_cases hlt:i<n
 ·obtain⟨go,yl⟩:=(items i H sm).1 hlt
  refine .inr ⟨go,fun x H2 y=>?_⟩
  obtain⟨s2,im⟩:=yl x H2 y
  have key:=step i x σ H2 hlt (sm.trans s2) im hs (fun σ3 y H5=>∃ys,H5 D=some (.lst ys)∧ys.length<sizeLine∧∃m',m'<n - i∧(m'=n - (i+1)∧i+1≤n∧Sg σ3∧Same H1 (upd H5 D (.lst (ys++[y])))∧∃zs,(upd H5 D (.lst (ys++[y]))) D=some (.lst zs)∧zs.length=i+1∧∀(j:Nat) (u:V),zs[j]?=some u→∃p,u=.ref p∧(upd H5 D (.lst (ys++[y]))) p=some (.tup (f j)))) fun σ3 p H5 g3 s5 ep=>by
   refine⟨ys,s5 _ _ (s2 _ _ hd),by omega,n - (i+1),by omega,rfl,by omega,g3,(sm.trans (s2.trans s5)).upd_free hD _,ys++[.ref p],upd_same,by rw[length_append,length_singleton,hl],fun j u hu=>?_⟩
   have dd:=s5 _ _ (s2 _ _ hd)
   by_cases c:j<ys.length
   ·rw[getElem?_append_left c]at hu
    obtain⟨p',e1,e2⟩:=hy j u hu
    have e3:=s5 _ _ (s2 _ _ e2)
    exact⟨p',e1,by rw[upd_ne (ne_of e3 dd (by intro z;cases z))];exact e3⟩
   ·have ej:j=i:=by
     have:=(List.getElem?_eq_some_iff.mp hu).1
     rw[length_append,length_singleton]at this
     omega
    subst ej
    rw[getElem?_append_right (by omega),hl,Nat.sub_self]at hu
    have eu:u=.ref p:=by simpa using hu.symm
    exact⟨p,eu,by rw[upd_ne (ne_of ep dd (by intro z;cases z))];exact ep⟩
  have e:(fun(σ3:St) (H3:Hp)=>te σ3 H3 fun y H5=>∃ys,H5 D=some (.lst ys)∧ys.length<sizeLine∧∃m',m'<n - i∧(m'=n - (i+1)∧i+1≤n∧Sg σ3∧Same H1 (upd H5 D (.lst (ys++[y])))∧∃zs,(upd H5 D (.lst (ys++[y]))) D=some (.lst zs)∧zs.length=i+1∧∀(j:Nat) (u:V),zs[j]?=some u→∃p,u=.ref p∧(upd H5 D (.lst (ys++[y]))) p=some (.tup (f j)))) =
   fun(σ3:St) (H3:Hp)=>tYes σ3 H3 fun ok H4=>if ok=true then te σ3 H4 fun y H5=>∃ys,H5 D=some (.lst ys)∧ys.length<sizeLine∧∃m',m'<n - i∧(m'=n - (i+1)∧i+1≤n∧Sg σ3∧Same H1 (upd H5 D (.lst (ys++[y])))∧∃zs,(upd H5 D (.lst (ys++[y]))) D=some (.lst zs)∧zs.length=i+1∧∀(j:Nat) (u:V),zs[j]?=some u→∃p,u=.ref p∧(upd H5 D (.lst (ys++[y]))) p=some (.tup (f j)))
    else ∃m',m'<n - i∧(m'=n - (i+1)∧i+1≤n∧Sg σ3∧Same H1 H4∧∃zs,H4 D=some (.lst zs)∧zs.length=i+1∧∀(j:Nat) (u:V),zs[j]?=some u→∃p,u=.ref p∧H4 p=some (.tup (f j))):=by
   funext σ3 H3
   unfold tYes
   dsimp only
   rw[if_pos rfl]
  rw[←e]
  exact key
 ·have e:i=n:=by omega
  subst e
  exact .inl ⟨(items i H sm).2 (Nat.le_refl _),fin H ys sm hd hl hy⟩
theorem all_same1 (ns ms:List Int)(h:ns.length=ms.length):(List.range ns.length).all (fun j=>ns.getD j 0==ms.getD j 0)=decide (ns=ms):=by
 have:=all_same ns ms
 rw[h,Nat.min_self,beq_self_eq_true,Bool.and_true]at this
 rw[h]
 exact this
section
variable {X:Cx}
def rEqL (K:W.Frag):R2:=fun x y H Q=>∃(a b:Addr) (ns ms:List Int),x=.ref a∧y=.ref b∧SqL K H a (ns.map V.int)∧SqL K H b (ms.map V.int)∧ns.length=ms.length∧Q (.bl (decide (ns=ms))) H
theorem op_eqL (hu:X.A.units<cLine):OpR X (compareOp .Eq) (rEqL X.K):=by
 intro pins s σ H x y v u Q I rx ry h
 obtain⟨a,b,ns,ms,rfl,rfl,ha,hb,hl,q⟩:=h
 cases rx
 cases ry
 obtain⟨its,r1,p1,_⟩:=I.list ha
 obtain⟨its2,r2,p2,_⟩:=I.list hb
 have l1:=r1.length
 have l2:=r2.length
 rw[length_map]at l1 l2
 refine SeqAt.eq_listAt p1.isList p2.isList (by simp only[size_toArray];omega) hu (ints_eqAt r1 r2) ?_
 simp only[size_toArray]
 rw[←l1,all_same1 ns ms hl]
 exact⟨.bl (decide (ns=ms)),H,I,rfl,q⟩
end
end L2
namespace BB
def tkn (z:Nat):Nat→Int→List Int→Nat
 |_,_,[]=>0
 |L,box,p::r=>if L - min L (p - box).toNat<z then tkn z (L - min L (p - box).toNat+1) (p+1) r+1 else tkn z (L - min L (p - box).toNat) (p+1) r
theorem less_min (m t:Nat):m - min m t=m - t:=by
 rcases Nat.le_total m t with z | z
 ·rw[Nat.min_eq_left z,Nat.sub_self,Nat.sub_eq_zero_of_le z]
 ·rw[Nat.min_eq_right z]
theorem load_gap {L:Nat}{d:Int}(h:0≤d):(if d<(L:Int) then d else(L:Int))=((min L d.toNat:Nat):Int):=by
 obtain⟨n,rfl⟩:=Int.eq_ofNat_of_zero_le h
 rw[Int.toNat_natCast]
 split
 ·rename_i c
  rw[Nat.min_eq_right (Int.ofNat_le.mp (Int.le_of_lt c))]
 ·rename_i c
  rw[Nat.min_eq_left (Int.ofNat_le.mp (Int.not_lt.mp c))]
theorem tkn_gap {z L:Nat}{lo:Int}{R:List Int}(h:∀p∈R,lo+1≤p):tkn z L lo R=tkn z (L - 1) (lo+1) R:=by
 cases R with
 |nil=>rfl
 |cons p r=>
  have hp:=h p (mem_cons_self ..)
  obtain⟨n,e⟩:∃n:Nat,p - (lo+1)=(n:Int):=Int.eq_ofNat_of_zero_le (Int.sub_nonneg_of_le hp)
  have e2:p - lo=((n+1:Nat):Int):=by omega
  unfold tkn
  rw[e,e2,Int.toNat_natCast,Int.toNat_natCast,less_min,less_min,Nat.sub_sub,Nat.add_comm 1 n]
theorem tkn_free {z:Nat}{box box':Int}:∀{r:List Int},tkn z 0 box r=tkn z 0 box' r
 |[]=>rfl
 |p::r=>by
  unfold tkn
  rw[Nat.zero_min,Nat.zero_min]
def taken (z:Nat)(r:List Int):Nat:=tkn z 0 (r.headD 0) r
end BB
namespace L2
abbrev TJ:=Str→St→Hp→VK→Prop
abbrev TB:=St→Hp→(Hp→Prop)→XK→Prop
def Fz (a:Addr)(o:Obj):HO:=.frz o (.ext fun h=>h.get? a=some o)
theorem fz_ok {P:Program}{w:World}{H:Hp}{h:Heap}{a:Addr}{o:Obj}(e:h.get? a=some o):ObjOk P w H h a (Fz a o):=⟨e,e,⟨_,e⟩,fun _ _ q k=>k _ q⟩
theorem fz_get {P:Program}{w:World}{H:Hp}{h:Heap}{a:Addr}{o:Obj}(x:HOk P w H h)(e:H a=some (Fz a o)):h.get? a=some o:=(x a _ e).1
open Classical in
noncomputable def outOf (base:Heap)(cl:List (Str×Addr))(h:Heap):List Addr:=(List.range h.objs.size).filter fun a=>decide (base.get? a=none∧∀x,cl.lookup x≠some a)
end L2
namespace L2
section
variable {X:Cx}
theorem call_sumI (hc:X.calm=true):CallR X (.builtin "sum") (fun xs H Q=>∃(p:Addr) (ns:List Int),xs=[.ref p]∧SqL X.K H p (ns.map V.int)∧Q (.int ns.sum) H):=by
 intro pins s σ H xs us Q I r h
 obtain⟨p,ns,rfl,hq,q⟩:=h
 obtain⟨u,rfl,rx⟩:=vals1 r
 cases(show u=Value.ref p from rx)
 obtain⟨its,r',pl,hz⟩:=I.list hq
 have all:∀(l:List Int) (vs:List Value),Vals (l.map V.int) vs→∃ps:List (Int×Tok),vs=ps.map (fun p=>Value.int p.1 p.2)∧ps.map (·.1)=l:=by
  intro l
  induction l with
  |nil=>intro vs v;cases v;exact⟨[],rfl,rfl⟩
  |cons n l ih=>
   intro vs v
   cases v with
   |cons a b=>
    obtain⟨t,rfl⟩:=a
    obtain⟨ps,rfl,e⟩:=ih _ b
    exact⟨(n,t)::ps,rfl,by rw[map_cons,e]⟩
 obtain⟨ps,e1,e2⟩:=all ns its r'
 have hl:s.heap.IsList p (intItems ps.toArray):=by
  have z:=pl.isList
  rw[e1]at z
  have e3:(ps.map fun p=>Value.int p.1 p.2).toArray=intItems ps.toArray:=by unfold intItems;simp
  rw[e3]at z
  exact z
 refine sum_intListG (I.ok.hd hc) hl fun h' tk t' hk=>?_
 rw[preSum_eq,take_of_length_le (by simp)]
 have e4:ps.toArray.toList.map (·.1)=ns:=e2
 rw[e4]
 exact⟨.int ns.sum,H,I.kept hk,⟨_,rfl⟩,q⟩
end
theorem vals_marks:∀(l:List Int) (vs:List Value),Vals (l.map V.int) vs→∃ps:List (Int×Tok),vs=ps.map (fun p=>Value.int p.1 p.2)∧ps.map (·.1)=l
 |[],vs,v=>by cases v;exact⟨[],rfl,rfl⟩
 |n::l,vs,v=>by
  cases v with
  |cons a b=>
   obtain⟨t,rfl⟩:=a
   obtain⟨ps,rfl,e⟩:=vals_marks l _ b
   exact⟨(n,t)::ps,rfl,by rw[map_cons,e]⟩
section
variable {X:Cx}
theorem call_sumT (hc:X.calm=true):CallR X (.builtin "sum") (fun xs H Q=>∃(p:Addr) (ns:List Int),xs=[.ref p]∧SqT X.K H p (ns.map V.int)∧Q (.int ns.sum) H):=by
 intro pins s σ H xs us Q I r h
 obtain⟨p,ns,rfl,hq,q⟩:=h
 obtain⟨u,rfl,rx⟩:=vals1 r
 cases(show u=Value.ref p from rx)
 obtain⟨its,r',pl,hz⟩:=I.tuple hq
 obtain⟨ps,e1,e2⟩:=vals_marks ns its r'
 have ht:s.heap.IsTuple p (intItems ps.toArray):=by
  have z:s.heap.IsTuple p its.toArray:=pl
  rw[e1]at z
  have e3:(ps.map fun p=>Value.int p.1 p.2).toArray=intItems ps.toArray:=by unfold intItems;simp
  rw[e3]at z
  exact z
 refine PySem.W.ktm_sumG (I.ok.hd hc) ht fun h' tk t' hk=>?_
 rw[preSum_eq,take_of_length_le (by simp)]
 have e4:ps.toArray.toList.map (·.1)=ns:=e2
 rw[e4]
 exact⟨.int ns.sum,H,I.kept hk,⟨_,rfl⟩,q⟩
end
theorem for_items {J:It}{g:TG}{tb:TS}{D:Ends}{σ:St}{H:Hp}(n:Nat)(itm:Nat→Hp→V→Prop)(Pv:Nat→St→Hp→Prop)(h0:Pv 0 σ H)
 (items:∀i σ H,i≤n→Pv i σ H→(i<n→J.go i H∧∀x H2,J.yld i H x H2→Same H H2∧itm i H2 x)∧(n≤i→J.stop i H))
 (hs:∀i x σ H H2,i<n→Pv i σ H→Same H H2→itm i H2 x→g x σ H2 fun σ2 H3=>tb {D with nx:=Pv (i+1),ct:=Pv (i+1),bk:=D.nx} σ2 H3) (hd:∀σ H,Pv n σ H→D.nx σ H) :
 ∃W:Nat→Nat→St→Hp→Prop,(∃m,W 0 m σ H)∧∀i m σ H,W i m σ H→
  (J.stop i H∧D.nx σ H)∨(J.go i H∧∃N:St→Hp→Prop,(∀σ' H',N σ' H'→∃m',m'<m∧W (i+1) m' σ' H')∧∀x H',J.yld i H x H'→g x σ H' fun σ2 H2=>tb {D with nx:=N,ct:=N,bk:=D.nx} σ2 H2):=by
 refine⟨fun i m σ H=>m+i=n∧Pv i σ H,⟨n,rfl,h0⟩,fun i m σ H hw=>?_⟩
 obtain⟨e,p⟩:=hw
 have it:=items i σ H (by omega) p
 cases m with
 |zero=>
  obtain rfl:i=n:=by omega
  exact .inl ⟨it.2 (Nat.le_refl _),hd σ H p⟩
 |succ m=>
  obtain⟨go,yl⟩:=it.1 (by omega)
  refine .inr ⟨go,Pv (i+1),fun σ' H' q=>⟨m,Nat.lt_succ_self _,by omega,q⟩,fun x H' y=>?_⟩
  obtain⟨sm,im⟩:=yl x H' y
  exact hs i x σ H H' (by omega) p sm im
open PySem.W
def pOut (p:Array Nat)(vs:List Value):Array Value:=(p.toList.map fun i=>vs.getD i Value.none).toArray
end L2
namespace L2
section
variable {X:Cx}
def rNeL (K:W.Frag):R2:=fun x y H Q=>∃(a b:Addr) (ns ms:List Int),x=.ref a∧y=.ref b∧SqL K H a (ns.map V.int)∧SqL K H b (ms.map V.int)∧ns.length=ms.length∧Q (.bl (!decide (ns=ms))) H
theorem op_neL (hu:X.A.units<cLine):OpR X (compareOp .NotEq) (rNeL X.K):=by
 intro pins s σ H x y v u Q I rx ry h
 obtain⟨a,b,ns,ms,rfl,rfl,ha,hb,hl,q⟩:=h
 cases rx
 cases ry
 obtain⟨its,r1,p1,_⟩:=I.list ha
 obtain⟨its2,r2,p2,_⟩:=I.list hb
 have l1:=r1.length
 have l2:=r2.length
 rw[length_map]at l1 l2
 refine of_rcne' (SeqAt.RcNeAt.lists p1.isList p2.isList (by simp only[size_toArray];omega) hu (ints_eqAt r1 r2)) ?_
 have e:=all_same ns ms
 rw[hl,Nat.min_self,beq_self_eq_true,Bool.and_true]at e
 simp only[size_toArray]
 rw[←l1,hl,e]
 exact⟨.bl (!decide (ns=ms)),H,I,rfl,q⟩
end
section
variable {elt tg iter tg' iter':Expr}{g0:Comprehension}{scope:Scope}{pos:Pos}{it acc:Value}{env:Env}
theorem turn_deep:compTurn (.ListComp elt [g0,⟨tg,iter,[],0⟩] scope pos) 1 it acc env=(standAt iter.pos >>= fun _=>pyNext it >>= fun r=>match r with
 |none=>pure (.done .next)
 |some v=>letOwnedTupleGo tg it v >>= fun _=>assign tg env v >>= fun _=>(eval elt env >>= fun x=>call (.builtin "list.append") [acc,x] >>= fun _=>pure ()) >>= fun _=>
  again (.compLoop (.ListComp elt [g0,⟨tg,iter,[],0⟩] scope pos) 1 it acc env)):=by rfl
theorem turn_out:compTurn (.ListComp elt [⟨tg,iter,[],0⟩,⟨tg',iter',[],0⟩] scope pos) 0 it acc env=(standAt iter.pos >>= fun _=>pyNext it >>= fun r=>match r with
 |none=>pure (.done .next)
 |some v=>letOwnedTupleGo tg it v >>= fun _=>assign tg env v >>= fun _=>
  eval iter' env >>= fun x=>standAt iter'.pos >>= fun _=>foldedSetIterable iter' env x >>= fun x=>holding [x] (pyIter x) >>= fun i=>
   runOwn (.compStart (.ListComp elt [⟨tg,iter,[],0⟩,⟨tg',iter',[],0⟩] scope pos) 1 i acc env) env >>= fun _=>
  again (.compLoop (.ListComp elt [⟨tg,iter,[],0⟩,⟨tg',iter',[],0⟩] scope pos) 0 it acc env)):=by rfl
end
section
variable {prog:Program}{w:World}{A:Around}{s:Shared}{R:Result→Shared→Prop}{elt tg iter tg' iter':Expr}{g0:Comprehension}{scope:Scope}{pos:Pos}{it acc:Value}{env:Env}
theorem deep_start (h0:codeAny (model prog w) A (.compLoop (.ListComp elt [g0,⟨tg,iter,[],0⟩] scope pos) 1 it acc env) R s)
 (h:wpAny (model prog w) A (pyIter it) (fun i s'=>codeAny (model prog w) A (.compLoop (.ListComp elt [g0,⟨tg,iter,[],0⟩] scope pos) 1 i acc env) R s') (fun _ _=>False) s) :
 codeAny (model prog w) A (.compStart (.ListComp elt [g0,⟨tg,iter,[],0⟩] scope pos) 1 it acc env) R s:=by
 have two:wpAny (model prog w) A (compStart (.ListComp elt [g0,⟨tg,iter,[],0⟩] scope pos) 1 it acc env) (fun f s'=>match f with | .done v=>R (.ok v) s' | .again c=>c.quiet=true∧codeAny (model prog w) A c R s') (fun _ _=>False) s:=by
  have e:compStart (.ListComp elt [g0,⟨tg,iter,[],0⟩] scope pos) 1 it acc env=(ask >>= fun a=>if a.params.followText "comprehension-iter-twice" = true then again (.compLoop (.ListComp elt [g0,⟨tg,iter,[],0⟩] scope pos) 1 it acc env) >>= pure
   else rule "comprehension.iter-twice" >>= fun _=>standAt iter.pos >>= fun _=>pyIter it >>= fun i=>again (.compLoop (.ListComp elt [g0,⟨tg,iter,[],0⟩] scope pos) 1 i acc env)):=by rfl
  rw[e]
  refine wpAny_bind (wpAny_askSetting ?_)
  split
  ·exact wpAny_bind (wpAny_pure (wpAny_pure ⟨rfl,h0⟩))
  ·exact wpAny_bind (wpAny_rule (wpAny_bind (wpAny_standAt (wpAny_bind (wpAny_mono h (fun _ _ q=>wpAny_pure ⟨rfl,q⟩) fun _ _ z=>z.elim)))))
 refine codeAny_of_tree ?_
 show wpAny _ _ ((compStart (.ListComp elt [g0,⟨tg,iter,[],0⟩] scope pos) 1 it acc env).onRaise (fun x=>do noteFrame x env;standAt theWindowsPlace)) _ _ s
 exact wpAny_notedAt (wpAny_mono two (fun f s' q=>q) fun _ _ z=>z.elim)
theorem deep_turns (J:Nat→Shared→Prop)
 (turn:∀n s,J n s→wpAny (model prog w) A (pyNext it) (fun r s1=>match r with
  |none=>R (.ok .next) s1
  |some v=>wpAny (model prog w) A (letOwnedTupleGo tg it v) (fun _ s2=>wpAny (model prog w) A (assign tg env v) (fun _ s3=>
   wpAny (model prog w) A (eval elt env) (fun x s5=>wpAny (model prog w) A (call (.builtin "list.append") [acc,x]) (fun _ s6=>∃m,m<n∧J m s6) (fun _ _=>False) s5) (fun _ _=>False) s3) (fun _ _=>False) s2) (fun _ _=>False) s1) (fun _ _=>False) s)
 (n:Nat) (h:J n s):codeAny (model prog w) A (.compLoop (.ListComp elt [g0,⟨tg,iter,[],0⟩] scope pos) 1 it acc env) R s:=by
 refine codeAny_loop rfl J (fun k s' hJ=>?_) n h
 show wpAny _ A ((compTurn (.ListComp elt [g0,⟨tg,iter,[],0⟩] scope pos) 1 it acc env).onRaise (fun x=>do noteFrame x env;theTreesLotGoes x)) _ _ s'
 refine wpAny_noted ?_
 rw[turn_deep]
 refine wpAny_bind (wpAny_standAt (wpAny_bind (wpAny_mono (turn k s' hJ) (fun r s1 q1=>?_) fun _ _ z=>z.elim)))
 cases r with
 |none=>exact wpAny_pure q1
 |some v=>
  exact wpAny_bind (wpAny_mono q1 (fun _ s2 q2=>wpAny_bind (wpAny_mono q2 (fun _ s3 q3=>wpAny_bind (wpAny_bind (wpAny_mono q3 (fun x s5 q5=>wpAny_bind (wpAny_mono q5 (fun _ s6 q6=>wpAny_pure (wpAny_pure ⟨rfl,q6⟩)) fun _ _ z=>z.elim)) fun _ _ z=>z.elim))) fun _ _ z=>z.elim)) fun _ _ z=>z.elim)
theorem out_turns (hs:∀x,foldedSetIterable iter' env x=pure x)(J:Nat→Shared→Prop)
 (turn:∀n s,J n s→wpAny (model prog w) A (pyNext it) (fun r s1=>match r with
  |none=>R (.ok .next) s1
  |some v=>wpAny (model prog w) A (letOwnedTupleGo tg it v) (fun _ s2=>wpAny (model prog w) A (assign tg env v) (fun _ s3=>
   wpAny (model prog w) A (eval iter' env) (fun x s4=>wpAny (model prog w) A (pyIter x) (fun i s5=>
    codeAny (model prog w) A (.compStart (.ListComp elt [⟨tg,iter,[],0⟩,⟨tg',iter',[],0⟩] scope pos) 1 i acc env) (fun r s6=>r=.ok .next∧∃m,m<n∧J m s6) s5) (fun _ _=>False) s4) (fun _ _=>False) s3) (fun _ _=>False) s2) (fun _ _=>False) s1) (fun _ _=>False) s)
 (n:Nat) (h:J n s):codeAny (model prog w) A (.compLoop (.ListComp elt [⟨tg,iter,[],0⟩,⟨tg',iter',[],0⟩] scope pos) 0 it acc env) R s:=by
 refine codeAny_loop rfl J (fun k s' hJ=>?_) n h
 show wpAny _ A ((compTurn (.ListComp elt [⟨tg,iter,[],0⟩,⟨tg',iter',[],0⟩] scope pos) 0 it acc env).onRaise (fun x=>do noteFrame x env;theTreesLotGoes x)) _ _ s'
 refine wpAny_noted ?_
 rw[turn_out]
 refine wpAny_bind (wpAny_standAt (wpAny_bind (wpAny_mono (turn k s' hJ) (fun r s1 q1=>?_) fun _ _ z=>z.elim)))
 cases r with
 |none=>exact wpAny_pure q1
 |some v=>
  refine wpAny_bind (wpAny_mono q1 (fun _ s2 q2=>wpAny_bind (wpAny_mono q2 (fun _ s3 q3=>wpAny_bind (wpAny_mono q3 (fun x s4 q4=>?_) fun _ _ z=>z.elim)) fun _ _ z=>z.elim)) fun _ _ z=>z.elim)
  refine wpAny_bind (wpAny_standAt (wpAny_bind (wpAny_of_eq (hs x) (wpAny_bind (wpAny_holding (wpAny_mono q4 (fun i s5 q5=>?_) fun _ _ z=>z.elim))))))
  refine wpAny_bind (wpAny_runOwn (codeAny_mono q5 fun r s6 q6=>?_))
  obtain⟨e,q6⟩:=q6
  subst e
  exact wpAny_pure ⟨rfl,q6⟩
end
def cmpD (J:It)(g:TG)(te:TE)(N:St→Hp→Prop)(D:Addr)(σ:St)(H:Hp):Prop:=∃W:Nat→Nat→St→Hp→Prop,(∃m,W 0 m σ H)∧
 ∀i m σ' H',W i m σ' H'→(J.stop i H'∧N σ' H')∨(J.go i H'∧∀x H2,J.yld i H' x H2→g x σ' H2 fun σ3 H3=>te σ3 H3 fun y H5=>
  ∃ys,H5 D=some (.lst ys)∧ys.length<sizeLine∧∃m',m'<m∧W (i+1) m' σ3 (upd H5 D (.lst (ys++[y]))))
def cmpO (J:It)(g:TG)(wi:TI)(g':TG)(te:TE)(Q:VK)(D:Addr)(σ0:St)(H1:Hp):Prop:=∃W:Nat→Nat→St→Hp→Prop,(∃m,W 0 m σ0 (upd H1 D (.lst [])))∧
 ∀i m σ' H',W i m σ' H'→(J.stop i H'∧Q (.ref D) H')∨(J.go i H'∧∀x H2,J.yld i H' x H2→g x σ' H2 fun σ3 H3=>wi σ3 H3 fun J' H4=>
  cmpD J' g' te (fun σ5 H5=>∃m',m'<m∧W (i+1) m' σ5 H5) D σ3 H4)
def tComp2 (nt:Nat)(js:List Nat)(wi:TI)(g:TG)(wi':TI)(g':TG)(te:TE):TE:=fun σ H Q=>wi σ H fun J H1=>∀D,H1 D=none→cmpO J g wi' g' te Q D (inner nt js σ) H1
theorem deep_code {Y:Cx}{elt tg iter:Expr}{g0:Comprehension}{scope:Scope}{pos:Pos}{wi:TI}{g:TG}{te:TE}{D:Addr}(hc:Y.calm=true)(hi:PI Y tg iter wi)(hg:PG Y tg g)(he:PE Y elt te)
 (hx:Y.xe=fun _ _=>False) {pins:List (Addr×Obj)} {s:Shared} {σ:St} {H:Hp} {N:St→Hp→Prop} (I:Inv Y pins σ H s) (h:wi σ H fun J H1=>cmpD J g te N D σ H1) :
 wpAny (model Y.prog Y.w) Y.A (eval iter Y.env) (fun x s4=>wpAny (model Y.prog Y.w) Y.A (pyIter x) (fun i s5=>
  codeAny (model Y.prog Y.w) Y.A (.compStart (.ListComp elt [g0,⟨tg,iter,[],0⟩] scope pos) 1 i (.ref D) Y.env) (fun r s6=>r=.ok .next∧∃σ' H',Inv Y pins σ' H' s6∧N σ' H') s5) (fun _ _=>False) s4) (fun _ _=>False) s:=by
 have hi':=hi pins s σ H _ I h
 rw[hx]at hi'
 refine thn hi' fun v s1 q1=>thn q1 fun itv s2 q2=>?_
 obtain⟨it,fp,tn,J,H2,e,I2,T,st2,f2,W,⟨m0,w0⟩,turn⟩:=q2
 subst e
 have stat:∀{H':Hp},(∀b∈fp,H' b=none)→∀b∈fp,FpOk Y pins H' b:=fun hn b hb=>⟨hn b hb,(f2 b hb).2⟩
 have loop:codeAny (model Y.prog Y.w) Y.A (.compLoop (.ListComp elt [g0,⟨tg,iter,[],0⟩] scope pos) 1 (.ref it) (.ref D) Y.env) (fun r s6=>r=.ok .next∧∃σ' H',Inv Y pins σ' H' s6∧N σ' H') s2:=by
  refine deep_turns (fun n s'=>∃i σ' H',Inv Y pins σ' H' s'∧tn i s'.heap∧(∀b∈fp,H' b=none)∧W i n σ' H') ?_ m0 ⟨0,_,_,I2,st2,fun b hb=>(f2 b hb).1,w0⟩
  rintro n s3 ⟨i,σ3,H3,I3,st3,fr3,w3⟩
  rcases turn i n σ3 H3 w3 with⟨stop,qn⟩ | ⟨go,step⟩
  ·refine thn (T.done Y rfl rfl rfl hc i pins s3 σ3 H3 _ I3 (stat fr3) st3 stop) fun r s4 ⟨hr,I4⟩=>?_
   subst hr
   exact⟨rfl,σ3,H3,I4,qn⟩
  ·refine thn (T.item Y rfl rfl rfl hc i pins s3 σ3 H3 _ I3 (stat fr3) st3 go) fun r s4 ⟨u,hr,h4⟩=>?_
   subst hr
   refine thn h4 fun _ s5 ⟨x,H5,I5,r5,y5,st5,fr5⟩=>?_
   have I5':=I5.pinned (stat fr5) (T.obj _ _ st5)
   have hg':=hg _ s5 σ3 H5 x u _ I5' r5 (step x H5 y5)
   rw[hx]at hg'
   refine thn hg' fun _ s6 ⟨σ6,H6,I6,q6⟩=>?_
   have he':=he _ s6 σ6 H6 _ I6 q6
   rw[hx]at he'
   refine thn he' fun y s8 ⟨v8,H8,I8,r8,ys,e8,z8,k,hk,w8⟩=>?_
   have ha:=mt_append _ s8 σ6 H8 (.ref D) [v8] _ [y] (fun _ H9=>W (i+1) k σ6 H9) I8 rfl (.cons r8 .nil) ⟨_,ys,v8,rfl,rfl,e8,z8,w8⟩
   rw[hx]at ha
   refine thn ha fun _ s9 ⟨_,H9,I9,_,w9⟩=>?_
   refine⟨k,hk,i+1,σ6,H9,I9.unpinned,T.keep _ _ _ st5 fun b hb o eb=>(I9.pin (b,o) (mem_append_right _ (mem_append_right _ (mem_pinsAt hb eb)))).1,fun b hb=>?_,w9⟩
   obtain⟨o,eb,_⟩:=T.obj _ _ st5 b hb
   exact(I9.pin (b,o) (mem_append_right _ (mem_append_right _ (mem_pinsAt hb eb)))).2.1
 exact deep_start loop (T.self _ 0 _ _ _ st2 loop)
theorem pe_compO {X:Cx}{elt tg iter tg' iter':Expr}{scope:Scope}{pos:Pos}{N:List Str}{nt:Nat}{js:List Nat}{sc:Scope}{N0:List Str}{wi wi':TI}{g g':TG}{te:TE}
 (hc:X.calm=true) (hsc:X.env.scope=sc) (hN:X.N=N0) (B:Blk sc N0 N nt js scope) (hi:PI X tg iter wi)
 (hg:∀cl C s H fp,PG (blk X N scope cl C s H fp) tg g) (hi':∀cl C s H fp,PI (blk X N scope cl C s H fp) tg' iter' wi') (hg':∀cl C s H fp,PG (blk X N scope cl C s H fp) tg' g') (he:∀cl C s H fp,PE (blk X N scope cl C s H fp) elt te)
 (hs:∀x,foldedSetIterable iter X.env x=pure x:=by intro _;rfl) (hs':∀env x,foldedSetIterable iter' env x=pure x:=by intro _ _;rfl) :
 PE X (.ListComp elt [⟨tg,iter,[],0⟩,⟨tg',iter',[],0⟩] scope pos) (tComp2 nt js wi g wi' g' te):=by
 subst hsc hN
 intro pins s σ H Q I h
 obtain⟨cl,hcl,c1,c2⟩:=clos_of (env:=X.env) (scope:=scope) fun y hy hk=>I.ok.has y.1 (B.cap y hy hk)
 rw[eval_ListComp]
 refine wpAny_comprehension_free (use:=none) rfl hs hcl B.kind B.loc (thn (hi pins s σ H _ I h) fun v s1 q1=>thn q1 fun itv s2 q2=>?_)
 obtain⟨it,fp,tn,J,H2,e,I2,T,st2,f2,q2⟩:=q2
 subst e
 obtain⟨W,⟨m0,w0⟩,turn⟩:=q2 s2.heap.objs.size (I2.hok.fresh (Nat.le_refl _))
 have hlt:∀b∈fp,b<s2.heap.objs.size:=fun b hb=>by
  obtain⟨o,eo,_⟩:=T.obj _ _ st2 b hb
  exact lt_size eo
 refine wpAny_newObj_type (wpAny_newFunctionEnv B.nocell (by intro y hy;simp at hy) (fun h1 hns hsb=>?_) B.kind)
 dsimp only at hns hsb ⊢
 have hsz:(s2.heap.push {cls:=.type "list",dict:=none,data:=.seq ([]:List Value).toArray}).objs.size=s2.heap.objs.size+1:=by rw[Heap.size_push]
 have old:∀b o,s2.heap.get? b=some o→h1.get? b=some o:=fun b o eb=>hsb.extBut b o (by rw[hsz];exact Nat.ne_of_lt (Nat.lt_succ_of_lt (lt_size eb))) (get?_push_of_some _ (get?_push_of_some _ eb))
 have hD:h1.get? s2.heap.objs.size=some {cls:=.type "list",data:=.seq ([]:List Value).toArray 0}:=hsb.extBut _ _ (by rw[hsz];exact Nat.ne_of_lt (Nat.lt_succ_self _)) (get?_push_of_some _ (get?_push_size _ rfl))
 rw[hsz]at hns
 have I3:=blk_start (cl:=cl) (fp:=fp) (tk:=s2.toks+([]:List (Str×Value)).length) I2 B c1 c2 f2 hlt old (show h1.Ns (s2.heap.objs.size+1) fun _=>none from hns) hD
 have stat:∀{H':Hp},(∀b∈fp,H' b=none)→∀b∈fp,FpOk (blk X N scope cl (s2.heap.objs.size+1) s2 H2 fp) [] H' b:=fun{H'} hn b hb=>
  ⟨hn b hb,Nat.ne_of_lt (Nat.lt_succ_of_lt (hlt b hb)),fun z=>(mem_cons.mp (I2.stkSub b z)).elim (f2 b hb).2.1 (f2 b hb).2.2.1,.inl hb,fun x c ec=>(f2 b hb).2.2.2.2.1 x c (c1 x c ec),fun p hp=>absurd (show p∈([]:List (Addr×Obj)) from hp) (by simp)⟩
 have fin:∀{σ':St} {H':Hp} {s':Shared},Inv (blk X N scope cl (s2.heap.objs.size+1) s2 H2 fp) [] σ' H' s'→Q (.ref s2.heap.objs.size) H'→
  compPost (model X.prog X.w) X.A X.xe none (EP X pins σ Q) (.ref s2.heap.objs.size) (s2.heap.objs.size+1) (.ok .next) s':=fun{σ' H' s'} Ib q=>by
  obtain⟨m,hn,_⟩:=id Ib.loc
  refine⟨m,hn,fun h'' hs''=>?_⟩
  have I4:Inv X pins σ H' s':=I2.call' Ib.os Ib.base Ib.hok Ib.bare fun b hb=>⟨(f2 b hb).2.2.2.1,(f2 b hb).2.1,(f2 b hb).2.2.2.2.1,(f2 b hb).2.2.2.2.2⟩
  obtain⟨g0,g1,g2,g3,g4,g5⟩:=I2.fpOk (H':=H') (Nat.le_succ _) Ib.free
  exact⟨.ref s2.heap.objs.size,H',I4.turned (t':=s'.toks) (fun b o hb eb=>hs''.extBut b o hb eb) g0 g1 g3 g4 g5,rfl,q⟩
 have loop:codeAny (model X.prog X.w) X.A (.compLoop (.ListComp elt [⟨tg,iter,[],0⟩,⟨tg',iter',[],0⟩] scope pos) 0 (.ref it) (.ref s2.heap.objs.size) (compEnvC scope cl (s2.heap.objs.size+1) X.env))
  (compPost (model X.prog X.w) X.A X.xe none (EP X pins σ Q) (.ref s2.heap.objs.size) (s2.heap.objs.size+1)) {s2 with heap:=h1,toks:=s2.toks+([]:List (Str×Value)).length}:=by
  refine out_turns (hs' _) (fun n s'=>∃i σ' H',Inv (blk X N scope cl (s2.heap.objs.size+1) s2 H2 fp) [] σ' H' s'∧tn i s'.heap∧(∀b∈fp,H' b=none)∧W i n σ' H') ?_ m0
   ⟨0,_,_,I3,T.keep _ _ _ st2 fun b _ o eb=>old b o eb,fun b hb=>?_,w0⟩
  ·rintro n s3 ⟨i,σ3,H3,J3,st3,fr3,w3⟩
   rcases turn i n σ3 H3 w3 with⟨stop,qn⟩ | ⟨go,step⟩
   ·refine thn (T.done (blk X N scope cl (s2.heap.objs.size+1) s2 H2 fp) rfl rfl rfl hc i [] s3 σ3 H3 _ J3 (stat fr3) st3 stop) fun r s4 ⟨hr,I4⟩=>?_
    subst hr
    exact fin I4 qn
   ·refine thn (T.item (blk X N scope cl (s2.heap.objs.size+1) s2 H2 fp) rfl rfl rfl hc i [] s3 σ3 H3 _ J3 (stat fr3) st3 go) fun r s4 ⟨u,hr,h4⟩=>?_
    subst hr
    refine thn h4 fun _ s5 ⟨x,H5,I5,r5,y5,st5,fr5⟩=>?_
    have I5':=I5.pinned (stat fr5) (T.obj _ _ st5)
    refine thn (hg _ _ _ _ _ _ s5 σ3 H5 x u _ I5' r5 (step x H5 y5)) fun _ s6 ⟨σ6,H6,I6,q6⟩=>?_
    refine thn (deep_code (Y:=blk X N scope cl (s2.heap.objs.size+1) s2 H2 fp) (g0:=⟨tg,iter,[],0⟩) (scope:=scope) (pos:=pos) hc (hi' _ _ _ _ _) (hg' _ _ _ _ _) (he _ _ _ _ _) rfl I6 q6) fun x4 s7 q7=>thn q7 fun i4 s8 q8=>codeAny_mono q8 fun r s9 ⟨hr,σ9,H9,I9,k,hk,w9⟩=>⟨hr,k,hk,i+1,σ9,H9,I9.unpinned,T.keep _ _ _ st5 fun b hb o eb=>(I9.pin (b,o) (mem_append_right _ (mem_append_right _ (mem_pinsAt hb eb)))).1,fun b hb=>?_,w9⟩
    obtain⟨o,eb,_⟩:=T.obj _ _ st5 b hb
    exact(I9.pin (b,o) (mem_append_right _ (mem_append_right _ (mem_pinsAt hb eb)))).2.1
  ·show upd H2 _ _ b=none
   rw[upd_ne (Nat.ne_of_lt (hlt b hb))]
   exact(f2 b hb).1
 rw[hsz]
 exact codeAny_compStart_list loop (T.self _ 0 _ _ _ (T.keep _ _ _ st2 fun b _ o eb=>old b o eb) loop)
def But (a:Addr)(H H':Hp):Prop:=∀c o,c≠a→H c=some o→H' c=some o
theorem But.refl (a:Addr)(H:Hp):But a H H:=fun _ _ _ h=>h
theorem But.trans {a:Addr}{H1 H2 H3:Hp}(x:But a H1 H2)(y:But a H2 H3):But a H1 H3:=fun c o n h=>y c o n (x c o n h)
theorem But.of {a:Addr}{H H':Hp}(s:Same H H'):But a H H':=fun c o _ h=>s c o h
theorem But.upd {a:Addr}{H:Hp}(o:HO):But a H (upd H a o):=fun c u n h=>by rw[upd_ne n];exact h
section
variable {X:Cx}{elt iter iter':Expr}{scope:Scope}{pos:Pos}{N:List Str}{js:List Nat}{sc:Scope}{N0:List Str}{wi wi':TI}{te:TE}{x y z:Str}{px py pz tp:Pos}{k:Nat}
theorem pe_compO2 (hc:X.calm=true)(hsc:X.env.scope=sc)(hN:X.N=N0)(B:Blk sc N0 (x::y::z::N) 3 js scope)(hx:scope.names.lookup x=some .local)(hy:scope.names.lookup y=some .local)(hz:scope.names.lookup z=some .local)(hi:PI X (.Tuple [.Name x px,.Name y py] k tp) iter wi)
 (hi':∀cl C s H fp,PI (blk X (x::y::z::N) scope cl C s H fp) (.Name z pz) iter' wi') (he:∀cl C s H fp,PE (blk X (x::y::z::N) scope cl C s H fp) elt te)
 (hs:∀x,foldedSetIterable iter X.env x=pure x:=by intro _;rfl) (hs':∀env x,foldedSetIterable iter' env x=pure x:=by intro _ _;rfl) :
 PE X (.ListComp elt [⟨.Tuple [.Name x px,.Name y py] k tp,iter,[],0⟩,⟨.Name z pz,iter',[],0⟩] scope pos) (tComp2 3 js wi (gTup X.K 2 (gCons (gName 0) (gCons (gName 1) gNil))) wi' (gName 2) te):=
 pe_compO hc hsc hN B hi (fun cl C s H fp=>pg_tup (X:=blk X (x::y::z::N) scope cl C s H fp) hc (pgs_cons (pg_name (i:=0) B.nd rfl (.inl (blk_loc hx)) (.inr (blk_loc hx))) (pgs_cons (pg_name (i:=1) B.nd rfl (.inl (blk_loc hy)) (.inr (blk_loc hy))) pgs_nil))) hi' (fun cl C s H fp=>pg_name (i:=2) B.nd rfl (.inl (blk_loc hz)) (.inr (blk_loc hz))) he hs hs'
end
theorem deep_go {J:It}{g:TG}{te:TE}{N:St→Hp→Prop}{D:Addr}{H1:Hp}{σ0:St}(n:Nat)(f:Nat→V)(pre:List V)(Sg:St→Prop)(itm:Nat→Hp→V→Prop)(hd:H1 D=some (.lst pre))(hn:pre.length+n≤sizeLine)(s0:Sg σ0)
 (items:∀i H,But D H1 H→(i<n→J.go i H∧∀x H2,J.yld i H x H2→Same H H2∧itm i H2 x)∧(n≤i→J.stop i H))
 (step:∀i x σ' H,i<n→But D H1 H→itm i H x→Sg σ'→∀R:St→V→Hp→Prop,(∀σ3 y H5,Sg σ3→Same H H5→y=f i→R σ3 y H5)→g x σ' H fun σ3 H3=>te σ3 H3 (R σ3))
 (fin:∀σ' H',Sg σ'→But D H1 H'→H' D=some (.lst (pre++(List.range n).map f))→N σ' H'):cmpD J g te N D σ0 H1:=by
 refine⟨fun i m σ H=>m=n - i∧i≤n∧Sg σ∧But D H1 H∧H D=some (.lst (pre++(List.range i).map f)),⟨n,by omega,Nat.zero_le _,s0,But.refl _ _,by simpa using hd⟩,?_⟩
 rintro i m σ H ⟨rfl,hi,hs,sm,hd'⟩
 by_cases hlt:i<n
 ·obtain⟨go,yl⟩:=(items i H sm).1 hlt
  refine .inr ⟨go,fun x H2 y=>?_⟩
  obtain⟨s2,im⟩:=yl x H2 y
  refine step i x σ H2 hlt (sm.trans (But.of s2)) im hs _ fun σ3 y H5 g3 s5 ey=>?_
  refine⟨_,s5 _ _ (s2 _ _ hd'),by rw[length_append,length_map,length_range];omega,n - (i+1),by omega,rfl,by omega,g3,((sm.trans (But.of s2)).trans (But.of s5)).trans (But.upd _),?_⟩
  rw[upd_same,ey,range_succ,map_append,List.append_assoc]
  rfl
 ·have e:i=n:=by omega
  subst e
  exact .inl ⟨(items i H sm).2 (Nat.le_refl _),fin σ H hs sm hd'⟩
theorem out_go {J:It}{g g':TG}{wi:TI}{te:TE}{Q:VK}{D:Addr}{H1:Hp}{σ0:St}(n:Nat)(f:Nat→List V)(Sg:St→Prop)(itm:Nat→Hp→V→Prop)(hn:∀i,i≤n→((List.range i).flatMap f).length≤sizeLine)(hD:H1 D=none)(s0:Sg σ0)
 (items:∀i H,Same H1 H→(i<n→J.go i H∧∀x H2,J.yld i H x H2→Same H H2∧itm i H2 x)∧(n≤i→J.stop i H))
 (step:∀i x σ' H pre,i<n→Same H1 H→itm i H x→Sg σ'→H D=some (.lst pre)→pre.length+(f i).length≤sizeLine→∀N:St→Hp→Prop,(∀σ3 H5,Sg σ3→But D H H5→H5 D=some (.lst (pre++f i))→N σ3 H5)→g x σ' H fun σ3 H3=>wi σ3 H3 fun J' H4=>cmpD J' g' te N D σ3 H4)
 (fin:∀H',Same H1 H'→H' D=some (.lst ((List.range n).flatMap f))→Q (.ref D) H'):cmpO J g wi g' te Q D σ0 H1:=by
 refine⟨fun i m σ H=>m=n - i∧i≤n∧Sg σ∧Same H1 H∧H D=some (.lst ((List.range i).flatMap f)),⟨n,by omega,Nat.zero_le _,s0,(Same.refl H1).upd_free hD _,upd_same⟩,?_⟩
 rintro i m σ H ⟨rfl,hi,hs,sm,hd⟩
 by_cases hlt:i<n
 ·obtain⟨go,yl⟩:=(items i H sm).1 hlt
  refine .inr ⟨go,fun x H2 y=>?_⟩
  obtain⟨s2,im⟩:=yl x H2 y
  have l:=hn (i+1) hlt
  rw[range_succ,flatMap_append,length_append,flatMap_singleton]at l
  refine step i x σ H2 _ hlt (sm.trans s2) im hs (s2 _ _ hd) l _ fun σ3 H5 g3 b5 h5=>?_
  refine⟨n - (i+1),by omega,rfl,by omega,g3,fun c u h=>b5 c u (ne_of_none h hD) ((sm.trans s2) c u h),?_⟩
  rw[h5,range_succ,flatMap_append,flatMap_singleton]
 ·have e:i=n:=by omega
  subst e
  exact .inl ⟨(items i H sm).2 (Nat.le_refl _),fin H sm hd⟩
abbrev cell0:Obj:={cls:=.type "cell",data:=.cell none}
theorem relab_back1 {env:Env}{t:Str}:∀{ns:List (Str×NameKind)} {x:Str} {k:NameKind},(∀y∈ns,y.2=.cell→y.1=t)→(k=.cell∨k=.free)→
 (ns.map fun(n,k)=>if(k==NameKind.free&&env.scope.kind==.function&&env.kindOf n==some .cell) then(n,NameKind.cell) else(n,k)).lookup x=some k→x=t∨(x,NameKind.free)∈ns
 |[],_,_,_,_,h=>by simp at h
 |(n,k')::r,x,k,nc,hk,h=>by
  rw[map_cons]at h
  have ih:=relab_back1 (env:=env) (t:=t) (ns:=r) (x:=x) (k:=k) (fun y hy=>nc y (mem_cons_of_mem _ hy)) hk
  cases e:x==n with
  |true=>
   have ex:x=n:=by simpa using e
   subst ex
   cases k' with
   |free=>exact .inr mem_cons_self
   |cell=>exact .inl (nc (x,.cell) mem_cons_self rfl)
   |_=>
    dsimp only at h
    rw[if_neg (by simp),lookup_cons,e]at h
    rcases hk with z | z<;>(subst z;simp at h)
  |false=>
   dsimp only at h
   have h':(r.map fun(n,k)=>if(k==NameKind.free&&env.scope.kind==.function&&env.kindOf n==some .cell) then(n,NameKind.cell) else(n,k)).lookup x=some k:=by
    split at h<;>(rw[lookup_cons,e]at h;exact h)
   exact(ih h').elim .inl fun z=>.inr (mem_cons_of_mem _ z)
def blk1 (X:Cx)(t:Str)(N:List Str)(scope:Scope)(cl:List (Str×Addr))(C:Addr)(s:Shared)(H:Hp)(fp:List Addr):Cx:={blk X N scope cl C s H fp with fn:=fun x=>x==t}
structure Blk1 (t:Str)(sc:Scope)(N0:List Str)(N:List Str)(nt:Nat)(js:List Nat)(scope:Scope):Prop where
 kind:scope.kind=.function
 loc:∀y∈scope.names,y.2=.local→scope.names.lookup y.1=some .local
 one:∀n cl,cellsFrom n scope.names cl=(t,n)::cl
 lay:∀h,pushCells h scope.names=h.push cell0
 only:∀y∈scope.names,y.2=.cell→y.1=t
 cap:∀y∈scope.names,y.2=.free→sc.names.lookup y.1=some .cell∨sc.names.lookup y.1=some .free
 nf:∀y∈scope.names,y.2=.free→y.1≠t
 len:N.length=nt+js.length
 out:N.drop nt=js.map fun j=>N0.getD j ""
 js:∀j∈js,j<N0.length
 fr:∀x∈N.drop nt,scope.names.lookup x=some .free
 nd:N.Nodup
section
variable {M:Model}{A:Around}{E:Value→Shared→Prop}{s:Shared}
theorem env_cell {scope:Scope}{gl:Addr}{cl:List (Str×Addr)}{qual:Str}{env:Env}{t:Str}{Q:Env→Shared→Prop}(one:∀n cl,cellsFrom n scope.names cl=(t,n)::cl)(lay:∀h,pushCells h scope.names=h.push cell0)
 (q:Q (newEnv scope s.heap.objs.size gl ((t,s.heap.objs.size+1)::cl) qual none .none (some env) builtinsNs) {s with heap:=(s.heap.push {cls:=.type "dict",data:=.dict #[]}).push cell0}) :
 wpAny M A (newFunctionEnv scope gl cl [] qual none .none (some env)) Q E s:=by
 unfold newFunctionEnv
 refine wpAny_bind (wpAny_alloc (wpAny_bind (wpAny_layCells _ (fun _ _ _=>rfl) scope.names cl _ _ ?_)))
 rw[one,lay]
 have e:(s.heap.push {cls:=.type "dict",data:=.dict #[]}).objs.size=s.heap.objs.size+1:=Heap.size_push ..
 rw[←e]at q
 exact wpAny_bind (wpAny_pure (wpAny_pure q))
end
section
variable {X:Cx}{pins:List (Addr×Obj)}{σ:St}{H:Hp}{s:Shared}{t:Str}{N:List Str}{nt:Nat}{js:List Nat}{scope:Scope}{cl:List (Str×Addr)}{fp:List Addr}
theorem look_ne {t x:Str}{c:Addr}{cl:List (Str×Addr)}(h:x≠t):((t,c)::cl).lookup x=cl.lookup x:=by
 rw[lookup_cons,show(x==t)=false from beq_eq_false_iff_ne.mpr h]
theorem look_at {t:Str}{c:Addr}{cl:List (Str×Addr)}:((t,c)::cl).lookup t=some c:=by
 rw[lookup_cons,show(t==t)=true from beq_self_eq_true t]
theorem look_or {t x:Str}{c c':Addr}{cl:List (Str×Addr)}(h:((t,c)::cl).lookup x=some c'):(x=t∧c'=c)∨(x≠t∧cl.lookup x=some c'):=by
 by_cases e:x=t
 ·subst e;rw[look_at]at h;cases h;exact .inl ⟨rfl,rfl⟩
 ·rw[look_ne e]at h;exact .inr ⟨e,h⟩
theorem blk1_start {h':Heap}{tk:Nat}(I:Inv X pins σ H s)(B:Blk1 t X.env.scope X.N N nt js scope)
 (c1:∀x c,cl.lookup x=some c→X.env.cells.lookup x=some c) (c2:∀x,(x,NameKind.free)∈scope.names→∃c,cl.lookup x=some c)
 (hf:∀b∈fp,FpOk X pins H b) (hlt:∀b∈fp,b<s.heap.objs.size)
 (kp:∀b o,s.heap.get? b=some o→h'.get? b=some o) (hC:h'.Ns (s.heap.objs.size+1) fun _=>none) (hc:h'.IsCell (s.heap.objs.size+2) none)
 (hD:h'.get? s.heap.objs.size=some {cls:=.type "list",data:=.seq ([]:List Value).toArray 0}) :
 Inv (blk1 X t N scope ((t,s.heap.objs.size+2)::cl) (s.heap.objs.size+1) s H fp) [] (inner nt js σ) (upd H s.heap.objs.size (.lst [])) {s with heap:=h',toks:=tk}:=by
 have hfr:∀a,s.heap.objs.size≤a→H a=none:=fun a ha=>I.hok.fresh ha
 have cold:∀x c,X.env.cells.lookup x=some c→c<s.heap.objs.size:=fun x c e=>by
  obtain⟨v,q⟩:=I.cell x c e
  exact q.lt
 have two:s.heap.objs.size≤s.heap.objs.size+2:=Nat.le_add_right _ 2
 have far:∀{x c},cl.lookup x=some c→c≠s.heap.objs.size+2:=fun{x c} e z=>by
  have q:=cold x c (c1 x c e)
  rw[z]at q
  exact absurd (Nat.lt_of_lt_of_le q two) (Nat.lt_irrefl _)
 have inj:∀x y c,((t,s.heap.objs.size+2)::cl).lookup x=some c→((t,s.heap.objs.size+2)::cl).lookup y=some c→x=y:=fun x y c a b=>by
  rcases look_or a with⟨e1,e2⟩ | ⟨_,e2⟩<;>rcases look_or b with⟨e3,e4⟩ | ⟨_,e4⟩
  ·rw[e1,e3]
  ·exact absurd e2 (far e4)
  ·exact absurd e4 (far e2)
  ·exact I.ok.inj x y c (c1 x c e2) (c1 y c e4)
 refine⟨⟨I.ok.mod,B.kind,I.ok.glob,I.ok.blt,Nat.le_succ _,inj,fun x hx=>?_,fun x c z e=>?_,I.ok.hd,I.ok.frames,.inl rfl,fun b hb=>?_,I.bs,Nat.le_trans I.ok.bsz I.sz,fun b o e hb=>?_,fun b hb z=>?_,I.stack,I.stkFree⟩,
  rfl,I.bare,Un.laid kp (Nat.le_refl _) (hfr _ (Nat.le_refl _)),⟨_,hC,fun i x v h1 h2 h3=>?_⟩,fun x c e=>?_,?_,fun x c e=>?_,fun p hp=>absurd (show p∈([]:List (Addr×Obj)) from hp) (by simp),I.hok.laid kp (Nat.le_refl _) ⟨Nat.zero_le _,[],0,.nil,hD⟩,?_⟩
 ·have:x=t∨(x,NameKind.free)∈scope.names:=hx.elim (fun z=>relab_back1 B.only (.inl rfl) z) fun z=>relab_back1 B.only (.inr rfl) z
  rcases this with z | z
  ·rw[z];exact⟨s.heap.objs.size+2,look_at⟩
  ·obtain⟨c,e⟩:=c2 x z
   exact⟨c,(look_ne (B.nf _ z rfl)).trans e⟩
 ·have xt:x=t:=by simpa using(show(x==t)=true from z)
  rcases look_or (show((t,s.heap.objs.size+2)::cl).lookup x=some c from e) with⟨_,e⟩ | ⟨ne,_⟩
  ·rw[e];exact two
  ·exact absurd xt ne
 ·refine⟨Nat.ne_of_lt (Nat.lt_succ_of_lt (hlt b hb)),fun x c e=>?_⟩
  rcases look_or e with⟨_,e⟩ | ⟨_,e⟩
  ·rw[e];exact Nat.ne_of_gt (Nat.lt_of_lt_of_le (hlt b hb) two)
  ·exact(hf b hb).2.2.2.2.1 x c (c1 x c e)
 ·rcases(hf b hb).2.2.2.1 with z | z
  ·exact I.ok.noex b o e z
  ·exact absurd (Nat.lt_of_lt_of_le (lt_size (I.ok.bs b o e).1) z) (Nat.lt_irrefl _)
 ·rcases mem_cons.mp (I.stkSub b z) with q | q
  ·exact(hf b hb).2.1 q
  ·exact(hf b hb).2.2.1 q
 ·obtain⟨k,j,rfl,hk,hv⟩:=inner_get h2
  have h1':(N.drop nt)[k]?=some x:=by rw[getElem?_drop];exact h1
  have hxm:x∈N.drop nt:=mem_of_getElem? h1'
  have hfree:scope.names.lookup x=some .free:=B.fr x hxm
  have hj:X.N[j]?=some x:=by
   rw[B.out,List.getElem?_map,hk]at h1'
   have hjl:j<X.N.length:=B.js j (mem_of_getElem? hk)
   rw[List.getElem?_eq_getElem hjl]
   have e:X.N.getD j "" = x:=by simpa using h1'
   rw[←e]
   simp[getD_eq_getElem?_getD,List.getElem?_eq_getElem hjl]
  have hmem:=PySem.mem_of_lookup hfree
  have hcap:=B.cap _ hmem rfl
  obtain⟨m,hn,hl⟩:=I.loc
  obtain⟨u,ru,lk⟩:=hl j x v hj hv (hcap.elim (fun z=>.inr (.inl z)) fun z=>.inr (.inr z))
  refine⟨u,ru,.inr ⟨relab_free hfree,?_⟩⟩
  rcases lk with⟨z,_⟩ | ⟨_,c,e,q⟩
  ·exact absurd (show X.env.scope.names.lookup x=some .local from z) (by rcases hcap with y | y<;>(rw[y];decide))
  ·obtain⟨c',e'⟩:=c2 x hmem
   have ec:=c1 x c' e'
   rw[e]at ec
   cases ec
   obtain⟨o,ho,hd⟩:=q
   exact⟨c,(look_ne (B.nf _ hmem rfl)).trans e',o,kp c o ho,hd⟩
 ·rcases look_or e with⟨_,e⟩ | ⟨_,e⟩
  ·exact⟨none,e▸hc⟩
  ·obtain⟨v,o,ho,hd⟩:=I.cell x c (c1 x c e)
   exact⟨v,o,kp c o ho,hd⟩
 ·show upd H _ _ (s.heap.objs.size+1)=none
  rw[upd_ne (Nat.ne_of_gt (Nat.lt_succ_self _))]
  exact hfr _ (Nat.le_succ _)
 ·show upd H _ _ c=none
  rcases look_or e with⟨_,e⟩ | ⟨_,e⟩
  ·rw[e,upd_ne (Nat.ne_of_gt (Nat.lt_succ_of_lt (Nat.lt_succ_self _)))]
   exact hfr _ two
  ·rw[upd_ne (Nat.ne_of_lt (cold x c (c1 x c e)))]
   exact I.freeC x c (c1 x c e)
 ·show(inner nt js σ).length=N.length
  unfold inner
  rw[length_append,length_replicate,length_map,B.len]
end
theorem pe_compC {X:Cx}(t:Str){elt tg iter:Expr}{ifs:List Expr}{scope:Scope}{pos:Pos}{N:List Str}{nt:Nat}{js:List Nat}{sc:Scope}{N0:List Str}{wi:TI}{g:TG}{tt:TT}{te:TE}
 (hc:X.calm=true) (hsc:X.env.scope=sc) (hN:X.N=N0) (B:Blk1 t sc N0 N nt js scope) (hi:PI X tg iter wi)
 (hg:∀cl C s H fp,PG (blk1 X t N scope cl C s H fp) tg g) (ht:∀cl C s H fp,PTs (blk1 X t N scope cl C s H fp) ifs tt) (he:∀cl C s H fp,PE (blk1 X t N scope cl C s H fp) elt te)
 (hs:∀x,foldedSetIterable iter X.env x=pure x:=by intro _;rfl):PE X (.ListComp elt [⟨tg,iter,ifs,0⟩] scope pos) (tComp nt js wi g tt te):=by
 subst hsc hN
 intro pins s σ H Q I h
 obtain⟨cl,hcl,c1,c2⟩:=clos_of (env:=X.env) (scope:=scope) fun y hy hk=>I.ok.has y.1 (B.cap y hy hk)
 rw[eval_ListComp]
 refine wpAny_comprehension_free (use:=none) rfl hs hcl B.kind B.loc (thn (hi pins s σ H _ I h) fun v s1 q1=>thn q1 fun itv s2 q2=>?_)
 obtain⟨it,fp,tn,J,H2,e,I2,T,st2,f2,q2⟩:=q2
 subst e
 obtain⟨W,⟨m0,w0⟩,turn⟩:=q2 s2.heap.objs.size (I2.hok.fresh (Nat.le_refl _))
 have hlt:∀b∈fp,b<s2.heap.objs.size:=fun b hb=>by
  obtain⟨o,eo,_⟩:=T.obj _ _ st2 b hb
  exact lt_size eo
 refine wpAny_newObj_type (env_cell B.one B.lay ?_)
 have hsz:(s2.heap.push {cls:=.type "list",dict:=none,data:=.seq ([]:List Value).toArray}).objs.size=s2.heap.objs.size+1:=by rw[Heap.size_push]
 dsimp only
 generalize hh1:((s2.heap.push {cls:=.type "list",dict:=none,data:=.seq ([]:List Value).toArray}).push {cls:=.type "dict",data:=.dict #[]}).push cell0=h1
 have old:∀b o,s2.heap.get? b=some o→h1.get? b=some o:=fun b o eb=>by rw[←hh1];exact get?_push_of_some _ (get?_push_of_some _ (get?_push_of_some _ eb))
 have hD:h1.get? s2.heap.objs.size=some {cls:=.type "list",data:=.seq ([]:List Value).toArray 0}:=by rw[←hh1];exact get?_push_of_some _ (get?_push_of_some _ (get?_push_size _ rfl))
 have hns:h1.Ns (s2.heap.objs.size+1) fun _=>none:=by
  have e:=(Heap.Ns.new (s2.heap.push {cls:=.type "list",dict:=none,data:=.seq ([]:List Value).toArray}) (.type "dict")).keeps fun b o q=>get?_push_of_some cell0 q
  rw[hsz]at e
  rw[←hh1]
  exact e
 have hcl1:h1.IsCell (s2.heap.objs.size+2) none:=by
  rw[←hh1]
  exact⟨cell0,get?_push_at (by rw[Heap.size_push,hsz]) rfl,rfl⟩
 rw[hsz]
 have I3:=blk1_start (cl:=cl) (fp:=fp) (tk:=s2.toks) I2 B c1 c2 f2 hlt old hns hcl1 hD
 have stat:∀{H':Hp},(∀b∈fp,H' b=none)→∀b∈fp,FpOk (blk1 X t N scope ((t,s2.heap.objs.size+2)::cl) (s2.heap.objs.size+1) s2 H2 fp) [] H' b:=fun{H'} hn b hb=>
  ⟨hn b hb,Nat.ne_of_lt (Nat.lt_succ_of_lt (hlt b hb)),fun z=>(mem_cons.mp (I2.stkSub b z)).elim (f2 b hb).2.1 (f2 b hb).2.2.1,.inl hb,fun x c ec=>(look_or ec).elim (fun z=>z.2▸Nat.ne_of_gt (Nat.lt_of_lt_of_le (hlt b hb) (Nat.le_add_right _ 2))) (fun z=>(f2 b hb).2.2.2.2.1 x c (c1 x c z.2)),fun p hp=>absurd (show p∈([]:List (Addr×Obj)) from hp) (by simp)⟩
 have fin:∀{i:Nat} {σ':St} {H':Hp} {s':Shared},Inv (blk1 X t N scope ((t,s2.heap.objs.size+2)::cl) (s2.heap.objs.size+1) s2 H2 fp) [] σ' H' s'→Q (.ref s2.heap.objs.size) H'→
  compPost (model X.prog X.w) X.A X.xe none (EP X pins σ Q) (.ref s2.heap.objs.size) (s2.heap.objs.size+1) (.ok .next) s':=fun{i σ' H' s'} Ib q=>by
  obtain⟨m,hn,_⟩:=id Ib.loc
  refine⟨m,hn,fun h'' hs''=>?_⟩
  have I4:Inv X pins σ H' s':=I2.call' Ib.os Ib.base Ib.hok Ib.bare fun b hb=>⟨(f2 b hb).2.2.2.1,(f2 b hb).2.1,(f2 b hb).2.2.2.2.1,(f2 b hb).2.2.2.2.2⟩
  obtain⟨g0,g1,g2,g3,g4,g5⟩:=I2.fpOk (H':=H') (Nat.le_succ _) Ib.free
  exact⟨.ref s2.heap.objs.size,H',I4.turned (t':=s'.toks) (fun b o hb eb=>hs''.extBut b o hb eb) g0 g1 g3 g4 g5,rfl,q⟩
 have loop:codeAny (model X.prog X.w) X.A (.compLoop (.ListComp elt [⟨tg,iter,ifs,0⟩] scope pos) 0 (.ref it) (.ref s2.heap.objs.size) (compEnvC scope ((t,s2.heap.objs.size+2)::cl) (s2.heap.objs.size+1) X.env))
  (compPost (model X.prog X.w) X.A X.xe none (EP X pins σ Q) (.ref s2.heap.objs.size) (s2.heap.objs.size+1)) {s2 with heap:=h1}:=by
  refine comp_turns (fun n s'=>∃i σ' H',Inv (blk1 X t N scope ((t,s2.heap.objs.size+2)::cl) (s2.heap.objs.size+1) s2 H2 fp) [] σ' H' s'∧tn i s'.heap∧(∀b∈fp,H' b=none)∧W i n σ' H') ?_ m0
   ⟨0,_,_,I3,T.keep _ _ _ st2 fun b _ o eb=>old b o eb,fun b hb=>?_,w0⟩
  ·rintro n s3 ⟨i,σ3,H3,J3,st3,fr3,w3⟩
   rcases turn i n σ3 H3 w3 with⟨stop,qn⟩ | ⟨go,step⟩
   ·refine thn (T.done (blk1 X t N scope ((t,s2.heap.objs.size+2)::cl) (s2.heap.objs.size+1) s2 H2 fp) rfl rfl rfl hc i [] s3 σ3 H3 _ J3 (stat fr3) st3 stop) fun r s4 ⟨hr,I4⟩=>?_
    subst hr
    exact fin (i:=i) I4 qn
   ·refine thn (T.item (blk1 X t N scope ((t,s2.heap.objs.size+2)::cl) (s2.heap.objs.size+1) s2 H2 fp) rfl rfl rfl hc i [] s3 σ3 H3 _ J3 (stat fr3) st3 go) fun r s4 ⟨u,hr,h4⟩=>?_
    subst hr
    refine thn h4 fun _ s5 ⟨x,H5,I5,r5,y5,st5,fr5⟩=>?_
    have I5':=I5.pinned (stat fr5) (T.obj _ _ st5)
    refine thn (hg _ _ _ _ _ _ s5 σ3 H5 x u _ I5' r5 (step x H5 y5)) fun _ s6 ⟨σ6,H6,I6,q6⟩=>?_
    have again:∀{σ7:St} {H7:Hp} {s7:Shared} {k:Nat},Inv (blk1 X t N scope ((t,s2.heap.objs.size+2)::cl) (s2.heap.objs.size+1) s2 H2 fp) ([]++pinsAt fp s5.heap) σ7 H7 s7→k<n→W (i+1) k σ7 H7→
     ∃k,k<n∧∃i σ' H',Inv (blk1 X t N scope ((t,s2.heap.objs.size+2)::cl) (s2.heap.objs.size+1) s2 H2 fp) [] σ' H' s7∧tn i s7.heap∧(∀b∈fp,H' b=none)∧W i k σ' H':=fun{σ7 H7 s7 k} I7 hk w7=>by
     refine⟨k,hk,i+1,σ7,H7,I7.unpinned,T.keep _ _ _ st5 fun b hb o eb=>(I7.pin (b,o) (mem_append_right _ (mem_append_right _ (mem_pinsAt hb eb)))).1,fun b hb=>?_,w7⟩
     obtain⟨o,eb,_⟩:=T.obj _ _ st5 b hb
     exact(I7.pin (b,o) (mem_append_right _ (mem_append_right _ (mem_pinsAt hb eb)))).2.1
    refine thn (ht _ _ _ _ _ _ s6 σ6 H6 _ I6 q6) fun ok s7 ⟨H7,I7,q7⟩=>?_
    cases ok with
    |false=>
     rw[if_neg Bool.false_ne_true]at q7 ⊢
     obtain⟨k,hk,w7⟩:=q7
     exact again I7 hk w7
    |true=>
     rw[if_pos rfl]at q7 ⊢
     refine thn (he _ _ _ _ _ _ s7 σ6 H7 _ I7 q7) fun y s8 ⟨v8,H8,I8,r8,ys,e8,z8,k,hk,w8⟩=>?_
     refine thn (mt_append _ s8 σ6 H8 (.ref s2.heap.objs.size) [v8] _ [y] (fun _ H9=>W (i+1) k σ6 H9) I8 rfl (.cons r8 .nil) ⟨_,ys,v8,rfl,rfl,e8,z8,w8⟩) fun _ s9 ⟨_,H9,I9,_,w9⟩=>?_
     exact again I9 hk w9
  ·show upd H2 _ _ b=none
   rw[upd_ne (Nat.ne_of_lt (hlt b hb))]
   exact(f2 b hb).1
 exact codeAny_compStart_list loop (T.self _ 0 _ _ _ (T.keep _ _ _ st2 fun b _ o eb=>old b o eb) loop)
section
variable {X:Cx}{elt iter:Expr}{ifs:List Expr}{scope:Scope}{pos:Pos}{N:List Str}{js:List Nat}{sc:Scope}{N0:List Str}{wi:TI}{tt:TT}{te:TE}{x:Str}{px:Pos}
theorem relab_cell {env:Env}:∀{ns:List (Str×NameKind)} {x:Str},ns.lookup x=some .cell→
 (ns.map fun(n,k)=>if(k==NameKind.free&&env.scope.kind==.function&&env.kindOf n==some .cell) then(n,NameKind.cell) else(n,k)).lookup x=some .cell
 |[],_,h=>by simp at h
 |(n,k)::r,x,h=>by
  rw[lookup_cons]at h
  rw[map_cons]
  dsimp only
  cases e:x==n with
  |true=>
   rw[e]at h
   have:k=.cell:=by simpa using h
   subst this
   split<;>rw[lookup_cons,e]
  |false=>
   rw[e]at h
   split<;>(rw[lookup_cons,e];exact relab_cell h)
theorem blk1_cell {cl:List (Str×Addr)}{C:Addr}{s:Shared}{H:Hp}{fp:List Addr}{t:Str}(h:scope.names.lookup x=some .cell):(blk1 X t N scope cl C s H fp).env.scope.names.lookup x=some .cell:=relab_cell h
theorem pe_compC1 (hc:X.calm=true)(hsc:X.env.scope=sc)(hN:X.N=N0)(B:Blk1 x sc N0 (x::N) 1 js scope)(hx:scope.names.lookup x=some .cell)(hi:PI X (.Name x px) iter wi)
 (ht:∀cl C s H fp,PTs (blk1 X x (x::N) scope cl C s H fp) ifs tt) (he:∀cl C s H fp,PE (blk1 X x (x::N) scope cl C s H fp) elt te)
 (hs:∀x,foldedSetIterable iter X.env x=pure x:=by intro _;rfl):PE X (.ListComp elt [⟨.Name x px,iter,ifs,0⟩] scope pos) (tComp 1 js wi (gName 0) tt te):=
 pe_compC x hc hsc hN B hi (fun cl C s H fp=>pg_name (i:=0) B.nd rfl (.inr (blk1_cell hx)) (.inl (beq_self_eq_true x))) ht he hs
end
section
variable {X:Cx}{tg:Expr}
def rLenK (K:W.Frag):List V→Hp→VK→Prop:=fun xs H Q=>∃p ys,xs=[.ref p]∧(SqL K H p ys∨SqT K H p ys)∧Q (.int ys.length) H
theorem call_lenK (K:W.Frag)(h:X.K=K):CallR X (.builtin "len") (rLenK K):=by subst h;exact call_len_seq
theorem op_notInK (K:W.Frag)(h:X.K=K):OpR X (compareOp .NotIn) (rIn K true):=by subst h;exact op_notIn_seq
theorem pi_listK (K:W.Frag)(h:X.K=K){l:Expr}{tl:TE}(hl:PE X l tl):PI X tg l (iList K tl):=by subst h;exact pi_list hl
theorem pi_tupK (K:W.Frag)(h:X.K=K){l:Expr}{tl:TE}(hl:PE X l tl):PI X tg l (iTup K tl):=by subst h;exact pi_tup hl
end
section
variable {X:Cx}{elt iter:Expr}{ifs:List Expr}{scope:Scope}{px py tp pos pos' spos:Pos}{k ii:Nat}{x y nm:Str}{N N0:List Str}{js:List Nat}{sc:Scope}{wi:TI}{tt:TT}{te:TE}
theorem ps_comp2 (hNd:X.N.Nodup)(hii:X.N[ii]?=some nm)(hloc:Loc X.env.scope nm)(hc:X.calm=true)(hsc:X.env.scope=sc)(hN:X.N=N0)(B:Blk sc N0 (x::y::N) 2 js scope)(hx:scope.names.lookup x=some .local)(hy:scope.names.lookup y=some .local)(hi:PI X (.Tuple [.Name x px,.Name y py] k tp) iter wi)
 (ht:∀cl C s H fp,PTs (blk X (x::y::N) scope cl C s H fp) ifs tt) (he:∀cl C s H fp,PE (blk X (x::y::N) scope cl C s H fp) elt te)
 (hsw:swapsWith (.ListComp elt [⟨.Tuple [.Name x px,.Name y py] k tp,iter,ifs,0⟩] scope pos) (some (.Name nm pos')) spos.line X.env=pure true:=by rfl)
 (hf:X.fn nm=true∨X.env.scope.names.lookup nm=some .local:=by first | exact .inl rfl | exact .inr rfl | assumption)
 (hs:∀x,foldedSetIterable iter X.env x=pure x:=by intro _;rfl):PS X (.Assign [.Name nm pos'] (.ListComp elt [⟨.Tuple [.Name x px,.Name y py] k tp,iter,ifs,0⟩] scope pos) spos) (tSetC ii (tComp 2 js wi (gTup X.K 2 (gCons (gName 0) (gCons (gName 1) gNil))) tt te)):=
 ps_comp hNd hii hloc hc hsc hN B hi (fun cl C s H fp=>pg_tup (X:=blk X (x::y::N) scope cl C s H fp) hc (pgs_cons (pg_name (i:=0) B.nd rfl (.inl (blk_loc hx)) (.inr (blk_loc hx))) (pgs_cons (pg_name (i:=1) B.nd rfl (.inl (blk_loc hy)) (.inr (blk_loc hy))) pgs_nil))) ht he hsw hf hs
end
section
variable {X:Cx}
theorem ints_of:∀(l:List Int) (vs:List Value),Vals (l.map V.int) vs→∃ps:List (Int×Tok),vs=ps.map (fun p=>Value.int p.1 p.2)∧ps.map (·.1)=l
 |[],vs,v=>by cases v;exact⟨[],rfl,rfl⟩
 |n::l,vs,v=>by
  cases v with
  |cons a b=>
   obtain⟨t,rfl⟩:=a
   obtain⟨ps,rfl,e⟩:=ints_of l _ b
   exact⟨(n,t)::ps,rfl,by rw[map_cons,e]⟩
end
section
variable {X:Cx}
def rSumK (K:W.Frag):List V→Hp→VK→Prop:=fun xs H Q=>∃(p:Addr) (ns:List Int),xs=[.ref p]∧SqL K H p (ns.map V.int)∧Q (.int ns.sum) H
theorem call_sumK (K:W.Frag)(h:X.K=K)(hc:X.calm=true):CallR X (.builtin "sum") (rSumK K):=by subst h;exact call_sumI hc
end
section
variable {X:Cx}
def rSortL:List V→Hp→VK→Prop:=fun xs H Q=>∃(a:Addr) (ks:List Int),xs=[.ref a]∧(H a=some (.lst (ks.map V.int))∨H a=some (.tup (ks.map V.int)))∧ks.length<64∧
 ∀(ns:List Int) (l:Addr),ns.Perm ks→ns.Pairwise (·≤·)→H l=none→Q (.ref l) (upd H l (.lst (ns.map V.int)))
theorem call_sortL:CallR X (.builtin "sorted") rSortL:=by
 intro pins s σ H xs us Q I r h
 obtain⟨a,ks,rfl,ha,h64,q⟩:=h
 obtain⟨u,rfl,rx⟩:=vals1 r
 cases(show u=Value.ref a from rx)
 have seq:∃(T:String) (o:Obj) (vs:List Value) (n:Nat),(T="list"∨T="tuple")∧s.heap.get? a=some o∧o.cls=.type T∧o.data=.seq vs.toArray n∧Vals (ks.map V.int) vs:=by
  rcases ha with ha | ha
  ·obtain⟨_,vs,n,rv,ho⟩:_∧∃(its:List Value) (n:Nat),Vals (ks.map V.int) its∧s.heap.get? a=some {cls:=.type "list",data:=.seq its.toArray n}:=I.hok a _ ha
   exact⟨"list",_,vs,n,.inl rfl,ho,rfl,rfl,rv⟩
  ·obtain⟨_,vs,rv,o,g1,g2,n,g3⟩:_∧∃its:List Value,Vals (ks.map V.int) its∧IsTup s.heap a its.toArray:=I.hok a _ ha
   exact⟨"tuple",o,vs,n,.inr rfl,g1,g2,g3,rv⟩
 obtain⟨T,o,vs,n,hT,g1,g2,g3,rv⟩:=seq
 have lk:vs.length=ks.length:=by have:=rv.length;rw[length_map]at this;exact this.symm
 have szv:vs.length≤sizeLine:=by rw[sizeLine_eq];omega
 have hI:IntsAre vs ks:=by
  refine intsAre_of (vals_of _ _ lk fun j u hj=>?_)
  have jl:j<ks.length:=by rw[←lk];exact(List.getElem?_eq_some_iff.mp hj).1
  have e3:(ks.map V.int)[j]?=some (.int ks[j]):=by rw[List.getElem?_map,List.getElem?_eq_getElem jl];rfl
  obtain⟨v,e4,rv'⟩:=rv.get e3
  rw[hj]at e4
  cases e4
  obtain⟨t,e5⟩:=(show ∃t,u=Value.int ks[j] t from rv')
  exact⟨t,ks[j],List.getElem?_eq_getElem jl,e5⟩
 refine Calls.call_function_entry kind_sorted plain_sorted entry_sorted (args_sorted1 _) ?_
 unfold Builtin.«sorted»
 refine wpAny_bind (m:=checkCount "sorted" 1 1 _) (wpAny_pure ?_)
 refine wpAny_bind (wpAny_collect_seq a hT g1 g2 g3 (fun h' hk'=>?_) (by rw[size_toArray];exact szv))
 have I0:Inv X pins σ H {s with heap:=h'}:=I.kept (t':=s.toks) hk'
 rw[show vs.toArray.toList=vs from rfl]
 refine wpAny_bind (wpAny_newList ?_ szv)
 have hoL:(h'.push (seqObj "list" vs.toArray 0)).get? h'.objs.size=some (seqObj "list" vs.toArray 0):=get?_push_size _ rfl
 refine wpAny_bind (wpAny_holding (wpAny_call_entry slot_list_sort ⟨_,hoL,rfl⟩ entry_list_sort (list_sort_tree (s:={s with heap:=h'.push (seqObj "list" vs.toArray 0)}) hoL hI (by rw[lk];exact h64) fun out ns' a1 a2 a3=>⟨_,rfl,?_⟩) (args_list_sort _)))
 obtain⟨e,he⟩:=sortedHeap_at (out:=out) hoL
 have old:∀b o,h'.get? b=some o→(sortedHeap (h'.push (seqObj "list" vs.toArray 0)) h'.objs.size vs out).get? b=some o:=fun b o eb=>by
  have lt:=lt_size eb
  rw[sortedHeap_old (h:=h'.push (seqObj "list" vs.toArray 0)) (b:=b) (Nat.ne_of_lt lt) (by rw[Heap.size_push];exact Nat.lt_succ_of_lt lt)]
  exact get?_push_of_some _ eb
 refine wpAny_pure ⟨_,rfl,.ref h'.objs.size,_,I0.laid (a:=h'.objs.size) (t':=s.toks) (o:=.lst (ns'.map V.int)) old (Nat.le_refl _) ?_,rfl,q ns' _ a2 a3 (I0.hok.fresh (Nat.le_refl _))⟩
 refine⟨by rw[length_map,a2.length_eq,sizeLine_eq];omega,out.toList,e,vals_ints a1,?_⟩
 have e9:out.toList.toArray=out:=by simp
 rw[e9]
 exact he
end
section
variable {X:Cx}{e:Expr}{t:TA}
def tSortRev (t:TA):TE:=fun σ H Q=>t σ H fun vs H1=>∃(a:Addr) (ks:List Int),vs=[.ref a]∧(H1 a=some (.lst (ks.map V.int))∨H1 a=some (.tup (ks.map V.int)))∧ks.length<64∧
 ∀(ns:List Int) (l:Addr),ns.Perm ks→ns.Pairwise (·≥·)→H1 l=none→Q (.ref l) (upd H1 l (.lst (ns.map V.int)))
theorem pe_sortRev {p kp kv pos:Pos}{k:Nat}(hg:Gl X "sorted")(hm:X.mg "sorted" = none)(ha:PA X [e] t)
 (he:starEach [e] X.env=[(false,eval e X.env)]:=by rfl) (hpl:(backTo pos (starEach [e] X.env)).any (·.1)=false:=by rfl) :
 PE X (.Call (.Name "sorted" p) [e] [⟨some "reverse",.Constant (.bool true) k kv,kp⟩] pos) (tSortRev t):=by
 intro pins s0 σ H0 Q I0 h
 refine wpAny_Call_Name_kw (ld_blt I0 hg hm boot_sorted ?_ (by decide) (by decide))
 refine callWith_kw (thn (ha pos pins s0 σ H0 _ I0 h) fun us s1 ⟨vs,H1,I1,r1,q1⟩=>?_) (by rw[he];rfl) hpl rfl rfl
 obtain⟨a,ks,e1,hd,h64,q⟩:=q1
 subst e1
 obtain⟨u,rfl,ru⟩:=vals1 r1
 cases(show u=Value.ref a from ru)
 refine kws_cons (thn (pe_bl (X:=X) pins s1 σ H1 (fun v H2=>H2=H1∧v=.bl true) I1 ⟨rfl,rfl⟩) fun v0 s ⟨y,H,I,r2,e2,e3⟩=>kws_nil ?_)
 subst e2 e3
 cases(show v0=Value.bool true from r2)
 have seq:∃(T:String) (o:Obj) (vs:List Value) (n:Nat),(T="list"∨T="tuple")∧s.heap.get? a=some o∧o.cls=.type T∧o.data=.seq vs.toArray n∧Vals (ks.map V.int) vs:=by
  rcases hd with ha | ha
  ·obtain⟨_,vs,n,rv,ho⟩:_∧∃(its:List Value) (n:Nat),Vals (ks.map V.int) its∧s.heap.get? a=some {cls:=.type "list",data:=.seq its.toArray n}:=I.hok a _ ha
   exact⟨"list",_,vs,n,.inl rfl,ho,rfl,rfl,rv⟩
  ·obtain⟨_,vs,rv,o,g1,g2,n,g3⟩:_∧∃its:List Value,Vals (ks.map V.int) its∧IsTup s.heap a its.toArray:=I.hok a _ ha
   exact⟨"tuple",o,vs,n,.inr rfl,g1,g2,g3,rv⟩
 obtain⟨T,o,vs,n,hT,g1,g2,g3,rv⟩:=seq
 have lk:vs.length=ks.length:=by have:=rv.length;rw[length_map]at this;exact this.symm
 have szv:vs.length≤sizeLine:=by rw[sizeLine_eq];omega
 have hI:IntsAre vs ks:=by
  refine intsAre_of (vals_of _ _ lk fun j u hj=>?_)
  have jl:j<ks.length:=by rw[←lk];exact(List.getElem?_eq_some_iff.mp hj).1
  have e3:(ks.map V.int)[j]?=some (.int ks[j]):=by rw[List.getElem?_map,List.getElem?_eq_getElem jl];rfl
  obtain⟨v,e4,rv'⟩:=rv.get e3
  rw[hj]at e4
  cases e4
  obtain⟨t,e5⟩:=(show ∃t,u=Value.int ks[j] t from rv')
  exact⟨t,ks[j],List.getElem?_eq_getElem jl,e5⟩
 refine call_function_entry_kw kind_sorted plain_sorted entry_sorted (args_sorted_rev _ _) ?_
 unfold Builtin.«sorted»
 refine wpAny_bind (m:=checkCount "sorted" 1 1 _) (wpAny_pure ?_)
 refine wpAny_bind (wpAny_collect_seq a hT g1 g2 g3 (fun h' hk'=>?_) (by rw[size_toArray];exact szv))
 have I2:Inv X pins σ H {s with heap:=h'}:=I.kept (t':=s.toks) hk'
 rw[show vs.toArray.toList=vs from rfl]
 refine wpAny_bind (wpAny_newList ?_ szv)
 have hoL:(h'.push (seqObj "list" vs.toArray 0)).get? h'.objs.size=some (seqObj "list" vs.toArray 0):=get?_push_size _ rfl
 refine wpAny_bind (wpAny_holding (wpAny_call_entry_kw slot_list_sort ⟨_,hoL,rfl⟩ entry_list_sort (list_sort_tree_rev (s:={s with heap:=h'.push (seqObj "list" vs.toArray 0)}) hoL hI (by rw[lk];exact h64) fun out ns' a1 a2 a3=>⟨_,rfl,?_⟩) (args_list_sort_rev _ _)))
 obtain⟨e,he⟩:=sortedHeap_at (out:=out) hoL
 have old:∀b o,h'.get? b=some o→(sortedHeap (h'.push (seqObj "list" vs.toArray 0)) h'.objs.size vs out).get? b=some o:=fun b o eb=>by
  have lt:=lt_size eb
  rw[sortedHeap_old (h:=h'.push (seqObj "list" vs.toArray 0)) (b:=b) (Nat.ne_of_lt lt) (by rw[Heap.size_push];exact Nat.lt_succ_of_lt lt)]
  exact get?_push_of_some _ eb
 refine wpAny_pure ⟨_,rfl,.ref h'.objs.size,_,I2.laid (a:=h'.objs.size) (t':=s.toks) (o:=.lst (ns'.map V.int)) old (Nat.le_refl _) ?_,rfl,q ns' _ a2 a3 (I2.hok.fresh (Nat.le_refl _))⟩
 refine⟨by rw[length_map,a2.length_eq,sizeLine_eq];omega,out.toList,e,vals_ints a1,?_⟩
 have e9:out.toList.toArray=out:=by simp
 rw[e9]
 exact he
end
section
variable {X:Cx}
theorem boot_set:bootBuiltins "set" = some (.type "set"):=by decide +kernel
end
section
variable {X:Cx}
def rMaxT (K:W.Frag):List V→Hp→VK→Prop:=fun xs H Q=>∃(p:Addr) (ns:List Int),xs=[.ref p]∧SqT K H p (ns.map V.int)∧ns≠[]∧∀m,m∈ns→(∀x∈ns,x≤m)→Q (.int m) H
theorem call_maxT (hc:X.calm=true):CallR X (.builtin "max") (rMaxT X.K):=by
 intro pins s σ H xs us Q I r h
 obtain⟨p,ns,rfl,hq,ne,q⟩:=h
 obtain⟨u,rfl,rx⟩:=vals1 r
 cases(show u=Value.ref p from rx)
 obtain⟨its,r',pl,hz⟩:=I.tuple hq
 obtain⟨ps,e1,e2⟩:=ints_of ns its r'
 have ln:ps.length=ns.length:=by rw[←e2,length_map]
 have n0:0<ns.length:=List.length_pos_iff.mpr ne
 have ht:s.heap.IsTuple p (intItems ps.toArray):=by
  have z:s.heap.IsTuple p its.toArray:=pl
  rw[e1]at z
  have e3:(ps.map fun p=>Value.int p.1 p.2).toArray=intItems ps.toArray:=by unfold intItems;simp
  rw[e3]at z
  exact z
 have na:∀i,i<ns.length→numAt ps.toArray i=ns.getD i 0∧ns.getD i 0∈ns:=fun i hi=>by
  have hi':i<ps.length:=by omega
  have e4:ns[i]?=some ps[i].1:=by rw[←e2,List.getElem?_map,List.getElem?_eq_getElem hi'];rfl
  unfold numAt
  rw[getD_eq_getElem?_getD,e4]
  refine⟨?_,mem_of_getElem? e4⟩
  have:ps.toArray[i]?=some ps[i]:=by simp[hi']
  rw[this]
  rfl
 have sz:(intItems ps.toArray).size=ns.length:=by simp[intItems,ln]
 obtain⟨b1,b2⟩:=argBest_gt (numAt ps.toArray) (ps.toArray.size - 1)
 have lt:p<s.heap.objs.size:=by obtain⟨_,e,_⟩:=id ht;exact lt_size e
 refine call_max_walk (wpAny_pyIter_tuple ht ?_)
 refine⟨_,_,_,_,_,_,_,rfl,Walks.tuple (A:=X.A.in1) (I.ok.hd hc) s.heap.objs.size p (Nat.ne_of_lt lt) (intItems ps.toArray),⟨⟨_,get?_push_size _ rfl,rfl,rfl⟩,ht.push _⟩,fun b hb=>?_,by rw[sz];exact n0,CmpOf.ints_gt (numAt ps.toArray) (fun _ _=>intItems_at),fun v h' tk hP hk=>?_⟩
 ·show b<(s.heap.push _).objs.size
  rw[Heap.size_push]
  simp only[mem_cons,not_mem_nil,or_false]at hb
  rcases hb with rfl | rfl
  ·exact Nat.lt_succ_self _
  ·exact Nat.lt_succ_of_lt lt
 have eN:(intItems ps.toArray).size - 1=ps.toArray.size - 1:=by rw[sz];simp[ln]
 rw[eN]at hP
 obtain⟨t,rfl⟩:=intItems_at hP
 have bl:argBest (fun i j=>decide (numAt ps.toArray i>numAt ps.toArray j)) (ps.toArray.size - 1)<ns.length:=by
  have:ps.toArray.size=ns.length:=by simp[ln]
  omega
 obtain⟨c1,c2⟩:=na _ bl
 have kp:∀b o,s.heap.get? b=some o→h'.get? b=some o:=fun b o e=>hk b o (fun z=>by
  have:b=s.heap.objs.size:=by simpa using z
  exact absurd (lt_size e) (by rw[this];exact Nat.lt_irrefl _)) (get?_push_of_some _ e)
 refine⟨.int (numAt ps.toArray (argBest (fun i j=>decide (numAt ps.toArray i>numAt ps.toArray j)) (ps.toArray.size - 1))),H,I.kept (t':=tk) kp,⟨_,rfl⟩,q _ (by rw[c1];exact c2) fun x hx=>?_⟩
 obtain⟨j,hj,rfl⟩:=List.mem_iff_getElem.mp hx
 have:=b2 j (by have:ps.toArray.size=ns.length:=by simp[ln]
                omega)
 rw[(na j hj).1,getD_eq_getElem?_getD,List.getElem?_eq_getElem hj]at this
 exact this
end
def TL (H:Hp)(D:Addr)(fs:List (List V)):Prop:=∃ys,H D=some (.lst ys)∧ys.length=fs.length∧∀(j:Nat) (y:V),ys[j]?=some y→∃p,y=.ref p∧H p=some (.tup (fs.getD j []))
theorem TL.same {H H':Hp}{D:Addr}{fs:List (List V)}(h:TL H D fs)(s:Same H H'):TL H' D fs:=by
 obtain⟨ys,hd,hl,hy⟩:=h
 exact⟨ys,s _ _ hd,hl,fun j y e=>by obtain⟨p,e1,e2⟩:=hy j y e;exact⟨p,e1,s _ _ e2⟩⟩
theorem TL.nil {H:Hp}{D:Addr}(h:H D=some (.lst [])):TL H D []:=⟨[],h,rfl,fun j y e=>by cases e⟩
theorem TL.push {H:Hp}{D:Addr}{fs:List (List V)}{ys:List V}{p:Addr}{x:List V}(hd:H D=some (.lst ys))(hl:ys.length=fs.length)(hy:∀(j:Nat) (y:V),ys[j]?=some y→∃p,y=.ref p∧H p=some (.tup (fs.getD j [])))(hp:H p=some (.tup x)):TL (upd H D (.lst (ys++[.ref p]))) D (fs++[x]):=by
 refine⟨_,upd_same,by simp[hl],fun j u hu=>?_⟩
 by_cases c:j<ys.length
 ·rw[getElem?_append_left c]at hu
  obtain⟨p',e1,e2⟩:=hy j u hu
  refine⟨p',e1,?_⟩
  rw[upd_ne (ne_of e2 hd (by intro z;cases z)),e2,getD_eq_getElem?_getD,getD_eq_getElem?_getD,getElem?_append_left (by omega)]
 ·have ej:j=ys.length:=by
   have:=(List.getElem?_eq_some_iff.mp hu).1
   rw[length_append,length_singleton]at this
   omega
  subst ej
  rw[getElem?_append_right (by omega),Nat.sub_self]at hu
  have eu:u=.ref p:=by simpa using hu.symm
  refine⟨p,eu,?_⟩
  rw[upd_ne (ne_of hp hd (by intro z;cases z)),hp,getD_eq_getElem?_getD,getElem?_append_right (by omega),hl,Nat.sub_self]
  rfl
theorem deep_tups {J:It}{g:TG}{te:TE}{N:St→Hp→Prop}{D:Addr}{H1:Hp}{σ0:St}(n:Nat)(f:Nat→List V)(pre:List (List V))(Sg:St→Prop)(itm:Nat→Hp→V→Prop)(hd:TL H1 D pre)(hn:pre.length+n≤sizeLine)(s0:Sg σ0)
 (items:∀i H,But D H1 H→(i<n→J.go i H∧∀x H2,J.yld i H x H2→Same H H2∧itm i H2 x)∧(n≤i→J.stop i H))
 (step:∀i x σ' H,i<n→But D H1 H→itm i H x→Sg σ'→∀R:St→V→Hp→Prop,(∀σ3 p H5,Sg σ3→Same H H5→H5 p=some (.tup (f i))→R σ3 (.ref p) H5)→g x σ' H fun σ3 H3=>te σ3 H3 (R σ3))
 (fin:∀σ' H',Sg σ'→But D H1 H'→TL H' D (pre++(List.range n).map f)→N σ' H'):cmpD J g te N D σ0 H1:=by
 refine⟨fun i m σ H=>m=n - i∧i≤n∧Sg σ∧But D H1 H∧TL H D (pre++(List.range i).map f),⟨n,by omega,Nat.zero_le _,s0,But.refl _ _,by simpa using hd⟩,?_⟩
 rintro i m σ H ⟨rfl,hi,hs,sm,hd'⟩
 by_cases hlt:i<n
 ·obtain⟨go,yl⟩:=(items i H sm).1 hlt
  refine .inr ⟨go,fun x H2 y=>?_⟩
  obtain⟨s2,im⟩:=yl x H2 y
  refine step i x σ H2 hlt (sm.trans (But.of s2)) im hs _ fun σ3 p H5 g3 s5 ep=>?_
  obtain⟨ys,e1,e2,e3⟩:=hd'.same (s2.trans s5)
  refine⟨ys,e1,by rw[e2,length_append,length_map,length_range];omega,n - (i+1),by omega,rfl,by omega,g3,((sm.trans (But.of s2)).trans (But.of s5)).trans (But.upd _),?_⟩
  have:=TL.push e1 e2 e3 ep
  rw[List.append_assoc]at this
  rw[range_succ,map_append]
  exact this
 ·have e:i=n:=by omega
  subst e
  exact .inl ⟨(items i H sm).2 (Nat.le_refl _),fin σ H hs sm hd'⟩
theorem out_tups {J:It}{g g':TG}{wi:TI}{te:TE}{Q:VK}{D:Addr}{H1:Hp}{σ0:St}(n:Nat)(f:Nat→List (List V))(Sg:St→Prop)(itm:Nat→Hp→V→Prop)(hn:∀i,i≤n→((List.range i).flatMap f).length≤sizeLine)(hD:H1 D=none)(s0:Sg σ0)
 (items:∀i H,Same H1 H→(i<n→J.go i H∧∀x H2,J.yld i H x H2→Same H H2∧itm i H2 x)∧(n≤i→J.stop i H))
 (step:∀i x σ' H pre,i<n→Same H1 H→itm i H x→Sg σ'→TL H D pre→pre.length+(f i).length≤sizeLine→∀N:St→Hp→Prop,(∀σ3 H5,Sg σ3→But D H H5→TL H5 D (pre++f i)→N σ3 H5)→g x σ' H fun σ3 H3=>wi σ3 H3 fun J' H4=>cmpD J' g' te N D σ3 H4)
 (fin:∀H',Same H1 H'→TL H' D ((List.range n).flatMap f)→Q (.ref D) H'):cmpO J g wi g' te Q D σ0 H1:=by
 refine⟨fun i m σ H=>m=n - i∧i≤n∧Sg σ∧Same H1 H∧TL H D ((List.range i).flatMap f),⟨n,by omega,Nat.zero_le _,s0,(Same.refl H1).upd_free hD _,TL.nil upd_same⟩,?_⟩
 rintro i m σ H ⟨rfl,hi,hs,sm,hd⟩
 by_cases hlt:i<n
 ·obtain⟨go,yl⟩:=(items i H sm).1 hlt
  refine .inr ⟨go,fun x H2 y=>?_⟩
  obtain⟨s2,im⟩:=yl x H2 y
  have l:=hn (i+1) hlt
  rw[range_succ,flatMap_append,length_append,flatMap_singleton]at l
  refine step i x σ H2 _ hlt (sm.trans s2) im hs (hd.same s2) l _ fun σ3 H5 g3 b5 h5=>?_
  refine⟨n - (i+1),by omega,rfl,by omega,g3,fun b o e=>?_,by rw[range_succ,flatMap_append,flatMap_singleton];exact h5⟩
  exact b5 _ _ (ne_of_none e hD) (s2 _ _ (sm _ _ e))
 ·have e:i=n:=by omega
  subst e
  exact .inl ⟨(items i H sm).2 (Nat.le_refl _),fin H sm hd⟩
theorem ps_compO {X:Cx}{elt tg iter tg' iter':Expr}{scope:Scope}{pos pos' spos:Pos}{N:List Str}{nt:Nat}{js:List Nat}{sc:Scope}{N0:List Str}{wi wi':TI}{g g':TG}{te:TE}{ii:Nat}{nm:Str}
 (hNd:X.N.Nodup) (hii:X.N[ii]?=some nm) (hloc:Loc X.env.scope nm)
 (hc:X.calm=true) (hsc:X.env.scope=sc) (hN:X.N=N0) (B:Blk sc N0 N nt js scope) (hi:PI X tg iter wi)
 (hg:∀cl C s H fp,PG (blk X N scope cl C s H fp) tg g) (hi':∀cl C s H fp,PI (blk X N scope cl C s H fp) tg' iter' wi') (hg':∀cl C s H fp,PG (blk X N scope cl C s H fp) tg' g') (he:∀cl C s H fp,PE (blk X N scope cl C s H fp) elt te)
 (hsw:swapsWith (.ListComp elt [⟨tg,iter,[],0⟩,⟨tg',iter',[],0⟩] scope pos) (some (.Name nm pos')) spos.line X.env=pure true:=by rfl)
 (hf:X.fn nm=true∨X.env.scope.names.lookup nm=some .local:=by first | exact .inl rfl | exact .inr rfl | assumption)
 (hs:∀x,foldedSetIterable iter X.env x=pure x:=by intro _;rfl) (hs':∀env x,foldedSetIterable iter' env x=pure x:=by intro _ _;rfl):PS X (.Assign [.Name nm pos'] (.ListComp elt [⟨tg,iter,[],0⟩,⟨tg',iter',[],0⟩] scope pos) spos) (tSetC ii (tComp2 nt js wi g wi' g' te)):=by
 subst hsc hN
 intro pins s σ H D I h
 obtain⟨cl,hcl,c1,c2⟩:=clos_of (env:=X.env) (scope:=scope) fun y hy hk=>I.ok.has y.1 (B.cap y hy hk)
 rw[PySem.exec_Assign_Name_used _ _ _ _ hsw]
 refine wpAny_bind (wpAny_standAt (wpAny_bind ?_))
 show wpAny _ _ (comprehension _ scope X.env _ _ _ _ (some (assign (.Name nm pos') X.env)) >>= _) _ _ _
 refine wpAny_bind (thn (Q:=fun _ s'=>∃σ' H',Inv X pins σ' H' s'∧D.nx σ' H') ?_ fun _ s9 q9=>wpAny_pure (wpAny_pure q9))
 refine wpAny_comprehension_free (use:=some (assign (.Name nm pos') X.env)) rfl hs hcl B.kind B.loc (thn (hi pins s σ H _ I h) fun v s1 q1=>thn q1 fun itv s2 q2=>?_)
 obtain⟨it,fp,tn,J,H2,e,I2,T,st2,f2,q2⟩:=q2
 subst e
 obtain⟨W,⟨m0,w0⟩,turn⟩:=q2 s2.heap.objs.size (I2.hok.fresh (Nat.le_refl _))
 have hlt:∀b∈fp,b<s2.heap.objs.size:=fun b hb=>by
  obtain⟨o,eo,_⟩:=T.obj _ _ st2 b hb
  exact lt_size eo
 refine wpAny_newObj_type (wpAny_newFunctionEnv B.nocell (by intro y hy;simp at hy) (fun h1 hns hsb=>?_) B.kind)
 dsimp only at hns hsb ⊢
 have hsz:(s2.heap.push {cls:=.type "list",dict:=none,data:=.seq ([]:List Value).toArray}).objs.size=s2.heap.objs.size+1:=by rw[Heap.size_push]
 have old:∀b o,s2.heap.get? b=some o→h1.get? b=some o:=fun b o eb=>hsb.extBut b o (by rw[hsz];exact Nat.ne_of_lt (Nat.lt_succ_of_lt (lt_size eb))) (get?_push_of_some _ (get?_push_of_some _ eb))
 have hD:h1.get? s2.heap.objs.size=some {cls:=.type "list",data:=.seq ([]:List Value).toArray 0}:=hsb.extBut _ _ (by rw[hsz];exact Nat.ne_of_lt (Nat.lt_succ_self _)) (get?_push_of_some _ (get?_push_size _ rfl))
 rw[hsz]at hns
 have I3:=blk_start (cl:=cl) (fp:=fp) (tk:=s2.toks+([]:List (Str×Value)).length) I2 B c1 c2 f2 hlt old (show h1.Ns (s2.heap.objs.size+1) fun _=>none from hns) hD
 have stat:∀{H':Hp},(∀b∈fp,H' b=none)→∀b∈fp,FpOk (blk X N scope cl (s2.heap.objs.size+1) s2 H2 fp) [] H' b:=fun{H'} hn b hb=>
  ⟨hn b hb,Nat.ne_of_lt (Nat.lt_succ_of_lt (hlt b hb)),fun z=>(mem_cons.mp (I2.stkSub b z)).elim (f2 b hb).2.1 (f2 b hb).2.2.1,.inl hb,fun x c ec=>(f2 b hb).2.2.2.2.1 x c (c1 x c ec),fun p hp=>absurd (show p∈([]:List (Addr×Obj)) from hp) (by simp)⟩
 have fin:∀{i:Nat} {σ':St} {H':Hp} {s':Shared},Inv (blk X N scope cl (s2.heap.objs.size+1) s2 H2 fp) [] σ' H' s'→D.nx (σ.set ii (some (.ref s2.heap.objs.size))) H'→
  compPost (model X.prog X.w) X.A X.xe (some (assign (.Name nm pos') X.env)) (fun _ s'=>∃σ' H',Inv X pins σ' H' s'∧D.nx σ' H') (.ref s2.heap.objs.size) (s2.heap.objs.size+1) (.ok .next) s':=fun{i σ' H' s'} Ib q=>by
  obtain⟨m,hn,_⟩:=id Ib.loc
  have I4:Inv X pins σ H' s':=I2.call' Ib.os Ib.base Ib.hok Ib.bare fun b hb=>⟨(f2 b hb).2.2.2.1,(f2 b hb).2.1,(f2 b hb).2.2.2.2.1,(f2 b hb).2.2.2.2.2⟩
  obtain⟨g0,g1,g2,g3,g4,g5⟩:=I2.fpOk (H':=H') (Nat.le_succ _) Ib.free
  show wpAny _ _ (assign (.Name nm pos') X.env (.ref s2.heap.objs.size)) _ _ _
  refine wpAny_bind (wpAny_standAt (wpAny_bindName (store_ok2 I4 hNd hii hloc (v:=.ref s2.heap.objs.size) rfl (fun s5 I5 ⟨a,sb,ha⟩=>?_) hf)))
  have na:s2.heap.objs.size+1≠a:=by
   rcases ha with rfl | ha
   ·exact g1
   ·exact fun z=>g4 _ _ ha z.symm
  refine⟨m,hn.sameBut sb na,fun h'' hs''=>?_⟩
  exact⟨_,H',I5.turned (t':=s5.toks) (fun b o hb eb=>hs''.extBut b o hb eb) g0 g1 g3 g4 g5,q⟩
 have loop:codeAny (model X.prog X.w) X.A (.compLoop (.ListComp elt [⟨tg,iter,[],0⟩,⟨tg',iter',[],0⟩] scope pos) 0 (.ref it) (.ref s2.heap.objs.size) (compEnvC scope cl (s2.heap.objs.size+1) X.env))
  (compPost (model X.prog X.w) X.A X.xe (some (assign (.Name nm pos') X.env)) (fun _ s'=>∃σ' H',Inv X pins σ' H' s'∧D.nx σ' H') (.ref s2.heap.objs.size) (s2.heap.objs.size+1)) {s2 with heap:=h1,toks:=s2.toks+([]:List (Str×Value)).length}:=by
  refine out_turns (hs' _) (fun n s'=>∃i σ' H',Inv (blk X N scope cl (s2.heap.objs.size+1) s2 H2 fp) [] σ' H' s'∧tn i s'.heap∧(∀b∈fp,H' b=none)∧W i n σ' H') ?_ m0
   ⟨0,_,_,I3,T.keep _ _ _ st2 fun b _ o eb=>old b o eb,fun b hb=>?_,w0⟩
  ·rintro n s3 ⟨i,σ3,H3,J3,st3,fr3,w3⟩
   rcases turn i n σ3 H3 w3 with⟨stop,qn⟩ | ⟨go,step⟩
   ·refine thn (T.done (blk X N scope cl (s2.heap.objs.size+1) s2 H2 fp) rfl rfl rfl hc i [] s3 σ3 H3 _ J3 (stat fr3) st3 stop) fun r s4 ⟨hr,I4⟩=>?_
    subst hr
    exact fin (i:=i) I4 qn
   ·refine thn (T.item (blk X N scope cl (s2.heap.objs.size+1) s2 H2 fp) rfl rfl rfl hc i [] s3 σ3 H3 _ J3 (stat fr3) st3 go) fun r s4 ⟨u,hr,h4⟩=>?_
    subst hr
    refine thn h4 fun _ s5 ⟨x,H5,I5,r5,y5,st5,fr5⟩=>?_
    have I5':=I5.pinned (stat fr5) (T.obj _ _ st5)
    refine thn (hg _ _ _ _ _ _ s5 σ3 H5 x u _ I5' r5 (step x H5 y5)) fun _ s6 ⟨σ6,H6,I6,q6⟩=>?_
    refine thn (deep_code (Y:=blk X N scope cl (s2.heap.objs.size+1) s2 H2 fp) (g0:=⟨tg,iter,[],0⟩) (scope:=scope) (pos:=pos) hc (hi' _ _ _ _ _) (hg' _ _ _ _ _) (he _ _ _ _ _) rfl I6 q6) fun x4 s7 q7=>thn q7 fun i4 s8 q8=>codeAny_mono q8 fun r s9 ⟨hr,σ9,H9,I9,k,hk,w9⟩=>⟨hr,k,hk,i+1,σ9,H9,I9.unpinned,T.keep _ _ _ st5 fun b hb o eb=>(I9.pin (b,o) (mem_append_right _ (mem_append_right _ (mem_pinsAt hb eb)))).1,fun b hb=>?_,w9⟩
    obtain⟨o,eb,_⟩:=T.obj _ _ st5 b hb
    exact(I9.pin (b,o) (mem_append_right _ (mem_append_right _ (mem_pinsAt hb eb)))).2.1
  ·show upd H2 _ _ b=none
   rw[upd_ne (Nat.ne_of_lt (hlt b hb))]
   exact(f2 b hb).1
 rw[hsz]
 exact codeAny_compStart_list loop (T.self _ 0 _ _ _ (T.keep _ _ _ st2 fun b _ o eb=>old b o eb) loop)
theorem pt_truthW {X:Cx}{a:Expr}{ta:TE}(K:W.Frag)(hK:X.K=K)(ha:PE X a ta)(he:∀whole,isTrue a X.env whole=(do let v ←whole;standAt a.pos;holding [v] (truthy v))):PT X a (fun σ H Q=>ta σ H fun x H'=>∃k,TruV K x H' k∧Q k H'):=by
 subst hK
 exact pt_truth ha he
theorem op_catW {X:Cx}(K:W.Frag)(hK:X.K=K):OpR X (binaryOp .Add) (rCatA K):=by
 subst hK
 exact op_catA
section
variable {X:Cx}{elt iter iter':Expr}{scope:Scope}{pos pos' spos:Pos}{N:List Str}{js:List Nat}{sc:Scope}{N0:List Str}{wi wi':TI}{te:TE}{x z nm:Str}{px pz:Pos}{ii:Nat}
theorem ps_compO1 (hNd:X.N.Nodup)(hii:X.N[ii]?=some nm)(hloc:Loc X.env.scope nm)(hc:X.calm=true)(hsc:X.env.scope=sc)(hN:X.N=N0)(B:Blk sc N0 (x::z::N) 2 js scope)(hx:scope.names.lookup x=some .local)(hz:scope.names.lookup z=some .local)(hi:PI X (.Name x px) iter wi)
 (hi':∀cl C s H fp,PI (blk X (x::z::N) scope cl C s H fp) (.Name z pz) iter' wi') (he:∀cl C s H fp,PE (blk X (x::z::N) scope cl C s H fp) elt te)
 (hsw:swapsWith (.ListComp elt [⟨.Name x px,iter,[],0⟩,⟨.Name z pz,iter',[],0⟩] scope pos) (some (.Name nm pos')) spos.line X.env=pure true:=by rfl)
 (hf:X.fn nm=true∨X.env.scope.names.lookup nm=some .local:=by first | exact .inl rfl | exact .inr rfl | assumption)
 (hs:∀x,foldedSetIterable iter X.env x=pure x:=by intro _;rfl) (hs':∀env x,foldedSetIterable iter' env x=pure x:=by intro _ _;rfl) :
 PS X (.Assign [.Name nm pos'] (.ListComp elt [⟨.Name x px,iter,[],0⟩,⟨.Name z pz,iter',[],0⟩] scope pos) spos) (tSetC ii (tComp2 2 js wi (gName 0) wi' (gName 1) te)):=
 ps_compO hNd hii hloc hc hsc hN B hi (fun cl C s H fp=>pg_name (i:=0) B.nd rfl (.inl (blk_loc hx)) (.inr (blk_loc hx))) hi' (fun cl C s H fp=>pg_name (i:=1) B.nd rfl (.inl (blk_loc hz)) (.inr (blk_loc hz))) he hsw hf hs hs'
end
def De (H:Hp):Nat→V→V→Prop
 |0,x,y=>∃i:Int,x=.int i∧y=.int i
 |n+1,x,y=>De H n x y∨∃(a b:Addr) (xs ys:List V),x=.ref a∧y=.ref b∧H a=some (.tup xs)∧H b=some (.tup ys)∧xs.length=ys.length∧∀(j:Nat) (u v:V),xs[j]?=some u→ys[j]?=some v→De H n u v
section
variable {X:Cx}
theorem de_eqAt {pins:List (Addr×Obj)}{s:Shared}{σ:St}{H:Hp}(I:Inv X pins σ H s):∀(n:Nat) {A:Around} {x y:V} {u v:Value},A.units+n<cLine→De H n x y→RelV x u→RelV y v→SeqAt.EqAt A s u v true
 |0,A,x,y,u,v,_,d,r1,r2=>by
  obtain⟨i,rfl,rfl⟩:=d
  obtain⟨t,rfl⟩:=(show ∃t,u=Value.int i t from r1)
  obtain⟨t',rfl⟩:=(show ∃t,v=Value.int i t from r2)
  have:=SeqAt.EqAt.int_int (A:=A) (s:=s) i t i t'
  rw[beq_self_eq_true]at this
  exact this
 |n+1,A,x,y,u,v,hu,d,r1,r2=>by
  rcases d with d | ⟨a,b,xs,ys,rfl,rfl,ha,hb,hl,hd⟩
  ·exact de_eqAt I n (by omega) d r1 r2
  cases(show u=Value.ref a from r1)
  cases(show v=Value.ref b from r2)
  by_cases e:a=b
  ·subst e
   exact SeqAt.EqAt.same _
  obtain⟨_,i1,s1,q1⟩:=I.hok a _ ha
  obtain⟨_,i2,s2,q2⟩:=I.hok b _ hb
  have z1:=s1.length
  have z2:=s2.length
  have e3:=SeqAt.RcAt.tuples (A:=A) (s:=s) (e:=fun _=>true) (show s.heap.IsTuple a i1.toArray from q1) (show s.heap.IsTuple b i2.toArray from q2) (by omega) fun j h1 h2=>by
   simp only[size_toArray]at h1 h2
   have g1:=List.getElem?_eq_getElem (show j<xs.length by omega)
   have g2:=List.getElem?_eq_getElem (show j<ys.length by omega)
   obtain⟨w1,f1,p1⟩:=s1.get g1
   obtain⟨w2,f2,p2⟩:=s2.get g2
   have a1:i1.toArray[j]'(by simpa using h1)=w1:=by
    have:=(List.getElem?_eq_some_iff.mp f1).2
    simpa using this
   have a2:i2.toArray[j]'(by simpa using h2)=w2:=by
    have:=(List.getElem?_eq_some_iff.mp f2).2
    simpa using this
   rw[a1,a2]
   exact de_eqAt I n (A:=A.in1) (by show A.units+1+n<cLine;omega) (hd j _ _ g1 g2) p1 p2
  refine SeqAt.EqAt.of_refs e ?_
  have e4:((List.range (min i1.toArray.size i2.toArray.size)).all (fun _=>true)&&i1.toArray.size==i2.toArray.size)=true:=by
   simp only[size_toArray]
   rw[←z1,←z2,hl,beq_self_eq_true,Bool.and_true]
   exact all_eq_true.mpr fun _ _=>rfl
  rw[e4]at e3
  exact e3
end
open PySem.W
section
variable {X:Cx}{pins:List (Addr×Obj)}{σ:St}{H H':Hp}{s:Shared}{h':Heap}
theorem Inv.laids {t':Nat}(I:Inv X pins σ H s)(k:∀b u,s.heap.get? b=some u→h'.get? b=some u)(sm:Same H H')(new:∀b o,H' b=some o→H b=none→s.heap.objs.size≤b∧ObjOk X.prog X.w H' h' b o):Inv X pins σ H' {s with heap:=h',toks:=t'}:=by
 refine I.un ⟨fun b o e _ _ _=>k b o e,fun b o e _ _ _=>⟨o.slots,k b o e⟩,fun b o e n _=>?_,fun b o e _=>⟨o,k b o e⟩,fun b xs e=>sm _ _ e,fun b o u e=>sm _ _ e,fun b ps e=>⟨#[],by rw[sm _ _ e];simp⟩⟩ fun b u e=>?_
 ·cases q:H' b with
  |none=>rfl
  |some u=>exact absurd (lt_size e) (Nat.not_lt.mpr (new b u q n).1)
 ·cases q:H b with
  |none=>exact(new b u e q).2
  |some u'=>
   rw[sm _ _ q]at e
   cases e
   exact(I.hok b _ q).stay (fun c v _ z=>k c v z) (fun c z=>sm _ _ z) fun c xs z=>sm _ _ z
end
def viewO (d:Addr):Obj:={cls:=.type "dict_items",data:=.fields #[.ref d]}
theorem lx_irr:∀x:List Int,HT.lexLt x x=false
 |[]=>rfl
 |a::x=>by rw[HT.lexLt_cons,if_pos rfl];exact lx_irr x
theorem lx_trans:∀{x y z:List Int},HT.lexLt x y=true→HT.lexLt y z=true→HT.lexLt x z=true
 |[],[],_,h,_=>by cases h
 |[],_::_,[],_,h=>by cases h
 |[],_::_,_::_,_,_=>rfl
 |_::_,[],_,h,_=>by cases h
 |_::_,_::_,[],_,h=>by cases h
 |a::x,b::y,c::z,h1,h2=>by
  rw[HT.lexLt_cons]at h1 h2 ⊢
  by_cases ab:a=b
  ·rw[if_pos ab]at h1
   subst ab
   by_cases ac:a=c
   ·rw[if_pos ac]at h2 ⊢
    exact lx_trans h1 h2
   ·rw[if_neg ac]at h2 ⊢
    exact h2
  ·rw[if_neg ab]at h1
   have h1:=of_decide_eq_true h1
   by_cases bc:b=c
   ·subst bc
    rw[if_neg ab]
    exact decide_eq_true h1
   ·rw[if_neg bc]at h2
    have h2:=of_decide_eq_true h2
    rw[if_neg (by omega)]
    exact decide_eq_true (by omega)
theorem lx_tri:∀{x y:List Int},x≠y→HT.lexLt x y=false→HT.lexLt y x=true
 |[],[],n,_=>absurd rfl n
 |[],_::_,_,h=>by cases h
 |_::_,[],_,_=>rfl
 |a::x,b::y,n,h=>by
  rw[HT.lexLt_cons]at h ⊢
  by_cases ab:a=b
  ·subst ab
   rw[if_pos rfl]at h ⊢
   exact lx_tri (fun e=>n (by rw[e])) h
  ·rw[if_neg ab]at h
   rw[if_neg (fun e=>ab e.symm)]
   have:=of_decide_eq_false h
   exact decide_eq_true (by omega)
def rnk (L:List (List Int))(x:List Int):Int:=((L.countP fun y=>HT.lexLt y x:Nat):Int)
theorem rnk_le (L:List (List Int)){x y:List Int}(h:HT.lexLt x y=true):rnk L x≤rnk L y:=by
 have:L.countP (fun z=>HT.lexLt z x)≤L.countP (fun z=>HT.lexLt z y):=List.countP_mono_left fun z _ hz=>lx_trans hz h
 unfold rnk
 omega
theorem rnk_lt {L:List (List Int)}{x y:List Int}(hx:x∈L)(h:HT.lexLt x y=true):rnk L x<rnk L y:=by
 obtain⟨a,b,rfl⟩:=List.append_of_mem hx
 have e:∀z,rnk (a++x::b) z=rnk a z+rnk b z+if HT.lexLt x z then 1 else 0:=fun z=>by
  unfold rnk
  rw[List.countP_append,List.countP_cons]
  split<;>simp_all<;>omega
 have h1:=rnk_le a h
 have h2:=rnk_le b h
 rw[e x,e y,lx_irr,h]
 simp
 omega
theorem rnk_iff {L:List (List Int)}{x y:List Int}(hx:x∈L)(hy:y∈L):decide (rnk L x<rnk L y)=HT.lexLt x y:=by
 by_cases e:x=y
 ·subst e
  rw[lx_irr]
  exact decide_eq_false (by omega)
 ·cases h:HT.lexLt x y with
  |true=>exact decide_eq_true (rnk_lt hx h)
  |false=>
   have:=rnk_lt hy (lx_tri e h)
   exact decide_eq_false (by omega)
theorem rnk_inj {L:List (List Int)}{x y:List Int}(hx:x∈L)(hy:y∈L)(h:rnk L x=rnk L y):x=y:=by
 by_cases e:x=y
 ·exact e
 ·cases z:HT.lexLt x y with
  |true=>have:=rnk_lt hx z;omega
  |false=>have:=rnk_lt hy (lx_tri e z);omega
def NestAt (h:Heap)(v:Value)(t:List Int)(b:Int):Prop:=∃(x:Addr) (o:Obj) (k:Nat) (p:Addr) (u:Tok) (its:List Value),v=.ref x∧h.get? x=some o∧o.cls=.type "tuple"∧o.data=.seq #[.ref p,.int b u] k∧IsTup h p its.toArray∧Vals (t.map V.int) its
theorem NestAt.old {h h':Heap}{v:Value}{t:List Int}{b:Int}(n:NestAt h v t b)(k:∀(x:Addr) (o:Obj),h.get? x=some o→o.cls≠.type "list"→h'.get? x=some o):NestAt h' v t b:=by
 obtain⟨x,o,m,p,u,its,e,hx,hc,hd,⟨o2,h2,c2,d2⟩,hi⟩:=n
 exact⟨x,o,m,p,u,its,e,k _ _ hx (by rw[hc];simp),hc,hd,⟨o2,k _ _ h2 (by rw[c2];simp),c2,d2⟩,hi⟩
section
variable {prog:Program}{w:World}{A:Around}{E:Value→Shared→Prop}{s:Shared}
theorem sort_by {a:Addr}{vs:List Value}{key:Nat→Int}{kd:SortKind}{n:Nat}{Fi:PySem.Fin→Shared→Prop}(ho:s.heap.get? a=some (seqObj "list" vs.toArray n))(h64:vs.length<64)
 (hkind:∀h6:Heap,(∀(x:Addr) (o:Obj),s.heap.get? x=some o→o.cls≠.type "list"→h6.get? x=some o)→2≤vs.length→∀Q:SortKind→Shared→Prop,Q kd {s with heap:=h6}→wpAny (model prog w) A (keyKind' vs.toArray) Q E {s with heap:=h6})
 (told0:∀h6:Heap,(∀(x:Addr) (o:Obj),s.heap.get? x=some o→o.cls≠.type "list"→h6.get? x=some o)→Told (kas_ask prog w A kd vs) key (fun s'=>s'={s with heap:=h6}) vs.length)
 (inj:∀i j,i<vs.length→j<vs.length→key i=key j→i=j) (h:∀p,Pm vs.length p→Up key p vs.length→Fi (.done (.ret .none)) {s with heap:=sortedHeap s.heap a vs (pOut p vs)}) :
 wpAny (model prog w) A (Builtin.«list.sort» ⟨[.ref a],[]⟩) Fi E s:=by
 have ha:a<s.heap.objs.size:=lt_size ho
 have emptied:=get?_update_seq ho fun _=>(#[]:Array Value)
 obtain⟨ep,ho1⟩:∃ep,(s.heap.update a (Obj.mapSeq fun _=>(#[]:Array Value))).get? a=some (seqObj "list" #[] ep):=⟨_,emptied⟩
 generalize hh:((s.heap.update a (Obj.mapSeq fun _=>(#[]:Array Value))).push (seqObj "tuple" vs.toArray 0)).push (seqObj "list" #[] 0)=h6
 have ho6:h6.get? a=some (seqObj "list" #[] ep):=by rw[←hh];exact get?_push_of_some _ (get?_push_of_some _ ho1)
 have old:∀(x:Addr) (o:Obj),s.heap.get? x=some o→o.cls≠.type "list"→h6.get? x=some o:=fun x o e ne=>by
  have nx:x≠a:=fun z=>by rw[z,ho]at e;cases e;exact ne rfl
  rw[←hh]
  exact get?_push_of_some _ (get?_push_of_some _ (by rw[Heap.get?_update_ne _ _ _ _ nx];exact e))
 have last:∀(out:Array Value) (f:Option Value),f=none→out.size≤sizeLine+1→Fi (.done (.ret .none)) {s with heap:=sortedHeap s.heap a vs out}→Fi (.done (.ret .none)) {s with heap:=h6.update a (Obj.mapSeq fun _=>out)}:=fun out f _ _ z=>by
  rw[←hh];exact z
 have szv:vs.length≤sizeLine:=by rw[sizeLine_eq];omega
 rw[list_sort_plain]
 refine wpAny_bind (listItems_at ho rfl (wpAny_bind (listUpdate_at ho rfl (wpAny_bind (seqEpoch_at ho1 rfl (wpAny_bind (wpAny_newTuple (wpAny_bind (wpAny_newList (wpAny_holding ?_) (Nat.zero_le _))) szv)))) (by rw[size_toArray];exact szv) (Nat.zero_le _))))
 simp only[]
 rw[hh]
 have size_of:∀p,Pm vs.length p→(pOut p vs).size=vs.length:=fun p hp=>by
  unfold pOut
  rw[size_toArray,length_map,length_toList,hp.size]
 by_cases c:vs.toArray.size<2
 ·rw[if_pos c,if_pos c]
  refine wpAny_bind (wpAny_pure ?_)
  rw[StateT.run_pure]
  refine wpAny_bind (wpAny_pure ?_)
  dsimp only
  have hp:Pm vs.length (List.range vs.length).toArray:=⟨by simp⟩
  have eo:(arrOf (SortSt.mk' general' (vs.toArray.zip vs.toArray) #[] 7 none)).map (·.2)=pOut (List.range vs.length).toArray vs:=by
   show(vs.toArray.zip vs.toArray).map (·.2)=_
   unfold pOut
   apply toList_inj.mp
   apply ext_getElem?
   intro i
   simp
   by_cases z:i<vs.length
   ·simp[z]
   ·simp[z]
  rw[eo]
  refine wpAny_bind (seqEpoch_at ho6 rfl (wpAny_bind (listUpdate_at ho6 rfl ?_ (Nat.zero_le _) (by rw[size_of _ hp];omega))))
  simp only[bne_self_eq_false,false_eq_true,if_false]
  refine wpAny_pure (last _ none rfl (by rw[size_of _ hp];omega) (h _ hp fun j h1 h2=>?_))
  rw[size_toArray]at c
  omega
 ·rw[if_neg c,if_neg c]
  rw[size_toArray]at c
  refine wpAny_bind (hkind h6 old (by omega) _ ?_)
  have told:=told0 h6 old
  refine wpAny_bind (wpAny_mono (kat_run (Q:=fun st' s'=>∃p:Array Nat,arrOf st'=p.map (kas_item (vs.toArray.zip vs.toArray))∧failedOf st'=none∧s'={s with heap:=h6}∧Pm vs.length p∧Up key p vs.length)
   rfl (by omega) h64 (fun p st' s' _ a2 a3 a4=>⟨p,a2,a3,a4⟩) (go_sort told (by omega) inj rfl fun p s' hs hp up=>⟨hs,hp,up⟩)) ?_ fun _ _ e=>e)
  rintro⟨⟨⟩,st'⟩ s' ⟨p,har,hf,rfl,hp,up⟩
  dsimp only
  have eo:(arrOf st').map (·.2)=pOut p vs:=kat_snds rfl har
  rw[eo]
  refine wpAny_bind (seqEpoch_at ho6 rfl (wpAny_bind (listUpdate_at ho6 rfl ?_ (Nat.zero_le _) (by rw[size_of _ hp];omega))))
  rw[hf]
  simp only[bne_self_eq_false,false_eq_true,if_false]
  exact wpAny_pure (last _ none rfl (by rw[size_of _ hp];omega) (h p hp up))
theorem ints_of_vals:∀{t t':List Int} {its:List Value},Vals (t.map V.int) its→Vals (t'.map V.int) its→t=t'
 |[],[],_,_,_=>rfl
 |[],_::_,_,h,h'=>by cases h;cases h'
 |_::_,[],_,h,h'=>by cases h';cases h
 |a::t,b::t',_,.cons x r,h'=>by
  cases h' with
  |cons y r'=>
   obtain⟨k,rfl⟩:=int_val x
   obtain⟨k',e⟩:=int_val y
   injection e with e1 _
   rw[e1,ints_of_vals r r']
theorem nest_lt {v v':Value}{t t':List Int}{b b':Int}{Q:Bool→Shared→Prop}(hu:A.units<cLine)(h:NestAt s.heap v t b)(h':NestAt s.heap v' t' b')(e:t=t'→b=b')(q:Q (HT.lexLt t t') s):wpAny (model prog w) A (keyLt' (tuples' false) v v') Q E s:=by
 obtain⟨x,o,k,p,u,its,rfl,ho,hc,hd,hp,hi⟩:=h
 obtain⟨x',o',k',p',u',its',rfl,ho',hc',hd',hp',hi'⟩:=h'
 have l1:=hi.length
 have l2:=hi'.length
 rw[length_map]at l1 l2
 have eq:SeqAt.EqAt A s (.ref p) (.ref p') (decide (t=t')):=by
  by_cases pp:p=p'
  ·subst pp
   have et:t=t':=by
    obtain⟨o1,g1,_,n1,d1⟩:=hp
    obtain⟨o2,g2,_,n2,d2⟩:=hp'
    rw[g1]at g2
    cases g2
    rw[d1]at d2
    have e3:its=its':=by
     have z:its.toArray=its'.toArray:=(Data.seq.inj d2).1
     simpa using congrArg Array.toList z
    subst e3
    exact ints_of_vals hi hi'
   rw[decide_eq_true et]
   exact SeqAt.EqAt.same _
  ·have:=SeqAt.EqAt.of_refs pp (SeqAt.RcAt.tuples (A:=A) (s:=s) (show s.heap.IsTuple p its.toArray from hp) (show s.heap.IsTuple p' its'.toArray from hp') hu (ints_eqAt hi hi'))
   simp only[size_toArray]at this
   rw[←l1,←l2,all_same]at this
   exact this
 refine kat_lt ho hd ho' hd' (kat_cons (eq prog w _ _ (kat_go (fun z=>kat_yes (kat_cons (wpAny_eqBool_int (kat_go (fun z2=>kat_yes (kat_nil ?_)) fun z2=>?_)))) fun z=>kat_no ?_)))
 ·have et:t=t':=of_decide_eq_true z
  rw[et,lx_irr]at q
  exact q
 ·have et:t=t':=of_decide_eq_true z
  have:=e et
  simp[this]at z2
 ·exact kat_one _ _ (HT.lt_tupInts hp hp' (intsAre_of hi) (intsAre_of hi') hu q)
theorem nests_of {vs:List Value}{ks:List (List Int×Int)}(hl:vs.length=ks.length)(h:∀(i:Nat) v k,vs[i]?=some v→ks[i]?=some k→NestAt s.heap v k.1 k.2):∃fs:List Value,KatTups s.heap vs fs∧fs.length=vs.length∧∀f∈fs,∃(p:Addr) (o:Obj),f=.ref p∧s.heap.get? p=some o∧o.cls=.type "tuple":=by
 induction vs generalizing ks with
 |nil=>exact⟨[],.nil,rfl,fun f hf=>absurd hf not_mem_nil⟩
 |cons v vs ih=>
  cases ks with
  |nil=>simp at hl
  |cons k ks=>
   obtain⟨fs,a,b,c⟩:=ih (ks:=ks) (by simpa using hl) fun i v' k' x y=>h (i+1) v' k' x y
   obtain⟨x,o,m,p,u,its,rfl,ho,hc,hd,⟨o2,g2,c2,_⟩,_⟩:=h 0 v k rfl rfl
   refine⟨.ref p::fs,.cons ho hc hd rfl a,by simp[b],fun f hf=>?_⟩
   rcases mem_cons.mp hf with rfl | z
   ·exact⟨_,_,rfl,g2,c2⟩
   ·exact c f z
theorem sort_nest {a:Addr}{vs:List Value}{ks:List (List Int×Int)}{n:Nat}{Fi:PySem.Fin→Shared→Prop}(hu:A.units<cLine)(ho:s.heap.get? a=some (seqObj "list" vs.toArray n))(hl:vs.length=ks.length)(hP:∀(i:Nat) v k,vs[i]?=some v→ks[i]?=some k→NestAt s.heap v k.1 k.2)
 (nd:(ks.map (·.1)).Nodup) (h64:vs.length<64) (h:∀p,Pm vs.length p→Up (fun i=>rnk (ks.map (·.1)) (ks.getD i ([],0)).1) p vs.length→Fi (.done (.ret .none)) {s with heap:=sortedHeap s.heap a vs (pOut p vs)}) :
 wpAny (model prog w) A (Builtin.«list.sort» ⟨[.ref a],[]⟩) Fi E s:=by
 have mem:∀k,k<vs.length→(ks.getD k ([],0)).1∈ks.map (·.1):=fun k hk=>by
  rw[getD_eq_getElem?_getD,List.getElem?_eq_getElem (by omega:k<ks.length)]
  exact mem_map_of_mem (getElem_mem _)
 have one:∀i j,i<vs.length→j<vs.length→(ks.getD i ([],0)).1=(ks.getD j ([],0)).1→i=j:=fun i j hi hj e=>by
  have pw:=pairwise_iff_getElem.mp nd
  have g:∀k,k<vs.length→∃h:k<(ks.map (·.1)).length,(ks.map (·.1))[k]=(ks.getD k ([],0)).1:=fun k hk=>by
   have hk':k<ks.length:=by omega
   refine⟨by rw[length_map];exact hk',?_⟩
   rw[List.getElem_map,getD_eq_getElem?_getD,List.getElem?_eq_getElem hk']
   rfl
  obtain⟨a1,b1⟩:=g i hi
  obtain⟨a2,b2⟩:=g j hj
  rcases Nat.lt_trichotomy i j with z | z | z
  ·exact absurd (by rw[b1,b2];exact e) (pw i j a1 a2 z)
  ·exact z
  ·exact absurd (by rw[b1,b2];exact e.symm) (pw j i a2 a1 z)
 refine sort_by (key:=fun i=>rnk (ks.map (·.1)) (ks.getD i ([],0)).1) (kd:=tuples' false) ho h64 (fun h6 old h2 Q q=>?_) (fun h6 old i j C s' hi hj hs q=>?_) (fun i j hi hj e=>one i j hi hj (rnk_inj (mem i hi) (mem j hj) e)) h
 ·obtain⟨fs,ft,fl,fi⟩:=nests_of (s:={s with heap:=h6}) hl fun i v k e1 e2=>(hP i v k e1 e2).old old
  refine kat_kind (T:=.type "tuple") ft (by omega) (fun v hv=>?_) (by decide) ?_
  ·obtain⟨p,o,rfl,g,c⟩:=fi v hv
   have z:Looks (model prog w) h6 (typeOf (.ref p)) o.cls:=(Looks.ld g).andThen .now
   rw[c]at z
   exact z
  ·exact q
 ·subst hs
  have at_:∀k,k<vs.length→NestAt h6 (vs.getD k Value.none) (ks.getD k ([],0)).1 (ks.getD k ([],0)).2:=fun k hk=>by
   have hk':k<ks.length:=by omega
   have:=(hP k _ _ (List.getElem?_eq_getElem hk) (List.getElem?_eq_getElem hk')).old old
   rw[getD_eq_getElem?_getD,getD_eq_getElem?_getD,List.getElem?_eq_getElem hk,List.getElem?_eq_getElem hk']
   exact this
  have z:=q _ rfl
  rw[rnk_iff (mem i hi) (mem j hj)]at z
  exact nest_lt hu (at_ i hi) (at_ j hj) (fun e=>by rw[one i j hi hj e]) z
end
def Nsts (H:Hp)(xs:List V)(bl:List (List Int×Int)):Prop:=xs.length=bl.length∧∀(j:Nat) (b:List Int×Int),bl[j]?=some b→∃p q:Addr,xs[j]?=some (.ref p)∧H p=some (.tup [.ref q,.int b.2])∧H q=some (.tup (b.1.map V.int))
theorem Nsts.same {H H':Hp}{xs:List V}{bl:List (List Int×Int)}(n:Nsts H xs bl)(s:Same H H'):Nsts H' xs bl:=⟨n.1,fun j b e=>let⟨p,q,a,c,d⟩:=n.2 j b e;⟨p,q,a,s _ _ c,s _ _ d⟩⟩
end L2
namespace L2
open PySem.W
def RawD (h:Heap)(d:Addr)(es:Array DictEntry)(ep:Nat):Prop:=∃o,h.get? d=some o∧o.cls=.type "dict"∧o.data=.dict es ep
end L2
namespace L2
open PySem.W
theorem paired_get {α β:Type}{r:α→β→Prop}:∀{xs:List α} {ys:List β} {i:Nat} {x:α},Paired r xs ys→xs[i]?=some x→∃y,ys[i]?=some y∧r x y
 |_,_,_,_,.nil,e=>by simp at e
 |_,_,0,_,.cons r _,e=>by simp at e;subst e;exact⟨_,rfl,r⟩
 |_,_,i+1,p,.cons _ t,e=>paired_get (i:=i) (x:=p) t (by simpa using e)
theorem raw_of {P:Program}{w:World}{H:Hp}{h:Heap}{d:Addr}{o:Obj}{kvs:List (List Key×V)}(hd:ObjOk P w H h d (.frz o (.dT kvs))):(d==sysModules)=false∧kvs.length≤sizeLine∧
 ∃es ep,o.cls=.type "dict"∧o.data=.dict es ep∧h.get? d=some o∧es.size=kvs.length∧∀(i:Nat) (kv:List Key×V),kvs[i]?=some kv→∃(hi:i<es.size) (p:Addr),es[i].key=.ref p∧H p=some (.tup (kv.1.map kV))∧RelV kv.2 es[i].val:=by
 obtain⟨h0,z,ns,xs,pr,o',es,ep,h1,ex,da,el,nd⟩:=(show h.get? d=some o∧ObjOk P w H h d (.dT kvs) from hd)
 rw[h0]at h1
 cases h1
 have lx:xs.length=kvs.length:=(Paired.length pr).symm
 have le:es.size=kvs.length:=by rw[←length_toList,el,length_map,lx]
 refine⟨ns,z,es,ep,ex.1,da,h0,le,fun i kv e=>?_⟩
 obtain⟨y,ey,q1,q2,q3⟩:=paired_get pr e
 have hi:i<es.size:=by rw[le];exact(List.getElem?_eq_some_iff.mp e).1
 have en:es[i]=entryOfKey (tupleKind (mixKind P w)) y:=by
  have:es.toList[i]?=some (entryOfKey (tupleKind (mixKind P w)) y):=by rw[el,List.getElem?_map,ey];rfl
  rw[getElem?_toList,Array.getElem?_eq_getElem hi]at this
  exact Option.some.inj this
 refine⟨hi,y.2.1,by rw[en];rfl,q2,by rw[en];exact q3⟩
end L2
namespace L2
open PySem.W
section
variable {prog:Program}{w:World}{A:Around}{E:Value→Shared→Prop}{s:Shared}
theorem ii_first {z d:Addr}{i ep:Nat}{ok ov:Value}{es:Array DictEntry}{Q:Option Value→Shared→Prop}(hit:IsItemIter s.heap z d i es.size ep ok ov)(hd:RawD s.heap d es ep)(hi:i<es.size)(nz:d≠z)
 (q:∀h' ok ov,KdxIt h' z d (i+1) es.size ep ok ov s.heap.objs.size false→h'.get? s.heap.objs.size=some {cls:=.type "tuple",data:=.seq #[es[i].key,es[i].val]}→h'.objs.size=s.heap.objs.size+1→
  (∀b o,b≠z→s.heap.get? b=some o→h'.get? b=some o)→Q (some (.ref s.heap.objs.size)) {s with heap:=h'}):wpAny (model prog w) A (pyNext (.ref z)) Q E s:=by
 obtain⟨hp,g,dr,tk,os⟩:=s
 obtain⟨⟨c,dd,da,sl⟩,ho,hc,hda⟩:=hd
 simp only at hc hda ho
 subst hc hda
 have hT:Shared.TypeIs ⟨hp,g,dr,tk,os⟩ (.ref z) "dict_itemiterator":=⟨_,hit,rfl⟩
 unfold pyNext
 refine wpAny_bind (wpAny_attempt (wpAny_callSpecial?_slot (name:=Str.ofString "__next__") hT F.slot_dict_itemiterator_next (wpAny_call_entry F.slot_dict_itemiterator_next hT F.entry_dict_itemiterator_next ?_ (F.args_dict_itemiterator_next_1 _))))
 have e1:¬((i:Int)<0):=by omega
 have e2:es[(i:Int).toNat]?=some es[i]:=by rw[Int.toNat_natCast];exact Array.getElem?_eq_getElem hi
 unfold Builtin.«dict_itemiterator.__next__»
 wp_walk
 rw[if_neg e1,e2]
 dsimp only
 wp_walk
 refine⟨_,rfl,wpAny_pure ?_⟩
 rw[size_update]
 have lz:z<hp.objs.size:=lt_size hit
 have nz:z≠hp.objs.size:=Nat.ne_of_lt lz
 have key:∀(h2:Heap) (n:Nat),n=h2.objs.size→∀t:Obj,t.isFreed=false→(h2.push t).get? n=some t:=fun h2 n e t ht=>by rw[e];exact get?_push_size _ ht
 refine q _ es[i].key es[i].val ?_ ?_ ?_ fun b o nb e=>?_
 ·refine(get?_update_self _ (get?_update_self _ (get?_update_self _ (get?_update_self _ (get?_push_of_some _ (get?_update_self _ hit rfl)) rfl) rfl) rfl) rfl).trans ?_
  kernel_rfl
 ·rw[get?_update_other _ _ nz,get?_update_other _ _ nz,get?_update_other _ _ nz,get?_update_other _ _ nz]
  exact key _ _ (by rw[size_update]) _ rfl
 ·simp only[size_update,Heap.size_push]
 ·rw[get?_update_other _ _ (Ne.symm nb),get?_update_other _ _ (Ne.symm nb),get?_update_other _ _ (Ne.symm nb),get?_update_other _ _ (Ne.symm nb)]
  exact get?_push_of_some _ ((get?_update_other _ _ (Ne.symm nb)).trans e)
end
end L2
namespace L2
open PySem.W
section
variable {prog:Program}{w:World}{A:Around}{E:Value→Shared→Prop}{s:Shared}
theorem ii_next {z d:Addr}{i ep:Nat}{ok ov:Value}{a:Addr}{f:Bool}{oa:Obj}{es:Array DictEntry}{Q:Option Value→Shared→Prop}(hit:KdxIt s.heap z d i es.size ep ok ov a f)(ha:s.heap.get? a=some oa)(na:a≠z)(hd:RawD s.heap d es ep)(hi:i<es.size)(nz:d≠z)
 (q:∀h',KdxIt h' z d (i+1) es.size ep ok ov a true→h'.get? s.heap.objs.size=some {cls:=.type "tuple",data:=.seq #[es[i].key,es[i].val]}→h'.objs.size=s.heap.objs.size+1→
  (∀b o,b≠z→s.heap.get? b=some o→h'.get? b=some o)→Q (some (.ref s.heap.objs.size)) {s with heap:=h'}):wpAny (model prog w) A (pyNext (.ref z)) Q E s:=by
 obtain⟨hp,g,dr,tk,os⟩:=s
 obtain⟨⟨c,dd,da,sl⟩,ho,hc,hda⟩:=hd
 simp only at hc hda ho
 subst hc hda
 have hT:Shared.TypeIs ⟨hp,g,dr,tk,os⟩ (.ref z) "dict_itemiterator":=⟨_,hit,rfl⟩
 unfold pyNext
 refine wpAny_bind (wpAny_attempt (wpAny_callSpecial?_slot (name:=Str.ofString "__next__") hT F.slot_dict_itemiterator_next (wpAny_call_entry F.slot_dict_itemiterator_next hT F.entry_dict_itemiterator_next ?_ (F.args_dict_itemiterator_next_1 _))))
 have e1:¬((i:Int)<0):=by omega
 have e2:es[(i:Int).toNat]?=some es[i]:=by rw[Int.toNat_natCast];exact Array.getElem?_eq_getElem hi
 unfold Builtin.«dict_itemiterator.__next__»
 wp_walk
 rw[if_neg e1,e2]
 dsimp only
 simp only at ha
 wp_walk
 rw[Int.toNat_natCast]
 refine kdx_alive (a:=a) (o:=oa) (get?_push_of_some _ ((get?_update_other _ _ (Ne.symm na)).trans ha)) ?_
 rw[if_neg (show ¬((some oa).isNone=true) from Bool.false_ne_true)]
 have lz:z<hp.objs.size:=lt_size hit
 have nz2:z≠hp.objs.size:=Nat.ne_of_lt lz
 have key:∀(h2:Heap) (n:Nat),n=h2.objs.size→∀t:Obj,t.isFreed=false→(h2.push t).get? n=some t:=fun h2 n e t ht=>by rw[e];exact get?_push_size _ ht
 cases f with
 |true=>
  wp_walk
  refine⟨_,rfl,wpAny_pure ?_⟩
  rw[size_update]
  refine q _ ?_ ?_ ?_ fun b o nb e=>?_
  ·refine(get?_push_of_some _ (get?_update_self _ hit rfl)).trans ?_
   kernel_rfl
  ·exact key _ _ (by rw[size_update]) _ rfl
  ·simp only[size_update,Heap.size_push]
  ·exact get?_push_of_some _ ((get?_update_other _ _ (Ne.symm nb)).trans e)
 |false=>
  wp_walk
  refine⟨_,rfl,wpAny_pure ?_⟩
  rw[size_update]
  refine q _ ?_ ?_ ?_ fun b o nb e=>?_
  ·refine(get?_update_self _ (get?_push_of_some _ (get?_update_self _ hit rfl)) rfl).trans ?_
   kernel_rfl
  ·rw[get?_update_other _ _ nz2]
   exact key _ _ (by rw[size_update]) _ rfl
  ·simp only[size_update,Heap.size_push]
  ·rw[get?_update_other _ _ (Ne.symm nb)]
   exact get?_push_of_some _ ((get?_update_other _ _ (Ne.symm nb)).trans e)
end
end L2
namespace L2
open PySem.W
section
variable {prog:Program}{w:World}{A:Around}{E:Value→Shared→Prop}{s:Shared}
theorem ii_end {z d:Addr}{i ep:Nat}{fst:Value}{f:Bool}{ok ov:Value}{es:Array DictEntry}{Q:Option Value→Shared→Prop}(hh:A.handled=none)(hit:s.heap.get? z=some {cls:=.type "dict_itemiterator",dict:=none,data:=.fields #[fst,.bool f,.ref d,.int (i:Int) 0,.int (es.size:Int) 0,.int (ep:Int) 0,ok,ov],slots:=#[]})(hd:RawD s.heap d es ep)(hi:es.size≤i)
 (q:∀h' tk,Heap.ExtBut z s.heap h'→Q none {s with heap:=h',toks:=tk}):wpAny (model prog w) A (pyNext (.ref z)) Q E s:=by
 obtain⟨hp,g,dr,tk,os⟩:=s
 obtain⟨⟨c,dd,da,sl⟩,ho,hc,hda⟩:=hd
 simp only at hc hda ho
 subst hc hda
 have hT:Shared.TypeIs ⟨hp,g,dr,tk,os⟩ (.ref z) "dict_itemiterator":=⟨_,hit,rfl⟩
 unfold pyNext
 refine wpAny_bind (wpAny_attempt (wpAny_callSpecial?_slot (name:=Str.ofString "__next__") hT F.slot_dict_itemiterator_next (wpAny_call_entry F.slot_dict_itemiterator_next hT F.entry_dict_itemiterator_next ?_ (F.args_dict_itemiterator_next_1 _))))
 have e1:¬((i:Int)<0):=by omega
 have e2:es[(i:Int).toNat]?=none:=by rw[Int.toNat_natCast];exact Array.getElem?_eq_none hi
 unfold Builtin.«dict_itemiterator.__next__»
 wp_walk
 rw[if_neg e1,e2]
 dsimp only
 wp_walk
 simp only[raiseNew]
 refine wpAny_bind (wpAny_handled ?_)
 rw[show A.in1.handled=none from hh]
 refine wpAny_bind (wpAny_pure (wpAny_throw ?_))
 refine wpAny_bind (wpAny_isInstance (T:="StopIteration") (b:=true) ⟨_,get?_push_size _ rfl,rfl⟩ isSubtype_stop ?_)
 exact wpAny_pure (q _ _ (((Heap.SameBut.update ..).extBut.push _).push _))
theorem ii_iter {v d:Addr}{ep:Nat}{es:Array DictEntry}{Q:Value→Shared→Prop}(ns:(d==sysModules)=false)(hv:s.heap.get? v=some {cls:=.type "dict_items",data:=.fields #[.ref d]})(hd:RawD s.heap d es ep)
 (q:∀h',IsItemIter h' s.heap.objs.size d 0 es.size ep .none .none→(∀b o,s.heap.get? b=some o→h'.get? b=some o)→h'.objs.size=s.heap.objs.size+1→Q (.ref s.heap.objs.size) {s with heap:=h'}):wpAny (model prog w) A (pyIter (.ref v)) Q E s:=by
 obtain⟨hp,g,dr,tk,os⟩:=s
 obtain⟨⟨c,dd,da,sl⟩,ho,hc,hda⟩:=hd
 simp only at hc hda ho
 subst hc hda
 have hT:Shared.TypeIs ⟨hp,g,dr,tk,os⟩ (.ref v) "dict_items":=⟨_,hv,rfl⟩
 refine wpAny_pyIter_slot hT F.slot_dict_items_iter (wpAny_call_entry F.slot_dict_items_iter hT F.entry_dict_items_iter ?_ (F.args_dict_items_iter_1 _))
 unfold Builtin.«dict_items.__iter__»
 wp_walk
 exact⟨_,rfl,"dict_itemiterator",_,⟨_,get?_push_size _ rfl,rfl⟩,F.slot_dict_itemiterator_next.lookup,q _ ((get?_push_size _ rfl).trans (by kernel_rfl)) (fun b o e=>get?_push_of_some _ e) (Heap.size_push ..)⟩
theorem d_itemsR {d:Addr}{ep:Nat}{es:Array DictEntry}{Q:Value→Shared→Prop}(ns:(d==sysModules)=false)(hd:RawD s.heap d es ep)
 (q:Q (.ref s.heap.objs.size) {s with heap:=s.heap.push {cls:=.type "dict_items",data:=.fields #[.ref d]}}):wpAny (model prog w) A (call (.builtin "dict.items") [.ref d]) Q E s:=by
 obtain⟨hp,g,dr,tk,os⟩:=s
 obtain⟨⟨c,dd,da,sl⟩,ho,hc,hda⟩:=hd
 simp only at hc hda ho
 subst hc hda
 have hT:Shared.TypeIs ⟨hp,g,dr,tk,os⟩ (.ref d) "dict":=⟨_,ho,rfl⟩
 refine wpAny_call_entry F.slot_dict_items hT F.entry_dict_items ?_ (F.args_dict_items_1 _)
 unfold Builtin.«dict.items»
 wp_walk
 exact⟨_,rfl,q⟩
end
end L2
namespace L2
open PySem.W
section
variable {prog:Program}{w:World}{A:Around}{E:Value→Shared→Prop}{s:Shared}
theorem fed_loop {S I:Addr}{n:Nat}{T:Nat→Heap→List Value→Prop}{Fn:Heap→List Value→Prop}{res:Value}{R:Result→Shared→Prop}{h0:Heap}(hSI:S≠I)(hn:n≤sizeLine)
 (keep:∀i h h' vs,T i h vs→(∀b o,b≠S→h.get? b=some o→h'.get? b=some o)→T i h' vs)
 (item:∀i h tk vs (Q:Option Value→Shared→Prop) (E:Value→Shared→Prop),i<n→S<h.objs.size→T i h vs→(∀v h',T (i+1) h' (vs++[v])→(∀b o,b≠I→h.get? b=some o→h'.get? b=some o)→Q (some v) {s with heap:=h',toks:=tk})→
  wpAny (model prog w) A.in1 (pyNext (.ref I)) Q E {s with heap:=h,toks:=tk})
 (done:∀h tk vs (Q:Option Value→Shared→Prop) (E:Value→Shared→Prop),T n h vs→(∀h' tk',Fn h' vs→(∀b o,b≠I→h.get? b=some o→h'.get? b=some o)→Q none {s with heap:=h',toks:=tk'})→
  wpAny (model prog w) A.in1 (pyNext (.ref I)) Q E {s with heap:=h,toks:=tk})
 (hR:∀h' tk (acc:Array Value) c,Fn h' acc.toList→(∀b o,b≠S→b≠I→h0.get? b=some o→h'.get? b=some o)→h'.get? S=some {cls:=.type "list",dict:=none,data:=.seq acc c,slots:=#[]}→R (.ok (.ret res)) {s with heap:=h',toks:=tk}) :
 ∀(k i:Nat) (h:Heap) (tk c:Nat) (acc:Array Value),i+k=n→T i h acc.toList→acc.size=i→(∀b o,b≠S→b≠I→h0.get? b=some o→h.get? b=some o)→
  h.get? S=some {cls:=.type "list",dict:=none,data:=.seq acc c,slots:=#[]}→codeAny (model prog w) A (.builtin "list.extend.loop" ⟨[.ref S,.ref I,res],[]⟩) R {s with heap:=h,toks:=tk}
 |0,i,h,tk,c,acc,hk,t,sz,old,hS=>by
  refine codeAny_builtin PySem.F.entry_extend_loop ?_
  rw[Around.under_plainId PySem.F.plain_extend_loop _]
  have hi:i=n:=by omega
  subst hi
  refine wpAny_bind (m:=pyNext (.ref I)) (done h tk _ _ _ t fun h' tk' f kp=>wpAny_pure (hR h' tk' acc c f (fun b o b1 b2 e=>kp b o b2 (old b o b1 b2 e)) (kp _ _ hSI hS)))
 |k+1,i,h,tk,c,acc,hk,t,sz,old,hS=>by
  refine codeAny_builtin PySem.F.entry_extend_loop ?_
  rw[Around.under_plainId PySem.F.plain_extend_loop _]
  refine wpAny_bind (m:=pyNext (.ref I)) (item i h tk _ _ _ (by omega) (lt_size hS) t fun v h' t' kp=>?_)
  have hS':=kp _ _ hSI hS
  have oth:∀b o,b≠S→h'.get? b=some o→(h'.update S (Obj.mapSeq (·.push v))).get? b=some o:=fun b o nb e=>(get?_update_other _ _ (Ne.symm nb)).trans e
  have rest:=fed_loop hSI hn keep item done hR k (i+1) (h'.update S (Obj.mapSeq (·.push v))) tk _ (acc.push v) (by omega) (by rw[toList_push];exact keep _ _ _ _ t' oth) (by rw[Array.size_push,sz])
   (fun b o b1 b2 e=>oth b o b1 (kp b o b2 (old b o b1 b2 e))) (get?_update_self _ hS' rfl)
  refine wpAny_bind (m:=updateSeq S (·.push v)) (wpAny_updateSeq hS' rfl (wpAny_pure ⟨plainId_quiet PySem.F.plain_extend_loop _,rest⟩) ?_ ?_)
  ·omega
  ·show(acc.push v).size≤sizeLine+1
   rw[Array.size_push]
   omega
structure Its5 (h:Heap)(lo:Addr)(es:Array DictEntry)(vs:List Value):Prop where
 len:vs.length≤es.size
 at_:∀(j:Nat) (v:Value),vs[j]?=some v→∃(hj:j<es.size) (a:Addr),v=.ref a∧lo<a∧h.get? a=some {cls:=.type "tuple",data:=.seq #[es[j].key,es[j].val]}
 up:∀(i j:Nat) (a b:Addr),i<j→vs[i]?=some (.ref a)→vs[j]?=some (.ref b)→a<b
theorem Its5.keep {h h':Heap}{lo:Addr}{es:Array DictEntry}{vs:List Value}(t:Its5 h lo es vs)(k:∀b o,lo<b→h.get? b=some o→h'.get? b=some o):Its5 h' lo es vs:=
 ⟨t.len,fun j v e=>let⟨hj,a,x,y,z⟩:=t.at_ j v e;⟨hj,a,x,y,k _ _ y z⟩,t.up⟩
theorem Its5.snoc {h:Heap}{lo n:Addr}{es:Array DictEntry}{vs:List Value}(t:Its5 h lo es vs)(hi:vs.length<es.size)(ln:lo<n)(un:∀(j:Nat) (a:Addr),vs[j]?=some (.ref a)→a<n)
 (hn:h.get? n=some {cls:=.type "tuple",data:=.seq #[es[vs.length].key,es[vs.length].val]}):Its5 h lo es (vs++[.ref n]):=by
 refine⟨by rw[length_append,length_singleton];omega,fun j v e=>?_,fun i j a b ij ea eb=>?_⟩
 ·rcases Nat.lt_trichotomy j vs.length with c | c | c
  ·rw[getElem?_append_left c]at e
   exact t.at_ j v e
  ·subst c
   rw[getElem?_append_right (Nat.le_refl _),Nat.sub_self]at e
   cases e
   exact⟨hi,n,rfl,ln,hn⟩
  ·rw[List.getElem?_eq_none (by rw[length_append,length_singleton];omega)]at e
   cases e
 ·have jl:j<(vs++[Value.ref n]).length:=(List.getElem?_eq_some_iff.mp eb).1
  rw[length_append,length_singleton]at jl
  rw[getElem?_append_left (by omega)]at ea
  by_cases c:j<vs.length
  ·rw[getElem?_append_left c]at eb
   exact t.up i j a b ij ea eb
  ·have cj:j=vs.length:=by omega
   subst cj
   rw[getElem?_append_right (Nat.le_refl _),Nat.sub_self]at eb
   cases eb
   exact un i a ea
def IIs (h:Heap)(z d S:Addr)(i n ep:Nat):Prop:=(∃ok ov,IsItemIter h z d i n ep ok ov)∨∃ok ov a f oa,KdxIt h z d i n ep ok ov a f∧h.get? a=some oa∧a≠z∧a≠S
theorem items_loop {S I d:Addr}{es:Array DictEntry}{ep:Nat}{res:Value}{R:Result→Shared→Prop}{h0:Heap}(hh:A.handled=none)(hSI:S<I)(hSd:d≠S)(hId:d≠I)(hn:es.size≤sizeLine)
 (hR:∀h' tk (acc:Array Value) c,acc.size=es.size→Its5 h' I es acc.toList→(∀b o,b≠S→b≠I→h0.get? b=some o→h'.get? b=some o)→h'.get? S=some {cls:=.type "list",dict:=none,data:=.seq acc c,slots:=#[]}→R (.ok (.ret res)) {s with heap:=h',toks:=tk})
 {h:Heap} {tk c:Nat} (st:IsItemIter h I d 0 es.size ep .none .none) (hd:RawD h d es ep) (old:∀b o,b≠S→b≠I→h0.get? b=some o→h.get? b=some o) (hS:h.get? S=some {cls:=.type "list",dict:=none,data:=.seq #[] c,slots:=#[]}) :
 codeAny (model prog w) A (.builtin "list.extend.loop" ⟨[.ref S,.ref I,res],[]⟩) R {s with heap:=h,toks:=tk}:=by
 have ne:S≠I:=Nat.ne_of_lt hSI
 refine fed_loop (n:=es.size) (h0:=h0) (T:=fun i h vs=>IIs h I d S i es.size ep∧RawD h d es ep∧I<h.objs.size∧vs.length=i∧Its5 h I es vs) (Fn:=fun h vs=>vs.length=es.size∧Its5 h I es vs) ne hn
  (fun i h h' vs t k=>?_) (fun i h tk vs Q E hi lS t q=>?_) (fun h tk vs Q E t q=>?_) (fun h' tk acc c f k e=>hR h' tk acc c (by rw[←length_toList];exact f.1) f.2 k e) es.size 0 h tk c #[] (by omega) ⟨.inl ⟨_,_,st⟩,hd,lt_size st,rfl,⟨Nat.zero_le _,fun j v e=>by simp at e,fun i j a b _ e=>by simp at e⟩⟩ rfl old hS
 ·obtain⟨t1,⟨o,x1,x2⟩,t3,t4,t5⟩:=t
  have kI:∃o',h'.get? I=some o':=by
   rcases t1 with⟨_,_,e⟩ | ⟨_,_,_,_,_,e,_⟩
   ·exact⟨_,k _ _ (Ne.symm ne) e⟩
   ·exact⟨_,k _ _ (Ne.symm ne) e⟩
  refine⟨?_,⟨o,k _ _ hSd x1,x2⟩,lt_size kI.choose_spec,t4,t5.keep fun b o lb e=>k b o (fun z=>by rw[z]at lb;exact absurd hSI (Nat.lt_asymm lb)) e⟩
  rcases t1 with⟨ok,ov,e⟩ | ⟨ok,ov,a,f,oa,e,y1,y2,y3⟩
  ·exact .inl ⟨ok,ov,k _ _ (Ne.symm ne) e⟩
  ·exact .inr ⟨ok,ov,a,f,oa,k _ _ (Ne.symm ne) e,k _ _ y3 y1,y2,y3⟩
 ·obtain⟨t1,t2,t3,t4,t5⟩:=t
  subst t4
  have un:∀(j:Nat) (a:Addr),vs[j]?=some (.ref a)→a<h.objs.size:=fun j a e=>by
   obtain⟨_,a',e1,_,e3⟩:=t5.at_ j _ e
   cases e1
   exact lt_size e3
  have go:∀h',IIs h' I d S (vs.length+1) es.size ep→h'.get? h.objs.size=some {cls:=.type "tuple",data:=.seq #[es[vs.length].key,es[vs.length].val]}→h'.objs.size=h.objs.size+1→(∀b o,b≠I→h.get? b=some o→h'.get? b=some o)→
   Q (some (.ref h.objs.size)) {s with heap:=h',toks:=tk}:=fun h' i' g sz k=>by
   obtain⟨o,x1,x2⟩:=t2
   refine q _ h' ⟨i',⟨o,k _ _ hId x1,x2⟩,by rw[sz];exact Nat.lt_succ_of_lt t3,by rw[length_append];rfl,?_⟩ k
   exact(t5.keep fun b o lb e=>k b o (Nat.ne_of_gt lb) e).snoc hi t3 un g
  rcases t1 with⟨ok,ov,e⟩ | ⟨ok,ov,a,f,oa,e,y1,y2,y3⟩
  ·exact ii_first (s:={s with heap:=h,toks:=tk}) e t2 hi hId fun h' ok ov e' g sz k=>go h' (.inr ⟨ok,ov,_,_,_,e',g,Nat.ne_of_gt t3,Nat.ne_of_gt lS⟩) g sz k
  ·exact ii_next (s:={s with heap:=h,toks:=tk}) e y1 y2 t2 hi hId fun h' e' g sz k=>go h' (.inr ⟨_,_,_,_,_,e',k _ _ y2 y1,y2,y3⟩) g sz k
 ·obtain⟨t1,t2,t3,t4,t5⟩:=t
  have fin:∀h' tk',Heap.ExtBut I h h'→Q none {s with heap:=h',toks:=tk'}:=fun h' tk' x=>q h' tk' ⟨t4,t5.keep fun b o lb e=>x b o (Nat.ne_of_gt lb) e⟩ fun b o nb e=>x b o nb e
  rcases t1 with⟨ok,ov,e⟩ | ⟨ok,ov,a,f,oa,e,y1,y2,y3⟩
  ·exact ii_end (s:={s with heap:=h,toks:=tk}) (by simpa using hh) e t2 (Nat.le_refl _) fin
  ·exact ii_end (s:={s with heap:=h,toks:=tk}) (by simpa using hh) e t2 (Nat.le_refl _) fin
end
end L2
namespace L2
open PySem.W
section
variable {P:Program}{w:World}{A:Around}{E:Value→Shared→Prop}{s:Shared}
theorem items_collect {v d:Addr}{ep:Nat}{es:Array DictEntry}(hh:A.handled=none)(ns:(d==sysModules)=false)(hv:s.heap.get? v=some {cls:=.type "dict_items",data:=.fields #[.ref d]})(hd:RawD s.heap d es ep)(few:es.size≤sizeLine){Q:List Value→Shared→Prop}
 (q:∀vs h' tk,vs.length=es.size→Its5 h' s.heap.objs.size es vs→(∀b o,s.heap.get? b=some o→h'.get? b=some o)→Q vs {s with heap:=h',toks:=tk}):wpAny (model P w) A (collect (.ref v)) Q E s:=by
 have lv:v<s.heap.objs.size:=lt_size hv
 have ld:d<s.heap.objs.size:=let⟨_,e,_⟩:=hd;lt_size e
 generalize hL:s.heap.objs.size=L at lv ld q
 unfold collect
 refine wpAny_bind (wpAny_runValue ?_)
 refine codeAny_builtin PySem.F.entry_proto_collect ?_
 rw[Around.under_plainId PySem.F.plain_proto_collect]
 refine wpAny_bind (m:=newList []) (wpAny_newObj_type ?_)
 refine wpAny_pure ⟨plainId_quiet PySem.F.plain_list_iadd _,?_⟩
 refine codeAny_builtin PySem.F.entry_list_iadd ?_
 rw[Around.under_plainId PySem.F.plain_list_iadd]
 generalize hN:s.heap.push {cls:=.type "list",data:=.seq ([]:List Value).toArray}=N
 have new:N.get? L=some {cls:=.type "list",data:=.seq ([]:List Value).toArray}:=by rw[←hN,←hL];exact get?_push_size _ rfl
 have old:∀b o,s.heap.get? b=some o→N.get? b=some o:=fun b o e=>by rw[←hN];exact get?_push_of_some _ e
 have szN:N.objs.size=L+1:=by rw[←hN,←hL,Heap.size_push]
 rw[hL]
 show wpAny _ A.in1 (Builtin.List.listExtendWith (.ref L) (.ref v) (.ref L)) _ _ _
 have gT:Shared.TypeIs {s with heap:=N} (.ref v) "dict_items":=⟨_,old _ _ hv,rfl⟩
 have hdN:RawD N d es ep:=let⟨o,e,x⟩:=hd;⟨o,old _ _ e,x⟩
 unfold Builtin.List.listExtendWith
 refine wpAny_bind (wpAny_typeOf gT ?_)
 have n1:Builtin.List.listSameRef (.ref L) (.ref v)=false:=by simp[Builtin.List.listSameRef,Nat.ne_of_gt lv]
 rw[n1,if_neg (by decide)]
 refine wpAny_bind (ii_iter (s:={s with heap:=N}) ns (old _ _ hv) hdN fun h1 st k sz=>?_)
 have st':IsItemIter h1 (L+1) d 0 es.size ep .none .none:=by rw[←szN];exact st
 rw[show({s with heap:=N}:Shared).heap.objs.size=L+1 from szN]
 refine wpAny_bind (wpAny_holding (kdx_hint ⟨_,k _ _ (old _ _ hv),rfl⟩ ?_))
 have new1:=k _ _ new
 have fin:∀(h:Heap) (c tk:Nat),(∀b o,b≠L→h1.get? b=some o→h.get? b=some o)→h.get? L=some {cls:=.type "list",dict:=none,data:=.seq #[] c,slots:=#[]}→∀R:Result→Shared→Prop,
  (∀h' tk (acc:Array Value) c,acc.size=es.size→Its5 h' (L+1) es acc.toList→(∀b o,s.heap.get? b=some o→h'.get? b=some o)→h'.get? L=some {cls:=.type "list",dict:=none,data:=.seq acc c,slots:=#[]}→R (.ok (.ret (.ref L))) {s with heap:=h',toks:=tk})→
  codeAny (model P w) A (.builtin "list.extend.loop" ⟨[.ref L,.ref (L+1),.ref L],[]⟩) R {s with heap:=h,toks:=tk}:=fun h c tk kh hS R r=>by
  refine items_loop (s:=s) (h0:=s.heap) hh (Nat.lt_succ_self _) (Nat.ne_of_lt ld) (Nat.ne_of_lt (Nat.lt_succ_of_lt ld)) few (fun h' tk acc c sz t kk e=>r h' tk acc c sz t (fun b o eb=>kk b o ?_ ?_ eb) e) (kh _ _ (Nat.succ_ne_self _) st') ?_ (fun b o b1 _ e=>kh b o b1 (k _ _ (old _ _ e))) hS
  ·exact Nat.ne_of_lt (hL▸lt_size eb)
  ·exact Nat.ne_of_lt (Nat.lt_succ_of_lt (hL▸lt_size eb))
  ·obtain⟨o,e,x⟩:=hdN
   exact⟨o,kh _ _ (Nat.ne_of_lt ld) (k _ _ e),x⟩
 have get:∀h' tk (acc:Array Value) c,acc.size=es.size→Its5 h' (L+1) es acc.toList→(∀b o,s.heap.get? b=some o→h'.get? b=some o)→h'.get? L=some {cls:=.type "list",dict:=none,data:=.seq acc c,slots:=#[]}→Q acc.toList {s with heap:=h',toks:=tk}:=fun h' tk acc c sz t kk e=>
  q _ h' tk (by rw[length_toList];exact sz) ⟨t.len,fun j v e=>let⟨hj,a,x,y,z⟩:=t.at_ j v e;⟨hj,a,x,Nat.lt_of_succ_lt y,z⟩,t.up⟩ kk
 refine wpAny_ite_split (fun _=>?_) (fun _=>?_)
 ·refine wpAny_bind (wpAny_rule (wpAny_bind ?_))
  refine wpAny_bind (m:=updateSeq L (·.push .none)) (wpAny_updateSeq new1 rfl ?_)
  have new2:=get?_update_self (Obj.mapSeq (·.push Value.none)) new1 rfl
  refine wpAny_updateSeq new2 rfl ?_
  have new3:=get?_update_self (Obj.mapSeq (·.pop)) new2 rfl
  refine wpAny_pure ⟨plainId_quiet PySem.F.plain_extend_loop _,fin _ _ _ (fun b o nb e=>(get?_update_other _ _ (Ne.symm nb)).trans ((get?_update_other _ _ (Ne.symm nb)).trans e)) new3 _ fun h' tk acc c sz t kk e=>?_⟩
  exact wpAny_bind (m:=load L) (wpAny_load e (wpAny_pure (get h' tk acc c sz t kk e)))
 ·refine wpAny_pure ⟨plainId_quiet PySem.F.plain_extend_loop _,fin _ _ _ (fun b o nb e=>e) new1 _ fun h' tk acc c sz t kk e=>?_⟩
  exact wpAny_bind (m:=load L) (wpAny_load e (wpAny_pure (get h' tk acc c sz t kk e)))
end
end L2
namespace L2
open PySem.W
def trkG (H:Hp):List (Addr×List V)→Hp
 |[]=>H
 |(a,xs)::r=>upd (trkG H r) a (.tup xs)
theorem trkG_out {H:Hp}{a:Addr}:∀{l:List (Addr×List V)},a∉l.map (·.1)→trkG H l a=H a
 |[],_=>rfl
 |(b,q)::r,h=>by
  show upd (trkG H r) b _ a=_
  rw[upd_ne (fun z=>h (by rw[z];exact mem_cons_self))]
  exact trkG_out fun z=>h (mem_cons_of_mem _ z)
theorem trkG_in {H:Hp}{a:Addr}{q:List V}:∀{l:List (Addr×List V)},(l.map (·.1)).Nodup→(a,q)∈l→trkG H l a=some (.tup q)
 |(b,p)::r,nd,h=>by
  obtain⟨n1,n2⟩:=nodup_cons.mp nd
  show upd (trkG H r) b _ a=_
  rcases mem_cons.mp h with e | e
  ·cases e;exact upd_same
  ·rw[upd_ne (fun z=>n1 (by rw[←z];exact mem_map_of_mem (f:=(·.1)) e))]
   exact trkG_in n2 e
theorem trkG_any {H:Hp}{a:Addr}{o:HO}:∀{l:List (Addr×List V)},trkG H l a=some o→H a=some o∨∃q,(a,q)∈l∧o=.tup q
 |[],h=>.inl h
 |(b,p)::r,h=>by
  have h':upd (trkG H r) b (.tup p) a=some o:=h
  by_cases c:a=b
  ·subst c
   rw[upd_same]at h'
   exact .inr ⟨p,mem_cons_self,(Option.some.inj h').symm⟩
  ·rw[upd_ne c]at h'
   rcases trkG_any h' with z | ⟨q,z,e⟩
   ·exact .inl z
   ·exact .inr ⟨q,mem_cons_of_mem _ z,e⟩
def kvT (q:List Int×Int):List Key×V:=(q.1.map Sum.inl,.int q.2)
theorem key_ints (t:List Int):(t.map (Sum.inl:Int→Key)).map kV=t.map V.int:=by
 rw[map_map]
 rfl
def toA:Value→Addr
 | .ref a=>a
 |_=>0
theorem raw_dT {P:Program}{w:World}{H:Hp}{h:Heap}{d:Addr}{kvs:List (List Key×V)}(hd:ObjOk P w H h d (.dT kvs)):(d==sysModules)=false∧kvs.length≤sizeLine∧
 ∃es ep,RawD h d es ep∧es.size=kvs.length∧∀(i:Nat) (kv:List Key×V),kvs[i]?=some kv→∃(hi:i<es.size) (p:Addr),es[i].key=.ref p∧H p=some (.tup (kv.1.map kV))∧RelV kv.2 es[i].val:=by
 obtain⟨_,_,_,_,o,_,_,h1,_⟩:=id hd
 obtain⟨a,b,es,ep,c,e,f,g,k⟩:=raw_of (o:=o) (show ObjOk P w H h d (.frz o (.dT kvs)) from⟨h1,hd⟩)
 exact⟨a,b,es,ep,⟨o,f,c,e⟩,g,k⟩
def rItemsT:V→List V→Hp→VK→Prop:=fun x vs H Q=>∃(d:Addr) (kvs:List (List Key×V)),x=.ref d∧vs=[]∧H d=some (.dT kvs)∧∀v,H v=none→Q (.ref v) (upd H v (Fz v (viewO d)))
theorem mt_itemsT {X:Cx}:MtR X "dict.items" rItemsT:=by
 intro pins s σ H x xs v us Q I rx rv h
 obtain⟨d,kvs,rfl,rfl,hd,q⟩:=h
 cases(show v=Value.ref d from rx)
 cases rv
 obtain⟨lo,hz,es,ep,rd,_⟩:=raw_dT (I.hok d _ hd)
 refine d_itemsR lo rd ?_
 exact⟨.ref s.heap.objs.size,_,I.laid (a:=s.heap.objs.size) (t':=s.toks) (o:=Fz s.heap.objs.size (viewO d)) (fun b o e=>get?_push_of_some _ e) (Nat.le_refl _) (fz_ok (get?_push_size _ rfl)),rfl,q _ (I.hok.fresh (Nat.le_refl _))⟩
def rSortJ:List V→Hp→VK→Prop:=fun xs H Q=>∃(v d:Addr) (bl:List (List Int×Int)),xs=[.ref v]∧H v=some (Fz v (viewO d))∧H d=some (.dT (bl.map kvT))∧(bl.map (·.1)).Nodup∧bl.length<64∧
 ∀(bl':List (List Int×Int)) (zs:List V) (l:Addr) (H':Hp),bl'.Perm bl→bl'.Pairwise (fun x y=>HT.lexLt x.1 y.1=true)→Same H H'→H l=none→H' l=some (.lst zs)→Nsts H' zs bl'→Q (.ref l) H'
theorem call_sortJ {X:Cx}(hc:X.calm=true)(hu:X.A.units+2<cLine):CallR X (.builtin "sorted") rSortJ:=by
 intro pins s0 σ H0 xs us Q I0 r h
 obtain⟨v0,d,bl,rfl,hv,hd,nd,h64,q0⟩:=h
 obtain⟨u,rfl,rx⟩:=vals1 r
 cases(show u=Value.ref v0 from rx)
 obtain⟨lo,hz,es,ep,rd,les,ek⟩:=raw_dT (I0.hok d _ hd)
 rw[length_map]at les
 have hu2:X.A.in1.in1.units<cLine:=by show X.A.units+1+1<cLine;exact hu
 have ek2:∀(i:Nat) (k:List Int×Int),bl[i]?=some k→∃(hi:i<es.size) (p:Addr) (t:Tok),es[i].key=.ref p∧H0 p=some (.tup (k.1.map V.int))∧es[i].val=.int k.2 t:=fun i k e=>by
  obtain⟨hi,p,a,b,c⟩:=ek i (kvT k) (by rw[List.getElem?_map,e];rfl)
  obtain⟨t,et⟩:=(show ∃t,es[i].val=Value.int k.2 t from c)
  refine⟨hi,p,t,a,?_,et⟩
  rw[b]
  show some (HO.tup ((k.1.map Sum.inl).map kV))=_
  rw[key_ints]
 refine Calls.call_function_entry kind_sorted plain_sorted entry_sorted (args_sorted1 _) ?_
 unfold Builtin.«sorted»
 refine wpAny_bind (m:=checkCount "sorted" 1 1 _) (wpAny_pure ?_)
 refine wpAny_bind (items_collect (A:=X.A.in1) (I0.ok.hd hc) lo (fz_get I0.hok hv) rd (by rw[les,sizeLine_eq];omega) fun vs h1 tk lvs G kp=>?_)
 have lv:vs.length=bl.length:=by omega
 obtain⟨as,rfl⟩:∃as:List Addr,vs=as.map Value.ref:=by
  refine⟨vs.map toA,ext_getElem? fun i=>?_⟩
  rw[List.getElem?_map,List.getElem?_map]
  cases e:vs[i]? with
  |none=>rfl
  |some v=>
   obtain⟨_,a,rfl,_⟩:=G.at_ i v e
   rfl
 have lab:as.length=bl.length:=by rw[length_map]at lv;exact lv
 obtain⟨xl,hxl⟩:∃xl:List (List V),xl=(es.toList.zip bl).map fun q=>[V.ref (toA q.1.key),V.int q.2.2]:=⟨_,rfl⟩
 have lxl:xl.length=bl.length:=by rw[hxl,length_map,List.length_zip,length_toList];omega
 have xat:∀(i:Nat) (k:List Int×Int),bl[i]?=some k→∃(p:Addr) (t:Tok) (hi:i<es.size),es[i].key=.ref p∧es[i].val=.int k.2 t∧H0 p=some (.tup (k.1.map V.int))∧xl[i]?=some [.ref p,.int k.2]:=fun i k e=>by
  obtain⟨hi,p,t,a,b,c⟩:=ek2 i k e
  refine⟨p,t,hi,a,c,b,?_⟩
  have z:(es.toList.zip bl)[i]?=some (es[i],k):=getElem?_zip_eq_some.mpr ⟨by rw[getElem?_toList];exact Array.getElem?_eq_getElem hi,e⟩
  rw[hxl,List.getElem?_map,z]
  show some [V.ref (toA es[i].key),V.int k.2]=_
  rw[a]
  rfl
 have kat:∀(i:Nat) (a:Addr) (k:List Int×Int),as[i]?=some a→bl[i]?=some k→∃(p:Addr) (t:Tok),H0 p=some (.tup (k.1.map V.int))∧xl[i]?=some [.ref p,.int k.2]∧s0.heap.objs.size<a∧h1.get? a=some {cls:=.type "tuple",data:=.seq #[.ref p,.int k.2 t]}:=fun i a k e1 e2=>by
  obtain⟨p,t,hi,x1,x2,x3,x4⟩:=xat i k e2
  obtain⟨_,a',y1,y2,y3⟩:=G.at_ i (.ref a) (by rw[List.getElem?_map,e1];rfl)
  cases y1
  rw[x1,x2]at y3
  exact⟨p,t,x3,x4,y2,y3⟩
 have ndA:as.Nodup:=pairwise_iff_getElem.mpr fun i j hi hj hij=>Nat.ne_of_lt (G.up i j _ _ hij (by rw[List.getElem?_map,List.getElem?_eq_getElem hi];rfl) (by rw[List.getElem?_map,List.getElem?_eq_getElem hj];rfl))
 have pm:(as.zip xl).map (·.1)=as:=List.map_fst_zip (by omega)
 have ndZ:((as.zip xl).map (·.1)).Nodup:=by rw[pm];exact ndA
 have bat:∀i,i<as.length→bl[i]?=some (bl.getD i ([],0)):=fun i hi=>by rw[getD_eq_getElem?_getD,List.getElem?_eq_getElem (by omega:i<bl.length)];rfl
 have fresh:∀a∈as,s0.heap.objs.size≤a:=fun a ha=>by
  obtain⟨i,hi⟩:=getElem?_of_mem ha
  obtain⟨_,_,_,_,y,_⟩:=kat i a _ hi (bat i (List.getElem?_eq_some_iff.mp hi).1)
  exact Nat.le_of_lt y
 have sm0:Same H0 (trkG H0 (as.zip xl)):=fun b o e=>by
  rw[trkG_out]
  ·exact e
  ·rw[pm]
   exact fun z=>absurd (I0.hok.lt e) (Nat.not_lt.mpr (fresh b z))
 have I:Inv X pins σ (trkG H0 (as.zip xl)) {s0 with heap:=h1,toks:=tk}:=by
  refine I0.laids kp sm0 fun b o e n=>?_
  rcases trkG_any e with z | ⟨k,z,rfl⟩
  ·rw[n]at z;cases z
  ·obtain⟨i,hi⟩:=getElem?_of_mem z
   obtain⟨e1,e2⟩:=getElem?_zip_eq_some.mp hi
   obtain⟨p,t,x1,x2,x3,x4⟩:=kat i b _ e1 (bat i (List.getElem?_eq_some_iff.mp e1).1)
   rw[x2]at e2
   cases e2
   exact⟨Nat.le_of_lt x3,by show 2≤sizeLine;decide,[.ref p,.int _ t],.cons rfl (.cons ⟨_,rfl⟩ .nil),⟨_,x4,rfl,_,rfl⟩⟩
 have pr:Nsts (trkG H0 (as.zip xl)) (as.map V.ref) bl:=⟨by rw[length_map,lab],fun j b e=>by
  have jl:j<as.length:=by rw[lab];exact(List.getElem?_eq_some_iff.mp e).1
  have ja:=List.getElem?_eq_getElem jl
  obtain⟨p,t,x1,x2,x3,x4⟩:=kat j _ b ja e
  exact⟨as[j],p,by rw[List.getElem?_map,ja];rfl,trkG_in ndZ (mem_of_getElem? (i:=j) (getElem?_zip_eq_some.mpr ⟨ja,x2⟩)),sm0 _ _ x1⟩⟩
 have rv:Vals (as.map V.ref) (as.map Value.ref):=by
  have:∀l:List Addr,Vals (l.map V.ref) (l.map Value.ref):=fun l=>by
   induction l with
   |nil=>exact .nil
   |cons a r ih=>exact .cons rfl ih
  exact this as
 have q:∀(bl':List (List Int×Int)) (zs:List V) (l:Addr),bl'.Perm bl→bl'.Pairwise (fun x y=>HT.lexLt x.1 y.1=true)→Nsts (trkG H0 (as.zip xl)) zs bl'→trkG H0 (as.zip xl) l=none→Q (.ref l) (upd (trkG H0 (as.zip xl)) l (.lst zs)):=fun bl' zs l p1 p2 p3 p4=>by
  have sn:=same_new p4 (.lst zs)
  refine q0 bl' zs l _ p1 p2 (sm0.trans sn) ?_ upd_same (p3.same sn)
  cases e:H0 l with
  |none=>rfl
  |some o=>rw[sm0 _ _ e]at p4;cases p4
 have hP:∀(i:Nat) v k,(as.map Value.ref)[i]?=some v→bl[i]?=some k→NestAt h1 v k.1 k.2:=fun i v k e1 e2=>by
  rw[List.getElem?_map]at e1
  obtain⟨a,e3,e4⟩:=Option.map_eq_some_iff.mp e1
  obtain⟨p,t,x1,x2,x3,x4⟩:=kat i a k e3 e2
  obtain⟨_,its2,rt2,it2⟩:(k.1.map V.int).length≤sizeLine∧∃its:List Value,Vals (k.1.map V.int) its∧IsTup s0.heap p its.toArray:=I0.hok p _ x1
  obtain⟨o2,g2,c2,d2⟩:=it2
  exact⟨a,_,_,p,t,its2,e4.symm,x4,rfl,rfl,⟨o2,kp _ _ g2,c2,d2⟩,rt2⟩
 have lz:(as.map V.ref).length=bl.length:=by rw[length_map,lab]
 generalize as.map V.ref=ys at pr rv lz
 generalize as.map Value.ref=vs at rv lv hP
 have szv:vs.length≤sizeLine:=by rw[sizeLine_eq];omega
 generalize hHH:trkG H0 (as.zip xl)=H at I pr q
 have old1:∀b o,h1.get? b=some o→h1.get? b=some o:=fun b o e=>e
 have sz1:h1.objs.size≤h1.objs.size:=Nat.le_refl _
 refine wpAny_bind (wpAny_newList ?_ szv)
 have hoL:(h1.push (seqObj "list" vs.toArray 0)).get? h1.objs.size=some (seqObj "list" vs.toArray 0):=get?_push_size _ rfl
 refine wpAny_bind (wpAny_holding (wpAny_call_entry slot_list_sort ⟨_,hoL,rfl⟩ entry_list_sort (sort_nest hu2 (s:={s0 with heap:=h1.push (seqObj "list" vs.toArray 0),toks:=tk}) (ks:=bl) hoL lv (fun i v k e1 e2=>?_) nd (by omega) fun p hp up=>⟨_,rfl,?_⟩) (args_list_sort _)))
 ·exact(hP i v k e1 e2).old fun x o e _=>get?_push_of_some _ (old1 _ _ e)
 obtain⟨e,he⟩:=sortedHeap_at (out:=pOut p vs) hoL
 have old:∀b o,h1.get? b=some o→(sortedHeap (h1.push (seqObj "list" vs.toArray 0)) h1.objs.size vs (pOut p vs)).get? b=some o:=fun b o eb=>by
  have lt:=Nat.lt_of_lt_of_le (lt_size eb) sz1
  rw[sortedHeap_old (h:=h1.push (seqObj "list" vs.toArray 0)) (b:=b) (Nat.ne_of_lt lt) (by rw[Heap.size_push];exact Nat.lt_succ_of_lt lt)]
  exact get?_push_of_some _ (old1 _ _ eb)
 have inside:∀i,i∈p.toList→i<bl.length:=fun i hi=>by
  have:=mem_range.mp (hp.perm.mem_iff.mp hi)
  omega
 have pt:∀i,i<bl.length→∃x y,ys.getD i V.non=.ref x∧H x=some (.tup [.ref y,.int (bl.getD i ([],0)).2])∧H y=some (.tup ((bl.getD i ([],0)).1.map V.int))∧vs.getD i Value.none=.ref x:=fun i hi=>by
  obtain⟨x,y,e1,e2,e3⟩:=pr.2 i _ (List.getElem?_eq_getElem hi)
  obtain⟨u,e4,ru⟩:=rv.get e1
  refine⟨x,y,?_,?_,?_,?_⟩
  ·rw[getD_eq_getElem?_getD,e1];rfl
  ·rw[getD_eq_getElem?_getD,List.getElem?_eq_getElem hi];exact e2
  ·rw[getD_eq_getElem?_getD,List.getElem?_eq_getElem hi];exact e3
  ·rw[getD_eq_getElem?_getD,e4];exact(show u=Value.ref x from ru)
 have rz:Vals (p.toList.map fun i=>ys.getD i V.non) (p.toList.map fun i=>vs.getD i Value.none):=by
  have:∀l:List Nat,(∀i∈l,i<bl.length)→Vals (l.map fun i=>ys.getD i V.non) (l.map fun i=>vs.getD i Value.none):=fun l=>by
   induction l with
   |nil=>intro _;exact .nil
   |cons i l ih=>
    intro hl
    obtain⟨x,y,e1,_,_,e2⟩:=pt i (hl i mem_cons_self)
    refine .cons ?_ (ih fun j hj=>hl j (mem_cons_of_mem _ hj))
    show RelV (ys.getD i V.non) (vs.getD i Value.none)
    rw[e1,e2]
    rfl
  exact this _ inside
 have lp:p.toList.length=bl.length:=by rw[length_toList,hp.size,lv]
 have fin:=q (p.toList.map fun i=>bl.getD i ([],0)) (p.toList.map fun i=>ys.getD i V.non) h1.objs.size ?_ ?_ ?_ (I.hok.fresh sz1)
 ·refine wpAny_pure ⟨_,rfl,.ref h1.objs.size,_,I.laid (a:=h1.objs.size) (t':=tk) (o:=.lst (p.toList.map fun i=>ys.getD i V.non)) old sz1 ?_,rfl,fin⟩
  exact⟨by rw[length_map,lp,sizeLine_eq];omega,_,e,rz,he⟩
 ·have h2:(List.range vs.length).map (fun i=>bl.getD i ([],0))=bl:=by
   apply ext_getElem?
   intro i
   rw[List.getElem?_map,lv]
   by_cases z:i<bl.length
   ·rw[getElem?_range z,List.getElem?_eq_getElem z]
    show some (bl.getD i ([],0))=_
    rw[getD_eq_getElem?_getD,List.getElem?_eq_getElem z]
    rfl
   ·rw[List.getElem?_eq_none (by simpa using z),List.getElem?_eq_none (by omega)]
    rfl
  have h3:=hp.perm.map fun i=>bl.getD i ([],0)
  rw[h2]at h3
  exact h3
 ·rw[pairwise_map]
  refine pairwise_iff_getElem.mpr fun i j hi hj hij=>?_
  have ei:p.getD i 0=p.toList[i]:=by simp[Array.getD,show i<p.size by simpa using hi]
  have ej:p.getD j 0=p.toList[j]:=by simp[Array.getD,show j<p.size by simpa using hj]
  have:=up.lt' hij (by rw[lv,←lp];exact hj)
  rw[ei,ej]at this
  have mi:∀m,m∈p.toList→(bl.getD m ([],0)).1∈bl.map (·.1):=fun m hm=>by
   have:=inside m hm
   rw[getD_eq_getElem?_getD,List.getElem?_eq_getElem this]
   exact mem_map_of_mem (getElem_mem _)
  rw[←rnk_iff (mi _ (getElem_mem _)) (mi _ (getElem_mem _))]
  exact decide_eq_true this
 ·refine⟨by rw[length_map,length_map],fun j b hb=>?_⟩
  rw[List.getElem?_map]at hb
  cases ej:p.toList[j]? with
  |none=>rw[ej]at hb;cases hb
  |some i=>
   rw[ej]at hb
   cases hb
   obtain⟨x,y,e1,e2,e3,_⟩:=pt i (inside i (mem_of_getElem? ej))
   refine⟨x,y,?_,e2,e3⟩
   rw[List.getElem?_map,ej]
   exact congrArg some e1
end L2
namespace L2
section
variable {X:Cx}
def rNeD (K:W.Frag)(n:Nat):R2:=fun x y H Q=>∃(a b:Addr) (xs ys:List V),x=.ref a∧y=.ref b∧SqL K H a xs∧SqL K H b ys∧xs.length=ys.length∧(∀(j:Nat) (u v:V),xs[j]?=some u→ys[j]?=some v→De H n u v)∧Q (.bl false) H
theorem op_neD {n:Nat}(hu:X.A.units+1+n<cLine):OpR X (compareOp .NotEq) (rNeD X.K n):=by
 intro pins s σ H x y v u Q I rx ry h
 obtain⟨a,b,xs,ys,rfl,rfl,ha,hb,hl,hd,q⟩:=h
 cases rx
 cases ry
 obtain⟨its,r1,p1,_⟩:=I.list ha
 obtain⟨its2,r2,p2,_⟩:=I.list hb
 have l1:=r1.length
 have l2:=r2.length
 refine of_rcne' (SeqAt.RcNeAt.lists (e:=fun _=>true) p1.isList p2.isList (by simp only[size_toArray];omega) (by omega) (fun j h1 h2=>?_)) ?_
 ·simp only[size_toArray]at h1 h2
  have g1:=List.getElem?_eq_getElem (show j<xs.length by omega)
  have g2:=List.getElem?_eq_getElem (show j<ys.length by omega)
  obtain⟨w1,f1,q1⟩:=r1.get g1
  obtain⟨w2,f2,q2⟩:=r2.get g2
  have a1:its.toArray[j]'(by simpa using h1)=w1:=by
   have:=(List.getElem?_eq_some_iff.mp f1).2
   simpa using this
  have a2:its2.toArray[j]'(by simpa using h2)=w2:=by
   have:=(List.getElem?_eq_some_iff.mp f2).2
   simpa using this
  rw[a1,a2]
  exact de_eqAt I n (A:=X.A.in1) (by show X.A.units+1+n<cLine;exact hu) (hd j _ _ g1 g2) q1 q2
 ·rw[show(List.range its.toArray.size).all (fun _=>true)=true from all_eq_true.mpr fun _ _=>rfl]
  exact⟨.bl false,H,I,rfl,q⟩
end
open PySem PySem.W PyProof.Rows
noncomputable def leap:Bool→Keyed→Array Keyed→Nat→Nat→Nat→StateT SortSt Sem (Option Nat):=sortPriv% PySem.Builtin.gallop
noncomputable def joinL:Array Keyed→Array Keyed→StateT SortSt Sem (Array Keyed):=sortPriv% PySem.Builtin.mergeLo
noncomputable def joinR:Array Keyed→Array Keyed→StateT SortSt Sem (Array Keyed):=sortPriv% PySem.Builtin.mergeHi
def Asks (prog:Program)(w:World)(A:Around)(s:Shared)(kd:SortKind)(G:Keyed→Prop)(r:Keyed→Int):Prop:=
 ∀(E:Value→Shared→Prop) (x y:Keyed) (Q:Option Bool→SortSt→Prop) (st:SortSt),G x→G y→kindOf st=kd→Q (some (decide (r x<r y))) st→wpS (model prog w) A E s (lt' x y) Q st
abbrev Ris (r:Keyed→Int)(l:List Keyed):Prop:=l.Pairwise fun x y=>r x<r y
theorem thr {r:Keyed→Int}{k:Int}:∀{l:List Keyed},Ris r l→(∀x∈l,r x≠k)→∃t,t≤l.length∧(∀x∈l.take t,r x<k)∧∀x∈l.drop t,k<r x
 |[],_,_=>⟨0,Nat.le_refl _,by simp,by simp⟩
 |a::l,h,ne=>by
  obtain⟨h1,h2⟩:=pairwise_cons.mp h
  by_cases c:r a<k
  ·obtain⟨t,t1,t2,t3⟩:=thr h2 fun x hx=>ne x (mem_cons_of_mem _ hx)
   refine⟨t+1,by simpa using t1,fun x hx=>?_,by simpa using t3⟩
   rw[List.take_succ_cons]at hx
   rcases mem_cons.mp hx with rfl | hx
   ·exact c
   ·exact t2 x hx
  ·have:=ne a mem_cons_self
   refine⟨0,Nat.zero_le _,by simp,fun x hx=>?_⟩
   rw[drop_zero]at hx
   rcases mem_cons.mp hx with rfl | hx
   ·omega
   ·have:=h1 x hx
    omega
section
variable {prog:Program}{w:World}{A:Around}{E:Value→Shared→Prop}{s:Shared}{kd:SortKind}{G:Keyed→Prop}{r:Keyed→Int}{st:SortSt}
theorem elem_is {α:Type}{a:Array Keyed}{i:Nat}{x:Keyed}{Q:Keyed→SortSt→Prop}(h:a[i]?=some x)(q:Q x st):wpS (model prog w) A E s (elem' a i) Q st:=by
 rw[elem'_eq,h]
 exact wpS_pure q
theorem beyond_is (ask:Asks prog w A s kd G r)(hk:kindOf st=kd){left:Bool}{key x:Keyed}{arr:Array Keyed}{i:Nat}{Q:Option Bool→SortSt→Prop}(hx:arr[i]?=some x)(gx:G x)(gk:G key)(ne:r x≠r key)(q:Q (some (decide (r x<r key))) st) :
 wpS (model prog w) A E s (elem' arr i >>= fun x=>if left=true then lt' x key else lt' key x >>= fun b=>pure (b.map fun c=>!c)) Q st:=by
 refine wpS_bind (elem_is (α:=Unit) hx ?_)
 cases left with
 |true=>exact ask _ _ _ _ _ gx gk hk q
 |false=>
  rw[if_neg Bool.false_ne_true]
  refine wpS_bind (ask _ _ _ _ _ gk gx hk (wpS_pure ?_))
  have e:(!decide (r key<r x))=decide (r x<r key):=by
   by_cases c:r x<r key
   ·rw[decide_eq_true c,decide_eq_false (by omega)];rfl
   ·rw[decide_eq_false c,decide_eq_true (by omega)];rfl
  show Q (some (!decide (r key<r x))) st
  rw[e]
  exact q
theorem leap_is (ask:Asks prog w A s kd G r)(hk:kindOf st=kd){left:Bool}{key:Keyed}{arr:Array Keyed}{base n hint:Nat}{l:List Keyed}{Q:Option Nat→SortSt→Prop}(hl:∀i,i<n→arr[base+i]?=l[i]?)(len:l.length=n)(gl:∀x∈l,G x)(gk:G key)(ri:Ris r l)
 (ne:∀x∈l,r x≠r key) (hh:hint<n) (q:∀t,t≤n→(∀x∈l.take t,r x<r key)→(∀x∈l.drop t,r key<r x)→Q (some t) st):wpS (model prog w) A E s (leap left key arr base n hint) Q st:=by
 obtain⟨t,t1,t2,t3⟩:=thr ri ne
 rw[len]at t1
 have bey:∀i (E':Value→Shared→Prop) (Q':Option Bool→SortSt→Prop),i<n→Q' (some (decide (i<t))) st→wpS (model prog w) A E' s (elem' arr (base+i) >>= fun x=>if left=true then lt' x key else lt' key x >>= fun b=>pure (b.map fun c=>!c)) Q' st:=fun i E' Q' hi q'=>by
  have hi':i<l.length:=by omega
  have hx:arr[base+i]?=some l[i]:=by rw[hl i hi,List.getElem?_eq_getElem hi']
  refine beyond_is ask hk hx (gl _ (getElem_mem _)) gk (ne _ (getElem_mem _)) ?_
  have e:decide (r l[i]<r key)=decide (i<t):=by
   by_cases c:i<t
   ·rw[decide_eq_true c]
    exact decide_eq_true (t2 _ (List.mem_take_iff_getElem.mpr ⟨i,by omega,rfl⟩))
   ·rw[decide_eq_false c]
    have:l[i]∈l.drop t:=List.mem_drop_iff_getElem.mpr ⟨i - t,by omega,by congr 1;omega⟩
    have:=t3 _ this
    exact decide_eq_false (by omega)
  rw[e]
  exact q'
 have last:∀(lo hi:Nat),lo≤t→t≤hi→hi≤n→wpS (model prog w) A E s (forIn [:n] ((none,lo,hi):Option (Option Nat)×Nat×Nat) fun(x:Nat) __s=>if __s.snd.fst≥__s.snd.snd then pure (ForInStep.done (none,__s.snd.fst,__s.snd.snd)) else
  (elem' arr (base+(__s.snd.fst+(__s.snd.snd - __s.snd.fst) / 2)) >>= fun x=>if left=true then lt' x key else lt' key x >>= fun b=>pure (b.map fun c=>!c)) >>= fun y=>match y with
   |some more=>if more=true then pure (ForInStep.yield (none,__s.snd.fst+(__s.snd.snd - __s.snd.fst) / 2+1,__s.snd.snd)) else pure (ForInStep.yield (none,__s.snd.fst,__s.snd.fst+(__s.snd.snd - __s.snd.fst) / 2))
   |_=>pure (ForInStep.done (some none,__s.snd.fst,__s.snd.snd))) (fun c st'=>st'=st∧c.1=none∧c.2.2=t) st:=fun lo hi h1 h2 h3=>by
  refine wpS_forRange (I:=fun i c st'=>st'=st∧∃lo hi,c=(none,lo,hi)∧lo≤t∧t≤hi∧hi≤n∧hi - lo+i≤n) ?_ ?_ ⟨rfl,lo,hi,rfl,h1,h2,h3,by omega⟩
  ·rintro i c st' _ hi ⟨rfl,lo,hi',rfl,a1,a2,a3,a4⟩
   dsimp only
   by_cases c:lo≥hi'
   ·rw[if_pos c]
    exact wpS_pure ⟨rfl,rfl,by show hi'=t;omega⟩
   ·rw[if_neg c]
    refine wpS_bind (bey _ _ _ (by omega) ?_)
    by_cases c2:lo+(hi' - lo) / 2<t
    ·rw[decide_eq_true c2]
     exact wpS_pure ⟨rfl,_,_,rfl,by omega,a2,a3,by omega⟩
    ·rw[decide_eq_false c2]
     exact wpS_pure ⟨rfl,_,_,rfl,a1,by omega,by omega,by omega⟩
  ·rintro c st' ⟨rfl,lo,hi',rfl,a1,a2,a3,a4⟩
   refine⟨rfl,rfl,?_⟩
   show hi'=t
   omega
 refine wpS_bind (bey hint _ _ hh ?_)
 by_cases c:hint<t
 ·rw[decide_eq_true c]
  dsimp only
  rw[if_pos rfl]
  refine wpS_bind (wpS_mono (wpS_forRange (I:=fun i c st'=>st'=st∧∃lo hi,c=(none,lo,hi)∧hint+lo<t∧i+1≤hi) (Q:=fun c st'=>st'=st∧∃lo hi,c=(none,lo,hi)∧hint+lo<t∧(n - hint≤hi∨t≤hint+hi)) ?_ ?_ ⟨rfl,0,1,rfl,c,Nat.le_refl _⟩) ?_)
  ·rintro i c st' _ hi ⟨rfl,lo,hi',rfl,a1,a2⟩
   dsimp only
   by_cases c:hi'≥n - hint
   ·rw[if_pos c]
    exact wpS_pure ⟨rfl,_,_,rfl,a1,.inl c⟩
   ·rw[if_neg c]
    refine wpS_bind (bey (hint+hi') _ _ (by omega) ?_)
    by_cases c2:hint+hi'<t
    ·rw[decide_eq_true c2]
     exact wpS_pure ⟨rfl,_,_,rfl,c2,by omega⟩
    ·rw[decide_eq_false c2]
     exact wpS_pure ⟨rfl,_,_,rfl,a1,.inr (by omega)⟩
  ·rintro c st' ⟨rfl,lo,hi',rfl,a1,a2⟩
   exact⟨rfl,_,_,rfl,a1,.inl (by omega)⟩
  ·rintro c st' ⟨rfl,lo,hi',rfl,a1,a2⟩
   dsimp only
   refine wpS_bind (wpS_mono (last _ _ (by omega) (by omega) (by omega)) ?_)
   rintro⟨c1,c2,c3⟩ st' ⟨rfl,z1,z2⟩
   obtain rfl:c1=none:=z1
   obtain rfl:c3=t:=z2
   exact wpS_pure (q _ t1 t2 t3)
 ·rw[decide_eq_false c]
  dsimp only
  rw[if_neg Bool.false_ne_true]
  refine wpS_bind (wpS_mono (wpS_forRange (I:=fun i c st'=>st'=st∧∃lo hi,c=(none,lo,hi)∧lo≤hint∧t≤hint - lo∧i+1≤hi) (Q:=fun c st'=>st'=st∧∃lo hi,c=(none,lo,hi)∧lo≤hint∧t≤hint - lo∧(hint+1≤hi∨hint - hi<t)) ?_ ?_ ⟨rfl,0,1,rfl,Nat.zero_le _,by omega,Nat.le_refl _⟩) ?_)
  ·rintro i c st' _ hi ⟨rfl,lo,hi',rfl,a1,a2,a3⟩
   dsimp only
   by_cases c:hi'≥hint+1
   ·rw[if_pos c]
    exact wpS_pure ⟨rfl,_,_,rfl,a1,a2,.inl c⟩
   ·rw[if_neg c]
    refine wpS_bind (bey (hint - hi') _ _ (by omega) ?_)
    by_cases c2:hint - hi'<t
    ·rw[decide_eq_true c2]
     exact wpS_pure ⟨rfl,_,_,rfl,a1,a2,.inr c2⟩
    ·rw[decide_eq_false c2]
     exact wpS_pure ⟨rfl,_,_,rfl,by omega,by omega,by omega⟩
  ·rintro c st' ⟨rfl,lo,hi',rfl,a1,a2,a3⟩
   exact⟨rfl,_,_,rfl,a1,a2,.inl (by omega)⟩
  ·rintro c st' ⟨rfl,lo,hi',rfl,a1,a2,a3⟩
   dsimp only
   refine wpS_bind (wpS_mono (last _ _ (by omega) (by omega) (by omega)) ?_)
   rintro⟨c1,c2,c3⟩ st' ⟨rfl,z1,z2⟩
   obtain rfl:c1=none:=z1
   obtain rfl:c3=t:=z2
   exact wpS_pure (q _ t1 t2 t3)
end
end L2
namespace L2
open PySem PySem.W PyProof.Rows
structure Part (r:Keyed→Int)(a b o x y:List Keyed):Prop where
 pm:(o++x++y).Perm (a++b)
 rx:Ris r (o++x)
 ry:Ris r (o++y)
section
variable {r:Keyed→Int}{a b o x y:List Keyed}
theorem Part.swap (h:Part r a b o x y):Part r b a o y x:=by
 refine⟨?_,h.ry,h.rx⟩
 refine List.Perm.trans ?_ (h.pm.trans perm_append_comm)
 rw[List.append_assoc,List.append_assoc]
 exact List.Perm.append_left _ perm_append_comm
theorem Part.take {t:List Keyed}(h:Part r a b o (t++x) y)(lt:∀u∈t,∀v∈y,r u<r v):Part r a b (o++t) x y:=by
 refine⟨by simpa[List.append_assoc]using h.pm,by simpa[List.append_assoc]using h.rx,?_⟩
 have h1:=pairwise_append.mp h.rx
 have h2:=pairwise_append.mp h1.2.1
 have h3:=pairwise_append.mp h.ry
 refine pairwise_append.mpr ⟨pairwise_append.mpr ⟨h1.1,h2.1,fun u hu v hv=>h1.2.2 u hu v (mem_append_left _ hv)⟩,h3.2.1,fun u hu v hv=>?_⟩
 rcases mem_append.mp hu with z | z
 ·exact h3.2.2 u z v hv
 ·exact lt u z v hv
def Whole (r:Keyed→Int)(a b:List Keyed)(o:Array Keyed):Prop:=o.toList.Perm (a++b)∧Ris r o.toList
theorem Part.endY {p:Array Keyed}(h:Part r a b o x [])(e:p.toList=o++x):Whole r a b p:=⟨by rw[e];simpa using h.pm,by rw[e];exact h.rx⟩
theorem Part.endX {p:Array Keyed}(h:Part r a b o [] y)(e:p.toList=o++y):Whole r a b p:=⟨by rw[e];simpa using h.pm,by rw[e];exact h.ry⟩
theorem Part.endOne {p:Array Keyed}{z:Keyed}(h:Part r a b o [z] y)(lt:∀v∈y,r v<r z)(e:p.toList=o++y++[z]):Whole r a b p:=by
 refine⟨?_,?_⟩
 ·rw[e]
  refine List.Perm.trans ?_ h.pm
  rw[List.append_assoc,List.append_assoc]
  exact List.Perm.append_left _ perm_append_comm
 ·rw[e]
  have h1:=pairwise_append.mp h.rx
  refine pairwise_append.mpr ⟨h.ry,h1.2.1,fun u hu v hv=>?_⟩
  rcases mem_append.mp hu with q | q
  ·exact h1.2.2 u q v hv
  ·rw[mem_singleton.mp hv];exact lt u q
theorem ext_list (p:Array Keyed)(i k:Nat):(p.extract i (i+k)).toList=(p.toList.drop i).take k:=by
 simp[toList_extract,List.extract_eq_take_drop]
theorem ext_rest (p:Array Keyed)(i:Nat):(p.extract i).toList=p.toList.drop i:=by
 rw[toList_extract,List.extract_eq_take_drop]
 exact take_of_length_le (by rw[length_drop,length_toList];exact Nat.le_refl _)
end
structure Like (st st':SortSt):Prop where
 kd:kindOf st'=kindOf st
 ar:arrOf st'=arrOf st
 pd:pendingOf st'=pendingOf st
 fl:failedOf st'=failedOf st
theorem Like.refl (st:SortSt):Like st st:=⟨rfl,rfl,rfl,rfl⟩
section
variable {prog:Program}{w:World}{A:Around}{E:Value→Shared→Prop}{s:Shared}{kd:SortKind}{G:Keyed→Prop}{r:Keyed→Int}{st:SortSt}
theorem wp_if {α:Type}{c:Prop}[Decidable c]{m n:StateT SortSt Sem α}{M:Model}{Q:α→SortSt→Prop}(h1:c→wpS M A E s m Q st)(h2:¬c→wpS M A E s n Q st):wpS M A E s (if c then m else n) Q st:=by
 by_cases h:c
 ·rw[if_pos h];exact h1 h
 ·rw[if_neg h];exact h2 h
theorem wp_named {α:Type}{m:StateT SortSt Sem α}{M:Model}{Q:α→SortSt→Prop}(h:∀Q',Q'=Q→wpS M A E s m Q' st):wpS M A E s m Q st:=h _ rfl
theorem wp_jump {α β:Type}{c:Prop}[Decidable c]{f:β→StateT SortSt Sem α}{x y:β}{M:Model}{Q:α→SortSt→Prop}(h:∀z,wpS M A E s (f z) Q st):wpS M A E s (if c then f x else f y) Q st:=wp_if (fun _=>h _) fun _=>h _
theorem joinL_is (ask:Asks prog w A s kd G r)(hk:kindOf st=kd){a b:Array Keyed}{Q:Array Keyed→SortSt→Prop}(na:0<a.size)(nb:0<b.size)(ra:Ris r a.toList)(rb:Ris r b.toList)(ga:∀x∈a.toList,G x)(gb:∀x∈b.toList,G x)
 (ne:∀x∈a.toList,∀y∈b.toList,r x≠r y) (first:∀x∈a.toList,∀y,b[0]?=some y→r y<r x) (top:∀z,a[a.size - 1]?=some z→∀y∈b.toList,r y<r z)
 (q:∀o st',Like st st'→Whole r a.toList b.toList o→Q o st'):wpS (model prog w) A E s (joinL a b) Q st:=by
 obtain⟨la,ea⟩:∃l,a.toList=l:=⟨_,rfl⟩
 obtain⟨lb,eb⟩:∃l,b.toList=l:=⟨_,rfl⟩
 have sa:a.size=la.length:=by rw[←ea,length_toList]
 have sb:b.size=lb.length:=by rw[←eb,length_toList]
 have gea:∀i,a[i]?=la[i]?:=fun i=>by rw[←ea,getElem?_toList]
 have geb:∀i,b[i]?=lb[i]?:=fun i=>by rw[←eb,getElem?_toList]
 rw[ea]at ra ga ne first q
 rw[eb]at rb gb ne top q
 have fin1:∀{o:Array Keyed} {i j:Nat},Part r la lb o.toList (la.drop i) (lb.drop j)→lb.length≤j→Whole r la lb (o++a.extract i++b.extract j):=fun{o i j} P h=>by
  rw[drop_of_length_le h]at P
  refine P.endY ?_
  rw[toList_append,toList_append,ext_rest,ext_rest,ea,eb,drop_of_length_le h,append_nil]
 have fin2:∀{o:Array Keyed} {i j:Nat},Part r la lb o.toList (la.drop i) (lb.drop j)→la.length≤i→Whole r la lb (o++a.extract i++b.extract j):=fun{o i j} P h=>by
  rw[drop_of_length_le h]at P
  refine P.endX ?_
  rw[toList_append,toList_append,ext_rest,ext_rest,ea,eb,drop_of_length_le h,append_nil]
 have fin3:∀{o:Array Keyed} {i j:Nat},Part r la lb o.toList (la.drop i) (lb.drop j)→i+1=la.length→Whole r la lb (o++b.extract j++a.extract i):=fun{o i j} P h=>by
  have hi:i<la.length:=by omega
  have e1:la.drop i=[la[i]]:=by rw[drop_eq_getElem_cons hi,drop_of_length_le (by omega)]
  rw[e1]at P
  refine P.endOne (z:=la[i]) (fun v hv=>top _ ?_ v (mem_of_mem_drop hv)) ?_
  ·rw[gea,sa,←h,show i+1 - 1=i by omega,List.getElem?_eq_getElem hi]
  ·rw[toList_append,toList_append,ext_rest,ext_rest,ea,eb,e1]
 have la1:0<la.length:=by omega
 have lb1:0<lb.length:=by omega
 -- one from the right list
 have tkB:∀{o:Array Keyed} {i j k:Nat},Part r la lb o.toList (la.drop i) (lb.drop j)→(∀u∈(lb.drop j).take k,∀v∈la.drop i,r u<r v)→∀{o':Array Keyed},o'.toList=o.toList++(lb.drop j).take k→Part r la lb o'.toList (la.drop i) (lb.drop (j+k)):=fun{o i j k} P h {o'} e=>by
  have:=P.swap
  rw[←take_append_drop k (lb.drop j)]at this
  have:=(this.take h).swap
  rw[e]
  rw[drop_drop]at this
  exact this
 have tkA:∀{o:Array Keyed} {i j k:Nat},Part r la lb o.toList (la.drop i) (lb.drop j)→(∀u∈(la.drop i).take k,∀v∈lb.drop j,r u<r v)→∀{o':Array Keyed},o'.toList=o.toList++(la.drop i).take k→Part r la lb o'.toList (la.drop (i+k)) (lb.drop j):=fun{o i j k} P h {o'} e=>by
  rw[←take_append_drop k (la.drop i)]at P
  have:=P.take h
  rw[e]
  rw[drop_drop]at this
  exact this
 have one:∀{l:List Keyed} {i:Nat} (h:i<l.length),(l.drop i).take 1=[l[i]]:=fun{l i} h=>by rw[drop_eq_getElem_cons h];rfl
 have hd:∀{l:List Keyed} {i:Nat} (h:i<l.length),Ris r l→∀v∈l.drop i,v=l[i]∨r l[i]<r v:=fun{l i} h rl v hv=>by
  have:=rl.drop (i:=i)
  rw[drop_eq_getElem_cons h]at this hv
  rcases mem_cons.mp hv with z | z
  ·exact .inl z
  ·exact .inr ((pairwise_cons.mp this).1 v z)
 have start:Part r la lb (#[lb[0]]:Array Keyed).toList (la.drop 0) (lb.drop 1):=by
  have P0:Part r la lb (#[]:Array Keyed).toList (la.drop 0) (lb.drop 0):=⟨by simp,by simpa using ra,by simpa using rb⟩
  refine tkB (k:=1) P0 (fun u hu v hv=>?_) (by rw[one lb1];rfl)
  rw[one lb1,mem_singleton]at hu
  subst hu
  exact first v (mem_of_mem_drop hv) _ (by rw[geb,List.getElem?_eq_getElem lb1])
 refine wpS_bind (wpS_lift (wpAny_rule ⟨rfl,?_⟩))
 refine wpS_bind (elem_is (α:=Unit) (x:=lb[0]) (by rw[geb,List.getElem?_eq_getElem lb1]) ?_)
 have size:∀{o:Array Keyed} {i j:Nat},Part r la lb o.toList (la.drop i) (lb.drop j)→i≤la.length→j≤lb.length→o.size=i+j:=fun{o i j} P h1 h2=>by
  have:=P.pm.length_eq
  simp only[length_append,length_drop,length_toList]at this
  omega
 refine wp_if (fun c0=>wpS_pure (q _ _ (.refl _) (fin1 start (by have:=beq_iff_eq.mp c0;omega)))) fun c0=>?_
 refine wp_if (fun c1=>wpS_pure (q _ _ (.refl _) (fin3 start (by have:=beq_iff_eq.mp c1;omega)))) fun c1=>?_
 have c0:1≠b.size:=fun e=>c0 (beq_iff_eq.mpr e)
 have c1:0+1≠a.size:=fun e=>c1 (beq_iff_eq.mpr e)
 refine wpS_bind (wpS_get ?_)
 refine wpS_bind (wpS_mono (wpS_forRange (I:=fun i c st'=>Like st st'∧∃o ia ib g,c=(none,o,ia,ib,g)∧Part r la lb o.toList (la.drop ia) (lb.drop ib)∧ia+1<la.length∧ib<lb.length∧i+1≤o.size)
  (Q:=fun c st'=>Like st st'∧∃o,c.1=some o∧Whole r la lb o) ?_ ?_ ⟨.refl _,_,_,_,_,rfl,start,by omega,by omega,Nat.le_refl _⟩) ?_)
 rotate_left
 ·rintro c st' ⟨L,o,ia,ib,g,rfl,P,h1,h2,h3⟩
  have:=size P (by omega) (by omega)
  omega
 ·rintro⟨c1,c2⟩ st' ⟨L,o,e,W⟩
  obtain rfl:c1=some o:=e
  exact wpS_pure (q _ _ L W)
 rintro i c st1 _ hi ⟨L,o,ia,ib,g,rfl,P,h1,h2,h3⟩
 refine wpS_bind (wpS_mono (wpS_forRange (I:=fun j c st'=>st'=st1∧∃o' ia ib ac bc,c=(none,o',ia,ib,ac,bc)∧Part r la lb o'.toList (la.drop ia) (lb.drop ib)∧ia+1<la.length∧ib<lb.length∧o.size+j≤o'.size)
  (Q:=fun c st'=>st'=st1∧((∃o,c.1=some o∧Whole r la lb o)∨∃o' ia ib ac bc,c=(none,o',ia,ib,ac,bc)∧Part r la lb o'.toList (la.drop ia) (lb.drop ib)∧ia+1<la.length∧ib<lb.length∧o.size+1≤o'.size)) ?_ ?_ ⟨rfl,_,_,_,_,_,rfl,P,h1,h2,Nat.le_refl _⟩) ?_)
 ·rintro j c st' _ hj ⟨rfl,o',ia,ib,ac,bc,rfl,P,h1,h2,h3⟩
  have hia:ia<la.length:=by omega
  refine wpS_bind (elem_is (α:=Unit) (x:=lb[ib]) (by rw[geb,List.getElem?_eq_getElem h2]) ?_)
  refine wpS_bind (elem_is (α:=Unit) (x:=la[ia]) (by rw[gea,List.getElem?_eq_getElem hia]) ?_)
  refine wpS_bind (ask _ _ _ _ _ (gb _ (getElem_mem _)) (ga _ (getElem_mem _)) (L.kd.trans hk) ?_)
  have nn:=ne la[ia] (getElem_mem _) lb[ib] (getElem_mem _)
  by_cases c:r lb[ib]<r la[ia]
  ·rw[decide_eq_true c]
   have P':Part r la lb (o'.push lb[ib]).toList (la.drop ia) (lb.drop (ib+1)):=tkB (k:=1) P (fun u hu v hv=>by
    rw[one h2,mem_singleton]at hu
    subst hu
    rcases hd hia ra v hv with z | z
    ·rw[z];exact c
    ·omega) (by rw[one h2,toList_push])
   have sz:=Array.size_push lb[ib] (xs:=o')
   refine wp_if (fun _=>?_) fun z=>absurd rfl z
   refine wpS_bind (elem_is (α:=Unit) (x:=lb[ib]) (by rw[geb,List.getElem?_eq_getElem h2]) ?_)
   refine wp_if (fun e=>wpS_pure ⟨rfl,.inl ⟨_,rfl,fin1 P' (by have:=beq_iff_eq.mp e;omega)⟩⟩) fun e=>?_
   have e:ib+1≠b.size:=fun z=>e (beq_iff_eq.mpr z)
   exact wp_if (fun _=>wpS_pure ⟨rfl,.inr ⟨_,_,_,_,_,rfl,P',h1,(by try dsimp only;omega),(by try dsimp only;omega)⟩⟩) fun _=>wpS_pure ⟨rfl,_,_,_,_,_,rfl,P',h1,(by try dsimp only;omega),(by try dsimp only;omega)⟩
  ·rw[decide_eq_false c]
   have P':Part r la lb (o'.push la[ia]).toList (la.drop (ia+1)) (lb.drop ib):=tkA (k:=1) P (fun u hu v hv=>by
    rw[one hia,mem_singleton]at hu
    subst hu
    rcases hd h2 rb v hv with z | z
    ·rw[z];omega
    ·omega) (by rw[one hia,toList_push])
   have sz:=Array.size_push la[ia] (xs:=o')
   refine wp_if (fun z=>absurd z Bool.false_ne_true) fun _=>?_
   refine wpS_bind (elem_is (α:=Unit) (x:=la[ia]) (by rw[gea,List.getElem?_eq_getElem hia]) ?_)
   refine wp_if (fun e=>wpS_pure ⟨rfl,.inl ⟨_,rfl,fin3 P' (by have:=beq_iff_eq.mp e;omega)⟩⟩) fun e=>?_
   have e:ia+1+1≠a.size:=fun z=>e (beq_iff_eq.mpr z)
   exact wp_if (fun _=>wpS_pure ⟨rfl,.inr ⟨_,_,_,_,_,rfl,P',(by try dsimp only;omega),h2,(by try dsimp only;omega)⟩⟩) fun _=>wpS_pure ⟨rfl,_,_,_,_,_,rfl,P',(by try dsimp only;omega),h2,(by try dsimp only;omega)⟩
 ·rintro c st' ⟨rfl,o',ia,ib,ac,bc,rfl,P,h1,h2,h3⟩
  exact⟨rfl,.inr ⟨_,_,_,_,_,rfl,P,h1,h2,by omega⟩⟩
 rintro c st' ⟨rfl,⟨w1,e,W⟩ | ⟨o',ia,ib,ac,bc,rfl,P,h1,h2,h4⟩⟩
 ·obtain⟨c1,c2⟩:=c
  obtain rfl:c1=some w1:=e
  exact wpS_pure ⟨L,_,rfl,W⟩
 refine wpS_bind (wpS_lift (wpAny_rule ⟨rfl,?_⟩))
 refine wpS_bind (wpS_mono (wpS_forRange (I:=fun j c st'=>Like st st'∧∃o' ia ib g ac bc,c=(none,o',ia,ib,g,ac,bc)∧Part r la lb o'.toList (la.drop ia) (lb.drop ib)∧ia+1<la.length∧ib<lb.length∧o.size+1≤o'.size)
  (Q:=fun c st'=>Like st st'∧((∃o,c.1=some o∧Whole r la lb o)∨∃o' ia ib g ac bc,c=(none,o',ia,ib,g,ac,bc)∧Part r la lb o'.toList (la.drop ia) (lb.drop ib)∧ia+1<la.length∧ib<lb.length∧o.size+1≤o'.size)) ?_ ?_ ⟨L,_,_,_,_,_,_,rfl,P,h1,h2,h4⟩) ?_)
 ·rintro j c st2 _ hj ⟨L2,o',ia,ib,g,ac,bc,rfl,P,h1,h2,h3⟩
  lift_lets
  intro s1 out1 s2 ia1 s3 ib1 s4 g1 s5 ac1 bc1 ib2 jp g2
  refine wp_named fun Q' hQ=>?_
  have fD:∀{c o st'},Like st st'→c.1=some o→Whole r la lb o→Q' (.done c) st':=fun{c o st'} x y z=>by subst hQ;exact⟨x,.inl ⟨o,y,z⟩⟩
  have fN:∀{st' u i j g ac bc},Like st st'→Part r la lb u.toList (la.drop i) (lb.drop j)→i+1<la.length→j<lb.length→o.size+1≤u.size→Q' (.done (none,u,i,j,g,ac,bc)) st'∧Q' (.yield (none,u,i,j,g,ac,bc)) st':=fun{st' u i j g ac bc} x y z v q=>by
   subst hQ;exact⟨⟨x,.inr ⟨_,_,_,_,_,_,rfl,y,z,v,q⟩⟩,x,_,_,_,_,_,_,rfl,y,z,v,q⟩
  clear hQ
  have hia:ia<la.length:=by omega
  refine wp_jump (f:=jp ()) fun g'=>?_
  refine wpS_bind (wpS_modify ?_)
  refine wpS_bind (elem_is (α:=Unit) (x:=lb[ib]) (by show b[ib]?=_;rw[geb,List.getElem?_eq_getElem h2]) ?_)
  have L3:Like st (SortSt.mk' (kindOf st2) (arrOf st2) (pendingOf st2) g' (failedOf st2)):=⟨L2.kd,L2.ar,L2.pd,L2.fl⟩
  refine wpS_bind (leap_is ask (L3.kd.trans hk) (l:=la.drop ia) (fun i _=>by show a[ia+i]?=_;rw[gea,getElem?_drop]) (by show _=a.size - ia;rw[length_drop,sa]) (fun x hx=>ga x (mem_of_mem_drop hx)) (gb _ (getElem_mem _)) (ra.drop) (fun x hx=>ne x (mem_of_mem_drop hx) _ (getElem_mem _)) (by show 0<a.size - ia;omega) fun t t1 t2 t3=>?_)
  rw[drop_drop]at t3
  have t1:ia+t≤la.length:=by have:t≤a.size - ia:=t1;omega
  dsimp -zeta only
  lift_lets
  intro ac2 jp2 out2 ia2
  have J2:∀u i,Part r la lb u.toList (la.drop i) (lb.drop ib)→i+1<la.length→(∀x∈la.drop i,r lb[ib]<r x)→o.size+1≤u.size→wpS (model prog w) A E s (jp2 () u i) Q' (SortSt.mk' (kindOf st2) (arrOf st2) (pendingOf st2) g' (failedOf st2)):=fun u i P hi lt hz=>by
   have hi':i<la.length:=by omega
   refine wpS_bind (elem_is (α:=Unit) (x:=lb[ib]) (by show b[ib]?=_;rw[geb,List.getElem?_eq_getElem h2]) ?_)
   have P':Part r la lb (u.push lb[ib]).toList (la.drop i) (lb.drop (ib+1)):=tkB (k:=1) P (fun x hx v hv=>by
    rw[one h2,mem_singleton]at hx
    subst hx
    exact lt v hv) (by rw[one h2,toList_push])
   have sz:=Array.size_push lb[ib] (xs:=u)
   refine wp_if (fun e=>wpS_pure (fD L3 rfl (fin1 P' (by show lb.length≤ib+1;have:ib+1=b.size:=beq_iff_eq.mp e;omega)))) fun e=>?_
   have e:¬ib+1=b.size:=fun z=>e (beq_iff_eq.mpr z)
   refine wpS_bind (elem_is (α:=Unit) (x:=la[i]) (by rw[gea,List.getElem?_eq_getElem hi']) ?_)
   refine wpS_bind (leap_is ask (L3.kd.trans hk) (l:=lb.drop (ib+1)) (fun i _=>by show b[ib+1+i]?=_;rw[geb,getElem?_drop]) (by show _=b.size - (ib+1);rw[length_drop,sb]) (fun x hx=>gb x (mem_of_mem_drop hx)) (ga _ (getElem_mem _)) (rb.drop) (fun x hx z=>ne _ (getElem_mem _) x (mem_of_mem_drop hx) z.symm) (by show 0<b.size - (ib+1);omega) fun t' q1 q2 q3=>?_)
   rw[drop_drop]at q3
   have q1:ib+1+t'≤lb.length:=by have:t'≤b.size - (ib+1):=q1;omega
   dsimp -zeta only
   lift_lets
   intro bc2 jp3 out3 ib3
   have J3:∀u j,Part r la lb u.toList (la.drop i) (lb.drop j)→j<lb.length→(∀x∈lb.drop j,r la[i]<r x)→o.size+1≤u.size→wpS (model prog w) A E s (jp3 () u j) Q' (SortSt.mk' (kindOf st2) (arrOf st2) (pendingOf st2) g' (failedOf st2)):=fun u j P hj lt hz=>by
    refine wpS_bind (elem_is (α:=Unit) (x:=la[i]) (by rw[gea,List.getElem?_eq_getElem hi']) ?_)
    have P':Part r la lb (u.push la[i]).toList (la.drop (i+1)) (lb.drop j):=tkA (k:=1) P (fun x hx v hv=>by
     rw[one hi',mem_singleton]at hx
     subst hx
     exact lt v hv) (by rw[one hi',toList_push])
    have sz:=Array.size_push la[i] (xs:=u)
    refine wp_if (fun e=>wpS_pure (fD L3 rfl (fin3 P' (by show i+1+1=la.length;have:i+1+1=a.size:=beq_iff_eq.mp e;omega)))) fun e=>?_
    have e:¬i+1+1=a.size:=fun z=>e (beq_iff_eq.mpr z)
    have F:=fun{g ac bc}=>fN (g:=g) (ac:=ac) (bc:=bc) L3 P' (by omega) hj (by omega)
    exact wp_if (fun _=>wpS_pure F.1) fun _=>wpS_pure F.2
   have P2:Part r la lb (u.push lb[ib]++b.extract (ib+1) (ib+1+t')).toList (la.drop i) (lb.drop (ib+1+t')):=tkB (k:=t') P' (fun x hx v hv=>by
    have:=q2 x hx
    rcases hd hi' ra v hv with z | z
    ·rw[z];exact this
    ·omega) (by rw[toList_append,ext_list,eb])
   have z2:(u.push lb[ib]).size≤(u.push lb[ib]++b.extract (ib+1) (ib+1+t')).size:=by rw[size_append];omega
   refine wp_if (fun k0=>wp_if (fun e=>wpS_pure (fD L3 rfl (fin1 P2 ?_))) fun e=>?_) fun k0=>?_
   ·have:ib+1+t'=b.size:=beq_iff_eq.mp e
    show lb.length≤ib+1+t'
    omega
   ·have e:¬ib+1+t'=b.size:=fun z=>e (beq_iff_eq.mpr z)
    exact J3 _ _ P2 (by show ib+1+t'<_;omega) q3 (by show _≤(u.push lb[ib]++b.extract (ib+1) (ib+1+t')).size;omega)
   ·have k0:t'=0:=by have:¬t'>0:=k0;omega
    subst k0
    exact J3 _ _ P' (by show ib+1<_;omega) q3 (by show _≤(u.push lb[ib]).size;omega)
  have P2:Part r la lb (o'++a.extract ia (ia+t)).toList (la.drop (ia+t)) (lb.drop ib):=tkA (k:=t) P (fun u hu v hv=>by
   have:=t2 u hu
   rcases hd h2 rb v hv with z | z
   ·rw[z];exact this
   ·omega) (by rw[toList_append,ext_list,ea])
  have z2:o'.size≤(o'++a.extract ia (ia+t)).size:=by rw[size_append];omega
  refine wp_if (fun k0=>wp_if (fun e=>wpS_pure (fD L3 rfl (fin3 P2 ?_))) fun e=>wp_if (fun e'=>wpS_pure (fD L3 rfl (fin2 P2 ?_))) fun e'=>?_) fun k0=>?_
  ·have:ia+t+1=a.size:=beq_iff_eq.mp e
   show ia+t+1=la.length
   omega
  ·have:ia+t=a.size:=beq_iff_eq.mp e'
   show la.length≤ia+t
   omega
  ·have e:¬ia+t+1=a.size:=fun z=>e (beq_iff_eq.mpr z)
   have e':¬ia+t=a.size:=fun z=>e' (beq_iff_eq.mpr z)
   exact J2 _ _ P2 (by show ia+t+1<_;omega) t3 (by show _≤(o'++a.extract ia (ia+t)).size;omega)
  ·have k0:t=0:=by have:¬t>0:=k0;omega
   subst k0
   exact J2 _ _ P h1 t3 h3
 ·rintro c st' ⟨L2,o',ia,ib,g,ac,bc,rfl,P,h1,h2,h3⟩
  exact⟨L2,.inr ⟨_,_,_,_,_,_,rfl,P,h1,h2,h3⟩⟩
 rintro c st' ⟨L2,⟨w1,e,W⟩ | ⟨o',ia,ib,g,ac,bc,rfl,P,h1,h2,h4⟩⟩
 ·obtain⟨c1,c2⟩:=c
  obtain rfl:c1=some w1:=e
  exact wpS_pure ⟨L2,_,rfl,W⟩
 refine wpS_bind (wpS_modify (wpS_pure ⟨⟨L2.kd,L2.ar,L2.pd,L2.fl⟩,_,_,_,_,rfl,P,h1,h2,(by try dsimp only;omega)⟩))
end
end L2
namespace L2
open PySem PySem.W PyProof.Rows
structure PartR (r:Keyed→Int)(a b x y o:List Keyed):Prop where
 pm:(x++y++o).Perm (a++b)
 rx:Ris r (x++o)
 ry:Ris r (y++o)
section
variable {r:Keyed→Int}{a b o x y:List Keyed}
theorem PartR.swap (h:PartR r a b x y o):PartR r b a y x o:=by
 refine⟨?_,h.ry,h.rx⟩
 exact List.Perm.trans (List.Perm.append_right _ perm_append_comm) (h.pm.trans perm_append_comm)
theorem PartR.take {t:List Keyed}(h:PartR r a b (x++t) y o)(lt:∀v∈y,∀u∈t,r v<r u):PartR r a b x y (t++o):=by
 refine⟨List.Perm.trans ?_ h.pm,by simpa[List.append_assoc]using h.rx,?_⟩
 ·rw[List.append_assoc,List.append_assoc,List.append_assoc]
  refine List.Perm.append_left _ ?_
  rw[←List.append_assoc,←List.append_assoc]
  exact List.Perm.append_right _ perm_append_comm
 have h1:=pairwise_append.mp h.rx
 have h2:=pairwise_append.mp h1.1
 have h3:=pairwise_append.mp h.ry
 refine pairwise_append.mpr ⟨h3.1,pairwise_append.mpr ⟨h2.2.1,h1.2.1,fun u hu v hv=>h1.2.2 u (mem_append_right _ hu) v hv⟩,fun u hu v hv=>?_⟩
 rcases mem_append.mp hv with z | z
 ·exact lt u hu v z
 ·exact h3.2.2 u hu v z
theorem PartR.endX {p:Array Keyed}(h:PartR r a b [] y o)(e:p.toList=y++o):Whole r a b p:=⟨by rw[e];simpa using h.pm,by rw[e];exact h.ry⟩
theorem PartR.endOne {p:Array Keyed}{z:Keyed}(h:PartR r a b x [z] o)(lt:∀v∈x,r z<r v)(e:p.toList=[z]++x++o):Whole r a b p:=by
 refine⟨?_,?_⟩
 ·rw[e]
  exact List.Perm.trans (List.Perm.append_right _ perm_append_comm) h.pm
 ·rw[e]
  have h1:=pairwise_append.mp h.ry
  rw[List.append_assoc]
  refine pairwise_append.mpr ⟨pairwise_singleton _ _,h.rx,fun u hu v hv=>?_⟩
  rw[mem_singleton.mp hu]
  rcases mem_append.mp hv with q | q
  ·exact lt v q
  ·exact h1.2.2 z (mem_singleton.mpr rfl) v q
theorem ext_front (p:Array Keyed)(i:Nat):(p.extract 0 i).toList=p.toList.take i:=by
 rw[toList_extract,List.extract_eq_take_drop];rfl
theorem ext_mid (p:Array Keyed)(i j:Nat):(p.extract i j).toList=(p.toList.take j).drop i:=by
 rw[toList_extract,List.extract_eq_take_drop,List.drop_take]
theorem take_end {l:List Keyed}{i:Nat}(h0:0<i)(h:i≤l.length):l.take i=l.take (i - 1)++[l[i - 1]'(by omega)]:=by
 have:i=(i - 1)+1:=by omega
 conv=>lhs;rw[this]
 rw[List.take_succ_eq_append_getElem (by omega)]
theorem take_cut {l:List Keyed}{i j:Nat}(h:j≤i):l.take i=l.take j++(l.take i).drop j:=by
 have:=take_append_drop j (l.take i)
 rw[take_take,Nat.min_eq_left h]at this
 exact this.symm
end
section
variable {prog:Program}{w:World}{A:Around}{E:Value→Shared→Prop}{s:Shared}{kd:SortKind}{G:Keyed→Prop}{r:Keyed→Int}{st:SortSt}
theorem joinR_is (ask:Asks prog w A s kd G r)(hk:kindOf st=kd){a b:Array Keyed}{Q:Array Keyed→SortSt→Prop}(na0:0<a.size)(nb0:0<b.size)(ra:Ris r a.toList)(rb:Ris r b.toList)(ga:∀x∈a.toList,G x)(gb:∀x∈b.toList,G x)
 (ne:∀x∈a.toList,∀y∈b.toList,r x≠r y) (first:∀x∈a.toList,∀y,b[0]?=some y→r y<r x) (top:∀z,a[a.size - 1]?=some z→∀y∈b.toList,r y<r z)
 (q:∀o st',Like st st'→Whole r a.toList b.toList o→Q o st'):wpS (model prog w) A E s (joinR a b) Q st:=by
 obtain⟨la,ea⟩:∃l,a.toList=l:=⟨_,rfl⟩
 obtain⟨lb,eb⟩:∃l,b.toList=l:=⟨_,rfl⟩
 have sa:a.size=la.length:=by rw[←ea,length_toList]
 have sb:b.size=lb.length:=by rw[←eb,length_toList]
 have gea:∀i,a[i]?=la[i]?:=fun i=>by rw[←ea,getElem?_toList]
 have geb:∀i,b[i]?=lb[i]?:=fun i=>by rw[←eb,getElem?_toList]
 rw[ea]at ra ga ne first q
 rw[eb]at rb gb ne top q
 have la1:0<la.length:=by omega
 have lb1:0<lb.length:=by omega
 have fin1:∀{o:Array Keyed} {i j:Nat},PartR r la lb (la.take i) (lb.take j) o.toList.reverse→i=0→Whole r la lb (a.extract 0 i++b.extract 0 j++o.reverse):=fun{o i j} P h=>by
  subst h
  refine PartR.endX (show PartR r la lb [] (lb.take j) o.toList.reverse from P) ?_
  rw[toList_append,toList_append,ext_front,ext_front,ea,eb,toList_reverse]
  rfl
 have fin2:∀{o:Array Keyed} {i j:Nat},PartR r la lb (la.take i) (lb.take j) o.toList.reverse→j=0→Whole r la lb (a.extract 0 i++b.extract 0 j++o.reverse):=fun{o i j} P h=>by
  subst h
  refine(fun W:Whole r lb la _=>⟨W.1.trans perm_append_comm,W.2⟩) (PartR.endX (show PartR r lb la [] (la.take i) o.toList.reverse from P.swap) ?_)
  rw[toList_append,toList_append,ext_front,ext_front,ea,eb,toList_reverse]
  simp
 have fin3:∀{o:Array Keyed} {i j:Nat},PartR r la lb (la.take i) (lb.take j) o.toList.reverse→j=1→Whole r la lb (b.extract 0 j++a.extract 0 i++o.reverse):=fun{o i j} P h=>by
  subst h
  have e1:lb.take 1=[lb[0]]:=by rw[take_end (by omega) (by omega)];simp
  rw[e1]at P
  refine P.endOne (z:=lb[0]) (fun v hv=>first v (mem_of_mem_take hv) _ (by rw[geb,List.getElem?_eq_getElem lb1])) ?_
  rw[toList_append,toList_append,ext_front,ext_front,ea,eb,toList_reverse,e1]
 have tkA:∀{o:Array Keyed} {i j k:Nat},PartR r la lb (la.take i) (lb.take j) o.toList.reverse→k≤i→(∀v∈lb.take j,∀u∈(la.take i).drop k,r v<r u)→∀{o':Array Keyed},o'.toList.reverse=(la.take i).drop k++o.toList.reverse→PartR r la lb (la.take k) (lb.take j) o'.toList.reverse:=fun{o i j k} P hk h {o'} e=>by
  rw[take_cut hk]at P
  rw[e]
  exact P.take h
 have tkB:∀{o:Array Keyed} {i j k:Nat},PartR r la lb (la.take i) (lb.take j) o.toList.reverse→k≤j→(∀v∈la.take i,∀u∈(lb.take j).drop k,r v<r u)→∀{o':Array Keyed},o'.toList.reverse=(lb.take j).drop k++o.toList.reverse→PartR r la lb (la.take i) (lb.take k) o'.toList.reverse:=fun{o i j k} P hk h {o'} e=>by
  have P:=P.swap
  rw[take_cut hk]at P
  rw[e]
  exact(P.take h).swap
 have one:∀{l:List Keyed} {i:Nat} (h0:0<i) (h:i≤l.length),(l.take i).drop (i - 1)=[l[i - 1]'(by omega)]:=fun{l i} h0 h=>by
  rw[take_end h0 h,List.drop_append_of_le_length (by rw[length_take];omega),drop_of_length_le (by rw[length_take];omega)]
  rfl
 have hd:∀{l:List Keyed} {i:Nat} (h0:0<i) (h:i≤l.length),Ris r l→∀v∈l.take i,v=l[i - 1]'(by omega)∨r v<r (l[i - 1]'(by omega)):=fun{l i} h0 h rl v hv=>by
  have:=rl.take (i:=i)
  rw[take_end h0 h]at this hv
  rcases mem_append.mp hv with z | z
  ·exact .inr ((pairwise_append.mp this).2.2 v z _ (mem_singleton.mpr rfl))
  ·exact .inl (mem_singleton.mp z)
 have size:∀{o:Array Keyed} {i j:Nat},PartR r la lb (la.take i) (lb.take j) o.toList.reverse→i≤la.length→j≤lb.length→o.size+i+j=la.length+lb.length:=fun{o i j} P h1 h2=>by
  have:=P.pm.length_eq
  simp only[length_append,length_take,length_reverse,length_toList]at this
  omega
 have ix:la.length - 1<la.length:=by omega
 have start:PartR r la lb (la.take (la.length - 1)) (lb.take lb.length) (#[la[la.length - 1]]:Array Keyed).toList.reverse:=by
  have P0:PartR r la lb (la.take la.length) (lb.take lb.length) (#[]:Array Keyed).toList.reverse:=⟨by simp,by simpa using ra,by simpa using rb⟩
  refine tkA P0 (by omega) (fun v hv u hu=>?_) (by rw[one la1 (Nat.le_refl _)];rfl)
  rw[one la1 (Nat.le_refl _),mem_singleton]at hu
  subst hu
  exact top _ (by rw[gea,sa,List.getElem?_eq_getElem ix]) v (mem_of_mem_take hv)
 refine wpS_bind (wpS_lift (wpAny_rule ⟨rfl,?_⟩))
 refine wpS_bind (elem_is (α:=Unit) (x:=la[la.length - 1]) (by show a[a.size - 1]?=_;rw[gea,sa,List.getElem?_eq_getElem ix]) ?_)
 generalize la[la.length - 1]=z0 at start ⊢
 rw[←sa,←sb]at start
 refine wp_if (fun c0=>wpS_pure (q _ _ (.refl _) (fin1 start (by have:a.size - 1=0:=beq_iff_eq.mp c0;exact this)))) fun c0=>?_
 refine wp_if (fun c1=>wpS_pure (q _ _ (.refl _) (fin3 start (by have:b.size=1:=beq_iff_eq.mp c1;exact this)))) fun c1=>?_
 have c0:a.size - 1≠0:=fun e=>c0 (beq_iff_eq.mpr e)
 have c1:b.size≠1:=fun e=>c1 (beq_iff_eq.mpr e)
 refine wpS_bind (wpS_get ?_)
 refine wpS_bind (wpS_mono (wpS_forRange (I:=fun i c st'=>Like st st'∧∃o na nb g,c=(none,na,nb,o,g)∧PartR r la lb (la.take na) (lb.take nb) o.toList.reverse∧0<na∧na≤la.length∧1<nb∧nb≤lb.length∧i+1≤o.size)
  (Q:=fun c st'=>Like st st'∧∃o,c.1=some o∧Whole r la lb o) ?_ ?_ ⟨.refl _,_,_,_,_,rfl,start,by omega,by omega,by omega,by omega,Nat.le_refl _⟩) ?_)
 rotate_left
 ·rintro c st' ⟨L,o,na,nb,g,rfl,P,h0,h1,h2,h3,h4⟩
  have:=size P (by omega) (by omega)
  omega
 ·rintro⟨c1,c2⟩ st' ⟨L,o,e,W⟩
  obtain rfl:c1=some o:=e
  exact wpS_pure (q _ _ L W)
 rintro i c st1 _ hi ⟨L,o,na,nb,g,rfl,P,h0,h1,h2,h3,h4⟩
 refine wpS_bind (wpS_mono (wpS_forRange (I:=fun j c st'=>st'=st1∧∃o' na nb ac bc,c=(none,na,nb,o',ac,bc)∧PartR r la lb (la.take na) (lb.take nb) o'.toList.reverse∧0<na∧na≤la.length∧1<nb∧nb≤lb.length∧o.size+j≤o'.size)
  (Q:=fun c st'=>st'=st1∧((∃o,c.1=some o∧Whole r la lb o)∨∃o' na nb ac bc,c=(none,na,nb,o',ac,bc)∧PartR r la lb (la.take na) (lb.take nb) o'.toList.reverse∧0<na∧na≤la.length∧1<nb∧nb≤lb.length∧o.size+1≤o'.size)) ?_ ?_ ⟨rfl,_,_,_,_,_,rfl,P,h0,h1,h2,h3,Nat.le_refl _⟩) ?_)
 ·rintro j c st' _ hj ⟨rfl,o',na,nb,ac,bc,rfl,P,h0,h1,h2,h3,h4⟩
  have hia:na - 1<la.length:=by omega
  have hib:nb - 1<lb.length:=by omega
  refine wpS_bind (elem_is (α:=Unit) (x:=lb[nb - 1]) (by show b[nb - 1]?=_;rw[geb,List.getElem?_eq_getElem hib]) ?_)
  refine wpS_bind (elem_is (α:=Unit) (x:=la[na - 1]) (by show a[na - 1]?=_;rw[gea,List.getElem?_eq_getElem hia]) ?_)
  refine wpS_bind (ask _ _ _ _ _ (gb _ (getElem_mem _)) (ga _ (getElem_mem _)) (L.kd.trans hk) ?_)
  have nn:=ne la[na - 1] (getElem_mem _) lb[nb - 1] (getElem_mem _)
  by_cases c:r lb[nb - 1]<r la[na - 1]
  ·rw[decide_eq_true c]
   have P':PartR r la lb (la.take (na - 1)) (lb.take nb) (o'.push la[na - 1]).toList.reverse:=tkA P (by omega) (fun v hv u hu=>by
    rw[one h0 h1,mem_singleton]at hu
    subst hu
    rcases hd (by omega) h3 rb v hv with z | z
    ·rw[z];exact c
    ·omega) (by rw[one h0 h1,toList_push,reverse_append];rfl)
   have sz:=Array.size_push la[na - 1] (xs:=o')
   refine wp_if (fun _=>?_) fun z=>absurd rfl z
   refine wpS_bind (elem_is (α:=Unit) (x:=la[na - 1]) (by show a[na - 1]?=_;rw[gea,List.getElem?_eq_getElem hia]) ?_)
   refine wp_if (fun e=>wpS_pure ⟨rfl,.inl ⟨_,rfl,fin1 P' (by have:na - 1=0:=beq_iff_eq.mp e;exact this)⟩⟩) fun e=>?_
   have e:¬na - 1=0:=fun z=>e (beq_iff_eq.mpr z)
   exact wp_if (fun _=>wpS_pure ⟨rfl,.inr ⟨_,_,_,_,_,rfl,P',(by try dsimp only;omega),(by try dsimp only;omega),h2,h3,(by try dsimp only;omega)⟩⟩) fun _=>wpS_pure ⟨rfl,_,_,_,_,_,rfl,P',(by try dsimp only;omega),(by try dsimp only;omega),h2,h3,(by try dsimp only;omega)⟩
  ·rw[decide_eq_false c]
   have P':PartR r la lb (la.take na) (lb.take (nb - 1)) (o'.push lb[nb - 1]).toList.reverse:=tkB P (by omega) (fun v hv u hu=>by
    rw[one (by omega) h3,mem_singleton]at hu
    subst hu
    rcases hd h0 h1 ra v hv with z | z
    ·rw[z];omega
    ·omega) (by rw[one (by omega) h3,toList_push,reverse_append];rfl)
   have sz:=Array.size_push lb[nb - 1] (xs:=o')
   refine wp_if (fun z=>absurd z Bool.false_ne_true) fun _=>?_
   refine wpS_bind (elem_is (α:=Unit) (x:=lb[nb - 1]) (by show b[nb - 1]?=_;rw[geb,List.getElem?_eq_getElem hib]) ?_)
   refine wp_if (fun e=>wpS_pure ⟨rfl,.inl ⟨_,rfl,fin3 P' (by have:nb - 1=1:=beq_iff_eq.mp e;exact this)⟩⟩) fun e=>?_
   have e:¬nb - 1=1:=fun z=>e (beq_iff_eq.mpr z)
   exact wp_if (fun _=>wpS_pure ⟨rfl,.inr ⟨_,_,_,_,_,rfl,P',h0,h1,(by try dsimp only;omega),(by try dsimp only;omega),(by try dsimp only;omega)⟩⟩) fun _=>wpS_pure ⟨rfl,_,_,_,_,_,rfl,P',h0,h1,(by try dsimp only;omega),(by try dsimp only;omega),(by try dsimp only;omega)⟩
 ·rintro c st' ⟨rfl,o',na,nb,ac,bc,rfl,P,h0,h1,h2,h3,h4⟩
  exact⟨rfl,.inr ⟨_,_,_,_,_,rfl,P,h0,h1,h2,h3,by omega⟩⟩
 rintro c st' ⟨rfl,⟨w1,e,W⟩ | ⟨o',na,nb,ac,bc,rfl,P,h0,h1,h2,h3,h5⟩⟩
 ·obtain⟨c1,c2⟩:=c
  obtain rfl:c1=some w1:=e
  exact wpS_pure ⟨L,_,rfl,W⟩
 refine wpS_bind (wpS_lift (wpAny_rule ⟨rfl,?_⟩))
 refine wpS_bind (wpS_mono (wpS_forRange (I:=fun j c st'=>Like st st'∧∃o' na nb g ac bc,c=(none,na,nb,o',g,ac,bc)∧PartR r la lb (la.take na) (lb.take nb) o'.toList.reverse∧0<na∧na≤la.length∧1<nb∧nb≤lb.length∧o.size+1≤o'.size)
  (Q:=fun c st'=>Like st st'∧((∃o,c.1=some o∧Whole r la lb o)∨∃o' na nb g ac bc,c=(none,na,nb,o',g,ac,bc)∧PartR r la lb (la.take na) (lb.take nb) o'.toList.reverse∧0<na∧na≤la.length∧1<nb∧nb≤lb.length∧o.size+1≤o'.size)) ?_ ?_ ⟨L,_,_,_,_,_,_,rfl,P,h0,h1,h2,h3,h5⟩) ?_)
 ·rintro j c st2 _ hj ⟨L2,o',na,nb,g,ac,bc,rfl,P,h0,h1,h2,h3,h4⟩
  lift_lets
  intro s1 na1 s2 nb1 s3 out1 s4 g1 s5 ac1 bc1 nb2 jp g2
  refine wp_named fun Q' hQ=>?_
  have fD:∀{c o st'},Like st st'→c.1=some o→Whole r la lb o→Q' (.done c) st':=fun{c o st'} x y z=>by subst hQ;exact⟨x,.inl ⟨o,y,z⟩⟩
  have fN:∀{st' u i j g ac bc},Like st st'→PartR r la lb (la.take i) (lb.take j) u.toList.reverse→0<i→i≤la.length→1<j→j≤lb.length→o.size+1≤u.size→Q' (.done (none,i,j,u,g,ac,bc)) st'∧Q' (.yield (none,i,j,u,g,ac,bc)) st':=fun{st' u i j g ac bc} x y z1 z2 z3 z4 q=>by
   subst hQ;exact⟨⟨x,.inr ⟨_,_,_,_,_,_,rfl,y,z1,z2,z3,z4,q⟩⟩,x,_,_,_,_,_,_,rfl,y,z1,z2,z3,z4,q⟩
  clear hQ
  have hib:nb - 1<lb.length:=by omega
  refine wp_jump (f:=jp ()) fun g'=>?_
  refine wpS_bind (wpS_modify ?_)
  refine wpS_bind (elem_is (α:=Unit) (x:=lb[nb - 1]) (by show b[nb - 1]?=_;rw[geb,List.getElem?_eq_getElem hib]) ?_)
  have L3:Like st (SortSt.mk' (kindOf st2) (arrOf st2) (pendingOf st2) g' (failedOf st2)):=⟨L2.kd,L2.ar,L2.pd,L2.fl⟩
  have front:∀{p:Array Keyed} {l:List Keyed} {n:Nat},(∀i,p[i]?=l[i]?)→∀i,i<n→p[0+i]?=(l.take n)[i]?:=fun{p l n} h i hi=>by rw[Nat.zero_add,h,getElem?_take,if_pos hi]
  refine wpS_bind (leap_is ask (L3.kd.trans hk) (l:=la.take na) (front gea) (by show _=na;rw[length_take];omega) (fun x hx=>ga x (mem_of_mem_take hx)) (gb _ (getElem_mem _)) (ra.take) (fun x hx=>ne x (mem_of_mem_take hx) _ (getElem_mem _)) (by show na - 1<na;omega) fun t t1 t2 t3=>?_)
  rw[take_take]at t2
  have t1:t≤na:=t1
  rw[Nat.min_eq_left t1]at t2
  dsimp -zeta only
  lift_lets
  intro k1 ac2 jp2 out2 na2
  have J2:∀u i,PartR r la lb (la.take i) (lb.take nb) u.toList.reverse→0<i→i≤la.length→(∀x∈la.take i,r x<r lb[nb - 1])→o.size+1≤u.size→wpS (model prog w) A E s (jp2 () i u) Q' (SortSt.mk' (kindOf st2) (arrOf st2) (pendingOf st2) g' (failedOf st2)):=fun u i P hi0 hi lt hz=>by
   have hi':i - 1<la.length:=by omega
   refine wpS_bind (elem_is (α:=Unit) (x:=lb[nb - 1]) (by show b[nb - 1]?=_;rw[geb,List.getElem?_eq_getElem hib]) ?_)
   have P':PartR r la lb (la.take i) (lb.take (nb - 1)) (u.push lb[nb - 1]).toList.reverse:=tkB P (by omega) (fun v hv x hx=>by
    rw[one (by omega) h3,mem_singleton]at hx
    subst hx
    exact lt v hv) (by rw[one (by omega) h3,toList_push,reverse_append];rfl)
   have sz:=Array.size_push lb[nb - 1] (xs:=u)
   refine wp_if (fun e=>wpS_pure (fD L3 rfl (fin3 P' (by have:nb - 1=1:=beq_iff_eq.mp e;exact this)))) fun e=>?_
   have e:¬nb - 1=1:=fun z=>e (beq_iff_eq.mpr z)
   refine wpS_bind (elem_is (α:=Unit) (x:=la[i - 1]) (by show a[i - 1]?=_;rw[gea,List.getElem?_eq_getElem hi']) ?_)
   refine wpS_bind (leap_is ask (L3.kd.trans hk) (l:=lb.take (nb - 1)) (front geb) (by show _=nb - 1;rw[length_take];omega) (fun x hx=>gb x (mem_of_mem_take hx)) (ga _ (getElem_mem _)) (rb.take) (fun x hx z=>ne _ (getElem_mem _) x (mem_of_mem_take hx) z.symm) (by show nb - 1 - 1<nb - 1;omega) fun t' q1 q2 q3=>?_)
   rw[take_take]at q2
   have q1:t'≤nb - 1:=q1
   rw[Nat.min_eq_left q1]at q2
   dsimp -zeta only
   lift_lets
   intro k2 bc2 jp3 out3 nb3
   have J3:∀u j,PartR r la lb (la.take i) (lb.take j) u.toList.reverse→1<j→j≤lb.length→(∀x∈lb.take j,r x<r la[i - 1])→o.size+1≤u.size→wpS (model prog w) A E s (jp3 () j u) Q' (SortSt.mk' (kindOf st2) (arrOf st2) (pendingOf st2) g' (failedOf st2)):=fun u j P hj0 hj lt hz=>by
    refine wpS_bind (elem_is (α:=Unit) (x:=la[i - 1]) (by show a[i - 1]?=_;rw[gea,List.getElem?_eq_getElem hi']) ?_)
    have P':PartR r la lb (la.take (i - 1)) (lb.take j) (u.push la[i - 1]).toList.reverse:=tkA P (by omega) (fun v hv x hx=>by
     rw[one hi0 hi,mem_singleton]at hx
     subst hx
     exact lt v hv) (by rw[one hi0 hi,toList_push,reverse_append];rfl)
    have sz:=Array.size_push la[i - 1] (xs:=u)
    refine wp_if (fun e=>wpS_pure (fD L3 rfl (fin1 P' (by have:i - 1=0:=beq_iff_eq.mp e;exact this)))) fun e=>?_
    have e:¬i - 1=0:=fun z=>e (beq_iff_eq.mpr z)
    have F:=fun{g ac bc}=>fN (g:=g) (ac:=ac) (bc:=bc) L3 P' (by omega) (by omega) hj0 hj (by omega)
    exact wp_if (fun _=>wpS_pure F.1) fun _=>wpS_pure F.2
   have P2:PartR r la lb (la.take i) (lb.take t') (u.push lb[nb - 1]++(b.extract t' (nb - 1)).reverse).toList.reverse:=tkB P' q1 (fun v hv x hx=>by
    have:=q3 x hx
    rcases hd hi0 hi ra v hv with z | z
    ·rw[z];exact this
    ·omega) (by rw[toList_append,toList_reverse,reverse_append,List.reverse_reverse,ext_mid,eb])
   have z2:(u.push lb[nb - 1]).size≤(u.push lb[nb - 1]++(b.extract t' (nb - 1)).reverse).size:=by rw[size_append];omega
   refine wp_if (fun k0=>wp_if (fun e=>wpS_pure (fD L3 rfl (fin3 P2 (by have:t'=1:=beq_iff_eq.mp e;exact this)))) fun e=>wp_if (fun e'=>wpS_pure (fD L3 rfl (fin2 P2 (by have:t'=0:=beq_iff_eq.mp e';exact this)))) fun e'=>?_) fun k0=>?_
   ·have e:¬t'=1:=fun z=>e (beq_iff_eq.mpr z)
    have e':¬t'=0:=fun z=>e' (beq_iff_eq.mpr z)
    exact J3 _ _ P2 (by show 1<t';omega) (by show t'≤_;omega) q2 (by show _≤(u.push lb[nb - 1]++(b.extract t' (nb - 1)).reverse).size;omega)
   ·have k0:t'=nb - 1:=by have:¬nb - 1 - t'>0:=k0;omega
    subst k0
    exact J3 _ _ P' (by show 1<nb - 1;omega) (by show nb - 1≤_;omega) q2 (by show _≤(u.push lb[nb - 1]).size;omega)
  have P2:PartR r la lb (la.take t) (lb.take nb) (o'++(a.extract t na).reverse).toList.reverse:=tkA P t1 (fun v hv u hu=>by
   have:=t3 u hu
   rcases hd (by omega) h3 rb v hv with z | z
   ·rw[z];exact this
   ·omega) (by rw[toList_append,toList_reverse,reverse_append,List.reverse_reverse,ext_mid,ea])
  have z2:o'.size≤(o'++(a.extract t na).reverse).size:=by rw[size_append];omega
  refine wp_if (fun k0=>wp_if (fun e=>wpS_pure (fD L3 rfl (fin1 P2 (by have:t=0:=beq_iff_eq.mp e;exact this)))) fun e=>?_) fun k0=>?_
  ·have e:¬t=0:=fun z=>e (beq_iff_eq.mpr z)
   exact J2 _ _ P2 (by show 0<t;omega) (by show t≤_;omega) t2 (by show _≤(o'++(a.extract t na).reverse).size;omega)
  ·have k0:t=na:=by have:¬na - t>0:=k0;omega
   subst k0
   exact J2 _ _ P h0 h1 t2 h4
 ·rintro c st' ⟨L2,o',na,nb,g,ac,bc,rfl,P,h0,h1,h2,h3,h4⟩
  exact⟨L2,.inr ⟨_,_,_,_,_,_,rfl,P,h0,h1,h2,h3,h4⟩⟩
 rintro c st' ⟨L2,⟨w1,e,W⟩ | ⟨o',na,nb,g,ac,bc,rfl,P,h0,h1,h2,h3,h5⟩⟩
 ·obtain⟨c1,c2⟩:=c
  obtain rfl:c1=some w1:=e
  exact wpS_pure ⟨L2,_,rfl,W⟩
 refine wpS_bind (wpS_modify (wpS_pure ⟨⟨L2.kd,L2.ar,L2.pd,L2.fl⟩,_,_,_,_,rfl,P,h0,h1,h2,h3,(by try dsimp only;omega)⟩))
end
end L2
namespace L2
open PySem PySem.W PyProof.Rows
theorem laid_over {sa:Nat}:∀(l:List Keyed) (n:Nat) (p:Array Keyed) (x m y:List Keyed),p.toList=x++m++y→x.length=sa+n→m.length=l.length→
 ((l.zipIdx n).foldl (fun q (z:Keyed×Nat)=>q.setIfInBounds (sa+z.2) z.1) p).toList=x++l++y
 |[],n,p,x,m,y,e,_,h=>by
  have:m=[]:=List.eq_nil_of_length_eq_zero h
  subst this
  exact e
 |a::l,n,p,x,m,y,e,hx,h=>by
  cases m with
  |nil=>simp at h
  |cons b m=>
   rw[List.zipIdx_cons,List.foldl_cons]
   have:=laid_over (sa:=sa) l (n+1) (p.setIfInBounds (sa+n) a) (x++[a]) m y (by
    rw[Array.toList_setIfInBounds,e,←hx]
    simp) (by rw[length_append,hx];rfl) (by simpa using h)
   rw[this]
   simp
section
variable {prog:Program}{w:World}{A:Around}{E:Value→Shared→Prop}{s:Shared}{kd:SortKind}{G:Keyed→Prop}{r:Keyed→Int}{st:SortSt}
theorem wpS_put {M:Model}{σ:Type}{a b:σ}{Q:PUnit→σ→Prop}(h:Q ⟨⟩ b):wpS M A E s (set b:StateT σ Sem PUnit) Q a:=by
 unfold wpS;rw[StateT.run_set];exact wpAny_pure ⟨rfl,h⟩
theorem wp_at {α:Type}{m:StateT SortSt Sem α}{M:Model}{Q:α→SortSt→Prop}(P:SortSt→Prop)(h0:P st)(h:∀st1,P st1→wpS M A E s m Q st1):wpS M A E s m Q st:=h _ h0
theorem one_run (ask:Asks prog w A s kd G r)(hk:kindOf st=kd)(hf:failedOf st=none){i p p':Nat}{pre x y post:List Keyed}{Q:Bool→SortSt→Prop}(ar:(arrOf st).toList=pre++x++y++post)(x0:0<x.length)(y0:0<y.length)(rx:Ris r x)(ry:Ris r y)
 (gx:∀u∈x,G u) (gy:∀u∈y,G u) (ne:∀u∈x,∀v∈y,r u≠r v) (h1:(pendingOf st)[i]?=some (pre.length,x.length,p)) (h2:(pendingOf st)[i+1]?=some (pre.length+x.length,y.length,p'))
 (q:∀(st':SortSt) (z:List Keyed),kindOf st'=kd→failedOf st'=none→pendingOf st'=((pendingOf st).setIfInBounds i (pre.length,x.length+y.length,p)).eraseIdxIfInBounds (i+1)→(arrOf st').toList=pre++z++post→z.Perm (x++y)→Ris r z→Q true st'):wpS (model prog w) A E s (mergeAt' i) Q st:=by
 have gea:∀j,(arrOf st)[j]?=(pre++(x++(y++post)))[j]?:=fun j=>by rw[←getElem?_toList,ar,List.append_assoc (pre++x) y post,List.append_assoc pre x]
 have gx':∀j,j<x.length→(arrOf st)[pre.length+j]?=x[j]?:=fun j hj=>by
  rw[gea,getElem?_append_right (by omega),show pre.length+j - pre.length=j by omega,getElem?_append_left hj]
 have gy':∀j,j<y.length→(arrOf st)[pre.length+x.length+j]?=y[j]?:=fun j hj=>by
  rw[gea,getElem?_append_right (by omega),getElem?_append_right (by omega),show pre.length+x.length+j - pre.length - x.length=j by omega,getElem?_append_left hj]
 refine wpS_bind (wpS_get ?_)
 dsimp -zeta only
 rw[h1,h2]
 dsimp -zeta only
 refine wpS_bind (wpS_put ?_)
 refine wp_at (fun st1=>kindOf st1=kd∧failedOf st1=none∧pendingOf st1=((pendingOf st).setIfInBounds i (pre.length,x.length+y.length,p)).eraseIdxIfInBounds (i+1)∧arrOf st1=arrOf st) ⟨hk,hf,rfl,rfl⟩ ?_
 rintro st1 ⟨k1,f1,p1,a1⟩
 refine wpS_bind (elem_is (α:=Unit) (x:=y[0]) (by have:=gy' 0 y0;rw[Nat.add_zero,List.getElem?_eq_getElem y0]at this;exact this) ?_)
 refine wpS_bind (leap_is ask k1 (key:=y[0]) (l:=x) gx' rfl gx (gy _ (getElem_mem _)) rx (fun u hu=>ne u hu _ (getElem_mem _)) x0 fun t t1 t2 t3=>?_)
 have yhd:∀v∈y,v=y[0]∨r y[0]<r v:=fun v hv=>by
  cases y with
  |nil=>simp at hv
  |cons b y=>
   rcases mem_cons.mp hv with z | z
   ·exact .inl z
   ·exact .inr ((pairwise_cons.mp ry).1 v z)
 refine wp_if (fun e=>wpS_pure ?_) fun e=>?_
 ·have e:t=x.length:=by have:=beq_iff_eq.mp e;omega
  rw[e,take_length]at t2
  refine q st1 (x++y) k1 f1 p1 (by rw[a1,ar,List.append_assoc pre x y]) (List.Perm.refl _) (pairwise_append.mpr ⟨rx,ry,fun u hu v hv=>?_⟩)
  have:=t2 u hu
  rcases yhd v hv with z | z
  ·rw[z];exact this
  ·omega
 have e:t<x.length:=by have:¬x.length - t=0:=fun z=>e (beq_iff_eq.mpr z);omega
 have lx:x.length - 1<x.length:=by omega
 refine wpS_bind (elem_is (α:=Unit) (x:=x[x.length - 1]) (by
  rw[show pre.length+t+(x.length - t) - 1=pre.length+(x.length - 1) by omega]
  have:=gx' (x.length - 1) lx
  rw[List.getElem?_eq_getElem lx]at this
  exact this) ?_)
 refine wpS_bind (leap_is ask k1 (key:=x[x.length - 1]) (l:=y) gy' rfl gy (gx _ (getElem_mem _)) ry (fun u hu z=>ne _ (getElem_mem _) u hu z.symm) (by omega) fun t' q1 q2 q3=>?_)
 have xl:x[x.length - 1]∈x.drop t:=List.mem_drop_iff_getElem.mpr ⟨x.length - 1 - t,by omega,by congr 1;omega⟩
 have xtop:∀u∈x,u=x[x.length - 1]∨r u<r x[x.length - 1]:=fun u hu=>by
  have ee:x=x.take (x.length - 1)++[x[x.length - 1]]:=by
   have:=take_end (l:=x) x0 (Nat.le_refl _)
   rwa [take_length]at this
  have rr:=rx
  rw[ee]at rr
  have hu':u∈x.take (x.length - 1)++[x[x.length - 1]]:=by rw[←ee];exact hu
  rcases mem_append.mp hu' with z | z
  ·exact .inr ((pairwise_append.mp rr).2.2 u z _ (mem_singleton.mpr rfl))
  ·exact .inl (mem_singleton.mp z)
 refine wp_if (fun e'=>?_) fun e'=>?_
 ·have e':t'=0:=beq_iff_eq.mp e'
  rw[e',drop_zero]at q3
  have h3:=q3 y[0] (getElem_mem _)
  have h4:=t3 _ xl
  omega
 have e':0<t':=by have:¬t'=0:=fun z=>e' (beq_iff_eq.mpr z);omega
 lift_lets
 intro xs ys jp
 have exs:xs.toList=x.drop t:=by
  show((arrOf st).extract (pre.length+t) (pre.length+x.length)).toList=_
  rw[ext_mid,ar]
  simp[List.take_append,List.drop_append,take_of_length_le]
 have eys:ys.toList=y.take t':=by
  show((arrOf st).extract (pre.length+x.length) (pre.length+x.length+t')).toList=_
  rw[ext_list,ar,show pre++x++y++post=(pre++x)++(y++post) by simp,List.drop_append_of_le_length (by simp),drop_of_length_le (by simp),nil_append,List.take_append_of_le_length q1]
 have J:∀o st',Like st1 st'→Whole r xs.toList ys.toList o→wpS (model prog w) A E s (jp o) Q st':=fun o st' L W=>by
  refine wpS_bind (wpS_modify (wpS_bind (wpS_get (wpS_pure ?_))))
  rw[exs,eys]at W
  have fl:failedOf st'=none:=L.fl.trans f1
  have er:(failedOf st').isNone=true:=by rw[fl];rfl
  show Q (failedOf st').isNone _
  rw[er]
  have hin:∀u∈o.toList,u∈x.drop t∨u∈y.take t':=fun u hu=>mem_append.mp (W.1.mem_iff.mp hu)
  refine q _ (x.take t++o.toList++y.drop t') (L.kd.trans k1) fl (L.pd.trans p1) ?_ ?_ ?_
  ·show(o.toList.zipIdx.foldl (fun q (z:Keyed×Nat)=>q.setIfInBounds (pre.length+t+z.2) z.1) (arrOf st')).toList=_
   rw[laid_over (sa:=pre.length+t) o.toList 0 (arrOf st') (pre++x.take t) (x.drop t++y.take t') (y.drop t'++post) ?_ ?_ ?_]
   ·simp[List.append_assoc]
   ·rw[L.ar,a1,ar]
    rw[show pre++x++y++post=pre++(x.take t++x.drop t)++(y.take t'++y.drop t')++post by rw[take_append_drop,take_append_drop]]
    simp only[List.append_assoc]
   ·simp;omega
   ·rw[W.1.length_eq]
  ·refine List.Perm.trans (List.Perm.append_right _ (List.Perm.append_left _ W.1)) ?_
   rw[show x.take t++(x.drop t++y.take t')++y.drop t'=(x.take t++x.drop t)++(y.take t'++y.drop t') by simp only[List.append_assoc],take_append_drop,take_append_drop]
  ·have s1:Ris r (x.take t++x.drop t):=by rw[take_append_drop];exact rx
   have s2:Ris r (y.take t'++y.drop t'):=by rw[take_append_drop];exact ry
   have s1:=pairwise_append.mp s1
   have s2:=pairwise_append.mp s2
   have c1:∀u∈x.take t,∀v∈y,r u<r v:=fun u hu v hv=>by
    have:=t2 u hu
    rcases yhd v hv with z | z
    ·rw[z];exact this
    ·omega
   have c2:∀u∈x,∀v∈y.drop t',r u<r v:=fun u hu v hv=>by
    have:=q3 v hv
    rcases xtop u hu with z | z
    ·rw[z];exact this
    ·omega
   refine pairwise_append.mpr ⟨pairwise_append.mpr ⟨s1.1,W.2,fun u hu v hv=>?_⟩,s2.2.1,fun u hu v hv=>?_⟩
   ·rcases hin v hv with z | z
    ·exact s1.2.2 u hu v z
    ·exact c1 u hu v (mem_of_mem_take z)
   ·rcases mem_append.mp hu with z | z
    ·exact c2 u (mem_of_mem_take z) v hv
    ·rcases hin u z with z | z
     ·exact c2 u (mem_of_mem_drop z) v hv
     ·exact s2.2.2 u z v hv
 have sx:0<xs.size:=by rw[←length_toList,exs,length_drop];omega
 have sy:0<ys.size:=by rw[←length_toList,eys,length_take];omega
 have go1:Ris r xs.toList:=by rw[exs];exact rx.drop
 have go2:Ris r ys.toList:=by rw[eys];exact ry.take
 have go3:∀u∈xs.toList,G u:=fun u hu=>by rw[exs]at hu;exact gx u (mem_of_mem_drop hu)
 have go4:∀u∈ys.toList,G u:=fun u hu=>by rw[eys]at hu;exact gy u (mem_of_mem_take hu)
 have go5:∀u∈xs.toList,∀v∈ys.toList,r u≠r v:=fun u hu v hv=>by rw[exs]at hu;rw[eys]at hv;exact ne u (mem_of_mem_drop hu) v (mem_of_mem_take hv)
 have go6:∀u∈xs.toList,∀v,ys[0]?=some v→r v<r u:=fun u hu v hv=>by
  rw[exs]at hu
  rw[←getElem?_toList,eys,getElem?_take,if_pos e',List.getElem?_eq_getElem y0]at hv
  cases hv
  exact t3 u hu
 have go7:∀z,xs[xs.size - 1]?=some z→∀v∈ys.toList,r v<r z:=fun z hz v hv=>by
  rw[eys]at hv
  rw[←getElem?_toList,exs,←length_toList,exs,length_drop,getElem?_drop,show t+(x.length - t - 1)=x.length - 1 by omega,List.getElem?_eq_getElem lx]at hz
  cases hz
  exact q2 v hv
 exact wp_if (fun _=>wpS_bind (joinL_is ask k1 sx sy go1 go2 go3 go4 go5 go6 go7 J)) fun _=>wpS_bind (joinR_is ask k1 sx sy go1 go2 go3 go4 go5 go6 go7 J)
end
end L2
namespace L2
open PySem PySem.W PyProof.Rows
theorem mir_list {p:Array Keyed}{pre l:List Keyed}{n:Nat}(e:p.toList=pre++l)(hn:n≤l.length):(mirror p pre.length (pre.length+n) ((pre.length+n - pre.length) / 2)).toList=pre++((l.take n).reverse++l.drop n):=by
 have sz:p.size=pre.length+l.length:=by rw[←length_toList,e,length_append]
 have ge:∀j:Nat,p[j]?=(pre++l)[j]?:=fun j=>by rw[←getElem?_toList,e]
 apply ext_getElem?
 intro k
 rw[getElem?_toList,getElem?_mirror_all (by omega)]
 by_cases c:k<pre.length
 ·rw[if_neg (by omega),ge,getElem?_append_left c,getElem?_append_left c]
 ·obtain⟨j,rfl⟩:∃j,k=pre.length+j:=⟨k - pre.length,by omega⟩
  rw[getElem?_append_right (by omega),show pre.length+j - pre.length=j by omega]
  by_cases c2:j<n
  ·rw[if_pos (by omega),ge,getElem?_append_right (by omega),getElem?_append_left (by rw[length_reverse,length_take];omega),List.getElem?_reverse (by rw[length_take];omega),length_take,Nat.min_eq_left hn,getElem?_take,if_pos (by omega)]
   congr 1
   omega
  ·rw[if_neg (by omega),ge,getElem?_append_right (by omega),getElem?_append_right (by rw[length_reverse,length_take];omega),length_reverse,length_take,Nat.min_eq_left hn,getElem?_drop]
   congr 1
   omega
theorem bub_list {p:Array Keyed}{pre l:List Keyed}{k t:Nat}(e:p.toList=pre++l)(hk:k<l.length)(ht:t≤k):(bubble p (pre.length+k) (pre.length+k - (pre.length+t))).toList=pre++((l.take k).take t++l[k]::((l.take k).drop t++l.drop (k+1))):=by
 have sz:p.size=pre.length+l.length:=by rw[←length_toList,e,length_append]
 have ge:∀j:Nat,p[j]?=(pre++l)[j]?:=fun j=>by rw[←getElem?_toList,e]
 rw[show pre.length+k - (pre.length+t)=k - t by omega]
 apply ext_getElem?
 intro j
 rw[getElem?_toList,getElem?_bubble (by omega) _ (by omega)]
 by_cases c:j<pre.length
 ·rw[if_neg (by omega),if_neg (by omega),ge,getElem?_append_left c,getElem?_append_left c]
 obtain⟨i,rfl⟩:∃i,j=pre.length+i:=⟨j - pre.length,by omega⟩
 rw[getElem?_append_right (by omega),show pre.length+i - pre.length=i by omega]
 have lt:((l.take k).take t).length=t:=by rw[length_take,length_take];omega
 by_cases c1:i<t
 ·rw[if_neg (by omega),if_neg (by omega),ge,getElem?_append_right (by omega),getElem?_append_left (by omega),getElem?_take,if_pos c1,getElem?_take,if_pos (by omega)]
  congr 1
  omega
 rw[getElem?_append_right (by omega),lt]
 by_cases c2:i=t
 ·subst c2
  rw[if_pos (by omega),ge,getElem?_append_right (by omega),Nat.sub_self,List.getElem?_cons_zero,show pre.length+k - pre.length=k by omega,List.getElem?_eq_getElem hk]
 obtain⟨m,rfl⟩:∃m,i=t+(m+1):=⟨i - t - 1,by omega⟩
 rw[show t+(m+1) - t=m+1 by omega,List.getElem?_cons_succ,if_neg (by omega)]
 by_cases c3:m<k - t
 ·rw[if_pos (by omega),ge,getElem?_append_right (by omega),getElem?_append_left (by rw[length_drop,length_take];omega),getElem?_drop,getElem?_take,if_pos (by omega)]
  congr 1
  omega
 ·rw[if_neg (by omega),ge,getElem?_append_right (by omega),getElem?_append_right (by rw[length_drop,length_take];omega),length_drop,length_take,getElem?_drop]
  congr 1
  omega
section
variable {r:Keyed→Int}{l:List Keyed}
abbrev Odd (r:Keyed→Int)(l:List Keyed):Prop:=l.Pairwise fun x y=>r x≠r y
theorem Odd.at (h:Odd r l){i j:Nat}(hi:i<l.length)(hj:j<l.length)(n:i≠j):r l[i]≠r l[j]:=by
 have:=pairwise_iff_getElem.mp h
 rcases Nat.lt_or_gt_of_ne n with z | z
 ·exact this i j hi hj z
 ·exact fun e=>this j i hj hi z e.symm
theorem Odd.perm {l':List Keyed}(h:Odd r l)(p:l'.Perm l):Odd r l':=(p.pairwise_iff fun{_ _} h e=>h e.symm).mpr h
theorem ris_snoc {n:Nat}(h1:0<n)(hn:n<l.length)(h:Ris r (l.take n))(lt:r (l[n - 1]'(by omega))<r l[n]):Ris r (l.take (n+1)):=by
 rw[List.take_succ_eq_append_getElem hn]
 refine pairwise_append.mpr ⟨h,pairwise_singleton _ _,fun u hu v hv=>?_⟩
 rw[mem_singleton.mp hv]
 rw[take_end h1 (by omega)]at h hu
 rcases mem_append.mp hu with z | z
 ·have:=(pairwise_append.mp h).2.2 u z _ (mem_singleton.mpr rfl)
  omega
 ·rw[mem_singleton.mp z];exact lt
theorem fall_snoc {n:Nat}(h1:0<n)(hn:n<l.length)(h:Ris r (l.take n).reverse)(lt:r l[n]<r (l[n - 1]'(by omega))):Ris r (l.take (n+1)).reverse:=by
 rw[List.take_succ_eq_append_getElem hn,reverse_append]
 refine pairwise_append.mpr ⟨pairwise_singleton _ _,h,fun u hu v hv=>?_⟩
 rw[mem_singleton.mp hu]
 rw[take_end h1 (by omega),reverse_append]at h hv
 rcases mem_append.mp hv with z | z
 ·rw[mem_singleton.mp z];exact lt
 ·have:=(pairwise_append.mp h).2.2 _ (mem_singleton.mpr rfl) v z
  omega
end
section
variable {prog:Program}{w:World}{A:Around}{E:Value→Shared→Prop}{s:Shared}{kd:SortKind}{G:Keyed→Prop}{r:Keyed→Int}{st:SortSt}{pre l:List Keyed}
theorem lt_in (ask:Asks prog w A s kd G r)(hk:kindOf st=kd)(ar:(arrOf st).toList=pre++l)(gl:∀x∈l,G x){i j a b:Nat}(ha:a=pre.length+i)(hb:b=pre.length+j)(hi:i<l.length)(hj:j<l.length){Q:Option Bool→SortSt→Prop}(q:Q (some (decide (r l[i]<r l[j]))) st):wpS (model prog w) A E s (ltAt' a b) Q st:=by
 have ge:∀k,(hk:k<l.length)→(arrOf st)[pre.length+k]?=some l[k]:=fun k hk=>by rw[←getElem?_toList,ar,getElem?_append_right (by omega),show pre.length+k - pre.length=k by omega,List.getElem?_eq_getElem hk]
 subst ha hb
 rw[ltAt'_eq]
 exact wpS_bind (wpS_get (wpS_bind (elem_is (α:=Unit) (ge i hi) (wpS_bind (elem_is (α:=Unit) (ge j hj) (ask _ _ _ _ _ (gl _ (getElem_mem _)) (gl _ (getElem_mem _)) hk q))))))
structure Near (st st':SortSt):Prop where
 kd:kindOf st'=kindOf st
 pd:pendingOf st'=pendingOf st
 fl:failedOf st'=failedOf st
theorem run_on (ask:Asks prog w A s kd G r)(hk:kindOf st=kd)(ar:(arrOf st).toList=pre++l)(gl:∀x∈l,G x)(od:Odd r l){n0:Nat}(h0:0<n0)(hn:n0≤l.length)(ri:Ris r (l.take n0)):wpS (model prog w) A E s (forIn [n0:l.length] ((none,n0):Option (Option Nat)×Nat) fun(x:Nat) c=>ltAt' (pre.length+c.2) (pre.length+c.2 - 1) >>= fun y=>match y with
 |some sm=>if sm=true then pure (ForInStep.done (none,c.2)) else pure (ForInStep.yield (none,c.2+1))
 |_=>pure (ForInStep.done (some none,c.2))) (fun c st'=>st'=st∧∃n,c=(none,n)∧n0≤n∧n≤l.length∧Ris r (l.take n)∧∀h:n<l.length,r l[n]<r (l[n - 1]'(by omega))) st:=by
 refine wpS_forRange (I:=fun i c st'=>st'=st∧c=(none,i)∧Ris r (l.take i)) ?_ ?_ ⟨rfl,rfl,ri⟩
 ·rintro i c st' h1 h2 ⟨rfl,rfl,ri⟩
  refine wpS_bind (lt_in ask hk ar gl (i:=i) (j:=i - 1) rfl (by dsimp only;omega) h2 (by omega) ?_)
  by_cases c:r l[i]<r l[i - 1]
  ·rw[decide_eq_true c]
   exact wpS_pure ⟨rfl,i,rfl,h1,by omega,ri,fun _=>c⟩
  ·rw[decide_eq_false c]
   have:=od.at h2 (show i - 1<l.length by omega) (by omega)
   exact wpS_pure ⟨rfl,rfl,ris_snoc (by omega) h2 ri (by omega)⟩
 ·rintro c st' ⟨rfl,rfl,ri⟩
  rw[Nat.max_eq_right hn]at ri ⊢
  exact⟨rfl,_,rfl,hn,Nat.le_refl _,ri,fun h=>absurd h (Nat.lt_irrefl _)⟩
theorem run_found (ask:Asks prog w A s kd G r)(hk:kindOf st=kd)(ar:(arrOf st).toList=pre++l)(gl:∀x∈l,G x)(od:Odd r l)(l0:0<l.length){Q:Option Nat→SortSt→Prop}
 (q:∀(st':SortSt) (l':List Keyed) (n:Nat),Near st st'→(arrOf st').toList=pre++l'→l'.Perm l→0<n→n≤l'.length→Ris r (l'.take n)→Q (some n) st'):wpS (model prog w) A E s (countRun' pre.length l.length) Q st:=by
 have one:Ris r (l.take 1):=by
  cases l with
  |nil=>simp at l0
  |cons a l=>exact pairwise_singleton _ _
 refine wpS_bind (wpS_mono (run_on ask hk ar gl od (n0:=1) (by omega) l0 one) ?_)
 rintro c st1 ⟨rfl,n,rfl,h1,h2,ri,nx⟩
 dsimp -zeta only
 refine wp_if (fun e=>wpS_pure (q _ l n ⟨rfl,rfl,rfl⟩ ar (List.Perm.refl _) h1 h2 ri)) fun e=>?_
 have e:n<l.length:=by have:¬n=l.length:=fun z=>e (beq_iff_eq.mpr z);omega
 lift_lets
 intro jp
 refine wp_if (fun c=>?_) fun c=>?_
 ·refine wpS_bind (lt_in ask hk ar gl (i:=0) (j:=n - 1) (by omega) (by omega) (by omega) (by omega) ?_)
  have lt:r l[0]<r l[n - 1]:=by
   have:=pairwise_iff_getElem.mp ri 0 (n - 1) (by rw[length_take];omega) (by rw[length_take];omega) (by omega)
   simpa using this
  rw[decide_eq_true lt]
  exact wp_if (fun _=>wpS_pure (q _ l n ⟨rfl,rfl,rfl⟩ ar (List.Perm.refl _) h1 h2 ri)) fun z=>absurd rfl z
 have n1:n=1:=by omega
 subst n1
 have fall2:Ris r (l.take 2).reverse:=fall_snoc (n:=1) (by omega) e (by
  cases l with
  |nil=>simp at l0
  |cons a l=>exact pairwise_singleton _ _) (nx e)
 refine wpS_bind (wpS_lift (wpAny_rule ⟨rfl,?_⟩))
 refine wpS_bind (wpS_mono (wpS_forRange (I:=fun i c st'=>st'=st1∧c=(none,i,0)∧Ris r (l.take i).reverse) (Q:=fun c st'=>st'=st1∧∃n,c=(none,n,0)∧2≤n∧n≤l.length∧Ris r (l.take n).reverse) ?_ ?_ ⟨rfl,rfl,fall2⟩) ?_)
 ·rintro i c st' g1 g2 ⟨rfl,rfl,fa⟩
  refine wpS_bind (lt_in ask hk ar gl (i:=i) (j:=i - 1) rfl (by dsimp only;omega) g2 (by omega) ?_)
  have nn:=od.at g2 (show i - 1<l.length by omega) (by omega)
  by_cases c:r l[i]<r l[i - 1]
  ·rw[decide_eq_true c]
   refine wp_if (fun _=>wp_if (fun z=>absurd z (by show ¬(0:Nat)>0;omega)) fun _=>wpS_pure ⟨rfl,rfl,fall_snoc (by omega) g2 fa c⟩) fun z=>absurd rfl z
  ·rw[decide_eq_false c]
   refine wp_if (fun z=>absurd z Bool.false_ne_true) fun _=>wpS_bind (lt_in ask hk ar gl (i:=i - 1) (j:=i) (by dsimp only;omega) rfl (by omega) g2 ?_)
   rw[decide_eq_true (by omega)]
   exact wp_if (fun _=>wpS_pure ⟨rfl,i,rfl,g1,by omega,fa⟩) fun z=>absurd rfl z
 ·rintro c st' ⟨rfl,rfl,fa⟩
  rw[Nat.max_eq_right (by omega)]at fa ⊢
  exact⟨rfl,_,rfl,by omega,Nat.le_refl _,fa⟩
 ·rintro c st' ⟨rfl,n,rfl,g1,g2,fa⟩
  dsimp -zeta only
  lift_lets
  intro jp2
  refine wp_if (fun z=>absurd z (by show ¬(0:Nat)>0;omega)) fun _=>?_
  refine wpS_bind (wpS_reverse ?_)
  have ar2:=mir_list (n:=n) ar g2
  have pl:((l.take n).reverse++l.drop n).Perm l:=by
   refine List.Perm.trans (List.Perm.append_right _ (List.reverse_perm _)) ?_
   rw[take_append_drop]
  have ln:((l.take n).reverse++l.drop n).length=l.length:=pl.length_eq
  have tk:((l.take n).reverse++l.drop n).take n=(l.take n).reverse:=by
   rw[List.take_append_of_le_length (by rw[length_reverse,length_take];omega),take_of_length_le (by rw[length_reverse,length_take];omega)]
  refine wp_at (fun st2=>Near st' st2∧(arrOf st2).toList=pre++((l.take n).reverse++l.drop n)) ⟨⟨rfl,rfl,rfl⟩,ar2⟩ ?_
  rintro st2 ⟨N,ar3⟩
  generalize(l.take n).reverse++l.drop n=l2 at ar3 pl ln tk
  have go:=wpS_mono (Q':=fun c st3=>st3=st2∧∃m,c=(none,m)∧n≤m∧m≤l2.length∧Ris r (l2.take m)) (run_on ask (N.kd.trans hk) ar3 (fun x hx=>gl x (pl.mem_iff.mp hx)) (od.perm pl) (n0:=n) (E:=E) (by omega) (by omega) (by rw[tk];exact fa)) (fun c st3 ⟨z0,m,z1,z2,z3,z4,_⟩=>⟨z0,m,z1,z2,z3,z4⟩)
  rw[ln]at go
  refine wpS_bind (wpS_mono go ?_)
  rintro c st3 ⟨rfl,m,rfl,m1,m2,ri⟩
  exact wpS_pure (q _ l2 m N ar3 pl (by omega) (by omega) ri)
theorem run_longer (ask:Asks prog w A s kd G r)(hk:kindOf st=kd)(ar:(arrOf st).toList=pre++l)(gl:∀x∈l,G x)(od:Odd r l){n ok:Nat}(h1:0<ok)(h2:ok≤n)(h3:n≤l.length)(ri:Ris r (l.take ok)){Q:Bool→SortSt→Prop}
 (q:∀(st':SortSt) (l':List Keyed),Near st st'→(arrOf st').toList=pre++l'→l'.Perm l→Ris r (l'.take n)→Q true st'):wpS (model prog w) A E s (binarySort' pre.length n ok) Q st:=by
 refine wpS_bind (wpS_mono (wpS_forRange (I:=fun k c st'=>c=(none,())∧Near st st'∧∃l',(arrOf st').toList=pre++l'∧l'.Perm l∧Ris r (l'.take k)) (Q:=fun c st'=>c=(none,())∧Near st st'∧∃l',(arrOf st').toList=pre++l'∧l'.Perm l∧Ris r (l'.take n)) ?_ ?_ ⟨rfl,⟨rfl,rfl,rfl⟩,l,ar,List.Perm.refl _,by rw[Nat.max_eq_left h1];exact ri⟩) ?_)
 ·rintro k c st1 g1 g2 ⟨rfl,N,l1,ar1,pm,ri⟩
  have ln:=pm.length_eq
  have hk1:k<l1.length:=by omega
  have gl1:∀x∈l1,G x:=fun x hx=>gl x (pm.mem_iff.mp hx)
  have od1:=od.perm pm
  have lk:(l1.take k).length=k:=by rw[length_take];omega
  obtain⟨t,t1,t2,t3⟩:=thr (k:=r l1[k]) ri fun x hx=>by
   obtain⟨i,hi,rfl⟩:=List.mem_take_iff_getElem.mp hx
   exact od1.at (by omega) hk1 (by omega)
  rw[lk]at t1
  have at_:∀m,(hm:m<k)→decide (r l1[k]<r (l1[m]'(by omega)))=decide (t≤m):=fun m hm=>by
   by_cases c:t≤m
   ·rw[decide_eq_true c]
    exact decide_eq_true (t3 _ (List.mem_drop_iff_getElem.mpr ⟨m - t,by omega,by rw[List.getElem_take];congr 1;omega⟩))
   ·rw[decide_eq_false c]
    have:=t2 (l1[m]'(by omega)) (List.mem_take_iff_getElem.mpr ⟨m,by omega,by rw[List.getElem_take]⟩)
    exact decide_eq_false (by omega)
  refine wpS_bind (wpS_mono (wpS_forRange (I:=fun i c st'=>st'=st1∧∃a b,c=(none,a,b)∧a≤t∧t≤b∧b≤k∧b - a+i≤k) (Q:=fun c st'=>st'=st1∧∃b,c=(none,t,b)) ?_ ?_ ⟨rfl,_,_,rfl,Nat.zero_le _,t1,Nat.le_refl _,by omega⟩) ?_)
  ·rintro i c st' _ hi ⟨rfl,a,b,rfl,a1,a2,a3,a4⟩
   refine wp_if (fun c=>?_) fun c=>?_
   ·have c:a≥b:=c
    obtain rfl:a=t:=by omega
    exact wpS_pure ⟨rfl,_,rfl⟩
   have c:¬a≥b:=c
   refine wpS_bind (lt_in ask (N.kd.trans hk) ar1 gl1 (i:=k) (j:=(a+b) / 2) rfl rfl hk1 (by omega) ?_)
   rw[at_ ((a+b) / 2) (by omega)]
   by_cases c2:t≤(a+b) / 2
   ·rw[decide_eq_true c2]
    exact wp_if (fun _=>wpS_pure ⟨rfl,_,_,rfl,a1,c2,(by dsimp only;omega),(by dsimp only;omega)⟩) fun z=>absurd rfl z
   ·rw[decide_eq_false c2]
    exact wp_if (fun z=>absurd z Bool.false_ne_true) fun _=>wpS_pure ⟨rfl,_,_,rfl,(by dsimp only;omega),a2,a3,(by dsimp only;omega)⟩
  ·rintro c st' ⟨rfl,a,b,rfl,a1,a2,a3,a4⟩
   obtain rfl:a=t:=by omega
   exact⟨rfl,_,rfl⟩
  ·rintro c st' ⟨rfl,b,rfl⟩
   rw[←lk]at t1
   have ar2:=bub_list (k:=k) (t:=t) ar1 hk1 (by omega)
   have pm2:((l1.take k).take t++l1[k]::((l1.take k).drop t++l1.drop (k+1))).Perm l1:=by
    refine List.Perm.trans perm_middle ?_
    rw[←List.append_assoc,take_append_drop]
    have:=perm_middle (l₁:=l1.take k) (a:=l1[k]) (l₂:=l1.drop (k+1))
    refine this.symm.trans ?_
    rw[←drop_eq_getElem_cons hk1,take_append_drop]
   refine wpS_bind (wpS_modify (wpS_pure ⟨rfl,⟨N.kd,N.pd,N.fl⟩,_,ar2,pm2.trans pm,?_⟩))
   have e:((l1.take k).take t++l1[k]::((l1.take k).drop t++l1.drop (k+1))).take (k+1)=(l1.take k).take t++l1[k]::(l1.take k).drop t:=by
    rw[←cons_append,←List.append_assoc]
    exact List.take_left' (by simp only[length_append,length_cons,length_drop,length_take];omega)
   rw[e]
   have r1:Ris r ((l1.take k).take t++(l1.take k).drop t):=by rw[take_append_drop];exact ri
   have r1:=pairwise_append.mp r1
   refine pairwise_append.mpr ⟨r1.1,pairwise_cons.mpr ⟨fun v hv=>t3 v hv,r1.2.1⟩,fun u hu v hv=>?_⟩
   rcases mem_cons.mp hv with z | z
   ·rw[z];exact t2 u hu
   ·exact r1.2.2 u hu v z
 ·rintro c st' ⟨rfl,N,l1,ar1,pm,ri⟩
  rw[show max (max ok 1) n=n by omega]at ri
  exact⟨rfl,N,l1,ar1,pm,ri⟩
 ·rintro c st' ⟨rfl,N,l1,ar1,pm,ri⟩
  exact wpS_pure (q _ l1 N ar1 pm ri)
end
end L2
namespace L2
open PySem PySem.W PyProof.Rows
def starts:List (List Keyed)→Nat→List (Nat×Nat)
 |[],_=>[]
 |x::l,n=>(n,x.length)::starts l (n+x.length)
theorem starts_app:∀(a b:List (List Keyed)) (n:Nat),starts (a++b) n=starts a n++starts b (n+a.flatten.length)
 |[],b,n=>by simp[starts]
 |x::a,b,n=>by
  rw[cons_append,starts,starts,starts_app a b,cons_append,flatten_cons,length_append,Nat.add_assoc]
theorem starts_len:∀(a:List (List Keyed)) (n:Nat),(starts a n).length=a.length
 |[],_=>rfl
 |x::a,n=>by rw[starts,length_cons,length_cons,starts_len a]
def Pend (p:Array (Nat×Nat×Nat))(R:List (List Keyed)):Prop:=p.toList.map (fun x=>(x.1,x.2.1))=starts R 0
theorem Pend.size {p:Array (Nat×Nat×Nat)}{R:List (List Keyed)}(h:Pend p R):p.size=R.length:=by
 have:=congrArg List.length h
 rw[length_map,starts_len,length_toList]at this
 exact this
theorem Pend.push {p:Array (Nat×Nat×Nat)}{R:List (List Keyed)}(h:Pend p R){x:List Keyed}{n m k:Nat}(hn:n=R.flatten.length)(hm:m=x.length):Pend (p.push (n,m,k)) (R++[x]):=by
 unfold Pend
 rw[toList_push,map_append,h,starts_app,hn,hm,Nat.zero_add]
 rfl
theorem map_modify' {α β:Type}{f:α→β}{g:α→α}(h:∀x,f (g x)=f x):∀(l:List α) (i:Nat),(l.modify i g).map f=l.map f
 |[],i=>by simp
 |a::l,0=>by simp[h]
 |a::l,i+1=>by simp[map_modify' h l i]
theorem Pend.pow {p:Array (Nat×Nat×Nat)}{R:List (List Keyed)}(h:Pend p R){i:Nat}{g:Nat×Nat×Nat→Nat×Nat×Nat}(hg:∀x,((g x).1,(g x).2.1)=(x.1,x.2.1)):Pend (p.modify i g) R:=by
 unfold Pend
 rw[Array.toList_modify,map_modify' (f:=fun x:Nat×Nat×Nat=>(x.1,x.2.1)) hg]
 exact h
theorem Pend.two {p:Array (Nat×Nat×Nat)}{R1 R2:List (List Keyed)}{x y:List Keyed}(h:Pend p (R1++x::y::R2)) :
 ∃a b,p[R1.length]?=some (R1.flatten.length,x.length,a)∧p[R1.length+1]?=some (R1.flatten.length+x.length,y.length,b)∧
  ∀z:List Keyed,z.length=x.length+y.length→Pend ((p.setIfInBounds R1.length (R1.flatten.length,x.length+y.length,a)).eraseIdxIfInBounds (R1.length+1)) (R1++z::R2):=by
 unfold Pend at h
 rw[starts_app,Nat.zero_add,starts,starts]at h
 obtain⟨P1,P',e,h1,h2⟩:=List.map_eq_append_iff.mp h
 obtain⟨u,P'',e2,h3,h4⟩:=List.map_eq_cons_iff.mp h2
 obtain⟨v,P2,e3,h5,h6⟩:=List.map_eq_cons_iff.mp h4
 obtain⟨u1,u2,a⟩:=u
 obtain⟨v1,v2,b⟩:=v
 simp only[Prod.mk.injEq]at h3 h5
 obtain⟨rfl,rfl⟩:=h3
 obtain⟨rfl,rfl⟩:=h5
 subst e3 e2
 have l1:P1.length=R1.length:=by
  have:=congrArg List.length h1
  rw[length_map,starts_len]at this
  exact this
 refine⟨a,b,?_,?_,fun z hz=>?_⟩
 ·rw[←getElem?_toList,e,←l1,getElem?_append_right (Nat.le_refl _),Nat.sub_self]
  rfl
 ·rw[←getElem?_toList,e,←l1,getElem?_append_right (by omega),show P1.length+1 - P1.length=1 by omega]
  rfl
 ·unfold Pend
  have sz:p.size=P1.length+(P2.length+2):=by rw[←length_toList,e];simp
  have e4:((p.setIfInBounds R1.length (R1.flatten.length,x.length+y.length,a)).eraseIdxIfInBounds (R1.length+1)).toList=P1++(R1.flatten.length,x.length+y.length,a)::P2:=by
   rw[Array.eraseIdxIfInBounds,dif_pos (by rw[Array.size_setIfInBounds];omega),Array.toList_eraseIdx,Array.toList_setIfInBounds,e,←l1]
   simp[List.eraseIdx_append_of_length_le]
  rw[e4,map_append,map_cons,h1,h6,starts_app,Nat.zero_add,starts,hz,Nat.add_assoc]
section
variable {prog:Program}{w:World}{A:Around}{E:Value→Shared→Prop}{s:Shared}{kd:SortKind}{G:Keyed→Prop}{r:Keyed→Int}{st:SortSt}
structure Runs6 (kd:SortKind)(G:Keyed→Prop)(r:Keyed→Int)(a0:List Keyed)(st:SortSt)(R:List (List Keyed))(l:List Keyed):Prop where
 kd:kindOf st=kd
 fl:failedOf st=none
 ar:(arrOf st).toList=R.flatten++l
 pm:(R.flatten++l).Perm a0
 pd:Pend (pendingOf st) R
 ri:∀x∈R,Ris r x∧0<x.length
theorem join_two (ask:Asks prog w A s kd G r){a0:List Keyed}(ga:∀x∈a0,G x)(od:Odd r a0){R:List (List Keyed)}{l:List Keyed}(h:Runs6 kd G r a0 st R l){i:Nat}(hi:i+1<R.length){Q:Bool→SortSt→Prop}
 (q:∀(st':SortSt) (R':List (List Keyed)),Runs6 kd G r a0 st' R' l→R'.length+1=R.length→R'.flatten.length=R.flatten.length→Q true st'):wpS (model prog w) A E s (mergeAt' i) Q st:=by
 obtain⟨R1,x,y,R2,rfl,rfl⟩:∃R1 x y R2,R=R1++x::y::R2∧i=R1.length:=by
  refine⟨R.take i,R[i],R[i+1],R.drop (i+2),?_,by rw[length_take];omega⟩
  rw[←drop_eq_getElem_cons hi,←drop_eq_getElem_cons (by omega:i<R.length),take_append_drop]
 obtain⟨a,b,p1,p2,p3⟩:=h.pd.two
 have fl:(R1++x::y::R2).flatten++l=R1.flatten++x++y++(R2.flatten++l):=by simp[List.append_assoc]
 have od':=od.perm h.pm
 rw[fl]at od'
 have dis:∀u∈x,∀v∈y,r u≠r v:=fun u hu v hv=>(pairwise_append.mp (pairwise_append.mp od').1).2.2 u (mem_append_right _ hu) v hv
 have g:∀u,u∈R1.flatten++x++y++(R2.flatten++l)→G u:=fun u hu=>ga u (h.pm.mem_iff.mp (by rw[fl];exact hu))
 refine one_run ask h.kd h.fl (pre:=R1.flatten) (x:=x) (y:=y) (post:=R2.flatten++l) (by rw[h.ar,fl]) (h.ri x (by simp)).2 (h.ri y (by simp)).2 (h.ri x (by simp)).1 (h.ri y (by simp)).1 (fun u hu=>g u (by simp[hu])) (fun u hu=>g u (by simp[hu])) dis p1 p2 fun st' z k f pd ar zp zr=>?_
 have zl:=zp.length_eq
 rw[length_append]at zl
 have fl':(R1++z::R2).flatten++l=R1.flatten++z++(R2.flatten++l):=by simp[List.append_assoc]
 refine q st' (R1++z::R2) ⟨k,f,by rw[ar,fl'],?_,by rw[pd];exact p3 z zl,fun u hu=>?_⟩ (by simp;omega) (by simp;omega)
 ·refine List.Perm.trans ?_ h.pm
  rw[fl,fl',List.append_assoc (R1.flatten) x y]
  exact List.Perm.append_right _ (List.Perm.append_left _ zp)
 ·rcases mem_append.mp hu with c | c
  ·exact h.ri u (by simp[c])
  ·rcases mem_cons.mp c with c | c
   ·subst c
    have:=(h.ri x (by simp)).2
    exact⟨zr,by omega⟩
   ·exact h.ri u (by simp[c])
theorem pick {c:Prop}[Decidable c]{n m:Nat}(h:n+1<m):(if c then n - 1 else n)+1<m:=by split<;>omega
theorem all_sorted (ask:Asks prog w A s kd G r){a0:List Keyed}(ga:∀x∈a0,G x)(od:Odd r a0)(hk:kindOf st=kd)(hf:failedOf st=none)(hp:pendingOf st=#[])(ar:(arrOf st).toList=a0){Q:Unit→SortSt→Prop}
 (q:∀(st':SortSt),failedOf st'=none→(arrOf st').toList.Perm a0→Ris r (arrOf st').toList→Q () st'):wpS (model prog w) A E s sortRuns' Q st:=by
 have sz:(arrOf st).size=a0.length:=by rw[←ar,length_toList]
 refine wpS_bind (wpS_get ?_)
 lift_lets
 intro size minrun lo
 have esz:size=a0.length:=sz
 have lenOf:∀{st':SortSt} {R:List (List Keyed)} {l:List Keyed},Runs6 kd G r a0 st' R l→R.flatten.length+l.length=a0.length:=fun{st' R l} h=>by
  have:=h.pm.length_eq
  rw[length_append]at this
  exact this
 have fewer:∀{st':SortSt} {R:List (List Keyed)} {l:List Keyed},Runs6 kd G r a0 st' R l→R.length≤R.flatten.length:=fun{st' R l} h=>by
  have:=h.ri
  clear h
  induction R with
  |nil=>simp
  |cons x R ih=>
   have h1:=(this x (by simp)).2
   have h2:=ih fun y hy=>this y (by simp[hy])
   simp only[flatten_cons,length_cons,length_append]
   omega
 refine wpS_bind (wpS_mono (wpS_forRange (I:=fun i c st'=>∃R l,Runs6 kd G r a0 st' R l∧c=(none,R.flatten.length)∧(i≤R.flatten.length∨l=[])) (Q:=fun c st'=>c.1=none∧∃R,Runs6 kd G r a0 st' R []) ?_ ?_ ⟨[],a0,⟨hk,hf,ar,List.Perm.refl _,by unfold Pend;rw[hp];rfl,by simp⟩,rfl,.inl (Nat.le_refl _)⟩) ?_)
 ·rintro i c st1 _ hi ⟨R,l,h,rfl,hil⟩
  refine wp_if (fun c=>?_) fun c=>?_
  ·have c:R.flatten.length≥size:=c
   have:=lenOf h
   have l0:l=[]:=List.eq_nil_of_length_eq_zero (by omega)
   subst l0
   exact wpS_pure ⟨rfl,R,h⟩
  have c:¬R.flatten.length≥size:=c
  have ln:=lenOf h
  have od1:Odd r l:=(pairwise_append.mp (od.perm h.pm)).2.1
  have gl:∀x∈l,G x:=fun x hx=>ga x (h.pm.mem_iff.mp (mem_append_right _ hx))
  have go:=fun Q q=>run_found (E:=E) (Q:=Q) ask h.kd h.ar gl od1 (by omega) q
  rw[show l.length=size - R.flatten.length by omega]at go
  refine wpS_bind (go _ fun st2 l2 n N ar2 pm2 n0 n1 ri=>?_)
  have h2:Runs6 kd G r a0 st2 R l2:=⟨N.kd.trans h.kd,N.fl.trans h.fl,ar2,(List.Perm.append_left _ pm2).trans h.pm,by rw[N.pd];exact h.pd,h.ri⟩
  have ln2:=lenOf h2
  split
  rotate_left
  ·rename_i hx
   exact absurd rfl (hx n)
  rename_i found heq
  cases heq
  have iR:i≤R.flatten.length:=by
   rcases hil with z | z
   ·exact z
   ·have:l.length=0:=by rw[z];rfl
    omega
  have fin:∀{st4:SortSt} {R4:List (List Keyed)} {l3:List Keyed} {m:Nat},Runs6 kd G r a0 st4 R4 l3→R4.flatten.length=R.flatten.length→0<m→m≤l3.length→Ris r (l3.take m)→
   ∃R' l',Runs6 kd G r a0 (SortSt.mk' (kindOf st4) (arrOf st4) ((pendingOf st4).push (R.flatten.length,m,0)) (gallopOf st4) (failedOf st4)) R' l'∧((none,R.flatten.length+m):Option Unit×Nat)=(none,R'.flatten.length)∧(i+1≤R'.flatten.length∨l'=[]):=fun{st4 R4 l3 m} h4 e4 m0 m1 ri3=>by
   have tl:[l3.take m].flatten.length=m:=by
    simp only[flatten_cons,List.flatten_nil,append_nil,length_take]
    omega
   refine⟨R4++[l3.take m],l3.drop m,⟨h4.kd,h4.fl,?_,?_,h4.pd.push e4.symm (by rw[length_take];omega),fun x hx=>?_⟩,?_,.inl ?_⟩
   ·show(arrOf st4).toList=_
    rw[h4.ar]
    simp[List.append_assoc]
   ·have:=h4.pm
    simpa[List.append_assoc]using this
   ·rcases mem_append.mp hx with z | z
    ·exact h4.ri x z
    ·rw[mem_singleton.mp z]
     exact⟨ri3,by rw[length_take];omega⟩
   ·rw[List.flatten_append,length_append,e4,tl]
   ·rw[List.flatten_append,length_append,e4,tl]
    omega
  refine wp_if (fun c2=>wpS_bind (wpS_lift (wpAny_rule ⟨rfl,wpS_bind (run_longer ask h2.kd h2.ar (fun x hx=>ga x (h2.pm.mem_iff.mp (mem_append_right _ hx))) (pairwise_append.mp (od.perm h2.pm)).2.1 (n:=min (size - R.flatten.length) minrun) n0 ?h5 ?h6 ri fun st3 l3 N3 ar3 pm3 ri3=>wp_if (fun z=>absurd z (by decide)) fun _=>?_)⟩))) fun c2=>?_
  case h5=>have:n<minrun:=c2;omega
  case h6=>omega
  ·have c2:n<minrun:=c2
   have h3:Runs6 kd G r a0 st3 R l3:=⟨N3.kd.trans h2.kd,N3.fl.trans h2.fl,ar3,(List.Perm.append_left _ pm3).trans h2.pm,by rw[N3.pd];exact h2.pd,h.ri⟩
   have m0:0<min (size - R.flatten.length) minrun:=by omega
   have m1:min (size - R.flatten.length) minrun≤l3.length:=by have:=lenOf h3;omega
   refine wpS_bind (wpS_get ?_)
   cases hb:(pendingOf _).back? with
   |none=>exact wpS_bind (wpS_modify (wpS_pure (fin h3 rfl m0 m1 ri3)))
   |some v=>
    obtain⟨s1,n1',p1'⟩:=v
    refine wpS_bind (wpS_mono (wpS_forRange (I:=fun j c st'=>c=(none,())∧∃R4,Runs6 kd G r a0 st' R4 _∧R4.flatten.length=R.flatten.length) (Q:=fun c st'=>c=(none,())∧∃R4,Runs6 kd G r a0 st' R4 _∧R4.flatten.length=R.flatten.length) ?_ (fun _ _ z=>z) ⟨rfl,R,h3,rfl⟩) ?_)
    ·rintro j c st4 _ _ ⟨rfl,R4,h4,e4⟩
     refine wpS_bind (wpS_get ?_)
     dsimp only
     split
     ·rename_i f1 f2 older he
      have big:(pendingOf st4).size>1:=by
       by_cases b:(pendingOf st4).size>1
       ·exact b
       ·rw[if_neg b]at he;cases he
      exact wp_if (fun _=>wpS_pure ⟨rfl,R4,h4,e4⟩) fun _=>wpS_bind (join_two ask ga od h4 (i:=(pendingOf st4).size - 2) (by have:=h4.pd.size;omega) fun st5 R5 h5 e5 e6=>wp_if (fun z=>absurd z (by decide)) fun _=>wpS_pure ⟨rfl,R5,h5,e6.trans e4⟩)
     ·exact wpS_pure ⟨rfl,R4,h4,e4⟩
    ·rintro c st4 ⟨rfl,R4,h4,e4⟩
     have h5:∀pw,Runs6 kd G r a0 (SortSt.mk' (kindOf st4) (arrOf st4) ((pendingOf st4).modify ((pendingOf st4).size - 1) fun x=>(x.1,x.2.1,pw)) (gallopOf st4) (failedOf st4)) R4 _:=fun pw=>⟨h4.kd,h4.fl,h4.ar,h4.pm,h4.pd.pow fun _=>rfl,h4.ri⟩
     exact wpS_bind (wpS_modify (wpS_bind (wpS_modify (wpS_pure (fin (h5 _) e4 m0 m1 ri3)))))
  ·have h3:=h2
   have m0:=n0
   have m1:=n1
   have ri3:=ri
   refine wpS_bind (wpS_get ?_)
   cases hb:(pendingOf _).back? with
   |none=>exact wpS_bind (wpS_modify (wpS_pure (fin h3 rfl m0 m1 ri3)))
   |some v=>
    obtain⟨s1,n1',p1'⟩:=v
    refine wpS_bind (wpS_mono (wpS_forRange (I:=fun j c st'=>c=(none,())∧∃R4,Runs6 kd G r a0 st' R4 _∧R4.flatten.length=R.flatten.length) (Q:=fun c st'=>c=(none,())∧∃R4,Runs6 kd G r a0 st' R4 _∧R4.flatten.length=R.flatten.length) ?_ (fun _ _ z=>z) ⟨rfl,R,h3,rfl⟩) ?_)
    ·rintro j c st4 _ _ ⟨rfl,R4,h4,e4⟩
     refine wpS_bind (wpS_get ?_)
     dsimp only
     split
     ·rename_i f1 f2 older he
      have big:(pendingOf st4).size>1:=by
       by_cases b:(pendingOf st4).size>1
       ·exact b
       ·rw[if_neg b]at he;cases he
      exact wp_if (fun _=>wpS_pure ⟨rfl,R4,h4,e4⟩) fun _=>wpS_bind (join_two ask ga od h4 (i:=(pendingOf st4).size - 2) (by have:=h4.pd.size;omega) fun st5 R5 h5 e5 e6=>wp_if (fun z=>absurd z (by decide)) fun _=>wpS_pure ⟨rfl,R5,h5,e6.trans e4⟩)
     ·exact wpS_pure ⟨rfl,R4,h4,e4⟩
    ·rintro c st4 ⟨rfl,R4,h4,e4⟩
     have h5:∀pw,Runs6 kd G r a0 (SortSt.mk' (kindOf st4) (arrOf st4) ((pendingOf st4).modify ((pendingOf st4).size - 1) fun x=>(x.1,x.2.1,pw)) (gallopOf st4) (failedOf st4)) R4 _:=fun pw=>⟨h4.kd,h4.fl,h4.ar,h4.pm,h4.pd.pow fun _=>rfl,h4.ri⟩
     exact wpS_bind (wpS_modify (wpS_bind (wpS_modify (wpS_pure (fin (h5 _) e4 m0 m1 ri3)))))
 ·rintro c st1 ⟨R,l,h,rfl,hil⟩
  have:=lenOf h
  have l0:l=[]:=by
   rcases hil with z | z
   ·rw[Nat.max_eq_right (Nat.zero_le _)]at z
    exact List.eq_nil_of_length_eq_zero (by omega)
   ·exact z
  subst l0
  exact⟨rfl,R,h⟩
 rintro⟨c1,c2⟩ st1 ⟨e,R,h⟩
 obtain rfl:c1=none:=e
 have l1:=lenOf h
 have f1:=fewer h
 rw[length_nil]at l1
 refine wpS_bind (wpS_mono (wpS_forRange (I:=fun i c st'=>c=(none,())∧∃R,Runs6 kd G r a0 st' R []∧R.length+i≤size+1) (Q:=fun c st'=>c=(none,())∧∃R,Runs6 kd G r a0 st' R []∧R.length≤1) ?_ ?_ ⟨rfl,R,h,by omega⟩) ?_)
 ·rintro i c st2 _ hi ⟨rfl,R2,h2,e2⟩
  refine wpS_bind (wpS_get ?_)
  have sz2:=h2.pd.size
  refine wp_if (fun c=>wpS_pure ⟨rfl,R2,h2,by have:(pendingOf st2).size≤1:=c;omega⟩) fun c=>?_
  have c:¬(pendingOf st2).size≤1:=c
  exact wpS_bind (join_two ask ga od h2 (pick (by show(pendingOf st2).size - 2+1<_;omega)) fun st5 R5 h5 e5 e6=>wp_if (fun z=>absurd z (by decide)) fun _=>wpS_pure ⟨rfl,R5,h5,by omega⟩)
 ·rintro c st2 ⟨rfl,R2,h2,e2⟩
  rw[Nat.max_eq_right (Nat.zero_le _)]at e2
  exact⟨rfl,R2,h2,by omega⟩
 ·rintro c st2 ⟨rfl,R2,h2,e2⟩
  refine wpS_pure (q st2 h2.fl (by rw[h2.ar];exact h2.pm) ?_)
  rw[h2.ar,append_nil]
  match R2,e2,h2.ri with
  |[],_,_=>exact List.Pairwise.nil
  |[x],_,ri=>simpa using(ri x (by simp)).1
end
end L2
namespace L2
open PySem.W
def TupAt (h:Heap)(v:Value)(t:List Int):Prop:=∃(p:Addr) (its:List Value),v=.ref p∧IsTup h p its.toArray∧Vals (t.map V.int) its
theorem TupAt.old {h h':Heap}{v:Value}{t:List Int}(n:TupAt h v t)(k:∀(x:Addr) (o:Obj),h.get? x=some o→o.cls≠.type "list"→h'.get? x=some o):TupAt h' v t:=by
 obtain⟨p,its,e,⟨o2,h2,c2,d2⟩,hi⟩:=n
 exact⟨p,its,e,⟨o2,k _ _ h2 (by rw[c2];simp),c2,d2⟩,hi⟩
theorem TupAt.one {h:Heap}{v:Value}{t t':List Int}(a:TupAt h v t)(b:TupAt h v t'):t=t':=by
 obtain⟨p,its,rfl,⟨o1,g1,_,n1,d1⟩,v1⟩:=a
 obtain⟨p',its',e,⟨o2,g2,_,n2,d2⟩,v2⟩:=b
 cases e
 rw[g1]at g2
 cases g2
 rw[d1]at d2
 have e3:its=its':=by
  have z:its.toArray=its'.toArray:=(Data.seq.inj d2).1
  simpa using congrArg Array.toList z
 subst e3
 exact ints_of_vals v1 v2
section
variable {prog:Program}{w:World}{A:Around}{E:Value→Shared→Prop}{s:Shared}
theorem lex_go {b fin:Bool}{Q:Bool→Shared→Prop}:∀{t t':List Int} {xs ys:List Value} {i:Nat},Vals (t.map V.int) xs→Vals (t'.map V.int) ys→fin=decide (t.length<t'.length)→Q (HT.lexLt t t') s→KatLex prog w A b fin Q (xs.zip ys) i s
 |[],[],_,_,_,.nil,.nil,e,q=>kat_nil (by rw[e];exact q)
 |[],_::_,_,_,_,.nil,.cons _ _,e,q=>kat_nil (by rw[e];exact q)
 |_::_,[],_,_,_,.cons _ _,.nil,e,q=>kat_nil (by rw[e];exact q)
 |c::t,d::t',_,_,i,.cons x r,.cons y r',e,q=>by
  obtain⟨k,rfl⟩:=int_val x
  obtain⟨k',rfl⟩:=int_val y
  rw[HT.lexLt_cons]at q
  refine kat_cons (wpAny_eqBool_int (kat_go (fun z=>kat_yes (lex_go r r' ?_ ?_)) fun z=>kat_no ?_))
  ·rw[e];simp
  ·rw[if_pos (by simpa using z)]at q
   exact q
  ·rw[if_neg (by simpa using z)]at q
   by_cases c:(b&&i==0)=true
   ·rw[c];exact oneLt_int q
   ·rw[eq_false_iff.mpr c]
    exact kat_one _ _ (lt_int q)
theorem tup_lt {b:Bool}{v v':Value}{t t':List Int}{Q:Bool→Shared→Prop}(h:TupAt s.heap v t)(h':TupAt s.heap v' t')(q:Q (HT.lexLt t t') s):wpAny (model prog w) A (keyLt' (tuples' b) v v') Q E s:=by
 obtain⟨p,its,rfl,⟨o,g,c,n,d⟩,hi⟩:=h
 obtain⟨p',its',rfl,⟨o',g',c',n',d'⟩,hi'⟩:=h'
 have l1:=hi.length
 have l2:=hi'.length
 rw[length_map]at l1 l2
 refine kat_lt g d g' d' ?_
 have:=lex_go (prog:=prog) (w:=w) (A:=A) (s:=s) (b:=b) (Q:=Q) (i:=0) hi hi' (fin:=decide (its.toArray.size<its'.toArray.size)) (by simp[l1,l2]) q
 simpa using this
theorem asks_of {kd:SortKind}{G:Keyed→Prop}{r:Keyed→Int}(h:∀(x y:Keyed) (Q:Bool→Shared→Prop),G x→G y→Q (decide (r x<r y)) s→wpAny (model prog w) A (keyLt' kd x.1 y.1) Q (fun _ _=>False) s):Asks prog w A s kd G r:=by
 intro E x y Q st gx gy hk q
 subst hk
 rw[lt'_eq]
 refine wpS_bind (wpS_get ?_)
 refine wpS_bind (wpS_lift (wpAny_attempt (wpAny_mono (h x y (fun b s'=>b=decide (r x<r y)∧s'=s) gx gy ⟨rfl,rfl⟩) (fun b s' hb=>?_) fun _ _ z=>z.elim)))
 obtain⟨rfl,rfl⟩:=hb
 exact⟨rfl,wpS_pure q⟩
theorem sort_rows {a:Addr}{vs:List Value}{bl:List (List Int)}{n:Nat}{Fi:PySem.Fin→Shared→Prop}(ho:s.heap.get? a=some (seqObj "list" vs.toArray n))(hl:vs.length=bl.length)(hP:∀(i:Nat) v b,vs[i]?=some v→bl[i]?=some b→TupAt s.heap v b)
 (nd:bl.Nodup) (ne:2≤bl.length→∀b∈bl,b≠[]) (hz:bl.length≤100000) (h:∀(us:List Value) (bl':List (List Int)),us.length=bl'.length→bl'.Perm bl→bl'.Pairwise (fun x y=>HT.lexLt x y=true)→(∀(j:Nat) u b,us[j]?=some u→bl'[j]?=some b→∃i:Nat,vs[i]?=some u∧bl[i]?=some b)→
  Fi (.done (.ret .none)) {s with heap:=sortedHeap s.heap a vs us.toArray}):wpAny (model prog w) A (Builtin.«list.sort» ⟨[.ref a],[]⟩) Fi E s:=by
 have ha:a<s.heap.objs.size:=lt_size ho
 obtain⟨ep,ho1⟩:∃ep,(s.heap.update a (Obj.mapSeq fun _=>(#[]:Array Value))).get? a=some (seqObj "list" #[] ep):=⟨_,get?_update_seq ho fun _=>(#[]:Array Value)⟩
 generalize hh:((s.heap.update a (Obj.mapSeq fun _=>(#[]:Array Value))).push (seqObj "tuple" vs.toArray 0)).push (seqObj "list" #[] 0)=h6
 have ho6:h6.get? a=some (seqObj "list" #[] ep):=by rw[←hh];exact get?_push_of_some _ (get?_push_of_some _ ho1)
 have old:∀(x:Addr) (o:Obj),s.heap.get? x=some o→o.cls≠.type "list"→h6.get? x=some o:=fun x o e ne=>by
  have nx:x≠a:=fun z=>by rw[z,ho]at e;cases e;exact ne rfl
  rw[←hh]
  exact get?_push_of_some _ (get?_push_of_some _ (by rw[Heap.get?_update_ne _ _ _ _ nx];exact e))
 have hP6:∀(i:Nat) v b,vs[i]?=some v→bl[i]?=some b→TupAt h6 v b:=fun i v b e1 e2=>(hP i v b e1 e2).old old
 have szv:vs.length≤sizeLine:=by rw[sizeLine_eq];omega
 rw[list_sort_plain]
 refine wpAny_bind (listItems_at ho rfl (wpAny_bind (listUpdate_at ho rfl (wpAny_bind (seqEpoch_at ho1 rfl (wpAny_bind (wpAny_newTuple (wpAny_bind (wpAny_newList (wpAny_holding ?_) (Nat.zero_le _))) szv)))) (by rw[size_toArray];exact szv) (Nat.zero_le _))))
 simp only[]
 rw[hh]
 by_cases c:vs.toArray.size<2
 ·rw[if_pos c,if_pos c]
  refine wpAny_bind (wpAny_pure ?_)
  rw[StateT.run_pure]
  refine wpAny_bind (wpAny_pure ?_)
  dsimp only
  have eo:(arrOf (SortSt.mk' general' (vs.toArray.zip vs.toArray) #[] 7 none)).map (·.2)=vs.toArray:=by
   show(vs.toArray.zip vs.toArray).map (·.2)=_
   apply toList_inj.mp
   rw[toList_map,toList_zip]
   exact List.map_snd_zip (Nat.le_refl _)
  rw[eo]
  refine wpAny_bind (seqEpoch_at ho6 rfl (wpAny_bind (listUpdate_at ho6 rfl ?_ (Nat.zero_le _) (by rw[size_toArray];exact Nat.le_succ_of_le szv))))
  simp only[bne_self_eq_false,false_eq_true,if_false]
  have fin:=h vs bl hl (List.Perm.refl _) ?_ fun j u b e1 e2=>⟨j,e1,e2⟩
  ·rw[←hh]
   exact wpAny_pure fin
  ·rw[size_toArray]at c
   match bl,hl with
   |[],_=>exact List.Pairwise.nil
   |[x],_=>exact pairwise_singleton _ _
   |x::y::l,e=>simp at e;omega
 ·rw[if_neg c,if_neg c]
  rw[size_toArray]at c
  have ne2:=ne (by omega)
  obtain⟨fs,ft,fl,fi⟩:∃fs:List Value,KatTups h6 vs fs∧fs.length=vs.length∧∀f∈fs,∃i t,f=.int i t:=by
   clear c h nd ho szv hz hh ne hP
   induction vs generalizing bl with
   |nil=>exact⟨[],.nil,rfl,fun f hf=>absurd hf not_mem_nil⟩
   |cons v vs ih=>
    cases bl with
    |nil=>simp at hl
    |cons k ks=>
     obtain⟨fs,a1,b1,c1⟩:=ih (bl:=ks) (by simpa using hl) (fun i v' k' x y=>hP6 (i+1) v' k' x y) fun b hb=>ne2 b (mem_cons_of_mem _ hb)
     obtain⟨p,its,rfl,⟨o,g,cl,m,d⟩,hi⟩:=hP6 0 v k rfl rfl
     have k0:=ne2 k mem_cons_self
     cases k with
     |nil=>exact absurd rfl k0
     |cons i k=>
      cases hi with
      |cons x r=>
       obtain⟨t,rfl⟩:=int_val x
       exact⟨.int i t::fs,.cons g cl d (by simp) a1,by simp[b1],fun f hf=>by
        rcases mem_cons.mp hf with z | z
        ·exact⟨_,_,z⟩
        ·exact c1 f z⟩
  refine wpAny_bind (kat_kind (s:={s with heap:=h6}) (T:=.type "int") ft (by omega) (fun v hv=>?_) (by decide) ?_)
  ·obtain⟨i,t,rfl⟩:=fi v hv
   exact .now
  obtain⟨T,hT⟩:∃T:Keyed→List Int,∀x t,TupAt h6 x.1 t→T x=t:=by
   refine⟨fun x=>@dite _ (∃t,TupAt h6 x.1 t) (Classical.propDecidable _) (fun z=>z.choose) fun _=>[],fun x t ht=>?_⟩
   have z:∃t,TupAt h6 x.1 t:=⟨t,ht⟩
   show @dite _ (∃t,TupAt h6 x.1 t) (Classical.propDecidable _) (fun z=>z.choose) (fun _=>[])=t
   rw[dif_pos z]
   exact z.choose_spec.one ht
  have a0i:∀x,x∈(vs.toArray.zip vs.toArray).toList→∃(i:Nat) (v:Value) (b:List Int),x=(v,v)∧vs[i]?=some v∧bl[i]?=some b∧T x=b:=fun x hx=>by
   rw[toList_zip,List.mem_iff_getElem?]at hx
   obtain⟨i,hi⟩:=hx
   rw[getElem?_zip_eq_some]at hi
   obtain⟨e1,e2⟩:=hi
   rw[e1]at e2
   have e3:x.1=x.2:=Option.some.inj e2
   have hi:i<vs.length:=(List.getElem?_eq_some_iff.mp e1).1
   have eb:bl[i]?=some (bl[i]'(by omega)):=List.getElem?_eq_getElem _
   exact⟨i,x.1,_,Prod.ext rfl e3.symm,e1,eb,hT x _ (hP6 i _ _ e1 eb)⟩
  have mapT:(vs.toArray.zip vs.toArray).toList.map T=bl:=by
   apply ext_getElem?
   intro i
   rw[List.getElem?_map,toList_zip]
   by_cases hi:i<vs.length
   ·have e1:vs[i]?=some vs[i]:=List.getElem?_eq_getElem hi
    have eb:bl[i]?=some (bl[i]'(by omega)):=List.getElem?_eq_getElem _
    have:(vs.zip vs)[i]?=some (vs[i],vs[i]):=by rw[getElem?_zip_eq_some];exact⟨e1,e1⟩
    show Option.map T (vs.zip vs)[i]?=_
    rw[this,eb]
    exact congrArg some (hT _ _ (hP6 i _ _ e1 eb))
   ·rw[List.getElem?_eq_none (by simp;omega),List.getElem?_eq_none (by omega)]
    rfl
  have ask:Asks prog w A {s with heap:=h6} (tuples' (Value.type "int" !=Value.type "tuple")) (fun x=>x∈(vs.toArray.zip vs.toArray).toList) (fun x=>rnk bl (T x)):=asks_of fun x y Q gx gy q=>by
   obtain⟨i,v,b,rfl,e1,e2,e3⟩:=a0i x gx
   obtain⟨i',v',b',rfl,e1',e2',e3'⟩:=a0i y gy
   rw[e3,e3',rnk_iff (mem_of_getElem? e2) (mem_of_getElem? e2')]at q
   exact tup_lt (s:={s with heap:=h6}) (hP6 i v b e1 e2) (hP6 i' v' b' e1' e2') q
  have inT:∀x∈(vs.toArray.zip vs.toArray).toList,T x∈bl:=fun x hx=>by
   obtain⟨i,v,b,_,_,e2,e3⟩:=a0i x hx
   rw[e3]
   exact mem_of_getElem? e2
  have od:Odd (fun x=>rnk bl (T x)) (vs.toArray.zip vs.toArray).toList:=by
   have:=nd
   rw[←mapT]at this
   have:=pairwise_map.mp this
   refine List.Pairwise.imp_of_mem (fun{x y} hx hy n e=>n ?_) this
   exact rnk_inj (inT x hx) (inT y hy) e
  refine wpAny_bind (wpAny_mono (all_sorted (Q:=fun _ st'=>failedOf st'=none∧(arrOf st').toList.Perm (vs.toArray.zip vs.toArray).toList∧Ris (fun x=>rnk bl (T x)) (arrOf st').toList) (st:=SortSt.mk' _ (vs.toArray.zip vs.toArray) #[] 7 none) ask (fun x hx=>hx) od rfl rfl rfl rfl fun st' f1 f2 f3=>⟨f1,f2,f3⟩) ?_ fun _ _ e=>e)
  rintro⟨⟨⟩,st'⟩ s' ⟨rfl,hf,pm,ri⟩
  dsimp only
  dsimp only at hf pm ri
  have inA:∀x∈(arrOf st').toList,x∈(vs.toArray.zip vs.toArray).toList:=fun x hx=>pm.mem_iff.mp hx
  have eo:(arrOf st').map (·.2)=((arrOf st').toList.map (·.2)).toArray:=by
   apply toList_inj.mp
   simp
  rw[eo]
  have lo:((arrOf st').toList.map (·.2)).length=vs.length:=by rw[length_map,pm.length_eq,toList_zip];simp
  refine wpAny_bind (seqEpoch_at ho6 rfl (wpAny_bind (listUpdate_at ho6 rfl ?_ (Nat.zero_le _) (by rw[size_toArray,lo];exact Nat.le_succ_of_le szv))))
  rw[hf]
  simp only[bne_self_eq_false,false_eq_true,if_false]
  have fin:=h ((arrOf st').toList.map (·.2)) ((arrOf st').toList.map T) (by rw[length_map,length_map]) (by rw[←mapT];exact pm.map T) ?_ fun j u b e1 e2=>?_
  ·rw[←hh]
   exact wpAny_pure fin
  ·rw[pairwise_map]
   refine List.Pairwise.imp_of_mem (fun{x y} hx hy lt=>?_) ri
   rw[←rnk_iff (inT x (inA x hx)) (inT y (inA y hy))]
   exact decide_eq_true lt
  ·rw[List.getElem?_map]at e1 e2
   cases ej:(arrOf st').toList[j]? with
   |none=>rw[ej]at e1;cases e1
   |some x=>
    rw[ej]at e1 e2
    obtain⟨i,v,b',rfl,z1,z2,z3⟩:=a0i x (inA x (mem_of_getElem? ej))
    cases e1
    cases e2
    exact⟨i,z1,by rw[z3];exact z2⟩
end
end L2
namespace L2
open PySem.W
def Rws (H:Hp)(xs:List V)(bl:List (List Int)):Prop:=xs.length=bl.length∧∀(j:Nat) (b:List Int),bl[j]?=some b→∃p:Addr,xs[j]?=some (.ref p)∧H p=some (.tup (b.map V.int))
theorem Rws.same {H H':Hp}{xs:List V}{bl:List (List Int)}(n:Rws H xs bl)(s:Same H H'):Rws H' xs bl:=⟨n.1,fun j b e=>let⟨p,a,c⟩:=n.2 j b e;⟨p,a,s _ _ c⟩⟩
end L2
namespace BB
def bare (row:List Int):List Int:=row.filter fun p=>decide (p+1∉row)
def closedUp (row out:List Int):List Int:=(row.filter fun p=>decide (p∉out)).map fun p=>p - ((out.filter fun g=>decide (g<p)).length:Int)
def peel (row:List Int):List Int:=closedUp row (bare row++(bare row).map (· + 1))
theorem top_mem:∀{l:List Int},l≠[]→∃m,m∈l∧∀x∈l,x≤m
 |[],h=>absurd rfl h
 |[a],_=>⟨a,mem_singleton.mpr rfl,fun x hx=>by rw[mem_singleton.mp hx];exact Int.le_refl _⟩
 |a::b::r,_=>by
  obtain⟨m,hm,hx⟩:=top_mem (l:=b::r) (by simp)
  by_cases h:a≤m
  ·refine⟨m,mem_cons_of_mem _ hm,fun x hx'=>?_⟩
   rcases mem_cons.mp hx' with e | e
   ·rw[e];exact h
   ·exact hx x e
  ·refine⟨a,mem_cons_self,fun x hx'=>?_⟩
   rcases mem_cons.mp hx' with e | e
   ·rw[e];exact Int.le_refl _
   ·exact Int.le_trans (hx x e) (by omega)
theorem peel_lt {row:List Int}(h:row≠[]):(peel row).length<row.length:=by
 obtain⟨m,hm,hx⟩:=top_mem h
 have hb:m∈bare row:=mem_filter.mpr ⟨hm,decide_eq_true fun z=>by have:=hx _ z;omega⟩
 unfold peel closedUp
 rw[length_map]
 have le:=length_filter_le (fun p=>decide (p∉bare row++(bare row).map (· + 1))) row
 refine Nat.lt_of_le_of_ne le fun e=>?_
 have all:=(List.length_filter_eq_length_iff.mp e) m hm
 exact of_decide_eq_true all (mem_append_left _ hb)
theorem bare_le (row:List Int):(bare row).length≤row.length:=length_filter_le _ _
theorem sel_list {α β:Type}(d:α)(l:List α)(q:α→Bool)(f:α→β):((List.range l.length).filter fun i=>q (l.getD i d)).map (fun i=>f (l.getD i d))=(l.filter q).map f:=by
 induction l with
 |nil=>rfl
 |cons a r ih=>
  rw[length_cons,range_succ_eq_map,filter_cons,List.filter_map,filter_cons]
  have e1:(a::r).getD 0 d=a:=rfl
  have e2:((fun i=>q ((a::r).getD i d))∘Nat.succ)=fun i=>q (r.getD i d):=rfl
  rw[e1,e2]
  cases hq:q a with
  |true=>
   simp only[if_true,map_cons,map_map]
   rw[show(List.map ((fun i=>f ((a::r).getD i d))∘Nat.succ) ((List.range r.length).filter fun i=>q (r.getD i d)))=((List.range r.length).filter fun i=>q (r.getD i d)).map fun i=>f (r.getD i d) from rfl,ih]
   rfl
  |false=>
   simp only[false_eq_true,if_false,map_map]
   rw[show(List.map ((fun i=>f ((a::r).getD i d))∘Nat.succ) ((List.range r.length).filter fun i=>q (r.getD i d)))=((List.range r.length).filter fun i=>q (r.getD i d)).map fun i=>f (r.getD i d) from rfl,ih]
theorem all_list {α β:Type}(d:α)(l:List α)(f:α→β):(List.range l.length).map (fun i=>f (l.getD i d))=l.map f:=by
 have h:=sel_list d l (fun _=>true) f
 rw[List.filter_eq_self.mpr fun _ _=>rfl,List.filter_eq_self.mpr fun _ _=>rfl]at h
 exact h
def blk:List Int→List (Int×Int)
 |[]=>[]
 |p::r=>match blk r with
  |[]=>[(p,1)]
  |(q,n)::t=>if q=p+1 then(p,n+1)::t else(p,1)::(q,n)::t
theorem blk_nil {r:List Int}(h:blk r=[]):r=[]:=by
 cases r with
 |nil=>rfl
 |cons p r=>
  unfold blk at h
  split at h
  ·cases h
  ·split at h<;>cases h
theorem blk_head {p:Int}{r:List Int}:∃n t,blk (p::r)=(p,n)::t:=by
 unfold blk
 split
 ·exact⟨1,[],rfl⟩
 ·split
  ·exact⟨_,_,rfl⟩
  ·exact⟨_,_,rfl⟩
theorem blk_firsts:∀{r:List Int},r.Pairwise (· < ·)→∀(b:Int),(∀x∈r,b<x)→((b::r).filter fun p=>decide (p - 1∉b::r))=(blk (b::r)).map (·.1)
 |[],_,b,_=>by
  simp[blk]
  omega
 |p::r,up,b,hb=>by
  have up':=pairwise_cons.mp up
  have ih:=blk_firsts up'.2 p up'.1
  obtain⟨n,t,e⟩:=blk_head (p:=p) (r:=r)
  have bp:=hb p mem_cons_self
  have e2:blk (b::p::r)=if p=b+1 then(b,n+1)::t else(b,1)::(p,n)::t:=by
   conv=>lhs;unfold blk
   rw[e]
  have b1:b - 1∉b::p::r:=fun z=>by
   rcases mem_cons.mp z with z | z
   ·omega
   ·have:=hb _ z;omega
  have same:((p::r).filter fun x=>decide (x - 1∉b::p::r))=if p=b+1 then r.filter (fun x=>decide (x - 1∉p::r)) else(p::r).filter fun x=>decide (x - 1∉p::r):=by
   have out:∀x∈r,(x - 1∉b::p::r↔x - 1∉p::r):=fun x hx=>by
    have:=up'.1 x hx
    simp only[mem_cons,not_or]
    constructor
    ·intro z;exact z.2
    ·intro z
     refine⟨by omega,z⟩
   have rest:(r.filter fun x=>decide (x - 1∉b::p::r))=r.filter fun x=>decide (x - 1∉p::r):=filter_congr fun x hx=>by rw[decide_eq_decide];exact out x hx
   split
   ·rename_i c
    rw[filter_cons_of_neg (by subst c;simp),rest]
   ·rename_i c
    have p1:p - 1∉b::p::r:=fun z=>by
     rcases mem_cons.mp z with z | z
     ·omega
     ·rcases mem_cons.mp z with z | z
      ·omega
      ·have:=up'.1 _ z;omega
    have p2:p - 1∉p::r:=fun z=>p1 (mem_cons_of_mem _ z)
    rw[filter_cons_of_pos (by simpa using p1),filter_cons_of_pos (by simpa using p2),rest]
  rw[filter_cons_of_pos (by simpa using b1),same,e2]
  rw[e,map_cons]at ih
  have p2:p - 1∉p::r:=fun z=>by
   rcases mem_cons.mp z with z | z
   ·omega
   ·have:=up'.1 _ z;omega
  rw[filter_cons_of_pos (by simpa using p2)]at ih
  injection ih with _ ih
  split
  ·rw[map_cons,ih]
  ·rw[filter_cons_of_pos (by simpa using p2),ih]
   rfl
theorem blk_lasts:∀{r:List Int},r.Pairwise (· < ·)→∀(b:Int),(∀x∈r,b<x)→((b::r).filter fun p=>decide (p+1∉b::r))=(blk (b::r)).map fun q=>q.1+q.2 - 1
 |[],_,b,_=>by
  simp[blk]
  omega
 |p::r,up,b,hb=>by
  have up':=pairwise_cons.mp up
  have ih:=blk_lasts up'.2 p up'.1
  obtain⟨n,t,e⟩:=blk_head (p:=p) (r:=r)
  have bp:=hb p mem_cons_self
  have e2:blk (b::p::r)=if p=b+1 then(b,n+1)::t else(b,1)::(p,n)::t:=by
   conv=>lhs;unfold blk
   rw[e]
  have rest:((p::r).filter fun x=>decide (x+1∉b::p::r))=(p::r).filter fun x=>decide (x+1∉p::r):=filter_congr fun x hx=>by
   have:=hb x hx
   rw[decide_eq_decide]
   constructor
   ·intro z y;exact z (mem_cons_of_mem _ y)
   ·intro z y
    rcases mem_cons.mp y with y | y
    ·omega
    ·exact z y
  rw[e2]
  rw[e,map_cons]at ih
  split
  ·rename_i c
   rw[filter_cons_of_neg (by subst c;simp),rest,ih,map_cons]
   congr 1
   show p+n - 1=b+(n+1) - 1
   omega
  ·rename_i c
   have b1:b+1∉b::p::r:=fun z=>by
    rcases mem_cons.mp z with z | z
    ·omega
    ·rcases mem_cons.mp z with z | z
     ·omega
     ·have:=up'.1 _ z;omega
   rw[filter_cons_of_pos (by simpa using b1),rest,ih]
   show b::_=(b+1 - 1)::_
   rw[show b+1 - 1=b by omega]
   rfl
theorem blk_all:∀row:List Int,(∀b∈blk row,b.1∈row∧1≤b.2∧b.2≤row.length)∧((blk row).map fun b=>b.2.toNat).sum=row.length
 |[]=>⟨fun _ h=>absurd h not_mem_nil,rfl⟩
 |p::r=>by
  obtain⟨h1,h2⟩:=blk_all r
  unfold blk
  split
  ·rename_i e
   have:=blk_nil e
   subst this
   refine⟨fun b hb=>?_,rfl⟩
   rw[mem_singleton]at hb
   subst hb
   exact⟨mem_cons_self,Int.le_refl 1,by simp⟩
  ·rename_i q n t e
   rw[e]at h1 h2
   have hq:=h1 (q,n) mem_cons_self
   simp only[map_cons,sum_cons]at h2
   split
   ·refine⟨fun b hb=>?_,?_⟩
    ·rcases mem_cons.mp hb with rfl | z
     ·refine⟨mem_cons_self,?_,?_⟩
      ·show 1≤n+1
       have:=hq.2.1
       simp only at this
       omega
      ·have:=hq.2.2
       simp only[length_cons]at this ⊢
       omega
     ·have y:=h1 b (mem_cons_of_mem _ z)
      refine⟨mem_cons_of_mem _ y.1,y.2.1,?_⟩
      have:=y.2.2
      simp only[length_cons]
      omega
    ·simp only[map_cons,sum_cons,length_cons]
     have:=hq.2.1
     simp only at this
     omega
   ·refine⟨fun b hb=>?_,?_⟩
    ·rcases mem_cons.mp hb with rfl | z
     ·exact⟨mem_cons_self,Int.le_refl 1,by simp only[length_cons];omega⟩
     ·have y:=h1 b z
      refine⟨mem_cons_of_mem _ y.1,y.2.1,?_⟩
      have:=y.2.2
      simp only[length_cons]
      omega
    ·simp only[map_cons,sum_cons,length_cons]
     omega
def far1 (s:Int)(b:Int×Int):List Int:=(List.range b.2.toNat).map fun(j:Nat)=>b.1+(j:Int)+b.2*s
def flw (bl:List (Int×Int))(s:Int):List Int:=bl.flatMap (far1 s)
theorem far1_len (s:Int)(b:Int×Int):(far1 s b).length=b.2.toNat:=by unfold far1;rw[length_map,length_range]
theorem range_flat {α β:Type}(d:α)(h:α→List β):∀l:List α,(List.range l.length).flatMap (fun i=>h (l.getD i d))=l.flatMap h
 |[]=>rfl
 |x::l=>by
  rw[length_cons,range_succ_eq_map,flatMap_cons,flatMap_cons,List.flatMap_map]
  congr 1
  exact range_flat d h l
theorem flat_le {β:Type}(f:Nat→List β)(c:Nat):∀n,(∀i,i<n→(f i).length≤c)→((List.range n).flatMap f).length≤n*c
 |0,_=>by simp
 |n+1,h=>by
  rw[range_succ,flatMap_append,length_append,flatMap_singleton,Nat.succ_mul]
  have a:=flat_le f c n fun i hi=>h i (by omega)
  have b:=h n (by omega)
  omega
def pos:Int→List Nat→List Int
 |_,[]=>[]
 |x,g::r=>x::pos (x+1+(g:Int)) r
def pT:List Nat→Nat×List Nat
 |[]=>(0,[])
 |0::r=>(0,(pT r).1::(pT r).2)
 |(g+1)::r=>(g+(pT r).1,(pT r).2)
theorem pos_ge:∀(gs:List Nat) (x y:Int),y∈pos x gs→x≤y
 |[],_,_,h=>absurd h not_mem_nil
 |g::r,x,y,h=>by
  rcases mem_cons.mp h with z | z
  ·omega
  ·have:=pos_ge r _ _ z;omega
theorem pos_up:∀(gs:List Nat) (x:Int),(pos x gs).Pairwise (· < ·)
 |[],_=>.nil
 |g::r,x=>pairwise_cons.mpr ⟨fun y hy=>by have:=pos_ge r _ _ hy;omega,pos_up r _⟩
theorem pos_shift:∀(gs:List Nat) (x d:Int),(pos x gs).map (· - d)=pos (x - d) gs
 |[],_,_=>rfl
 |g::r,x,d=>by
  show(x - d)::(pos (x+1+(g:Int)) r).map (· - d)=(x - d)::_
  rw[pos_shift r]
  congr 2
  omega
theorem pos_len:∀(gs:List Nat) (x:Int),(pos x gs).length=gs.length
 |[],_=>rfl
 |g::r,x=>by show(pos _ r).length+1=_;rw[pos_len r];rfl
theorem bare_in {p:Int}{r:List Int}(up:∀y∈r,p<y)(h:p+1∈r):bare (p::r)=bare r:=by
 unfold bare
 rw[filter_cons,if_neg (by simp[h])]
 exact filter_congr fun y hy=>by
  have:=up y hy
  rw[decide_eq_decide]
  constructor
  ·exact fun z w=>z (mem_cons_of_mem _ w)
  ·exact fun z w=>(mem_cons.mp w).elim (fun e=>by omega) z
theorem bare_out {p:Int}{r:List Int}(up:∀y∈r,p<y)(h:p+1∉r):bare (p::r)=p::bare r:=by
 unfold bare
 rw[filter_cons,if_pos (by simp[h];omega)]
 congr 1
 exact filter_congr fun y hy=>by
  have:=up y hy
  rw[decide_eq_decide]
  constructor
  ·exact fun z w=>z (mem_cons_of_mem _ w)
  ·exact fun z w=>(mem_cons.mp w).elim (fun e=>by omega) z
theorem left_is (row:List Int){y:Int}(hy:y∈row):y∉bare row++(bare row).map (· + 1)↔y+1∈row:=by
 constructor
 ·intro h
  by_cases c:y+1∈row
  ·exact c
  ·exact absurd (mem_append_left _ (mem_filter.mpr ⟨hy,decide_eq_true c⟩)) h
 ·intro h z
  rcases mem_append.mp z with w | w
  ·exact of_decide_eq_true (mem_filter.mp w).2 h
  ·obtain⟨b,hb,e⟩:=mem_map.mp w
   exact of_decide_eq_true (mem_filter.mp hb).2 (by rw[e];exact hy)
theorem peel_is (row:List Int):peel row=(row.filter fun y=>decide (y+1∈row)).map fun y=>y - (((bare row++(bare row).map (· + 1)).filter fun g=>decide (g<y)).length:Int):=by
 unfold peel closedUp
 congr 1
 exact filter_congr fun y hy=>by rw[decide_eq_decide];exact left_is row hy
theorem peel_in {p:Int}{r:List Int}(up:(p::r).Pairwise (· < ·))(h:p+1∈r):peel (p::r)=p::peel r:=by
 have u:=(pairwise_cons.mp up).1
 rw[peel_is,peel_is,bare_in u h,filter_cons,if_pos (by simp[h]),map_cons]
 have z:((bare r++(bare r).map (· + 1)).filter fun g=>decide (g<p))=[]:=List.filter_eq_nil_iff.mpr fun g hg=>by
  rcases mem_append.mp hg with w | w
  ·have:=u g (mem_filter.mp w).1;simp;omega
  ·obtain⟨b,hb,e⟩:=mem_map.mp w
   have:=u b (mem_filter.mp hb).1
   simp;omega
 rw[z]
 congr 1
 ·simp
 ·congr 1
  exact filter_congr fun y hy=>by
   have:=u y hy
   rw[decide_eq_decide]
   constructor
   ·exact fun w=>(mem_cons.mp w).elim (fun e=>by omega) id
   ·exact fun w=>mem_cons_of_mem _ w
theorem peel_out {p:Int}{r:List Int}(up:(p::r).Pairwise (· < ·))(h:p+1∉r):peel (p::r)=(peel r).map (· - 2):=by
 have u:=(pairwise_cons.mp up).1
 rw[peel_is,peel_is,bare_out u h,filter_cons,if_neg (by simp[h];omega),map_map]
 have e:(r.filter fun y=>decide (y+1∈p::r))=r.filter fun y=>decide (y+1∈r):=filter_congr fun y hy=>by
  have:=u y hy
  rw[decide_eq_decide]
  constructor
  ·exact fun w=>(mem_cons.mp w).elim (fun e=>by omega) id
  ·exact fun w=>mem_cons_of_mem _ w
 rw[e]
 refine map_congr_left fun y hy=>?_
 have hy':=(mem_filter.mp hy).1
 have a:=u y hy'
 have ne:y≠p+1:=fun z=>h (z▸hy')
 show y - _=y - _ - 2
 have c:((p::bare r++(p::bare r).map (· + 1)).filter fun g=>decide (g<y)).length=((bare r++(bare r).map (· + 1)).filter fun g=>decide (g<y)).length+2:=by
  rw[map_cons,filter_append,filter_append,length_append,length_append,filter_cons,if_pos (by simpa using a),filter_cons,if_pos (by simp;omega)]
  simp only[length_cons]
  omega
 rw[c]
 omega
def Lst (n:Nat):List Nat→Prop
 |[]=>True
 |[g]=>n≤g
 |_::b::r=>Lst n (b::r)
theorem peel_pos:∀(gs:List Nat) (x:Int),Lst 1 gs→peel (pos x gs)=pos (x+((pT gs).1:Int)) (pT gs).2
 |[],x,_=>rfl
 |0::[],x,h=>absurd h (by show ¬(1≤0);omega)
 |0::b::r,x,h=>by
  have up:=pos_up (0::b::r) x
  have e:pos x (0::b::r)=x::pos (x+1+((0:Nat):Int)) (b::r):=rfl
  have hin:x+1∈pos (x+1+((0:Nat):Int)) (b::r):=by
   show x+1∈(x+1+((0:Nat):Int))::_
   rw[Int.natCast_zero,Int.add_zero]
   exact mem_cons_self
  rw[e]at up ⊢
  rw[peel_in up hin,peel_pos (b::r) _ h]
  show x::_=pos (x+((0:Nat):Int)) ((pT (b::r)).1::(pT (b::r)).2)
  show x::_=(x+((0:Nat):Int))::pos (x+((0:Nat):Int)+1+((pT (b::r)).1:Int)) (pT (b::r)).2
  rw[Int.natCast_zero,Int.add_zero,Int.add_zero]
 |(g+1)::r,x,h=>by
  have up:=pos_up ((g+1)::r) x
  have e:pos x ((g+1)::r)=x::pos (x+1+((g+1:Nat):Int)) r:=rfl
  have hout:x+1∉pos (x+1+((g+1:Nat):Int)) r:=fun z=>by
   have:=pos_ge r _ _ z
   omega
  have h':Lst 1 r:=by cases r with | nil=>trivial | cons b r=>exact h
  rw[e]at up ⊢
  rw[peel_out up hout,peel_pos r _ h',pos_shift]
  show pos _ _=pos (x+((g+(pT r).1:Nat):Int)) (pT r).2
  congr 1
  omega
def fewer (l:List Nat):List Nat:=(l.filter fun d=>decide (2≤d)).map (· - 1)
def itp:Nat→List Nat→List Nat
 |0,g=>g
 |d+1,g=>itp d (pT g).2
def ipl:Nat→List Int→List Int
 |0,r=>r
 |d+1,r=>ipl d (peel r)
theorem lst_peel (n:Nat):∀gs:List Nat,Lst (n+1) gs→Lst n (pT gs).2∧((pT gs).2=[]→gs≠[]→n≤(pT gs).1)
 |[],_=>⟨trivial,fun _ h=>absurd rfl h⟩
 |0::[],h=>absurd h (by show ¬(n+1≤0);omega)
 |(g+1)::[],h=>⟨trivial,fun _ _=>by show n≤g+0;have:n+1≤g+1:=h;omega⟩
 |0::b::r,h=>by
  obtain⟨i1,i2⟩:=lst_peel n (b::r) h
  refine⟨?_,fun z=>by cases z⟩
  show Lst n ((pT (b::r)).1::(pT (b::r)).2)
  generalize(pT (b::r)).2=t at i1 i2
  cases t with
  |nil=>exact i2 rfl (by simp)
  |cons c t=>exact i1
 |(g+1)::b::r,h=>by
  obtain⟨i1,i2⟩:=lst_peel n (b::r) h
  refine⟨i1,fun z _=>?_⟩
  have:=i2 z (by simp)
  show n≤g+(pT (b::r)).1
  omega
theorem lst_one {n:Nat}(h:1≤n):∀{gs:List Nat},Lst n gs→Lst 1 gs
 |[],_=>trivial
 |[g],z=>Nat.le_trans h z
 |_::b::r,z=>lst_one (gs:=b::r) h z
theorem pT_lt {gs:List Nat}(h:Lst 1 gs)(ne:gs≠[]):(pT gs).2.length<gs.length:=by
 have e:=peel_pos gs 0 h
 have l:=peel_lt (row:=pos 0 gs) fun z=>ne (by have:=pos_len gs 0;rw[z]at this;exact length_eq_zero_iff.mp this.symm)
 rw[e,pos_len,pos_len]at l
 exact l
theorem ipl_len:∀(d n:Nat) (gs:List Nat) (x:Int),gs.length≤n→Lst n gs→(ipl d (pos x gs)).length=(itp d gs).length
 |0,n,gs,x,_,_=>pos_len gs x
 |d+1,n,gs,x,hl,hn=>by
  cases n with
  |zero=>
   have:gs=[]:=length_eq_zero_iff.mp (by omega)
   subst this
   exact ipl_len d 0 [] x (Nat.le_refl _) trivial
  |succ n=>
   have h1:Lst 1 gs:=lst_one (by omega) hn
   show(ipl d (peel (pos x gs))).length=(itp d (pT gs).2).length
   rw[peel_pos gs x h1]
   refine ipl_len d n _ _ ?_ (lst_peel n gs hn).1
   by_cases e:gs=[]
   ·subst e;exact Nat.zero_le _
   ·have:=pT_lt h1 e;omega
def tk:List Int→List Nat
 |[]=>[]
 |[_]=>[]
 |p::q::r=>(q - p - 1).toNat::tk (q::r)
theorem tk_pos (T:Int):∀row:List Int,(row++[T]).Pairwise (· < ·)→row=pos (row.headD 0) (tk (row++[T]))
 |[],_=>rfl
 |[p],up=>rfl
 |p::q::r,up=>by
  have u:=pairwise_cons.mp up
  have ih:=tk_pos T (q::r) u.2
  have pq:=u.1 q (by simp)
  show p::q::r=p::pos (p+1+((q - p - 1).toNat:Int)) (tk (q::(r++[T])))
  rw[show p+1+((q - p - 1).toNat:Int)=q by omega]
  congr 1
theorem tk_len (T:Int):∀row:List Int,(tk (row++[T])).length=row.length
 |[]=>rfl
 |[p]=>rfl
 |p::q::r=>by
  have ih:=tk_len T (q::r)
  show(tk (q::(r++[T]))).length+1=_
  rw[show q::(r++[T])=(q::r)++[T] from rfl,ih]
  rfl
theorem tk_lst (T:Int)(n:Nat):∀row:List Int,(∀p∈row,(n:Int)≤T - p - 1)→Lst n (tk (row++[T]))
 |[],_=>trivial
 |[p],h=>by
  have:=h p mem_cons_self
  show n≤(T - p - 1).toNat
  omega
 |p::q::r,h=>by
  have ih:=tk_lst T n (q::r) fun x hx=>h x (mem_cons_of_mem _ hx)
  show Lst n ((q - p - 1).toNat::tk ((q::r)++[T]))
  have l:=tk_len T (q::r)
  generalize tk ((q::r)++[T])=t at ih l
  cases t with
  |nil=>simp at l
  |cons c t=>exact ih
def tg (s:Nat):Nat→List Nat→Nat
 |_,[]=>0
 |L,g::r=>if L<s then 1+tg s (L+1 - g) r else tg s (L - g) r
theorem tkn_pos (s:Nat):∀(gs:List Nat) (L:Nat) (box x:Int),box≤x→tkn s L box (pos x gs)=tg s (L - (x - box).toNat) gs
 |[],_,_,_,_=>rfl
 |g::r,L,box,x,h=>by
  show(if L - min L (x - box).toNat<s then tkn s (L - min L (x - box).toNat+1) (x+1) (pos (x+1+(g:Int)) r)+1 else tkn s (L - min L (x - box).toNat) (x+1) (pos (x+1+(g:Int)) r))=_
  rw[tkn_pos s r _ (x+1) _ (by omega),tkn_pos s r _ (x+1) _ (by omega)]
  show _=if L - (x - box).toNat<s then 1+tg s (L - (x - box).toNat+1 - g) r else tg s (L - (x - box).toNat - g) r
  rw[show L - min L (x - box).toNat=L - (x - box).toNat by omega,show(x+1+(g:Int) - (x+1)).toNat=g by omega]
  split<;>omega
theorem taken_pos (s:Nat)(x:Int)(gs:List Nat):taken s (pos x gs)=tg s 0 gs:=by
 cases gs with
 |nil=>rfl
 |cons g r=>
  unfold taken
  have:=tkn_pos s (g::r) 0 x x (Int.le_refl _)
  rw[Nat.zero_sub]at this
  exact this
def rn:List Nat→Nat
 |[]=>0
 |0::r=>rn r
 |(_+1)::r=>1+rn r
theorem rn_len:∀gs:List Nat,rn gs+(pT gs).2.length=gs.length
 |[]=>rfl
 |0::r=>by
  have:=rn_len r
  show rn r+((pT r).1::(pT r).2).length=r.length+1
  rw[length_cons]
  omega
 |(g+1)::r=>by
  have:=rn_len r
  show 1+rn r+(pT r).2.length=r.length+1
  omega
theorem rn_fall:∀gs:List Nat,rn (pT gs).2+(if 0<(pT gs).1 then 1 else 0)≤rn gs
 |[]=>Nat.le_refl _
 |0::r=>by
  have:=rn_fall r
  rw[if_neg (show ¬0<(pT (0::r)).1 from Nat.lt_irrefl 0)]
  show rn ((pT r).1::(pT r).2)+0≤rn r
  cases e:(pT r).1 with
  |zero=>
   show rn (pT r).2+0≤_
   omega
  |succ n=>
   rw[e,if_pos (Nat.succ_pos n)]at this
   show 1+rn (pT r).2+0≤_
   omega
 |(g+1)::r=>by
  have:=rn_fall r
  show rn (pT r).2+(if 0<g+(pT r).1 then 1 else 0)≤1+rn r
  split<;>omega
theorem tg_peel (t:Nat):∀gs:List Nat,Lst 1 gs→(∀L,L≤t→tg (t+1) L gs=rn gs+tg t (L - (pT gs).1) (pT gs).2)∧
 (gs≠[]→∀L,1≤L→L≤t+1→tg (t+1) L gs+1=rn gs+(if L≤t then 1 else 0)+tg t (min L t - (pT gs).1) (pT gs).2)
 |[],_=>⟨fun L _=>rfl,fun h=>absurd rfl h⟩
 |0::[],h=>absurd h (by show ¬(1≤0);omega)
 |0::b::r,h=>by
  obtain⟨_,i2⟩:=tg_peel t (b::r) h
  have i2:=i2 (List.cons_ne_nil _ _)
  refine⟨fun L hL=>?_,fun _ L h1 h2=>?_⟩
  ·show(if L<t+1 then 1+tg (t+1) (L+1 - 0) (b::r) else _)=rn (b::r)+(if L - 0<t then 1+tg t (L - 0+1 - (pT (b::r)).1) (pT (b::r)).2 else tg t (L - 0 - (pT (b::r)).1) (pT (b::r)).2)
   have:=i2 (L+1) (by omega) (by omega)
   rw[if_pos (by omega),Nat.sub_zero,Nat.sub_zero]
   by_cases c:L<t
   ·rw[if_pos c]
    rw[if_pos (by omega),show min (L+1) t=L+1 by omega]at this
    omega
   ·rw[if_neg c]
    rw[if_neg (by omega),show min (L+1) t=L by omega]at this
    omega
  ·show(if L<t+1 then 1+tg (t+1) (L+1 - 0) (b::r) else tg (t+1) (L - 0) (b::r))+1=rn (b::r)+(if L≤t then 1 else 0)+(if min L t - 0<t then 1+tg t (min L t - 0+1 - (pT (b::r)).1) (pT (b::r)).2 else tg t (min L t - 0 - (pT (b::r)).1) (pT (b::r)).2)
   simp only[Nat.sub_zero]
   by_cases c:L<t+1
   ·have:=i2 (L+1) (by omega) (by omega)
    rw[if_pos c,if_pos (show L≤t by omega)]
    by_cases c2:L<t
    ·rw[if_pos (show min L t<t by omega),show min L t=L by omega]
     rw[if_pos (by omega),show min (L+1) t=L+1 by omega]at this
     omega
    ·rw[if_neg (show ¬min L t<t by omega),show min L t=t by omega]
     rw[if_neg (by omega),show min (L+1) t=t by omega]at this
     omega
   ·have:=i2 L h1 h2
    rw[if_neg c,if_neg (show ¬L≤t by omega),if_neg (show ¬min L t<t by omega)]
    rw[if_neg (by omega)]at this
    omega
 |(g+1)::r,h=>by
  have h':Lst 1 r:=by cases r with | nil=>trivial | cons b r=>exact h
  obtain⟨i1,_⟩:=tg_peel t r h'
  refine⟨fun L hL=>?_,fun _ L h1 h2=>?_⟩
  ·show(if L<t+1 then 1+tg (t+1) (L+1 - (g+1)) r else _)=1+rn r+tg t (L - (g+(pT r).1)) (pT r).2
   rw[if_pos (by omega),i1 _ (by omega),show L+1 - (g+1) - (pT r).1=L - (g+(pT r).1) by omega]
   omega
  ·show(if L<t+1 then 1+tg (t+1) (L+1 - (g+1)) r else tg (t+1) (L - (g+1)) r)+1=1+rn r+(if L≤t then 1 else 0)+tg t (min L t - (g+(pT r).1)) (pT r).2
   by_cases c:L<t+1
   ·rw[if_pos c,if_pos (show L≤t by omega),i1 _ (by omega),show L+1 - (g+1) - (pT r).1=min L t - (g+(pT r).1) by omega]
    omega
   ·rw[if_neg c,if_neg (show ¬L≤t by omega),i1 _ (by omega),show L - (g+1) - (pT r).1=min L t - (g+(pT r).1) by omega]
    omega
theorem tg_none:∀(gs:List Nat) (L:Nat),tg 0 L gs=0
 |[],_=>rfl
 |g::r,L=>by
  show(if L<0 then _ else tg 0 (L - g) r)=0
  rw[if_neg (Nat.not_lt_zero _)]
  exact tg_none r _
theorem tg_itp:∀(s n:Nat) (gs:List Nat),gs.length≤n→Lst n gs→tg s 0 gs+(itp s gs).length=gs.length
 |0,n,gs,_,_=>by
  rw[tg_none]
  show 0+gs.length=_
  omega
 |s+1,n,gs,hl,hn=>by
  by_cases e:gs=[]
  ·subst e
   have:∀s,itp s []=[]:=fun s=>by
    induction s with
    |zero=>rfl
    |succ s ih=>exact ih
   rw[this]
   rfl
  ·obtain⟨m,rfl⟩:∃m,n=m+1:=⟨n - 1,by have:=List.length_pos_iff.mpr e;omega⟩
   have h1:Lst 1 gs:=lst_one (by omega) hn
   have p:=(tg_peel s gs h1).1 0 (Nat.zero_le _)
   rw[Nat.zero_sub]at p
   have lt:=pT_lt h1 e
   have ih:=tg_itp s m (pT gs).2 (by omega) (lst_peel m gs hn).1
   have r:=rn_len gs
   show tg (s+1) 0 gs+(itp s (pT gs).2).length=_
   omega
theorem far_T:∀(row:List Int) (n:Int),∃T,∀p∈row,n≤T - p - 1∧p<T
 |[],n=>⟨0,fun p h=>by cases h⟩
 |q::r,n=>by
  obtain⟨T,h⟩:=far_T r n
  refine⟨max T (q+n.toNat+1),fun p hp=>?_⟩
  rcases mem_cons.mp hp with e | e
  ·subst e;omega
  ·have:=h p e;omega
theorem gaps_of {row:List Int}(up:row.Pairwise (· < ·)):∃(x:Int) (gs:List Nat),row=pos x gs∧gs.length=row.length∧Lst row.length gs:=by
 obtain⟨T,hT⟩:=far_T row row.length
 refine⟨row.headD 0,tk (row++[T]),tk_pos T row ?_,tk_len T row,tk_lst T row.length row fun p hp=>(hT p hp).1⟩
 refine pairwise_append.mpr ⟨up,pairwise_singleton _ _,fun a ha b hb=>?_⟩
 rw[mem_singleton]at hb
 subst hb
 exact(hT a ha).2
theorem taken_ipl (s:Nat){row:List Int}(up:row.Pairwise (· < ·)):taken s row+(ipl s row).length=row.length:=by
 obtain⟨x,gs,e,l,h⟩:=gaps_of up
 have a:=ipl_len s row.length gs x (by omega) h
 have b:=tg_itp s row.length gs (by omega) h
 rw[e,taken_pos,a,pos_len]
 exact b
theorem itp_succ:∀(d:Nat) (gs:List Nat),itp (d+1) gs=(pT (itp d gs)).2
 |0,_=>rfl
 |d+1,gs=>itp_succ d (pT gs).2
theorem ipl_fall {row:List Int}(up:row.Pairwise (· < ·))(d:Nat):(ipl (d+1) row).length+(ipl (d+1) row).length≤(ipl d row).length+(ipl (d+2) row).length:=by
 obtain⟨x,gs,e,l,h⟩:=gaps_of up
 have a:=ipl_len d row.length gs x (by omega) h
 have b:=ipl_len (d+1) row.length gs x (by omega) h
 have c:=ipl_len (d+2) row.length gs x (by omega) h
 rw[e,a,b,c]
 have r1:=rn_len (itp d gs)
 have r2:=rn_len (itp (d+1) gs)
 have r3:=rn_fall (itp d gs)
 rw[←itp_succ]at r1 r2 r3
 rw[show d+1+1=d+2 from rfl]at r2
 split at r3<;>omega
def outs:Nat→List Int→List Int
 |0,_=>[]
 |n+1,row=>if row=[] then [] else((row.length:Int) - ((peel row).length:Int))::outs n (peel row)
def lens (cs:List Int):List Int:=(List.range (cs.headD 0).toNat).map fun(j:Nat)=>((cs.filter fun c=>decide ((j:Int)<c)).length:Int)
theorem ipl_nil:∀d:Nat,ipl d []=[]
 |0=>rfl
 |d+1=>ipl_nil d
theorem outs_sum:∀(n s:Nat) (r:List Int),r.length≤n→((outs n r).take s).sum+((ipl s r).length:Int)=(r.length:Int)
 |0,s,r,h=>by
  have e:r=[]:=length_eq_zero_iff.mp (by omega)
  subst e
  rw[ipl_nil]
  show(([]:List Int).take s).sum+_=_
  rw[take_nil]
  rfl
 |n+1,0,r,h=>by
  rw[List.take_zero]
  show(0:Int)+_=_
  show(0:Int)+(r.length:Int)=_
  omega
 |n+1,s+1,r,h=>by
  by_cases e:r=[]
  ·subst e
   rw[ipl_nil]
   show((if([]:List Int)=[] then([]:List Int) else _).take (s+1)).sum+_=_
   rw[if_pos rfl,take_nil]
   rfl
  ·have lt:=peel_lt e
   have ih:=outs_sum n s (peel r) (by omega)
   show(List.take (s+1) (if r=[] then [] else((r.length:Int) - ((peel r).length:Int))::outs n (peel r))).sum+((ipl s (peel r)).length:Int)=_
   rw[if_neg e,List.take_succ_cons,sum_cons]
   omega
theorem outs_fall:∀(n:Nat) (r:List Int),(∀d,(ipl (d+1) r).length+(ipl (d+1) r).length≤(ipl d r).length+(ipl (d+2) r).length)→
 (outs n r).Pairwise (·≥·)∧∀c∈outs n r,0≤c∧c≤(r.length:Int) - ((peel r).length:Int)
 |0,_,_=>⟨.nil,fun c h=>by cases h⟩
 |n+1,r,h=>by
  obtain⟨i1,i2⟩:=outs_fall n (peel r) fun d=>h (d+1)
  unfold outs
  by_cases e:r=[]
  ·rw[if_pos e]
   exact⟨.nil,fun c h=>by cases h⟩
  ·rw[if_neg e]
   have lt:=peel_lt e
   have h0:(peel r).length+(peel r).length≤r.length+(peel (peel r)).length:=h 0
   refine⟨pairwise_cons.mpr ⟨fun c hc=>?_,i1⟩,fun c hc=>?_⟩
   ·have:=i2 c hc
    show c≤_
    omega
   ·rcases mem_cons.mp hc with z | z
    ·omega
    ·have:=i2 c z
     omega
theorem take_filter (p:Int):∀(cs:List Int) (s:Nat),cs.Pairwise (·≥·)→((cs.take s).filter fun c=>decide (p<c)).length=min s (cs.filter fun c=>decide (p<c)).length
 |[],s,_=>by rw[take_nil];exact(Nat.min_zero _).symm
 |x::cs,0,_=>by rw[List.take_zero];exact(Nat.zero_min _).symm
 |x::cs,s+1,h=>by
  obtain⟨h1,h2⟩:=pairwise_cons.mp h
  rw[List.take_succ_cons,filter_cons,filter_cons]
  by_cases c:p<x
  ·rw[if_pos (decide_eq_true c),if_pos (decide_eq_true c),length_cons,length_cons,take_filter p cs s h2]
   omega
  ·rw[if_neg (by simpa using c),if_neg (by simpa using c),List.filter_eq_nil_iff.mpr fun y hy=>?_,List.filter_eq_nil_iff.mpr fun y hy=>?_]
   ·exact(Nat.min_zero _).symm
   ·have:=h1 y hy
    simp;omega
   ·have:=h1 y (mem_of_mem_take hy)
    simp;omega
theorem sum_one (x:Int):∀h:Nat,0≤x→x≤(h:Int)→((List.range h).map fun(j:Nat)=>if(j:Int)<x then(1:Int) else 0).sum=x:=by
 have gen:∀(h:Nat),0≤x→((List.range h).map fun(j:Nat)=>if(j:Int)<x then(1:Int) else 0).sum=min (h:Int) x:=fun h h0=>by
  induction h with
  |zero=>show(0:Int)=_;omega
  |succ h ih=>
   rw[range_succ,map_append,sum_append,ih]
   show _+((if(h:Int)<x then(1:Int) else 0)+0)=_
   split<;>omega
 intro h h0 h1
 rw[gen h h0]
 omega
theorem sum_add (f g:Nat→Int):∀l:List Nat,(l.map fun j=>f j+g j).sum=(l.map f).sum+(l.map g).sum
 |[]=>rfl
 |x::l=>by
  rw[map_cons,map_cons,map_cons,sum_cons,sum_cons,sum_cons,sum_add f g l]
  omega
theorem sum_rows (h:Nat):∀l:List Int,(∀c∈l,0≤c∧c≤(h:Int))→((List.range h).map fun(j:Nat)=>((l.filter fun c=>decide ((j:Int)<c)).length:Int)).sum=l.sum
 |[],_=>by
  show((List.range h).map fun(j:Nat)=>((0:Nat):Int)).sum=0
  generalize List.range h=r
  induction r with
  |nil=>rfl
  |cons x r ih=>rw[map_cons,sum_cons,ih];rfl
 |x::l,hb=>by
  have ih:=sum_rows h l fun c hc=>hb c (mem_cons_of_mem _ hc)
  have hx:=hb x mem_cons_self
  have e:(fun(j:Nat)=>(((x::l).filter fun c=>decide ((j:Int)<c)).length:Int))=fun(j:Nat)=>(if(j:Int)<x then(1:Int) else 0)+((l.filter fun c=>decide ((j:Int)<c)).length:Int):=by
   funext j
   rw[filter_cons]
   by_cases c:(j:Int)<x
   ·rw[if_pos (decide_eq_true c),if_pos c,length_cons]
    omega
   ·rw[if_neg (by simpa using c),if_neg c,Int.zero_add]
  rw[e,sum_add,ih,sum_one x h hx.1 hx.2,sum_cons]
theorem sum_lens (s:Nat){cs:List Int}(h:cs.Pairwise (·≥·))(h0:∀c∈cs,0≤c):((lens cs).map fun l=>if l<(s:Int) then l else(s:Int)).sum=(cs.take s).sum:=by
 have hh:∀c∈cs,c≤((cs.headD 0).toNat:Int):=fun c hc=>by
  cases cs with
  |nil=>cases hc
  |cons x r=>
   have:=h0 x mem_cons_self
   show c≤(x.toNat:Int)
   rcases mem_cons.mp hc with z | z
   ·omega
   ·have:=(pairwise_cons.mp h).1 c z;omega
 rw[←sum_rows (cs.headD 0).toNat (cs.take s) fun c hc=>⟨h0 c (mem_of_mem_take hc),hh c (mem_of_mem_take hc)⟩]
 unfold lens
 rw[map_map]
 congr 1
 refine map_congr_left fun j _=>?_
 show(if((cs.filter fun c=>decide ((j:Int)<c)).length:Int)<(s:Int) then((cs.filter fun c=>decide ((j:Int)<c)).length:Int) else(s:Int))=_
 rw[take_filter (j:Int) cs s h]
 split<;>omega
theorem taken_lens (s:Nat){row:List Int}(up:row.Pairwise (· < ·)):(taken s row:Int)=((lens (outs row.length row)).map fun l=>if l<(s:Int) then l else(s:Int)).sum:=by
 obtain⟨a,b⟩:=outs_fall row.length row (ipl_fall up)
 rw[sum_lens s a fun c hc=>(b c hc).1]
 have c:=outs_sum row.length s row (Nat.le_refl _)
 have d:=taken_ipl s up
 omega
def tk1 (z L:Nat)(b:Bool):Nat:=if b=true∧L<z then 1 else 0
theorem stp_tl {z L:Nat}(h:L<z):stp z L true=(L+1,false):=if_pos h
theorem stp_tg {z L:Nat}(h:L=z):stp z L true=(L,true):=if_neg (Nat.not_lt.mpr (Nat.le_of_eq h.symm))
theorem tk1_l {z L:Nat}(h:L<z):tk1 z L true=1:=if_pos ⟨rfl,h⟩
theorem tk1_g {z L:Nat}(h:L=z):tk1 z L true=0:=if_neg fun y=>Nat.lt_irrefl _ (h▸y.2)
def tb (z:Nat):Nat→List Bool→Nat
 |_,[]=>0
 |L,b::r=>tk1 z L b+tb z (stp z L b).1 r
theorem tkn_places (z:Nat):∀(bs:List Bool) (L:Nat) (lo:Int),L≤z→tkn z L lo (places lo bs)=tb z L bs
 |[],_,_,_=>rfl
 |true::r,L,lo,h=>by
  have e:places lo (true::r)=lo::places (lo+1) r:=rfl
  rw[e]
  show(if L - min L (lo - lo).toNat<z then tkn z (L - min L (lo - lo).toNat+1) (lo+1) (places (lo+1) r)+1 else tkn z (L - min L (lo - lo).toNat) (lo+1) (places (lo+1) r))=tk1 z L true+tb z (stp z L true).1 r
  rw[show L - min L (lo - lo).toNat=L by omega]
  unfold tk1 stp
  by_cases c:L<z
  ·rw[if_pos c,if_pos ⟨rfl,c⟩,tkn_places z r (L+1) (lo+1) (by omega)]
   simp only[if_true,if_pos c]
   omega
  ·rw[if_neg c,if_neg (fun z=>c z.2),tkn_places z r L (lo+1) h]
   simp only[if_true,if_neg c]
   omega
 |false::r,L,lo,h=>by
  have e:places lo (false::r)=places (lo+1) r:=rfl
  rw[e,tkn_gap fun p hp=>(places_ge hp).1,tkn_places z r (L - 1) (lo+1) (by omega)]
  show _=tk1 z L false+tb z (stp z L false).1 r
  unfold tk1 stp
  rw[if_neg (by simp)]
  by_cases c:0<L
  ·simp only[false_eq_true,if_false,if_pos c];omega
  ·have:L=0:=by omega
   subst this
   simp
theorem taken_places {z:Nat}{lo:Int}{bs:List Bool}:taken z (places lo bs)=tb z 0 bs:=by
 unfold taken
 rw[tkn_free (box':=lo),tkn_places z bs 0 lo (Nat.zero_le _)]
theorem out_falses (z:Nat):∀(n L:Nat),out z L (replicate n false)=replicate (min L n) true++replicate (n - L) false
 |0,L=>by rw[Nat.min_zero,Nat.zero_sub];rfl
 |n+1,L=>by
  rw[replicate_succ]
  show(stp z L false).2::out z (stp z L false).1 (replicate n false)=_
  rw[out_falses z n]
  unfold stp
  by_cases c:0<L
  ·simp only[false_eq_true,if_false,if_pos c]
   rw[show min L (n+1)=min (L - 1) n+1 by omega,replicate_succ,show n+1 - L=n - (L - 1) by omega]
   rfl
  ·have:L=0:=by omega
   subst this
   simp[replicate_succ]
def twice (N:Int)(bs:List Int):List Int:=bs++bs.map (· + N)
def rGone (N:Int)(bs:List Int):List Int:=bs.filter fun b=>decide ((b+1) % N∉bs)
def rOut (N:Int)(bs:List Int):List Int:=rGone N bs++(rGone N bs).map fun b=>(b+1) % N
section
variable {N:Int}{bs:List Int}
def rk (N:Int)(bs:List Int)(x:Int):Int:=x - (((rOut N bs).filter fun g=>decide (g<x)).length:Int)
end
def nxt (way:List Int):Int:=way.getLastD (-1)+1
def wayF (N:Nat)(way:List Int):List (List Int):=(row (nxt way) (N - (nxt way).toNat)).map fun p=>way++[p]
def waysL (N:Nat):Nat→List (List Int)
 |0=>[[]]
 |k+1=>(waysL N k).flatMap (wayF N)
structure Way (N k:Nat)(w:List Int):Prop where
 len:w.length=k
 up:w.Pairwise (· < ·)
 bd:∀x∈w,0≤x∧x<(N:Int)
theorem nxt_last (w:List Int)(x:Int):nxt (w++[x])=x+1:=by unfold nxt;simp
theorem nxt_bd {N k:Nat}{w:List Int}(h:Way N k w):0≤nxt w∧nxt w≤(N:Int)∧∀x∈w,x<nxt w:=by
 rcases eq_nil_or_concat w with rfl | ⟨l,a,rfl⟩
 ·exact⟨by decide,by show(0:Int)≤_;omega,fun x hx=>by cases hx⟩
 ·rw[concat_eq_append]at h ⊢
  rw[nxt_last]
  have:=h.bd a (by simp)
  refine⟨by omega,by omega,fun x hx=>?_⟩
  rcases mem_append.mp hx with z | z
  ·have:=(pairwise_append.mp h.up).2.2 x z a (by simp)
   omega
  ·rw[mem_singleton]at z
   omega
theorem mem_wayF {N:Nat}{w v:List Int}(h0:0≤nxt w)(hN:nxt w≤(N:Int)):v∈wayF N w↔∃p:Int,nxt w≤p∧p<(N:Int)∧v=w++[p]:=by
 unfold wayF row
 rw[mem_map]
 constructor
 ·rintro⟨p,hp,rfl⟩
  obtain⟨i,hi,rfl⟩:=mem_map.mp hp
  rw[mem_range]at hi
  exact⟨_,by omega,by omega,rfl⟩
 ·rintro⟨p,h1,h2,rfl⟩
  exact⟨p,mem_map.mpr ⟨(p - nxt w).toNat,mem_range.mpr (by omega),by omega⟩,rfl⟩
theorem mem_ways {N:Nat}:∀{k:Nat} {w:List Int},w∈waysL N k↔Way N k w
 |0,w=>by
  show w∈[[]]↔_
  rw[mem_singleton]
  constructor
  ·rintro rfl
   exact⟨rfl,List.Pairwise.nil,fun x hx=>by cases hx⟩
  ·exact fun h=>length_eq_zero_iff.mp h.len
 |k+1,w=>by
  show w∈(waysL N k).flatMap (wayF N)↔_
  rw[List.mem_flatMap]
  constructor
  ·rintro⟨v,hv,h⟩
   have hv:=mem_ways.mp hv
   obtain⟨n0,n1,n2⟩:=nxt_bd hv
   obtain⟨p,p1,p2,rfl⟩:=(mem_wayF n0 n1).mp h
   refine⟨by simp[hv.len],pairwise_append.mpr ⟨hv.up,pairwise_singleton ..,fun x hx y hy=>?_⟩,fun x hx=>?_⟩
   ·rw[mem_singleton]at hy
    have:=n2 x hx
    omega
   ·rcases mem_append.mp hx with z | z
    ·exact hv.bd x z
    ·rw[mem_singleton]at z
     omega
  ·intro h
   rcases eq_nil_or_concat w with rfl | ⟨l,a,rfl⟩
   ·exact absurd h.len (by simp)
   ·rw[concat_eq_append]at h ⊢
    have hl:Way N k l:=⟨by have:=h.len;simp at this;exact this,(pairwise_append.mp h.up).1,fun x hx=>h.bd x (by simp[hx])⟩
    obtain⟨n0,n1,n2⟩:=nxt_bd hl
    refine⟨l,mem_ways.mpr hl,(mem_wayF n0 n1).mpr ⟨a,?_,(h.bd a (by simp)).2,rfl⟩⟩
    rcases eq_nil_or_concat l with rfl | ⟨m,b,rfl⟩
    ·exact(h.bd a (by simp)).1
    ·rw[concat_eq_append,nxt_last]
     have:=(pairwise_append.mp h.up).2.2 b (by simp) a (by simp)
     omega
theorem few_ways:∀N,N≤10→∀k,k≤10→(waysL N k).length≤252:=by decide +kernel
theorem part_ways {N k:Nat}(hN:N≤10)(hk:k+1≤10)(i:Nat):(((waysL N k).take i).flatMap (wayF N)).length≤252:=by
 refine Nat.le_trans (List.Sublist.length_le ?_) (few_ways N hN (k+1) hk)
 show List.Sublist _ ((waysL N k).flatMap (wayF N))
 conv=>rhs;rw[←take_append_drop i (waysL N k),flatMap_append]
 exact List.sublist_append_left ..
end BB
namespace L2
open PySem.W
structure Cnt (bl:List (List Int×Int))(xs:List (List Int)):Prop where
 nd:(bl.map (·.1)).Nodup
 mem:∀t n,(t,n)∈bl↔0<xs.count t∧n=((xs.count t:Nat):Int)
theorem Cnt.nil:Cnt [] []:=⟨nodup_nil,fun t n=>by simp⟩
theorem Cnt.perm {bl bl':List (List Int×Int)}{xs:List (List Int)}(c:Cnt bl xs)(p:bl'.Perm bl):Cnt bl' xs:=
 ⟨(p.map (·.1)).nodup_iff.mpr c.nd,fun t n=>by rw[p.mem_iff];exact c.mem t n⟩
def putI (bl:List (List Int×Int))(t:List Int)(n:Int):List (List Int×Int):=if t∈bl.map (·.1) then bl.map fun q=>if q.1=t then(t,n) else q else bl++[(t,n)]
theorem inl_inj {s t:List Int}(h:s.map (Sum.inl:Int→Key)=t.map Sum.inl):s=t:=by
 induction s generalizing t with
 |nil=>cases t with
  |nil=>rfl
  |cons _ _=>cases h
 |cons a s ih=>cases t with
  |nil=>cases h
  |cons b t=>
   rw[map_cons,map_cons]at h
   injection h with h1 h2
   rw[Sum.inl.inj h1,ih h2]
theorem putT (bl:List (List Int×Int))(t:List Int)(n:Int):putK (bl.map kvT) (t.map Sum.inl) (.int n)=(putI bl t n).map kvT:=by
 have an:((bl.map kvT).any fun kv=>decide (kv.1=t.map Sum.inl))=decide (t∈bl.map (·.1)):=by
  rw[any_map]
  induction bl with
  |nil=>rfl
  |cons q r ih=>
   rw[any_cons,ih,map_cons]
   by_cases c:q.1=t
   ·have:((fun kv:List Key×V=>decide (kv.1=t.map Sum.inl))∘kvT) q=true:=by
     exact decide_eq_true (show(kvT q).1=t.map Sum.inl by show q.1.map Sum.inl=_;rw[c])
    rw[this,Bool.true_or]
    exact(decide_eq_true (by rw[c];exact mem_cons_self)).symm
   ·have:((fun kv:List Key×V=>decide (kv.1=t.map Sum.inl))∘kvT) q=false:=by
     exact decide_eq_false (show ¬(kvT q).1=t.map Sum.inl from fun z=>c (inl_inj z))
    rw[this,Bool.false_or]
    congr 1
    rw[mem_cons]
    exact propext ⟨.inr,fun h=>h.resolve_left fun z=>c z.symm⟩
 unfold putK putI
 rw[an]
 by_cases c:t∈bl.map (·.1)
 ·rw[if_pos c,if_pos (decide_eq_true c),map_map,map_map]
  refine map_congr_left fun q _=>?_
  show(if(kvT q).1=t.map Sum.inl then((kvT q).1,V.int n) else kvT q)=kvT (if q.1=t then(t,n) else q)
  by_cases e:q.1=t
  ·have e2:(kvT q).1=t.map Sum.inl:=by show q.1.map Sum.inl=_;rw[e]
   rw[if_pos e,if_pos e2,e2]
   rfl
  ·rw[if_neg e,if_neg (show ¬(kvT q).1=t.map Sum.inl from fun z=>e (inl_inj z))]
 ·rw[if_neg c,if_neg (by rw[decide_eq_false c];exact Bool.false_ne_true),map_append]
  rfl
theorem valT (bl:List (List Int×Int))(t:List Int):valV (bl.map kvT) (t.map Sum.inl)=(bl.find? fun q=>decide (q.1=t)).map fun q=>.int q.2:=by
 induction bl with
 |nil=>rfl
 |cons q r ih=>
  rw[map_cons,find?_cons]
  by_cases c:q.1=t
  ·rw[valV_pos (p:=kvT q) (by show q.1.map Sum.inl=_;rw[c]),decide_eq_true c]
   rfl
  ·rw[valV_neg (p:=kvT q) (fun z=>c (inl_inj z)),ih,decide_eq_false c]
theorem Cnt.get {bl:List (List Int×Int)}{xs:List (List Int)}(c:Cnt bl xs)(t:List Int):(valV (bl.map kvT) (t.map Sum.inl)).getD (.int 0)=.int ((xs.count t:Nat):Int):=by
 rw[valT]
 cases e:bl.find? fun q=>decide (q.1=t) with
 |none=>
  have no:¬0<xs.count t:=fun z=>by
   have:=List.find?_eq_none.mp e (t,_) ((c.mem t _).mpr ⟨z,rfl⟩)
   simp at this
  show V.int 0=_
  rw[Nat.eq_zero_of_not_pos no]
  rfl
 |some q=>
  have h1:=List.find?_some e
  have h2:=List.mem_of_find?_eq_some e
  have h3:q.1=t:=of_decide_eq_true h1
  have:=(c.mem q.1 q.2).mp h2
  show V.int q.2=_
  rw[this.2,h3]
theorem Cnt.some {bl:List (List Int×Int)}{xs:List (List Int)}(c:Cnt bl xs){t:List Int}{n:Int}(h:(t,n)∈bl):valV (bl.map kvT) (t.map Sum.inl)=some (.int n):=by
 rw[valT]
 cases e:bl.find? fun q=>decide (q.1=t) with
 |none=>
  have:=List.find?_eq_none.mp e (t,n) h
  simp at this
 |some q=>
  have h1:=List.find?_some e
  have h2:=List.mem_of_find?_eq_some e
  have h3:q.1=t:=of_decide_eq_true h1
  have:=(c.mem q.1 q.2).mp h2
  have:=(c.mem t n).mp h
  show Option.some (V.int q.2)=_
  rw[this.2]
  simp_all
theorem Cnt.put {bl:List (List Int×Int)}{xs:List (List Int)}(c:Cnt bl xs)(t:List Int):Cnt (putI bl t (((xs.count t:Nat):Int)+1)) (xs++[t]):=by
 have ct:∀s,(xs++[t]).count s=xs.count s+if t=s then 1 else 0:=fun s=>by
  rw[List.count_append,List.count_singleton]
  by_cases e:t=s
  ·subst e;simp
  ·rw[if_neg e];simp[e]
 unfold putI
 by_cases m:t∈bl.map (·.1)
 ·rw[if_pos m]
  have keys:(bl.map fun q=>if q.1=t then(t,((xs.count t:Nat):Int)+1) else q).map (·.1)=bl.map (·.1):=by
   rw[map_map]
   refine map_congr_left fun q _=>?_
   show(if q.1=t then(t,((xs.count t:Nat):Int)+1) else q).1=q.1
   by_cases e:q.1=t
   ·rw[if_pos e];exact e.symm
   ·rw[if_neg e]
  refine⟨by rw[keys];exact c.nd,fun s n=>?_⟩
  rw[mem_map,ct]
  constructor
  ·rintro⟨q,hq,e⟩
   by_cases z:q.1=t
   ·rw[if_pos z]at e
    cases e
    rw[if_pos rfl]
    exact⟨by omega,by omega⟩
   ·rw[if_neg z]at e
    subst e
    rw[if_neg (fun y=>z y.symm)]
    exact(c.mem _ _).mp hq
  ·rintro⟨h1,h2⟩
   by_cases z:t=s
   ·subst z
    obtain⟨q,hq,e⟩:=mem_map.mp m
    refine⟨q,hq,?_⟩
    rw[if_pos e,h2,if_pos rfl]
    simp
   ·rw[if_neg z]at h1 h2
    refine⟨(s,n),(c.mem s n).mpr ⟨h1,h2⟩,?_⟩
    rw[if_neg fun y=>z y.symm]
 ·rw[if_neg m]
  have z0:xs.count t=0:=Nat.eq_zero_of_not_pos fun z=>m (mem_map.mpr ⟨_,(c.mem t _).mpr ⟨z,rfl⟩,rfl⟩)
  refine⟨?_,fun s n=>?_⟩
  ·rw[map_append]
   exact List.nodup_append.mpr ⟨c.nd,pairwise_singleton _ _,fun x hx y hy e=>m (by
    have:y=t:=by simpa using hy
    rw[←this,←e];exact hx)⟩
  ·rw[mem_append,mem_singleton,ct]
   constructor
   ·rintro(h | h)
    ·have ne:t≠s:=fun z=>m (mem_map.mpr ⟨_,h,z.symm⟩)
     rw[if_neg ne]
     exact(c.mem _ _).mp h
    ·cases h
     rw[if_pos rfl,z0]
     exact⟨by omega,by omega⟩
   ·rintro⟨h1,h2⟩
    by_cases z:t=s
    ·subst z
     rw[if_pos rfl,z0]at h2
     right
     rw[h2,z0]
     rfl
    ·rw[if_neg z]at h1 h2
     exact .inl ((c.mem _ _).mpr ⟨h1,h2⟩)
theorem nodup_le {α:Type}[DecidableEq α]:∀{xs ys:List α},xs.Nodup→(∀x∈xs,x∈ys)→xs.length≤ys.length
 |[],_,_,_=>Nat.zero_le _
 |x::xs,ys,nd,h=>by
  obtain⟨n1,n2⟩:=nodup_cons.mp nd
  have m:=h x mem_cons_self
  have:=nodup_le (xs:=xs) (ys:=ys.erase x) n2 fun z hz=>(List.mem_erase_of_ne (fun e=>n1 (by rw[←e];exact hz))).mpr (h z (mem_cons_of_mem _ hz))
  rw[List.length_erase_of_mem m]at this
  have:=List.length_pos_of_mem m
  rw[length_cons]
  omega
theorem Cnt.len {bl:List (List Int×Int)}{xs ys:List (List Int)}(c:Cnt bl xs)(h:∀x∈xs,x∈ys):bl.length≤ys.length:=by
 rw[←length_map (f:=(·.1))]
 refine nodup_le c.nd fun t ht=>?_
 obtain⟨q,hq,rfl⟩:=mem_map.mp ht
 exact h _ (count_pos_iff.mp ((c.mem q.1 q.2).mp hq).1)
end L2
namespace BB
def lenL (r:List Int):List Int:=lens (outs r.length r)
theorem few_lens:∀N,N≤10→∀k,k≤N→((waysL N k).map lenL).eraseDups.length<64:=by decide +kernel
open L2 PySem PySem.Spec PySem.W PyProof.Rows
def chn:List (List Int)→Bool
 |a::b::l=>HT.lexLt a b&&chn (b::l)
 |_=>true
theorem chn_pw:∀{l:List (List Int)},chn l=true→l.Pairwise fun x y=>HT.lexLt x y=true
 |[],_=>.nil
 |[a],_=>pairwise_singleton _ _
 |a::b::l,h=>by
  obtain⟨h1,h2⟩:=(and_eq_true _ _).mp (show(HT.lexLt a b&&chn (b::l))=true from h)
  have ih:=chn_pw h2
  refine pairwise_cons.mpr ⟨fun y hy=>?_,ih⟩
  rcases mem_cons.mp hy with z | z
  ·rw[z];exact h1
  ·exact L2.lx_trans h1 ((pairwise_cons.mp ih).1 y z)
theorem ways_chn:∀N,N≤10→∀k,k≤N→chn (waysL N k)=true:=by decide +kernel
end BB
namespace BB
def frw:List (Nat×Nat)→List Bool
 |[]=>[]
 |(n,g)::r=>replicate n true++(replicate g false++frw r)
def sts:Int→List (Nat×Nat)→List (Int×Nat)
 |_,[]=>[]
 |lo,(n,g)::r=>(lo,n)::sts (lo+(n:Int)+(g:Int)) r
theorem tb_app (z:Nat):∀(u v:List Bool) (L:Nat),tb z L (u++v)=tb z L u+tb z (fin z L u) v
 |[],v,L=>by show _=0+_;rw[Nat.zero_add];rfl
 |b::u,v,L=>by
  show tk1 z L b+tb z (stp z L b).1 (u++v)=tk1 z L b+tb z (stp z L b).1 u+_
  rw[tb_app z u v,Nat.add_assoc]
  rfl
theorem tb_trues (z:Nat):∀(n L:Nat),L≤z→tb z L (replicate n true)=min n (z - L)∧fin z L (replicate n true)=min (L+n) z
 |0,L,h=>⟨by show 0=_;omega,by show L=_;omega⟩
 |n+1,L,h=>by
  rw[replicate_succ]
  by_cases c:L<z
  ·obtain⟨a,b⟩:=tb_trues z n (L+1) (by omega)
   show tk1 z L true+tb z (stp z L true).1 (replicate n true)=_∧fin z (stp z L true).1 (replicate n true)=_
   rw[stp_tl c,tk1_l c]
   exact⟨by rw[show(L+1,false).1=L+1 from rfl,a];omega,by rw[show(L+1,false).1=L+1 from rfl,b];omega⟩
  ·obtain⟨a,b⟩:=tb_trues z n L h
   have e:L=z:=by omega
   show tk1 z L true+tb z (stp z L true).1 (replicate n true)=_∧fin z (stp z L true).1 (replicate n true)=_
   rw[stp_tg e,tk1_g e]
   exact⟨by rw[show(L,true).1=L from rfl,a];omega,by rw[show(L,true).1=L from rfl,b];omega⟩
theorem tb_falses (z:Nat):∀(n L:Nat),tb z L (replicate n false)=0
 |0,_=>rfl
 |n+1,L=>by
  rw[replicate_succ]
  show tk1 z L false+tb z (stp z L false).1 (replicate n false)=0
  rw[tb_falses z n]
  rfl
theorem frw_taken (z:Nat):∀bs:List (Nat×Nat),(∀b∈bs,b.1≤b.2)→tb z 0 (frw bs)=(bs.map fun b=>min b.1 z).sum∧fin z 0 (frw bs)=0
 |[],_=>⟨rfl,rfl⟩
 |(n,g)::r,h=>by
  obtain⟨a,b⟩:=frw_taken z r fun q hq=>h q (mem_cons_of_mem _ hq)
  have ng:n≤g:=h (n,g) mem_cons_self
  obtain⟨t1,t2⟩:=tb_trues z n 0 (Nat.zero_le _)
  have f1:fin z (min n z) (replicate g false)=0:=by rw[fin_falses];omega
  rw[Nat.zero_add]at t2
  unfold frw
  rw[tb_app,t1,t2,tb_app,tb_falses,f1,fin_append,t2,fin_append,f1,a,b,map_cons,sum_cons]
  exact⟨by show min n (z - 0)+(0+_)=min n z+_;omega,rfl⟩
theorem out_trues (z:Nat):∀(n L:Nat),L+n≤z→out z L (replicate n true)=replicate n false
 |0,_,_=>rfl
 |n+1,L,h=>by
  rw[replicate_succ,replicate_succ]
  show(stp z L true).2::out z (stp z L true).1 (replicate n true)=_
  rw[stp_tl (by omega)]
  exact congrArg (List.cons false) (out_trues z n (L+1) (by omega))
def mvw:List (Nat×Nat)→List Bool
 |[]=>[]
 |(n,g)::r=>replicate n false++(replicate n true++(replicate (g - n) false++mvw r))
theorem frw_step (z:Nat):∀bs:List (Nat×Nat),(∀b∈bs,b.1≤b.2∧b.1≤z)→out z 0 (frw bs)=mvw bs
 |[],_=>rfl
 |(n,g)::r,h=>by
  obtain⟨ng,nz⟩:=h (n,g) mem_cons_self
  have ng:n≤g:=ng
  have nz:n≤z:=nz
  obtain⟨t1,t2⟩:=tb_trues z n 0 (Nat.zero_le _)
  have f0:fin z 0 (replicate n true)=n:=by rw[t2];omega
  have f1:fin z n (replicate g false)=0:=by rw[fin_falses];omega
  unfold frw mvw
  rw[out_append,out_append,f0,f1,out_trues z n 0 (by omega),out_falses,frw_step z r fun q hq=>h q (mem_cons_of_mem _ hq),show min n g=n by omega,List.append_assoc]
theorem places_trues:∀(n:Nat) (lo:Int),places lo (replicate n true)=row lo n
 |0,_=>rfl
 |n+1,lo=>by
  rw[replicate_succ,row_succ]
  show [lo]++places (lo+1) (replicate n true)=_
  rw[places_trues n (lo+1)]
  rfl
theorem places_frw:∀(bs:List (Nat×Nat)) (lo:Int),places lo (frw bs)=(sts lo bs).flatMap fun q=>row q.1 q.2
 |[],_=>rfl
 |(n,g)::r,lo=>by
  unfold frw sts
  rw[places_append,places_append,places_trues,places_falses,length_replicate,length_replicate,places_frw r,flatMap_cons]
  rfl
theorem places_mvw:∀(bs:List (Nat×Nat)) (lo:Int),(∀b∈bs,b.1≤b.2)→places lo (mvw bs)=(sts lo bs).flatMap fun q=>row (q.1+(q.2:Int)) q.2
 |[],_,_=>rfl
 |(n,g)::r,lo,h=>by
  have ng:n≤g:=h (n,g) mem_cons_self
  unfold mvw sts
  rw[places_append,places_append,places_append,places_trues,places_falses,places_falses,length_replicate,length_replicate,length_replicate,flatMap_cons,nil_append,nil_append]
  have e:lo+(n:Int)+(n:Int)+((g - n:Nat):Int)=lo+(n:Int)+(g:Int):=by omega
  rw[e,places_mvw r _ fun q hq=>h q (mem_cons_of_mem _ hq)]
theorem blk_row:∀(n:Nat) (x:Int) (r:List Int),(∀p∈r,x+(n:Int)+1<p)→blk (row x (n+1)++r)=(x,((n+1:Nat):Int))::blk r
 |0,x,r,h=>by
  rw[row_succ,row_zero]
  show blk (x::r)=(x,1)::blk r
  cases r with
  |nil=>rfl
  |cons p t=>
   obtain⟨m,u,e⟩:=blk_head (p:=p) (r:=t)
   have hp:=h p mem_cons_self
   have ne:¬p=x+1:=by
    have hp:x+((0:Nat):Int)+1<p:=hp
    omega
   show(match blk (p::t) with | []=>[(x,1)] | (q,n)::t=>if q=x+1 then(x,n+1)::t else(x,1)::(q,n)::t)=_
   rw[e]
   exact if_neg ne
 |n+1,x,r,h=>by
  rw[row_succ]
  have ih:=blk_row n (x+1) r fun p hp=>by have:=h p hp;omega
  show(match blk (row (x+1) (n+1)++r) with | []=>[(x,1)] | (q,n)::t=>if q=x+1 then(x,n+1)::t else(x,1)::(q,n)::t)=_
  rw[ih]
  show(if x+1=x+1 then(x,((n+1:Nat):Int)+1)::blk r else _)=_
  rw[if_pos rfl]
  rfl
theorem sts_ge:∀(bs:List (Nat×Nat)) (lo:Int),∀q∈sts lo bs,lo≤q.1
 |[],_,q,h=>absurd h not_mem_nil
 |(n,g)::r,lo,q,h=>by
  rcases mem_cons.mp h with rfl | h
  ·exact Int.le_refl _
  ·have:=sts_ge r _ q h
   omega
theorem row_ge {x p:Int}{n:Nat}(h:p∈row x n):x≤p:=by
 obtain⟨k,_,rfl⟩:=mem_map.mp h
 omega
theorem blk_sts (s:Nat)(hs:s≤1):∀(bs:List (Nat×Nat)) (lo:Int),(∀b∈bs,1≤b.1∧b.1≤b.2)→blk ((sts lo bs).flatMap fun q=>row (q.1+((s*q.2:Nat):Int)) q.2)=(sts lo bs).map fun q=>(q.1+((s*q.2:Nat):Int),(q.2:Int))
 |[],_,_=>rfl
 |(n,g)::r,lo,h=>by
  obtain⟨n1,ng⟩:=h (n,g) mem_cons_self
  have n1:1≤n:=n1
  have ng:n≤g:=ng
  have hr:=fun q hq=>h q (mem_cons_of_mem (n,g) hq)
  unfold sts
  rw[flatMap_cons,map_cons]
  obtain⟨m,rfl⟩:∃m,n=m+1:=⟨n - 1,by omega⟩
  rw[blk_row m _ _ fun p hp=>?_,blk_sts s hs r _ hr]
  ·obtain⟨q,hq,hp⟩:=List.mem_flatMap.mp hp
   have a:=sts_ge r _ q hq
   have b:=row_ge hp
   have q1:1≤q.2:=by
    have:∀(bs:List (Nat×Nat)) (lo:Int),(∀b∈bs,1≤b.1∧b.1≤b.2)→∀q∈sts lo bs,1≤q.2:=fun bs=>by
     induction bs with
     |nil=>intro _ _ q h;exact absurd h not_mem_nil
     |cons b r ih=>
      intro lo h q hq
      obtain⟨n,g⟩:=b
      rcases mem_cons.mp hq with rfl | hq
      ·exact(h (n,g) mem_cons_self).1
      ·exact ih _ (fun z hz=>h z (mem_cons_of_mem _ hz)) q hq
    exact this r _ hr q hq
   have cs:s=0∨s=1:=by omega
   rcases cs with rfl | rfl
   ·rw[Nat.zero_mul]at b ⊢
    omega
   ·rw[Nat.one_mul]at b ⊢
    omega
theorem by_mins {l m:List Int}(hl:∀x∈l,1≤x)(hm:∀x∈m,1≤x)(h:∀s:Nat,(l.map fun x=>if x<(s:Int) then x else(s:Int)).sum=(m.map fun x=>if x<(s:Int) then x else(s:Int)).sum):l.Perm m:=by
 have cnt:∀(l:List Int) (s:Nat),(l.map fun x=>if x<((s+1:Nat):Int) then x else((s+1:Nat):Int)).sum=(l.map fun x=>if x<(s:Int) then x else(s:Int)).sum+((l.filter fun x=>decide ((s:Int)<x)).length:Int):=fun l s=>by
  induction l with
  |nil=>rfl
  |cons x r ih=>
   rw[map_cons,map_cons,sum_cons,sum_cons,ih]
   by_cases c:(s:Int)<x
   ·rw[filter_cons_of_pos (by exact decide_eq_true c),length_cons]
    split<;>split<;>omega
   ·rw[filter_cons_of_neg (by show ¬decide ((s:Int)<x)=true;rw[decide_eq_false c];exact Bool.false_ne_true)]
    split<;>split<;>omega
 have ge:∀s:Nat,(l.filter fun x=>decide ((s:Int)<x)).length=(m.filter fun x=>decide ((s:Int)<x)).length:=fun s=>by
  have a:=cnt l s
  have b:=cnt m s
  have c:=h s
  have d:=h (s+1)
  omega
 have eq:∀(l:List Int) (s:Nat),(l.filter fun x=>decide ((s:Int)<x)).length=(l.filter fun x=>decide (((s+1:Nat):Int)<x)).length+l.count ((s+1:Nat):Int):=fun l s=>by
  induction l with
  |nil=>rfl
  |cons x r ih=>
   rw[filter_cons,filter_cons,count_cons]
   by_cases c:(s:Int)<x
   ·rw[if_pos (decide_eq_true c)]
    by_cases d:((s+1:Nat):Int)<x
    ·rw[if_pos (decide_eq_true d),if_neg (by simp;omega),length_cons,length_cons]
     omega
    ·rw[if_neg (by rw[decide_eq_false d];exact Bool.false_ne_true),if_pos (by simp;omega),length_cons]
     omega
   ·rw[if_neg (by rw[decide_eq_false c];exact Bool.false_ne_true),if_neg (by rw[decide_eq_false (by omega)];exact Bool.false_ne_true),if_neg (by simp;omega)]
    omega
 refine List.perm_iff_count.mpr fun x=>?_
 by_cases c:1≤x
 ·obtain⟨s,hs⟩:∃s:Nat,x=((s+1:Nat):Int):=⟨(x - 1).toNat,by omega⟩
  have a:=eq l s
  have b:=eq m s
  have d:=ge s
  have e:=ge (s+1)
  rw[hs]
  omega
 ·rw[count_eq_zero.mpr fun z=>c (hl x z),count_eq_zero.mpr fun z=>c (hm x z)]
end BB
namespace K84
open L2
def top (i:Nat):Stmt:=PySem.Challenge.pw_boxballs_k84_whole_rows_made.main.body.getD i (.Pass ⟨0,0,0,0⟩)
abbrev s_is_number:Stmt:=top 5
theorem sc_is_number:FnScope ["thing","least","greatest"] ["thing","least","greatest"] (defScope s_is_number):=⟨rfl,rfl,rfl,by decide +kernel,rfl,by decide +kernel,by decide +kernel⟩
abbrev s_need_number:Stmt:=top 6
theorem sc_need_number:FnScope ["thing","least","greatest"] ["thing","least","greatest"] (defScope s_need_number):=⟨rfl,rfl,rfl,by decide +kernel,rfl,by decide +kernel,by decide +kernel⟩
abbrev s_is_rising:Stmt:=top 7
theorem sc_is_rising:FnScope ["numbers"] ["numbers"] (defScope s_is_rising):=⟨rfl,rfl,rfl,by decide +kernel,rfl,by decide +kernel,by decide +kernel⟩
abbrev s_carry:Stmt:=top 8
theorem sc_carry:FnScope ["row","size","behind","load","taken","box","place","laid"] ["row","size"] (defScope s_carry):=⟨rfl,rfl,rfl,by decide +kernel,rfl,by decide +kernel,by decide +kernel⟩
abbrev s_blocks_in:Stmt:=top 9
theorem sc_blocks_in:FnScope ["row","firsts","lasts"] ["row"] (defScope s_blocks_in):=⟨rfl,rfl,rfl,by decide +kernel,rfl,by decide +kernel,by decide +kernel⟩
abbrev s_closed_up:Stmt:=top 10
theorem sc_closed_up:FnScope ["places","out","left"] ["places","out"] (defScope s_closed_up):=⟨rfl,rfl,rfl,by decide +kernel,rfl,by decide +kernel,by decide +kernel⟩
abbrev s_lengths_from:Stmt:=top 11
theorem sc_lengths_from:FnScope ["counts","first"] ["counts"] (defScope s_lengths_from):=⟨rfl,rfl,rfl,by decide +kernel,rfl,by decide +kernel,by decide +kernel⟩
abbrev s_ways:Stmt:=top 12
theorem sc_ways:FnScope ["boxes","balls","laid","turn"] ["boxes","balls"] (defScope s_ways):=⟨rfl,rfl,rfl,by decide +kernel,rfl,by decide +kernel,by decide +kernel⟩
abbrev s_is_row:Stmt:=top 16
theorem sc_is_row:FnScope ["thing"] ["thing"] (defScope s_is_row):=⟨rfl,rfl,rfl,by decide +kernel,rfl,by decide +kernel,by decide +kernel⟩
abbrev s_carried:Stmt:=top 17
theorem sc_carried:FnScope ["row","behind","taken"] ["row"] (defScope s_carried):=⟨rfl,rfl,rfl,by decide +kernel,rfl,by decide +kernel,by decide +kernel⟩
abbrev s_peeled:Stmt:=top 19
theorem sc_peeled:FnScope ["row","balls"] ["row"] (defScope s_peeled):=⟨rfl,rfl,rfl,by decide +kernel,rfl,by decide +kernel,by decide +kernel⟩
abbrev s_lengths:Stmt:=top 21
theorem sc_lengths:FnScope ["row","counts","left","rest"] ["row"] (defScope s_lengths):=⟨rfl,rfl,rfl,by decide +kernel,rfl,by decide +kernel,by decide +kernel⟩
abbrev s_one_making:Stmt:=top 22
theorem sc_one_making:FnScope ["one","other"] ["one","other"] (defScope s_one_making):=⟨rfl,rfl,rfl,by decide +kernel,rfl,by decide +kernel,by decide +kernel⟩
abbrev s_counted_by_lengths:Stmt:=top 23
theorem sc_counted_by_lengths:FnScope ["rows","found","row","told"] ["rows"] (defScope s_counted_by_lengths):=⟨rfl,rfl,rfl,by decide +kernel,rfl,by decide +kernel,by decide +kernel⟩
abbrev s_are_lengths:Stmt:=top 27
theorem sc_are_lengths:FnScope ["thing"] ["thing"] (defScope s_are_lengths):=⟨rfl,rfl,rfl,by decide +kernel,rfl,by decide +kernel,by decide +kernel⟩
abbrev s_are_gaps:Stmt:=top 28
theorem sc_are_gaps:FnScope ["thing","lengths","ahead"] ["thing","lengths"] (defScope s_are_gaps):=⟨rfl,rfl,rfl,by decide +kernel,rfl,by decide +kernel,by decide +kernel⟩
abbrev s_free_row:Stmt:=top 29
theorem sc_free_row:FnScope ["lengths","gaps","row","start","many","gap"] ["lengths","gaps"] (defScope s_free_row):=⟨rfl,rfl,rfl,by decide +kernel,rfl,by decide +kernel,by decide +kernel⟩
abbrev s_all_rows:Stmt:=top 30
theorem sc_all_rows:FnScope ["boxes","balls"] ["boxes","balls"] (defScope s_all_rows):=⟨rfl,rfl,rfl,by decide +kernel,rfl,by decide +kernel,by decide +kernel⟩
abbrev s_by_lengths:Stmt:=top 31
theorem sc_by_lengths:FnScope ["boxes","balls"] ["boxes","balls"] (defScope s_by_lengths):=⟨rfl,rfl,rfl,by decide +kernel,rfl,by decide +kernel,by decide +kernel⟩
abbrev s_takings:Stmt:=top 33
theorem sc_takings:FnScope ["row","told","size","behind","taken"] ["row"] (defScope s_takings):=⟨rfl,rfl,rfl,by decide +kernel,rfl,by decide +kernel,by decide +kernel⟩
abbrev s_is_free:Stmt:=top 36
theorem sc_is_free:FnScope ["row","found","first","many","start","following"] ["row"] (defScope s_is_free):=⟨rfl,rfl,rfl,by decide +kernel,rfl,by decide +kernel,by decide +kernel⟩
abbrev s_blocks:Stmt:=top 37
theorem sc_blocks:FnScope ["row"] ["row"] (defScope s_blocks):=⟨rfl,rfl,rfl,by decide +kernel,rfl,by decide +kernel,by decide +kernel⟩
abbrev s_free_later:Stmt:=top 38
theorem sc_free_later:FnScope ["row","steps","found"] ["row","steps"] (defScope s_free_later):=⟨rfl,rfl,rfl,by decide +kernel,rfl,by decide +kernel,by decide +kernel⟩
abbrev s_L_cell_at:Stmt:=top 40
theorem sc_L_cell_at:FnScope ["_law_script","_law_k"] ["_law_script","_law_k"] (defScope s_L_cell_at):=⟨rfl,rfl,rfl,by decide +kernel,rfl,by decide +kernel,by decide +kernel⟩
abbrev s_L_state:Stmt:=top 41
theorem sc_L_state:FnScope ["_law_script","_law_k","_law_cell"] ["_law_script","_law_k"] (defScope s_L_state):=⟨rfl,rfl,rfl,by decide +kernel,rfl,by decide +kernel,by decide +kernel⟩
abbrev s_L_take:Stmt:=top 42
theorem sc_L_take:FnScope ["_law_state_here","_law_many","_law_found","_law_mixed"] ["_law_state_here","_law_many"] (defScope s_L_take):=⟨rfl,rfl,rfl,by decide +kernel,rfl,by decide +kernel,by decide +kernel⟩
abbrev s_L_lot:Stmt:=top 43
theorem sc_L_lot:FnScope ["_law_state_here","_law_rest","_law_some","_law_turn","_law_least","_law_length","_law_gaps"] ["_law_state_here"] (defScope s_L_lot):=⟨rfl,rfl,rfl,by decide +kernel,rfl,by decide +kernel,by decide +kernel⟩
abbrev s_L_made_right:Stmt:=top 44
theorem sc_L_made_right:FnScope ["_law_some","_law_gaps","_law_row","_law_starts","_law_apart","_law_there"] ["_law_some","_law_gaps"] (defScope s_L_made_right):=⟨rfl,rfl,rfl,by decide +kernel,rfl,by decide +kernel,by decide +kernel⟩
abbrev s_L_all_right:Stmt:=top 45
theorem sc_L_all_right:FnScope ["_law_state_here","_law_boxes","_law_balls","_law_rows","_law_many","_law_number","_law_told","_law_one","_law_other","_law_same"] ["_law_state_here","_law_boxes","_law_balls"] (defScope s_L_all_right):=⟨rfl,rfl,rfl,by decide +kernel,rfl,by decide +kernel,by decide +kernel⟩
abbrev s_law:Stmt:=top 46
theorem sc_law:FnScope ["_law_script","_law_k","_law_state_here","_law_some","_law_gaps","_law_boxes"] ["_law_script"] (defScope s_law):=⟨rfl,rfl,rfl,by decide +kernel,rfl,by decide +kernel,by decide +kernel⟩
def Dok (x:Int)(b:Bool):Prop:=0≤x∧(b=false→x<2147483647)
def StAt (H:Hp)(a:Addr)(x:Int)(b:Bool):Prop:=H a=some (.lst [.int x,.bl b])∧Dok x b
def Keep (a:Addr)(H H':Hp):Prop:=∀c o,c≠a→H c=some o→H' c=some o
theorem at_ints {ns:List Int}{k:Int}(h0:0≤k)(h1:k<(ns.length:Int)):∃v:Int,atI (ns.map V.int) k=some (.int v)∧ns[k.toNat]?=some v:=by
 have hk:k.toNat<ns.length:=by omega
 have ek:((k.toNat:Nat):Int)=k:=by omega
 refine⟨ns[k.toNat],?_,List.getElem?_eq_getElem hk⟩
 have q:atI (ns.map V.int) ((k.toNat:Nat):Int)=some (.int ns[k.toNat]):=atI_nat (by rw[List.getElem?_map,List.getElem?_eq_getElem hk]<;>rfl)
 rw[ek]at q
 exact q
def spCell (K:W.Frag):Sp:=fun vs H Q _=>∃(a:Addr) (ns:List Int) (k:Int),vs=[.ref a,.int k]∧SqL K H a (ns.map V.int)∧0≤k∧∀c:Int,Q (.int c) H
def spState (K:W.Frag):Sp:=fun vs H Q _=>∃(a:Addr) (ns:List Int) (k:Int),vs=[.ref a,.int k]∧SqL K H a (ns.map V.int)∧0≤k∧
 ∀(r:Addr) (x:Int) (b:Bool),H r=none→Dok x b→Q (.ref r) (upd H r (.lst [.int x,.bl b]))
def spTake (K:W.Frag):Sp:=fun vs H Q _=>∃(a:Addr) (x:Int) (b:Bool) (m:Int),vs=[.ref a,.int m]∧StAt H a x b∧0<m∧m<1073741824∧
 ∀(v x':Int),0≤v→v<m→Dok x' b→Q (.int v) (upd H a (.lst [.int x',.bl b]))
section
variable {P:Program}{w:World}{K:W.Frag}{mg:Str→Option Value}{base:Heap}
theorem ok_L_cell_at {f:Addr}{fd:FuncData}(F:Fun K "_law_cell_at" "_law_cell_at" s_L_cell_at f fd)(nb:Nb mg)   :
 FnOk P w K mg base CX0 1 f fd ["_law_script","_law_k"] (spCell K):=by
 have nd:=sc_L_cell_at.nd
 refine F.ok (k:=0) sc_L_cell_at (fun vs H Q E h=>?_) (fun cdv A outer s H vs Q E hr h=>?_)
 ·obtain⟨a,ns,k,rfl,_⟩:=h
  rfl
 obtain⟨a,ns,k,rfl,hS,h0,q⟩:=h
 refine⟨_,(pss_cons (ps_if (pt_cmpR op_lt (pv 1) (pe_callB call_len_seq rfl nb.len PySem.boot_len (pa_cons (pv 0) pa_nil)) (nomark _))
  (pss_one (ps_ret (pe_ix ix_list (pv 0) (pv 1) (fun _ _=>rfl))))
  pss_nil)
 (pss_one (ps_ret pe_int))),?_⟩
 refine⟨_,rfl,_,rfl,a,_,rfl,.inl hS,_,_,rfl,rfl,_,rfl,?_⟩
 refine ite2 (fun c=>?_) (fun c=>?_)
 ·have c':k<(((ns.map V.int).length:Nat):Int):=of_decide_eq_true c
  rw[length_map]at c'
  obtain⟨v,q1,_⟩:=at_ints h0 c'
  exact⟨_,rfl,_,rfl,a,_,_,_,rfl,rfl,hS,q1,q _⟩
 ·exact q 0
theorem ok_L_state {f:Addr}{fd:FuncData}(F:Fun K "_law_state" "_law_state" s_L_state f fd)(nb:Nb mg)(h_L_cell_at:Has P w K mg base 1 "_law_cell_at" ["_law_script","_law_k"] (spCell K))  :
 FnOk P w K mg base CX0 2 f fd ["_law_script","_law_k"] (spState K):=by
 have nd:=sc_L_state.nd
 refine F.ok (k:=1) sc_L_state (fun vs H Q E h=>?_) (fun cdv A outer s H vs Q E hr h=>?_)
 ·obtain⟨a,ns,k,rfl,_⟩:=h
  rfl
 obtain⟨a,ns,k,rfl,hS,h0,q⟩:=h
 refine⟨_,(pss_cons (ps_set (i:=2) nd rfl (Or.inl rfl) (pe_def h_L_cell_at hr (pa_cons (pv 0) (pa_cons (pv 1) pa_nil))))
 (pss_cons (ps_if (pt_cmpR op_ge (pv 2) (pe_op op_pow pe_int pe_int) (nomark _))
  (pss_one (ps_ret (pe_lst (pa_cons (pe_op op_sub (pv 2) (pe_op op_pow pe_int pe_int)) (pa_cons pe_bl pa_nil)))))
  pss_nil)
 (pss_one (ps_ret (pe_lst (pa_cons (pe_op op_mod (pv 2) pe_int) (pa_cons pe_bl pa_nil))))))),?_⟩
 refine⟨_,rfl,_,rfl,a,ns,k,rfl,hS,h0,fun c=>?_⟩
 refine⟨_,rfl,_,_,rfl,rfl,⟨by decide,by decide,by decide⟩,_,_,rfl,rfl,_,rfl,?_⟩
 refine ite2 (fun z=>?_) (fun z=>?_)
 ·have z':(10:Int)^18≤c:=of_decide_eq_true z
  refine⟨_,rfl,_,_,rfl,rfl,⟨by decide,by decide,by decide⟩,_,_,rfl,rfl,(by show 2≤sizeLine;decide),fun r hr'=>q r _ true hr' ⟨?_,fun e=>by cases e⟩⟩
  show(0:Int)≤c - 10^18
  omega
 ·refine⟨_,rfl,_,_,rfl,rfl,(by show(0:Int)<2147483647;decide),(by show 2≤sizeLine;decide),fun r hr'=>q r _ false hr' ⟨?_,fun _=>?_⟩⟩
  ·exact Int.emod_nonneg _ (by decide)
  ·exact Int.emod_lt_of_pos _ (by decide)
theorem ok_L_take {f:Addr}{fd:FuncData}(F:Fun K "_law_take" "_law_take" s_L_take f fd)(nb:Nb mg)   :
 FnOk P w K mg base CX0 1 f fd ["_law_state_here","_law_many"] (spTake K):=by
 have nd:=sc_L_take.nd
 refine F.ok (k:=0) sc_L_take (fun vs H Q E h=>?_) (fun cdv A outer s H vs Q E hr h=>?_)
 ·obtain⟨a,x,b,m,rfl,_⟩:=h
  rfl
 obtain⟨a,x,b,m,rfl,⟨hS,d0,d1⟩,m0,m1,q⟩:=h
 refine⟨_,(pss_cons (ps_if (pt_truth (pe_ix ix_list (pv 0) pe_int (fun _ _=>rfl)) (fun _=>rfl))
  (pss_cons (ps_set (i:=2) nd rfl (Or.inl rfl) (pe_op op_mod (pe_ix ix_list (pv 0) pe_int (fun _ _=>rfl)) (pv 1)))
 (pss_cons (ps_asg (pe_op op_fdiv (pe_ix ix_list (pv 0) pe_int (fun _ _=>rfl)) (pv 1)) (pg_sub (pv 0) pe_int set_list))
 (pss_one (ps_ret (pv 2)))))
  pss_nil)
 (pss_cons (ps_asg (pe_op op_mod (pe_op op_add (pe_op op_mul (pe_ix ix_list (pv 0) pe_int (fun _ _=>rfl)) pe_int) pe_int) pe_int) (pg_sub (pv 0) pe_int set_list))
 (pss_cons (ps_set (i:=3) nd rfl (Or.inl rfl) (pe_op op_mod (pe_op op_add (pe_op op_add (pe_op op_mul (pe_ix ix_list (pv 0) pe_int (fun _ _=>rfl)) (pe_ix ix_list (pv 0) pe_int (fun _ _=>rfl))) (pe_op op_mul pe_int (pe_ix ix_list (pv 0) pe_int (fun _ _=>rfl)))) pe_int) pe_int))
 (pss_cons (ps_set (i:=3) nd rfl (Or.inl rfl) (pe_op op_mod (pe_op op_add (pe_op op_mul (pv 3) (pv 3)) (pe_op op_mul pe_int (pv 3))) pe_int))
 (pss_one (ps_ret (pe_op op_mod (pe_op op_fdiv (pv 3) pe_int) (pv 1)))))))),?_⟩
 refine⟨_,rfl,a,_,_,_,rfl,rfl,SqL.of hS,rfl,b,rfl,?_⟩
 cases b with
 |true=>
  refine iteT ?_
  refine⟨_,rfl,a,_,_,_,rfl,rfl,SqL.of hS,rfl,_,rfl,_,_,rfl,rfl,m0,?_⟩
  refine⟨_,rfl,a,_,_,_,rfl,rfl,SqL.of hS,rfl,_,rfl,_,_,rfl,rfl,⟨m0,m1⟩,?_⟩
  refine⟨_,rfl,a,_,_,0,rfl,rfl,hS,rfl,?_⟩
  refine⟨_,rfl,?_⟩
  exact q _ _ (Int.emod_nonneg _ (by omega)) (Int.emod_lt_of_pos _ m0) ⟨Int.ediv_nonneg d0 (by omega),fun e=>by cases e⟩
 |false=>
  refine iteF ?_
  have d2:=d1 rfl
  refine⟨_,rfl,a,_,_,_,rfl,rfl,SqL.of hS,rfl,_,_,rfl,rfl,.inl ⟨by omega,by omega⟩,_,_,rfl,rfl,_,_,rfl,rfl,(by show(0:Int)<2147483647;decide),?_⟩
  refine⟨_,rfl,a,_,_,0,rfl,rfl,hS,rfl,?_⟩
  have e0:(0:Int)≤(x*48271+29) % 2147483647:=Int.emod_nonneg _ (by decide)
  have e1:(x*48271+29) % 2147483647<2147483647:=Int.emod_lt_of_pos _ (by decide)
  refine⟨_,rfl,a,_,_,_,rfl,rfl,SqL.of upd_same,rfl,_,rfl,a,_,_,_,rfl,rfl,SqL.of upd_same,rfl,_,_,rfl,rfl,.inl ⟨by omega,by omega⟩,_,rfl,a,_,_,_,rfl,rfl,SqL.of upd_same,rfl,_,_,rfl,rfl,.inl ⟨by decide,by decide⟩,_,_,rfl,rfl,_,_,rfl,rfl,_,_,rfl,rfl,(by show(0:Int)<2147483629;decide),?_⟩
  refine⟨_,rfl,_,rfl,_,_,rfl,rfl,.inl ⟨?_,?_⟩,_,rfl,_,_,rfl,rfl,.inl ⟨by decide,by decide⟩,_,_,rfl,rfl,_,_,rfl,rfl,(by show(0:Int)<2147483587;decide),?_⟩
  ·exact Int.lt_of_lt_of_le (by decide) (Int.emod_nonneg _ (by decide))
  ·exact Int.lt_trans (Int.emod_lt_of_pos _ (by decide)) (by decide)
  refine⟨_,rfl,_,_,rfl,rfl,⟨by decide,by decide⟩,_,rfl,_,_,rfl,rfl,m0,?_⟩
  exact q _ _ (Int.emod_nonneg _ (by omega)) (Int.emod_lt_of_pos _ m0) ⟨e0,fun _=>e1⟩
end
end K84
namespace K84
open L2
def numB (lo hi:Int):V→Bool
 | .int i=>decide (lo≤i)&&decide (i≤hi)
 |_=>false
theorem kn_cases {H:Hp}{v:V}{T:String}(h:Kn H v T):(T="bool"∧∃b,v=.bl b)∨(T="int"∧∃i,v=.int i)∨(subT T "bool" = false∧subT T "int" = false∧∀lo hi,numB lo hi v=false):=by
 cases h with
 |bl b=>exact .inl ⟨rfl,b,rfl⟩
 |int i=>exact .inr (.inl ⟨rfl,i,rfl⟩)
 |_=>exact .inr (.inr ⟨by decide,by decide,fun _ _=>rfl⟩)
def spNum:Sp:=fun vs H Q _=>∃(v:V) (T:String) (lo hi:Int),vs=[v,.int lo,.int hi]∧Kn H v T∧Q (.bl (numB lo hi v)) H
def lts (ns:List Int):Nat→V:=fun i=>.bl (decide (ns.getD i 0<ns.getD (i+1) 0))
def riseB (ns:List Int):Bool:=(List.range (ns.length - 1)).all fun i=>decide (ns.getD i 0<ns.getD (i+1) 0)
def spRise:Sp:=fun vs H Q _=>∃(a:Addr) (ns:List Int),vs=[.ref a]∧H a=some (.tup (ns.map V.int))∧ns.length≤1000∧∀H',Same H H'→Q (.bl (riseB ns)) H'
theorem cut_from (xs:List V)(k:Nat):cutV xs (some (k:Int)) none=xs.drop k:=by
 unfold cutV
 rw[HT.sIx_nat,HT.sIx_none]
 by_cases h:k≤xs.length
 ·rw[Nat.min_eq_left h,take_of_length_le (by rw[length_drop];exact Nat.le_refl _)]
 ·rw[Nat.min_eq_right (by omega),List.drop_eq_nil_of_le (Nat.le_refl _),List.drop_eq_nil_of_le (by omega),take_nil]
theorem rise_list (ns:List Int):(List.range (ns.length - 1)).map (lts ns)=((List.range (ns.length - 1)).map fun i=>decide (ns.getD i 0<ns.getD (i+1) 0)).map V.bl:=by
 rw[map_map]
 rfl
theorem rise_all (ns:List Int):((List.range (ns.length - 1)).map fun i=>decide (ns.getD i 0<ns.getD (i+1) 0)).all id=riseB ns:=by
 unfold riseB
 rw[all_map]
 rfl
theorem getD_of {ns:List Int}{i:Nat}{v:Int}(h:(ns.map V.int)[i]?=some (.int v)):ns.getD i 0=v:=by
 rw[List.getElem?_map]at h
 cases e:ns[i]? with
 |none=>rw[e]at h;cases h
 |some z=>
  rw[e]at h
  have:z=v:=by simpa using h
  rw[getD_eq_getElem?_getD,e,this]
  rfl
theorem int_at {ns:List Int}{i:Nat}{x:V}(h:(ns.map V.int)[i]?=some x):∃v,x=.int v∧ns.getD i 0=v:=by
 have h':=h
 rw[List.getElem?_map]at h
 cases e:ns[i]? with
 |none=>rw[e]at h;cases h
 |some z=>
  rw[e]at h
  have:x=.int z:=by simpa using h.symm
  subst this
  exact⟨z,rfl,getD_of h'⟩
section
variable {P:Program}{w:World}{K:W.Frag}{mg:Str→Option Value}{base:Heap}
theorem ok_is_number {f:Addr}{fd:FuncData}(F:Fun K "is_number" "is_number" s_is_number f fd)(nb:Nb mg)   :
 FnOk P w K mg base CX0 1 f fd ["thing","least","greatest"] spNum:=by
 have nd:=sc_is_number.nd
 refine F.ok (k:=0) sc_is_number (fun vs H Q E h=>?_) (fun cdv A outer s H vs Q E hr h=>?_)
 ·obtain⟨v,T,lo,hi,rfl,_⟩:=h
  rfl
 obtain⟨v,T,lo,hi,rfl,hk,q⟩:=h
 refine⟨_,(pss_cons (ps_if (PW.pt (pw_or (pt_truth (pe_callB call_isi rfl nb.isi boot_isinstance (pa_cons (pv 0) (pa_cons (pe_ty nb.bool boot_bool) pa_nil))) (fun _=>rfl)) (pw_or1 (pt_not (pt_truth (pe_callB call_isi rfl nb.isi boot_isinstance (pa_cons (pv 0) (pa_cons (pe_ty nb.int boot_int) pa_nil))) (fun _=>rfl))))))
  (pss_one (ps_ret pe_bl))
  pss_nil)
 (pss_one (ps_ret (pe_chain op_le op_le (pv 1) (pv 0) (pv 2))))),?_⟩
 refine⟨_,rfl,_,_,_,rfl,hk,.inr (.inl rfl),_,rfl,?_⟩
 rcases kn_cases hk with⟨rfl,b,rfl⟩ | ⟨rfl,i,rfl⟩ | ⟨e1,e2,e3⟩
 ·exact iteT (iteT q)
 ·refine iteF ⟨_,rfl,_,_,_,rfl,hk,.inl rfl,_,rfl,iteF ?_⟩
  refine⟨_,rfl,_,rfl,_,_,rfl,rfl,_,rfl,?_⟩
  by_cases c:lo≤i
  ·rw[if_pos (decide_eq_true c)]
   refine⟨_,rfl,_,_,rfl,rfl,?_⟩
   have e:numB lo hi (.int i)=decide (i≤hi):=by show(decide (lo≤i)&&decide (i≤hi))=_;rw[decide_eq_true c,Bool.true_and]
   rw[e]at q
   exact q
  ·rw[if_neg (by rw[decide_eq_false c];decide)]
   have e:numB lo hi (.int i)=false:=by show(decide (lo≤i)&&decide (i≤hi))=_;rw[decide_eq_false c,Bool.false_and]
   rw[e]at q
   exact q
 ·rw[e1]
  refine iteF ⟨_,rfl,_,_,_,rfl,hk,.inl rfl,_,rfl,?_⟩
  rw[e2]
  rw[e3]at q
  exact iteT q
theorem ok_is_rising {f:Addr}{fd:FuncData}(F:Fun K "is_rising" "is_rising" s_is_rising f fd)(nb:Nb mg)   :
 FnOk P w K mg base CX0 1 f fd ["numbers"] spRise:=by
 have nd:=sc_is_rising.nd
 refine F.ok (k:=0) sc_is_rising (fun vs H Q E h=>?_) (fun cdv A outer s H vs Q E hr h=>?_)
 ·obtain⟨a,ns,rfl,_⟩:=h
  rfl
 obtain⟨a,ns,rfl,ha,hz,q⟩:=h
 refine⟨_,(pss_one (ps_ret (pe_callB (call_allB rfl) rfl nb.all boot_all (pa_cons (pe_comp2 (sc:=defScope s_is_rising) (N0:=["numbers"]) (N:=[]) (js:=[]) rfl rfl rfl (by exact⟨rfl,by decide +kernel,by decide +kernel,by decide +kernel,rfl,rfl,by decide,by decide +kernel,by decide +kernel⟩) rfl rfl
  (pi_zip true rfl nb.zip (pa_cons (pv 0) (pa_cons (pe_slice sl_tupA (pv 0) (po_some pe_int) po_none) pa_nil)))
  (fun _ _ _ _ _=>by exact pts_nil)
  (fun _ _ _ _ _=>by exact(pe_cmpR op_lt (pv 0) (pv 1) (nomark _)))) pa_nil)))),?_⟩
 refine⟨_,rfl,_,rfl,_,rfl,a,_,rfl,ha,fun p H1 s1 hp=>?_⟩
 have hp':H1 p=some (.tup ((ns.drop 1).map V.int)):=by rw[hp,show((1:Int))=((1:Nat):Int) from rfl,cut_from,map_drop]
 have ha':=s1 _ _ ha
 refine⟨a,p,_,_,rfl,SqT.of ha',SqT.of hp',fun D hD=>?_⟩
 have hl:min (ns.map V.int).length ((ns.drop 1).map V.int).length=ns.length - 1:=by rw[length_map,length_map,length_drop];omega
 have im:=items_zip (K:=K) ha' hp'
 rw[hl]at im
 refine comp_go (ns.length - 1) (by rw[sizeLine_eq];omega) (lts ns) (fun σ=>∃o1 o2,σ=[o1,o2]) _ hD ⟨_,_,rfl⟩ im (fun i x σ' H2 hi s2 im' hσ R hR=>?_) (fun H' s' hD'=>?_)
 ·obtain⟨o1,o2,rfl⟩:=hσ
  obtain⟨r,y,z,rfl,hr',hy,hz'⟩:=im'
  obtain⟨v,rfl,ev⟩:=int_at hy
  rw[List.getElem?_map,getElem?_drop,←List.getElem?_map,Nat.add_comm]at hz'
  obtain⟨u,rfl,eu⟩:=int_at hz'
  refine⟨r,_,rfl,SqT.of hr',rfl,_,_,rfl,_,_,rfl,rfl,?_⟩
  refine⟨_,rfl,_,rfl,_,_,rfl,rfl,hR _ _ _ ⟨_,_,rfl⟩ (Same.refl _) ?_⟩
  show V.bl (decide (v<u))=lts ns i
  unfold lts
  rw[ev,eu]
 ·rw[rise_list]at hD'
  refine⟨D,_,rfl,SqL.of hD',?_⟩
  rw[rise_all]
  exact q H' (s1.trans s')
end
end K84
namespace K84
open L2
theorem rise_one (a:Int):riseB [a]=true:=rfl
theorem rise_two (a b:Int)(r:List Int):riseB (a::b::r)=(decide (a<b)&&riseB (b::r)):=by
 unfold riseB
 have e:(a::b::r).length - 1=(b::r).length - 1+1:=by simp
 rw[e,range_succ_eq_map,all_cons,all_map]
 rfl
theorem rise_up:∀{ns:List Int},ns.Pairwise (· < ·)→riseB ns=true
 |[],_=>rfl
 |[a],_=>rise_one a
 |a::b::r,h=>by
  obtain⟨h1,h2⟩:=pairwise_cons.mp h
  rw[rise_two,rise_up h2,Bool.and_true]
  exact decide_eq_true (h1 b (mem_cons_self ..))
def spIsRow:Sp:=fun vs H Q _=>∃(a:Addr) (ns:List Int),vs=[.ref a]∧H a=some (.tup (ns.map V.int))∧ns.length≤12∧(∀p∈ns,-1000000000≤p∧p≤1000000000)∧ns.Pairwise (· < ·)∧∀H',Same H H'→Q (.bl true) H'
theorem all_yes (n:Nat):((List.range n).map fun _=>V.bl true)=(replicate n true).map V.bl∧(replicate n true).all id=true:=by
 refine⟨?_,?_⟩
 ·rw[List.map_replicate,List.map_const',length_range]
 ·exact all_eq_true.mpr fun x hx=>List.eq_of_mem_replicate hx
section
variable {P:Program}{w:World}{K:W.Frag}{mg:Str→Option Value}{base:Heap}{kk:Addr}
theorem ok_is_row {f:Addr}{fd:FuncData}(F:Fun K "is_row" "is_row" s_is_row f fd)(nb:Nb mg)(h_is_number:Has P w K mg base 1 "is_number" ["thing","least","greatest"] spNum)(h_is_rising:Has P w K mg base 1 "is_rising" ["numbers"] spRise)(c_MOST_BALLS:∃u,mg "MOST_BALLS" = some u∧RelV (.int 12) u)(c_FARTHEST:∃u,mg "FARTHEST" = some u∧RelV (.int 1000000000) u) :
 FnOk P w K mg base CX0 2 f fd ["thing"] spIsRow:=by
 have nd:=sc_is_row.nd
 refine F.ok (k:=1) sc_is_row (fun vs H Q E h=>?_) (fun cdv A outer s H vs Q E hr h=>?_)
 ·obtain⟨a,ns,rfl,_⟩:=h
  rfl
 obtain⟨a,ns,rfl,ha,ln,bd,up,q⟩:=h
 refine⟨_,(pss_cons (ps_if (PW.pt (pw_or (pt_not (pt_truth (pe_callB call_isi rfl nb.isi boot_isinstance (pa_cons (pv 0) (pa_cons (pe_ty nb.tuple boot_tuple) pa_nil))) (fun _=>rfl))) (pw_or1 (pt_cmpR op_gt (pe_callB call_len_seq rfl nb.len PySem.boot_len (pa_cons (pv 0) pa_nil)) (pe_const c_MOST_BALLS) (nomark _)))))
(pss_one (ps_ret pe_bl))
pss_nil)
(pss_cons (ps_if (pt_not (pt_truth (pe_callB (call_allB rfl) rfl nb.all boot_all (pa_cons (pe_comp1 (sc:=defScope s_is_row) (N0:=["thing"]) (N:=[]) (js:=[]) rfl rfl rfl (by exact⟨rfl,by decide +kernel,by decide +kernel,by decide +kernel,rfl,rfl,by decide,by decide +kernel,by decide +kernel⟩) rfl
(pi_tup (pv 0))
(fun _ _ _ _ _=>by exact pts_nil)
(fun _ _ _ _ _=>by exact(pe_def h_is_number hr (pa_cons (pv 0) (pa_cons (pe_un un_neg (pe_const c_FARTHEST)) (pa_cons (pe_const c_FARTHEST) pa_nil)))))) pa_nil)) (fun _=>rfl)))
(pss_one (ps_ret pe_bl))
pss_nil)
(pss_one (ps_ret (pe_def h_is_rising hr (pa_cons (pv 0) pa_nil)))))),?_⟩
 refine⟨_,rfl,_,_,_,rfl,.tup ha,.inr (.inr (.inl rfl)),_,rfl,?_⟩
 have hl:(ns.map V.int).length=ns.length:=length_map ..
 refine iteF ⟨_,rfl,a,_,rfl,.inr (SqT.of ha),_,_,rfl,rfl,_,rfl,?_⟩
 rw[decide_eq_false (by omega)]
 refine iteF ⟨_,rfl,a,rfl,⟨_,SqT.of ha⟩,fun D hD=>?_⟩
 refine comp_go (ns.map V.int).length (by rw[hl,sizeLine_eq];omega) (fun i=>.bl true) (fun σ=>∃o1,σ=[o1]) _ hD (by exact⟨_,rfl⟩) (items_tup ha) (fun i x σ' H2 hi s2 im hσ R hR=>?_) (fun H' s' hD'=>?_)
 ·obtain⟨o1,rfl⟩:=hσ
  obtain⟨z,hz,rfl⟩:=mem_map.mp (mem_of_getElem? im)
  have zb:=bd z hz
  refine⟨_,rfl,_,rfl,.int z,_,-1000000000,1000000000,rfl,.int z,hR _ _ _ ⟨_,rfl⟩ (Same.refl _) ?_⟩
  show V.bl (decide (-1000000000≤z)&&decide (z≤1000000000))=.bl true
  rw[decide_eq_true zb.1,decide_eq_true zb.2]
  rfl
 ·obtain⟨e1,e2⟩:=all_yes (ns.map V.int).length
  rw[e1]at hD'
  refine⟨D,_,rfl,SqL.of hD',_,rfl,?_⟩
  rw[e2]
  refine iteF ⟨_,rfl,a,ns,rfl,s' _ _ ha,by omega,fun H3 s3=>?_⟩
  rw[rise_up up]
  exact q H3 (s'.trans s3)
end
end K84
namespace K84
open L2
abbrev scIn:Scope:={kind:=.function,names:=[(Str.ofString ".0",.local),(Str.ofString "place",.cell),(Str.ofString "len",.globalImplicit),(Str.ofString "out",.cell)],isGenerator:=false,isCoroutine:=false,more:=[]}
theorem in_nums (b:Int)(ns:List Int):inV (.int b) (ns.map V.int)=decide (b∈ns):=by
 unfold inV
 rw[any_map,Bool.eq_iff_iff,List.any_eq_true,decide_eq_true_iff]
 constructor
 ·rintro⟨x,hx,e⟩
  have e':x=b:=of_decide_eq_true e
  exact e'▸hx
 ·intro h
  exact⟨b,h,decide_eq_true (rfl:b=b)⟩
theorem flat_nums (ns:List Int):(ns.map V.int).all flatV=true:=by
 rw[all_map,all_eq_true]
 intro x _
 rfl
theorem num_at {ns:List Int}{i:Nat}{x:V}(h:(ns.map V.int)[i]?=some x):x=.int (ns.getD i 0):=by
 rw[List.getElem?_map]at h
 cases e:ns[i]? with
 |none=>rw[e]at h;cases h
 |some n=>
  rw[e]at h
  cases h
  rw[getD_eq_getElem?_getD,e]
  rfl
def spClosed:Sp:=fun vs H Q _=>∃(a b:Addr) (row out:List Int),vs=[.ref a,.ref b]∧H a=some (.tup (row.map V.int))∧H b=some (.lst (out.map V.int))∧row.length≤12∧out.length≤24∧
 ∀(r:Addr) (H':Hp),Same H H'→H' r=some (.tup ((BB.closedUp row out).map V.int))→Q (.ref r) H'
def spPeel:Sp:=fun vs H Q _=>∃(a:Addr) (row:List Int),vs=[.ref a]∧H a=some (.tup (row.map V.int))∧row.length≤12∧
 ∀(r:Addr) (H':Hp),Same H H'→H' r=some (.tup ((BB.peel row).map V.int))→Q (.ref r) H'
section
variable {P:Program}{w:World}{K:W.Frag}{mg:Str→Option Value}{base:Heap}
theorem ok_closed_up {f:Addr}{fd:FuncData}(F:Fun K "closed_up" "closed_up" s_closed_up f fd)(nb:Nb mg)   :
 FnOk P w K mg base CX0 1 f fd ["places","out"] spClosed:=by
 have nd:=sc_closed_up.nd
 refine F.ok (k:=0) sc_closed_up (fun vs H Q E h=>?_) (fun cdv A outer s H vs Q E hr h=>?_)
 ·obtain⟨a,b,row,out,rfl,_⟩:=h
  rfl
 obtain⟨a,b,row,out,rfl,ha,hb,r12,o24,q⟩:=h
 refine⟨_,(pss_cons (ps_comp1 (ii:=2) nd rfl (Or.inl rfl) (sc:=defScope s_closed_up) (N0:=["places","out","left"]) (N:=["out"]) (js:=[1]) rfl rfl rfl (by exact⟨rfl,by decide +kernel,by decide +kernel,by decide +kernel,rfl,rfl,by decide,by decide +kernel,by decide +kernel⟩) rfl
(pi_tup (pv 0))
(fun _ _ _ _ _=>by exact(pts_one (pt_cmpR (op_notInK K rfl) (pv 0) (pv 1) rfl)))
(fun _ _ _ _ _=>by exact(pv 0)))
(pss_one (ps_ret (pe_callTy call_tuple_of rfl nb.tuple boot_tuple (pa_cons (pe_compC1 (sc:=defScope s_closed_up) (N0:=["places","out","left"]) (N:=["out"]) (js:=[1]) rfl rfl rfl (by exact⟨rfl,by decide +kernel,fun _ _=>rfl,fun _=>rfl,by decide +kernel,by decide +kernel,by decide +kernel,rfl,rfl,by decide,by decide +kernel,by decide +kernel⟩) rfl
(pi_list (pv 2))
(fun _ _ _ _ _=>by exact pts_nil)
(fun _ _ _ _ _=>by exact(pe_op op_sub (pv 0) (pe_callB (call_lenK K rfl) rfl nb.len PySem.boot_len (pa_cons
(pe_comp1 (sc:=scIn) (N0:=["place","out"]) (N:=["place"]) (js:=[0]) rfl rfl rfl (by exact⟨rfl,by decide +kernel,by decide +kernel,by decide +kernel,rfl,rfl,by decide,by decide +kernel,by decide +kernel⟩) rfl
(pi_listK K rfl (pv 1))
(fun _ _ _ _ _=>by exact(pts_one (pt_cmpR op_lt (pv 0) (pv 1) (nomark _))))
(fun _ _ _ _ _=>by exact(pv 0))) pa_nil))))) pa_nil))))),?_⟩
 refine⟨_,rfl,a,rfl,⟨_,SqT.of ha⟩,fun D hD=>?_⟩
 refine comp_sel (row.map V.int).length (by rw[length_map,sizeLine_eq];omega) (fun i=>decide (row.getD i 0∉out)) (fun i=>.int (row.getD i 0)) (fun σ=>∃o1,σ=[o1,some (.ref b)]) _ hD (by exact⟨_,rfl⟩) (items_tup ha) (fun i x σ' H2 hi s2 im hσ R S hR hS=>?_) (fun H1 s1 hD1=>?_)
 ·obtain⟨o1,rfl⟩:=hσ
  obtain rfl:=num_at im
  refine⟨_,rfl,_,rfl,b,_,rfl,.inl (SqL.of (s2 _ _ hb)),rfl,flat_nums out,_,rfl,?_⟩
  rw[in_nums,if_pos rfl]
  by_cases m:row.getD i 0∈out
  ·rw[decide_eq_true m]
   exact iteF (hS (decide_eq_false fun z=>z m) _ _ ⟨_,rfl⟩ (Same.refl _))
  ·rw[decide_eq_false m]
   exact iteT ⟨_,rfl,hR (decide_eq_true m) _ _ _ ⟨_,rfl⟩ (Same.refl _) rfl⟩
 rw[length_map,BB.sel_list 0 row (fun p=>decide (p∉out)) V.int]at hD1
 have hb1:=s1 _ _ hb
 have ll:(row.filter fun p=>decide (p∉out)).length≤12:=Nat.le_trans (length_filter_le _ _) r12
 have qq:∀(r:Addr) (H':Hp),Same H1 H'→H' r=some (.tup (((row.filter fun p=>decide (p∉out)).map fun p=>p - ((out.filter fun g=>decide (g<p)).length:Int)).map V.int))→Q (.ref r) H':=fun r H' s h=>q r H' (s1.trans s) h
 generalize(row.filter fun p=>decide (p∉out))=left at hD1 ll qq
 refine⟨_,rfl,D,rfl,⟨_,SqL.of hD1⟩,fun D2 hD2=>?_⟩
 refine comp_go (left.map V.int).length (by rw[length_map,sizeLine_eq];omega) (fun i=>.int (left.getD i 0 - ((out.filter fun g=>decide (g<left.getD i 0)).length:Int))) (fun σ=>∃o1,σ=[o1,some (.ref b)]) _ hD2 (by exact⟨_,rfl⟩) (items_lst hD1) (fun i x σ' H2 hi s2 im hσ R hR=>?_) (fun H3 s3 hD3=>?_)
 ·obtain⟨o1,rfl⟩:=hσ
  obtain rfl:=num_at im
  have hb2:=s2 _ _ hb1
  refine⟨_,rfl,_,rfl,b,rfl,⟨_,SqL.of hb2⟩,fun D3 hD3=>?_⟩
  refine comp_sel (out.map V.int).length (by rw[length_map,sizeLine_eq];omega) (fun j=>decide (out.getD j 0<left.getD i 0)) (fun j=>.int (out.getD j 0)) (fun σ=>∃o2,σ=[o2,some (.int (left.getD i 0))]) _ hD3 (by exact⟨_,rfl⟩) (items_lst hb2) (fun j y σ2 H4 hj s4 im4 hσ4 R4 S4 hR4 hS4=>?_) (fun H5 s5 hD5=>?_)
  ·obtain⟨o2,rfl⟩:=hσ4
   obtain rfl:=num_at im4
   refine⟨_,rfl,_,rfl,_,_,rfl,rfl,_,rfl,?_⟩
   by_cases c:out.getD j 0<left.getD i 0
   ·rw[decide_eq_true c]
    exact iteT ⟨_,rfl,hR4 (decide_eq_true c) _ _ _ ⟨_,rfl⟩ (Same.refl _) rfl⟩
   ·rw[decide_eq_false c]
    exact iteF (hS4 (decide_eq_false c) _ _ ⟨_,rfl⟩ (Same.refl _))
  ·rw[length_map,BB.sel_list 0 out (fun g=>decide (g<left.getD i 0)) V.int]at hD5
   refine⟨D3,_,rfl,.inl (SqL.of hD5),_,_,rfl,rfl,hR _ _ _ ⟨_,rfl⟩ s5 ?_⟩
   rw[length_map]
 ·rw[length_map,BB.all_list 0 left (fun p=>V.int (p - ((out.filter fun g=>decide (g<p)).length:Int)))]at hD3
  refine⟨D2,_,rfl,.inl ⟨SqL.of hD3,fun l hl=>?_⟩⟩
  refine qq l _ (s3.trans (same_new hl _)) ?_
  rw[upd_same,map_map]
  rfl
theorem ok_peeled {f:Addr}{fd:FuncData}(F:Fun K "peeled" "peeled" s_peeled f fd)(nb:Nb mg)(h_closed_up:Has P w K mg base 1 "closed_up" ["places","out"] spClosed)  :
 FnOk P w K mg base CX0 2 f fd ["row"] spPeel:=by
 have nd:=sc_peeled.nd
 refine F.ok (k:=1) sc_peeled (fun vs H Q E h=>?_) (fun cdv A outer s H vs Q E hr h=>?_)
 ·obtain⟨a,row,rfl,_⟩:=h
  rfl
 obtain⟨a,row,rfl,ha,r12,q⟩:=h
 refine⟨_,(pss_cons (ps_comp1 (ii:=1) nd rfl (Or.inl rfl) (sc:=defScope s_peeled) (N0:=["row","balls"]) (N:=["row"]) (js:=[0]) rfl rfl rfl (by exact⟨rfl,by decide +kernel,by decide +kernel,by decide +kernel,rfl,rfl,by decide,by decide +kernel,by decide +kernel⟩) rfl
(pi_tup (pv 0))
(fun _ _ _ _ _=>by exact(pts_one (pt_cmpR (op_notInK K rfl) (pe_op op_add (pv 0) pe_int) (pv 1) rfl)))
(fun _ _ _ _ _=>by exact(pv 0)))
(pss_one (ps_ret (pe_def h_closed_up hr (pa_cons (pv 0) (pa_cons (pe_op op_cat (pv 1) (pe_comp1 (sc:=defScope s_peeled) (N0:=["row","balls"]) (N:=[]) (js:=[]) rfl rfl rfl (by exact⟨rfl,by decide +kernel,by decide +kernel,by decide +kernel,rfl,rfl,by decide,by decide +kernel,by decide +kernel⟩) rfl
(pi_list (pv 1))
(fun _ _ _ _ _=>by exact pts_nil)
(fun _ _ _ _ _=>by exact(pe_op op_add (pv 0) pe_int)))) pa_nil)))))),?_⟩
 refine⟨_,rfl,a,rfl,⟨_,SqT.of ha⟩,fun D hD=>?_⟩
 refine comp_sel (row.map V.int).length (by rw[length_map,sizeLine_eq];omega) (fun i=>decide (row.getD i 0+1∉row)) (fun i=>.int (row.getD i 0)) (fun σ=>∃o1,σ=[o1,some (.ref a)]) _ hD (by exact⟨_,rfl⟩) (items_tup ha) (fun i x σ' H2 hi s2 im hσ R S hR hS=>?_) (fun H1 s1 hD1=>?_)
 ·obtain⟨o1,rfl⟩:=hσ
  obtain rfl:=num_at im
  refine⟨_,rfl,_,_,rfl,rfl,_,rfl,a,_,rfl,.inr (SqT.of (s2 _ _ ha)),rfl,flat_nums row,_,rfl,?_⟩
  rw[in_nums,if_pos rfl]
  by_cases m:row.getD i 0+1∈row
  ·rw[decide_eq_true m]
   exact iteF (hS (decide_eq_false fun z=>z m) _ _ ⟨_,rfl⟩ (Same.refl _))
  ·rw[decide_eq_false m]
   exact iteT ⟨_,rfl,hR (decide_eq_true m) _ _ _ ⟨_,rfl⟩ (Same.refl _) rfl⟩
 rw[length_map,BB.sel_list 0 row (fun p=>decide (p+1∉row)) V.int]at hD1
 have hb:H1 D=some (.lst ((BB.bare row).map V.int)):=hD1
 have bl:=BB.bare_le row
 refine⟨_,rfl,_,rfl,_,rfl,D,rfl,⟨_,SqL.of hb⟩,fun D2 hD2=>?_⟩
 refine comp_go ((BB.bare row).map V.int).length (by rw[length_map,sizeLine_eq];omega) (fun i=>.int ((BB.bare row).getD i 0+1)) (fun σ=>∃o1,σ=[o1]) _ hD2 (by exact⟨_,rfl⟩) (items_lst hb) (fun i x σ' H2 hi s2 im hσ R hR=>?_) (fun H3 s3 hD3=>?_)
 ·obtain⟨o1,rfl⟩:=hσ
  obtain rfl:=num_at im
  exact⟨_,rfl,_,_,rfl,rfl,hR _ _ _ ⟨_,rfl⟩ (Same.refl _) rfl⟩
 ·rw[length_map,BB.all_list 0 (BB.bare row) (fun p=>V.int (p+1))]at hD3
  refine⟨D,D2,_,_,rfl,rfl,s3 _ _ hb,hD3,by rw[length_map,length_map,sizeLine_eq];omega,fun p hp=>?_⟩
  have s4:=s3.trans (same_new hp (.lst ((BB.bare row).map V.int++(BB.bare row).map fun p=>V.int (p+1))))
  refine⟨a,p,row,BB.bare row++(BB.bare row).map (· + 1),rfl,s4 _ _ (s1 _ _ ha),?_,r12,by rw[length_append,length_map];omega,fun r H' s h=>q r H' ((s1.trans s4).trans s) h⟩
  rw[upd_same,map_append,map_map]
  rfl
end
end K84
namespace K84
open L2
abbrev scLf:Scope:={kind:=.function,names:=[(Str.ofString ".0",.local),(Str.ofString "ball",.cell),(Str.ofString "len",.globalImplicit),(Str.ofString "counts",.cell)],isGenerator:=false,isCoroutine:=false,more:=[]}
open BB (lens outs)
def spLf:Sp:=fun vs H Q _=>∃(a:Addr) (cs:List Int),vs=[.ref a]∧H a=some (.lst (cs.map V.int))∧cs.length≤12∧(∀c∈cs,0≤c∧c≤12)∧∀(r:Addr) (H':Hp),Same H H'→H' r=some (.tup ((lens cs).map V.int))→Q (.ref r) H'
theorem head_rdL {K:W.Frag}{a:Addr}{ns:List Int}{H:Hp}{σ:L2.St}{Q:VK}(h0:σ[0]?=some (some (.ref a)))(ha:H a=some (.lst (ns.map V.int)))(q:Q (.int (ns.headD 0)) H) :
 tIf (fun σ H Q=>tVar 0 σ H fun x H'=>∃k,TruV K x H' k∧Q k H') (tOp (rIxL K) (tVar 0) (tC (.int 0))) (tC (.int 0)) σ H Q:=by
 refine⟨_,h0,!(ns.map V.int).isEmpty,.inl ⟨_,SqL.of ha,rfl⟩,?_⟩
 cases ns with
 |nil=>exact iteF q
 |cons p r=>exact iteT ⟨_,h0,a,_,_,_,rfl,rfl,SqL.of ha,(show atI ((p::r).map V.int) ((0:Nat):Int)=some (.int p) from atI_nat rfl),q⟩
def spLen:Sp:=fun vs H Q _=>∃(a:Addr) (row:List Int),vs=[.ref a]∧H a=some (.tup (row.map V.int))∧row.length≤12∧∀(r:Addr) (H':Hp),Same H H'→H' r=some (.tup ((lens (outs row.length row)).map V.int))→Q (.ref r) H'
theorem outs_fuel:∀(n m:Nat) (row:List Int),row.length≤n→row.length≤m→outs n row=outs m row
 |0,0,_,_,_=>rfl
 |0,m+1,row,h,_=>by
  have e:row=[]:=length_eq_zero_iff.mp (by omega)
  subst e
  unfold outs
  rw[if_pos rfl]
 |n+1,0,row,_,h=>by
  have e:row=[]:=length_eq_zero_iff.mp (by omega)
  subst e
  unfold outs
  rw[if_pos rfl]
 |n+1,m+1,row,h1,h2=>by
  unfold outs
  by_cases e:row=[]
  ·rw[if_pos e,if_pos e]
  ·rw[if_neg e,if_neg e]
   have:=BB.peel_lt e
   rw[outs_fuel n m _ (by omega) (by omega)]
theorem outs_step {ms:List Int}(h:ms≠[]):outs ms.length ms=((ms.length:Int) - ((BB.peel ms).length:Int))::outs (BB.peel ms).length (BB.peel ms):=by
 have lt:=BB.peel_lt h
 obtain⟨k,e⟩:∃k,ms.length=k+1:=⟨ms.length - 1,by omega⟩
 rw[outs_fuel ms.length (k+1) ms (Nat.le_refl _) (by omega)]
 show(if ms=[] then _ else _)=_
 rw[if_neg h,outs_fuel k (BB.peel ms).length _ (by omega) (Nat.le_refl _)]
theorem seq_while {c:TT}{tb u:TS}{D:Ends}{σ:L2.St}{H:Hp}(h:tWhile c tb {D with nx:=u D} σ H):tSeq (tWhile c tb) u D σ H:=h
def many (σ:L2.St)(H:Hp):Nat:=match σ with
 |[_,_,some (V.ref p),_]=>(match H p with | some (.tup xs)=>xs.length | _=>0)
 |_=>0
theorem many_at {H:Hp}{o1 o2 o3:Option V}{p:Addr}{ms:List Int}(h:H p=some (.tup (ms.map V.int))):many [o1,o2,some (.ref p),o3] H=ms.length:=by
 show(match H p with | some (.tup xs)=>xs.length | _=>0)=_
 rw[h]
 exact length_map ..
section
variable {P:Program}{w:World}{K:W.Frag}{mg:Str→Option Value}{base:Heap}
theorem ok_lengths_from {f:Addr}{fd:FuncData}(F:Fun K "lengths_from" "lengths_from" s_lengths_from f fd)(nb:Nb2 mg)   :
 FnOk P w K mg base CX0 1 f fd ["counts"] spLf:=by
 have nd:=sc_lengths_from.nd
 refine F.ok (k:=0) sc_lengths_from (fun vs H Q E h=>?_) (fun cdv A outer s H vs Q E hr h=>?_)
 ·obtain⟨a,cs,rfl,_⟩:=h
  rfl
 obtain⟨a,cs,rfl,ha,c12,cb,q⟩:=h
 refine⟨_,(pss_cons (ps_set (i:=1) nd rfl (Or.inl rfl) (pe_ifExp (pt_truth (pv 0) (fun _=>rfl)) (pe_ix ix_list (pv 0) pe_int (fun _ _=>rfl)) pe_int))
(pss_one (ps_ret (pe_callTy call_tuple_of rfl nb.tuple boot_tuple (pa_cons (pe_compC1 (sc:=defScope s_lengths_from) (N0:=["counts","first"]) (N:=["counts"]) (js:=[0]) rfl rfl rfl (by exact⟨rfl,by decide +kernel,fun _ _=>rfl,fun _=>rfl,by decide +kernel,by decide +kernel,by decide +kernel,rfl,rfl,by decide,by decide +kernel,by decide +kernel⟩) rfl
(pi_range2 rfl nb.range (pa_cons pe_int (pa_cons (pe_op op_add (pv 1) pe_int) pa_nil)))
(fun _ _ _ _ _=>by exact pts_nil)
(fun _ _ _ _ _=>by exact(pe_callB (call_lenK K rfl) rfl nb.len PySem.boot_len (pa_cons
(pe_comp1 (sc:=scLf) (N0:=["ball","counts"]) (N:=["ball"]) (js:=[0]) rfl rfl rfl (by exact⟨rfl,by decide +kernel,by decide +kernel,by decide +kernel,rfl,rfl,by decide,by decide +kernel,by decide +kernel⟩) rfl
(pi_listK K rfl (pv 1))
(fun _ _ _ _ _=>by exact(pts_one (pt_cmpR op_ge (pv 0) (pv 1) (nomark _))))
(fun _ _ _ _ _=>by exact(pv 0))) pa_nil)))) pa_nil))))),?_⟩
 refine head_rdL (K:=K) rfl ha ?_
 have hb:0≤cs.headD 0∧cs.headD 0≤12:=by
  cases cs with
  |nil=>exact⟨by decide,by decide⟩
  |cons c r=>exact cb c mem_cons_self
 refine⟨_,rfl,_,_,rfl,rfl,1,cs.headD 0+1,rfl,⟨by decide,by decide,by omega,by omega⟩,fun D hD=>?_⟩
 rw[show(cs.headD 0+1 - 1).toNat=(cs.headD 0).toNat by congr 1;omega]
 refine comp_go (cs.headD 0).toNat (by rw[sizeLine_eq];omega) (fun j=>.int ((cs.filter fun c=>decide ((j:Int)<c)).length:Int)) (fun σ=>∃o1,σ=[o1,some (.ref a)]) (fun j H' x=>x=.int (1+(j:Int))) hD (by exact⟨_,rfl⟩) (fun j H2 _=>items_rng 1 _ j H2 (Same.refl _)) (fun j x σ' H2 hj s2 im hσ R hR=>?_) (fun H3 s3 hD3=>?_)
 ·obtain⟨o1,rfl⟩:=hσ
  subst im
  have ha2:=s2 _ _ ha
  refine⟨_,rfl,a,rfl,⟨_,SqL.of ha2⟩,fun D3 hD3=>?_⟩
  refine comp_sel (cs.map V.int).length (by rw[length_map,sizeLine_eq];omega) (fun k=>decide ((j:Int)<cs.getD k 0)) (fun k=>.int (cs.getD k 0)) (fun σ=>∃o2,σ=[o2,some (.int (1+(j:Int)))]) _ hD3 (by exact⟨_,rfl⟩) (items_lst ha2) (fun k y σ2 H4 hk s4 im4 hσ4 R4 S4 hR4 hS4=>?_) (fun H5 s5 hD5=>?_)
  ·obtain⟨o2,rfl⟩:=hσ4
   obtain rfl:=num_at im4
   refine⟨_,rfl,_,rfl,_,_,rfl,rfl,_,rfl,?_⟩
   by_cases c:(j:Int)<cs.getD k 0
   ·rw[decide_eq_true (by omega)]
    exact iteT ⟨_,rfl,hR4 (decide_eq_true c) _ _ _ ⟨_,rfl⟩ (Same.refl _) rfl⟩
   ·rw[decide_eq_false (by omega)]
    exact iteF (hS4 (decide_eq_false c) _ _ ⟨_,rfl⟩ (Same.refl _))
  ·rw[length_map,BB.sel_list 0 cs (fun c=>decide ((j:Int)<c)) V.int]at hD5
   refine⟨D3,_,rfl,.inl (SqL.of hD5),hR _ _ _ ⟨_,rfl⟩ s5 ?_⟩
   rw[length_map]
 ·refine⟨D,_,rfl,.inl ⟨SqL.of hD3,fun l hl=>?_⟩⟩
  refine q l _ (s3.trans (same_new hl _)) ?_
  rw[upd_same]
  unfold lens
  rw[map_map]
  rfl
theorem ok_lengths {f:Addr}{fd:FuncData}(F:Fun K "lengths" "lengths" s_lengths f fd)(nb:Nb2 mg)(h_peeled:Has P w K mg base 2 "peeled" ["row"] spPeel)(h_lengths_from:Has P w K mg base 1 "lengths_from" ["counts"] spLf)  :
 FnOk P w K mg base CX0 3 f fd ["row"] spLen:=by
 have nd:=sc_lengths.nd
 refine F.ok (k:=2) sc_lengths (fun vs H Q E h=>?_) (fun cdv A outer s H vs Q E hr h=>?_)
 ·obtain⟨a,row,rfl,_⟩:=h
  rfl
 obtain⟨a,row,rfl,ha,r12,q⟩:=h
 refine⟨_,(pss_cons (ps_set (i:=1) nd rfl (Or.inl rfl) (pe_lst pa_nil))
(pss_cons (ps_set (i:=2) nd rfl (Or.inl rfl) (pv 0))
(pss_cons (ps_while PassesOwn.never (pt_truth (pv 2) (fun _=>rfl))
(pss_cons (ps_set (i:=3) nd rfl (Or.inl rfl) (pe_def h_peeled hr (pa_cons (pv 2) pa_nil)))
(pss_cons (ps_expr (pe_bm PySem.F.plainAttrs_list PySem.F.slot_list_append PySem.F.type_list_append mt_append (pv 1) (pa_cons (pe_op op_sub (pe_callB call_len_seq rfl nb.len PySem.boot_len (pa_cons (pv 2) pa_nil)) (pe_callB call_len_seq rfl nb.len PySem.boot_len (pa_cons (pv 3) pa_nil))) pa_nil)))
(pss_one (ps_set (i:=2) nd rfl (Or.inl rfl) (pv 3))))))
(pss_one (ps_ret (pe_def h_lengths_from hr (pa_cons (pv 1) pa_nil))))))),?_⟩
 refine⟨(by show 0≤sizeLine;decide),fun c hc=>?_⟩
 have s1:=same_new hc (.lst [])
 refine⟨_,rfl,?_⟩
 unfold gName
 dsimp only
 refine seq_while ?_
 refine while_by (fun σ H'=>Same H H'∧∃(p:Addr) (ms done:List Int) (o3:Option V),σ=[some (.ref a),some (.ref c),some (.ref p),o3]∧H' p=some (.tup (ms.map V.int))∧H' c=some (.lst (done.map V.int))∧done++outs ms.length ms=outs row.length row∧done.length+ms.length≤row.length∧∀z∈done,0≤z∧z≤12) many
  ⟨s1,a,row,[],_,rfl,s1 _ _ ha,upd_same,rfl,by simp,fun z hz=>absurd hz not_mem_nil⟩ (fun σ H' hp=>?_) (fun σ H Q Q' hq h=>?_)
 ·obtain⟨sm,p,ms,done,o3,rfl,hms,hcd,eo,ln,bd⟩:=hp
  have mm:=many_at (o1:=some (V.ref a)) (o2:=some (V.ref c)) (o3:=o3) hms
  by_cases em:ms=[]
  ·subst em
   refine⟨_,rfl,false,.inr (.inl ⟨_,SqT.of hms,rfl⟩),iteF ?_⟩
   have ed:done=outs row.length row:=by rw[←eo];simp[outs]
   refine⟨_,rfl,c,done,rfl,hcd,by omega,bd,fun r H2 s2 h2=>?_⟩
   rw[ed]at h2
   exact q r H2 (sm.trans s2) h2
  ·have lt:=BB.peel_lt em
   refine⟨_,rfl,true,.inr (.inl ⟨_,SqT.of hms,by simp[em]⟩),iteT ?_⟩
   refine⟨_,rfl,p,ms,rfl,hms,by omega,fun r2 H2 s2 h2=>?_⟩
   refine⟨_,rfl,.inl ⟨rfl,_,SqL.of (s2 _ _ hcd)⟩,_,rfl,p,_,rfl,.inr (SqT.of (s2 _ _ hms)),_,rfl,r2,_,rfl,.inr (SqT.of h2),_,_,rfl,rfl,?_⟩
   refine⟨c,_,_,rfl,rfl,s2 _ _ hcd,by rw[length_map,sizeLine_eq];omega,?_⟩
   have r2c:r2≠c:=fun z=>by rw[z,s2 _ _ hcd]at h2;cases h2
   rw[length_map,length_map]
   have h3:(upd H2 c (.lst (done.map V.int++[.int ((ms.length:Int) - ((BB.peel ms).length:Int))]))) r2=some (.tup ((BB.peel ms).map V.int)):=by rw[upd_ne r2c];exact h2
   refine⟨_,rfl,⟨fun b o hb=>by rw[upd_ne (ne_of_none hb hc)];exact s2 _ _ (sm _ _ hb),r2,BB.peel ms,done++[(ms.length:Int) - ((BB.peel ms).length:Int)],_,rfl,h3,by rw[upd_same,map_append];rfl,?_,?_,fun z hz=>?_⟩,?_⟩
   ·rw[←eo,outs_step em,List.append_assoc]
    rfl
   ·rw[length_append,length_singleton]
    omega
   ·rcases mem_append.mp hz with w | w
    ·exact bd z w
    ·rw[mem_singleton]at w
     omega
   ·show many [_,_,some (V.ref r2),_] _<_
    rw[many_at h3,mm]
    exact lt
 ·obtain⟨v,e,k,tv,q1⟩:=h
  exact⟨v,e,k,tv,hq _ _ q1⟩
end
end K84
namespace K84
open L2
def spWays:Sp:=fun vs H Q _=>∃(N k:Nat),vs=[.int (N:Int),.int (k:Int)]∧N≤10∧k≤10∧
 ∀(l:Addr) (H':Hp),Same H H'→TL H' l ((BB.waysL N k).map (·.map V.int))→Q (.ref l) H'
theorem at_last {ns:List Int}{q:Int}(h:ns.getLast?=some q):atI (ns.map V.int) (-1)=some (.int q):=by
 have ne:ns≠[]:=fun z=>by rw[z]at h;cases h
 have l0:0<ns.length:=List.length_pos_iff.mpr ne
 have e:ixN (ns.map V.int).length (-1)=some (ns.length - 1):=by
  unfold ixN
  rw[length_map,if_neg (by decide),if_pos (by omega)]
  congr 1
  omega
 unfold atI
 rw[e]
 show(ns.map V.int)[ns.length - 1]?=_
 rw[List.getElem?_map]
 rw[List.getLast?_eq_getElem?]at h
 rw[h]
 rfl
theorem flat_take (L:List (List Int))(g:List Int→List (List Int))(m:List Int→List V):∀j,j≤L.length→(List.range j).flatMap (fun j=>(g (L.getD j [])).map m)=((L.take j).flatMap g).map m
 |0,_=>rfl
 |j+1,h=>by
  rw[range_succ,flatMap_append,flat_take L g m j (by omega),flatMap_singleton,List.take_succ,flatMap_append,map_append,List.getElem?_eq_getElem (by omega),getD_eq_getElem?_getD,List.getElem?_eq_getElem (by omega)]
  congr 1
  show _=List.map m ([L[j]].flatMap g)
  rw[flatMap_singleton]
  rfl
theorem nxt_rd {K:W.Frag}{a:Addr}{w:List Int}{H:Hp}{σ:L2.St}{Q:VK}(h0:σ[0]?=some (some (.ref a)))(ha:H a=some (.tup (w.map V.int)))(q:Q (.int (BB.nxt w)) H) :
 tIf (fun σ H Q=>tVar 0 σ H fun x H'=>∃k,TruV K x H' k∧Q k H') (tOp (rI0 fun i j=>V.int (i+j)) (tOp (rIxT K) (tVar 0) (tUn (rU fun i=>V.int (-i)) (tC (V.int 1)))) (tC (V.int 1))) (tC (V.int 0)) σ H Q:=by
 refine⟨_,h0,!(w.map V.int).isEmpty,.inr (.inl ⟨_,SqT.of ha,rfl⟩),?_⟩
 rcases eq_nil_or_concat w with rfl | ⟨l,x,rfl⟩
 ·exact iteF q
 ·rw[concat_eq_append]at ha q ⊢
  rw[BB.nxt_last]at q
  have e:(!((l++[x]).map V.int).isEmpty)=true:=by simp
  rw[e]
  refine iteT ⟨_,h0,_,rfl,a,_,_,.int x,rfl,rfl,SqT.of ha,at_last (by simp),_,_,rfl,rfl,q⟩
section
variable {P:Program}{w:World}{K:W.Frag}{mg:Str→Option Value}{base:Heap}
theorem ok_ways {f:Addr}{fd:FuncData}(F:Fun K "ways" "ways" s_ways f fd)(nb:Nb mg)   :
 FnOk P w K mg base CX0 1 f fd ["boxes","balls"] spWays:=by
 have nd:=sc_ways.nd
 refine F.ok (k:=0) sc_ways (fun vs H Q E h=>?_) (fun cdv A outer s H vs Q E hr h=>?_)
 ·obtain⟨N,k,rfl,_⟩:=h
  rfl
 obtain⟨N,k,rfl,N10,k10,q⟩:=h
 refine⟨_,(pss_cons (ps_set (i:=2) nd rfl (Or.inl rfl) (pe_lst (pa_cons (pe_tup pa_nil) pa_nil)))
(pss_cons (ps_for PassesOwn.never rfl (pi_range1 rfl nb.range (pa_cons (pv 1) pa_nil)) (pg_name (i:=3) nd rfl (Or.inl rfl))
(pss_one (ps_compO1 (ii:=2) nd rfl (Or.inl rfl) (sc:=defScope s_ways) (N0:=["boxes","balls","laid","turn"]) (N:=["boxes"]) (js:=[0]) rfl rfl rfl (by exact⟨rfl,by decide +kernel,by decide +kernel,by decide +kernel,rfl,rfl,by decide,by decide +kernel,by decide +kernel⟩) rfl rfl
(pi_list (pv 2))
(fun _ _ _ _ _=>by exact(pi_range2 rfl nb.range (pa_cons (pe_ifExp (pt_truthW K rfl (pv 0) (fun _=>rfl)) (pe_op op_add (pe_ix (show IxR _ (rIxT K) from ix_tup) (pv 0) (pe_un un_neg pe_int) (fun _ _=>rfl)) pe_int) pe_int) (pa_cons (pv 2) pa_nil))))
(fun _ _ _ _ _=>by exact(pe_op (op_catW K rfl) (pv 0) (pe_tup (pa_cons (pv 1) pa_nil)))))))
(pss_one (ps_ret (pv 2))))),?_⟩
 refine⟨(by show 0≤sizeLine;decide),fun p0 hp0=>⟨(by show 1≤sizeLine;decide),fun l0 hl0=>?_⟩⟩
 have s0:=(same_new hp0 (.tup [])).trans (same_new hl0 (.lst [.ref p0]))
 have t0:TL (upd (upd H p0 (.tup [])) l0 (.lst [.ref p0])) l0 ((BB.waysL N 0).map (·.map V.int)):=⟨[.ref p0],upd_same,rfl,fun j y e=>by
  match j,e with
  |0,e=>cases e;exact⟨p0,rfl,same_new hl0 _ _ _ upd_same⟩⟩
 generalize upd (upd H p0 (.tup [])) l0 (.lst [.ref p0])=H1 at s0 t0 ⊢
 refine⟨_,rfl,(k:Int),rfl,by omega,by omega,?_⟩
 refine for_range (fun i σ H'=>∃(l:Addr) (o3:Option V),σ=[some (.int (N:Int)),some (.int (k:Int)),some (.ref l),o3]∧Same H H'∧TL H' l ((BB.waysL N i).map (·.map V.int))) ⟨l0,_,rfl,s0,t0⟩ (fun i σ H' hi hp=>?_) (fun σ H' hp=>?_)
 ·obtain⟨l,o3,rfl,sm,tl⟩:=hp
  have hik:i<k:=by omega
  have tl0:=tl
  obtain⟨ys,hl,hlen,hy⟩:=tl
  rw[length_map]at hlen
  refine⟨_,rfl,l,rfl,⟨_,SqL.of hl⟩,fun D hD=>?_⟩
  refine out_tups ys.length (fun j=>(BB.wayF N ((BB.waysL N i).getD j [])).map (·.map V.int)) (fun σ=>∃o1 o2,σ=[o1,o2,some (.int (N:Int))]) (fun j H2 x=>ys[j]?=some x) (fun j hj=>?_) hD ⟨_,_,rfl⟩ (fun j H2 s2=>items_lst hl j H2 s2) (fun j x σ' H2 pre hj s2 im hσ tp hz N' hN=>?_) (fun H2 s2 t2=>?_)
  ·rw[flat_take _ _ _ j (by omega),length_map,sizeLine_eq]
   have:=BB.part_ways N10 (show i+1≤10 by omega) j
   omega
  ·obtain⟨o1,o2,rfl⟩:=hσ
   obtain⟨pw,rfl,hpw⟩:=hy j x im
   have hj':j<(BB.waysL N i).length:=by omega
   have wm:(BB.waysL N i).getD j []∈BB.waysL N i:=by
    rw[getD_eq_getElem?_getD,List.getElem?_eq_getElem hj']
    exact getElem_mem hj'
   have wy:=BB.mem_ways.mp wm
   rw[getD_eq_getElem?_getD,List.getElem?_map,List.getElem?_eq_getElem hj']at hpw
   have hpw:H' pw=some (.tup (((BB.waysL N i).getD j []).map V.int)):=by
    rw[hpw,getD_eq_getElem?_getD,List.getElem?_eq_getElem hj']
    rfl
   generalize(BB.waysL N i).getD j []=w at wy hpw hz hN
   obtain⟨n0,n1,n2⟩:=BB.nxt_bd wy
   have hpw2:=s2 _ _ hpw
   have wl:=wy.len
   refine nxt_rd rfl hpw2 ⟨_,rfl,_,_,rfl,⟨by omega,by omega,by omega,by omega⟩,?_⟩
   have en:((N:Int) - BB.nxt w).toNat=N - (BB.nxt w).toNat:=by omega
   rw[en]
   refine deep_tups (N - (BB.nxt w).toNat) (fun i=>(w++[BB.nxt w+(i:Int)]).map V.int) pre (fun σ=>∃o2,σ=[some (.ref pw),o2,some (.int (N:Int))]) (fun i H3 x=>x=.int (BB.nxt w+(i:Int))) tp (by rw[length_map]at hz;unfold BB.wayF at hz;simpa[BB.row]using hz) ⟨_,rfl⟩ (fun i H3 b3=>items_rng (BB.nxt w) _ i H3 (Same.refl _)) (fun i x σ' H3 hi b3 im hσ R hR=>?_) (fun σ' H3 hσ b3 t3=>?_)
   ·obtain⟨o2,rfl⟩:=hσ
    subst im
    have pD:pw≠D:=fun z=>by
     obtain⟨zs,hzs,_⟩:=tp
     rw[←z,hpw2]at hzs
     cases hzs
    have hpw3:=b3 _ _ pD hpw2
    refine⟨_,rfl,_,rfl,(by show 1≤sizeLine;decide),fun p hp=>?_⟩
    have s4:=same_new hp (.tup [.int (BB.nxt w+(i:Int))])
    refine⟨pw,p,_,_,rfl,rfl,s4 _ _ hpw3,upd_same,by rw[length_map,sizeLine_eq,wl];simp;omega,fun p5 H5 s5 h5=>hR _ _ _ ⟨_,rfl⟩ (s4.trans s5) ?_⟩
    rw[h5,map_append]
    rfl
   ·obtain⟨o2,rfl⟩:=hσ
    refine hN _ _ ⟨_,_,rfl⟩ b3 ?_
    have e:(List.range (N - (BB.nxt w).toNat)).map (fun(i:Nat)=>(w++[BB.nxt w+(i:Int)]).map V.int)=(BB.wayF N w).map (·.map V.int):=by
     unfold BB.wayF BB.row
     rw[map_map,map_map]
     rfl
    rw[←e]
    exact t3
  ·rw[flat_take _ _ _ _ (by omega),hlen,take_length]at t2
   exact⟨D,_,rfl,sm.trans s2,t2⟩
 ·obtain⟨l,o3,rfl,sm,tl⟩:=hp
  rw[Int.toNat_natCast]at tl
  exact⟨_,rfl,q l H' sm tl⟩
end
end K84
namespace K84
open L2
theorem num_true {lo hi v:Int}(h1:lo≤v)(h2:v≤hi):numB lo hi (.int v)=true:=by
 show(decide (lo≤v)&&decide (v≤hi))=true
 rw[decide_eq_true h1,decide_eq_true h2]
 rfl
def spNeed:Sp:=fun vs H Q _=>∃v lo hi:Int,vs=[.int v,.int lo,.int hi]∧lo≤v∧v≤hi∧Q .non H
def spAll:Sp:=fun vs H Q _=>∃(N k:Nat),vs=[.int (N:Int),.int (k:Int)]∧N≤10∧k≤N∧
 ∀(l:Addr) (H':Hp),Same H H'→TL H' l ((BB.waysL N k).map (·.map V.int))→Q (.ref l) H'
def Told83 (N k:Nat)(bl:List (List Int×Int)):Prop:=Cnt bl ((BB.waysL N k).map BB.lenL)∧bl.Pairwise (fun x y=>HT.lexLt x.1 y.1=true)
def spCbl:Sp:=fun vs H Q _=>∃(l:Addr) (N k:Nat),vs=[.ref l]∧N≤10∧k≤N∧TL H l ((BB.waysL N k).map (·.map V.int))∧
 ∀(r:Addr) (bl:List (List Int×Int)) (zs:List V) (H':Hp),Same H H'→H r=none→Told83 N k bl→H' r=some (.lst zs)→Nsts H' zs bl→Q (.ref r) H'
def spByl:Sp:=fun vs H Q _=>∃(N k:Nat),vs=[.int (N:Int),.int (k:Int)]∧N≤10∧k≤N∧
 ∀(r:Addr) (bl:List (List Int×Int)) (zs:List V) (H':Hp),Same H H'→H r=none→Told83 N k bl→H' r=some (.lst zs)→Nsts H' zs bl→Q (.ref r) H'
theorem hu2 {k:Nat}{A:Around}(r:Room k A):A.units+2<cLine:=by have:=r.un;omega
section
variable {P:Program}{w:World}{K:W.Frag}{mg:Str→Option Value}{base:Heap}
theorem ok_need_number {f:Addr}{fd:FuncData}(F:Fun K "need_number" "need_number" s_need_number f fd)(nb:Nb3 mg)(h_is_number:Has P w K mg base 1 "is_number" ["thing","least","greatest"] spNum)  :
 FnOk P w K mg base CX0 2 f fd ["thing","least","greatest"] spNeed:=by
 have nd:=sc_need_number.nd
 refine F.ok (k:=1) sc_need_number (fun vs H Q E h=>?_) (fun cdv A outer s H vs Q E hr h=>?_)
 ·obtain⟨v,lo,hi,rfl,_⟩:=h
  rfl
 obtain⟨v,lo,hi,rfl,h1,h2,q⟩:=h
 refine⟨_,(pss_one (ps_if (pt_not (pt_truth (pe_def h_is_number hr (pa_cons (pv 0) (pa_cons (pv 1) (pa_cons (pv 2) pa_nil)))) (fun _=>rfl)))
(pss_one ps_never)
pss_nil)),?_⟩
 refine⟨_,rfl,_,rfl,_,rfl,.int v,"int",lo,hi,rfl,.int v,_,rfl,?_⟩
 rw[num_true h1 h2]
 exact iteF q
theorem ok_all_rows {f:Addr}{fd:FuncData}(F:Fun K "all_rows" "all_rows" s_all_rows f fd)(nb:Nb3 mg)(h_need_number:Has P w K mg base 2 "need_number" ["thing","least","greatest"] spNeed)(h_ways:Has P w K mg base 1 "ways" ["boxes","balls"] spWays)(c_MOST_BOXES:∃u,mg "MOST_BOXES" = some u∧RelV (.int 10) u) :
 FnOk P w K mg base CX0 3 f fd ["boxes","balls"] spAll:=by
 have nd:=sc_all_rows.nd
 refine F.ok (k:=2) sc_all_rows (fun vs H Q E h=>?_) (fun cdv A outer s H vs Q E hr h=>?_)
 ·obtain⟨N,k,rfl,_⟩:=h
  rfl
 obtain⟨N,k,rfl,N9,kN,q⟩:=h
 refine⟨_,(pss_cons (ps_expr (pe_def h_need_number hr (pa_cons (pv 0) (pa_cons pe_int (pa_cons (pe_const c_MOST_BOXES) pa_nil)))))
(pss_cons (ps_expr (pe_def h_need_number hr (pa_cons (pv 1) (pa_cons pe_int (pa_cons (pv 0) pa_nil)))))
(pss_one (ps_ret (pe_def h_ways hr (pa_cons (pv 0) (pa_cons (pv 1) pa_nil))))))),?_⟩
 refine⟨_,rfl,(N:Int),0,10,rfl,by omega,by omega,?_⟩
 refine⟨_,rfl,_,rfl,(k:Int),0,(N:Int),rfl,by omega,by omega,?_⟩
 exact⟨_,rfl,_,rfl,N,k,rfl,N9,by omega,fun l H' s tl=>q l H' s tl⟩
theorem ok_counted_by_lengths {f:Addr}{fd:FuncData}(F:Fun K "counted_by_lengths" "counted_by_lengths" s_counted_by_lengths f fd)(nb:Nb3 mg)(h_lengths:Has P w K mg base 3 "lengths" ["row"] spLen)  :
 FnOk P w K mg base CX0 5 f fd ["rows"] spCbl:=by
 have nd:=sc_counted_by_lengths.nd
 refine F.ok (k:=4) sc_counted_by_lengths (fun vs H Q E h=>?_) (fun cdv A outer s H vs Q E hr h=>?_)
 ·obtain⟨l,N,k,rfl,_⟩:=h
  rfl
 obtain⟨l,N,k,rfl,N9,kN,tl,q⟩:=h
 refine⟨_,(pss_cons (ps_set (i:=1) nd rfl (Or.inl rfl) pe_dnewT)
(pss_cons (ps_for PassesOwn.never rfl (pi_list (pv 0)) (pg_name (i:=2) nd rfl (Or.inl rfl))
(pss_cons (ps_set (i:=3) nd rfl (Or.inl rfl) (pe_def h_lengths hr (pa_cons (pv 2) pa_nil)))
(pss_one (ps_dput (hu1 hr) (pv 1) (pv 3) (pe_op op_add (pe_dget2 (hu1 hr) (pv 1) (pv 3) pe_int ⟨rfl,rfl,rfl,rfl⟩) pe_int) rfl))))
(pss_one (ps_ret (pe_callB (call_sortJ rfl (hu2 hr)) rfl nb.sorted boot_sorted (pa_cons (pe_bm0 PySem.F.plainAttrs_dict PySem.F.slot_dict_items PySem.F.type_dict_items mt_itemsT (pv 1)) pa_nil)))))),?_⟩
 refine fun d hd=>?_
 have s0:=same_new hd (.dT [])
 have d0:(upd H d (.dT [])) d=some (.dT []):=upd_same
 have tl0:=tl.same s0
 generalize upd H d (.dT [])=H0 at s0 d0 tl0 ⊢
 obtain⟨ys,hl,hlen,hy⟩:=tl0
 rw[length_map]at hlen
 have fw:=BB.few_ways N N9 k (by omega)
 have ld:l≠d:=fun z=>by rw[z,d0]at hl;cases hl
 refine⟨_,rfl,l,rfl,⟨_,SqL.of hl⟩,?_⟩
 refine for_list (xs:=ys) (fun i σ H'=>∃(o2 o3:Option V) (bl:List (List Int×Int)),σ=[some (.ref l),some (.ref d),o2,o3]∧But d H0 H'∧H' d=some (.dT (bl.map kvT))∧Cnt bl (((BB.waysL N k).map BB.lenL).take i)) ⟨_,_,[],rfl,But.refl _ _,d0,Cnt.nil⟩ (fun i σ H' hi hp=>?_) (fun i x σ H1 hxi hp=>?_) (fun σ H1 hp=>?_)
 ·obtain⟨o2,o3,bl,rfl,bt,hk,c⟩:=hp
  exact SqL.of (bt _ _ ld hl)
 ·obtain⟨o2,o3,bl,rfl,bt,hk,c⟩:=hp
  have hil:i<(BB.waysL N k).length:=by
   have:=(List.getElem?_eq_some_iff.mp hxi).1
   omega
  obtain⟨pw,rfl,hpw⟩:=hy i x hxi
  rw[getD_eq_getElem?_getD,List.getElem?_map,List.getElem?_eq_getElem hil]at hpw
  have hpw:H0 pw=some (.tup ((BB.waysL N k)[i].map V.int)):=hpw
  have wy:=BB.mem_ways.mp (getElem_mem hil)
  have tk:((BB.waysL N k).map BB.lenL).take (i+1)=((BB.waysL N k).map BB.lenL).take i++[BB.lenL (BB.waysL N k)[i]]:=by
   rw[take_add_one,List.getElem?_map,List.getElem?_eq_getElem hil]
   rfl
  have pd:pw≠d:=fun z=>by rw[z,d0]at hpw;cases hpw
  have wl:=wy.len
  generalize(BB.waysL N k)[i]=w at hpw wy tk wl
  refine⟨_,rfl,pw,w,rfl,bt _ _ pd hpw,by omega,fun r H2 s2 h2=>?_⟩
  have hk2:=s2 _ _ hk
  have h2':H2 r=some (.tup (((BB.lenL w).map (Sum.inl:Int→Key)).map kV)):=by rw[key_ints];exact h2
  have bt2:=bt.trans (But.of s2)
  have bn:bl.length≤(BB.waysL N k).length:=by
   have:=c.len fun x hx=>hx
   rw[length_take,length_map]at this
   omega
  refine⟨_,rfl,d,rfl,.inr ⟨_,.inl hk2⟩,_,rfl,_,DGet.t hk2 h2',_,_,c.get (BB.lenL w),rfl,?_⟩
  refine⟨_,rfl,_,rfl,d,_,rfl,DPut.t hk2 h2' (by rw[length_map,sizeLine_eq];omega),?_⟩
  rw[putT]
  refine⟨_,_,putI bl (BB.lenL w) _,rfl,bt2.trans ?_,upd_same,?_⟩
  ·exact fun b o nb e=>(upd_ne nb).trans e
  ·rw[tk]
   exact c.put (BB.lenL w)
 ·obtain⟨o2,o3,bl,rfl,bt,hk,c⟩:=hp
  have c':Cnt bl ((BB.waysL N k).map BB.lenL):=by
   rw[take_of_length_le (by rw[length_map];omega)]at c
   exact c
  have b64:bl.length<64:=Nat.lt_of_le_of_lt (c'.len fun x hx=>List.mem_eraseDups.mpr hx) (BB.few_lens N N9 k kN)
  refine⟨_,rfl,.inr (.inr (.inl ⟨rfl,.inr ⟨_,hk⟩⟩)),d,_,rfl,rfl,hk,fun v hv=>?_⟩
  have s3:=same_new hv (Fz v (viewO d))
  refine⟨v,d,bl,rfl,upd_same,s3 _ _ hk,c'.nd,b64,fun bl' zs l' H' pm pw sm hl0 hl1 ns=>?_⟩
  have S:Same H H':=fun b o e=>sm _ _ (s3 _ _ (bt _ _ (ne_of_none e hd) (s0 _ _ e)))
  refine q l' bl' zs H' S ?_ ⟨c'.perm pm,pw⟩ hl1 ns
  cases e:H l' with
  |none=>rfl
  |some o=>rw[s3 _ _ (bt _ _ (ne_of_none e hd) (s0 _ _ e))]at hl0;cases hl0
theorem ok_by_lengths {f:Addr}{fd:FuncData}(F:Fun K "by_lengths" "by_lengths" s_by_lengths f fd)(nb:Nb3 mg)(h_all_rows:Has P w K mg base 3 "all_rows" ["boxes","balls"] spAll)(h_counted_by_lengths:Has P w K mg base 5 "counted_by_lengths" ["rows"] spCbl)  :
 FnOk P w K mg base CX0 6 f fd ["boxes","balls"] spByl:=by
 have nd:=sc_by_lengths.nd
 refine F.ok (k:=5) sc_by_lengths (fun vs H Q E h=>?_) (fun cdv A outer s H vs Q E hr h=>?_)
 ·obtain⟨N,k,rfl,_⟩:=h
  rfl
 obtain⟨N,k,rfl,N9,kN,q⟩:=h
 refine⟨_,(pss_one (ps_ret (pe_def h_counted_by_lengths hr (pa_cons (pe_def h_all_rows hr (pa_cons (pv 0) (pa_cons (pv 1) pa_nil))) pa_nil)))),?_⟩
 refine⟨_,rfl,_,rfl,N,k,rfl,N9,kN,fun l H1 s1 tl=>?_⟩
 refine⟨l,N,k,rfl,N9,kN,tl,fun r bl zs H2 s2 hr0 told h2 ns=>q r bl zs H2 (s1.trans s2) ?_ told h2 ns⟩
 cases e:H r with
 |none=>rfl
 |some o=>rw[s1 _ _ e]at hr0;cases hr0
end
end K84
namespace K84
open L2
abbrev Ok (ns:List Int)(k:Nat):Prop:=BB.Rw ns k (-4000000000) 4000000000∧k≤12
def spCarry:Sp:=fun vs H Q _=>∃(a:Addr) (ns:List Int) (k z:Nat),vs=[.ref a,.int (z:Int)]∧H a=some (.tup (ns.map V.int))∧Ok ns k∧
 ∀(r p:Addr) (H':Hp),Same H H'→H' r=some (.tup ((BB.step z ns).map V.int))→H' p=some (.tup [.ref r,.int ((BB.taken z ns:Nat):Int)])→Q (.ref p) H'
def spCar:Sp:=fun vs H Q _=>∃(a:Addr) (ns:List Int) (k:Nat),vs=[.ref a]∧H a=some (.tup (ns.map V.int))∧Ok ns k∧
 ∀(r:Addr) (H':Hp),Same H H'→H' r=some (.tup ((BB.step k ns).map V.int))→Q (.ref r) H'
theorem map_ints (ns:List Int)(h:Int→Int):(List.range ns.length).map (fun i=>V.int (h (ns.getD i 0)))=(ns.map h).map V.int:=by
 apply ext_getElem?
 intro i
 rw[List.getElem?_map,List.getElem?_map,List.getElem?_map]
 by_cases c:i<ns.length
 ·rw[getElem?_range c,List.getElem?_eq_getElem c]
  show some (V.int (h (ns.getD i 0)))=some (V.int (h ns[i]))
  rw[getD_eq_getElem?_getD,List.getElem?_eq_getElem c]
  rfl
 ·rw[List.getElem?_eq_none (by simpa using c),List.getElem?_eq_none (by omega)]
  rfl
theorem head_rd {K:W.Frag}{a:Addr}{ns:List Int}{H:Hp}{σ:L2.St}{Q:VK}(h0:σ[0]?=some (some (.ref a)))(ha:H a=some (.tup (ns.map V.int)))(q:Q (.int (ns.headD 0)) H) :
 tIf (fun σ H Q=>tVar 0 σ H fun x H'=>∃k,TruV K x H' k∧Q k H') (tOp (rIxT K) (tVar 0) (tC (.int 0))) (tC (.int 0)) σ H Q:=by
 refine⟨_,h0,!(ns.map V.int).isEmpty,.inr (.inl ⟨_,SqT.of ha,rfl⟩),?_⟩
 cases ns with
 |nil=>exact iteF q
 |cons p r=>exact iteT ⟨_,h0,a,_,_,_,rfl,rfl,SqT.of ha,(show atI ((p::r).map V.int) ((0:Nat):Int)=some (.int p) from atI_nat rfl),q⟩
section
variable {P:Program}{w:World}{K:W.Frag}{mg:Str→Option Value}{base:Heap}
theorem ok_carry {f:Addr}{fd:FuncData}(F:Fun K "carry" "carry" s_carry f fd)(nb:Nb2 mg)   :
 FnOk P w K mg base CX0 1 f fd ["row","size"] spCarry:=by
 have nd:=sc_carry.nd
 refine F.ok (k:=0) sc_carry (fun vs H Q E h=>?_) (fun cdv A outer s H vs Q E hr h=>?_)
 ·obtain⟨a,ns,k,z,rfl,_⟩:=h
  rfl
 obtain⟨a,ns,k,z,rfl,ha,ok,q⟩:=h
 refine⟨_,(pss_cons (ps_set (i:=2) nd rfl (Or.inl rfl) (pe_lst pa_nil))
(pss_cons (ps_set (i:=3) nd rfl (Or.inl rfl) pe_int)
(pss_cons (ps_set (i:=4) nd rfl (Or.inl rfl) pe_int)
(pss_cons (ps_set (i:=5) nd rfl (Or.inl rfl) (pe_ifExp (pt_truth (pv 0) (fun _=>rfl)) (pe_ix ix_tup (pv 0) pe_int (fun _ _=>rfl)) pe_int))
(pss_cons (ps_for PassesOwn.never rfl (pi_tup (pv 0)) (pg_name (i:=6) nd rfl (Or.inl rfl))
(pss_cons (ps_set (i:=7) nd rfl (Or.inl rfl) (pe_callB (call_min2 rfl) rfl nb.min boot_min (pa_cons (pv 3) (pa_cons (pe_op op_sub (pv 6) (pv 5)) pa_nil))))
(pss_cons (ps_expr (pe_bm PySem.F.plainAttrs_list PySem.F.slot_list_extend PySem.F.type_list_extend mt_extend (pv 2) (pa_cons (pe_callTy (call_list_rng rfl) rfl nb.list boot_list (pa_cons (pe_callTy call_rng2 rfl nb.range boot_range (pa_cons (pv 5) (pa_cons (pe_op op_add (pv 5) (pv 7)) pa_nil))) pa_nil)) pa_nil)))
(pss_cons (ps_aug (i:=3) nd rfl (Or.inl rfl) (pv 7) ip_sub)
(pss_cons (ps_if (pt_cmpR op_lt (pv 3) (pv 1) (nomark _))
(pss_cons (ps_aug (i:=3) nd rfl (Or.inl rfl) pe_int ip_add)
(pss_one (ps_aug (i:=4) nd rfl (Or.inl rfl) pe_int ip_add)))
(pss_one (ps_expr (pe_bm PySem.F.plainAttrs_list PySem.F.slot_list_append PySem.F.type_list_append mt_append (pv 2) (pa_cons (pv 6) pa_nil)))))
(pss_one (ps_set (i:=5) nd rfl (Or.inl rfl) (pe_op op_add (pv 6) pe_int))))))))
(pss_cons (ps_expr (pe_bm PySem.F.plainAttrs_list PySem.F.slot_list_extend PySem.F.type_list_extend mt_extend (pv 2) (pa_cons (pe_callTy (call_list_rng rfl) rfl nb.list boot_list (pa_cons (pe_callTy call_rng2 rfl nb.range boot_range (pa_cons (pv 5) (pa_cons (pe_op op_add (pv 5) (pv 3)) pa_nil))) pa_nil)) pa_nil)))
(pss_one (ps_ret (pe_tup (pa_cons (pe_callTy call_tuple_of rfl nb.tuple boot_tuple (pa_cons (pv 2) pa_nil)) (pa_cons (pv 4) pa_nil))))))))))),?_⟩
 obtain⟨rw_,k12⟩:=ok
 refine⟨(by show 0≤sizeLine;decide),fun f hf=>?_⟩
 have s1:=same_new hf (.lst [])
 refine head_rd (K:=K) rfl (s1 _ _ ha) ?_
 have hb0:-4000000000≤ns.headD 0∧ns.headD 0≤4000000000∧∀p∈ns,ns.headD 0≤p:=by
  cases ns with
  |nil=>exact⟨by decide,by decide,fun p hp=>by cases hp⟩
  |cons p r=>
   have:=rw_.bd p (mem_cons_self ..)
   refine⟨this.1,this.2,fun x hx=>?_⟩
   rcases mem_cons.mp hx with rfl | hx
   ·exact Int.le_refl _
   ·exact Int.le_of_lt ((pairwise_cons.mp rw_.up).1 x hx)
 refine⟨_,rfl,a,rfl,⟨_,SqT.of (s1 _ _ ha)⟩,?_⟩
 refine for_tup (xs:=ns.map V.int) (fun i σ H'=>∃(bh:List Int) (L:Nat) (l t box:Int) (o6 o7:Option V),σ=[some (.ref a),some (.int (z:Int)),some (.ref f),some (.int l),some (.int t),some (.int box),o6,o7]∧l=(L:Int)∧Same H H'∧H' f=some (.lst (bh.map V.int))∧
  bh++BB.sp z L box (ns.drop i)=BB.step z ns∧(∃tn:Nat,t=(tn:Int)∧tn+BB.tkn z L box (ns.drop i)=BB.taken z ns)∧bh.length+L=i∧(∀p∈ns.drop i,box≤p)∧-4000000000≤box∧box≤4000000001) ?_ (fun i σ H' _ hp=>?_) (fun i x σ H' hxi hp=>?_) (fun σ H' hp=>?_)
 ·exact⟨[],0,_,_,_,_,_,rfl,rfl,s1,upd_same,rfl,⟨0,rfl,Nat.zero_add _⟩,rfl,hb0.2.2,hb0.1,by omega⟩
 ·obtain⟨bh,L,l,t,box,o6,o7,rfl,el,sm,hfh,_⟩:=hp
  exact SqT.of (sm _ _ ha)
 ·obtain⟨bh,L,l,t,box,o6,o7,rfl,el,sm,hfh,eq,⟨tn,et,tq⟩,cnt,ge,b1,b2⟩:=hp
  have hil:i<ns.length:=by
   have:=(List.getElem?_eq_some_iff.mp hxi).1
   simpa using this
  have k1:=rw_.len
  obtain⟨p,rfl,ep⟩:=int_at hxi
  have edr:ns.drop i=p::ns.drop (i+1):=by
   rw[drop_eq_getElem_cons hil]
   have:ns[i]=p:=by rw[←ep,getD_eq_getElem?_getD,List.getElem?_eq_getElem hil];rfl
   rw[this]
  have hbp:box≤p:=ge p (by rw[edr];exact mem_cons_self ..)
  have pb:=rw_.bd p (mem_of_mem_drop (by rw[edr];exact mem_cons_self .. : p∈ns.drop i))
  rw[edr]at eq tq
  unfold BB.sp at eq
  unfold BB.tkn at tq
  have em:(if p - box<l then p - box else l)=((min L (p - box).toNat:Nat):Int):=by
   rw[el]
   exact BB.load_gap (Int.sub_nonneg_of_le hbp)
  generalize hm:min L (p - box).toNat=m at eq em tq
  refine⟨_,rfl,_,rfl,_,rfl,_,_,rfl,rfl,_,_,rfl,?_⟩
  refine⟨_,rfl,.inl ⟨rfl,_,SqL.of hfh⟩,_,rfl,_,rfl,_,rfl,_,_,rfl,rfl,_,_,rfl,fun p1 hp1=>?_⟩
  refine⟨p1,_,_,rfl,upd_same,⟨by omega,by omega,by omega,by omega⟩,by rw[sizeLine_eq];omega,fun l1 hl1=>?_⟩
  rw[em]at hl1 ⊢
  have en:(box+(m:Int) - box).toNat=m:=by omega
  rw[en]
  have s3:=(same_new hp1 (.rng box (box+(m:Int)))).trans (same_new hl1 (.lst ((ups box m).map V.int)))
  have hl1':(upd (upd H' p1 (.rng box (box+(m:Int)))) l1 (.lst ((ups box m).map V.int))) l1=some (.lst ((ups box m).map V.int)):=upd_same
  have hf1:=s3 _ _ hfh
  have sm3:=sm.trans s3
  generalize upd (upd H' p1 (.rng box (box+(m:Int)))) l1 (.lst ((ups box m).map V.int))=H3 at s3 hl1' hf1 sm3 ⊢
  have lup:(ups box m).length=m:=ups_length ..
  have mle:m≤L:=by omega
  refine⟨f,l1,_,_,rfl,rfl,hf1,hl1',by rw[length_map,length_map,lup,sizeLine_eq];omega,?_⟩
  have hf4:(upd H3 f (.lst (bh.map V.int++(ups box m).map V.int))) f=some (.lst ((bh++ups box m).map V.int)):=by rw[upd_same,map_append]
  have sm4:Same H (upd H3 f (.lst (bh.map V.int++(ups box m).map V.int))):=fun b o hb=>by rw[upd_ne (ne_of_none hb hf)];exact sm3 b o hb
  generalize upd H3 f (.lst (bh.map V.int++(ups box m).map V.int))=H4 at hf4 sm4 ⊢
  refine⟨_,rfl,_,rfl,_,_,rfl,rfl,?_⟩
  have ll:l - (m:Int)=((L - m:Nat):Int):=by omega
  refine⟨_,rfl,_,rfl,_,_,rfl,rfl,_,rfl,?_⟩
  have nge:∀x∈ns.drop (i+1),p+1≤x:=fun x hx=>by
   have up2:(p::ns.drop (i+1)).Pairwise (· < ·):=by rw[←edr];exact rw_.up.sublist (List.drop_sublist ..)
   have:=(pairwise_cons.mp up2).1 x hx
   omega
  refine ite2 (fun c=>?_) (fun c=>?_)
  ·have c':l - (m:Int)<(z:Int):=of_decide_eq_true c
   rw[if_pos (by omega),←List.append_assoc]at eq
   rw[if_pos (by omega)]at tq
   refine⟨_,rfl,_,_,rfl,rfl,_,rfl,_,_,rfl,rfl,_,rfl,_,_,rfl,rfl,?_⟩
   exact⟨bh++ups box m,L - m+1,_,_,_,_,_,rfl,(by show l - (m:Int)+1=_;omega),sm4,hf4,eq,⟨tn+1,(by show t+1=_;omega),by omega⟩,by rw[length_append,lup];omega,nge,(by show _≤p+1;omega),(by show p+1≤_;omega)⟩
  ·have c':¬l - (m:Int)<(z:Int):=of_decide_eq_false (eq_false_iff.mpr c)
   rw[if_neg (by omega),←List.append_assoc]at eq
   rw[if_neg (by omega)]at tq
   refine⟨_,rfl,.inl ⟨rfl,_,SqL.of hf4⟩,_,rfl,f,_,_,rfl,rfl,hf4,by rw[length_map,length_append,lup,sizeLine_eq];omega,?_⟩
   have hf5:(upd H4 f (.lst ((bh++ups box m).map V.int++[.int p]))) f=some (.lst ((bh++ups box m++[p]).map V.int)):=by rw[upd_same,map_append (l₂:=[p])];rfl
   have sm5:Same H (upd H4 f (.lst ((bh++ups box m).map V.int++[.int p]))):=fun b o hb=>by rw[upd_ne (ne_of_none hb hf)];exact sm4 b o hb
   refine⟨_,rfl,_,_,rfl,rfl,?_⟩
   exact⟨bh++ups box m++[p],L - m,_,_,_,_,_,rfl,ll,sm5,hf5,by rw[List.append_assoc];exact eq,⟨tn,et,tq⟩,by rw[length_append,length_append,lup,length_singleton];omega,nge,(by show _≤p+1;omega),(by show p+1≤_;omega)⟩
 ·obtain⟨bh,L,l,t,box,o6,o7,rfl,el,sm,hfh,eq,⟨tn,et,tq⟩,cnt,ge,b1,b2⟩:=hp
  rw[length_map]at cnt eq tq
  rw[List.drop_length]at eq tq
  have tq':tn=BB.taken z ns:=tq
  have et':t=((BB.taken z ns:Nat):Int):=by rw[et,tq']
  subst et'
  have k1:=rw_.len
  have eq':bh++ups box L=BB.step z ns:=eq
  refine⟨_,rfl,.inl ⟨rfl,_,SqL.of hfh⟩,_,rfl,_,rfl,_,rfl,_,_,rfl,rfl,_,_,rfl,fun p1 hp1=>?_⟩
  refine⟨p1,_,_,rfl,upd_same,⟨by omega,by omega,by omega,by omega⟩,by rw[sizeLine_eq];omega,fun l1 hl1=>?_⟩
  have en:(box+l - box).toNat=L:=by omega
  rw[en]
  have s3:=(same_new hp1 (.rng box (box+l))).trans (same_new hl1 (.lst ((ups box L).map V.int)))
  have hl1':(upd (upd H' p1 (.rng box (box+l))) l1 (.lst ((ups box L).map V.int))) l1=some (.lst ((ups box L).map V.int)):=upd_same
  have hf1:=s3 _ _ hfh
  have sm3:=sm.trans s3
  generalize upd (upd H' p1 (.rng box (box+l))) l1 (.lst ((ups box L).map V.int))=H3 at s3 hl1' hf1 sm3 ⊢
  have lup:(ups box L).length=L:=ups_length ..
  refine⟨f,l1,_,_,rfl,rfl,hf1,hl1',by rw[length_map,length_map,lup,sizeLine_eq];omega,?_⟩
  have hf4:(upd H3 f (.lst (bh.map V.int++(ups box L).map V.int))) f=some (.lst ((BB.step z ns).map V.int)):=by rw[upd_same,←eq',map_append]
  have sm4:Same H (upd H3 f (.lst (bh.map V.int++(ups box L).map V.int))):=fun b o hb=>by rw[upd_ne (ne_of_none hb hf)];exact sm3 b o hb
  generalize upd H3 f (.lst (bh.map V.int++(ups box L).map V.int))=H4 at hf4 sm4 ⊢
  refine⟨_,rfl,f,_,rfl,.inl ⟨SqL.of hf4,fun l2 hl2=>?_⟩⟩
  refine⟨_,rfl,(by show 2≤sizeLine;decide),fun p2 hp2=>?_⟩
  have s5:=same_new hl2 (.tup ((BB.step z ns).map V.int))
  have s6:=same_new hp2 (.tup [.ref l2,.int ((BB.taken z ns:Nat):Int)])
  exact q l2 p2 _ (sm4.trans (s5.trans s6)) (s6 _ _ upd_same) upd_same
theorem ok_carried {f:Addr}{fd:FuncData}(F:Fun K "carried" "carried" s_carried f fd)(nb:Nb2 mg)(h_carry:Has P w K mg base 1 "carry" ["row","size"] spCarry)  :
 FnOk P w K mg base CX0 2 f fd ["row"] spCar:=by
 have nd:=sc_carried.nd
 refine F.ok (k:=1) sc_carried (fun vs H Q E h=>?_) (fun cdv A outer s H vs Q E hr h=>?_)
 ·obtain⟨a,ns,k,rfl,_⟩:=h
  rfl
 obtain⟨a,ns,k,rfl,ha,ok,q⟩:=h
 refine⟨_,(pss_cons (ps_asg (pe_def h_carry hr (pa_cons (pv 0) (pa_cons (pe_callB call_len_seq rfl nb.len PySem.boot_len (pa_cons (pv 0) pa_nil)) pa_nil))) (pg_tup rfl (pgs_cons (pg_name (i:=1) nd rfl (Or.inl rfl)) (pgs_cons (pg_name (i:=2) nd rfl (Or.inl rfl)) pgs_nil))))
(pss_one (ps_ret (pv 1)))),?_⟩
 have hl:(ns.map V.int).length=k:=by rw[length_map];exact ok.1.len
 refine⟨_,rfl,_,rfl,a,_,rfl,.inr (SqT.of ha),a,ns,k,k,?_,ha,ok,fun r2 p2 H2 s2 h2 h2'=>?_⟩
 ·rw[hl];rfl
 refine⟨p2,_,rfl,SqT.of h2',rfl,_,_,rfl,_,_,rfl,rfl,?_⟩
 exact⟨_,rfl,q r2 H2 s2 h2⟩
end
end K84
namespace K84
open L2
open BB (lens outs)
theorem at_mem {xs:List V}{k:Int}(h0:0≤k)(h1:k<(xs.length:Int)):∃u,atI xs k=some u∧u∈xs∧xs[k.toNat]?=some u:=by
 have hk:k.toNat<xs.length:=by omega
 have ek:((k.toNat:Nat):Int)=k:=by omega
 have q:atI xs ((k.toNat:Nat):Int)=some xs[k.toNat]:=atI_nat (List.getElem?_eq_getElem hk)
 rw[ek]at q
 exact⟨xs[k.toNat],q,getElem_mem hk,List.getElem?_eq_getElem hk⟩
theorem Keep.refl (a:Addr)(H:Hp):Keep a H H:=fun _ _ _ h=>h
theorem Keep.trans {a:Addr}{H H1 H2:Hp}(k:Keep a H H1)(k':Keep a H1 H2):Keep a H H2:=fun c o n h=>k' c o n (k c o n h)
theorem Keep.same {a:Addr}{H H1 H2:Hp}(k:Keep a H H1)(s:Same H1 H2):Keep a H H2:=fun c o n h=>s c o (k c o n h)
theorem keep_upd (a:Addr)(H:Hp)(o:HO):Keep a H (upd H a o):=fun c u n h=>by rw[upd_ne n];exact h
theorem StAt.same {H H':Hp}{a:Addr}{x:Int}{b:Bool}(h:StAt H a x b)(s:Same H H'):StAt H' a x b:=⟨s _ _ h.1,h.2⟩
theorem StAt.upd {H:Hp}{a:Addr}{x':Int}{b:Bool}(d:Dok x' b):StAt (L2.upd H a (.lst [.int x',.bl b])) a x' b:=⟨upd_same,d⟩
def tks (k:Nat)(ns:List Int):List Int:=(List.range k).map fun(i:Nat)=>((BB.taken (i+1) ns:Nat):Int)
def spTks:Sp:=fun vs H Q _=>∃(a:Addr) (ns:List Int) (k:Nat),vs=[.ref a]∧H a=some (.tup (ns.map V.int))∧Ok ns k∧
 ∀(r:Addr) (H':Hp),Same H H'→H' r=some (.lst ((tks k ns).map V.int))→Q (.ref r) H'
def spOm:Sp:=fun vs H Q _=>∃(a b:Addr) (r1 r2:List Int),vs=[.ref a,.ref b]∧H a=some (.tup (r1.map V.int))∧H b=some (.tup (r2.map V.int))∧r1.length≤12∧r2.length≤12∧
 ∀(H':Hp),Same H H'→Q (.bl (decide (lens (outs r1.length r1)=lens (outs r2.length r2)))) H'
structure SI (a:Addr)(b:Bool)(H0 H:Hp):Prop where
 st:∃x,StAt H a x b
 kp:Keep a H0 H
theorem SI.same {a:Addr}{b:Bool}{H0 H H':Hp}(r:SI a b H0 H)(s:Same H H'):SI a b H0 H':=by
 obtain⟨x,hx⟩:=r.st
 exact⟨⟨x,hx.same s⟩,r.kp.same s⟩
theorem SI.take {a:Addr}{b:Bool}{H0 H:Hp}{x':Int}(r:SI a b H0 H)(d:Dok x' b):SI a b H0 (upd H a (.lst [.int x',.bl b])):=⟨⟨x',StAt.upd d⟩,r.kp.trans (keep_upd a H _)⟩
theorem SI.new {a:Addr}{b:Bool}{H0 H:Hp}(r:SI a b H0 H){p:Addr}(hp:H p=none):p≠a:=fun e=>by
 obtain⟨x,hx⟩:=r.st
 rw[e,hx.1]at hp;cases hp
section
variable {P:Program}{w:World}{K:W.Frag}{mg:Str→Option Value}{base:Heap}
theorem ok_takings {f:Addr}{fd:FuncData}(F:Fun K "takings" "takings" s_takings f fd)(nb:Nb3 mg)(h_carry:Has P w K mg base 1 "carry" ["row","size"] spCarry)  :
 FnOk P w K mg base CX0 2 f fd ["row"] spTks:=by
 have nd:=sc_takings.nd
 refine F.ok (k:=1) sc_takings (fun vs H Q E h=>?_) (fun cdv A outer s H vs Q E hr h=>?_)
 ·obtain⟨a,ns,k,rfl,_⟩:=h
  rfl
 obtain⟨a,ns,k,rfl,ha,ok,q⟩:=h
 refine⟨_,(pss_cons (ps_set (i:=1) nd rfl (Or.inl rfl) (pe_lst pa_nil))
(pss_cons (ps_for PassesOwn.never rfl (pi_range2 rfl nb.range (pa_cons pe_int (pa_cons (pe_op op_add (pe_callB call_len_seq rfl nb.len PySem.boot_len (pa_cons (pv 0) pa_nil)) pe_int) pa_nil))) (pg_name (i:=2) nd rfl (Or.inl rfl))
(pss_cons (ps_asg (pe_def h_carry hr (pa_cons (pv 0) (pa_cons (pv 2) pa_nil))) (pg_tup rfl (pgs_cons (pg_name (i:=3) nd rfl (Or.inl rfl)) (pgs_cons (pg_name (i:=4) nd rfl (Or.inl rfl)) pgs_nil))))
(pss_one (ps_expr (pe_bm PySem.F.plainAttrs_list PySem.F.slot_list_append PySem.F.type_list_append mt_append (pv 1) (pa_cons (pv 4) pa_nil))))))
(pss_one (ps_ret (pv 1))))),?_⟩
 obtain⟨rw_,k12⟩:=ok
 have kl:=rw_.len
 refine⟨(by show 0≤sizeLine;decide),fun D hD=>?_⟩
 have s1:=same_new hD (.lst [])
 refine⟨_,rfl,a,_,rfl,.inr (SqT.of (s1 _ _ ha)),_,_,rfl,rfl,1,_,rfl,⟨by decide,by decide,by rw[length_map];omega,by rw[length_map];omega⟩,?_⟩
 rw[show((((ns.map V.int).length:Int)+1 - 1).toNat)=k by rw[length_map];omega]
 refine for_range (fun i σ H'=>∃o2 o3 o4,σ=[some (.ref a),some (.ref D),o2,o3,o4]∧Same H H'∧H' D=some (.lst ((tks i ns).map V.int))) ⟨_,_,_,rfl,s1,upd_same⟩ (fun i σ H' hi hp=>?_) (fun σ H' hp=>?_)
 ·obtain⟨o2,o3,o4,rfl,sm,hd⟩:=hp
  refine⟨_,rfl,_,rfl,a,ns,k,i+1,?_,sm _ _ ha,⟨rw_,k12⟩,fun r2 p2 H2 s2 h2 h2'=>?_⟩
  ·rw[show((i+1:Nat):Int)=1+(i:Int) by omega];rfl
  refine⟨p2,_,rfl,SqT.of h2',rfl,_,_,rfl,_,_,rfl,rfl,?_⟩
  have hd2:=s2 _ _ hd
  refine⟨_,rfl,.inl ⟨rfl,_,SqL.of hd2⟩,_,rfl,D,_,_,rfl,rfl,hd2,by unfold tks;rw[length_map,length_map,length_range,sizeLine_eq];omega,?_⟩
  refine⟨_,_,_,rfl,fun c o hc=>by rw[upd_ne (ne_of_none hc hD)];exact s2 _ _ (sm c o hc),?_⟩
  rw[upd_same]
  unfold tks
  rw[range_succ,map_append,map_append]
  rfl
 ·obtain⟨o2,o3,o4,rfl,sm,hd⟩:=hp
  exact⟨_,rfl,q D H' sm hd⟩
theorem ok_one_making {f:Addr}{fd:FuncData}(F:Fun K "one_making" "one_making" s_one_making f fd)(nb:Nb3 mg)(h_lengths:Has P w K mg base 3 "lengths" ["row"] spLen)  :
 FnOk P w K mg base CX0 4 f fd ["one","other"] spOm:=by
 have nd:=sc_one_making.nd
 refine F.ok (k:=3) sc_one_making (fun vs H Q E h=>?_) (fun cdv A outer s H vs Q E hr h=>?_)
 ·obtain⟨a,b,r1,r2,rfl,_⟩:=h
  rfl
 obtain⟨a,b,r1,r2,rfl,ha,hb,l1,l2,q⟩:=h
 refine⟨_,(pss_one (ps_ret (pe_cmpR (op_eqT hr.units0) (pe_def h_lengths hr (pa_cons (pv 0) pa_nil)) (pe_def h_lengths hr (pa_cons (pv 1) pa_nil)) (nomark _)))),?_⟩
 refine⟨_,rfl,a,r1,rfl,ha,l1,fun x1 H1 s1 h1=>?_⟩
 refine⟨_,rfl,b,r2,rfl,s1 _ _ hb,l2,fun x2 H2 s2 h2=>?_⟩
 exact⟨x1,x2,_,_,rfl,rfl,SqT.of (s2 _ _ h1),SqT.of h2,q H2 (s1.trans s2)⟩
end
end K84
namespace K84
open L2
theorem firsts_of {row:List Int}(up:row.Pairwise (· < ·)):(row.filter fun p=>decide (p - 1∉row))=(BB.blk row).map (·.1):=by
 cases row with
 |nil=>rfl
 |cons b r=>
  have u:=pairwise_cons.mp up
  exact BB.blk_firsts u.2 b u.1
theorem lasts_of {row:List Int}(up:row.Pairwise (· < ·)):(row.filter fun p=>decide (p+1∉row))=(BB.blk row).map fun q=>q.1+q.2 - 1:=by
 cases row with
 |nil=>rfl
 |cons b r=>
  have u:=pairwise_cons.mp up
  exact BB.blk_lasts u.2 b u.1
theorem blk_len:∀row:List Int,(BB.blk row).length≤row.length
 |[]=>Nat.le_refl _
 |p::r=>by
  have ih:=blk_len r
  unfold BB.blk
  split
  ·simp
  ·rename_i e
   rw[e]at ih
   split<;>simp only[length_cons]at ih ⊢<;>omega
def Tps (H:Hp)(ys:List V)(bl:List (Int×Int)):Prop:=ys.length=bl.length∧∀(j:Nat) (b:Int×Int),bl[j]?=some b→∃p,ys[j]?=some (.ref p)∧H p=some (.tup [.int b.1,.int b.2])
theorem Tps.same {H H':Hp}{ys:List V}{bl:List (Int×Int)}(t:Tps H ys bl)(s:Same H H'):Tps H' ys bl:=⟨t.1,fun j b e=>let⟨p,a,c⟩:=t.2 j b e;⟨p,a,s _ _ c⟩⟩
def spBin:Sp:=fun vs H Q _=>∃(a:Addr) (row:List Int),vs=[.ref a]∧H a=some (.tup (row.map V.int))∧row.Pairwise (· < ·)∧row.length≤12∧
 ∀(r:Addr) (ys:List V) (H':Hp),Same H H'→H' r=some (.lst ys)→Tps H' ys (BB.blk row)→Q (.ref r) H'
section
variable {P:Program}{w:World}{K:W.Frag}{mg:Str→Option Value}{base:Heap}
theorem ok_blocks_in {f:Addr}{fd:FuncData}(F:Fun K "blocks_in" "blocks_in" s_blocks_in f fd)(nb:Nb2 mg)   :
 FnOk P w K mg base CX0 1 f fd ["row"] spBin:=by
 have nd:=sc_blocks_in.nd
 refine F.ok (k:=0) sc_blocks_in (fun vs H Q E h=>?_) (fun cdv A outer s H vs Q E hr h=>?_)
 ·obtain⟨a,row,rfl,_⟩:=h
  rfl
 obtain⟨a,row,rfl,ha,up,r12,q⟩:=h
 refine⟨_,(pss_cons (ps_comp1 (ii:=1) nd rfl (Or.inl rfl) (sc:=defScope s_blocks_in) (N0:=["row","firsts","lasts"]) (N:=["row"]) (js:=[0]) rfl rfl rfl (by exact⟨rfl,by decide +kernel,by decide +kernel,by decide +kernel,rfl,rfl,by decide,by decide +kernel,by decide +kernel⟩) rfl
(pi_tup (pv 0))
(fun _ _ _ _ _=>by exact(pts_one (pt_cmpR (op_notInK K rfl) (pe_op op_sub (pv 0) pe_int) (pv 1) rfl)))
(fun _ _ _ _ _=>by exact(pv 0)))
(pss_cons (ps_comp1 (ii:=2) nd rfl (Or.inl rfl) (sc:=defScope s_blocks_in) (N0:=["row","firsts","lasts"]) (N:=["row"]) (js:=[0]) rfl rfl rfl (by exact⟨rfl,by decide +kernel,by decide +kernel,by decide +kernel,rfl,rfl,by decide,by decide +kernel,by decide +kernel⟩) rfl
(pi_tup (pv 0))
(fun _ _ _ _ _=>by exact(pts_one (pt_cmpR (op_notInK K rfl) (pe_op op_add (pv 0) pe_int) (pv 1) rfl)))
(fun _ _ _ _ _=>by exact(pv 0)))
(pss_one (ps_ret (pe_comp2 (sc:=defScope s_blocks_in) (N0:=["row","firsts","lasts"]) (N:=[]) (js:=[]) rfl rfl rfl (by exact⟨rfl,by decide +kernel,by decide +kernel,by decide +kernel,rfl,rfl,by decide,by decide +kernel,by decide +kernel⟩) rfl rfl
(pi_zip false rfl nb.zip (pa_cons (pv 1) (pa_cons (pv 2) pa_nil)))
(fun _ _ _ _ _=>by exact pts_nil)
(fun _ _ _ _ _=>by exact(pe_tup (pa_cons (pv 0) (pa_cons (pe_op op_add (pe_op op_sub (pv 1) (pv 0)) pe_int) pa_nil))))))))),?_⟩
 refine⟨_,rfl,a,rfl,⟨_,SqT.of (ha)⟩,fun D1 hD1=>?_⟩
 refine comp_sel (row.map V.int).length (by rw[length_map,sizeLine_eq];omega) (fun i=>decide (row.getD i 0 - 1∉row)) (fun i=>.int (row.getD i 0)) (fun σ=>∃o1,σ=[o1,some (.ref a)]) _ hD1 (by exact⟨_,rfl⟩) (items_tup (ha)) (fun i x σ' H2 hi s2 im hσ R S hR hS=>?_) (fun H1 s1 hD1=>?_)
 ·obtain⟨o1,rfl⟩:=hσ
  obtain rfl:=num_at im
  refine⟨_,rfl,_,_,rfl,rfl,_,rfl,a,_,rfl,.inr (SqT.of (s2 _ _ (ha))),rfl,flat_nums row,_,rfl,?_⟩
  rw[in_nums,if_pos rfl]
  by_cases m:row.getD i 0 - 1∈row
  ·rw[decide_eq_true m]
   exact iteF (hS (decide_eq_false fun z=>z m) _ _ ⟨_,rfl⟩ (Same.refl _))
  ·rw[decide_eq_false m]
   exact iteT ⟨_,rfl,hR (decide_eq_true m) _ _ _ ⟨_,rfl⟩ (Same.refl _) rfl⟩
 rw[length_map,BB.sel_list 0 row (fun p=>decide (p - 1∉row)) V.int]at hD1
 have hF:H1 D1=some (.lst (((BB.blk row).map (·.1)).map V.int)):=by rw[←firsts_of up];exact hD1
 refine⟨_,rfl,a,rfl,⟨_,SqT.of (s1 _ _ ha)⟩,fun D2 hD2=>?_⟩
 refine comp_sel (row.map V.int).length (by rw[length_map,sizeLine_eq];omega) (fun i=>decide (row.getD i 0+1∉row)) (fun i=>.int (row.getD i 0)) (fun σ=>∃o1,σ=[o1,some (.ref a)]) _ hD2 (by exact⟨_,rfl⟩) (items_tup (s1 _ _ ha)) (fun i x σ' H2 hi s2 im hσ R S hR hS=>?_) (fun H3 s3 hD3=>?_)
 ·obtain⟨o1,rfl⟩:=hσ
  obtain rfl:=num_at im
  refine⟨_,rfl,_,_,rfl,rfl,_,rfl,a,_,rfl,.inr (SqT.of (s2 _ _ (s1 _ _ ha))),rfl,flat_nums row,_,rfl,?_⟩
  rw[in_nums,if_pos rfl]
  by_cases m:row.getD i 0+1∈row
  ·rw[decide_eq_true m]
   exact iteF (hS (decide_eq_false fun z=>z m) _ _ ⟨_,rfl⟩ (Same.refl _))
  ·rw[decide_eq_false m]
   exact iteT ⟨_,rfl,hR (decide_eq_true m) _ _ _ ⟨_,rfl⟩ (Same.refl _) rfl⟩
 rw[length_map,BB.sel_list 0 row (fun p=>decide (p+1∉row)) V.int]at hD3
 have hL:H3 D2=some (.lst (((BB.blk row).map fun q=>q.1+q.2 - 1).map V.int)):=by rw[←lasts_of up];exact hD3
 have hF3:=s3 _ _ hF
 have bl:=blk_len row
 refine⟨_,rfl,_,rfl,D1,D2,_,_,rfl,SqL.of hF3,SqL.of hL,fun D hD=>?_⟩
 have im:=items_zipL (K:=K) hF3 hL
 have hn:min (((BB.blk row).map (·.1)).map V.int).length (((BB.blk row).map fun q=>q.1+q.2 - 1).map V.int).length=(BB.blk row).length:=by simp
 rw[hn]at im
 refine comp_tups (BB.blk row).length (by rw[sizeLine_eq];omega) (fun i=>[.int ((BB.blk row).getD i (0,0)).1,.int ((BB.blk row).getD i (0,0)).2]) (fun σ=>∃o1 o2,σ=[o1,o2]) _ hD ⟨_,_,rfl⟩ im (fun i x σ' H4 hi s4 im' hσ R hR=>?_) (fun H' ys s' hD' ly hy=>?_)
 ·obtain⟨o1,o2,rfl⟩:=hσ
  obtain⟨r,y,z,rfl,hr',hy,hz'⟩:=im'
  rw[List.getElem?_map,List.getElem?_map,List.getElem?_eq_getElem hi]at hy hz'
  obtain rfl:V.int (BB.blk row)[i].1=y:=Option.some.inj hy
  obtain rfl:V.int ((BB.blk row)[i].1+(BB.blk row)[i].2 - 1)=z:=Option.some.inj hz'
  refine⟨r,_,rfl,SqT.of hr',rfl,_,_,rfl,_,_,rfl,rfl,?_⟩
  refine⟨_,rfl,_,rfl,_,rfl,_,_,rfl,rfl,_,_,rfl,rfl,(by show 2≤sizeLine;decide),fun p hp=>?_⟩
  refine hR _ p _ ⟨_,_,rfl⟩ (same_new hp _) ?_
  rw[upd_same,getD_eq_getElem?_getD,List.getElem?_eq_getElem hi]
  show some (HO.tup [V.int (BB.blk row)[i].1,V.int ((BB.blk row)[i].1+(BB.blk row)[i].2 - 1 - (BB.blk row)[i].1+1)])=some (HO.tup [V.int (BB.blk row)[i].1,V.int (BB.blk row)[i].2])
  rw[show(BB.blk row)[i].1+(BB.blk row)[i].2 - 1 - (BB.blk row)[i].1+1=(BB.blk row)[i].2 by omega]
 ·refine q D ys H' (s1.trans (s3.trans s')) hD' ⟨ly,fun j b e=>?_⟩
  have jl:j<ys.length:=by rw[ly];exact(List.getElem?_eq_some_iff.mp e).1
  obtain⟨p,e1,e2⟩:=hy j _ (List.getElem?_eq_getElem jl)
  refine⟨p,by rw[List.getElem?_eq_getElem jl,e1],?_⟩
  rw[getD_eq_getElem?_getD,e]at e2
  exact e2
end
end K84
namespace K84
open L2
def okP (b c:Int×Int):Bool:=!(decide (c.2<b.2)||decide (c.1 - b.1 - b.2<b.2))
def frB (bl:List (Int×Int)):Bool:=(List.range (bl.length - 1)).all fun i=>okP (bl.getD i (0,0)) (bl.getD (i+1) (0,0))
theorem frB_no {bl:List (Int×Int)}{i:Nat}(hi:i<bl.length - 1)(h:okP (bl.getD i (0,0)) (bl.getD (i+1) (0,0))=false):frB bl=false:=by
 unfold frB
 rw[eq_false_iff]
 intro z
 rw[all_eq_true]at z
 rw[z i (mem_range.mpr hi)]at h
 cases h
theorem frB_yes {bl:List (Int×Int)}(h:∀i,i<bl.length - 1→okP (bl.getD i (0,0)) (bl.getD (i+1) (0,0))=true):frB bl=true:=by
 unfold frB
 rw[all_eq_true]
 exact fun i hi=>h i (mem_range.mp hi)
def spFree:Sp:=fun vs H Q _=>∃(a:Addr) (row:List Int),vs=[.ref a]∧H a=some (.tup (row.map V.int))∧row.Pairwise (· < ·)∧row.length≤12∧∀H',Same H H'→Q (.bl (frB (BB.blk row))) H'
section
variable {P:Program}{w:World}{K:W.Frag}{mg:Str→Option Value}{base:Heap}
theorem ok_is_free {f:Addr}{fd:FuncData}(F:Fun K "is_free" "is_free" s_is_free f fd)(nb:Nb2 mg)(h_blocks_in:Has P w K mg base 1 "blocks_in" ["row"] spBin)  :
 FnOk P w K mg base CX0 2 f fd ["row"] spFree:=by
 have nd:=sc_is_free.nd
 refine F.ok (k:=1) sc_is_free (fun vs H Q E h=>?_) (fun cdv A outer s H vs Q E hr h=>?_)
 ·obtain⟨a,row,rfl,_⟩:=h
  rfl
 obtain⟨a,row,rfl,ha,up,r12,q⟩:=h
 refine⟨_,(pss_cons (ps_set (i:=1) nd rfl (Or.inl rfl) (pe_def h_blocks_in hr (pa_cons (pv 0) pa_nil)))
(pss_cons (ps_for PassesOwn.never rfl (pi_zip false rfl nb.zip (pa_cons (pv 1) (pa_cons (pe_slice sl_list (pv 1) (po_some pe_int) po_none) pa_nil))) (pg_tup rfl (pgs_cons (pg_tup rfl (pgs_cons (pg_name (i:=2) nd rfl (Or.inl rfl)) (pgs_cons (pg_name (i:=3) nd rfl (Or.inl rfl)) pgs_nil))) (pgs_cons (pg_tup rfl (pgs_cons (pg_name (i:=4) nd rfl (Or.inl rfl)) (pgs_cons (pg_name (i:=5) nd rfl (Or.inl rfl)) pgs_nil))) pgs_nil)))
(pss_one (ps_if (PW.pt (pw_or (pt_cmpR op_lt (pv 5) (pv 3) (nomark _)) (pw_or1 (pt_cmpR op_lt (pe_op op_sub (pe_op op_sub (pv 4) (pv 2)) (pv 3)) (pv 3) (nomark _)))))
(pss_one (ps_ret pe_bl))
pss_nil)))
(pss_one (ps_ret pe_bl)))),?_⟩
 refine⟨_,rfl,a,row,rfl,ha,up,r12,fun r ys H1 s1 hr1 tp=>?_⟩
 have bl:=blk_len row
 refine⟨_,rfl,_,rfl,_,rfl,r,ys,rfl,SqL.of hr1,fun p hp=>?_⟩
 have s2:=same_new hp (.lst (cutV ys (some 1) none))
 have hp2:(upd H1 p (.lst (cutV ys (some 1) none))) p=some (.lst (ys.drop 1)):=by rw[upd_same,show((1:Int))=((1:Nat):Int) from rfl,cut_from]
 have hr2:=s2 _ _ hr1
 have tp2:=tp.same s2
 have S2:=s1.trans s2
 refine⟨r,p,_,_,rfl,SqL.of hr2,SqL.of hp2,?_⟩
 generalize upd H1 p (.lst (cutV ys (some 1) none))=H2 at hp2 hr2 tp2 S2 ⊢
 have hn:min ys.length (ys.drop 1).length=(BB.blk row).length - 1:=by rw[length_drop,tp.1];omega
 refine for_items ((BB.blk row).length - 1) (fun i H' x=>∃p x' y',x=.ref p∧H' p=some (.tup [x',y'])∧ys[i]?=some x'∧(ys.drop 1)[i]?=some y')
  (fun i σ H'=>Same H2 H'∧(∀j,j<i→okP ((BB.blk row).getD j (0,0)) ((BB.blk row).getD (j+1) (0,0))=true)∧∃o2 o3 o4 o5,σ=[some (.ref a),some (.ref r),o2,o3,o4,o5])
  ⟨Same.refl _,fun j hj=>by omega,_,_,_,_,rfl⟩ (fun i σ H' hi hp=>?_) (fun i x σ H' H3 hi hp s3 im=>?_) (fun σ H' hp=>?_)
 ·have z:=items_zipL (K:=K) (hp.1 _ _ hr2) (hp.1 _ _ hp2) i H' (Same.refl _)
  rw[hn]at z
  exact z
 ·obtain⟨sm,al,o2,o3,o4,o5,rfl⟩:=hp
  obtain⟨q0,x',y',rfl,hq,hx,hy⟩:=im
  have sm3:=sm.trans s3
  have gb:=List.getElem?_eq_getElem (show i<(BB.blk row).length by omega)
  have gc:=List.getElem?_eq_getElem (show i+1<(BB.blk row).length by omega)
  obtain⟨p1,e1,h1⟩:=tp2.2 i _ gb
  obtain⟨p2,e2,h2⟩:=tp2.2 (i+1) _ gc
  rw[e1]at hx
  cases hx
  rw[getElem?_drop,Nat.add_comm,e2]at hy
  cases hy
  have db:(BB.blk row).getD i (0,0)=(BB.blk row)[i]'(by omega):=by rw[getD_eq_getElem?_getD,gb];rfl
  have dc:(BB.blk row).getD (i+1) (0,0)=(BB.blk row)[i+1]'(by omega):=by rw[getD_eq_getElem?_getD,gc];rfl
  generalize(BB.blk row)[i]'(by omega)=b at h1 db
  generalize(BB.blk row)[i+1]'(by omega)=c at h2 dc
  have bad:okP b c=false→Q (.bl false) H3:=fun z=>by
   have y:=q H3 (S2.trans sm3)
   rw[frB_no (i:=i) hi (by rw[db,dc];exact z)]at y
   exact y
  refine⟨q0,_,rfl,SqT.of hq,rfl,_,_,rfl,p1,_,rfl,SqT.of (sm3 _ _ h1),rfl,_,_,rfl,_,_,rfl,rfl,_,_,rfl,p2,_,rfl,SqT.of (sm3 _ _ h2),rfl,_,_,rfl,_,_,rfl,rfl,rfl,?_⟩
  refine⟨_,rfl,_,rfl,_,_,rfl,rfl,_,rfl,?_⟩
  refine ite2 (fun d1=>?_) (fun d1=>?_)
  ·exact iteT (bad (by unfold okP;rw[d1];rfl))
  ·refine⟨_,rfl,_,rfl,_,_,rfl,rfl,_,rfl,_,_,rfl,rfl,_,rfl,_,_,rfl,rfl,_,rfl,?_⟩
   refine ite2 (fun d2=>?_) (fun d2=>?_)
   ·exact bad (by unfold okP;rw[d2,Bool.or_true];rfl)
   ·refine⟨sm3,fun j hj=>?_,_,_,_,_,rfl⟩
    by_cases z:j=i
    ·subst z
     rw[db,dc]
     unfold okP
     rw[eq_false_iff.mpr d1,eq_false_iff.mpr d2]
     rfl
    ·exact al j (by omega)
 ·obtain⟨sm,al,o2,o3,o4,o5,rfl⟩:=hp
  have y:=q H' (S2.trans sm)
  rw[frB_yes al]at y
  exact y
end
end K84
namespace K84
open L2
structure Far (row:List Int):Prop where
 len:row.length≤12
 up:row.Pairwise (· < ·)
 bd:∀p∈row,-999999800≤p∧p≤999999900
def spBl:Sp:=fun vs H Q _=>∃(a:Addr) (row:List Int),vs=[.ref a]∧H a=some (.tup (row.map V.int))∧Far row∧frB (BB.blk row)=true∧
 ∀(r:Addr) (ys:List V) (H':Hp),Same H H'→H' r=some (.tup ys)→Tps H' ys (BB.blk row)→Q (.ref r) H'
section
variable {P:Program}{w:World}{K:W.Frag}{mg:Str→Option Value}{base:Heap}{c1:Addr}{bm1:List Value}
theorem ok_blocks {f:Addr}{fd:FuncData}(F:Fun K "blocks" "blocks" s_blocks f fd)(nb:Nb2 mg)(h_is_row:Has P w K mg base 2 "is_row" ["thing"] spIsRow)(h_is_free:Has P w K mg base 2 "is_free" ["row"] spFree)(h_blocks_in:Has P w K mg base 1 "blocks_in" ["row"] spBin)  :
 FnOk P w K mg base CX0 3 f fd ["row"] spBl:=by
 have nd:=sc_blocks.nd
 refine F.ok (k:=2) sc_blocks (fun vs H Q E h=>?_) (fun cdv A outer s H vs Q E hr h=>?_)
 ·obtain⟨a,row,rfl,_⟩:=h
  rfl
 obtain⟨a,row,rfl,ha,fa,ft,q⟩:=h
 refine⟨_,(pss_cons (ps_if (PW.pt (pw_or (pt_not (pt_truth (pe_def h_is_row hr (pa_cons (pv 0) pa_nil)) (fun _=>rfl))) (pw_or1 (pt_not (pt_truth (pe_def h_is_free hr (pa_cons (pv 0) pa_nil)) (fun _=>rfl))))))
(pss_one ps_never)
pss_nil)
(pss_one (ps_ret (pe_callTy call_tuple_of rfl nb.tuple boot_tuple (pa_cons (pe_def h_blocks_in hr (pa_cons (pv 0) pa_nil)) pa_nil))))),?_⟩
 refine⟨_,rfl,a,row,rfl,ha,fa.len,fun p hp=>by have:=fa.bd p hp;omega,fa.up,fun H1 s1=>?_⟩
 refine⟨_,rfl,iteF ?_⟩
 refine⟨_,rfl,a,row,rfl,s1 _ _ ha,fa.up,fa.len,fun H2 s2=>?_⟩
 rw[ft]
 refine⟨_,rfl,iteF ?_⟩
 refine⟨_,rfl,a,row,rfl,s2 _ _ (s1 _ _ ha),fa.up,fa.len,fun r ys H3 s3 h3 t3=>?_⟩
 refine⟨r,_,rfl,.inl ⟨SqL.of h3,fun p hp=>?_⟩⟩
 have s4:=same_new hp (.tup ys)
 exact q p ys _ (s1.trans (s2.trans (s3.trans s4))) upd_same (t3.same s4)
end
end K84
namespace K84
open L2
def spFl:Sp:=fun vs H Q _=>∃(a:Addr) (row:List Int) (s:Int),vs=[.ref a,.int s]∧H a=some (.tup (row.map V.int))∧Far row∧frB (BB.blk row)=true∧0≤s∧s≤1000000∧
 ∀(r:Addr) (H':Hp),Same H H'→H' r=some (.tup ((BB.flw (BB.blk row) s).map V.int))→Q (.ref r) H'
theorem blk_bd {row:List Int}(f:Far row){b:Int×Int}(h:b∈BB.blk row):-999999800≤b.1∧b.1≤999999900∧1≤b.2∧b.2≤12:=by
 obtain⟨h1,h2,h3⟩:=(BB.blk_all row).1 b h
 have:=f.bd _ h1
 have:=f.len
 omega
theorem pairs_at {H:Hp}{ys:List V}{bl:List (Int×Int)}(t:Tps H ys bl){i:Nat}(hi:i<bl.length):∃p,ys[i]?=some (.ref p)∧H p=some (.tup [.int (bl.getD i (0,0)).1,.int (bl.getD i (0,0)).2])∧bl.getD i (0,0)∈bl:=by
 have e:=List.getElem?_eq_getElem hi
 have d:bl.getD i (0,0)=bl[i]:=by rw[getD_eq_getElem?_getD,e];rfl
 rw[d]
 obtain⟨p,a,b⟩:=t.2 i _ e
 exact⟨p,a,b,getElem_mem hi⟩
theorem flw_V (bl:List (Int×Int))(s:Int):(List.range bl.length).flatMap (fun i=>(BB.far1 s (bl.getD i (0,0))).map V.int)=(BB.flw bl s).map V.int:=by
 rw[BB.range_flat (0,0) (fun b=>(BB.far1 s b).map V.int)]
 unfold BB.flw
 rw[List.map_flatMap]
section
variable {P:Program}{w:World}{K:W.Frag}{mg:Str→Option Value}{base:Heap}
theorem ok_free_later {f:Addr}{fd:FuncData}(F:Fun K "free_later" "free_later" s_free_later f fd)(nb:Nb mg)(h_blocks:Has P w K mg base 3 "blocks" ["row"] spBl)(h_need_number:Has P w K mg base 2 "need_number" ["thing","least","greatest"] spNeed)(c_MOST_STEPS:∃u,mg "MOST_STEPS" = some u∧RelV (.int 1000000) u) :
 FnOk P w K mg base CX0 4 f fd ["row","steps"] spFl:=by
 have nd:=sc_free_later.nd
 refine F.ok (k:=3) sc_free_later (fun vs H Q E h=>?_) (fun cdv A outer s H vs Q E hr h=>?_)
 ·obtain⟨a,row,s,rfl,_⟩:=h
  rfl
 obtain⟨a,row,s,rfl,ha,fa,ft,l1,l2,q⟩:=h
 refine⟨_,(pss_cons (ps_set (i:=2) nd rfl (Or.inl rfl) (pe_def h_blocks hr (pa_cons (pv 0) pa_nil)))
(pss_cons (ps_expr (pe_def h_need_number hr (pa_cons (pv 1) (pa_cons pe_int (pa_cons (pe_const c_MOST_STEPS) pa_nil)))))
(pss_one (ps_ret (pe_callTy call_tuple_of rfl nb.tuple boot_tuple (pa_cons (pe_compO2 (sc:=defScope s_free_later) (N0:=["row","steps","found"]) (N:=["steps"]) (js:=[1]) rfl rfl rfl (by exact⟨rfl,by decide +kernel,by decide +kernel,by decide +kernel,rfl,rfl,by decide,by decide +kernel,by decide +kernel⟩) rfl rfl rfl
(pi_tup (pv 2))
(fun _ _ _ _ _=>by exact(pi_range2 rfl nb.range (pa_cons (pv 0) (pa_cons (pe_op op_add (pv 0) (pv 1)) pa_nil))))
(fun _ _ _ _ _=>by exact(pe_op op_add (pv 2) (pe_op op_mul (pv 1) (pv 3))))) pa_nil)))))),?_⟩
 refine⟨_,rfl,a,row,rfl,ha,fa,ft,fun r ys H1 s1 h1 t1=>?_⟩
 refine⟨_,rfl,s,0,1000000,rfl,l1,l2,?_⟩
 have bl12:=blk_len row
 have r12:=fa.len
 refine⟨_,rfl,r,rfl,⟨ys,SqT.of h1⟩,fun D hD=>?_⟩
 refine out_go ys.length (fun i=>(BB.far1 s ((BB.blk row).getD i (0,0))).map V.int) (fun σ=>∃o0 o1 o2,σ=[o0,o1,o2,some (.int s)]) (fun i H' x=>ys[i]?=some x) (fun i hi=>?_) hD ⟨_,_,_,rfl⟩ (items_tup h1) (fun i x σ' H' pre hi sm im hσ hd hl N hN=>?_) (fun H' sm hD'=>?_)
 ·refine Nat.le_trans (BB.flat_le _ 12 i fun j hj=>?_) ?_
  ·rw[length_map,BB.far1_len]
   obtain⟨p,_,_,hm⟩:=pairs_at t1 (show j<(BB.blk row).length by rw[←t1.1];omega)
   have:=blk_bd fa hm
   omega
  ·rw[sizeLine_eq]
   have:=t1.1
   omega
 ·obtain⟨o0,o1,o2,rfl⟩:=hσ
  obtain⟨p,e,hp,hm⟩:=pairs_at (t1.same sm) (show i<(BB.blk row).length by rw[←t1.1];exact hi)
  rw[e]at im
  cases im
  have bd:=blk_bd fa hm
  generalize(BB.blk row).getD i (0,0)=b at hp bd hl hN
  rw[length_map,BB.far1_len]at hl
  refine⟨p,_,rfl,SqT.of hp,rfl,_,_,rfl,_,_,rfl,rfl,?_⟩
  refine⟨_,rfl,_,rfl,_,rfl,_,_,rfl,rfl,b.1,b.1+b.2,rfl,⟨by omega,by omega,by omega,by omega⟩,?_⟩
  rw[show(b.1+b.2 - b.1).toNat=b.2.toNat by congr 1;omega]
  refine deep_go b.2.toNat (fun j=>.int (b.1+(j:Int)+b.2*s)) pre (fun σ=>∃o2,σ=[some (.int b.1),some (.int b.2),o2,some (.int s)]) (fun j H' x=>x=.int (b.1+(j:Int))) hd hl ⟨_,rfl⟩ (fun j H2 _=>items_rng b.1 b.2.toNat j H2 (Same.refl _)) (fun j x σ2 H2 hj b2 im hσ R hR=>?_) (fun σ2 H2 hσ b2 h2=>?_)
  ·obtain⟨o2,rfl⟩:=hσ
   subst im
   exact⟨_,rfl,_,rfl,_,rfl,b.2,s,rfl,rfl,.inl ⟨by omega,by omega⟩,_,_,rfl,rfl,hR _ _ _ ⟨_,rfl⟩ (Same.refl _) rfl⟩
  ·obtain⟨o2,rfl⟩:=hσ
   refine hN _ _ ⟨_,_,_,rfl⟩ b2 ?_
   rw[h2]
   unfold BB.far1
   rw[map_map]
   rfl
 ·rw[t1.1,flw_V]at hD'
  refine⟨D,_,rfl,.inl ⟨SqL.of hD',fun p hp=>?_⟩⟩
  have s4:=same_new hp (.tup ((BB.flw (BB.blk row) s).map V.int))
  exact q p _ (s1.trans (sm.trans s4)) upd_same
end
end K84
namespace K84
open L2
structure Nb4 (mg:Str→Option Value):Prop extends Nb3 mg where
 sum:mg "sum" = none
 set:mg "set" = none
def toI:V→Int
 | .int i=>i
 |_=>0
theorem num_int {lo hi:Int}{x:V}(h:numB lo hi x=true):x=.int (toI x)∧lo≤toI x∧toI x≤hi:=by
 cases x with
 |int i=>
  have h':(decide (lo≤i)&&decide (i≤hi))=true:=h
  rw[and_eq_true,decide_eq_true_eq,decide_eq_true_eq]at h'
  exact⟨rfl,h'⟩
 |_=>cases h
structure Thing (H:Hp)(v:V):Prop where
 kn:∃T,Kn H v T
 it:∀a xs,v=.ref a→H a=some (.tup xs)→xs.length≤1000∧∀x∈xs,∃T,Kn H x T
theorem kn_same {H H':Hp}{v:V}{T:String}(s:Same H H')(h:Kn H v T):Kn H' v T:=by
 cases h with
 |non=>exact .non
 |bl b=>exact .bl b
 |int i=>exact .int i
 |str x=>exact .str x
 |lst e=>exact .lst (s _ _ e)
 |tup e=>exact .tup (s _ _ e)
 |dK e=>exact .dK (s _ _ e)
theorem map_getD (xs:List V)(f:V→V):(List.range xs.length).map (fun i=>f (xs.getD i .non))=xs.map f:=by
 apply ext_getElem?
 intro i
 rw[List.getElem?_map,List.getElem?_map]
 by_cases h:i<xs.length
 ·rw[getElem?_range h,List.getElem?_eq_getElem h]
  show some (f (xs.getD i .non))=some (f xs[i])
  rw[getD_eq_getElem?_getD,List.getElem?_eq_getElem h]
  rfl
 ·rw[List.getElem?_eq_none (by simpa using h),List.getElem?_eq_none (by omega)]
  rfl
theorem getD_some {xs:List V}{i:Nat}{x:V}(h:xs[i]?=some x):xs.getD i .non=x:=by
 rw[getD_eq_getElem?_getD,h]
 rfl
def isT (H:Hp):V→Option (List V)
 | .ref a=>(match H a with
   |some (.tup xs)=>some xs
   |_=>none)
 |_=>none
theorem isT_tup {H:Hp}{a:Addr}{xs:List V}(h:H a=some (.tup xs)):isT H (.ref a)=some xs:=by
 show(match H a with | some (.tup xs)=>some xs | _=>none)=_
 rw[h]
theorem kn_tup {H:Hp}{v:V}{T:String}(h:Kn H v T):(T="tuple"∧∃a xs,v=.ref a∧H a=some (.tup xs))∨(subT T "tuple" = false∧isT H v=none):=by
 cases h with
 |tup e=>exact .inl ⟨rfl,_,_,rfl,e⟩
 |lst e=>exact .inr ⟨by decide,by show(match H _ with | some (.tup xs)=>some xs | _=>none)=_;rw[e]⟩
 |dK e=>exact .inr ⟨by decide,by show(match H _ with | some (.tup xs)=>some xs | _=>none)=_;rw[e]⟩
 |_=>exact .inr ⟨by decide,rfl⟩
theorem ints_back {lo hi:Int}{xs:List V}(d:xs.all (numB lo hi)=true):xs=(xs.map toI).map V.int∧∀n∈xs.map toI,lo≤n∧n≤hi:=by
 refine⟨?_,fun n hn=>?_⟩
 ·rw[map_map]
  exact(List.map_id xs).symm.trans (map_congr_left fun x hx'=>(num_int (all_eq_true.mp d x hx')).1)
 ·obtain⟨x,hx,rfl⟩:=mem_map.mp hn
  exact(num_int (all_eq_true.mp d x hx)).2
def lenB (xs:List V):Bool:=xs.all (numB 1 12)&&(decide ((xs.map toI).sum≤12)&&decide ((xs.map toI).Pairwise (·≤·)))
def lenV (H:Hp)(v:V):Bool:=match isT H v with
 |some xs=>lenB xs
 |none=>false
def gapB (ls:List Int)(ys:List V):Bool:=decide (ys.length=ls.dropLast.length)&&(List.range ys.length).all fun i=>numB (ls.getD i 0) 100 (ys.getD i .non)
def gapV (H:Hp)(ls:List Int)(v:V):Bool:=match isT H v with
 |some ys=>gapB ls ys
 |none=>false
theorem sum_len:∀l:List Int,(∀n∈l,1≤n)→(l.length:Int)≤l.sum
 |[],_=>Int.le_refl _
 |x::l,h=>by
  have a:=sum_len l fun y hy=>h y (mem_cons_of_mem _ hy)
  have b:=h x mem_cons_self
  rw[length_cons,sum_cons]
  omega
theorem lenB_ints {xs:List V}(h:lenB xs=true):xs=(xs.map toI).map V.int∧(∀n∈xs.map toI,1≤n∧n≤12)∧(xs.map toI).length≤12:=by
 unfold lenB at h
 rw[and_eq_true,and_eq_true,decide_eq_true_iff]at h
 obtain⟨h1,h2,_⟩:=h
 obtain⟨a,b⟩:=ints_back h1
 have:=sum_len _ fun n hn=>(b n hn).1
 exact⟨a,b,by omega⟩
theorem gapB_ints {ls:List Int}{ys:List V}(hl:∀n∈ls,1≤n∧n≤12)(h:gapB ls ys=true):ys=(ys.map toI).map V.int∧(∀n∈ys.map toI,0≤n∧n≤100)∧ys.length=ls.length - 1:=by
 unfold gapB at h
 rw[and_eq_true,decide_eq_true_iff,length_dropLast]at h
 obtain⟨h1,h2⟩:=h
 have d:ys.all (numB 0 100)=true:=by
  refine all_eq_true.mpr fun y hy=>?_
  obtain⟨i,hi,rfl⟩:=List.mem_iff_getElem.mp hy
  have z:=all_eq_true.mp h2 i (mem_range.mpr hi)
  rw[getD_eq_getElem?_getD (l:=ys),List.getElem?_eq_getElem hi]at z
  obtain⟨z1,z2,z3⟩:=num_int z
  have il:i<ls.length:=by omega
  have:=(hl _ (show ls.getD i 0∈ls by rw[getD_eq_getElem?_getD,List.getElem?_eq_getElem il];exact getElem_mem il)).1
  have z1':ys[i]=.int (toI ys[i]):=z1
  have z2':ls.getD i 0≤toI ys[i]:=z2
  have z3':toI ys[i]≤100:=z3
  rw[z1']
  show(decide (0≤toI ys[i])&&decide (toI ys[i]≤100))=true
  rw[decide_eq_true (by omega),decide_eq_true z3']
  rfl
 exact⟨(ints_back d).1,(ints_back d).2,h1⟩
theorem sort_dec {ks ns:List Int}(pm:ns.Perm ks)(so:ns.Pairwise (·≤·)):decide (ks=ns)=decide (ks.Pairwise (·≤·)):=by
 by_cases c:ks.Pairwise (·≤·)
 ·rw[decide_eq_true c,decide_eq_true]
  exact(pm.eq_of_pairwise (fun a b _ _ h1 h2=>by omega) so c).symm
 ·rw[decide_eq_false c,decide_eq_false]
  intro e
  rw[e]at c
  exact c so
theorem cut_last (xs:List V):cutV xs none (some (-1))=xs.dropLast:=by
 unfold cutV
 rw[HT.sIx_none,drop_zero,Nat.sub_zero,List.dropLast_eq_take]
 congr 1
 show(if(-1:Int)<0 then(-1+(xs.length:Int)).toNat else min (-1:Int).toNat xs.length)=_
 rw[if_pos (by decide)]
 omega
def frL (ls gs:List Int):Nat→List Int×Int
 |0=>([],0)
 |i+1=>((frL ls gs i).1++ups (frL ls gs i).2 (ls.getD i 0).toNat,(frL ls gs i).2+ls.getD i 0+(gs++[0]).getD i 0)
def frR (ls gs:List Int):List Int:=(frL ls gs ls.length).1
theorem getD_bd {l:List Int}{A B:Int}(h:∀n∈l,A≤n∧n≤B){i:Nat}(hi:i<l.length):A≤l.getD i 0∧l.getD i 0≤B:=by
 rw[getD_eq_getElem?_getD,List.getElem?_eq_getElem hi]
 exact h _ (getElem_mem hi)
theorem frL_bd {ls gs:List Int}(hl:∀n∈ls,1≤n∧n≤12)(hg:∀n∈gs,0≤n∧n≤100)(e:gs.length=ls.length - 1):∀i,i≤ls.length→0≤(frL ls gs i).2∧(frL ls gs i).2≤(i:Int)*112∧(frL ls gs i).1.length≤i*12
 |0,_=>⟨Int.le_refl _,Int.le_refl _,Nat.le_refl _⟩
 |i+1,h=>by
  obtain⟨a,b,c⟩:=frL_bd hl hg e i (by omega)
  have l1:=getD_bd hl (show i<ls.length by omega)
  have g1:0≤(gs++[0]).getD i 0∧(gs++[0]).getD i 0≤100:=getD_bd (l:=gs++[0]) (fun n hn=>by
   rcases mem_append.mp hn with z | z
   ·exact hg n z
   ·rw[mem_singleton.mp z];decide) (by rw[length_append,length_singleton];omega)
  refine⟨?_,?_,?_⟩
  ·show 0≤(frL ls gs i).2+ls.getD i 0+(gs++[0]).getD i 0
   omega
  ·show(frL ls gs i).2+ls.getD i 0+(gs++[0]).getD i 0≤((i+1:Nat):Int)*112
   omega
  ·show((frL ls gs i).1++ups (frL ls gs i).2 (ls.getD i 0).toNat).length≤(i+1)*12
   rw[length_append,ups_length]
   omega
def spAl:Sp:=fun vs H Q _=>∃v:V,vs=[v]∧Thing H v∧∀H',Same H H'→Q (.bl (lenV H v)) H'
def spAg:Sp:=fun vs H Q _=>∃(v:V) (b:Addr) (ls:List Int),vs=[v,.ref b]∧Thing H v∧H b=some (.tup (ls.map V.int))∧ls.length≤12∧∀H',Same H H'→Q (.bl (gapV H ls v)) H'
def spFr:Sp:=fun vs H Q _=>∃(a b:Addr) (ls gs:List Int),vs=[.ref a,.ref b]∧H a=some (.tup (ls.map V.int))∧H b=some (.tup (gs.map V.int))∧lenB (ls.map V.int)=true∧gapB ls (gs.map V.int)=true∧
 ∀(r:Addr) (H':Hp),Same H H'→H' r=some (.tup ((frR ls gs).map V.int))→Q (.ref r) H'
theorem toI_ints (ls:List Int):(ls.map V.int).map toI=ls:=by rw[map_map];exact(map_congr_left fun _ _=>rfl).trans (List.map_id ls)
theorem ints_thing {H:Hp}{a:Addr}{ls:List Int}(h:H a=some (.tup (ls.map V.int)))(l:ls.length≤1000):Thing H (.ref a):=by
 refine⟨⟨_,.tup h⟩,fun b xs e hx=>?_⟩
 cases e
 rw[h]at hx
 cases hx
 refine⟨by rw[length_map];exact l,fun x hx=>?_⟩
 obtain⟨n,_,rfl⟩:=mem_map.mp hx
 exact⟨_,.int n⟩
section
variable {P:Program}{w:World}{K:W.Frag}{mg:Str→Option Value}{base:Heap}{c0:Addr}{bm0:List Value}
theorem ok_are_lengths {f:Addr}{fd:FuncData}(F:Fun K "are_lengths" "are_lengths" s_are_lengths f fd)(nb:Nb4 mg)(h_is_number:Has P w K mg base 1 "is_number" ["thing","least","greatest"] spNum)(c_MOST_BALLS:∃u,mg "MOST_BALLS" = some u∧RelV (.int 12) u) :
 FnOk P w K mg base CX0 2 f fd ["thing"] spAl:=by
 have nd:=sc_are_lengths.nd
 refine F.ok (k:=1) sc_are_lengths (fun vs H Q E h=>?_) (fun cdv A outer s H vs Q E hr h=>?_)
 ·obtain⟨v,rfl,_⟩:=h
  rfl
 obtain⟨v,rfl,th,q⟩:=h
 refine⟨_,(pss_cons (ps_if (PW.pt (pw_or (pt_not (pt_truth (pe_callB call_isi rfl nb.isi boot_isinstance (pa_cons (pv 0) (pa_cons (pe_ty nb.tuple boot_tuple) pa_nil))) (fun _=>rfl))) (pw_or1 (pt_not (pt_truth (pe_callB (call_allB rfl) rfl nb.all boot_all (pa_cons (pe_comp1 (sc:=defScope s_are_lengths) (N0:=["thing"]) (N:=[]) (js:=[]) rfl rfl rfl (by exact⟨rfl,by decide +kernel,by decide +kernel,by decide +kernel,rfl,rfl,by decide,by decide +kernel,by decide +kernel⟩) rfl
(pi_tup (pv 0))
(fun _ _ _ _ _=>by exact pts_nil)
(fun _ _ _ _ _=>by exact(pe_def h_is_number hr (pa_cons (pv 0) (pa_cons pe_int (pa_cons (pe_const c_MOST_BALLS) pa_nil)))))) pa_nil)) (fun _=>rfl))))))
(pss_one (ps_ret pe_bl))
pss_nil)
(pss_one (ps_ret (pe_and (pe_cmpR op_le (pe_callB (call_sumT rfl) rfl nb.sum boot_sum (pa_cons (pv 0) pa_nil)) (pe_const c_MOST_BALLS) (nomark _)) (pe_one (pe_cmpR (op_eqL hr.units0) (pe_callTy call_list_of rfl nb.list boot_list (pa_cons (pv 0) pa_nil)) (pe_callB call_sortL rfl nb.sorted boot_sorted (pa_cons (pv 0) pa_nil)) (nomark _))))))),?_⟩
 obtain⟨⟨T,hk⟩,hit⟩:=th
 refine⟨_,rfl,_,_,_,rfl,hk,.inr (.inr (.inl rfl)),_,rfl,?_⟩
 rcases kn_tup hk with⟨rfl,a,xs,rfl,ha⟩ | ⟨e1,e2⟩
 ·obtain⟨hz,hx⟩:=hit a xs rfl ha
  have er:lenV H (.ref a)=lenB xs:=by unfold lenV;rw[isT_tup ha]
  rw[er]at q
  refine iteF ?_
  refine⟨_,rfl,a,rfl,⟨_,SqT.of ha⟩,fun D hD=>?_⟩
  refine comp_go xs.length (by rw[sizeLine_eq];omega) (fun i=>.bl (numB 1 12 (xs.getD i .non))) (fun σ=>∃o1,σ=[o1]) _ hD (by exact⟨_,rfl⟩) (items_tup ha) (fun i x σ' H2 hi s2 im hσ R hR=>?_) (fun H' s' hD'=>?_)
  ·obtain⟨o1,rfl⟩:=hσ
   obtain⟨T',kx⟩:=hx x (mem_of_getElem? im)
   refine⟨_,rfl,x,T',1,12,rfl,kn_same s2 kx,hR _ _ _ ⟨_,rfl⟩ (Same.refl _) ?_⟩
   rw[getD_some im]
  rw[map_getD xs (fun x=>V.bl (numB 1 12 x)),show xs.map (fun x=>V.bl (numB 1 12 x))=(xs.map (numB 1 12)).map V.bl by rw[map_map];rfl]at hD'
  refine⟨D,_,rfl,SqL.of hD',_,rfl,?_⟩
  have ea:(xs.map (numB 1 12)).all id=xs.all (numB 1 12):=by rw[all_map];rfl
  rw[ea]
  by_cases d:xs.all (numB 1 12)=true
  ·rw[d]
   obtain⟨ex,bd⟩:=ints_back d
   have e:lenB xs=(decide ((xs.map toI).sum≤12)&&decide ((xs.map toI).Pairwise (·≤·))):=by unfold lenB;rw[d];rfl
   rw[e]at q
   have hl:=sum_len _ fun n hn=>(bd n hn).1
   rw[ex]at ha
   generalize xs.map toI=ks at ha bd q hl
   have ha':=s' _ _ ha
   refine iteF ⟨_,rfl,a,ks,rfl,SqT.of ha',_,_,rfl,rfl,_,rfl,?_⟩
   by_cases c:ks.sum≤12
   ·rw[decide_eq_true c]at q ⊢
    refine iteT ⟨_,rfl,a,_,rfl,.inr (SqT.of ha'),fun l hl1=>?_⟩
    have s1:=same_new hl1 (.lst (ks.map V.int))
    refine⟨_,rfl,a,ks,rfl,.inr (s1 _ _ ha'),by omega,fun ns l2 pm so hl2=>?_⟩
    have s2:=same_new hl2 (.lst (ns.map V.int))
    refine⟨l,l2,ks,ns,rfl,rfl,SqL.of (s2 _ _ upd_same),SqL.of upd_same,pm.length_eq.symm,?_⟩
    rw[sort_dec pm so]
    exact q _ (s'.trans (s1.trans s2))
   ·rw[decide_eq_false c]at q ⊢
    exact iteF (q _ s')
  ·have d':=eq_false_iff.mpr d
   rw[d']
   have e:lenB xs=false:=by unfold lenB;rw[d'];rfl
   rw[e]at q
   exact iteT (q H' s')
 ·rw[e1]
  have er:lenV H v=false:=by unfold lenV;rw[e2]
  rw[er]at q
  exact iteT (iteT (q H (Same.refl H)))
theorem ok_are_gaps {f:Addr}{fd:FuncData}(F:Fun K "are_gaps" "are_gaps" s_are_gaps f fd)(nb:Nb4 mg)(h_is_number:Has P w K mg base 1 "is_number" ["thing","least","greatest"] spNum)(c_WIDEST_GAP:∃u,mg "WIDEST_GAP" = some u∧RelV (.int 100) u) :
 FnOk P w K mg base CX0 2 f fd ["thing","lengths"] spAg:=by
 have nd:=sc_are_gaps.nd
 refine F.ok (k:=1) sc_are_gaps (fun vs H Q E h=>?_) (fun cdv A outer s H vs Q E hr h=>?_)
 ·obtain⟨v,b,ls,rfl,_⟩:=h
  rfl
 obtain⟨v,b,ls,rfl,th,hb,l12,q⟩:=h
 refine⟨_,(pss_cons (ps_set (i:=2) nd rfl (Or.inl rfl) (pe_slice sl_tupA (pv 1) po_none (po_some (pe_un un_neg pe_int))))
(pss_cons (ps_if (PW.pt (pw_or (pt_not (pt_truth (pe_callB call_isi rfl nb.isi boot_isinstance (pa_cons (pv 0) (pa_cons (pe_ty nb.tuple boot_tuple) pa_nil))) (fun _=>rfl))) (pw_or1 (pt_cmpR op_ne (pe_callB call_len_seq rfl nb.len PySem.boot_len (pa_cons (pv 0) pa_nil)) (pe_callB call_len_seq rfl nb.len PySem.boot_len (pa_cons (pv 2) pa_nil)) (nomark _)))))
(pss_one (ps_ret pe_bl))
pss_nil)
(pss_one (ps_ret (pe_callB (call_allB rfl) rfl nb.all boot_all (pa_cons (pe_comp2 (sc:=defScope s_are_gaps) (N0:=["thing","lengths","ahead"]) (N:=[]) (js:=[]) rfl rfl rfl (by exact⟨rfl,by decide +kernel,by decide +kernel,by decide +kernel,rfl,rfl,by decide,by decide +kernel,by decide +kernel⟩) rfl rfl
(pi_zip true rfl nb.zip (pa_cons (pv 0) (pa_cons (pv 2) pa_nil)))
(fun _ _ _ _ _=>by exact pts_nil)
(fun _ _ _ _ _=>by exact(pe_def h_is_number hr (pa_cons (pv 0) (pa_cons (pv 1) (pa_cons (pe_const c_WIDEST_GAP) pa_nil)))))) pa_nil)))))),?_⟩
 obtain⟨⟨T,hk⟩,hit⟩:=th
 refine⟨_,rfl,_,rfl,_,rfl,b,_,rfl,hb,fun p H1 s1 hp=>?_⟩
 rw[cut_last,←List.map_dropLast]at hp
 have hk1:=kn_same s1 hk
 refine⟨_,rfl,_,_,_,rfl,hk1,.inr (.inr (.inl rfl)),_,rfl,?_⟩
 rcases kn_tup hk with⟨rfl,a,ys,rfl,ha⟩ | ⟨e1,e2⟩
 ·obtain⟨hz,hx⟩:=hit a ys rfl ha
  have er:gapV H ls (.ref a)=gapB ls ys:=by unfold gapV;rw[isT_tup ha]
  rw[er]at q
  have ha1:=s1 _ _ ha
  refine iteF ?_
  refine⟨_,rfl,a,ys,rfl,.inr (SqT.of ha1),_,rfl,p,_,rfl,.inr (SqT.of hp),rfl,?_⟩
  have dl:ls.dropLast.length=ls.length - 1:=length_dropLast
  by_cases c:ys.length=ls.dropLast.length
  ·refine⟨false,by rw[decide_eq_true (congrArg (fun n:Nat=>V.int (n:Int)) (show ys.length=(ls.dropLast.map V.int).length by rw[length_map];exact c))];rfl,iteF ?_⟩
   have e:gapB ls ys=(List.range ys.length).all fun i=>numB (ls.getD i 0) 100 (ys.getD i .non):=by unfold gapB;rw[decide_eq_true c];rfl
   rw[e]at q
   refine⟨_,rfl,_,rfl,a,p,_,_,rfl,SqT.of ha1,SqT.of hp,fun D hD=>?_⟩
   have im:=items_zip (K:=K) ha1 hp
   rw[show min ys.length (ls.dropLast.map V.int).length=ys.length by rw[length_map];omega]at im
   refine comp_go ys.length (by rw[sizeLine_eq];omega) (fun i=>.bl (numB (ls.getD i 0) 100 (ys.getD i .non))) (fun σ=>∃o1 o2,σ=[o1,o2]) _ hD ⟨_,_,rfl⟩ im (fun i x σ' H2 hi s2 im' hσ R hR=>?_) (fun H' s' hD'=>?_)
   ·obtain⟨o1,o2,rfl⟩:=hσ
    obtain⟨r,y,z,rfl,hr',hy,hz'⟩:=im'
    obtain⟨l0,rfl,ev⟩:=int_at hz'
    have el:ls.getD i 0=l0:=by
     rw[←ev,getD_eq_getElem?_getD,getD_eq_getElem?_getD,List.dropLast_eq_take,List.getElem?_take_of_lt (by omega)]
    obtain⟨T',ky⟩:=hx y (mem_of_getElem? hy)
    refine⟨r,_,rfl,SqT.of hr',rfl,_,_,rfl,_,_,rfl,rfl,?_⟩
    refine⟨_,rfl,_,rfl,y,T',l0,100,rfl,kn_same (s1.trans s2) ky,hR _ _ _ ⟨_,_,rfl⟩ (Same.refl _) ?_⟩
    rw[el,getD_some hy]
   ·rw[show(List.range ys.length).map (fun i=>V.bl (numB (ls.getD i 0) 100 (ys.getD i .non)))=((List.range ys.length).map fun i=>numB (ls.getD i 0) 100 (ys.getD i .non)).map V.bl by rw[map_map];rfl]at hD'
    refine⟨D,_,rfl,SqL.of hD',?_⟩
    rw[all_map]
    exact q H' (s1.trans s')
  ·refine⟨true,by rw[decide_eq_false (fun z=>c (by have:=V.int.inj z;rw[length_map]at this;omega))];rfl,iteT ?_⟩
   have e:gapB ls ys=false:=by unfold gapB;rw[decide_eq_false c];rfl
   rw[e]at q
   exact q H1 s1
 ·rw[e1]
  have er:gapV H ls v=false:=by unfold gapV;rw[e2]
  rw[er]at q
  exact iteT (iteT (q H1 s1))
theorem ok_free_row {f:Addr}{fd:FuncData}(F:Fun K "free_row" "free_row" s_free_row f fd)(nb:Nb4 mg)(h_are_lengths:Has P w K mg base 2 "are_lengths" ["thing"] spAl)(h_are_gaps:Has P w K mg base 2 "are_gaps" ["thing","lengths"] spAg)  :
 FnOk P w K mg base CX0 3 f fd ["lengths","gaps"] spFr:=by
 have nd:=sc_free_row.nd
 refine F.ok (k:=2) sc_free_row (fun vs H Q E h=>?_) (fun cdv A outer s H vs Q E hr h=>?_)
 ·obtain⟨a,b,ls,gs,rfl,_⟩:=h
  rfl
 obtain⟨a,b,ls,gs,rfl,ha,hb,lb,gb,q⟩:=h
 refine⟨_,(pss_cons (ps_if (PW.pt (pw_or (pt_not (pt_truth (pe_def h_are_lengths hr (pa_cons (pv 0) pa_nil)) (fun _=>rfl))) (pw_or1 (pt_not (pt_truth (pe_def h_are_gaps hr (pa_cons (pv 1) (pa_cons (pv 0) pa_nil))) (fun _=>rfl))))))
(pss_one ps_never)
pss_nil)
(pss_cons (ps_set (i:=2) nd rfl (Or.inl rfl) (pe_lst pa_nil))
(pss_cons (ps_set (i:=3) nd rfl (Or.inl rfl) pe_int)
(pss_cons (ps_for PassesOwn.never rfl (pi_zip true rfl nb.zip (pa_cons (pv 0) (pa_cons (pe_op op_catA (pv 1) (pe_tup (pa_cons pe_int pa_nil))) pa_nil))) (pg_tup rfl (pgs_cons (pg_name (i:=4) nd rfl (Or.inl rfl)) (pgs_cons (pg_name (i:=5) nd rfl (Or.inl rfl)) pgs_nil)))
(pss_cons (ps_expr (pe_bm PySem.F.plainAttrs_list PySem.F.slot_list_extend PySem.F.type_list_extend mt_extend (pv 2) (pa_cons (pe_callTy (call_list_rng rfl) rfl nb.list boot_list (pa_cons (pe_callTy call_rng2 rfl nb.range boot_range (pa_cons (pv 3) (pa_cons (pe_op op_add (pv 3) (pv 4)) pa_nil))) pa_nil)) pa_nil)))
(pss_one (ps_aug (i:=3) nd rfl (Or.inl rfl) (pe_op op_add (pv 4) (pv 5)) ip_add))))
(pss_one (ps_ret (pe_callTy call_tuple_of rfl nb.tuple boot_tuple (pa_cons (pv 2) pa_nil)))))))),?_⟩
 have lb2:=lb
 obtain⟨-,l1,l12⟩:=lenB_ints lb
 rw[toI_ints]at l1 l12
 obtain⟨-,g1,ge⟩:=gapB_ints l1 gb
 rw[toI_ints]at g1
 rw[length_map]at ge
 refine⟨_,rfl,_,rfl,ints_thing ha (by omega),fun H1 s1=>?_⟩
 have e1:lenV H (.ref a)=true:=by unfold lenV;rw[isT_tup ha];exact lb
 rw[e1]
 refine⟨_,rfl,iteF ?_⟩
 refine⟨_,rfl,_,rfl,_,a,ls,rfl,ints_thing (s1 _ _ hb) (by omega),s1 _ _ ha,l12,fun H2 s2=>?_⟩
 have e2:gapV H1 ls (.ref b)=true:=by unfold gapV;rw[isT_tup (s1 _ _ hb)];exact gb
 rw[e2]
 refine⟨_,rfl,iteF ?_⟩
 have ha2:=s2 _ _ (s1 _ _ ha)
 have hb2:=s2 _ _ (s1 _ _ hb)
 refine⟨(by show 0≤sizeLine;decide),fun D hD=>?_⟩
 have k1:=same_new hD (.lst [])
 have f1:(upd H2 D (.lst [])) D=some (.lst ((frL ls gs 0).1.map V.int)):=upd_same
 have S0:=s1.trans s2
 generalize upd H2 D (.lst [])=H3 at k1 f1 ⊢
 refine⟨_,rfl,_,rfl,(by show 1≤sizeLine;decide),fun p0 hp0=>?_⟩
 have k2:=same_new hp0 (.tup [.int 0])
 refine⟨b,p0,_,_,rfl,rfl,k2 _ _ (k1 _ _ hb2),upd_same,by rw[length_map,length_singleton,sizeLine_eq];omega,fun p4 H4 s4 e4=>?_⟩
 have e4':H4 p4=some (.tup ((gs++[0]).map V.int)):=by rw[e4,map_append];rfl
 have K4:=k1.trans (k2.trans s4)
 have ha4:=K4 _ _ ha2
 have f4:=s4 _ _ (k2 _ _ f1)
 refine⟨a,p4,_,_,rfl,SqT.of ha4,SqT.of e4',?_⟩
 have S4:=S0.trans K4
 have hmin:min (ls.map V.int).length ((gs++[0]).map V.int).length=ls.length:=by rw[length_map,length_map,length_append,length_singleton];omega
 refine for_items ls.length (fun i H5 v=>∃p x y,v=.ref p∧H5 p=some (.tup [x,y])∧(ls.map V.int)[i]?=some x∧((gs++[0]).map V.int)[i]?=some y) (fun i σ H'=>Same H2 H'∧H' a=some (.tup (ls.map V.int))∧H' p4=some (.tup ((gs++[0]).map V.int))∧H' D=some (.lst ((frL ls gs i).1.map V.int))∧∃o4 o5,σ=[some (.ref a),some (.ref b),some (.ref D),some (.int (frL ls gs i).2),o4,o5])
  ⟨K4,ha4,e4',f4,_,_,rfl⟩ (fun i σ H' hi hp=>?_) (fun i x σ H' H5 hi hp s5 im=>?_) (fun σ H' hp=>?_)
 ·obtain⟨_,z1,z2,_⟩:=hp
  have:=items_zip (K:=K) z1 z2 i H' (Same.refl _)
  rw[hmin]at this
  exact this
 ·obtain⟨z0,z1,z2,z3,o4,o5,rfl⟩:=hp
  obtain⟨p,x,y,rfl,hp,hx,hy⟩:=im
  obtain⟨m,rfl,em⟩:=int_at hx
  obtain⟨gg,rfl,eg⟩:=int_at hy
  obtain⟨b1,b2,b3⟩:=frL_bd l1 g1 ge i (by omega)
  have lm:=getD_bd l1 hi
  have z3':=s5 _ _ z3
  refine⟨p,_,rfl,SqT.of hp,rfl,_,_,rfl,_,_,rfl,rfl,?_⟩
  refine⟨_,rfl,.inl ⟨rfl,_,SqL.of z3'⟩,_,rfl,_,rfl,_,rfl,_,_,rfl,rfl,_,_,rfl,fun q1 hq1=>?_⟩
  refine⟨q1,_,_,rfl,upd_same,⟨by omega,by omega,by omega,by omega⟩,by rw[sizeLine_eq];omega,fun q2 hq2=>?_⟩
  have en:((frL ls gs i).2+m - (frL ls gs i).2).toNat=(ls.getD i 0).toNat:=by rw[em];omega
  rw[en]
  have k3:=(same_new hq1 (.rng (frL ls gs i).2 ((frL ls gs i).2+m))).trans (same_new hq2 (.lst ((ups (frL ls gs i).2 (ls.getD i 0).toNat).map V.int)))
  have f3:(upd (upd H5 q1 (.rng (frL ls gs i).2 ((frL ls gs i).2+m))) q2 (.lst ((ups (frL ls gs i).2 (ls.getD i 0).toNat).map V.int))) q2=some (.lst ((ups (frL ls gs i).2 (ls.getD i 0).toNat).map V.int)):=upd_same
  generalize upd (upd H5 q1 (.rng (frL ls gs i).2 ((frL ls gs i).2+m))) q2 (.lst ((ups (frL ls gs i).2 (ls.getD i 0).toNat).map V.int))=H6 at k3 f3 ⊢
  have z36:=k3 _ _ z3'
  have S56:=s5.trans k3
  refine⟨D,q2,_,_,rfl,rfl,z36,f3,by rw[length_map,length_map,ups_length,sizeLine_eq];omega,?_⟩
  have aD:a≠D:=fun z=>by rw[z,z3]at z1;cases z1
  have pD:p4≠D:=fun z=>by rw[z,z3]at z2;cases z2
  refine⟨_,rfl,_,rfl,_,rfl,_,_,rfl,rfl,_,_,rfl,rfl,?_⟩
  refine⟨(z0.trans S56).upd_free hD _,by rw[upd_ne aD];exact S56 _ _ z1,by rw[upd_ne pD];exact S56 _ _ z2,?_,some (.int m),some (.int gg),?_⟩
  ·rw[upd_same,←map_append]
   rfl
  ·show [some (V.ref a),some (.ref b),some (.ref D),some (.int ((frL ls gs i).2+(m+gg))),some (.int m),some (.int gg)]=[some (.ref a),some (.ref b),some (.ref D),some (.int ((frL ls gs i).2+ls.getD i 0+(gs++[0]).getD i 0)),some (.int m),some (.int gg)]
   rw[em,eg,Int.add_assoc]
 ·obtain⟨z0,z1,z2,z3,o4,o5,rfl⟩:=hp
  refine⟨_,rfl,D,_,rfl,.inl ⟨SqL.of z3,fun l hl=>?_⟩⟩
  exact q l _ (S0.trans (z0.trans (same_new hl _))) upd_same
end
end K84
namespace K84
open L2
structure Lg (ls gs:List Int):Prop where
 one:∀n∈ls,1≤n
 up:ls.Pairwise (·≤·)
 sum:ls.sum≤12
 len:gs.length=ls.length - 1
 gap:∀i,i<gs.length→ls.getD i 0≤gs.getD i 0∧gs.getD i 0≤100
def bsOf (ls gs:List Int):List (Nat×Nat):=(List.range ls.length).map fun i=>((ls.getD i 0).toNat,if i<gs.length then(gs.getD i 0).toNat else(ls.getD i 0).toNat)
def endp (lo:Int)(bs:List (Nat×Nat)):Int:=lo+((bs.map fun b=>b.1+b.2).sum:Nat)
theorem sts_snoc (b:Nat×Nat):∀(bs:List (Nat×Nat)) (lo:Int),BB.sts lo (bs++[b])=BB.sts lo bs++[(endp lo bs,b.1)]
 |[],lo=>by
  obtain⟨n,g⟩:=b
  show [(lo,n)]=[(lo+((0:Nat):Int),n)]
  rw[show lo+((0:Nat):Int)=lo by omega]
 |(n,g)::r,lo=>by
  show(lo,n)::BB.sts (lo+(n:Int)+(g:Int)) (r++[b])=(lo,n)::(BB.sts (lo+(n:Int)+(g:Int)) r++[(endp lo ((n,g)::r),b.1)])
  rw[sts_snoc b r]
  congr 4
  unfold endp
  rw[map_cons,sum_cons]
  omega
theorem bs_take (ls gs:List Int){i:Nat}(hi:i<ls.length):(bsOf ls gs).take (i+1)=(bsOf ls gs).take i++[((ls.getD i 0).toNat,if i<gs.length then(gs.getD i 0).toNat else(ls.getD i 0).toNat)]:=by
 unfold bsOf
 rw[take_add_one,List.getElem?_map,getElem?_range hi]
 rfl
theorem getD_in {l:List Int}{i:Nat}(h:i<l.length):l.getD i 0∈l:=by
 rw[getD_eq_getElem?_getD,List.getElem?_eq_getElem h]
 exact getElem_mem h
theorem frL_is {ls gs:List Int}(h:Lg ls gs):∀i,i≤ls.length→(frL ls gs i).1=((BB.sts 0 ((bsOf ls gs).take i)).flatMap fun q=>BB.row q.1 q.2)∧(i<ls.length→(frL ls gs i).2=endp 0 ((bsOf ls gs).take i))
 |0,_=>⟨rfl,fun _=>rfl⟩
 |i+1,hi=>by
  obtain⟨a,b⟩:=frL_is h i (by omega)
  have b:=b (by omega)
  have n1:=h.one _ (getD_in (show i<ls.length by omega))
  rw[bs_take ls gs (by omega)]
  refine⟨?_,fun hl=>?_⟩
  ·show(frL ls gs i).1++ups (frL ls gs i).2 (ls.getD i 0).toNat=_
   rw[sts_snoc,flatMap_append,a,b,flatMap_cons,List.flatMap_nil,append_nil]
   rfl
  ·have ig:i<gs.length:=by have:=h.len;omega
   have g1:=(h.gap i ig).1
   show(frL ls gs i).2+ls.getD i 0+(gs++[0]).getD i 0=_
   have e:(gs++[0]).getD i 0=gs.getD i 0:=by
    rw[getD_eq_getElem?_getD,getD_eq_getElem?_getD,getElem?_append_left ig]
   rw[e,b,if_pos ig]
   unfold endp
   rw[map_append,sum_append]
   show _=0+(((_:Nat)+([(ls.getD i 0).toNat+(gs.getD i 0).toNat].sum):Nat):Int)
   rw[List.sum_singleton]
   omega
theorem bs_len (ls gs:List Int):(bsOf ls gs).length=ls.length:=by unfold bsOf;rw[length_map,length_range]
theorem frR_is {ls gs:List Int}(h:Lg ls gs):frR ls gs=((BB.sts 0 (bsOf ls gs)).flatMap fun q=>BB.row q.1 q.2):=by
 have:=(frL_is h ls.length (Nat.le_refl _)).1
 rw[take_of_length_le (by rw[bs_len];exact Nat.le_refl _)]at this
 exact this
theorem bs_ok {ls gs:List Int}(h:Lg ls gs):∀b∈bsOf ls gs,1≤b.1∧b.1≤b.2:=fun b hb=>by
 obtain⟨i,hi,rfl⟩:=mem_map.mp hb
 have il:=mem_range.mp hi
 have n1:=h.one _ (getD_in il)
 refine⟨by show 1≤(ls.getD i 0).toNat;omega,?_⟩
 show(ls.getD i 0).toNat≤if i<gs.length then(gs.getD i 0).toNat else(ls.getD i 0).toNat
 split
 ·rename_i c
  have:=(h.gap i c).1
  omega
 ·exact Nat.le_refl _
theorem bs_lens {ls gs:List Int}(h:Lg ls gs):(bsOf ls gs).map (fun b=>(b.1:Int))=ls:=by
 unfold bsOf
 rw[map_map]
 refine(map_congr_left fun i hi=>?_).trans ((BB.all_list 0 ls (fun z=>z)).trans (map_id' ls))
 have n1:=h.one _ (getD_in (mem_range.mp hi))
 show((ls.getD i 0).toNat:Int)=ls.getD i 0
 omega
theorem sum_cast:∀(bs:List (Nat×Nat)) (f:Nat×Nat→Nat),(((bs.map f).sum:Nat):Int)=(bs.map fun b=>(f b:Int)).sum
 |[],_=>rfl
 |b::r,f=>by
  rw[map_cons,map_cons,sum_cons,sum_cons,←sum_cast r f]
  omega
theorem sts_lens:∀(bs:List (Nat×Nat)) (lo:Int),(BB.sts lo bs).map (·.2)=bs.map (·.1)
 |[],_=>rfl
 |(n,g)::r,lo=>by
  show n::(BB.sts _ r).map (·.2)=n::r.map (·.1)
  rw[sts_lens r]
theorem sts_len (bs:List (Nat×Nat))(lo:Int):(BB.sts lo bs).length=bs.length:=by
 have:=congrArg List.length (sts_lens bs lo)
 rwa [length_map,length_map]at this
theorem fr_len {ls gs:List Int}(h:Lg ls gs):((frR ls gs).length:Int)=ls.sum:=by
 rw[frR_is h,List.length_flatMap]
 have e:(BB.sts 0 (bsOf ls gs)).map (fun q=>(BB.row q.1 q.2).length)=(bsOf ls gs).map (·.1):=by
  rw[←sts_lens (bsOf ls gs) 0]
  refine map_congr_left fun q _=>?_
  unfold BB.row
  rw[length_map,length_range]
 rw[e,sum_cast,bs_lens h]
theorem fr_places {ls gs:List Int}(h:Lg ls gs):frR ls gs=BB.places 0 (BB.frw (bsOf ls gs)):=by rw[BB.places_frw,frR_is h]
theorem fr_up {ls gs:List Int}(h:Lg ls gs):(frR ls gs).Pairwise (· < ·):=by
 rw[fr_places h]
 exact BB.places_up ..
theorem fr_blk {ls gs:List Int}(h:Lg ls gs):BB.blk (frR ls gs)=(BB.sts 0 (bsOf ls gs)).map fun q=>(q.1,(q.2:Int)):=by
 have a:=BB.blk_sts 0 (by omega) (bsOf ls gs) 0 (bs_ok h)
 rw[frR_is h]
 simpa using a
theorem fr_step {ls gs:List Int}(h:Lg ls gs):BB.step (frR ls gs).length (frR ls gs)=(BB.sts 0 (bsOf ls gs)).flatMap fun q=>BB.row (q.1+(q.2:Int)) q.2:=by
 have l:=fr_len h
 have le:∀b∈bsOf ls gs,b.1≤(frR ls gs).length:=fun b hb=>by
  have m:((b.1:Nat):Int)∈ls:=by
   rw[←bs_lens h]
   exact mem_map.mpr ⟨b,hb,rfl⟩
  have:∀(l:List Int),(∀x∈l,1≤x)→∀y∈l,y≤l.sum:=fun l=>by
   induction l with
   |nil=>intro _ y hy;exact absurd hy not_mem_nil
   |cons x r ih=>
    intro hx y hy
    rw[sum_cons]
    have hx1:=hx x mem_cons_self
    have sr:=sum_len r fun z hz=>hx z (mem_cons_of_mem _ hz)
    rcases mem_cons.mp hy with rfl | hy
    ·omega
    ·have:=ih (fun z hz=>hx z (mem_cons_of_mem _ hz)) y hy
     omega
  have:=this ls h.one _ m
  omega
 have f0:=(BB.frw_taken (frR ls gs).length (bsOf ls gs) fun b hb=>(bs_ok h b hb).2).2
 have s:=BB.step_places (z:=(frR ls gs).length) (lo:=0) f0
 rw[BB.frw_step _ _ fun b hb=>⟨(bs_ok h b hb).2,le b hb⟩,BB.places_mvw _ _ fun b hb=>(bs_ok h b hb).2,←fr_places h]at s
 exact s
theorem fr_flw {ls gs:List Int}(h:Lg ls gs):BB.flw (BB.blk (frR ls gs)) 1=BB.step (frR ls gs).length (frR ls gs):=by
 rw[fr_step h,fr_blk h]
 unfold BB.flw
 rw[List.flatMap_map]
 congr 1
 funext q
 unfold BB.far1 BB.row
 show(List.range ((q.2:Int)).toNat).map _=_
 rw[Int.toNat_natCast]
 refine map_congr_left fun j _=>?_
 show q.1+(j:Int)+(q.2:Int)*1=q.1+(q.2:Int)+(j:Int)
 omega
theorem fr_blk2 {ls gs:List Int}(h:Lg ls gs):BB.blk (BB.step (frR ls gs).length (frR ls gs))=(BB.sts 0 (bsOf ls gs)).map fun q=>(q.1+(q.2:Int),(q.2:Int)):=by
 have a:=BB.blk_sts 1 (by omega) (bsOf ls gs) 0 (bs_ok h)
 rw[fr_step h]
 simpa using a
theorem fr_taken {ls gs:List Int}(h:Lg ls gs)(z:Nat):((BB.taken z (frR ls gs):Nat):Int)=(ls.map fun x=>if x<(z:Int) then x else(z:Int)).sum:=by
 have t:=(BB.frw_taken z (bsOf ls gs) fun b hb=>(bs_ok h b hb).2).1
 rw[fr_places h,BB.taken_places,t,sum_cast]
 conv=>rhs;rw[←bs_lens h]
 rw[map_map]
 congr 1
 refine map_congr_left fun b _=>?_
 show((min b.1 z:Nat):Int)=if(b.1:Int)<(z:Int) then(b.1:Int) else(z:Int)
 split<;>omega
theorem sts_at:∀(bs:List (Nat×Nat)) (lo:Int) (i:Nat),i<bs.length→((BB.sts lo bs).getD i (0,0)).2=(bs.getD i (0,0)).1∧(i+1<bs.length→((BB.sts lo bs).getD (i+1) (0,0)).1=((BB.sts lo bs).getD i (0,0)).1+((bs.getD i (0,0)).1:Int)+((bs.getD i (0,0)).2:Int))
 |[],_,_,h=>by cases h
 |(n,g)::r,lo,0,h=>by
  refine⟨rfl,fun h2=>?_⟩
  cases r with
  |nil=>simp at h2
  |cons b r=>
   obtain⟨m,k⟩:=b
   rfl
 |(n,g)::r,lo,i+1,h=>by
  obtain⟨a,b⟩:=sts_at r (lo+(n:Int)+(g:Int)) i (by rw[length_cons]at h;omega)
  exact⟨a,fun h2=>b (by rw[length_cons]at h2;omega)⟩
theorem bs_at (ls gs:List Int){i:Nat}(hi:i<ls.length):(bsOf ls gs).getD i (0,0)=((ls.getD i 0).toNat,if i<gs.length then(gs.getD i 0).toNat else(ls.getD i 0).toNat):=by
 unfold bsOf
 rw[getD_eq_getElem?_getD,List.getElem?_map,getElem?_range hi]
 rfl
def sta (ls gs:List Int)(i:Nat):Int:=((BB.sts 0 (bsOf ls gs)).getD i (0,0)).1
theorem blk_at {ls gs:List Int}(h:Lg ls gs)(f:Int→Int→Int){i:Nat}(hi:i<ls.length):((BB.sts 0 (bsOf ls gs)).map fun q=>(f q.1 (q.2:Int),(q.2:Int))).getD i (0,0)=(f (sta ls gs i) (ls.getD i 0),ls.getD i 0):=by
 have sl:i<(BB.sts 0 (bsOf ls gs)).length:=by rw[sts_len,bs_len];exact hi
 have e:=(sts_at (bsOf ls gs) 0 i (by rw[bs_len];exact hi)).1
 rw[bs_at ls gs hi]at e
 have n1:=h.one _ (getD_in hi)
 unfold sta
 rw[getD_eq_getElem?_getD,List.getElem?_eq_getElem sl]at e
 rw[getD_eq_getElem?_getD,List.getElem?_map,List.getElem?_eq_getElem sl,getD_eq_getElem?_getD (l:=BB.sts 0 (bsOf ls gs)),List.getElem?_eq_getElem sl]
 have e:(BB.sts 0 (bsOf ls gs))[i].2=(ls.getD i 0).toNat:=e
 show(f (BB.sts 0 (bsOf ls gs))[i].1 ((BB.sts 0 (bsOf ls gs))[i].2:Int),((BB.sts 0 (bsOf ls gs))[i].2:Int))=(f (BB.sts 0 (bsOf ls gs))[i].1 _,_)
 rw[e,show(((ls.getD i 0).toNat:Nat):Int)=ls.getD i 0 by omega]
theorem sta_next {ls gs:List Int}(h:Lg ls gs){i:Nat}(hi:i<gs.length):sta ls gs (i+1)=sta ls gs i+ls.getD i 0+gs.getD i 0:=by
 have l:=h.len
 have e:=(sts_at (bsOf ls gs) 0 i (by rw[bs_len];omega)).2 (by rw[bs_len];omega)
 have n1:=h.one _ (getD_in (show i<ls.length by omega))
 have g1:=(h.gap i hi).1
 rw[bs_at ls gs (by omega),if_pos hi]at e
 unfold sta
 rw[e]
 show _+((ls.getD i 0).toNat:Int)+((gs.getD i 0).toNat:Int)=_
 omega
theorem up_next {ls gs:List Int}(h:Lg ls gs){i:Nat}(hi:i+1<ls.length):ls.getD i 0≤ls.getD (i+1) 0:=by
 rw[getD_eq_getElem?_getD,getD_eq_getElem?_getD,List.getElem?_eq_getElem (by omega),List.getElem?_eq_getElem hi]
 exact pairwise_iff_getElem.mp h.up i (i+1) (by omega) hi (by omega)
theorem fr_free {ls gs:List Int}(h:Lg ls gs):frB (BB.blk (frR ls gs))=true:=by
 rw[fr_blk h]
 have l:=h.len
 refine frB_yes fun i hi=>?_
 rw[length_map,sts_len,bs_len]at hi
 have e1:=blk_at h (fun x _=>x) (i:=i) (by omega)
 have e2:=blk_at h (fun x _=>x) (i:=i+1) (by omega)
 have e3:=sta_next h (i:=i) (by omega)
 have e4:=up_next h (i:=i) (by omega)
 have e5:=(h.gap i (by omega)).1
 rw[e1,e2]
 unfold okP
 show(!(decide (ls.getD (i+1) 0<ls.getD i 0)||decide (sta ls gs (i+1) - sta ls gs i - ls.getD i 0<ls.getD i 0)))=true
 rw[decide_eq_false (by omega),decide_eq_false (by omega)]
 rfl
theorem fr_free2 {ls gs:List Int}(h:Lg ls gs):frB (BB.blk (BB.step (frR ls gs).length (frR ls gs)))=true:=by
 rw[fr_blk2 h]
 have l:=h.len
 refine frB_yes fun i hi=>?_
 rw[length_map,sts_len,bs_len]at hi
 have e1:=blk_at h (fun x n=>x+n) (i:=i) (by omega)
 have e2:=blk_at h (fun x n=>x+n) (i:=i+1) (by omega)
 have e3:=sta_next h (i:=i) (by omega)
 have e4:=up_next h (i:=i) (by omega)
 have e5:=(h.gap i (by omega)).1
 rw[e1,e2]
 unfold okP
 show(!(decide (ls.getD (i+1) 0<ls.getD i 0)||decide ((sta ls gs (i+1)+ls.getD (i+1) 0) - (sta ls gs i+ls.getD i 0) - ls.getD i 0<ls.getD i 0)))=true
 rw[decide_eq_false (by omega),decide_eq_false (by omega)]
 rfl
open BB (lens outs)
theorem lens_fall (cs:List Int):(lens cs).Pairwise (·≥·):=by
 unfold lens
 refine pairwise_map.mpr (List.pairwise_lt_range.imp fun{i j} hij=>?_)
 have:∀l:List Int,(l.filter fun c=>decide ((j:Int)<c)).length≤(l.filter fun c=>decide ((i:Int)<c)).length:=fun l=>by
  induction l with
  |nil=>exact Nat.le_refl _
  |cons x r ih=>
   by_cases c:(j:Int)<x
   ·rw[filter_cons_of_pos (by exact decide_eq_true c),filter_cons_of_pos (by exact decide_eq_true (show(i:Int)<x by omega)),length_cons,length_cons]
    omega
   ·rw[filter_cons_of_neg (by show ¬decide ((j:Int)<x)=true;rw[decide_eq_false c];exact Bool.false_ne_true)]
    refine Nat.le_trans ih ?_
    rw[filter_cons]
    split
    ·rw[length_cons];omega
    ·exact Nat.le_refl _
 have:=this cs
 show((cs.filter fun c=>decide ((i:Int)<c)).length:Int)≥((cs.filter fun c=>decide ((j:Int)<c)).length:Int)
 omega
theorem lens_one (cs:List Int):∀x∈lens cs,1≤x:=fun x hx=>by
 unfold lens at hx
 obtain⟨j,hj,rfl⟩:=mem_map.mp hx
 have jl:=mem_range.mp hj
 cases cs with
 |nil=>simp at jl
 |cons c r=>
  have jc:(j:Int)<c:=by
   have jl:j<c.toNat:=jl
   omega
  rw[filter_cons_of_pos (by exact decide_eq_true jc),length_cons]
  omega
theorem fr_lens {ls gs ns:List Int}(h:Lg ls gs)(pm:ns.Perm ls)(so:ns.Pairwise (·≥·)):lens (outs (frR ls gs).length (frR ls gs))=ns:=by
 have p:(lens (outs (frR ls gs).length (frR ls gs))).Perm ls:=BB.by_mins (lens_one _) h.one fun s=>by
  rw[←BB.taken_lens s (fr_up h),fr_taken h]
 exact(p.trans pm.symm).eq_of_pairwise (fun a b _ _ h1 h2=>by omega) (lens_fall _) so
theorem fr_near {ls gs:List Int}(h:Lg ls gs):∀p∈frR ls gs,0≤p∧p≤2000:=fun p hp=>by
 have l:=fr_len h
 have s:=h.sum
 have l12:ls.length≤12:=by have:=sum_len ls h.one;omega
 have hl:∀n∈ls,1≤n∧n≤12:=fun n hn=>by
  have:∀(l:List Int),(∀x∈l,1≤x)→∀y∈l,y≤l.sum:=fun l=>by
   induction l with
   |nil=>intro _ y hy;exact absurd hy not_mem_nil
   |cons x r ih=>
    intro hx y hy
    rw[sum_cons]
    have hx1:=hx x mem_cons_self
    have sr:=sum_len r fun z hz=>hx z (mem_cons_of_mem _ hz)
    rcases mem_cons.mp hy with rfl | hy
    ·omega
    ·have:=ih (fun z hz=>hx z (mem_cons_of_mem _ hz)) y hy
     omega
  have:=this ls h.one n hn
  exact⟨h.one n hn,by omega⟩
 have hg:∀n∈gs,0≤n∧n≤100:=fun n hn=>by
  obtain⟨i,hi,rfl⟩:=List.getElem_of_mem hn
  have a:=h.gap i hi
  have b:=(hl _ (getD_in (show i<ls.length by have:=h.len;omega))).1
  rw[getD_eq_getElem?_getD (l:=gs),List.getElem?_eq_getElem hi]at a
  have a:ls.getD i 0≤gs[i]∧gs[i]≤100:=a
  omega
 have:∀i,i≤ls.length→∀p∈(frL ls gs i).1,0≤p∧p≤2000:=fun i=>by
  induction i with
  |zero=>intro _ p hp;exact absurd hp not_mem_nil
  |succ i ih=>
   intro hi p hp
   have hp:p∈(frL ls gs i).1++ups (frL ls gs i).2 (ls.getD i 0).toNat:=hp
   rcases mem_append.mp hp with z | z
   ·exact ih (by omega) p z
   ·obtain⟨b1,b2,_⟩:=frL_bd hl hg h.len i (by omega)
    obtain⟨k,hk,rfl⟩:=mem_map.mp z
    have kl:=mem_range.mp hk
    have lb:=getD_bd hl (show i<ls.length by omega)
    omega
 exact this ls.length (Nat.le_refl _) p hp
theorem fr_bd {ls gs:List Int}(h:Lg ls gs):Far (frR ls gs):=by
 have l:=fr_len h
 have s:=h.sum
 exact⟨by omega,fr_up h,fun p hp=>by have:=fr_near h p hp;omega⟩
end K84
namespace K84
open L2
structure Ll (ls:List Int)(re:Int):Prop where
 one:∀n∈ls,1≤n
 up:ls.Pairwise (·≤·)
 sum:ls.sum+re=12
 re:0≤re
theorem Ll.more {ls:List Int}{re m v:Int}(h:Ll ls re)(hle:∀y∈1::ls,y≤m)(v0:0≤v)(l:m+v≤re):Ll (ls++[m+v]) (re - (m+v)):=by
 have m1:=hle 1 mem_cons_self
 refine⟨fun n hn=>?_,pairwise_append.mpr ⟨h.up,pairwise_singleton ..,fun x hx y hy=>?_⟩,?_,by omega⟩
 ·rcases mem_append.mp hn with z | z
  ·exact h.one n z
  ·rw[mem_singleton.mp z];omega
 ·rw[mem_singleton.mp hy]
  have:=hle x (mem_cons_of_mem _ hx)
  omega
 ·rw[sum_append,List.sum_singleton]
  have:=h.sum
  omega
def spLot:Sp:=fun vs H Q _=>∃(a:Addr) (x:Int) (b:Bool),vs=[.ref a]∧StAt H a x b∧
 ∀(p t u:Addr) (ls gs:List Int) (H':Hp) (x':Int),Keep a H H'→StAt H' a x' b→H' t=some (.tup (ls.map V.int))→H' u=some (.tup (gs.map V.int))→H' p=some (.tup [.ref t,.ref u])→Lg ls gs→Q (.ref p) H'
section
variable {P:Program}{w:World}{K:W.Frag}{mg:Str→Option Value}{base:Heap}
theorem ok_L_lot {f:Addr}{fd:FuncData}(F:Fun K "_law_lot" "_law_lot" s_L_lot f fd)(nb:Nb4 mg)(h_L_take:Has P w K mg base 1 "_law_take" ["_law_state_here","_law_many"] (spTake K))  :
 FnOk P w K mg base CX0 2 f fd ["_law_state_here"] spLot:=by
 have nd:=sc_L_lot.nd
 refine F.ok (k:=1) sc_L_lot (fun vs H Q E h=>?_) (fun cdv A outer s H vs Q E hr h=>?_)
 ·obtain⟨a,x,b,rfl,_⟩:=h
  rfl
 obtain⟨a,x,b,rfl,hS,q⟩:=h
 refine⟨_,(pss_cons (ps_set (i:=1) nd rfl (Or.inl rfl) pe_int)
(pss_cons (ps_set (i:=2) nd rfl (Or.inl rfl) (pe_tup pa_nil))
(pss_cons (ps_for PassesOwn.never rfl (pi_range1 rfl nb.range (pa_cons (pe_def h_L_take hr (pa_cons (pv 0) (pa_cons pe_int pa_nil))) pa_nil)) (pg_name (i:=3) nd rfl (Or.inl rfl))
(pss_cons (ps_set (i:=4) nd rfl (Or.inl rfl) (pe_callB (call_maxT rfl) rfl nb.max boot_max (pa_cons (pe_op op_catA (pe_tup (pa_cons pe_int pa_nil)) (pv 2)) pa_nil)))
(pss_one (ps_if (pt_cmpR op_le (pv 4) (pv 1) (nomark _))
(pss_cons (ps_set (i:=5) nd rfl (Or.inl rfl) (pe_op op_add (pv 4) (pe_def h_L_take hr (pa_cons (pv 0) (pa_cons (pe_callB (call_min2 rfl) rfl nb.min boot_min (pa_cons pe_int (pa_cons (pe_op op_add (pe_op op_sub (pv 1) (pv 4)) pe_int) pa_nil))) pa_nil)))))
(pss_cons (ps_set (i:=2) nd rfl (Or.inl rfl) (pe_op op_catA (pv 2) (pe_tup (pa_cons (pv 5) pa_nil))))
(pss_one (ps_set (i:=1) nd rfl (Or.inl rfl) (pe_op op_sub (pv 1) (pv 5))))))
pss_nil))))
(pss_cons (ps_set (i:=6) nd rfl (Or.inl rfl) (pe_lst pa_nil))
(pss_cons (ps_for PassesOwn.never rfl (pi_tup (pe_slice sl_tupA (pv 2) po_none (po_some (pe_un un_neg pe_int)))) (pg_name (i:=5) nd rfl (Or.inl rfl))
(pss_one (ps_expr (pe_bm PySem.F.plainAttrs_list PySem.F.slot_list_append PySem.F.type_list_append mt_append (pv 6) (pa_cons (pe_op op_add (pv 5) (pe_ix ix_list (pe_lst (pa_cons pe_int (pa_cons pe_int (pa_cons (pe_def h_L_take hr (pa_cons (pv 0) (pa_cons pe_int pa_nil))) (pa_cons (pe_op op_sub pe_int (pv 5)) pa_nil))))) (pe_def h_L_take hr (pa_cons (pv 0) (pa_cons pe_int pa_nil))) (fun _ _=>rfl))) pa_nil)))))
(pss_one (ps_ret (pe_tup (pa_cons (pv 2) (pa_cons (pe_callTy call_tuple_of rfl nb.tuple boot_tuple (pa_cons (pv 6) pa_nil)) pa_nil)))))))))),?_⟩
 have r0:SI a b H H:=⟨⟨x,hS⟩,Keep.refl a H⟩
 refine⟨(by show 0≤sizeLine;decide),fun p0 hp0=>?_⟩
 have r1:=r0.same (same_new hp0 (.tup []))
 have f1:(upd H p0 (.tup [])) p0=some (.tup (([]:List Int).map V.int)):=upd_same
 generalize upd H p0 (.tup [])=H1 at r1 f1 ⊢
 obtain⟨x1,st1⟩:=r1.st
 refine⟨_,rfl,a,x1,b,6,rfl,st1,by decide,by decide,fun v1 x2 v10 v11 d2=>⟨v1,rfl,by omega,by omega,?_⟩⟩
 have r2:=r1.take d2
 have p0a:p0≠a:=ne_of f1 st1.1 (by intro z;cases z)
 have f2:(upd H1 a (.lst [.int x2,.bl b])) p0=some (.tup (([]:List Int).map V.int)):=by rw[upd_ne p0a];exact f1
 generalize upd H1 a (.lst [.int x2,.bl b])=H2 at r2 f2 ⊢
 refine for_range (fun i σ H'=>∃(fo:Addr) (ls:List Int) (re:Int) (o3 o4 o5 o6:Option V),σ=[some (.ref a),some (.int re),some (.ref fo),o3,o4,o5,o6]∧SI a b H H'∧H' fo=some (.tup (ls.map V.int))∧ls.length≤i∧Ll ls re)
  ⟨p0,[],12,_,_,_,_,rfl,r2,f2,Nat.le_refl _,⟨fun n hn=>absurd hn not_mem_nil,.nil,rfl,by decide⟩⟩ (fun i σ H' hi hp=>?_) (fun σ H' hp=>?_)
 ·obtain⟨fo,ls,re,o3,o4,o5,o6,rfl,si,hfo,hl,hre⟩:=hp
  have i6:i<6:=by omega
  refine⟨(by show 1≤sizeLine;decide),fun p1 hp1=>?_⟩
  have t1:=same_new hp1 (.tup [.int 1])
  refine⟨_,rfl,p1,fo,_,_,rfl,rfl,upd_same,t1 _ _ hfo,by rw[length_map,sizeLine_eq];show 1+_≤_;omega,fun p2 H3 s3 e3=>?_⟩
  have S3:=t1.trans s3
  refine⟨p2,1::ls,rfl,SqT.of e3,by simp,fun m hm hle=>?_⟩
  have m1:1≤m:=hle 1 mem_cons_self
  have si3:=si.same S3
  have hfo3:=S3 _ _ hfo
  refine⟨_,rfl,_,rfl,_,_,rfl,rfl,_,rfl,?_⟩
  by_cases c:m≤re
  ·rw[decide_eq_true c]
   refine iteT ?_
   obtain⟨x3,st3⟩:=si3.st
   refine⟨_,rfl,_,rfl,_,rfl,_,rfl,_,_,rfl,rfl,_,_,rfl,rfl,_,_,rfl,a,x3,b,_,rfl,st3,?_,?_,fun v4 x4 v40 v41 d4=>⟨_,_,rfl,rfl,?_⟩⟩
   ·have:=hre.re;split<;>omega
   ·have:=hre.re;have:=hre.sum;have:=sum_len ls hre.one;split<;>omega
   have v4b:v4<re - m+1:=by split at v41<;>omega
   have si4:=si3.take d4
   have foa:fo≠a:=ne_of hfo3 st3.1 (by intro z;cases z)
   have hfo4:(upd H3 a (.lst [.int x4,.bl b])) fo=some (.tup (ls.map V.int)):=by rw[upd_ne foa];exact hfo3
   generalize upd H3 a (.lst [.int x4,.bl b])=H4 at si4 hfo4 ⊢
   refine⟨_,rfl,_,rfl,(by show 1≤sizeLine;decide),fun p5 hp5=>?_⟩
   have t5:=same_new hp5 (.tup [.int (m+v4)])
   refine⟨fo,p5,_,_,rfl,rfl,t5 _ _ hfo4,upd_same,by rw[length_map,length_singleton,sizeLine_eq];omega,fun p6 H6 s6 e6=>?_⟩
   refine⟨_,rfl,_,rfl,_,_,rfl,rfl,?_⟩
   exact⟨p6,ls++[m+v4],re - (m+v4),_,_,_,_,rfl,si4.same (t5.trans s6),by rw[e6,map_append];rfl,by rw[length_append,length_singleton];omega,hre.more hle v40 (by omega)⟩
  ·rw[decide_eq_false c]
   exact iteF ⟨fo,ls,re,_,_,_,_,rfl,si3,hfo3,by omega,hre⟩
 ·obtain⟨fo,ls,re,o3,o4,o5,o6,rfl,si,hfo,hl,hre⟩:=hp
  have l6:ls.length≤6:=by omega
  refine⟨(by show 0≤sizeLine;decide),fun pg hpg=>?_⟩
  have t1:=same_new hpg (.lst [])
  have si1:=si.same t1
  have pga:pg≠a:=si.new hpg
  have hfo1:=t1 _ _ hfo
  have g1:(upd H' pg (.lst [])) pg=some (.lst (([]:List Int).map V.int)):=upd_same
  generalize upd H' pg (.lst [])=H3 at si1 hfo1 g1 ⊢
  refine⟨_,rfl,_,rfl,_,rfl,fo,_,rfl,hfo1,fun p4 H4 s4 e4=>?_⟩
  rw[cut_last,←List.map_dropLast]at e4
  have ld:ls.dropLast.length≤6:=by rw[length_dropLast];omega
  have si4:=si1.same s4
  have g4:=s4 _ _ g1
  have hfo4:=s4 _ _ hfo1
  refine⟨p4,rfl,⟨_,SqT.of e4⟩,?_⟩
  refine for_tup (xs:=ls.dropLast.map V.int) (fun i σ H5=>∃(gs:List Int) (o5:Option V),σ=[some (.ref a),some (.int re),some (.ref fo),o3,o4,o5,some (.ref pg)]∧SI a b H H5∧H5 fo=some (.tup (ls.map V.int))∧H5 p4=some (.tup (ls.dropLast.map V.int))∧H5 pg=some (.lst (gs.map V.int))∧gs.length=i∧∀j,j<i→ls.getD j 0≤gs.getD j 0∧gs.getD j 0≤100)
   ⟨[],_,rfl,si4,hfo4,e4,g4,rfl,fun j hj=>by cases hj⟩ (fun i σ H5 _ hp=>by obtain⟨gs,o5,_,_,_,z,_⟩:=hp;exact SqT.of z) (fun i z σ H5 hz hp=>?_) (fun σ H5 hp=>?_)
  ·obtain⟨gs,o5,rfl,si5,hfo5,e5,g5,gl,gap⟩:=hp
   have il:i<6:=by have:=(List.getElem?_eq_some_iff.mp hz).1;rw[length_map]at this;omega
   obtain⟨le,rfl,ele⟩:=int_at hz
   have dl0:i<ls.dropLast.length:=by have:=(List.getElem?_eq_some_iff.mp hz).1;rw[length_map]at this;exact this
   have el:ls.getD i 0=le:=by
    rw[←ele,getD_eq_getElem?_getD,getD_eq_getElem?_getD,List.dropLast_eq_take,List.getElem?_take_of_lt (by rw[length_dropLast]at dl0;exact dl0)]
   have leb:1≤le∧le≤12:=by
    have m:=getD_in (show i<ls.length by rw[length_dropLast]at dl0;omega)
    rw[el]at m
    have a:=hre.one _ m
    have b:=hre.sum
    have c:=hre.re
    have:∀(l:List Int),(∀x∈l,1≤x)→∀y∈l,y≤l.sum:=fun l=>by
     induction l with
     |nil=>intro _ y hy;exact absurd hy not_mem_nil
     |cons x r ih=>
      intro hx y hy
      rw[sum_cons]
      have hx1:=hx x mem_cons_self
      have sr:=sum_len r fun z hz=>hx z (mem_cons_of_mem _ hz)
      rcases mem_cons.mp hy with rfl | hy
      ·omega
      ·have:=ih (fun z hz=>hx z (mem_cons_of_mem _ hz)) y hy
       omega
    have:=this ls hre.one le m
    omega
   obtain⟨x5,st5⟩:=si5.st
   have foa:fo≠a:=ne_of hfo5 st5.1 (by intro z;cases z)
   have p4a:p4≠a:=ne_of e5 st5.1 (by intro z;cases z)
   refine⟨_,rfl,.inl ⟨rfl,_,SqL.of g5⟩,_,rfl,_,rfl,a,x5,b,9,rfl,st5,by decide,by decide,fun v6 x6 v60 v61 d6=>?_⟩
   have si6:=si5.take d6
   have k6:=keep_upd a H5 (.lst [.int x6,.bl b])
   have hfo6:=k6 _ _ foa hfo5
   have e6:=k6 _ _ p4a e5
   have g6:=k6 _ _ pga g5
   generalize upd H5 a (.lst [.int x6,.bl b])=H6 at si6 hfo6 e6 g6 ⊢
   refine⟨_,rfl,_,_,rfl,rfl,(by show 4≤sizeLine;decide),fun p7 hp7=>?_⟩
   have t7:=same_new hp7 (.lst [.int 0,.int 1,.int v6,.int (100 - le)])
   have si7:=si6.same t7
   have p7a:=si6.new hp7
   obtain⟨x7,st7⟩:=si7.st
   refine⟨_,rfl,a,x7,b,4,rfl,st7,by decide,by decide,fun v8 x8 v80 v81 d8=>?_⟩
   have si8:=si7.take d8
   have k8:=keep_upd a (upd H6 p7 (.lst [.int 0,.int 1,.int v6,.int (100 - le)])) (.lst [.int x8,.bl b])
   have f8:=k8 _ _ p7a upd_same
   have hfo8:=k8 _ _ foa (t7 _ _ hfo6)
   have e8:=k8 _ _ p4a (t7 _ _ e6)
   have g8:=k8 _ _ pga (t7 _ _ g6)
   generalize upd (upd H6 p7 (.lst [.int 0,.int 1,.int v6,.int (100 - le)])) a (.lst [.int x8,.bl b])=H8 at si8 f8 hfo8 e8 g8 ⊢
   obtain⟨u,hu,um,_⟩:=at_mem (xs:=[V.int 0,.int 1,.int v6,.int (100 - le)]) v80 (by simpa using v81)
   obtain⟨wi,rfl,w0,w1⟩:∃wi:Int,u=.int wi∧0≤wi∧le+wi≤100:=by
    simp only[mem_cons,not_mem_nil,or_false]at um
    rcases um with rfl | rfl | rfl | rfl<;>exact⟨_,rfl,by omega,by omega⟩
   refine⟨p7,_,_,_,rfl,rfl,SqL.of f8,hu,_,_,rfl,rfl,pg,_,_,rfl,rfl,g8,by rw[length_map,sizeLine_eq];omega,?_⟩
   obtain⟨x9,st9⟩:=si8.st
   have fog:fo≠pg:=fun z=>by rw[z,g8]at hfo8;cases hfo8
   have p4g:p4≠pg:=fun z=>by rw[z,g8]at e8;cases e8
   have kk:SI a b H (upd H8 pg (.lst (gs.map V.int++[.int (le+wi)]))):=by
    refine⟨⟨x9,by rw[upd_ne pga.symm];exact st9.1,st9.2⟩,fun c o n h=>?_⟩
    have z:=si8.kp c o n h
    by_cases q:c=pg
    ·rw[q]at h
     have:H' pg=none:=hpg
     rw[si.kp pg o pga h]at this
     cases this
    ·rw[upd_ne q];exact z
   refine⟨gs++[le+wi],_,rfl,kk,by rw[upd_ne fog];exact hfo8,by rw[upd_ne p4g];exact e8,by rw[upd_same,map_append];rfl,by rw[length_append,length_singleton,gl],fun j hj=>?_⟩
   by_cases c:j<i
   ·rw[getD_eq_getElem?_getD (l:=gs++[le+wi]),getElem?_append_left (by omega),←getD_eq_getElem?_getD]
    exact gap j c
   ·obtain rfl:j=i:=by omega
    rw[getD_eq_getElem?_getD (l:=gs++[le+wi]),getElem?_append_right (by omega),gl,Nat.sub_self,el]
    show le≤le+wi∧le+wi≤100
    omega
  ·obtain⟨gs,o5,rfl,si5,hfo5,e5,g5,gl,gap⟩:=hp
   rw[length_map]at gl gap
   refine⟨_,rfl,_,rfl,pg,_,rfl,.inl ⟨SqL.of g5,fun t6 ht6=>?_⟩⟩
   have t7:=same_new ht6 (.tup (gs.map V.int))
   have f7:(upd H5 t6 (.tup (gs.map V.int))) t6=some (.tup (gs.map V.int)):=upd_same
   refine⟨(by show 2≤sizeLine;decide),fun p8 hp8=>?_⟩
   have t8:=same_new hp8 (.tup [.ref fo,.ref t6])
   have si8:=si5.same (t7.trans t8)
   obtain⟨x8,st8⟩:=si8.st
   exact q p8 fo t6 ls gs _ x8 si8.kp st8 (t8 _ _ (t7 _ _ hfo5)) (t8 _ _ f7) upd_same ⟨hre.one,hre.up,by have:=hre.sum;have:=hre.re;omega,by rw[gl,length_dropLast],fun j hj=>gap j (by omega)⟩
end
end K84
namespace L2
abbrev IsTrip (h:Heap)(a:Addr)(x y v:Value):Prop:=h.get? a=some {cls:=.type "tuple",data:=.seq #[x,y,v]}
section
variable {P:Program}{w:World}{A:Around}{E:Value→Shared→Prop}{s:Shared}{z TI TO i j n l m r:Addr}{p1 p2 p3:Nat→Heap→Prop}{xs ys vs:Array Value}{k:Nat}
theorem zip3_item {x y v a b c:Value}{Q:Option Value→Shared→Prop}(nd:[z,TI,TO,i,j,n].Nodup)(c1:l∉[z,TI,TO,i,j,n])(c2:m∉[z,TI,TO,i,j,n])(c3:r∉[z,TI,TO,i,j,n])(N1:Nx P w i l p1 xs)(N2:Nx P w j m p2 ys)(N3:Nx P w n r p3 vs)
 (hz:IsZip s.heap z TI TO .none) (hTI:IsTrip s.heap TI (.ref i) (.ref j) (.ref n)) (hTO:IsTrip s.heap TO a b c) (q1:p1 k s.heap) (q2:p2 k s.heap) (q3:p3 k s.heap) (hx:xs[k]?=some x) (hy:ys[k]?=some y) (hv:vs[k]?=some v)
 (hQ:∀h',IsZip h' z TI TO (rawInt s.heap.objs.size)→IsTrip h' TO x y v→p1 (k+1) h'→p2 (k+1) h'→p3 (k+1) h'→IsTrip h' s.heap.objs.size x y v→h'.objs.size=s.heap.objs.size+1→
  (∀c o,c≠z→c≠TO→c≠i→c≠j→c≠n→s.heap.get? c=some o→h'.get? c=some o)→Q (some (.ref s.heap.objs.size)) {s with heap:=h'}) :
 wpAny (model P w) A (pyNext (.ref z)) Q E s:=by
 simp only[nodup_cons,mem_cons,not_mem_nil,or_false,not_or,not_false_eq_true,and_true,nodup_nil]at nd c1 c2 c3
 obtain⟨⟨zTI,zTO,zi,zj,zn⟩,⟨TITO,TIi,TIj,TIn⟩,⟨TOi,TOj,TOn⟩,⟨ij,inn⟩,jn⟩:=nd
 obtain⟨lz,lTI,lTO,li,lj,ln⟩:=c1
 obtain⟨mz,mTI,mTO,mi,mj,mn⟩:=c2
 obtain⟨rz,rTI,rTO,ri,rj,rn⟩:=c3
 have hT:s.TypeIs (.ref z) "zip":=⟨_,hz,rfl⟩
 unfold pyNext
 refine wpAny_bind (wpAny_attempt (wpAny_callSpecial?_slot (name:=Str.ofString "__next__") hT F.slot_zip_next (wpAny_call_entry F.slot_zip_next hT F.entry_zip_next ?_ (F.args_zip_next_1 _))))
 obtain⟨hp,g,d,tk,os⟩:=s
 wp_walk using wpAny_onRaise,N1.item _ k _ _ _ x
 ·exact N1.keep _ _ _ q1 (fun o e=>get?_update_of_ne _ zi e) fun o e=>get?_update_of_ne _ (Ne.symm lz) e
 ·exact hx
 intro g2 r2 s2
 have o2:∀{d:Addr} {o:Obj},d≠z→d≠i→hp.get? d=some o→g2.get? d=some o:=fun nz ni e=>s2.extBut _ _ ni (get?_update_of_ne _ (Ne.symm nz) e)
 have t2:IsTrip g2 TO a b c:=o2 (Ne.symm zTO) TOi hTO
 wp_walk using wpAny_onRaise,N2.item _ k _ _ _ y
 ·exact N2.keep _ _ _ q2 (fun o e=>get?_update_of_ne _ TOj (o2 (Ne.symm zj) (Ne.symm ij) e)) fun o e=>get?_update_of_ne _ (Ne.symm mTO) (o2 mz mi e)
 ·exact hy
 intro g4 r4 s4
 have o4:∀{d:Addr} {o:Obj},d≠z→d≠i→d≠j→d≠TO→hp.get? d=some o→g4.get? d=some o:=fun nz ni nj nT e=>s4.extBut _ _ nj (get?_update_of_ne _ (Ne.symm nT) (o2 nz ni e))
 have t4:IsTrip g4 TO x b c:=s4.extBut _ _ TOj (get?_update_self (Obj.mapSeq fun q=>q.setIfInBounds 0 x) t2 rfl)
 wp_walk using wpAny_onRaise,N3.item _ k _ _ _ v
 ·exact N3.keep _ _ _ q3 (fun o e=>get?_update_of_ne _ TOn (o4 (Ne.symm zn) (Ne.symm inn) (Ne.symm jn) (Ne.symm TOn) e)) fun o e=>get?_update_of_ne _ (Ne.symm rTO) (o4 rz ri rj rTO e)
 ·exact hv
 intro g6 r6 s6
 have o6:∀{d:Addr} {o:Obj},d≠z→d≠i→d≠j→d≠n→d≠TO→hp.get? d=some o→g6.get? d=some o:=fun nz ni nj nn nT e=>s6.extBut _ _ nn (get?_update_of_ne _ (Ne.symm nT) (o4 nz ni nj nT e))
 have t6:IsTrip g6 TO x y c:=s6.extBut _ _ TOn (get?_update_self (Obj.mapSeq fun q=>q.setIfInBounds (0+1) y) t4 rfl)
 have nz:TO≠z:=Ne.symm zTO
 have z2:=s2.extBut _ _ zi (get?_update_self (Obj.mapFields fun q=>q.setIfInBounds 0 Value.ellipsis) hz rfl)
 have z6:=s6.extBut _ _ zn (get?_update_of_ne (Obj.mapSeq fun q=>q.setIfInBounds (0+1) y) nz (s4.extBut _ _ zj (get?_update_of_ne (Obj.mapSeq fun q=>q.setIfInBounds 0 x) nz z2)))
 wp_walk
 refine⟨_,rfl,wpAny_pure ?_⟩
 have sz:(g6.update TO (Obj.mapSeq fun q=>q.setIfInBounds (0+1+1) v)).objs.size=hp.objs.size:=by
  rw[size_after_update,s6.1]
  show(g4.update TO _).objs.size=_
  rw[size_after_update,s4.1]
  show(g2.update TO _).objs.size=_
  rw[size_after_update,s2.1]
  exact size_after_update ..
 rw[sz]
 have zl:z<hp.objs.size:=lt_size hz
 have last:∀{G:Heap} {c:Addr} {o:Obj} {f1 f2:Obj→Obj},c≠z→G.get? c=some o→((G.update z f1).update z f2).get? c=some o:=fun n e=>get?_update_of_ne _ (Ne.symm n) (get?_update_of_ne _ (Ne.symm n) e)
 have mid:∀{c:Addr} {o:Obj} {T:Obj},c≠TO→g6.get? c=some o→((g6.update TO (Obj.mapSeq fun q=>q.setIfInBounds (0+1+1) v)).push T).get? c=some o:=fun n e=>get?_push_of_some _ (get?_update_of_ne _ (Ne.symm n) e)
 have up4:∀{d:Addr} {o:Obj},d≠n→d≠TO→g4.get? d=some o→g6.get? d=some o:=fun nn nT e=>s6.extBut _ _ nn (get?_update_of_ne _ (Ne.symm nT) e)
 have up2:∀{d:Addr} {o:Obj},d≠j→d≠n→d≠TO→g2.get? d=some o→g6.get? d=some o:=fun nj nn nT e=>up4 nn nT (s4.extBut _ _ nj (get?_update_of_ne _ (Ne.symm nT) e))
 refine hQ _ (get?_update_self _ (get?_update_self _ (mid (Ne.symm nz) z6) rfl) rfl) (last nz (get?_push_of_some _ (get?_update_self _ t6 rfl)))
  (N1.keep _ _ _ r2 (fun o e=>last (Ne.symm zi) (mid (Ne.symm TOi) (up2 ij inn (Ne.symm TOi) e))) fun o e=>last lz (mid lTO (up2 lj ln lTO e)))
  (N2.keep _ _ _ r4 (fun o e=>last (Ne.symm zj) (mid (Ne.symm TOj) (up4 jn (Ne.symm TOj) e))) fun o e=>last mz (mid mTO (up4 mn mTO e)))
  (N3.keep _ _ _ r6 (fun o e=>last (Ne.symm zn) (mid (Ne.symm TOn) e)) fun o e=>last rz (mid rTO e))
  (last (Nat.ne_of_gt zl) (get?_push_at sz.symm rfl)) ?_ fun c o n1 n2 n3 n4 n5 e=>last n1 (mid n2 (o6 n1 n3 n4 n5 n2 e))
 rw[size_after_update,size_after_update,Heap.size_push,sz]
theorem zip3_done {a b c:Value}{Q:Option Value→Shared→Prop}(hh:A.handled=none)(nd:[z,TI,TO,i,j,n].Nodup)(c1:l∉[z,TI,TO,i,j,n])(c2:m∉[z,TI,TO,i,j,n])(N1:Nx P w i l p1 xs)(N2:Nx P w j m p2 ys)
 (hz:IsZip s.heap z TI TO .none) (hTI:IsTrip s.heap TI (.ref i) (.ref j) (.ref n)) (hTO:IsTrip s.heap TO a b c) (q1:p1 k s.heap) (q2:p2 k s.heap) (hend:xs[k]?=none∨ys[k]?=none)
 (hQ:∀h',(∀c o,c≠z→c≠TO→c≠i→c≠j→s.heap.get? c=some o→h'.get? c=some o)→Q none {s with heap:=h'}):wpAny (model P w) A (pyNext (.ref z)) Q E s:=by
 simp only[nodup_cons,mem_cons,not_mem_nil,or_false,not_or,not_false_eq_true,and_true,nodup_nil]at nd c1 c2
 obtain⟨⟨zTI,zTO,zi,zj,zn⟩,⟨TITO,TIi,TIj,TIn⟩,⟨TOi,TOj,TOn⟩,⟨ij,inn⟩,jn⟩:=nd
 obtain⟨lz,lTI,lTO,li,lj,ln⟩:=c1
 obtain⟨mz,mTI,mTO,mi,mj,mn⟩:=c2
 have hT:s.TypeIs (.ref z) "zip":=⟨_,hz,rfl⟩
 have stop:∀(G:Heap) (e:Addr) (o:Obj),G.get? z=some ⟨.type "zip",none,.fields #[.ellipsis,.bool false,.bool false,.ref TI,.ref TO],#[]⟩→G.get? e=some o→o.cls=.type "StopIteration"→
  (∀c o,c≠z→c≠TO→c≠i→c≠j→s.heap.get? c=some o→G.get? c=some o)→
  wpAny (model P w) A.in1 (setField (.ref z) 0 .none) (fun _ s''=>wpAny (model P w) A (do if(←isInstance (.ref e) (.type "StopIteration"))=true then pure none else throw (.ref e)) Q E s'') (fun e' s''=>wpAny (model P w) A (do if(←isInstance e' (.type "StopIteration"))=true then pure none else throw e') Q E s'') {s with heap:=G}:=fun G e o g1 g2 hc kp=>by
  have ne:z≠e:=fun q=>by subst q;rw[g1]at g2;cases g2;exact absurd (show Value.type "zip" = Value.type "StopIteration" from hc) (by decide)
  have g3:=get?_update_of_ne (Obj.mapFields fun q=>q.setIfInBounds 0 Value.none) ne g2
  obtain⟨hp,gs,d,tk,os⟩:=s
  have ht:Shared.TypeIs ⟨G.update z (Obj.mapFields fun q=>q.setIfInBounds 0 Value.none),gs,d,tk,os⟩ (.ref e) "StopIteration":=⟨o,g3,hc⟩
  have sub:=isSubtype_stop
  wp_walk
  exact hQ _ fun c o n1 n2 n3 n4 q=>get?_update_of_ne _ (Ne.symm n1) (kp c o n1 n2 n3 n4 q)
 unfold pyNext
 refine wpAny_bind (wpAny_attempt (wpAny_callSpecial?_slot (name:=Str.ofString "__next__") hT F.slot_zip_next (wpAny_call_entry F.slot_zip_next hT F.entry_zip_next ?_ (F.args_zip_next_1 _))))
 have z1:=get?_update_self (Obj.mapFields fun q=>q.setIfInBounds 0 Value.ellipsis) hz rfl
 obtain⟨hp,g,d,tk,os⟩:=s
 have f1:p1 k (hp.update z (Obj.mapFields fun q=>q.setIfInBounds 0 Value.ellipsis)):=N1.keep _ _ _ q1 (fun o e=>get?_update_of_ne _ zi e) fun o e=>get?_update_of_ne _ (Ne.symm lz) e
 cases hx:xs[k]? with
 |none=>
  wp_walk using wpAny_onRaise,N1.done _ k
  ·exact hh
  ·exact f1
  ·exact hx
  intro g2 e s2 he
  obtain⟨o,ho,hc⟩:=he
  exact stop g2 e o (s2 _ _ zi z1) ho hc fun c o n1 n2 n3 n4 q=>s2 _ _ n3 (get?_update_of_ne _ (Ne.symm n1) q)
 |some x=>
  have hy:ys[k]?=none:=hend.resolve_left (by rw[hx];exact nofun)
  wp_walk using wpAny_onRaise,N1.item _ k _ _ _ x
  ·exact f1
  ·exact hx
  intro g2 r2 s2
  have t2:IsTrip g2 TO a b c:=s2.extBut _ _ TOi (get?_update_of_ne _ zTO hTO)
  wp_walk using wpAny_onRaise,N2.done _ k
  ·exact hh
  ·exact N2.keep _ _ _ q2 (fun o e=>get?_update_of_ne _ TOj (s2.extBut _ _ (Ne.symm ij) (get?_update_of_ne _ zj e))) fun o e=>get?_update_of_ne _ (Ne.symm mTO) (s2.extBut _ _ mi (get?_update_of_ne _ (Ne.symm mz) e))
  ·exact hy
  intro g4 e s4 he
  obtain⟨o,ho,hc⟩:=he
  exact stop g4 e o (s4 _ _ zj (get?_update_of_ne _ (Ne.symm zTO) (s2.extBut _ _ zi z1))) ho hc
   fun c o n1 n2 n3 n4 q=>s4 _ _ n4 (get?_update_of_ne _ (Ne.symm n2) (s2.extBut _ _ n3 (get?_update_of_ne _ (Ne.symm n1) q)))
end
def It3 (K:W.Frag)(l m r:Addr):It where
 go:=fun i H=>∃xs ys vs x y v,SqK false K H l xs∧SqK false K H m ys∧SqK true K H r vs∧xs[i]?=some x∧ys[i]?=some y∧vs[i]?=some v
 yld:=fun i H v H'=>∃p x y u,v=.ref p∧H p=none∧H'=upd H p (.tup [x,y,u])∧(∀xs,SqK false K H l xs→xs[i]?=some x)∧(∀ys,SqK false K H m ys→ys[i]?=some y)∧∀vs,SqK true K H r vs→vs[i]?=some u
 stop:=fun i H=>∃xs ys,SqK false K H l xs∧SqK false K H m ys∧(xs[i]?=none∨ys[i]?=none)
theorem turn_zip3 {P:Program}{w:World}{K:W.Frag}{es:List Expr}{k0:Nat}{pos:Pos}{z TI TO i j n l m r:Addr}(D:[z,TI,TO,i,j,n].Nodup)
 (c1:l∉[z,TI,TO,i,j,n]) (c2:m∉[z,TI,TO,i,j,n]) (c3:r∉[z,TI,TO,i,j,n]) :
 Turn P w K (.Tuple es k0 pos) (It3 K l m r) [z,TI,TO,i,j,n] z (fun k h=>IsZip h z TI TO .none∧IsTrip h TI (.ref i) (.ref j) (.ref n)∧(∃a b c,IsTrip h TO a b c)∧ItAt false i l k h∧ItAt false j m k h∧ItAt true n r k h) where
 mem:=by simp
 obj:=fun k h ⟨hz,h1,⟨a,b,c',h2⟩,h3,h4,h5⟩ c hc=>by
  obtain⟨o1,f1,_,e1,d1,_⟩:=h3.obj
  obtain⟨o2,f2,_,e2,d2,_⟩:=h4.obj
  obtain⟨o3,f3,_,e3,d3,_⟩:=h5.obj
  simp only[mem_cons,not_mem_nil,or_false]at hc
  rcases hc with rfl | rfl | rfl | rfl | rfl | rfl
  ·exact⟨_,hz,fun v q=>by cases q⟩
  ·exact⟨_,h1,fun v q=>by cases q⟩
  ·exact⟨_,h2,fun v q=>by cases q⟩
  ·exact⟨_,e1,fun v q=>by rw[d1]at q;cases q⟩
  ·exact⟨_,e2,fun v q=>by rw[d2]at q;cases q⟩
  ·exact⟨_,e3,fun v q=>by rw[d3]at q;cases q⟩
 keep:=fun k h h' ⟨hz,h1,⟨a,b,c',h2⟩,h3,h4,h5⟩ kp=>⟨kp z (by simp) _ hz,kp TI (by simp) _ h1,⟨a,b,c',kp TO (by simp) _ h2⟩,h3.at fun o e=>kp i (by simp) o e,h4.at fun o e=>kp j (by simp) o e,h5.at fun o e=>kp n (by simp) o e⟩
 item:=by
  intro X hP hw hK hc k pins s σ H E I hf st hg
  subst hP hw hK
  obtain⟨xs,ys,vs,x,y,v,hl,hm,hr,hx,hy,hv⟩:=hg
  obtain⟨hz,h1,⟨a,b,c',h2⟩,h3,h4,h5⟩:=st
  have cl:=c1
  have cm:=c2
  have cr:=c3
  have ND:=D
  simp only[nodup_cons,mem_cons,not_mem_nil,or_false,not_or,not_false_eq_true,and_true,nodup_nil]at D
  obtain⟨⟨zTI,zTO,zi,zj,zn⟩,⟨TITO,TIi,TIj,TIn⟩,⟨TOi,TOj,TOn⟩,⟨ij,inn⟩,jn⟩:=D
  simp only[mem_cons,not_mem_nil,or_false,not_or]at c1 c2 c3
  obtain⟨its,r1,_,n1⟩:=I.sqk hl
  obtain⟨jts,r2,_,n2⟩:=I.sqk hm
  obtain⟨kts,r3,_,n3⟩:=I.sqk hr
  obtain⟨p1,N1,u1,v1⟩:=n1 i c1.2.2.2.1
  obtain⟨p2,N2,u2,v2⟩:=n2 j c2.2.2.2.2.1
  obtain⟨p3,N3,u3,v3⟩:=n3 n c3.2.2.2.2.2
  obtain⟨u,hu,ru⟩:=r1.get hx
  obtain⟨u',hu',ru'⟩:=r2.get hy
  obtain⟨u'',hu'',ru''⟩:=r3.get hv
  refine zip3_item ND cl cm cr N1 N2 N3 hz h1 h2 (u1 k h3) (u2 k h4) (u3 k h5) (x:=u) (y:=u') (v:=u'') (by simpa using hu) (by simpa using hu') (by simpa using hu'') fun h' z1 z2 z3 z4 z45 z5 z6 kp=>?_
  refine⟨_,rfl,wpAny_letOwnedTupleGo_zip z1 fun h'' y1 sb=>?_⟩
  have fz:H s.heap.objs.size=none:=I.hok.fresh (Nat.le_refl _)
  have zlt:z<s.heap.objs.size:=lt_size hz
  have mine:∀c∈[z,TI,TO,i,j,n],c≠s.heap.objs.size:=fun c hc'=>by
   obtain⟨o1,f1,_,e1,d1,_⟩:=h3.obj
   obtain⟨o2,f2,_,e2,d2,_⟩:=h4.obj
   obtain⟨o3,f3,_,e3,d3,_⟩:=h5.obj
   simp only[mem_cons,not_mem_nil,or_false]at hc'
   rcases hc' with rfl | rfl | rfl | rfl | rfl | rfl
   ·exact Nat.ne_of_lt (lt_size hz)
   ·exact Nat.ne_of_lt (lt_size h1)
   ·exact Nat.ne_of_lt (lt_size h2)
   ·exact Nat.ne_of_lt (lt_size e1)
   ·exact Nat.ne_of_lt (lt_size e2)
   ·exact Nat.ne_of_lt (lt_size e3)
  have kp2:∀c o,c∉[z,TI,TO,i,j,n]→s.heap.get? c=some o→h''.get? c=some o:=fun c o hc' e=>by
   simp only[mem_cons,not_mem_nil,or_false,not_or]at hc'
   exact sb.extBut _ _ hc'.1 (kp c o hc'.1 hc'.2.2.1 hc'.2.2.2.1 hc'.2.2.2.2.1 hc'.2.2.2.2.2 e)
  have tp:h''.get? s.heap.objs.size=some {cls:=.type "tuple",data:=.seq #[u,u',u'']}:=sb.extBut _ _ (mine z (by simp)).symm z5
  have notH:∀c∈[z,TI,TO,i,j,n],H c=none:=fun c hc'=>(hf c hc').1
  have I1:Inv X pins σ (upd H s.heap.objs.size (.tup [x,y,v])) {s with heap:=h''}:=by
   have un:Un X.fs [z,TI,TO,i,j,n] H (upd H s.heap.objs.size (.tup [x,y,v])) s.heap h'':=
    ⟨fun c o e n nf hx=>kp2 c o hx e,fun c o e n nf hx=>⟨o.slots,kp2 c o hx e⟩,fun c o e n hx=>by rw[upd_ne (Nat.ne_of_lt (lt_size e))];exact n,
     fun c o e hx=>⟨o,kp2 c o hx e⟩,fun c xs e=>by rw[upd_ne (ne_of_none e fz)];exact e,fun c o xs e=>by rw[upd_ne (ne_of_none e fz)];exact e,fun c ps e=>⟨#[],by rw[upd_ne (ne_of_none e fz),e];simp⟩⟩
   have hok:HOk X.prog X.w (upd H s.heap.objs.size (.tup [x,y,v])) h'':=fun c o e=>by
    by_cases hcs:c=s.heap.objs.size
    ·subst hcs
     rw[upd_same]at e
     cases e
     exact⟨by show 3≤sizeLine;decide,[u,u',u''],.cons ru (.cons ru' (.cons ru'' .nil)),⟨_,tp,rfl,_,rfl⟩⟩
    ·rw[upd_ne hcs]at e
     refine(I.hok c o e).stay (fun d w' hd q=>kp2 d w' (fun zz=>?_) q) (fun d q=>?_) fun d w' q=>?_
     ·have hn:=notH d zz
      rcases hd with rfl | hd
      ·rw[hn]at e;cases e
      ·rw[hn]at hd;cases hd
     ·rw[upd_ne (ne_of_none q fz)];exact q
     ·rw[upd_ne (ne_of_none q fz)];exact q
   have hch:∀b∈[z,TI,TO,i,j,n],(b∈X.ex∨X.s₀.heap.objs.size≤b)∧b≠X.env.locals∧(∀x c,X.env.cells.lookup x=some c→c≠b)∧∀p∈X.pn++pins,p.1≠b:=fun b hb=>⟨(hf b hb).2.2.2.1,(hf b hb).2.1,(hf b hb).2.2.2.2.1,(hf b hb).2.2.2.2.2⟩
   refine I.step (g':=s.gens) (d':=s.drawn) (t':=s.toks) (ch:=[z,TI,TO,i,j,n]) hch (fun c o _ _ hc' e _=>kp2 c o hc' e) (fun c o _ _ hc' e _=>⟨o.slots,kp2 c o hc' e⟩) (fun c o hc' e n=>un.free c o e n hc') (fun c o hc' e=>un.there c o e hc') un.tups un.frzs un.tbls (fun m' hm'=>?_) hok I.bare
   obtain⟨o,es',ep,ho,r⟩:=hm'
   exact⟨o,es',ep,kp2 _ o (fun zz=>(hf _ zz).2.1 rfl) ho,r⟩
  refine⟨.ref s.heap.objs.size,_,I1,rfl,⟨s.heap.objs.size,x,y,v,rfl,fz,rfl,fun xs' q=>by rw[I.sqk_inj q hl];exact hx,fun ys' q=>by rw[I.sqk_inj q hm];exact hy,fun vs' q=>by rw[I.sqk_inj q hr];exact hv⟩,?_,fun c hc'=>?_⟩
  ·have up:∀c o,c≠z→h'.get? c=some o→h''.get? c=some o:=fun c o hc' e=>sb.extBut _ _ hc' e
   exact⟨y1,up _ _ (Ne.symm zTI) (kp _ _ (Ne.symm zTI) TITO TIi TIj TIn h1),⟨_,_,_,up _ _ (Ne.symm zTO) z2⟩,(v1 _ _ z3).at fun o e=>up _ o (Ne.symm zi) e,(v2 _ _ z4).at fun o e=>up _ o (Ne.symm zj) e,(v3 _ _ z45).at fun o e=>up _ o (Ne.symm zn) e⟩
  ·rw[upd_ne (mine c hc')]
   exact notH c hc'
 done:=by
   intro X hP hw hK hc k pins s σ H E I hf st hg
   subst hP hw hK
   obtain⟨xs,ys,hl,hm,hend⟩:=hg
   obtain⟨hz,h1,⟨a,b,c',h2⟩,h3,h4,h5⟩:=st
   have cl:=c1
   have cm:=c2
   simp only[mem_cons,not_mem_nil,or_false,not_or]at c1 c2
   obtain⟨its,r1,_,n1⟩:=I.sqk hl
   obtain⟨jts,r2,_,n2⟩:=I.sqk hm
   obtain⟨p1,N1,u1,v1⟩:=n1 i c1.2.2.2.1
   obtain⟨p2,N2,u2,v2⟩:=n2 j c2.2.2.2.2.1
   refine zip3_done (I.ok.hd hc) D cl cm N1 N2 hz h1 h2 (u1 k h3) (u2 k h4) (hend.elim (fun q=>.inl (by simpa using r1.none_of q)) fun q=>.inr (by simpa using r2.none_of q)) fun h' kp=>⟨rfl,?_⟩
   have kp2:∀c o,c∉[z,TI,TO,i,j,n]→s.heap.get? c=some o→h'.get? c=some o:=fun c o hc' e=>by
    simp only[mem_cons,not_mem_nil,or_false,not_or]at hc'
    exact kp c o hc'.1 hc'.2.2.1 hc'.2.2.2.1 hc'.2.2.2.2.1 e
   have hch:∀b∈[z,TI,TO,i,j,n],(b∈X.ex∨X.s₀.heap.objs.size≤b)∧b≠X.env.locals∧(∀x c,X.env.cells.lookup x=some c→c≠b)∧∀p∈X.pn++pins,p.1≠b:=fun b hb=>⟨(hf b hb).2.2.2.1,(hf b hb).2.1,(hf b hb).2.2.2.2.1,(hf b hb).2.2.2.2.2⟩
   refine I.step (g':=s.gens) (d':=s.drawn) (t':=s.toks) (ch:=[z,TI,TO,i,j,n]) hch (fun c o _ _ hc' e _=>kp2 c o hc' e) (fun c o _ _ hc' e _=>⟨o.slots,kp2 c o hc' e⟩) (fun _ _ _ _ n=>n) (fun c o hc' e=>⟨o,kp2 c o hc' e⟩) (fun _ _ e=>e) (fun _ _ _ e=>e) (fun b ps e=>⟨#[],by rw[e];simp⟩) (fun m' hm'=>?_) (fun c o e=>?_) I.bare
   ·obtain⟨o,es',ep,ho,r⟩:=hm'
    exact⟨o,es',ep,kp2 _ o (fun zz=>(hf _ zz).2.1 rfl) ho,r⟩
   ·refine(I.hok c o e).stay (fun d w' hd q=>kp2 d w' (fun zz=>?_) q) (fun _ q=>q) fun _ _ q=>q
    have hn:=(hf d zz).1
    rcases hd with rfl | hd
    ·rw[hn]at e;cases e
    ·rw[hn]at hd;cases hd
 self:=fun A k s Q E st h=>wpAny_pyIter_zip st.1 h
theorem zip_call3 (a b c:Value):checkTypeCall "zip" ⟨[a,b,c],[]⟩=pure ():=by kernel_rfl
theorem zip_new3 (a b c:Value):checkBuiltinCall "zip.__new__" ⟨[.type "zip",a,b,c],[]⟩=pure ():=by kernel_rfl
theorem obj_init4 (a b c d:Value):argsOk "object.__init__" ⟨[a,b,c,d],[]⟩:=by
 unfold argsOk;rw[signature?_of (id:="object.__init__") (n:=['_','_','t','i','n','i','_','_']) (o:=['t','c','e','j','b','o']) (by kernel_rfl) F.owner_object];kernel_rfl
theorem llt_new (l m r:Addr)(xs ys vs:Array Value):Meets (Builtin.«zip.__new__» ⟨[.type "zip",.ref l,.ref m,.ref r],[]⟩) (fun _ R s=>s.heap.IsList l xs∧s.heap.IsList m ys∧s.heap.IsTuple r vs∧
 ∀h':Heap,IsZip h' (s.heap.objs.size+5) (s.heap.objs.size+3) (s.heap.objs.size+4) .none→IsTrip h' (s.heap.objs.size+3) (.ref s.heap.objs.size) (.ref (s.heap.objs.size+1)) (.ref (s.heap.objs.size+2))→
  IsTrip h' (s.heap.objs.size+4) .none .none .none→h'.IsListIter s.heap.objs.size l 0→h'.IsListIter (s.heap.objs.size+1) m 0→h'.IsTupleIter (s.heap.objs.size+2) r 0→(∀c o,s.heap.get? c=some o→h'.get? c=some o)→
  R (.ok (.ret (.ref (s.heap.objs.size+5)))) {s with heap:=h'}):=
 .of_wp fun prog w A R s h=>by
  obtain⟨hp,g,d,tk,os⟩:=s
  obtain⟨h1,h2,h3,h⟩:=h
  have hsub:=sub_zip
  wp_walk using wpAny_pyIter_list h1,wpAny_pyIter_list (Heap.IsList.push h2 _),wpAny_pyIter_tuple (Heap.IsTuple.push (Heap.IsTuple.push h3 _) _)
  simp only[Heap.size_push]
  refine⟨_,rfl,h _ (get?_push_at (by simp only[Heap.size_push]) rfl) ?_ ?_ ?_ ?_ ?_ fun c o x=>?_⟩
  ·exact get?_push_of_some _ (get?_push_of_some _ (get?_push_at (by simp only[Heap.size_push]) rfl))
  ·exact get?_push_of_some _ (get?_push_at (by simp only[Heap.size_push]) rfl)
  ·exact⟨_,get?_push_of_some _ (get?_push_of_some _ (get?_push_of_some _ (get?_push_of_some _ (get?_push_of_some _ (get?_push_size _ rfl))))),rfl,rfl⟩
  ·exact⟨_,get?_push_of_some _ (get?_push_of_some _ (get?_push_of_some _ (get?_push_of_some _ (get?_push_at (by simp only[Heap.size_push]) rfl)))),rfl,rfl⟩
  ·exact⟨_,get?_push_of_some _ (get?_push_of_some _ (get?_push_of_some _ (get?_push_at (by simp only[Heap.size_push]) rfl))),rfl,rfl⟩
  repeat (first | exact x | refine get?_push_of_some _ ?_)
theorem zip_llt {prog:Program}{w:World}{A:Around}{E:Value→Shared→Prop}{s:Shared}{l m r:Addr}{xs ys vs:Array Value}{Q:Value→Shared→Prop}(h1:s.heap.IsList l xs)(h2:s.heap.IsList m ys)(h3:s.heap.IsTuple r vs)
 (h:∀h',IsZip h' (s.heap.objs.size+5) (s.heap.objs.size+3) (s.heap.objs.size+4) .none→IsTrip h' (s.heap.objs.size+3) (.ref s.heap.objs.size) (.ref (s.heap.objs.size+1)) (.ref (s.heap.objs.size+2))→
  IsTrip h' (s.heap.objs.size+4) .none .none .none→h'.IsListIter s.heap.objs.size l 0→h'.IsListIter (s.heap.objs.size+1) m 0→h'.IsTupleIter (s.heap.objs.size+2) r 0→
  (∀c o,s.heap.get? c=some o→h'.get? c=some o)→Q (.ref (s.heap.objs.size+5)) {s with heap:=h'}) :
 wpAny (model prog w) A (call (.type "zip") [.ref l,.ref m,.ref r]) Q E s:=
 callType_new F.called_zip (by decide) (zip_call3 _ _ _) (zip_new3 _ _ _) (fun obj=>obj_init4 obj _ _ _) F.entry_zip_new (llt_new l m r xs ys vs)
  ⟨h1,h2,h3,fun h' z p1 p2 i1 i2 i3 kp=>⟨⟨_,z,rfl⟩,h h' z p1 p2 i1 i2 i3 kp⟩⟩
theorem not_fresh6 {n c:Nat}(h:c<n)(z:c=n+5∨c=n+3∨c=n+4∨c=n∨c=n+1∨c=n+2):False:=by omega
theorem fresh6 {n c:Nat}(z:c=n+5∨c=n+3∨c=n+4∨c=n∨c=n+1∨c=n+2):n≤c:=by omega
theorem nd6 (n:Nat):[n+5,n+3,n+4,n,n+1,n+2].Nodup:=by simp
section
variable {X:Cx}
def iZip3 (K:W.Frag)(ta:TA):TI:=fun σ H R=>ta σ H fun us H1=>∃l m r xs ys vs,us=[.ref l,.ref m,.ref r]∧SqL K H1 l xs∧SqL K H1 m ys∧SqT K H1 r vs∧R (It3 K l m r) H1
theorem pi_zip3 {es:List Expr}{k0:Nat}{tp:Pos}{a b c:Expr}{ta:TA}{p pos:Pos}(hg:Gl X "zip")(hm:X.mg "zip" = none)(ha:PA X [a,b,c] ta)(hs:starEach [a,b,c] X.env=[(false,eval a X.env),(false,eval b X.env),(false,eval c X.env)]:=by rfl)(hs2:starEach [b,c] X.env=[(false,eval b X.env),(false,eval c X.env)]:=by rfl) :
 PI X (.Tuple es k0 tp) (.Call (.Name "zip" p) [a,b,c] [] pos) (iZip3 X.K ta):=by
 intro pins s σ H R I h
 refine Call_ (ld_blt I hg hm boot_zip (callWith_type1 (thn (ha pos pins s σ H _ I h) fun us s1 ⟨vs,H1,I1,r1,q1⟩=>?_) (by rw[hs,hs2]) (by rw[hs2];rfl)))
 obtain⟨l,m,r,xs,ys,ws,e,hl,hm',hr,q⟩:=q1
 subst e
 obtain⟨u,u',u'',rfl,ru,ru',ru''⟩:∃u u' u'',us=[u,u',u'']∧u=Value.ref l∧u'=Value.ref m∧u''=Value.ref r:=by
  cases r1 with
  |cons a1 r1=>cases r1 with
   |cons a2 r1=>cases r1 with
    |cons a3 r1=>cases r1 with
     |nil=>exact⟨_,_,_,rfl,a1,a2,a3⟩
 subst ru ru' ru''
 obtain⟨its,_,⟨ol,eol,_⟩,_⟩:=I1.sqk (t:=false) hl
 obtain⟨jts,_,⟨om,eom,_⟩,_⟩:=I1.sqk (t:=false) hm'
 obtain⟨kts,_,⟨on,eon,_⟩,_⟩:=I1.sqk (t:=true) hr
 have ll:l<s1.heap.objs.size:=lt_size eol
 have lm:m<s1.heap.objs.size:=lt_size eom
 have lr:r<s1.heap.objs.size:=lt_size eon
 obtain⟨its,_,pl,_⟩:=I1.list hl
 obtain⟨jts,_,pm,_⟩:=I1.list hm'
 obtain⟨kts,_,pr,_⟩:=I1.tuple hr
 refine zip_llt pl.isList pm.isList pr fun h' z1 z2 z3 z4 z5 z6 kp=>?_
 have I2:Inv X pins σ H1 {s1 with heap:=h'}:=I1.kept (t':=s1.toks) kp
 refine wpAny_pyIter_zip z1 ⟨s1.heap.objs.size+5,[s1.heap.objs.size+5,s1.heap.objs.size+3,s1.heap.objs.size+4,s1.heap.objs.size,s1.heap.objs.size+1,s1.heap.objs.size+2],_,_,H1,rfl,I2,
  turn_zip3 (l:=l) (m:=m) (r:=r) (nd6 _) (fun z=>?_) (fun z=>?_) (fun z=>?_),⟨z1,z2,⟨_,_,_,z3⟩,z4,z5,z6⟩,fun c hc=>?_,q⟩
 ·simp only[mem_cons,not_mem_nil,or_false]at z;exact not_fresh6 ll z
 ·simp only[mem_cons,not_mem_nil,or_false]at z;exact not_fresh6 lm z
 ·simp only[mem_cons,not_mem_nil,or_false]at z;exact not_fresh6 lr z
 ·have hcs:s1.heap.objs.size≤c:=by simp only[mem_cons,not_mem_nil,or_false]at hc;exact fresh6 hc
  exact I1.fpOk hcs (I1.hok.fresh hcs)
end
section
variable {X:Cx}{elt iter:Expr}{ifs:List Expr}{scope:Scope}{px py pz tp pos pos' spos:Pos}{k ii:Nat}{x y z nm:Str}{N N0:List Str}{js:List Nat}{sc:Scope}{wi:TI}{tt:TT}{te:TE}
theorem ps_comp3 (hNd:X.N.Nodup)(hii:X.N[ii]?=some nm)(hloc:Loc X.env.scope nm)(hc:X.calm=true)(hsc:X.env.scope=sc)(hN:X.N=N0)(B:Blk sc N0 (x::y::z::N) 3 js scope)(hx:scope.names.lookup x=some .local)(hy:scope.names.lookup y=some .local)(hz:scope.names.lookup z=some .local)(hi:PI X (.Tuple [.Name x px,.Name y py,.Name z pz] k tp) iter wi)
 (ht:∀cl C s H fp,PTs (blk X (x::y::z::N) scope cl C s H fp) ifs tt) (he:∀cl C s H fp,PE (blk X (x::y::z::N) scope cl C s H fp) elt te)
 (hsw:swapsWith (.ListComp elt [⟨.Tuple [.Name x px,.Name y py,.Name z pz] k tp,iter,ifs,0⟩] scope pos) (some (.Name nm pos')) spos.line X.env=pure true:=by rfl)
 (hf:X.fn nm=true∨X.env.scope.names.lookup nm=some .local:=by first | exact .inl rfl | exact .inr rfl | assumption)
 (hs:∀x,foldedSetIterable iter X.env x=pure x:=by intro _;rfl):PS X (.Assign [.Name nm pos'] (.ListComp elt [⟨.Tuple [.Name x px,.Name y py,.Name z pz] k tp,iter,ifs,0⟩] scope pos) spos) (tSetC ii (tComp 3 js wi (gTup X.K 3 (gCons (gName 0) (gCons (gName 1) (gCons (gName 2) gNil)))) tt te)):=
 ps_comp hNd hii hloc hc hsc hN B hi (fun cl C s H fp=>pg_tup (X:=blk X (x::y::z::N) scope cl C s H fp) hc (pgs_cons (pg_name (i:=0) B.nd rfl (.inl (blk_loc hx)) (.inr (blk_loc hx))) (pgs_cons (pg_name (i:=1) B.nd rfl (.inl (blk_loc hy)) (.inr (blk_loc hy))) (pgs_cons (pg_name (i:=2) B.nd rfl (.inl (blk_loc hz)) (.inr (blk_loc hz))) pgs_nil)))) ht he hsw hf hs
end
section
variable {X:Cx}
def DT (K:W.Frag)(n:Nat)(H:Hp)(x y:V):Prop:=∃(a b:Addr) (xs ys:List V),x=.ref a∧y=.ref b∧SqT K H a xs∧SqT K H b ys∧xs.length=ys.length∧∀(j:Nat) (u v:V),xs[j]?=some u→ys[j]?=some v→De H n u v
theorem dt_items {pins:List (Addr×Obj)}{s:Shared}{σ:St}{H:Hp}{n:Nat}{x y:V}{u v:Value}(I:Inv X pins σ H s)(hu:X.A.units+1+n<cLine)(d:DT X.K n H x y)(rx:RelV x u)(ry:RelV y v) :
 ∃(a b:Addr) (its its2:List Value),u=.ref a∧v=.ref b∧s.heap.IsTuple a its.toArray∧s.heap.IsTuple b its2.toArray∧its.length=its2.length∧∀(j:Nat) (h1:j<its.toArray.size) (h2:j<its2.toArray.size),SeqAt.EqAt X.A.in1 s its.toArray[j] its2.toArray[j] true:=by
 obtain⟨a,b,xs,ys,rfl,rfl,ha,hb,hl,hd⟩:=d
 obtain⟨its,r1,p1,_⟩:=I.tuple ha
 obtain⟨its2,r2,p2,_⟩:=I.tuple hb
 have l1:=r1.length
 have l2:=r2.length
 refine⟨a,b,its,its2,rx,ry,p1,p2,by omega,fun j h1 h2=>?_⟩
 simp only[size_toArray]at h1 h2
 obtain⟨w1,f1,g1⟩:=r1.get (List.getElem?_eq_getElem (show j<xs.length by omega))
 obtain⟨w2,f2,g2⟩:=r2.get (List.getElem?_eq_getElem (show j<ys.length by omega))
 have a1:its.toArray[j]'(by simpa using h1)=w1:=by simpa using(List.getElem?_eq_some_iff.mp f1).2
 have a2:its2.toArray[j]'(by simpa using h2)=w2:=by simpa using(List.getElem?_eq_some_iff.mp f2).2
 rw[a1,a2]
 exact de_eqAt I n (A:=X.A.in1) hu (hd j _ _ (List.getElem?_eq_getElem (by omega)) (List.getElem?_eq_getElem (by omega))) g1 g2
theorem all_true (n:Nat):(List.range n).all (fun _=>true)=true:=all_eq_true.mpr fun _ _=>rfl
theorem op_eqDT {n:Nat}(hu:X.A.units+1+n<cLine):OpR X (compareOp .Eq) (fun x y H Q=>DT X.K n H x y∧Q (.bl true) H):=by
 intro pins s σ H x y v u Q I rx ry h
 obtain⟨a,b,its,its2,rfl,rfl,p1,p2,l,e⟩:=dt_items I hu h.1 rx ry
 refine SeqAt.eq_tupleAt (e:=fun _=>true) p1 p2 (by omega) e ?_
 simp only[size_toArray]
 rw[l,all_true,beq_self_eq_true]
 exact⟨.bl true,H,I,rfl,h.2⟩
end
end L2
namespace K84
open L2
open BB (lens outs)
abbrev scSum:Scope:={kind:=.function,names:=[(Str.ofString ".0",.local),(Str.ofString "_law_size",.cell),(Str.ofString "sum",.globalImplicit),(Str.ofString "_law_some",.cell)],isGenerator:=false,isCoroutine:=false,more:=[]}
theorem ne_no {α:Type}[DecidableEq α]{x y:α}(e:x=y):V.bl (!decide (x=y))=.bl false:=by rw[decide_eq_true e];rfl
theorem isnt_true:V.bl (!decide (V.bl true=V.bl true))=.bl false:=by rw[decide_eq_true rfl];rfl
theorem items_zip3 {K:W.Frag}{l m r:Addr}{xs ys vs:List V}{H1:Hp}(hl:H1 l=some (.lst xs))(hm:H1 m=some (.lst ys))(hr:H1 r=some (.tup vs))(h1:ys.length≤xs.length)(h2:ys.length≤vs.length)(i:Nat)(H:Hp)(s:Same H1 H) :
 (i<ys.length→(It3 K l m r).go i H∧∀v H2,(It3 K l m r).yld i H v H2→Same H H2∧∃p x y u,v=.ref p∧H2 p=some (.tup [x,y,u])∧xs[i]?=some x∧ys[i]?=some y∧vs[i]?=some u)∧(ys.length≤i→(It3 K l m r).stop i H):=by
 have q:SqK false K H l xs:=SqL.of (s _ _ hl)
 have q':SqK false K H m ys:=SqL.of (s _ _ hm)
 have q'':SqK true K H r vs:=SqT.of (s _ _ hr)
 refine⟨fun hi=>⟨⟨xs,ys,vs,xs[i]'(by omega),ys[i],vs[i]'(by omega),q,q',q'',List.getElem?_eq_getElem (by omega),List.getElem?_eq_getElem hi,List.getElem?_eq_getElem (by omega)⟩,fun v H2 ⟨p,x,y,u,e1,e2,e3,e4,e5,e6⟩=>?_⟩,fun hi=>⟨xs,ys,q,q',.inr (List.getElem?_eq_none hi)⟩⟩
 subst e3
 exact⟨same_new e2 _,p,x,y,u,e1,upd_same,e4 xs q,e5 ys q',e6 vs q''⟩
theorem one_le {ls gs:List Int}(h:Lg ls gs):∀n∈ls,1≤n∧n≤12:=fun n hn=>by
 have:∀(l:List Int),(∀x∈l,1≤x)→∀y∈l,y≤l.sum:=fun l=>by
  induction l with
  |nil=>intro _ y hy;exact absurd hy not_mem_nil
  |cons x r ih=>
   intro hx y hy
   rw[sum_cons]
   have hx1:=hx x mem_cons_self
   have sr:=sum_len r fun z hz=>hx z (mem_cons_of_mem _ hz)
   rcases mem_cons.mp hy with rfl | hy
   ·omega
   ·have:=ih (fun z hz=>hx z (mem_cons_of_mem _ hz)) y hy
    omega
 have:=this ls h.one n hn
 have:=h.sum
 exact⟨h.one n hn,by omega⟩
theorem Lg.lenB {ls gs:List Int}(h:Lg ls gs):lenB (ls.map V.int)=true:=by
 unfold K84.lenB
 rw[toI_ints,decide_eq_true h.sum,decide_eq_true h.up,all_map]
 rw[show ls.all (numB 1 12∘V.int)=true from all_eq_true.mpr fun n hn=>by
  have:=one_le h n hn
  show(decide (1≤n)&&decide (n≤12))=true
  rw[decide_eq_true this.1,decide_eq_true this.2]
  rfl]
 rfl
theorem Lg.gapB {ls gs:List Int}(h:Lg ls gs):gapB ls (gs.map V.int)=true:=by
 unfold K84.gapB
 rw[length_map,decide_eq_true (by rw[length_dropLast];exact h.len),Bool.true_and]
 refine all_eq_true.mpr fun i hi=>?_
 have il:=mem_range.mp hi
 have g:=h.gap i il
 have e:(gs.map V.int).getD i .non=.int (gs.getD i 0):=by
  rw[getD_eq_getElem?_getD,List.getElem?_map,List.getElem?_eq_getElem il,getD_eq_getElem?_getD,List.getElem?_eq_getElem il]
  rfl
 rw[e]
 show(decide (ls.getD i 0≤gs.getD i 0)&&decide (gs.getD i 0≤100))=true
 rw[decide_eq_true g.1,decide_eq_true g.2]
 rfl
theorem fr_ok {ls gs:List Int}(h:Lg ls gs):Ok (frR ls gs) (frR ls gs).length:=by
 have f:=fr_bd h
 exact⟨⟨f.up,rfl,fun p hp=>by have:=f.bd p hp;omega⟩,f.len⟩
theorem fr_bd2 {ls gs:List Int}(h:Lg ls gs):Far (BB.step (frR ls gs).length (frR ls gs)):=by
 have f:=fr_bd h
 have r:BB.Rw (frR ls gs) (frR ls gs).length 0 2000:=⟨f.up,rfl,fr_near h⟩
 have s:=r.step (frR ls gs).length
 exact⟨by rw[s.len];exact f.len,s.up,fun p hp=>by have:=s.bd p hp;have:=f.len;omega⟩
def bks (f:Int→Int→Int)(ls gs:List Int):List (Int×Int):=(BB.sts 0 (bsOf ls gs)).map fun q=>(f q.1 (q.2:Int),(q.2:Int))
theorem bks_len (f:Int→Int→Int)(ls gs:List Int):(bks f ls gs).length=ls.length:=by unfold bks;rw[length_map,sts_len,bs_len]
theorem getD_ints (ls:List Int):(List.range ls.length).map (fun j=>V.int (ls.getD j 0))=ls.map V.int:=(map_ints ls fun x=>x).trans (by rw[map_id'])
theorem sta_zero {ls gs:List Int}(h:0<ls.length):sta ls gs 0=0:=by
 unfold sta
 have:0<(bsOf ls gs).length:=by rw[bs_len];exact h
 match e:bsOf ls gs,this with
 |(n,g)::r,_=>rfl
theorem bks_at {H:Hp}{ys:List V}{ls gs:List Int}{f:Int→Int→Int}(h:Lg ls gs)(t:Tps H ys (bks f ls gs)){i:Nat}{x:V}(hi:i<ls.length)(e:ys[i]?=some x):∃p,x=.ref p∧H p=some (.tup [.int (f (sta ls gs i) (ls.getD i 0)),.int (ls.getD i 0)]):=by
 obtain⟨p,e1,e2,_⟩:=pairs_at t (show i<(bks f ls gs).length by rw[bks_len];exact hi)
 rw[e]at e1
 cases e1
 have e3:=blk_at h f hi
 rw[show((bks f ls gs).getD i (0,0))=(f (sta ls gs i) (ls.getD i 0),ls.getD i 0) from e3]at e2
 exact⟨p,rfl,e2⟩
def spMr:Sp:=fun vs H Q _=>∃(a b:Addr) (ls gs:List Int),vs=[.ref a,.ref b]∧H a=some (.tup (ls.map V.int))∧H b=some (.tup (gs.map V.int))∧Lg ls gs∧∀H',Same H H'→Q (.bl true) H'
section
variable {P:Program}{w:World}{K:W.Frag}{mg:Str→Option Value}{base:Heap}
theorem ok_L_made_right {f:Addr}{fd:FuncData}(F:Fun K "_law_made_right" "_law_made_right" s_L_made_right f fd)(nb:Nb4 mg)(h_free_row:Has P w K mg base 3 "free_row" ["lengths","gaps"] spFr)(h_is_row:Has P w K mg base 2 "is_row" ["thing"] spIsRow)(h_is_free:Has P w K mg base 2 "is_free" ["row"] spFree)(h_blocks:Has P w K mg base 3 "blocks" ["row"] spBl)(h_lengths:Has P w K mg base 3 "lengths" ["row"] spLen)(h_takings:Has P w K mg base 2 "takings" ["row"] spTks)(h_carried:Has P w K mg base 2 "carried" ["row"] spCar)(h_free_later:Has P w K mg base 4 "free_later" ["row","steps"] spFl)  :
 FnOk P w K mg base CX0 5 f fd ["_law_some","_law_gaps"] spMr:=by
 have nd:=sc_L_made_right.nd
 refine F.ok (k:=4) sc_L_made_right (fun vs H Q E h=>?_) (fun cdv A outer s H vs Q E hr h=>?_)
 ·obtain⟨a,b,ls,gs,rfl,_⟩:=h
  rfl
 obtain⟨a,b,ls,gs,rfl,ha,hb,h,q⟩:=h
 refine⟨_,(pss_cons (ps_set (i:=2) nd rfl (Or.inl rfl) (pe_def h_free_row hr (pa_cons (pv 0) (pa_cons (pv 1) pa_nil))))
(pss_cons (ps_if (PW.pt (pw_or (pt_cmpR op_isntB (pe_def h_is_row hr (pa_cons (pv 2) pa_nil)) pe_bl (nomark _)) (pw_or (pt_cmpR op_isntB (pe_def h_is_free hr (pa_cons (pv 2) pa_nil)) pe_bl (nomark _)) (pw_or1 (pt_cmpR (op_neT hr.units0) (pe_callTy call_tuple_of rfl nb.tuple boot_tuple (pa_cons (pe_comp2 (sc:=defScope s_L_made_right) (N0:=["_law_some","_law_gaps","_law_row","_law_starts","_law_apart","_law_there"]) (N:=[]) (js:=[]) rfl rfl rfl (by exact⟨rfl,by decide +kernel,by decide +kernel,by decide +kernel,rfl,rfl,by decide,by decide +kernel,by decide +kernel⟩) rfl rfl
(pi_tup (pe_def h_blocks hr (pa_cons (pv 2) pa_nil)))
(fun _ _ _ _ _=>by exact pts_nil)
(fun _ _ _ _ _=>by exact(pv 1))) pa_nil)) (pv 0) (nomark _))))))
(pss_one (ps_ret pe_bl))
pss_nil)
(pss_cons (ps_comp2 (ii:=3) nd rfl (Or.inl rfl) (sc:=defScope s_L_made_right) (N0:=["_law_some","_law_gaps","_law_row","_law_starts","_law_apart","_law_there"]) (N:=[]) (js:=[]) rfl rfl rfl (by exact⟨rfl,by decide +kernel,by decide +kernel,by decide +kernel,rfl,rfl,by decide,by decide +kernel,by decide +kernel⟩) rfl rfl
(pi_tup (pe_def h_blocks hr (pa_cons (pv 2) pa_nil)))
(fun _ _ _ _ _=>by exact pts_nil)
(fun _ _ _ _ _=>by exact(pv 0)))
(pss_cons (ps_comp3 (ii:=4) nd rfl (Or.inl rfl) (sc:=defScope s_L_made_right) (N0:=["_law_some","_law_gaps","_law_row","_law_starts","_law_apart","_law_there"]) (N:=[]) (js:=[]) rfl rfl rfl (by exact⟨rfl,by decide +kernel,by decide +kernel,by decide +kernel,rfl,rfl,by decide,by decide +kernel,by decide +kernel⟩) rfl rfl rfl
(pi_zip3 rfl nb.zip (pa_cons (pv 3) (pa_cons (pe_slice sl_list (pv 3) (po_some pe_int) po_none) (pa_cons (pv 0) pa_nil))))
(fun _ _ _ _ _=>by exact pts_nil)
(fun _ _ _ _ _=>by exact(pe_op op_sub (pe_op op_sub (pv 1) (pv 0)) (pv 2))))
(pss_cons (ps_if (PW.pt (pw_or (pt_cmpR (op_neT hr.units0) (pe_callTy call_tuple_of rfl nb.tuple boot_tuple (pa_cons (pv 4) pa_nil)) (pv 1) (nomark _)) (pw_or (pt_cmpR (op_neT hr.units0) (pe_def h_lengths hr (pa_cons (pv 2) pa_nil)) (pe_callTy call_tuple_of rfl nb.tuple boot_tuple (pa_cons (pe_sortRev rfl nb.sorted (pa_cons (pv 0) pa_nil)) pa_nil)) (nomark _)) (pw_or1 (pt_cmpR op_ne (pe_ix ix_list (pe_op op_cat (pv 3) (pe_lst (pa_cons pe_int pa_nil))) pe_int (fun _ _=>rfl)) pe_int (nomark _))))))
(pss_one (ps_ret pe_bl))
pss_nil)
(pss_cons (ps_if (pt_cmpR (op_neL hr.units0) (pe_def h_takings hr (pa_cons (pv 2) pa_nil)) (pe_compC1 (sc:=defScope s_L_made_right) (N0:=["_law_some","_law_gaps","_law_row","_law_starts","_law_apart","_law_there"]) (N:=["_law_some"]) (js:=[0]) rfl rfl rfl (by exact⟨rfl,by decide +kernel,fun _ _=>rfl,fun _=>rfl,by decide +kernel,by decide +kernel,by decide +kernel,rfl,rfl,by decide,by decide +kernel,by decide +kernel⟩) rfl
(pi_range2 rfl nb.range (pa_cons pe_int (pa_cons (pe_op op_add (pe_callB (call_sumT rfl) rfl nb.sum boot_sum (pa_cons (pv 0) pa_nil)) pe_int) pa_nil)))
(fun _ _ _ _ _=>by exact pts_nil)
(fun _ _ _ _ _=>by exact(pe_callB (call_sumK K rfl rfl) rfl nb.sum boot_sum (pa_cons
(pe_comp1 (sc:=scSum) (N0:=["_law_size","_law_some"]) (N:=["_law_size"]) (js:=[0]) rfl rfl rfl (by exact⟨rfl,by decide +kernel,by decide +kernel,by decide +kernel,rfl,rfl,by decide,by decide +kernel,by decide +kernel⟩) rfl
(pi_tupK K rfl (pv 1))
(fun _ _ _ _ _=>by exact pts_nil)
(fun _ _ _ _ _=>by exact(pe_callB (call_min2 rfl) rfl nb.min boot_min (pa_cons (pv 1) (pa_cons (pv 0) pa_nil))))) pa_nil)))) (nomark _))
(pss_one (ps_ret pe_bl))
pss_nil)
(pss_cons (ps_set (i:=5) nd rfl (Or.inl rfl) (pe_def h_carried hr (pa_cons (pv 2) pa_nil)))
(pss_cons (ps_if (PW.pt (pw_or (pt_cmpR (op_neT hr.units0) (pv 5) (pe_def h_free_later hr (pa_cons (pv 2) (pa_cons pe_int pa_nil))) (nomark _)) (pw_or1 (pt_cmpR op_isntB (pe_def h_is_free hr (pa_cons (pv 5) pa_nil)) pe_bl (nomark _)))))
(pss_one (ps_ret pe_bl))
pss_nil)
(pss_one (ps_ret (pe_cmpR (op_eqDT (n:=1) (hu2 hr)) (pe_def h_blocks hr (pa_cons (pv 5) pa_nil)) (pe_callTy call_tuple_of rfl nb.tuple boot_tuple (pa_cons (pe_comp2 (sc:=defScope s_L_made_right) (N0:=["_law_some","_law_gaps","_law_row","_law_starts","_law_apart","_law_there"]) (N:=[]) (js:=[]) rfl rfl rfl (by exact⟨rfl,by decide +kernel,by decide +kernel,by decide +kernel,rfl,rfl,by decide,by decide +kernel,by decide +kernel⟩) rfl rfl
(pi_tup (pe_def h_blocks hr (pa_cons (pv 2) pa_nil)))
(fun _ _ _ _ _=>by exact pts_nil)
(fun _ _ _ _ _=>by exact(pe_tup (pa_cons (pe_op op_add (pv 0) (pv 1)) (pa_cons (pv 1) pa_nil))))) pa_nil)) (nomark _)))))))))))),?_⟩
 have fa:=fr_bd h
 have l12:=fa.len
 have fl:=fr_len h
 have ll:ls.length≤12:=by have:=sum_len ls h.one;have:=h.sum;omega
 have gl:=h.len
 have eb:BB.blk (frR ls gs)=bks (fun x _=>x) ls gs:=fr_blk h
 have lm:(ls.map V.int).length=ls.length:=length_map ..
 refine⟨_,rfl,_,rfl,a,b,ls,gs,rfl,ha,hb,h.lenB,h.gapB,fun r H1 s1 h1=>?_⟩
 have a1:=s1 _ _ ha
 have b1:=s1 _ _ hb
 refine⟨_,rfl,r,_,rfl,h1,l12,fun p hp=>by have:=fa.bd p hp;omega,fa.up,fun H2 s2=>⟨true,rfl,false,isnt_true,iteF ?_⟩⟩
 refine⟨_,rfl,r,_,rfl,s2 _ _ h1,fa.up,l12,fun H3 s3=>?_⟩
 rw[fr_free h]
 refine⟨true,rfl,false,isnt_true,iteF ?_⟩
 have S3:=s2.trans s3
 have r3:=S3 _ _ h1
 have a3:=S3 _ _ a1
 have b3:=S3 _ _ b1
 -- the lengths of its blocks
 refine⟨_,rfl,r,_,rfl,r3,fa,fr_free h,fun t ys H4 s4 h4 t4=>⟨t,rfl,⟨_,SqT.of h4⟩,fun D hD=>?_⟩⟩
 rw[eb]at t4
 have yl:ys.length=ls.length:=by rw[t4.1,bks_len]
 refine comp_go ys.length (by rw[sizeLine_eq];omega) (fun j=>.int (ls.getD j 0)) (fun σ=>∃o1 o2,σ=[o1,o2]) _ hD (by exact⟨_,_,rfl⟩) (items_tup h4) (fun j x σ' HH hj sH im hσ R hR=>?_) (fun H5 s5 hD5=>?_)
 ·obtain⟨o1,o2,rfl⟩:=hσ
  obtain⟨p,rfl,hp⟩:=bks_at h (t4.same sH) (by omega) im
  exact⟨p,_,rfl,SqT.of hp,rfl,_,_,rfl,_,_,rfl,rfl,_,rfl,hR _ _ _ ⟨_,_,rfl⟩ (Same.refl _) rfl⟩
 rw[yl,getD_ints]at hD5
 refine⟨D,_,rfl,.inl ⟨SqL.of hD5,fun p6 hp6=>?_⟩⟩
 have q6:=same_new hp6 (.tup (ls.map V.int))
 have S6:=s4.trans (s5.trans q6)
 refine⟨_,rfl,p6,a,_,_,rfl,rfl,SqT.of upd_same,SqT.of (S6 _ _ a3),false,ne_no rfl,iteF ?_⟩
 have r6:=S6 _ _ r3
 have a6:=S6 _ _ a3
 have b6:=S6 _ _ b3
 have SS6:=s1.trans (S3.trans S6)
 generalize upd H5 p6 (.tup (ls.map V.int))=H6 at r6 a6 b6 SS6 ⊢
 clear hD5 S6 q6 hp6 hD s5 H5 h4 t4 s4 H4 t D yl p6 r3 a3 b3 S3
 -- where they begin
 refine⟨_,rfl,r,_,rfl,r6,fa,fr_free h,fun t ys H4 s4 h4 t4=>⟨t,rfl,⟨_,SqT.of h4⟩,fun D hD=>?_⟩⟩
 rw[eb]at t4
 have yl:ys.length=ls.length:=by rw[t4.1,bks_len]
 refine comp_go ys.length (by rw[sizeLine_eq];omega) (fun j=>.int (sta ls gs j)) (fun σ=>∃o1 o2,σ=[o1,o2]) _ hD (by exact⟨_,_,rfl⟩) (items_tup h4) (fun j x σ' HH hj sH im hσ R hR=>?_) (fun H5 s5 hD5=>?_)
 ·obtain⟨o1,o2,rfl⟩:=hσ
  obtain⟨p,rfl,hp⟩:=bks_at h (t4.same sH) (by omega) im
  exact⟨p,_,rfl,SqT.of hp,rfl,_,_,rfl,_,_,rfl,rfl,_,rfl,hR _ _ _ ⟨_,_,rfl⟩ (Same.refl _) rfl⟩
 rw[yl]at hD5
 have S5:=s4.trans s5
 have r5:=S5 _ _ r6
 have a5:=S5 _ _ a6
 have b5:=S5 _ _ b6
 have SS5:=SS6.trans S5
 clear r6 a6 b6 SS6 S5 h4 t4 s4 hD s5
 -- how far they are apart
 have dl:(cutV ((List.range ls.length).map fun j=>V.int (sta ls gs j)) (some ((1:Nat):Int)) none)=((List.range ls.length).map fun j=>V.int (sta ls gs j)).drop 1:=cut_from _ 1
 refine⟨_,rfl,_,rfl,_,rfl,D,_,rfl,SqL.of hD5,fun D7 hD7=>?_⟩
 rw[show(some (1:Int))=some ((1:Nat):Int) from rfl,dl]
 have q7:=same_new hD7 (.lst (((List.range ls.length).map fun j=>V.int (sta ls gs j)).drop 1))
 have ld:(((List.range ls.length).map fun j=>V.int (sta ls gs j)).drop 1).length=gs.length:=by rw[length_drop,length_map,length_range,gl]
 have st5:=q7 _ _ hD5
 have nx5:(upd H5 D7 (.lst (((List.range ls.length).map fun j=>V.int (sta ls gs j)).drop 1))) D7=some (.lst (((List.range ls.length).map fun j=>V.int (sta ls gs j)).drop 1)):=upd_same
 replace r5:=q7 _ _ r5
 replace a5:=q7 _ _ a5
 replace b5:=q7 _ _ b5
 replace SS5:=SS5.trans q7
 generalize upd H5 D7 (.lst (((List.range ls.length).map fun j=>V.int (sta ls gs j)).drop 1))=H7 at st5 nx5 r5 a5 b5 SS5 ⊢
 refine⟨_,rfl,D,D7,a,_,_,_,rfl,SqL.of st5,SqL.of nx5,SqT.of a5,fun D8 hD8=>?_⟩
 refine comp_go (((List.range ls.length).map fun j=>V.int (sta ls gs j)).drop 1).length (by rw[ld,sizeLine_eq];omega) (fun j=>.int (gs.getD j 0)) (fun σ=>∃o1 o2 o3,σ=[o1,o2,o3]) _ hD8 (by exact⟨_,_,_,rfl⟩) (items_zip3 st5 nx5 a5 (by rw[ld,length_map,length_range];omega) (by rw[ld,lm];omega)) (fun j x σ' HH hj sH im hσ R hR=>?_) (fun H9 s9 hD9=>?_)
 ·obtain⟨o1,o2,o3,rfl⟩:=hσ
  rw[ld]at hj
  obtain⟨p,x1,x2,x3,rfl,hp,e1,e2,e3⟩:=im
  rw[List.getElem?_map,getElem?_range (by omega)]at e1
  rw[getElem?_drop,List.getElem?_map,getElem?_range (by omega)]at e2
  cases e1
  cases e2
  obtain rfl:=num_at e3
  refine⟨p,_,rfl,SqT.of hp,rfl,_,_,rfl,_,_,rfl,_,_,rfl,rfl,_,rfl,_,rfl,_,_,rfl,rfl,_,rfl,_,_,rfl,rfl,hR _ _ _ ⟨_,_,_,rfl⟩ (Same.refl _) ?_⟩
  have:=sta_next h hj
  show V.int (sta ls gs (1+j) - sta ls gs j - ls.getD j 0)=V.int (gs.getD j 0)
  rw[show 1+j=j+1 by omega,this]
  congr 1
  omega
 rw[ld,getD_ints]at hD9
 refine⟨_,rfl,D8,_,rfl,.inl ⟨SqL.of hD9,fun pA hpA=>?_⟩⟩
 have qA:=same_new hpA (.tup (gs.map V.int))
 have SA:=s9.trans qA
 refine⟨_,rfl,pA,b,_,_,rfl,rfl,SqT.of upd_same,SqT.of (SA _ _ b5),false,ne_no rfl,iteF ?_⟩
 replace r5:=SA _ _ r5
 replace a5:=SA _ _ a5
 replace st5:=SA _ _ st5
 replace SS5:=SS5.trans SA
 generalize upd H9 pA (.tup (gs.map V.int))=HA at r5 a5 st5 SS5 ⊢
 clear SA qA hpA hD9 s9 hD8 nx5 dl ld q7 hD7 hD5 b5
 -- the lengths
 refine⟨_,rfl,r,_,rfl,r5,l12,fun t1 HB sB hB=>?_⟩
 refine⟨_,rfl,a,ls,rfl,.inr (sB _ _ a5),by omega,fun ns lC pm so hlC=>?_⟩
 have qC:=same_new hlC (.lst (ns.map V.int))
 refine⟨lC,_,rfl,.inl ⟨SqL.of upd_same,fun pD hpD=>?_⟩⟩
 have qD:=same_new hpD (.tup (ns.map V.int))
 refine⟨t1,pD,_,_,rfl,rfl,SqT.of (qD _ _ (qC _ _ hB)),SqT.of upd_same,false,ne_no (fr_lens h pm so),iteF ?_⟩
 have SD:=sB.trans (qC.trans qD)
 replace r5:=SD _ _ r5
 replace a5:=SD _ _ a5
 replace st5:=SD _ _ st5
 replace SS5:=SS5.trans SD
 generalize upd (upd HB lC (.lst (ns.map V.int))) pD (.tup (ns.map V.int))=HD at r5 a5 st5 SS5 ⊢
 clear SD qD hpD qC hlC hB sB pm so
 -- the first begins at 0
 refine⟨_,rfl,(by show 1≤sizeLine;decide),fun pE hpE=>?_⟩
 have qE:=same_new hpE (.lst [.int 0])
 refine⟨D,pE,_,_,rfl,rfl,qE _ _ st5,upd_same,by rw[length_map,length_range,length_singleton,sizeLine_eq];omega,fun pF hpF=>?_⟩
 have qF:=same_new hpF (.lst (((List.range ls.length).map fun j=>V.int (sta ls gs j))++[.int 0]))
 have e0:atI (((List.range ls.length).map fun j=>V.int (sta ls gs j))++[.int 0]) ((0:Nat):Int)=some (.int 0):=atI_nat (by
  by_cases c:0<ls.length
  ·rw[getElem?_append_left (by rw[length_map,length_range];exact c),List.getElem?_map,getElem?_range c]
   show some (V.int (sta ls gs 0))=_
   rw[sta_zero c]
  ·rw[show ls.length=0 by omega]
   rfl)
 refine⟨pF,_,_,_,rfl,rfl,SqL.of upd_same,e0,rfl,false,ne_no rfl,iteF ?_⟩
 have SF:=qE.trans qF
 replace r5:=SF _ _ r5
 replace a5:=SF _ _ a5
 replace SS5:=SS5.trans SF
 generalize upd (upd HD pE (.lst [.int 0])) pF (.lst (((List.range ls.length).map fun j=>V.int (sta ls gs j))++[.int 0]))=HF at r5 a5 SS5 ⊢
 clear SF qE qF hpE hpF e0 st5
 -- what carriers take
 have ok0:=fr_ok h
 refine⟨_,rfl,r,_,_,rfl,r5,ok0,fun t4 HI sI hI=>?_⟩
 have aI:=sI _ _ a5
 have hs:=h.sum
 refine⟨_,rfl,a,ls,rfl,SqT.of aI,_,_,rfl,rfl,1,ls.sum+1,rfl,⟨by omega,by omega,by omega,by omega⟩,fun D2 hD2=>?_⟩
 rw[show(ls.sum+1 - 1).toNat=(frR ls gs).length by omega]
 refine comp_go (frR ls gs).length (by rw[sizeLine_eq];omega) (fun j=>.int ((BB.taken (j+1) (frR ls gs):Nat):Int)) (fun σ=>∃o1,σ=[o1,some (.ref a)]) (fun j H' x=>x=.int (1+(j:Int))) hD2 (by exact⟨_,rfl⟩) (fun j H' _=>items_rng 1 _ j H' (Same.refl _)) (fun j x σ' HJ hj sJ im hσ R hR=>?_) (fun HJ sJ hDJ=>?_)
 ·obtain⟨o1,rfl⟩:=hσ
  subst im
  have htJ:=sJ _ _ aI
  refine⟨_,rfl,a,rfl,⟨_,SqT.of htJ⟩,fun D3 hD3=>?_⟩
  refine comp_go (ls.map V.int).length (by rw[length_map,sizeLine_eq];omega) (fun k=>.int (if ls.getD k 0<((j+1:Nat):Int) then ls.getD k 0 else((j+1:Nat):Int))) (fun σ=>∃o2,σ=[o2,some (.int (1+(j:Int)))]) _ hD3 (by exact⟨_,rfl⟩) (items_tup htJ) (fun k y2 σ2 HK hk sK imK hσK RK hRK=>?_) (fun HK sK hDK=>?_)
  ·obtain⟨o2,rfl⟩:=hσK
   obtain rfl:=num_at imK
   refine⟨_,rfl,_,rfl,_,_,rfl,hRK _ _ _ ⟨_,rfl⟩ (Same.refl _) ?_⟩
   rw[show((j+1:Nat):Int)=1+(j:Int) by omega]
  rw[length_map,map_ints ls (fun l=>if l<((j+1:Nat):Int) then l else((j+1:Nat):Int))]at hDK
  refine⟨D3,_,rfl,SqL.of hDK,hR _ _ _ ⟨_,rfl⟩ sK ?_⟩
  rw[fr_taken h (j+1)]
 have e5:(List.range (frR ls gs).length).map (fun(j:Nat)=>V.int ((BB.taken (j+1) (frR ls gs):Nat):Int))=(tks (frR ls gs).length (frR ls gs)).map V.int:=by
  unfold tks
  rw[map_map]
  rfl
 rw[e5]at hDJ
 refine⟨t4,D2,_,_,rfl,rfl,SqL.of (sJ _ _ hI),SqL.of hDJ,rfl,false,ne_no rfl,iteF ?_⟩
 have SJ:=sI.trans sJ
 replace r5:=SJ _ _ r5
 replace SS5:=SS5.trans SJ
 clear SJ hDJ sJ hI sI hD2 aI a5 e5
 -- a step
 refine⟨_,rfl,r,_,_,rfl,r5,ok0,fun u HK sK hK=>?_⟩
 refine⟨_,rfl,_,rfl,r,_,1,rfl,sK _ _ r5,fa,fr_free h,by decide,by decide,fun v HL sL hL=>?_⟩
 rw[fr_flw h]at hL
 refine⟨u,v,_,_,rfl,rfl,SqT.of (sL _ _ hK),SqT.of hL,false,ne_no rfl,iteF ?_⟩
 have rs:=ok0.1.step (frR ls gs).length
 refine⟨_,rfl,u,_,rfl,sL _ _ hK,rs.up,by rw[rs.len];exact l12,fun HM sM=>?_⟩
 rw[fr_free2 h]
 refine⟨true,rfl,false,isnt_true,iteF ?_⟩
 -- its blocks
 have hu:=sM _ _ (sL _ _ hK)
 have hr:=sM _ _ (sL _ _ (sK _ _ r5))
 refine⟨_,rfl,u,_,rfl,hu,fr_bd2 h,fr_free2 h,fun t5 ys5 HN sN hN tN=>?_⟩
 rw[fr_blk2 h]at tN
 refine⟨_,rfl,r,_,rfl,sN _ _ hr,fa,fr_free h,fun t6 ys6 HO sO hO tO=>⟨t6,rfl,⟨_,SqT.of hO⟩,fun D9 hD9=>?_⟩⟩
 rw[eb]at tO
 have yl:ys6.length=ls.length:=by rw[tO.1,bks_len]
 refine comp_tups ys6.length (by rw[sizeLine_eq];omega) (fun j=>[.int (sta ls gs j+ls.getD j 0),.int (ls.getD j 0)]) (fun σ=>∃o1 o2,σ=[o1,o2]) _ hD9 (by exact⟨_,_,rfl⟩) (items_tup hO) (fun j x σ' HH hj sH im hσ R hR=>?_) (fun HP ysP sP hDP lP tP=>?_)
 ·obtain⟨o1,o2,rfl⟩:=hσ
  obtain⟨p,rfl,hp⟩:=bks_at h (tO.same sH) (by omega) im
  refine⟨p,_,rfl,SqT.of hp,rfl,_,_,rfl,_,_,rfl,rfl,_,rfl,_,rfl,_,_,rfl,rfl,_,rfl,(by show 2≤sizeLine;decide),fun p2 hp2=>hR _ _ _ ⟨_,_,rfl⟩ (same_new hp2 _) upd_same⟩
 refine⟨D9,_,rfl,.inl ⟨SqL.of hDP,fun pQ hpQ=>?_⟩⟩
 have qQ:=same_new hpQ (.tup ysP)
 have SQ:=sO.trans (sP.trans qQ)
 refine⟨⟨t5,pQ,_,_,rfl,rfl,SqT.of (SQ _ _ hN),SqT.of upd_same,by rw[tN.1,lP,yl];exact bks_len (fun x n=>x+n) ls gs,fun j u v e1 e2=>?_⟩,q _ (SS5.trans (sK.trans (sL.trans (sM.trans (sN.trans SQ)))))⟩
 have jl:j<ls.length:=by have:=(List.getElem?_eq_some_iff.mp e2).1;omega
 obtain⟨p,rfl,hp⟩:=bks_at (f:=fun x n=>x+n) h (tN.same SQ) jl e1
 obtain⟨p',rfl,hp'⟩:=tP j v e2
 refine .inr ⟨p,p',_,_,rfl,rfl,hp,qQ _ _ hp',rfl,fun i u v f1 f2=>?_⟩
 rw[f1]at f2
 cases f2
 match i,f1 with
 |0,f1=>cases f1;exact⟨_,rfl,rfl⟩
 |1,f1=>cases f1;exact⟨_,rfl,rfl⟩
end
end K84
namespace L2
structure Tidy (t:SetTable):Prop where
 up:t.place.toList.Pairwise (· < ·)
 no:t.dummies=#[]
theorem below_at {xs:Array Nat}{j:Nat}(up:xs.toList.Pairwise (· < ·)):∀fuel lo hi,hi - lo≤fuel→lo≤hi→hi≤xs.size→(∀i v,i<lo→xs[i]?=some v→v<j)→(∀i v,hi≤i→xs[i]?=some v→j≤v)→
 SetTable.below.go xs j fuel lo hi≤xs.size∧(∀i v,i<SetTable.below.go xs j fuel lo hi→xs[i]?=some v→v<j)∧(∀i v,SetTable.below.go xs j fuel lo hi≤i→xs[i]?=some v→j≤v)
 |0,lo,hi,h0,h1,h2,h3,h4=>by
  have e:lo=hi:=by omega
  subst e
  exact⟨h2,h3,h4⟩
 |fuel+1,lo,hi,h0,h1,h2,h3,h4=>by
  unfold SetTable.below.go
  by_cases c:lo<hi
  ·rw[if_pos c]
   dsimp only
   have hm:(lo+hi) / 2<xs.size:=by omega
   have em:xs[(lo+hi) / 2]?=some (xs[(lo+hi) / 2]):=Array.getElem?_eq_getElem hm
   have ed:xs.getD ((lo+hi) / 2) j=xs[(lo+hi) / 2]:=by rw[getD_eq_getD_getElem?,em];rfl
   have mono:∀a b u v,a<b→xs[a]?=some u→xs[b]?=some v→u<v:=fun a b u v ab ea eb=>by
    rw[←getElem?_toList]at ea eb
    obtain⟨la,rfl⟩:=List.getElem?_eq_some_iff.mp ea
    obtain⟨lb,rfl⟩:=List.getElem?_eq_some_iff.mp eb
    exact pairwise_iff_getElem.mp up a b la lb ab
   rw[ed]
   by_cases q:xs[(lo+hi) / 2]<j
   ·rw[if_pos q]
    refine below_at up fuel _ _ (by omega) (by omega) h2 (fun i v hi' ev=>?_) h4
    rcases Nat.lt_or_ge i ((lo+hi) / 2) with z | z
    ·exact Nat.lt_trans (mono _ _ _ _ z ev em) q
    ·have:i=(lo+hi) / 2:=by omega
     subst this
     rw[em]at ev
     cases ev
     exact q
   ·rw[if_neg q]
    refine below_at up fuel _ _ (by omega) (by omega) (by omega) h3 (fun i v hi' ev=>?_)
    rcases Nat.lt_or_ge ((lo+hi) / 2) i with z | z
    ·exact Nat.le_trans (Nat.le_of_not_lt q) (Nat.le_of_lt (mono _ _ _ _ z em ev))
    ·have:i=(lo+hi) / 2:=by omega
     subst this
     rw[em]at ev
     cases ev
     exact Nat.le_of_not_lt q
  ·rw[if_neg c]
   have e:lo=hi:=by omega
   subst e
   exact⟨h2,h3,h4⟩
theorem below_is {xs:Array Nat}(up:xs.toList.Pairwise (· < ·))(j:Nat) :
 SetTable.below xs j≤xs.size∧(∀i v,i<SetTable.below xs j→xs[i]?=some v→v<j)∧(∀i v,SetTable.below xs j≤i→xs[i]?=some v→j≤v):=
 below_at up _ _ _ (by omega) (Nat.zero_le _) (Nat.le_refl _) (fun i v h=>absurd h (Nat.not_lt_zero _)) fun i v h e=>by
  have:=(Array.getElem?_eq_some_iff.mp e).1
  omega
theorem below_next {xs:Array Nat}(up:xs.toList.Pairwise (· < ·)){i j:Nat}(h:i=0∧j=0∨∃p k,i=k+1∧xs[k]?=some p∧j=p+1)(le:i≤xs.size):SetTable.below xs j=i:=by
 obtain⟨a,b,c⟩:=below_is up j
 have mono:∀a b u v,a<b→xs[a]?=some u→xs[b]?=some v→u<v:=fun a b u v ab ea eb=>by
  rw[←getElem?_toList]at ea eb
  obtain⟨la,rfl⟩:=List.getElem?_eq_some_iff.mp ea
  obtain⟨lb,rfl⟩:=List.getElem?_eq_some_iff.mp eb
  exact pairwise_iff_getElem.mp up a b la lb ab
 rcases h with⟨rfl,rfl⟩ | ⟨p,k,rfl,e,rfl⟩
 ·rcases Nat.eq_zero_or_pos (SetTable.below xs 0) with z | z
  ·exact z
  ·exact absurd (b 0 _ z (Array.getElem?_eq_getElem (by omega))) (Nat.not_lt_zero _)
 ·rcases Nat.lt_trichotomy (SetTable.below xs (p+1)) (k+1) with z | z | z
  ·have:=c k p (by omega) e
   omega
  ·exact z
  ·have l:k+1<xs.size:=by omega
   have q:=b (k+1) _ z (Array.getElem?_eq_getElem l)
   have:=mono k (k+1) p _ (by omega) e (Array.getElem?_eq_getElem l)
   omega
def keyOf (e:Int×Value):Int:=match e.2 with
 | .int k _=>k
 |_=>0
theorem is_key {P:Program}{w:World}{k:Int}{e:Int×Value}(h:(intKind P w).is k e.2=true):keyOf e=k∧∃t,e.2=.int k t:=by
 obtain⟨a,v⟩:=e
 cases v<;>simp[intKind,Value.isInt]at h
 subst h
 exact⟨rfl,_,rfl⟩
abbrev ledOf (w:World):Bool:=!w.params.followText "set-order"
section
variable {P:Program}{w:World}{A:Around}{E:Value→Shared→Prop}{s:Shared}
theorem set_new (a:Value){Q:Value→Shared→Prop}(q:Q (.ref s.heap.objs.size) {s with heap:=s.heap.push {cls:=.type "set",dict:=none,data:=.set #[] 0 (.fresh 0 0 (ledOf w))}}) :
 codeAny (model P w) A (.call (.builtin "set.__new__") ⟨[.type "set",a],[]⟩) (wants Q E) s:=by
 refine codeAny_of_tree ?_
 refine wpAny_bind (m:=checkBuiltinCall "set.__new__" ⟨[.type "set",a],[]⟩) (wpAny_of_eq (F.newCall_set_1 a) (wpAny_pure ?_))
 refine⟨plainId_quiet F.plain_set_new _,codeAny_builtin F.entry_set_new ?_⟩
 rw[Around.under_plainId F.plain_set_new]
 have sb:=sub_set_self
 obtain⟨hp,g,d,tk,os⟩:=s
 unfold Builtin.«set.__new__» Builtin.Frozenset.newClass
 dsimp only
 wp_walk
 exact wpAny_askSetting (wpAny_pure (by dsimp only;simp only[newObj];exact wpAny_bind (wpAny_alloc (wpAny_pure (wpAny_pure q)))))
end
theorem si_iter:Slot "set_iterator" (Str.ofString "__iter__") "set_iterator.__iter__":=slot_by (mro:=[.type "set_iterator",.type "object"]) (owner:="set_iterator") (by kernel_rfl) (by kernel_rfl) (by kernel_rfl) (by decide +kernel) (.inl (by decide +kernel))
theorem si_next:Slot "set_iterator" (Str.ofString "__next__") "set_iterator.__next__":=slot_by (mro:=[.type "set_iterator",.type "object"]) (owner:="set_iterator") (by kernel_rfl) (by kernel_rfl) (by kernel_rfl) (by decide +kernel) (.inl (by decide +kernel))
theorem st_iter:Slot "set" (Str.ofString "__iter__") "set.__iter__":=slot_by (mro:=[.type "set",.type "object"]) (owner:="set") (by kernel_rfl) (by kernel_rfl) (by kernel_rfl) (by decide +kernel) (.inl (by decide +kernel))
theorem st_len:Slot "set" (Str.ofString "__len__") "set.__len__":=slot_by (mro:=[.type "set",.type "object"]) (owner:="set") (by kernel_rfl) (by kernel_rfl) (by kernel_rfl) (by decide +kernel) (.inl (by decide +kernel))
theorem si_entry_iter:entryFor table "set_iterator.__iter__" = some Builtin.«dict_keyiterator.__iter__»:=
 entryFor_alias (id':="dict_keyiterator.__iter__") (by kernel_rfl) (by first | rfl | decide +kernel) (by decide +kernel) (by kernel_rfl)
theorem si_entry_next:entryFor table "set_iterator.__next__" = some Builtin.«set_iterator.__next__»:=entryFor_of_tree (by kernel_rfl)
theorem st_entry_iter:entryFor table "set.__iter__" = some Builtin.«frozenset.__iter__»:=
 entryFor_alias (id':="frozenset.__iter__") (by kernel_rfl) (by first | rfl | decide +kernel) (by decide +kernel) (by kernel_rfl)
theorem si_args_next (a:Value):argsOk "set_iterator.__next__" ⟨[a],[]⟩:=
 args_by (n:="__txen__".toList) (o:="rotareti_tes".toList) (rows:=Manifest.sig_set_iterator) (by kernel_rfl) (by kernel_rfl) fun _ e _=>by unfold argsOk;rw[e];kernel_rfl
theorem si_args_iter (a:Value):argsOk "set_iterator.__iter__" ⟨[a],[]⟩:=
 args_by (n:="__reti__".toList) (o:="rotareti_tes".toList) (rows:=Manifest.sig_set_iterator) (by kernel_rfl) (by kernel_rfl) fun _ e _=>by unfold argsOk;rw[e];kernel_rfl
theorem st_args_iter (a:Value):argsOk "set.__iter__" ⟨[a],[]⟩:=
 args_by (n:="__reti__".toList) (o:="tes".toList) (rows:=Manifest.sig_set) (by kernel_rfl) (by kernel_rfl) fun _ e _=>by unfold argsOk;rw[e];kernel_rfl
abbrev IsSI (h:Heap)(z:Addr)(first:Value)(i:Nat)(a:Addr)(n ep:Nat):Prop:=h.get? z=some {cls:=.type "set_iterator",dict:=none,data:=.fields #[first,rawInt (i:Int),.ref a,rawInt (n:Int),rawInt (ep:Int)],slots:=#[]}
theorem erase_perm {α:Type}:∀(l:List α) (i:Nat) (h:i<l.length),(l[i]::l.eraseIdx i).Perm l
 |[],i,h=>absurd h (Nat.not_lt_zero _)
 |x::xs,0,h=>.refl _
 |x::xs,i+1,h=>(List.Perm.swap ..).trans ((erase_perm xs i (Nat.lt_of_succ_lt_succ h)).cons x)
theorem draw_perm {α:Type}{P:Program}{w:World}{A:Around}{E:Value→Shared→Prop}:∀(n:Nat) (xs:List α) (s:Shared) (Q:List α→Shared→Prop),xs.length=n→(∀ys d,ys.Perm xs→Q ys {s with drawn:=d})→wpAny (model P w) A (drawOrder n xs) Q E s
 |0,xs,s,Q,l,q=>by
  cases xs with
  |nil=>exact wpAny_pure (q [] s.drawn .nil)
  |cons x xs=>cases l
 |n+1,[],s,Q,l,q=>by cases l
 |n+1,x::xs,s,Q,l,q=>by
  unfold drawOrder
  have ch:∀{Q':Nat→Shared→Prop},(∀i d,i<(x::xs).length→Q' i {s with drawn:=d})→wpAny (model P w) A (choose .order (x::xs).length) Q' E s:=fun h Γ p hΓ=>by
   refine⟨by simp,h _ _ ?_⟩
   exact Nat.mod_lt _ (by simp)
  refine wpAny_bind (ch fun i d hi=>?_)
  have ei:(x::xs)[i]?=some (x::xs)[i]:=List.getElem?_eq_getElem hi
  rw[ei]
  dsimp only
  refine wpAny_bind (draw_perm n _ _ _ (by rw[List.length_eraseIdx,if_pos hi,l];rfl) fun ys d' p=>wpAny_pure (q _ d' ?_))
  exact(p.cons _).trans (erase_perm _ _ hi)
theorem pick_perm {α:Type}(next:Nat→Nat):∀(fuel k:Nat) (left:List α) (out:Array α),left.length=fuel→(pickOrder.go next fuel k left out).toList.Perm (out.toList++left)
 |0,k,left,out,l=>by
  cases left with
  |nil=>unfold pickOrder.go;rw[append_nil]
  |cons x xs=>cases l
 |fuel+1,k,left,out,l=>by
  unfold pickOrder.go
  have hi:next k % left.length<left.length:=Nat.mod_lt _ (by omega)
  rw[List.getElem?_eq_getElem hi]
  dsimp only
  refine(pick_perm next fuel _ _ _ (by rw[List.length_eraseIdx,if_pos hi,l];rfl)).trans ?_
  rw[toList_push,List.append_assoc]
  exact List.Perm.append_left _ (erase_perm _ _ hi)
section
variable {P:Program}{w:World}{a:Addr}{o:Obj}{es:Array (Int×Value)}{ep:Nat}{t:SetTable}
def Nxt (P:Program)(w:World)(a:Addr)(o:Obj)(ep:Nat)(vs:List Value)(C:Nat→Nat→Prop):Prop:=
 ∀(A:Around) (E:Value→Shared→Prop) (s:Shared) (Q:Option (Value×Nat)→Shared→Prop) (i slot:Nat),s.heap.get? a=some o→C i slot→i≤vs.length→
  (∀x slot',vs[i]?=some x→C (i+1) slot'→Q (some (x,slot')) s)→(vs.length≤i→Q none s)→wpAny (model P w) A (setNext a slot i ep) Q E s
theorem nxt_text (ht:w.params.followText "set-order" = true)(d:o.data=.set es ep t)(ft:t.fits es.size=true):Nxt P w a o ep ((pickOrder (w.params.setOrder a ep) es).toList.map (·.2)) fun _ _=>True:=by
 intro A E s Q i slot g _ le q1 q2
 unfold setNext
 refine wpAny_bind (wpAny_setState_of g d ft ?_)
 dsimp only
 unfold setsByText
 refine wpAny_bind (wpAny_bind (wpAny_askSetting (wpAny_pure ?_)))
 have ht':(model P w).w.params.followText "set-order" = true:=ht
 dsimp only
 rw[ht',if_pos rfl,if_neg (by simp)]
 refine wpAny_bind ?_
 unfold setWalk
 refine wpAny_bind (wpAny_setState_of g d ft ?_)
 dsimp only
 unfold setsByText
 refine wpAny_bind (wpAny_bind (wpAny_askSetting (wpAny_pure ?_)))
 dsimp only
 rw[ht',if_pos rfl]
 refine wpAny_bind (wpAny_askSetting (wpAny_pure (wpAny_pure ?_)))
 dsimp only
 show Q (((pickOrder (w.params.setOrder a ep) es)[i]?).map fun e=>(e.2,slot)) s
 cases e:(pickOrder (w.params.setOrder a ep) es)[i]? with
 |none=>exact q2 (by rw[length_map,length_toList];exact Array.getElem?_eq_none_iff.mp e)
 |some x=>exact q1 _ _ (by rw[List.getElem?_map,getElem?_toList,e];rfl) trivial
theorem nxt_place (ht:w.params.followText "set-order" = false)(d:o.data=.set es ep t)(ft:t.fits es.size=true)(T:Tidy t)(ld:t.led=true)(nd:(!t.plain&&decide (es.size>1))=false) :
 Nxt P w a o ep (es.toList.map (·.2)) fun i slot=>i=0∧slot=0∨∃p k,i=k+1∧t.place[k]?=some p∧slot=p+1:=by
 intro A E s Q i slot g c le q1 q2
 have sz:t.place.size=es.size:=by
  simp only[SetTable.fits,and_eq_true,beq_iff_eq]at ft
  exact ft.1
 rw[length_map,length_toList]at le q2
 unfold setNext
 refine wpAny_bind (wpAny_setState_of g d ft ?_)
 dsimp only
 unfold setsByText
 refine wpAny_bind (wpAny_bind (wpAny_askSetting (wpAny_pure ?_)))
 have ht':(model P w).w.params.followText "set-order" = false:=ht
 dsimp only
 rw[ht',if_neg Bool.false_ne_true]
 split
 ·rename_i z
  rw[show(!t.plain&&decide (es.size>1))=true from z]at nd
  cases nd
 refine wpAny_bind ?_
 show wpAny _ _ (if(!t.led&&!es.isEmpty)=true then unsupported "set:maker-not-led" else pure ()) _ _ _
 rw[ld,if_neg (by simp)]
 refine wpAny_pure ?_
 rw[below_next T.up c (by omega)]
 rcases Nat.lt_or_ge i es.size with z | z
 ·rw[Array.getElem?_eq_getElem z,Array.getElem?_eq_getElem (show i<t.place.size by omega)]
  refine wpAny_pure (q1 _ _ ?_ (.inr ⟨_,i,rfl,Array.getElem?_eq_getElem (by omega),rfl⟩))
  rw[List.getElem?_map,getElem?_toList,Array.getElem?_eq_getElem z]
  rfl
 ·rw[Array.getElem?_eq_none z]
  exact wpAny_pure (q2 z)
end
section
variable {P:Program}{w:World}{A:Around}{z a:Addr}{o:Obj}{es:Array (Int×Value)}{ep:Nat}{t:SetTable}{vs:List Value}{C:Nat→Nat→Prop}
theorem si_item (nx:Nxt P w a o ep vs C)(d:o.data=.set es ep t)(ft:t.fits es.size=true)(ne:z≠a){i slot:Nat}{E:Value→Shared→Prop}{s:Shared}{Q:Value→Shared→Prop}(hz:IsSI s.heap z (rawInt (slot:Int)) i a es.size ep)(g:s.heap.get? a=some o)
 (c:C i slot) (lt:i<vs.length) (q:∀x slot' h',vs[i]?=some x→C (i+1) slot'→IsSI h' z (rawInt (slot':Int)) (i+1) a es.size ep→Heap.SameBut z s.heap h'→Q x {s with heap:=h'}) :
 wpAny (model P w) A (Builtin.«set_iterator.__next__» ⟨[.ref z],[]⟩) (fun fin s'=>∃v,fin=.done (.ret v)∧Q v s') E s:=by
 obtain⟨hp,gn,dr,tk,os⟩:=s
 have se:∀{Q:Array (Int×Value)→Shared→Prop} {E:Value→Shared→Prop},Q es ⟨hp,gn,dr,tk,os⟩→wpAny (model P w) A (setEntries a) Q E ⟨hp,gn,dr,tk,os⟩:=fun r=>by
  unfold setEntries
  exact wpAny_bind (wpAny_setState_of g d ft (wpAny_pure r))
 have e0:(((es.size:Nat):Int) !=((es.size:Nat):Int))=false:=by simp
 unfold Builtin.«set_iterator.__next__»
 generalize hSN:setNext=SN
 wp_walk using se
 subst hSN
 rw[Int.toNat_natCast,Int.toNat_natCast,Int.toNat_natCast]
 refine nx A E _ _ i slot g c (Nat.le_of_lt lt) (fun x slot' hx c'=>?_) fun e=>absurd lt (Nat.not_lt.mpr e)
 dsimp only
 wp_walk
 exact⟨_,rfl,q x slot' _ hx c' (get?_update_self _ (get?_update_self _ hz rfl) rfl) ((Heap.SameBut.update ..).trans (.update ..))⟩
theorem si_end (nx:Nxt P w a o ep vs C)(d:o.data=.set es ep t)(ft:t.fits es.size=true)(ne:z≠a){i slot:Nat}{E:Value→Shared→Prop}{s:Shared}{Q:PySem.Fin→Shared→Prop}(hh:A.handled=none)
 (hz:IsSI s.heap z (rawInt (slot:Int)) i a es.size ep) (g:s.heap.get? a=some o) (c:C i slot) (lt:i=vs.length)
 (q:∀h' e,(∀c o,c≠z→s.heap.get? c=some o→h'.get? c=some o)→(∃o,h'.get? e=some o∧o.cls=.type "StopIteration")→E (.ref e) {s with heap:=h'}) :
 wpAny (model P w) A (Builtin.«set_iterator.__next__» ⟨[.ref z],[]⟩) Q E s:=by
 obtain⟨hp,gn,dr,tk,os⟩:=s
 have se:∀{Q:Array (Int×Value)→Shared→Prop} {E:Value→Shared→Prop},Q es ⟨hp,gn,dr,tk,os⟩→wpAny (model P w) A (setEntries a) Q E ⟨hp,gn,dr,tk,os⟩:=fun r=>by
  unfold setEntries
  exact wpAny_bind (wpAny_setState_of g d ft (wpAny_pure r))
 have e0:(((es.size:Nat):Int) !=((es.size:Nat):Int))=false:=by simp
 unfold Builtin.«set_iterator.__next__»
 generalize hSN:setNext=SN
 wp_walk using se
 subst hSN
 rw[Int.toNat_natCast,Int.toNat_natCast,Int.toNat_natCast]
 refine nx A E _ _ i slot g c (Nat.le_of_eq lt) (fun x slot' hx c'=>absurd (List.getElem?_eq_some_iff.mp hx).1 (by omega)) fun e=>?_
 dsimp only
 wp_walk
 exact wpAny_raiseNew_none hh (q _ _ (fun c o n e=>by repeat (first | exact e | refine get?_update_of_ne _ (Ne.symm n) ?_ | refine get?_push_of_some _ ?_)) ⟨_,get?_push_size _ rfl,rfl⟩)
theorem si_self {E:Value→Shared→Prop}{s:Shared}{f:Value}{i n:Nat}{Q:Value→Shared→Prop}(hz:IsSI s.heap z f i a n ep)(h:Q (.ref z) s):wpAny (model P w) A (pyIter (.ref z)) Q E s:=by
 have hT:s.TypeIs (.ref z) "set_iterator":=⟨_,hz,rfl⟩
 refine wpAny_pyIter_slot hT si_iter (wpAny_call_entry si_iter hT si_entry_iter ?_ (si_args_iter _))
 show wpAny _ _ (ret (.ref z)) _ _ s
 exact wpAny_pure ⟨_,rfl,"set_iterator",_,hT,si_next.lookup,h⟩
theorem si_pyNext {E:Value→Shared→Prop}{s:Shared}{f:Value}{i n:Nat}{Q:Option Value→Shared→Prop}(hz:IsSI s.heap z f i a n ep)
 (h:∀E',wpAny (model P w) A.in1 (Builtin.«set_iterator.__next__» ⟨[.ref z],[]⟩) (fun fin s'=>∃v,fin=.done (.ret v)∧Q (some v) s') E' s):wpAny (model P w) A (pyNext (.ref z)) Q E s:=by
 have hT:s.TypeIs (.ref z) "set_iterator":=⟨_,hz,rfl⟩
 unfold pyNext
 refine wpAny_bind (wpAny_attempt (wpAny_callSpecial?_slot (name:=Str.ofString "__next__") hT si_next (wpAny_call_entry si_next hT si_entry_next ?_ (si_args_next _))))
 refine wpAny_mono (h _) (fun fin s' r=>?_) fun _ _ x=>x
 obtain⟨v,e,q⟩:=r
 exact⟨v,e,wpAny_pure q⟩
theorem si_pyEnd {E:Value→Shared→Prop}{s:Shared}{f:Value}{i n:Nat}{Q:Option Value→Shared→Prop}(hz:IsSI s.heap z f i a n ep)
 (h:∀(Q':PySem.Fin→Shared→Prop) (E':Value→Shared→Prop),(∀h' e,(∀c o,c≠z→s.heap.get? c=some o→h'.get? c=some o)→(∃o,h'.get? e=some o∧o.cls=.type "StopIteration")→E' (.ref e) {s with heap:=h'})→
  wpAny (model P w) A.in1 (Builtin.«set_iterator.__next__» ⟨[.ref z],[]⟩) Q' E' s)
 (q:∀h',(∀c o,c≠z→s.heap.get? c=some o→h'.get? c=some o)→Q none {s with heap:=h'}):wpAny (model P w) A (pyNext (.ref z)) Q E s:=by
 have hT:s.TypeIs (.ref z) "set_iterator":=⟨_,hz,rfl⟩
 unfold pyNext
 refine wpAny_bind (wpAny_attempt (wpAny_callSpecial?_slot (name:=Str.ofString "__next__") hT si_next (wpAny_call_entry si_next hT si_entry_next (h _ _ fun h' e k ⟨o,go,co⟩=>?_) (si_args_next _))))
 exact wpAny_bind (wpAny_isInstance (T:="StopIteration") (b:=true) ⟨o,go,co⟩ isSubtype_stop (wpAny_pure (q _ k)))
theorem walk_num (hh:A.handled=none)(nx:Nxt P w a o ep vs C)(d:o.data=.set es ep t)(ft:t.fits es.size=true)(ne:z≠a) :
 WalksS P w A z [z,a] [z] (fun x y=>y=x) vs.length (fun i v=>vs[i]?=some v) fun i s=>∃slot:Nat,IsSI s.heap z (rawInt (slot:Int)) i a es.size ep∧s.heap.get? a=some o∧C i slot where
 sub:=fun b hb=>by simp at hb;simp[hb]
 grefl:=fun _=>rfl
 gtrans:=fun _ _ _ p q=>q.trans p
 frame:=fun i s h' tk st _ k=>by
  obtain⟨sl,x,g,c⟩:=st
  exact⟨sl,k z (by simp) _ x,k a (by simp) _ g,c⟩
 item:=fun i s Q E lt st q=>by
  obtain⟨sl,x,g,c⟩:=st
  refine si_pyNext x fun E'=>si_item nx d ft ne x g c lt fun v sl' h' hv c' x' sb=>q v _ hv ⟨sl',x',?_,c'⟩ ⟨fun b o hb e=>(sb.2 b fun e'=>hb (by simp[e'])).trans e,rfl,rfl,rfl,Nat.le_refl _⟩
  exact(sb.2 a (Ne.symm ne)).trans g
 done:=fun s Q E st q=>by
   obtain⟨sl,x,g,c⟩:=st
   exact si_pyEnd x (fun Q' E' he=>si_end nx d ft ne (by simpa using hh) x g c rfl he) fun h' k=>q _ ⟨fun b o hb e=>k b o (fun e'=>hb (by simp[e'])) e,rfl,rfl,rfl,Nat.le_refl _⟩
 self:=fun i s Q E st q=>by
  obtain⟨sl,x,g,c⟩:=st
  exact si_self x q
end
section
variable {P:Program}{w:World}{A:Around}{z a tp:Addr}{o:Obj}{es:Array (Int×Value)}{ep:Nat}{t:SetTable}{ps:List Nat}
abbrev IsPl (h:Heap)(tp:Addr)(ps:List Nat):Prop:=h.get? tp=some {cls:=.type "tuple",dict:=none,data:=.seq (ps.map fun(i:Nat)=>rawInt (i:Int)).toArray 0,slots:=#[]}
theorem sd_item (d:o.data=.set es ep t)(ft:t.fits es.size=true){i p:Nat}{x:Int×Value}{E:Value→Shared→Prop}{s:Shared}{Q:Value→Shared→Prop}(hz:IsSI s.heap z (.ref tp) i a es.size ep)(g:s.heap.get? a=some o)(pl:IsPl s.heap tp ps)
 (hp':ps[i]?=some p) (hx:es[p]?=some x) (q:∀h',IsSI h' z (.ref tp) (i+1) a es.size ep→Heap.SameBut z s.heap h'→Q x.2 {s with heap:=h'}) :
 wpAny (model P w) A (Builtin.«set_iterator.__next__» ⟨[.ref z],[]⟩) (fun fin s'=>∃v,fin=.done (.ret v)∧Q v s') E s:=by
 obtain⟨hp,gn,dr,tk,os⟩:=s
 have se:∀{Q:Array (Int×Value)→Shared→Prop} {E:Value→Shared→Prop},Q es ⟨hp,gn,dr,tk,os⟩→wpAny (model P w) A (setEntries a) Q E ⟨hp,gn,dr,tk,os⟩:=fun r=>by
  unfold setEntries
  exact wpAny_bind (wpAny_setState_of g d ft (wpAny_pure r))
 have e0:(((es.size:Nat):Int) !=((es.size:Nat):Int))=false:=by simp
 have e1:(ps.map fun(i:Nat)=>rawInt (i:Int)).toArray[i]?=some (rawInt (p:Int)):=by rw[List.getElem?_toArray,List.getElem?_map,hp'];rfl
 unfold Builtin.«set_iterator.__next__»
 generalize hSN:setNextDrawn=SN
 wp_walk using se
 subst hSN
 rw[Int.toNat_natCast,e1]
 show wpAny (model P w) A (setNextDrawn a ((p:Int)).toNat ((ep:Int)).toNat >>= _) _ E _
 rw[Int.toNat_natCast,Int.toNat_natCast]
 refine wpAny_bind ?_
 unfold setNextDrawn
 refine wpAny_bind (wpAny_setState_of g d ft ?_)
 dsimp only
 rw[if_neg (by simp),hx]
 refine wpAny_pure ?_
 wp_walk
 exact⟨_,rfl,q _ (get?_update_self _ hz rfl) (.update ..)⟩
theorem sd_end (d:o.data=.set es ep t)(ft:t.fits es.size=true){i:Nat}{E:Value→Shared→Prop}{s:Shared}{Q:PySem.Fin→Shared→Prop}(hh:A.handled=none)(hz:IsSI s.heap z (.ref tp) i a es.size ep)(g:s.heap.get? a=some o)(pl:IsPl s.heap tp ps)
 (lt:i=ps.length) (q:∀h' e,(∀c o,c≠z→s.heap.get? c=some o→h'.get? c=some o)→(∃o,h'.get? e=some o∧o.cls=.type "StopIteration")→E (.ref e) {s with heap:=h'}) :
 wpAny (model P w) A (Builtin.«set_iterator.__next__» ⟨[.ref z],[]⟩) Q E s:=by
 obtain⟨hp,gn,dr,tk,os⟩:=s
 have se:∀{Q:Array (Int×Value)→Shared→Prop} {E:Value→Shared→Prop},Q es ⟨hp,gn,dr,tk,os⟩→wpAny (model P w) A (setEntries a) Q E ⟨hp,gn,dr,tk,os⟩:=fun r=>by
  unfold setEntries
  exact wpAny_bind (wpAny_setState_of g d ft (wpAny_pure r))
 have e0:(((es.size:Nat):Int) !=((es.size:Nat):Int))=false:=by simp
 have e1:(ps.map fun(i:Nat)=>rawInt (i:Int)).toArray[i]?=none:=by rw[List.getElem?_toArray,List.getElem?_map,List.getElem?_eq_none (by omega)];rfl
 unfold Builtin.«set_iterator.__next__»
 generalize hSN:setNextDrawn=SN
 wp_walk using se
 rw[Int.toNat_natCast,e1]
 dsimp only
 wp_walk
 exact wpAny_raiseNew_none hh (q _ _ (fun c o n e=>by repeat (first | exact e | refine get?_update_of_ne _ (Ne.symm n) ?_ | refine get?_push_of_some _ ?_)) ⟨_,get?_push_size _ rfl,rfl⟩)
theorem walk_drawn (hh:A.handled=none)(d:o.data=.set es ep t)(ft:t.fits es.size=true)(ne:z≠a)(nt:z≠tp)(ok:∀p∈ps,p<es.size) :
 WalksS P w A z [z,a,tp] [z] (fun x y=>y=x) ps.length (fun i v=>(ps.map fun p=>(es.getD p (0,.none)).2)[i]?=some v) fun i s=>IsSI s.heap z (.ref tp) i a es.size ep∧s.heap.get? a=some o∧IsPl s.heap tp ps where
 sub:=fun b hb=>by simp at hb;simp[hb]
 grefl:=fun _=>rfl
 gtrans:=fun _ _ _ p q=>q.trans p
 frame:=fun i s h' tk st _ k=>⟨k z (by simp) _ st.1,k a (by simp) _ st.2.1,k tp (by simp) _ st.2.2⟩
 item:=fun i s Q E lt st q=>by
  obtain⟨x,g,pl⟩:=st
  have e:ps[i]?=some ps[i]:=List.getElem?_eq_getElem lt
  have l:ps[i]<es.size:=ok _ (getElem_mem lt)
  refine si_pyNext x fun E'=>sd_item d ft x g pl e (Array.getElem?_eq_getElem l) fun h' x' sb=>q _ _ ?_ ⟨x',(sb.2 a (Ne.symm ne)).trans g,(sb.2 tp (Ne.symm nt)).trans pl⟩ ⟨fun b o hb e=>(sb.2 b fun e'=>hb (by simp[e'])).trans e,rfl,rfl,rfl,Nat.le_refl _⟩
  rw[List.getElem?_map,e]
  show some (es.getD ps[i] (0,.none)).2=some es[ps[i]].2
  rw[getD_eq_getD_getElem?,Array.getElem?_eq_getElem l]
  rfl
 done:=fun s Q E st q=>by
   obtain⟨x,g,pl⟩:=st
   exact si_pyEnd x (fun Q' E' he=>sd_end d ft (by simpa using hh) x g pl rfl he) fun h' k=>q _ ⟨fun b o hb e=>k b o (fun e'=>hb (by simp[e'])) e,rfl,rfl,rfl,Nat.le_refl _⟩
 self:=fun i s Q E st q=>si_self st.1 q
end
theorem set_owner:splitId "set.__len__" = some ("set","__len__"):=by decide +kernel
section
variable {P:Program}{w:World}{A:Around}{a:Addr}{E:Value→Shared→Prop}{s:Shared}{ks:List Int}
theorem hint_set (g:s.TypeIs (.ref a) "set"){Q:Bool→Shared→Prop}(q:Q false s):wpAny (model P w) A (Builtin.List.listLengthHint (.ref a)) Q E s:=by
 unfold Builtin.List.listLengthHint
 refine wpAny_bind (wpAny_specialOf g st_len.lookup ?_)
 dsimp only
 rw[set_owner]
 dsimp only
 refine wpAny_bind (wpAny_isInstance g sub_set_self ?_)
 rw[if_neg (by simp)]
 rw[if_pos (by with_unfolding_all rfl)]
 exact wpAny_bind (wpAny_typeOf g (wpAny_pure q))
end
section
variable {X:Cx}
theorem Inv.drew {pins:List (Addr×Obj)}{σ:List (Option V)}{H:Hp}{s:Shared}(I:Inv X pins σ H s)(d:Drawn):Inv X pins σ H {s with drawn:=d}:=
 ⟨I.ok,I.os,I.bare,I.base,I.loc,I.cell,I.free,I.freeC,I.pin,I.hok,I.len⟩
end
def hT (ks:List Int):Int:=reduceHash (Builtin.Tuple.tupleHashOf (ks.map hashInt))
theorem hT_is (P:Program)(w:World)(ks:List Int):tupleKeyHash (intKind P w) ks=hT ks:=rfl
def stp (t:SetTable)(hs:Array Int)(h:Int):Option (SetTable×Array Int):=
 if t.gaveWay||!t.fits hs.size then none else
 match t.probe (fun i=>((hs[i]?).getD 0)) h (t.probeStart h) with
 |some (.empty j none)=>
  let t1:=(t.put j).1
  let hs1:=insertAt hs (t.put j).2 h
  if !t1.fits hs1.size then none else
  if t1.tooFull then
   match t1.relaid hs1 (SetTable.grown (hs.size+1)) with
   |some (t2,order)=>
    let hs2:=order.filterMap (hs1[·]?)
    if coversAll order hs1.size&&t2.fits hs2.size&&decide (sizeAbove (SetTable.grown (hs.size+1))≤sizeLine) then some (t2,hs2) else none
   |none=>none
  else some (t1,hs1)
 |_=>none
def runs:SetTable→Array Int→List Int→Bool
 |t,hs,[]=>t.fits hs.size&&(t.dummies.isEmpty&&decide (t.place.toList.Pairwise (· < ·)))
 |t,hs,h::r=>match stp t hs h with
  |some (t',hs')=>runs t' hs' r
  |none=>false
abbrev ldd (b:Bool)(t:SetTable):SetTable:={t with led:=b}
theorem led_go (b:Bool)(t:SetTable)(F:Nat→Int)(h:Int):∀(fuel:Nat) (p:SetTable.Probe),SetTable.probe.go (ldd b t) F h fuel p=SetTable.probe.go t F h fuel p
 |0,p=>rfl
 |fuel+1,p=>by
  unfold SetTable.probe.go
  have e1:(ldd b t).slot p.j=t.slot p.j:=rfl
  have e2:∀q,(ldd b t).advance q=t.advance q:=fun q=>rfl
  rw[e1]
  cases t.slot p.j with
  |empty=>rfl
  |dummy=>dsimp only;rw[e2,led_go b t F h fuel]
  |live i=>dsimp only;rw[e2,led_go b t F h fuel]
theorem led_laid (b:Bool)(t:SetTable)(hs:Array Int)(n:Nat):(ldd b t).relaid hs n=(t.relaid hs n).map fun q=>(ldd b q.1,q.2):=by
 unfold SetTable.relaid SetTable.laid
 dsimp only[ldd]
 have e:movedTo {t with led:=b} (sizeAbove n - 1)=t.movedTo (sizeAbove n - 1):=rfl
 rw[e]
 cases SetTable.layClean (sizeAbove n - 1) hs<;>rfl
theorem led_stp (b:Bool)(t:SetTable)(hs:Array Int)(h:Int):stp (ldd b t) hs h=(stp t hs h).map fun q=>(ldd b q.1,q.2):=by
 unfold stp
 have e1:(ldd b t).gaveWay=t.gaveWay:=rfl
 have e2:∀n,(ldd b t).fits n=t.fits n:=fun n=>rfl
 have e3:∀j,(ldd b t).put j=(ldd b (t.put j).1,(t.put j).2):=fun j=>rfl
 have e4:(ldd b t).probe (fun i=>((hs[i]?).getD 0)) h ((ldd b t).probeStart h)=t.probe (fun i=>((hs[i]?).getD 0)) h (t.probeStart h):=led_go b t _ h _ _
 have e5:∀(u:SetTable) n,(ldd b u).fits n=u.fits n:=fun u n=>rfl
 have e6:∀(u:SetTable),(ldd b u).tooFull=u.tooFull:=fun u=>rfl
 rw[e1,e2,e4]
 split
 ·rfl
 split
 ·dsimp only
  rw[e3,e5,e6,led_laid]
  split
  ·rfl
  split
  ·cases(t.put _).1.relaid _ _ with
   |none=>rfl
   |some q=>
    obtain⟨t2,order⟩:=q
    show(if _ then _ else _)=_
    dsimp only
    rw[e5]
    split<;>rfl
  ·rfl
 ·rfl
theorem led_runs (b:Bool):∀(l:List Int) (t:SetTable) (hs:Array Int),runs (ldd b t) hs l=runs t hs l
 |[],t,hs=>rfl
 |h::r,t,hs=>by
  unfold runs
  rw[led_stp]
  cases stp t hs h with
  |none=>rfl
  |some q=>exact led_runs b r _ _
def runW (N k:Nat):Bool:=runs (.fresh 0 0 true) #[] ((BB.waysL N k).map hT)
theorem run_6:∀N∈List.range 7,∀k∈List.range (N+1),runW N k=true:=by decide +kernel
theorem run_7a:∀k∈[0,1,2,3],runW 7 k=true:=by decide +kernel
theorem run_7b:∀k∈[4,5,6,7],runW 7 k=true:=by decide +kernel
theorem run_8a:∀k∈[0,1,2,6,7,8],runW 8 k=true:=by decide +kernel
theorem run_8b:runW 8 3=true:=by decide +kernel
theorem run_8c:runW 8 4=true:=by decide +kernel
theorem run_8d:runW 8 5=true:=by decide +kernel
theorem run_all {N k:Nat}(h:N≤8)(hk:k≤N):runW N k=true:=by
 by_cases c:N<7
 ·exact run_6 N (mem_range.mpr c) k (mem_range.mpr (by omega))
 by_cases c7:N=7
 ·subst c7
  by_cases d:k<4
  ·exact run_7a k (by simp;omega)
  ·exact run_7b k (by simp;omega)
 obtain rfl:N=8:=by omega
 by_cases d3:k=3
 ·subst d3;exact run_8b
 by_cases d4:k=4
 ·subst d4;exact run_8c
 by_cases d5:k=5
 ·subst d5;exact run_8d
 exact run_8a k (by simp;omega)
def SetR (h:Heap)(a:Addr)(t:SetTable)(hs:Array Int)(vs:List Value):Prop:=
 ∃o es ep,h.get? a=some o∧o.ExactSet∧o.data=.set es ep t∧es.map (·.1)=hs∧(es.toList.map (·.2)).Perm vs
theorem insert_map {α β:Type}(f:α→β)(xs:Array α)(p:Nat)(x:α):(insertAt xs p x).map f=insertAt (xs.map f) p (f x):=by
 apply toList_inj.mp
 rw[toList_map,toList_insertAt,toList_insertAt,map_append,map_cons,toList_map,List.map_take,map_drop]
theorem insert_perm {α:Type}(xs:Array α)(p:Nat)(x:α):(insertAt xs p x).toList.Perm (xs.toList++[x]):=by
 rw[toList_insertAt]
 refine perm_middle.trans ?_
 rw[take_append_drop]
 exact(List.perm_append_singleton _ _).symm
theorem insert_size {α:Type}(xs:Array α)(p:Nat)(x:α):(insertAt xs p x).size=xs.size+1:=by
 rw[←length_toList,(insert_perm xs p x).length_eq,length_append,length_toList]
 rfl
theorem filt_map {α β:Type}(f:α→β)(xs:Array α)(order:Array Nat):(order.filterMap (xs[·]?)).map f=order.filterMap ((xs.map f)[·]?):=by
 apply toList_inj.mp
 rw[toList_map,Array.toList_filterMap,Array.toList_filterMap,List.map_filterMap]
 congr 1
 funext i
 rw[Array.getElem?_map]
section
variable {P:Program}{w:World}{A:Around}{E:Value→Shared→Prop}{s:Shared}
theorem SetR.stored {h:Heap}{a:Addr}{o:Obj}{es es':Array (Int×Value)}{ep:Nat}{t t':SetTable}{hs:Array Int}{vs:List Value}(g:h.get? a=some o)(ex:o.ExactSet)(d:o.data=.set es ep t)
 (e1:es'.map (·.1)=hs) (e2:(es'.toList.map (·.2)).Perm vs) :
 (h.update a (Obj.putSet es' t')).get? a=some {o with data:=.set es' (ep+1) t'}∧SetR (h.update a (Obj.putSet es' t')) a t' hs vs:=by
 have e:=get?_update_self (Obj.putSet es' t') g (by rw[putSet_of es' t' d];rfl)
 rw[putSet_of es' t' d]at e
 exact⟨e,_,es',ep+1,e,ex,rfl,e1,e2⟩
theorem val_tup {ks:List Int}{a:Addr}{Q:Bool→Shared→Prop}(hk:IsTupleKey (intKind P w) s.heap ks a)(q:Q true s):wpAny (model P w) A (hashByValue 8 (.ref a)) Q E s:=by
 have hT:=hk.typeIs
 obtain⟨o,items,n,ho,_,hd,hi⟩:=hk
 have all:∀v∈items.toList,hashByValue 7 v=pure true:=by
  revert hi
  generalize items.toList=l
  intro hi
  induction hi with
  |nil=>intro v hv;cases hv
  | @cons k v' ks' vs' h1 _ ih=>
    intro v hv
    rcases mem_cons.mp hv with rfl | hv
    ·obtain⟨_,t,e⟩:=is_key (e:=(0,v)) h1
     rw[show v=.int k t from e]
     rfl
    ·exact ih v hv
 unfold hashByValue
 refine wpAny_bind (wpAny_specialOf hT F.slot_tuple_hash.lookup ?_)
 show wpAny _ _ (seqItems? (.ref a) >>= _) _ _ s
 refine wpAny_bind (wpAny_seqItems ho hd ?_)
 dsimp only[Option.getD_some]
 refine wpAny_bind ?_
 show wpAny _ _ (forIn items _ _) _ _ s
 rw[←Array.forIn_toList]
 refine wpAny_forIn_list _ (fun rest r s'=>r.1=none∧s'=s∧∀v∈rest,hashByValue 7 v=pure true) _ ?_ ?_ _ _ ⟨rfl,rfl,all⟩
 ·rintro v rest r s' ⟨hr,rfl,hall⟩
  rw[hall v mem_cons_self]
  refine wpAny_bind (wpAny_pure ?_)
  simp only[Bool.not_true,false_eq_true,if_false]
  exact wpAny_pure ⟨rfl,rfl,fun u hu'=>hall u (mem_cons_of_mem _ hu')⟩
 ·rintro⟨r1,r2⟩ s' ⟨hr,rfl,_⟩
  simp only at hr
  subst hr
  exact wpAny_pure q
theorem set_addT {a p:Addr}{ks:List Int}{h:Int}{t t':SetTable}{hs hs':Array Int}{vs:List Value}{Q:Bool→Shared→Prop}(S:SetR s.heap a t hs vs)(st:stp t hs h=some (t',hs'))(few:hs.size+1≤sizeLine)(hk:IsTupleKey (intKind P w) s.heap ks p)
 (q:∀h',Heap.SameBut a s.heap h'→SetR h' a t' hs' (vs++[.ref p])→Q true {s with heap:=h'}) :
 wpAny (model P w) A (setAddHashed a (.ref p) h) Q E s:=by
 obtain⟨o,es,ep,g,ex,d,eh,pm⟩:=S
 unfold stp at st
 split at st
 ·cases st
 rename_i c0
 obtain⟨gv,ft⟩:t.gaveWay=false∧t.fits hs.size=true:=by
  cases c1:t.gaveWay<;>cases c2:t.fits hs.size<;>rw[c1,c2]at c0<;>simp at c0<;>exact⟨rfl,rfl⟩
 have sz:es.size=hs.size:=by rw[←eh,size_map]
 rw[←sz]at ft
 unfold setAddHashed setAddHashedIn
 refine wpAny_holding (wpAny_bind (wpAny_setState_of g d ft ?_))
 dsimp only
 rw[if_neg (by unfold byScan;simp[Value.scannable])]
 unfold setSearch setSearchFrom
 refine wpAny_bind (wpAny_bind (wpAny_setState_of g d ft ?_))
 dsimp only
 rw[gv,if_neg Bool.false_ne_true]
 split at st
 case h_2=>cases st
 rename_i j hp
 have key:∀F:Nat→Int,(∀i,F i=(hs[i]?).getD 0)→t.probe F h ((none:Option SetTable.Probe).getD (t.probeStart h))=some (.empty j none):=fun F hF=>by
  rw[show F=_ from funext hF]
  exact hp
 rw[key _ fun i=>by
  show((es[i]?.map (·.1)).getD 0)=_
  rw[←eh,Array.getElem?_map]]
 dsimp only
 refine wpAny_pure ?_
 dsimp only
 refine wpAny_bind (wpAny_setState_of g d ft ?_)
 dsimp only at st ⊢
 split at st
 ·cases st
 rename_i c1
 have pl:(t.put j).1.plain=t.plain:=rfl
 have e1:(insertAt es (t.put j).2 (h,Value.ref p)).map (·.1)=insertAt hs (t.put j).2 h:=by rw[insert_map,eh]
 have p1:((insertAt es (t.put j).2 (h,Value.ref p)).toList.map (·.2)).Perm (vs++[.ref p]):=by
  refine((insert_perm es (t.put j).2 (h,Value.ref p)).map (·.2)).trans ?_
  rw[map_append]
  exact pm.append_right _
 have z1:(insertAt es (t.put j).2 (h,Value.ref p)).size=hs.size+1:=by rw[insert_size,sz]
 obtain⟨g2,S2⟩:=SetR.stored (t':=(t.put j).1) g ex d e1 p1
 have b2:=Heap.SameBut.update s.heap a (Obj.putSet (insertAt es (t.put j).2 (h,Value.ref p)) (t.put j).1)
 have rest:wpAny (model P w) A (do
  storeSet a (insertAt es (t.put j).2 (h,Value.ref p)) (t.put j).1
  if(!false&&(t.put j).1.tooFull)=true then do
   setRelay a (SetTable.grown (es.size+1))
   pure true
  else pure true) Q E s:=by
  refine wpAny_bind (wpAny_storeSet_of g d ?_ (by rw[z1];exact few))
  by_cases c2:(t.put j).1.tooFull=true
  ·rw[if_pos c2]at st
   rw[if_pos (by rw[c2];rfl)]
   split at st
   case h_2=>cases st
   rename_i t2 order hr
   split at st
   case isFalse=>cases st
   rename_i c3
   simp only[and_eq_true,decide_eq_true_eq]at c3
   obtain⟨⟨k1,k2⟩,k3⟩:=c3
   cases st
   have f1:(t.put j).1.fits (insertAt es (t.put j).2 (h,Value.ref p)).size=true:=by
    have:(insertAt hs (t.put j).2 h).size=(insertAt es (t.put j).2 (h,Value.ref p)).size:=by rw[insert_size,insert_size,sz]
    rw[←this]
    simpa using c1
   have ra:relayAll (t.put j).1 (insertAt es (t.put j).2 (h,Value.ref p)) (SetTable.grown (es.size+1))=(order.filterMap ((insertAt es (t.put j).2 (h,Value.ref p))[·]?),t',false):=by
    unfold relayAll
    rw[e1,sz,hr]
    dsimp only
    have k1':coversAll order (insertAt es (t.put j).2 (h,Value.ref p)).size=true:=by rw[z1,←insert_size hs (t.put j).2 h];exact k1
    have k2':t'.fits (order.filterMap ((insertAt es (t.put j).2 (h,Value.ref p))[·]?)).size=true:=by
     have:=congrArg Array.size (filt_map (·.1) (insertAt es (t.put j).2 (h,Value.ref p)) order)
     rw[size_map,e1]at this
     rw[this]
     exact k2
    rw[k1',k2']
    rfl
   have pR:=relayAll_perm (t.put j).1 (insertAt es (t.put j).2 (h,Value.ref p)) (SetTable.grown (es.size+1))
   rw[ra]at pR
   dsimp only at pR
   have e2:(order.filterMap ((insertAt es (t.put j).2 (h,Value.ref p))[·]?)).map (·.1)=order.filterMap ((insertAt hs (t.put j).2 h)[·]?):=by rw[filt_map,e1]
   have p2:=(pR.map (·.2)).trans p1
   have z2:(order.filterMap ((insertAt es (t.put j).2 (h,Value.ref p))[·]?)).size=(insertAt es (t.put j).2 (h,Value.ref p)).size:=by rw[←length_toList,pR.length_eq,length_toList]
   obtain⟨g3,S3⟩:=SetR.stored (t':=t') g2 ex rfl e2 p2
   unfold setRelay
   refine wpAny_bind (wpAny_bind (wpAny_setState_of g2 rfl f1 ?_))
   dsimp only
   rw[if_neg (by rw[sz];omega)]
   refine wpAny_bind ?_
   rw[e1,sz,hr]
   refine wpAny_of_eq (?_:_=pure (order.filterMap ((insertAt es (t.put j).2 (h,Value.ref p))[·]?),t')) ?_
   ·show(if((order.filterMap ((insertAt es (t.put j).2 (h,Value.ref p))[·]?)).size !=(insertAt es (t.put j).2 (h,Value.ref p)).size)=true then(do unsupported _;pure _) else pure _)=_
    rw[if_neg (by rw[z2];simp)]
   dsimp only
   exact wpAny_storeSet_of g2 rfl (wpAny_pure (q _ (b2.trans (.update ..)) S3)) (by rw[z2,z1];exact few)
  ·rw[if_neg c2]at st
   rw[if_neg (by simpa using c2)]
   cases st
   exact wpAny_pure (q _ b2 S2)
 split
 ·refine wpAny_bind (val_tup hk ?_)
  rw[if_pos rfl]
  exact rest
 ·refine wpAny_bind (wpAny_pure ?_)
  rw[if_pos rfl]
  exact rest
end
theorem stp_led {t t':SetTable}{hs hs':Array Int}{h:Int}(e:stp t hs h=some (t',hs')):t'.led=t.led:=by
 have z:=led_stp t.led t hs h
 rw[show ldd t.led t=t from rfl,e]at z
 have:=congrArg (fun q:Option (SetTable×Array Int)=>q.map fun r=>r.1.led) z
 simpa using this
theorem TupKey.at {P:Program}{w:World}{h h':Heap}{ks:List Int}{a:Addr}(x:IsTupleKey (intKind P w) h ks a)(k:∀o,h.get? a=some o→h'.get? a=some o):IsTupleKey (intKind P w) h' ks a:=by
 obtain⟨o,items,n,g,r⟩:=x
 exact⟨o,items,n,k _ g,r⟩
theorem SetR.at {h h':Heap}{a:Addr}{t:SetTable}{hs:Array Int}{vs:List Value}(S:SetR h a t hs vs)(k:∀o,h.get? a=some o→h'.get? a=some o):SetR h' a t hs vs:=by
 obtain⟨o,es,ep,g,r⟩:=S
 exact⟨o,es,ep,k _ g,r⟩
theorem SetR.size {h:Heap}{a:Addr}{t:SetTable}{hs:Array Int}{vs:List Value}(S:SetR h a t hs vs):hs.size=vs.length:=by
 obtain⟨o,es,ep,g,ex,d,e,pm⟩:=S
 rw[←e,size_map,←pm.length_eq,length_map,length_toList]
section
variable {P:Program}{w:World}{A:Around}{R:Result→Shared→Prop}{I:Addr}{fp wr:List Addr}{G:Array GenState→Array GenState→Prop}{n:Nat}{V:Nat→Value→Prop}{St:Nat→Shared→Prop}
theorem fill_tups (hu:A.units+1<cLine)(W:WalksS P w A.in1 I fp wr G n V St){S:Addr}(out:S∉fp){rs:List (Addr×List Int)}(hv:∀i v,V i v→∃q,rs[i]?=some q∧v=.ref q.1)(hn:rs.length=n)(few:n+1≤sizeLine){led:Bool} :
 ∀(k i:Nat) (s:Shared) (t:SetTable) (hs:Array Int),i+k=n→St i s→SetR s.heap S t hs ((rs.take i).map fun q=>.ref q.1)→t.led=led→runs t hs ((rs.drop i).map fun q=>hT q.2)=true→(∀q∈rs,q.1∉S::wr∧IsTupleKey (intKind P w) s.heap q.2 q.1)→
  (∀s' t' hs',Moved (S::wr) G s s'→SetR s'.heap S t' hs' (rs.map fun q=>.ref q.1)→t'.led=led→runs t' hs' []=true→R (.ok (.ret .none)) s')→codeAny (model P w) A (.builtin "set.update.loop" ⟨[.ref S,.ref I],[]⟩) R s
 |0,i,s,t,hs,e,st,si,ld,rn,ks,r=>by
  cases(show i=n from e)
  refine codeAny_builtin F.entry_set_update_loop ?_
  rw[Around.under_plainId F.plain_set_update_loop]
  refine wpAny_bind (m:=pyNext (.ref I)) (W.done s _ _ st fun s' mv=>wpAny_pure (r s' t hs (mv.mono fun b hb=>.tail _ hb) ?_ ld ?_))
  ·rw[take_of_length_le (by omega)]at si
   exact si.at fun o e=>mv.heap S o (fun z=>out (W.sub _ z)) e
  ·rw[List.drop_eq_nil_of_le (by omega)]at rn
   exact rn
 |k+1,i,s,t,hs,e,st,si,ld,rn,ks,r=>by
  refine codeAny_builtin F.entry_set_update_loop ?_
  rw[Around.under_plainId F.plain_set_update_loop]
  refine wpAny_bind (m:=pyNext (.ref I)) (W.item i s _ _ (by omega) st fun v s1 hp st1 mv=>?_)
  obtain⟨q,eq,rfl⟩:=hv i v hp
  have il:i<rs.length:=by omega
  have eq':rs[i]=q:=by rw[List.getElem?_eq_getElem il]at eq;exact Option.some.inj eq
  rw[drop_eq_getElem_cons il,eq',map_cons]at rn
  unfold runs at rn
  have si1:SetR s1.heap S t hs ((rs.take i).map fun q=>.ref q.1):=si.at fun o e=>mv.heap S o (fun z=>out (W.sub _ z)) e
  have sz:=si1.size
  rw[length_map,length_take]at sz
  have ks1:∀q∈rs,q.1∉S::wr∧IsTupleKey (intKind P w) s1.heap q.2 q.1:=fun q hq=>⟨(ks q hq).1,TupKey.at (ks q hq).2 fun o e=>mv.heap _ o (fun z=>(ks q hq).1 (.tail _ z)) e⟩
  have hq:=mem_of_getElem? eq
  cases es:stp t hs (hT q.2) with
  |none=>rw[es]at rn;cases rn
  |some T=>
   obtain⟨t1,hs1⟩:=T
   rw[es]at rn
   dsimp only at rn
   refine wpAny_bind (m:=holding [Value.ref q.1] (setAdd S (.ref q.1))) (wpAny_holding ?_)
   unfold setAdd
   refine wpAny_holding (wpAny_bind (wpAny_pyHash_tuple (show A.units+1<cLine from hu) (ks1 q hq).2 ?_))
   rw[hT_is]
   refine set_addT (s:={s1 with toks:=s1.toks+(q.2.length+1)}) si1 es (by omega) (ks1 q hq).2 fun h' sb si2=>?_
   have si3:SetR h' S t1 hs1 ((rs.take (i+1)).map fun q=>.ref q.1):=by
    rw[take_add_one,eq,map_append]
    exact si2
   refine wpAny_pure ⟨plainId_quiet F.plain_set_update_loop _,fill_tups hu W out hv hn few k (i+1) _ t1 hs1 (by omega) (W.frame _ s1 _ _ st1 (Nat.le_add_right _ _) fun b hb o e=>?_) si3 ((stp_led es).trans ld) rn (fun q hq=>⟨(ks q hq).1,TupKey.at (ks1 q hq).2 fun o e=>?_⟩) fun s2 t2 hs2 mv2 si4 l4 r4=>r s2 t2 hs2 ?_ si4 l4 r4⟩
   ·rw[sb.2 b (fun z:b=S=>out (z▸hb))]
    exact e
   ·rw[sb.2 _ (fun z=>(ks q hq).1 (z▸.head _))]
    exact e
   ·refine .trans W.gtrans (.then_heap (mv.mono fun b hb=>.tail _ hb) (Nat.le_add_right _ _) fun b o hb e=>?_) mv2
    rw[sb.2 b (fun z:b=S=>hb (z▸.head _))]
    exact e
end
section
variable {P:Program}{w:World}{A:Around}{E:Value→Shared→Prop}{s:Shared}
theorem lst_set:isSubtype (.type "list") (.type "set")=pure false:=by rw[isSubtype_type];kernel_rfl
theorem lst_fset:isSubtype (.type "list") (.type "frozenset")=pure false:=by rw[isSubtype_type];kernel_rfl
theorem call_setT {l:Addr}{its:Array Value}{rs:List (Addr×List Int)}{Q:Value→Shared→Prop}(hh:A.handled=none)(hu:A.units+3<cLine)(hl:s.heap.IsList l its)(ei:its.toList=rs.map fun q=>.ref q.1)(hk:∀q∈rs,IsTupleKey (intKind P w) s.heap q.2 q.1)
 (run:runs (.fresh 0 0 true) #[] (rs.map fun q=>hT q.2)=true) (few:its.size+1≤sizeLine)
 (q:∀(h':Heap) (tk:Nat) (t':SetTable) (hs':Array Int),SetR h' s.heap.objs.size t' hs' its.toList→t'.led=ledOf w→runs t' hs' []=true→(∀b o,s.heap.get? b=some o→h'.get? b=some o)→
  Q (.ref s.heap.objs.size) {s with heap:=h',toks:=tk}):wpAny (model P w) A (call (.type "set") [.ref l]) Q E s:=by
 have ft:=F.called_set
 obtain⟨c,tl,hm⟩:=ft.mro
 have a1:=ft.made
 have a2:=ft.sub
 have a3:=ft.notType
 have a4:=ft.canCreate
 have a5:=F.typeCall_set_1 (.ref l)
 have lt:l<s.heap.objs.size:=lt_size hl.choose_spec.1
 have lr:its.size=rs.length:=by rw[←length_toList,ei,length_map]
 refine wpAny_call (codeAny_of_tree ?_)
 show wpAny _ _ (callAny (.type "set") _) _ _ _
 have qt:(Code.builtin "type.__call__" ⟨[.type "set",.ref l],[]⟩).quiet=true:=Code.quiet_builtin _ (by decide +kernel)
 refine wpAny_pure ⟨qt,codeAny_builtin F.entry_type_call ?_⟩
 rw[Around.under_plain (weight_type_call_type ..) rfl]
 repeat (any_goals (first | assumption | wp_step))
 generalize hN:s.heap.push {cls:=.type "set",dict:=none,data:=.set #[] 0 (.fresh 0 0 (ledOf w))}=N
 have new:N.get? s.heap.objs.size=some {cls:=.type "set",dict:=none,data:=.set #[] 0 (.fresh 0 0 (ledOf w))}:=by rw[←hN];exact get?_push_size _ rfl
 have old:∀b o,s.heap.get? b=some o→N.get? b=some o:=fun b o e=>by rw[←hN];exact get?_push_of_some _ e
 have szN:N.objs.size=s.heap.objs.size+1:=by rw[←hN,Heap.size_push]
 refine codeAny_mono (set_new (E:=E) (.ref l) (Q:=fun v s1=>v=.ref s.heap.objs.size∧s1={s with heap:=N}) ⟨rfl,by rw[hN]⟩) fun r s1 hr=>?_
 rcases r with e | fl
 ·exact hr
 cases fl with
 |ret obj=>
  obtain⟨rfl,rfl⟩:=hr
  have hT:Shared.TypeIs {s with heap:=N} (.ref s.heap.objs.size) "set":=⟨_,new,rfl⟩
  have b1:=ft.init.lookup
  have b2:=ft.init.bind (.ref s.heap.objs.size)
  repeat (any_goals (first | assumption | wp_step))
  refine codeAny_mono (codeAny_call_builtin (R:=wants (fun r s2=>r=.none∧Q (.ref s.heap.objs.size) s2) E) ft.init.plain F.entry_set_init (check_set_init_1 hT ?_)) fun r s2 hr=>?_
  ·have ht1:N.IsList l its:=by
    obtain⟨o,g,r⟩:=hl
    exact⟨o,old _ _ g,r⟩
   obtain⟨⟨oc,od,odt,os⟩,go,h1,m,h2⟩:=id ht1
   simp only at h1 h2
   subst h1 h2
   have c1:=lst_set
   have c2:=lst_fset
   have c3:(Value.type "list"==Value.type "dict")=false:=by decide
   unfold Builtin.«set.__init__» noKeywords Builtin.Frozenset.updateFrom
   generalize hPI:pyIter=PI
   wp_walk
   subst hPI
   refine wpAny_pyIter_list ht1 (wpAny_bind (wpAny_runValue ?_))
   have n1:l≠N.objs.size:=by rw[szN];exact Nat.ne_of_lt (Nat.lt_succ_of_lt lt)
   have olds:∀(b:Addr) (o:Obj) (z:Obj),s.heap.get? b=some o→(N.push z).get? b=some o:=fun b o z e=>get?_push_of_some _ (old _ _ e)
   refine fill_tups ?_ ((Walks.list (by simpa using hh) _ l n1 its).toS) (rs:=rs) (led:=ledOf w) (by simp only[mem_cons,not_mem_nil,or_false,not_or];exact⟨by rw[szN];exact Nat.ne_of_lt (Nat.lt_succ_self _),Nat.ne_of_gt lt⟩)
    (fun i v hv=>?_) lr.symm few its.size 0 _ (.fresh 0 0 (ledOf w)) #[] (by omega) ⟨⟨_,get?_push_size _ rfl,rfl,rfl⟩,ht1.push _⟩ ⟨_,#[],0,get?_push_of_some _ new,⟨rfl,rfl,rfl⟩,rfl,by simp,.nil⟩ rfl ?_ (fun q hq=>?_) ?_
   ·exact hu
   ·rw[←getElem?_toList,ei,List.getElem?_map]at hv
    cases e:rs[i]? with
    |none=>rw[e]at hv;cases hv
    |some q=>rw[e]at hv;cases hv;exact⟨q,rfl,rfl⟩
   ·have:=led_runs (ledOf w) (rs.map fun q=>L2.hT q.2) (.fresh 0 0 true) #[]
    exact this.trans run
   ·obtain⟨o,its',m',g,r⟩:=hk q hq
    have lq:=lt_size g
    refine⟨?_,o,its',m',olds _ _ _ g,r⟩
    simp only[mem_cons,not_mem_nil,or_false,not_or]
    exact⟨Nat.ne_of_lt lq,by rw[szN];exact Nat.ne_of_lt (Nat.lt_succ_of_lt lq)⟩
   intro s' t' hs' mv si l4 r4
   obtain⟨h',g',d',tk',os'⟩:=s'
   cases(show g'=s.gens from mv.gens)
   cases(show d'=s.drawn from mv.drawn)
   cases(show os'=s.os from mv.os)
   refine wpAny_pure (wpAny_pure ⟨rfl,q h' tk' t' hs' (by rw[ei];exact si) l4 r4 fun b o e=>mv.heap b o ?_ (get?_push_of_some _ (old _ _ e))⟩)
   have:=lt_size e
   simp only[mem_cons,not_mem_nil,or_false,not_or]
   exact⟨Nat.ne_of_lt this,by rw[szN];exact Nat.ne_of_lt (Nat.lt_succ_of_lt this)⟩
  ·rcases r with e | fl
   ·exact hr
   cases fl with
   |ret v=>
    obtain⟨rfl,hq⟩:=hr
    repeat (any_goals (first | assumption | wp_step))
   |_=>exact hr.elim
 |_=>exact hr.elim
end
def SetG (h:Heap)(a:Addr)(led:Bool)(vs:List Value):Prop:=
 ∃o es ep t,h.get? a=some o∧o.ExactSet∧o.data=.set es ep t∧(es.toList.map (·.2)).Perm vs∧(es.size<scanBound∧t.fits es.size=true)∧Tidy t∧t.led=led
theorem SetG.at {h h':Heap}{a:Addr}{led:Bool}{vs:List Value}(S:SetG h a led vs)(k:∀o,h.get? a=some o→h'.get? a=some o):SetG h' a led vs:=by
 obtain⟨o,es,ep,t,g,r⟩:=S
 exact⟨o,es,ep,t,k _ g,r⟩
theorem SetR.g {h:Heap}{a:Addr}{t:SetTable}{hs:Array Int}{vs:List Value}{led:Bool}(S:SetR h a t hs vs)(ld:t.led=led)(rn:runs t hs []=true)(few:vs.length<scanBound):SetG h a led vs:=by
 have sz:=S.size
 obtain⟨o,es,ep,g,ex,d,e,pm⟩:=S
 unfold runs at rn
 simp only[and_eq_true,decide_eq_true_eq]at rn
 obtain⟨f,e0,up⟩:=rn
 have ez:es.size=hs.size:=by rw[←e,size_map]
 exact⟨o,es,ep,t,g,ex,d,pm,⟨by omega,by rw[ez];exact f⟩,⟨up,by simpa using e0⟩,ld⟩
def OrderG (vs:List Value)(n:Nat)(V:Nat→Value→Prop):Prop:=n=vs.length∧∃us:List Value,(∀i v,V i v→us[i]?=some v)∧us.length=n∧us.Perm vs
theorem orderG_of {vs:List Value}{l l':List (Int×Value)}(pm:(l.map (·.2)).Perm vs)(p:l'.Perm l){n:Nat}{V:Nat→Value→Prop}(hn:n=l'.length)(hV:∀i v,V i v→(l'.map (·.2))[i]?=some v):OrderG vs n V:=
 ⟨by rw[hn,p.length_eq,←pm.length_eq,length_map],_,hV,by rw[length_map,hn],(p.map _).trans pm⟩
section
variable {P:Program}{w:World}{A:Around}{a:Addr}{E:Value→Shared→Prop}{s:Shared}{vs vs0:List Value}
theorem iter_set (S:SetG s.heap a (ledOf w) vs){Q:Value→Shared→Prop}
 (q:∀(z:Addr) (fp:List Addr) (n:Nat) (V:Nat→Value→Prop) (St:Nat→Shared→Prop) (h':Heap) (dr:Drawn),(∀A':Around,A'.handled=none→WalksS P w A' z fp [z] (fun x y=>y=x) n V St)→
  St 0 {s with heap:=h',drawn:=dr}→(∀b o,s.heap.get? b=some o→h'.get? b=some o)→s.heap.objs.size≤z→(∀b∈fp,b=a∨s.heap.objs.size≤b)→OrderG vs n V→Q (.ref z) {s with heap:=h',drawn:=dr}) :
 wpAny (model P w) A (pyIter (.ref a)) Q E s:=by
 obtain⟨o,es,ep,t,g,ex,d,pm,⟨sz,ft⟩,T,ld⟩:=S
 have hT:s.TypeIs (.ref a) "set":=⟨o,g,ex.1⟩
 have la:a<s.heap.objs.size:=lt_size g
 refine wpAny_pyIter_slot hT st_iter (wpAny_call_entry st_iter hT st_entry_iter ?_ (st_args_iter _))
 have se:∀{A:Around} {Q:Array (Int×Value)→Shared→Prop} {E:Value→Shared→Prop} {s':Shared},s'.heap.get? a=some o→Q es s'→wpAny (model P w) A (setEntries a) Q E s':=fun g' r=>by
  unfold setEntries
  exact wpAny_bind (wpAny_setState_of g' d ft (wpAny_pure r))
 have sp:∀{A:Around} {Q:Nat→Shared→Prop} {E:Value→Shared→Prop} {s':Shared},s'.heap.get? a=some o→Q ep s'→wpAny (model P w) A (setEpoch a) Q E s':=fun g' r=>by
  unfold setEpoch
  exact wpAny_bind (wpAny_setState_of g' d ft (wpAny_pure r))
 have sd:∀{A:Around} {Q:Bool→Shared→Prop} {E:Value→Shared→Prop},Q (!w.params.followText "set-order"&&(!t.plain&&decide (es.size>1))) s→wpAny (model P w) A (setDrawn a) Q E s:=fun r=>by
  unfold setDrawn setsByText
  refine wpAny_bind (wpAny_setState_of g d ft ?_)
  exact wpAny_bind (wpAny_bind (wpAny_askSetting (wpAny_pure (wpAny_pure r))))
 show wpAny _ _ (Builtin.Frozenset.slot0 "__iter__" ⟨[.ref a],[]⟩ >>= _) _ _ _
 refine wpAny_bind (wpAny_bind (m:=slotArgs "__iter__" 0 ⟨[.ref a],[]⟩) (wpAny_pure (wpAny_pure ?_)))
 refine wpAny_bind (wpAny_bind (m:=setEntries a) (se g (wpAny_pure ?_)))
 refine wpAny_bind (sd ?_)
 have zl:es.size≤sizeLine:=fits_of_scanBound sz
 have szl:es.toList.length=es.size:=length_toList
 cases hb:(!w.params.followText "set-order"&&(!t.plain&&decide (es.size>1))) with
 |true=>
  rw[if_pos rfl]
  refine wpAny_bind (draw_perm es.size (List.range es.size) s _ length_range fun ps dr pp=>?_)
  refine wpAny_bind (wpAny_newTuple ?_ (by rw[length_map,pp.length_eq,length_range];exact zl))
  generalize hN:s.heap.push {cls:=.type "tuple",data:=.seq (ps.map fun(i:Nat)=>rawInt (i:Int)).toArray}=N
  have new:IsPl N s.heap.objs.size ps:=by rw[←hN];exact get?_push_size _ rfl
  have old:∀b o,s.heap.get? b=some o→N.get? b=some o:=fun b o e=>by rw[←hN];exact get?_push_of_some _ e
  have szN:N.objs.size=s.heap.objs.size+1:=by rw[←hN,Heap.size_push]
  refine wpAny_bind (sp (old _ _ g) (wpAny_bind (wpAny_newObj_type (wpAny_pure ⟨_,rfl,"set_iterator",_,⟨_,get?_push_size _ rfl,rfl⟩,si_next.lookup,?_⟩))))
  have ok:∀p∈ps,p<es.size:=fun p hp=>mem_range.mp (pp.mem_iff.mp hp)
  refine q N.objs.size [N.objs.size,a,s.heap.objs.size] ps.length _ _ _ dr (fun A' hh=>walk_drawn hh d ft (ps:=ps) (tp:=s.heap.objs.size) (by rw[szN];exact Nat.ne_of_gt (Nat.lt_succ_of_lt la)) (by rw[szN];exact Nat.ne_of_gt (Nat.lt_succ_self _)) ok)
   ⟨get?_push_size _ rfl,get?_push_of_some _ (old _ _ g),get?_push_of_some _ new⟩ (fun b o e=>get?_push_of_some _ (old _ _ e)) (by rw[szN];exact Nat.le_succ _) (fun b hb=>?_) ?_
  ·simp only[mem_cons,not_mem_nil,or_false]at hb
   rcases hb with e | e | e
   ·exact .inr (by rw[e,szN];exact Nat.le_succ _)
   ·exact .inl e
   ·exact .inr (Nat.le_of_eq e.symm)
  ·refine orderG_of (l':=ps.map fun p=>es.getD p (0,.none)) pm ?_ (by rw[length_map]) fun i v hv=>by rw[map_map];exact hv
   refine(pp.map _).trans (List.Perm.of_eq ?_)
   refine ext_getElem (by simp) fun i h1 h2=>?_
   have h3:i<es.size:=by simpa using h2
   rw[List.getElem_map,List.getElem_range,getD_eq_getD_getElem?,Array.getElem?_eq_getElem h3]
   simp
 |false=>
  rw[if_neg Bool.false_ne_true]
  refine wpAny_bind (wpAny_pure (wpAny_bind (sp g (wpAny_bind (wpAny_newObj_type (wpAny_pure ⟨_,rfl,"set_iterator",_,⟨_,get?_push_size _ rfl,rfl⟩,si_next.lookup,?_⟩))))))
  have nz:s.heap.objs.size≠a:=Nat.ne_of_gt la
  have fpk:∀b∈[s.heap.objs.size,a],b=a∨s.heap.objs.size≤b:=fun b hb=>by
   simp only[mem_cons,not_mem_nil,or_false]at hb
   rcases hb with e | e
   ·exact .inr (Nat.le_of_eq e.symm)
   ·exact .inl e
  cases ht:w.params.followText "set-order" with
  |true=>
   have pk:=pick_perm (w.params.setOrder a ep) es.size 0 es.toList #[] szl
   refine q s.heap.objs.size _ _ _ _ _ s.drawn (fun A' hh=>walk_num hh (nxt_text ht d ft) d ft nz) ⟨0,get?_push_size _ rfl,get?_push_of_some _ g,trivial⟩ (fun b o e=>get?_push_of_some _ e) (Nat.le_refl _) fpk ?_
   exact orderG_of (l':=(pickOrder (w.params.setOrder a ep) es).toList) pm pk (length_map ..) fun i v hv=>hv
  |false=>
   rw[ht]at hb
   have led:t.led=true:=by rw[ld];show(!w.params.followText "set-order")=true;rw[ht];rfl
   refine q s.heap.objs.size _ _ _ _ _ s.drawn (fun A' hh=>walk_num hh (nxt_place ht d ft T led (by simpa using hb)) d ft nz) ⟨0,get?_push_size _ rfl,get?_push_of_some _ g,.inl ⟨rfl,rfl⟩⟩ (fun b o e=>get?_push_of_some _ e) (Nat.le_refl _) fpk ?_
   exact orderG_of (l':=es.toList) pm (.refl _) (length_map ..) fun i v hv=>hv
theorem collect_set (hh:A.handled=none)(S:SetG s.heap a (ledOf w) vs0)(few:vs0.length≤4000){Q:List Value→Shared→Prop}
 (q:∀vs h' dr tk,vs.Perm vs0→(∀b o,s.heap.get? b=some o→h'.get? b=some o)→Q vs {s with heap:=h',drawn:=dr,toks:=tk}):wpAny (model P w) A (collect (.ref a)) Q E s:=by
 obtain⟨o0,es,ep,t,g0,ex,rest⟩:=id S
 have la:a<s.heap.objs.size:=lt_size g0
 generalize hL:s.heap.objs.size=L at la
 unfold collect
 refine wpAny_bind (wpAny_runValue ?_)
 refine codeAny_builtin F.entry_proto_collect ?_
 rw[Around.under_plainId F.plain_proto_collect]
 refine wpAny_bind (m:=newList []) (wpAny_newObj_type ?_)
 refine wpAny_pure ⟨plainId_quiet F.plain_list_iadd _,?_⟩
 refine codeAny_builtin F.entry_list_iadd ?_
 rw[Around.under_plainId F.plain_list_iadd]
 generalize hN:s.heap.push {cls:=.type "list",data:=.seq ([]:List Value).toArray}=N
 have new:N.get? L=some {cls:=.type "list",data:=.seq ([]:List Value).toArray}:=by rw[←hN,←hL];exact get?_push_size _ rfl
 have old:∀b o,s.heap.get? b=some o→N.get? b=some o:=fun b o e=>by rw[←hN];exact get?_push_of_some _ e
 have szN:N.objs.size=L+1:=by rw[←hN,←hL,Heap.size_push]
 rw[hL]
 show wpAny _ A.in1 (Builtin.List.listExtendWith (.ref L) (.ref a) (.ref L)) _ _ _
 have gT:Shared.TypeIs {s with heap:=N} (.ref a) "set":=⟨o0,old _ _ g0,ex.1⟩
 unfold Builtin.List.listExtendWith
 refine wpAny_bind (wpAny_typeOf gT ?_)
 have n1:Builtin.List.listSameRef (.ref L) (.ref a)=false:=by simp[Builtin.List.listSameRef,Nat.ne_of_gt la]
 rw[n1,if_neg (by decide)]
 refine wpAny_bind (iter_set (s:={s with heap:=N}) (S.at fun o e=>old _ _ e) fun z fp n V St h1 dr W st k zl fpk ord=>?_)
 have gT1:Shared.TypeIs {s with heap:=h1,drawn:=dr} (.ref a) "set":=⟨o0,k _ _ (old _ _ g0),ex.1⟩
 refine wpAny_bind (wpAny_holding (hint_set gT1 ?_))
 rw[if_pos (by with_unfolding_all rfl)]
 obtain⟨ln,vs,hV,lv,pm⟩:=ord
 have new1:=k _ _ new
 refine wpAny_bind (wpAny_rule (wpAny_bind ?_))
 refine wpAny_bind (m:=updateSeq L (·.push .none)) (wpAny_updateSeq new1 rfl ?_)
 have new2:=get?_update_self (Obj.mapSeq (·.push Value.none)) new1 rfl
 refine wpAny_updateSeq new2 rfl ?_
 have new3:=get?_update_self (Obj.mapSeq (·.pop)) new2 rfl
 have out:L∉fp:=fun z=>by
  rcases fpk _ z with e | e
  ·exact absurd e (Nat.ne_of_gt la)
  ·exact absurd (szN▸e:L+1≤L) (Nat.not_succ_le_self _)
 have oth:∀b o,b≠L→h1.get? b=some o→((h1.update L (Obj.mapSeq (·.push Value.none))).update L (Obj.mapSeq (·.pop))).get? b=some o:=fun b o n e=>(get?_update_other _ _ (Ne.symm n)).trans ((get?_update_other _ _ (Ne.symm n)).trans e)
 refine wpAny_pure ⟨plainId_quiet F.plain_extend_loop _,codeAny_extend_loopS (W _ (by simpa using hh)) (by rw[ln,sizeLine_eq];omega) _ out _ n 0 _ _ _ rfl (Nat.zero_le _)
  ((W _ (by simpa using hh)).frame 0 {s with heap:=h1,drawn:=dr} _ s.toks st (Nat.le_refl _) fun b hb o e=>oth b o (fun z=>out (z▸hb)) e) new3 (ItemsOf.nil V) fun s' acc c mv gl it=>?_⟩
 obtain⟨h',g',d',tk',os'⟩:=s'
 cases(show g'=s.gens from mv.gens)
 cases(show d'=dr from mv.drawn)
 cases(show os'=s.os from mv.os)
 refine wpAny_bind (m:=load L) (wpAny_load gl (wpAny_pure ?_))
 have ea:acc.toList=vs:=by
  refine ext_getElem (by rw[length_toList,it.1,lv]) fun i h1 h2=>?_
  have:=hV i _ (it.2 i acc.toList[i] (by rw[←getElem?_toList];exact List.getElem?_eq_getElem h1))
  rw[List.getElem?_eq_getElem h2]at this
  exact(Option.some.inj this).symm
 refine q acc.toList h' _ tk' (by rw[ea];exact pm) fun b o e=>mv.heap b o ?_ (oth b o ?_ (k _ _ (old _ _ e)))
 ·have lb:=lt_size e
  rw[hL]at lb
  simp only[mem_cons,not_mem_nil,or_false,not_or]
  refine⟨Nat.ne_of_lt lb,Nat.ne_of_lt (Nat.lt_of_lt_of_le (Nat.lt_succ_of_lt lb) (szN▸zl:L+1≤z))⟩
 ·have lb:=lt_size e
  rw[hL]at lb
  exact Nat.ne_of_lt lb
end
open PySem.W
section
variable {X:Cx}{pins:List (Addr×Obj)}{σ:St}{H:Hp}{s:Shared}
theorem ints_items (P:Program)(w:World):∀{bs:List Int} {its:List Value},Vals (bs.map V.int) its→ItemsAre (intKind P w) bs its
 |[],_,.nil=>.nil
 |b::bs,_,.cons r rs=>by
  obtain⟨t,rfl⟩:=(show ∃t,_=Value.int b t from r)
  exact .cons (keyIs_int b t) (ints_items P w rs)
theorem ints_key (I:Inv X pins σ H s){r:Addr}{bs:List Int}(h:H r=some (.tup (bs.map V.int))):IsTupleKey (intKind X.prog X.w) s.heap bs r:=by
 obtain⟨its,rv,⟨o,ho,hc,n,hd⟩,_⟩:=I.tuple (SqT.of (K:=X.K) h)
 exact⟨o,its.toArray,n,ho,hc,hd,ints_items X.prog X.w rv⟩
end
end L2
namespace L2
theorem rws_at {H:Hp}:∀{xs:List V} {bl:List (List Int)} {vs:List Value},Rws H xs bl→Vals xs vs→∃rs:List (Addr×List Int),vs=rs.map (fun q=>.ref q.1)∧xs=rs.map (fun q=>V.ref q.1)∧bl=rs.map (·.2)∧∀q∈rs,H q.1=some (.tup (q.2.map V.int))
 |[],[],_,_,.nil=>⟨[],rfl,rfl,rfl,fun q hq=>by cases hq⟩
 |[],b::bl,_,r,_=>absurd r.1 (by simp)
 |x::xs,[],_,r,_=>absurd r.1 (by simp)
 |x::xs,b::bl,_,r,.cons rx rv=>by
  obtain⟨p,e,hp⟩:=r.2 0 b rfl
  have e:x=.ref p:=Option.some.inj e
  subst e
  obtain⟨rs,e1,e2,e3,h⟩:=rws_at (xs:=xs) (bl:=bl) ⟨by simpa using r.1,fun j c ec=>r.2 (j+1) c ec⟩ rv
  refine⟨(p,b)::rs,?_,by rw[map_cons,e2],by rw[map_cons,e3],fun q hq=>?_⟩
  ·rw[map_cons,e1]
   exact congrArg (·::_) (show _=Value.ref p from rx)
  ·rcases mem_cons.mp hq with rfl | hq
   ·exact hp
   ·exact h q hq
theorem perm_lift {α β:Type}[DecidableEq α](f:α→β):∀{vs:List β} {rs:List α},vs.Perm (rs.map f)→∃qs:List α,qs.Perm rs∧vs=qs.map f
 |[],rs,p=>by
  have:=p.length_eq
  rw[length_map]at this
  cases rs with
  |nil=>exact⟨[],.nil,rfl⟩
  |cons r rs=>simp at this
 |v::vs,rs,p=>by
  obtain⟨q,hq,e⟩:=mem_map.mp (p.mem_iff.mp mem_cons_self)
  have pe:=List.perm_cons_erase hq
  have p2:=p.trans (pe.map f)
  rw[map_cons,e]at p2
  obtain⟨qs,h1,h2⟩:=perm_lift f p2.cons_inv
  exact⟨q::qs,(h1.cons q).trans pe.symm,by rw[map_cons,e,h2]⟩
section
variable {X:Cx}
def tSortSetT (ta:TA):TE:=fun σ H Q=>ta σ H fun vs H1=>∃(a:Addr) (ys:List V) (bl:List (List Int)),vs=[.ref a]∧H1 a=some (.lst ys)∧Rws H1 ys bl∧bl.Nodup∧(2≤bl.length→∀b∈bl,b≠[])∧bl.length≤1000∧
 runs (.fresh 0 0 true) #[] (bl.map hT)=true∧
 ∀(bl':List (List Int)) (zs:List V) (l:Addr),bl'.Perm bl→bl'.Pairwise (fun x y=>HT.lexLt x y=true)→Rws H1 zs bl'→H1 l=none→Q (.ref l) (upd H1 l (.lst zs))
theorem pe_sortsetT {a:Expr}{ta:TA}{p1 p2 p3 p4:Pos}(hu:X.A.units+4<cLine)(hg:Gl X "sorted")(hm:X.mg "sorted" = none)(hg':Gl X "set")(hm':X.mg "set" = none)(hc:X.calm=true)(ha:PA X [a] ta)
 (hs:starEach [a] X.env=[(false,eval a X.env)]:=by rfl)
 (hs3:starEach [.Call (.Name "set" p2) [a] [] p3] X.env=[(false,eval (.Call (.Name "set" p2) [a] [] p3) X.env)]:=by rfl) :
 PE X (.Call (.Name "sorted" p1) [.Call (.Name "set" p2) [a] [] p3] [] p4) (tSortSetT ta):=by
 intro pins s σ H Q I h
 refine Call_ (ld_blt I hg hm boot_sorted (callWith_builtin1 ?_ (by rw[hs3];rfl) (by rfl)))
 show wpAny _ _ (spliced ((false,eval (.Call (.Name "set" p2) [a] [] p3) X.env)::[])) _ _ s
 refine spliced_cons ?_
 refine Call_ (ld_blt I hg' hm' boot_set (callWith_type1 (thn (ha p3 pins s σ H _ I h) fun us s1 ⟨vs,H1,I1,r1,q1⟩=>?_) (by rw[hs];rfl) (by rfl)))
 obtain⟨p,ys,bl,rfl,hq,pr,nd,ne,hl,run,q⟩:=q1
 obtain⟨u,rfl,rx⟩:=vals1 r1
 cases(show u=Value.ref p from rx)
 obtain⟨hz,its,n,rv,ho⟩:ys.length≤sizeLine∧∃(its:List Value) (n:Nat),Vals ys its∧s1.heap.get? p=some {cls:=.type "list",data:=.seq its.toArray n}:=I1.hok p _ hq
 obtain⟨rs,e1,e2,e3,hk⟩:=rws_at pr rv
 have rl:rs.length=bl.length:=by rw[e3,length_map]
 have keys:∀q∈rs,IsTupleKey (intKind X.prog X.w) s1.heap q.2 q.1:=fun q hq=>ints_key I1 (hk q hq)
 have il:its.length=bl.length:=by rw[e1,length_map,rl]
 refine call_setT (its:=its.toArray) (rs:=rs) (I.ok.hd hc) (by omega) ⟨_,ho,rfl,n,rfl⟩ (by simpa using e1) keys (by rw[e3,map_map]at run;exact run) (by simp only[size_toArray];rw[il,sizeLine_eq];omega) fun h' tk t' hs' S ld rn kp1=>?_
 refine spliced_nil ?_
 have I2:Inv X pins σ H1 {s1 with heap:=h',toks:=tk}:=I1.kept kp1
 have S':SetG h' s1.heap.objs.size (ledOf X.w) its:=SetR.g (by simpa using S) ld rn (by rw[il];unfold scanBound;omega)
 refine Calls.call_function_entry kind_sorted plain_sorted entry_sorted (args_sorted1 _) ?_
 unfold Builtin.«sorted»
 refine wpAny_bind (m:=checkCount "sorted" 1 1 _) (wpAny_pure ?_)
 refine wpAny_bind (collect_set (s:={s1 with heap:=h',toks:=tk}) (by simpa using I.ok.hd hc) S' (by omega) fun vs h2 dr tk2 pm kp=>?_)
 have I3:Inv X pins σ H1 {s1 with heap:=h2,drawn:=dr,toks:=tk2}:=(I2.kept (t':=tk2) kp).drew dr
 obtain⟨qs,pq,ev⟩:∃qs:List (Addr×List Int),qs.Perm rs∧vs=qs.map fun q=>.ref q.1:=by
  rw[e1]at pm
  exact perm_lift _ pm
 have hkq:∀q∈qs,H1 q.1=some (.tup (q.2.map V.int)):=fun q hq=>hk q (pq.mem_iff.mp hq)
 have pb:(qs.map (·.2)).Perm bl:=by rw[e3];exact pq.map _
 have lk:vs.length=(qs.map (·.2)).length:=by rw[ev,length_map,length_map]
 have lq:(qs.map (·.2)).length=bl.length:=pb.length_eq
 have szv:vs.length≤sizeLine:=by rw[sizeLine_eq];omega
 refine wpAny_bind (wpAny_newList ?_ szv)
 have hoL:(h2.push (seqObj "list" vs.toArray 0)).get? h2.objs.size=some (seqObj "list" vs.toArray 0):=get?_push_size _ rfl
 have atq:∀(i:Nat) (v:Value) (b:List Int),vs[i]?=some v→(qs.map (·.2))[i]?=some b→∃q∈qs,v=.ref q.1∧b=q.2:=fun i v b x1 x2=>by
  rw[ev,List.getElem?_map]at x1
  rw[List.getElem?_map]at x2
  cases e:qs[i]? with
  |none=>rw[e]at x1;cases x1
  |some q=>
   rw[e]at x1 x2
   cases x1
   cases x2
   exact⟨q,mem_of_getElem? e,rfl,rfl⟩
 refine wpAny_bind (wpAny_holding (wpAny_call_entry slot_list_sort ⟨_,hoL,rfl⟩ entry_list_sort (sort_rows (s:={s1 with heap:=h2.push (seqObj "list" vs.toArray 0),drawn:=dr,toks:=tk2}) (bl:=qs.map (·.2)) hoL lk (fun i v k x1 x2=>?_) (pb.nodup_iff.mpr nd) (fun l2 b hb=>ne (by omega) b (pb.mem_iff.mp hb)) (by omega) fun out bl' lo pm' pw of=>⟨_,rfl,?_⟩) (args_list_sort _)))
 ·obtain⟨q,hq,rfl,rfl⟩:=atq i v k x1 x2
  obtain⟨_,its',rt,⟨o,g,c,d⟩⟩:(q.2.map V.int).length≤sizeLine∧∃its:List Value,Vals (q.2.map V.int) its∧IsTup h2 q.1 its.toArray:=I3.hok q.1 _ (hkq q hq)
  exact⟨q.1,its',rfl,⟨o,get?_push_of_some _ g,c,d⟩,rt⟩
 obtain⟨e,he⟩:=sortedHeap_at (out:=out.toArray) hoL
 have old:∀b o,h2.get? b=some o→(sortedHeap (h2.push (seqObj "list" vs.toArray 0)) h2.objs.size vs out.toArray).get? b=some o:=fun b o eb=>by
  have lt:=lt_size eb
  rw[sortedHeap_old (h:=h2.push (seqObj "list" vs.toArray 0)) (b:=b) (Nat.ne_of_lt lt) (by rw[Heap.size_push];exact Nat.lt_succ_of_lt lt)]
  exact get?_push_of_some _ eb
 have lb:bl'.length=bl.length:=(pm'.trans pb).length_eq
 obtain⟨zs,rz,hz2⟩:∃zs:List V,Vals zs out∧Rws H1 zs bl':=by
  have at_:∀(j:Nat) u b,out[j]?=some u→bl'[j]?=some b→∃p,u=.ref p∧H1 p=some (.tup (b.map V.int)):=fun j u b e1 e2=>by
   obtain⟨i,f1,f2⟩:=of j u b e1 e2
   obtain⟨q,hq,rfl,rfl⟩:=atq i u b f1 f2
   exact⟨q.1,rfl,hkq q hq⟩
  clear of pm' pw he old lb
  induction out generalizing bl' with
  |nil=>exact⟨[],.nil,by simpa using lo,fun j b e=>by
   cases bl' with
   |nil=>cases e
   |cons x l=>simp at lo⟩
  |cons u out ih=>
   cases bl' with
   |nil=>simp at lo
   |cons b bl'=>
    obtain⟨p,rfl,hp⟩:=at_ 0 u b rfl rfl
    obtain⟨zs,z1,z2,z3⟩:=ih bl' (by simpa using lo) fun j u b e1 e2=>at_ (j+1) u b e1 e2
    refine⟨.ref p::zs,.cons rfl z1,by simp[z2],fun j c e=>?_⟩
    cases j with
    |zero=>cases e;exact⟨p,rfl,hp⟩
    |succ j=>exact z3 j c e
 refine wpAny_pure ⟨_,rfl,.ref h2.objs.size,_,I3.laid (a:=h2.objs.size) (t':=tk2) (o:=.lst zs) old (Nat.le_refl _) ?_,rfl,q bl' zs _ (pm'.trans pb) pw hz2 (I3.hok.fresh (Nat.le_refl _))⟩
 exact⟨by rw[hz2.1,lb,sizeLine_eq];omega,_,e,rz,he⟩
end
open PySem.W
def StayT (d it:Addr)(h h':Heap):Prop:=∀b o,b≠d→b≠it→h.get? b=some o→h'.get? b=some o
theorem StayT.tup {d it:Addr}{h h':Heap}(S:StayT d it h h'){p:Addr}{xs:Array Value}(n1:p≠d)(n2:p≠it)(t:IsTup h p xs):IsTup h' p xs:=by
 obtain⟨o,ho,r⟩:=t
 exact⟨o,S p o n1 n2 ho,r⟩
theorem StayT.lst {d it:Addr}{h h':Heap}(S:StayT d it h h'){p:Addr}{xs:Array Value}(n1:p≠d)(n2:p≠it)(t:h.IsList p xs):h'.IsList p xs:=by
 obtain⟨o,ho,r⟩:=t
 exact⟨o,S p o n1 n2 ho,r⟩
theorem storedT_next {xs:List (List Key×Addr×Value)}{i:Nat}{k:List Key}{a:Addr}{x:Value}(nd:(xs.map (·.1)).Nodup)(e:xs[i]?=some (k,a,x)):storedH (xs.take i) k a x=xs.take (i+1):=by
 rw[storedH_new (atKey_none_of_get fun j p ej=>?_),take_add_one,e]
 ·rfl
 ·by_cases c:j<i
  ·rw[List.getElem?_take_of_lt c]at ej
   exact absurd (idxH_unique nd ej e) (Nat.ne_of_lt c)
  ·rw[List.getElem?_take_eq_none (Nat.le_of_not_lt c)]at ej
   cases ej
section
variable {prog:Program}{w:World}{A:Around}{R:Result→Shared→Prop}
structure TkIn (prog:Program)(w:World)(l it d:Addr)(vs:List Value)(xs:List (List Key×Addr×Value))(h0:Heap):Prop where
 di:d≠it
 ld:l≠d
 li:l≠it
 ls:h0.IsList l vs.toArray
 pr:∀(j:Nat) (v:Value),vs[j]?=some v→∃(p:Addr) (k:List Key) (a:Addr) (x:Value),v=Value.ref p∧p≠d∧p≠it∧IsTup h0 p #[.ref a,x]∧xs[j]?=some (k,a,x)∧∀h,StayT d it h0 h→(tupleKind (mixKind prog w)).is h k a
theorem tloop (hh:A.handled=none)(hu:A.units+1<cLine){l it d:Addr}{vs:List Value}{xs:List (List Key×Addr×Value)}(hl:vs.length=xs.length)(few:xs.length≤sizeLine)(nd:(xs.map (·.1)).Nodup)(h0:Heap)(G:TkIn prog w l it d vs xs h0)(s00:Shared)
 (q:∀h' tk,h'.DictOfH (tupleKind (mixKind prog w)) d xs→StayT d it h0 h'→R (.ok (.ret .none)) {s00 with heap:=h',toks:=tk}) :
 ∀(n i:Nat) (s:Shared),i+n=vs.length→(∀h tk,{s with heap:=h,toks:=tk}={s00 with heap:=h,toks:=tk})→s.heap.IsListIter it l i→s.heap.DictOfH (tupleKind (mixKind prog w)) d (xs.take i)→StayT d it h0 s.heap→
  codeAny (model prog w) A (.builtin "dict.update.loop" ⟨[.ref d,.ref it,rawInt i,.none],[]⟩) R s
 |0,i,s,e,es,po,dt,S=>by
  refine codeAny_builtin dl_entry ?_
  rw[Around.under_plainId dl_plain _]
  show wpAny _ A.in1 (pyNext (.ref it) >>= _) _ _ _
  have hi:i=vs.length:=by omega
  refine wpAny_bind (wpAny_pyNext_list_end hh po (S.lst G.ld G.li G.ls) (by simp;omega) fun h' eb=>?_)
  show wpAny _ _ (Builtin.Dict.addKeywords d [] >>= _) _ _ _
  refine wpAny_bind (wpAny_pure (wpAny_pure ?_))
  show R (.ok (.ret .none)) {s with heap:=h',toks:=s.toks}
  rw[es]
  refine q h' s.toks ?_ fun b o n1 n2 hb=>eb b o n2 (S b o n1 n2 hb)
  rw[take_of_length_le (by omega)]at dt
  obtain⟨o,es,ep,ho,x1,x2,x3,x4,x5⟩:=dt
  refine⟨o,es,ep,eb d o G.di ho,x1,x2,x3,fun x hx=>?_,x5⟩
  obtain⟨j,hj⟩:=getElem?_of_mem hx
  have jl:j<vs.length:=by rw[hl];exact(List.getElem?_eq_some_iff.mp hj).1
  obtain⟨p,k,a,y,_,_,_,_,ek,hk⟩:=G.pr j vs[j] (List.getElem?_eq_getElem jl)
  rw[hj]at ek
  cases ek
  exact hk h' fun b o n1 n2 hb=>eb b o n2 (S b o n1 n2 hb)
 |n+1,i,s,e,es,po,dt,S=>by
  refine codeAny_builtin dl_entry ?_
  rw[Around.under_plainId dl_plain _]
  show wpAny _ A.in1 (pyNext (.ref it) >>= _) _ _ _
  have hi:i<vs.length:=by omega
  have hv:vs[i]?=some vs[i]:=List.getElem?_eq_getElem hi
  refine wpAny_bind (wpAny_pyNext_list_item po (S.lst G.ld G.li G.ls) (x:=vs[i]) (by simp) fun h' st' sb=>?_)
  have S':StayT d it h0 h':=fun b o n1 n2 hb=>sb.extBut _ _ n2 (S b o n1 n2 hb)
  obtain⟨p,k,a,x,ev,p1,p2,tp,ek,hk⟩:=G.pr i vs[i] hv
  rw[ev]
  show wpAny _ _ (holding [Value.ref p] _ >>= _) _ _ _
  refine wpAny_bind (wpAny_holding (wpAny_bind (wpAny_tryCatch ?_)))
  have tp':IsTup h' p #[.ref a,x]:=S'.tup p1 p2 tp
  have dt':h'.DictOfH (tupleKind (mixKind prog w)) d (xs.take i):=by
   obtain⟨o,es,ep,ho,x1,x2,x3,x4,x5⟩:=dt
   refine⟨o,es,ep,sb.extBut _ _ G.di ho,x1,x2,x3,fun x hx=>?_,x5⟩
   obtain⟨j,hj⟩:=getElem?_of_mem (mem_of_mem_take hx)
   have jl:j<vs.length:=by rw[hl];exact(List.getElem?_eq_some_iff.mp hj).1
   obtain⟨p,k,a,y,_,_,_,_,ek,hk⟩:=G.pr j vs[j] (List.getElem?_eq_getElem jl)
   rw[hj]at ek
   cases ek
   exact hk h' S'
  unfold Builtin.Dict.pairItems
  refine wpAny_bind (wpAny_typeOf (T:="tuple") tp'.typeIs ?_)
  rw[if_pos (by rfl)]
  obtain⟨o,ho,hc,m,hd⟩:=id tp'
  refine wpAny_bind (wpAny_seqItems ho hd (wpAny_pure ?_))
  show wpAny _ _ (holding [Value.ref a,x] (dictSet d (.ref a) x)) _ _ _
  refine wpAny_holding (wpAny_dictSet_heap (knd:=tupleKind (mixKind prog w)) (k:=k) (show A.units+1<cLine by omega) (hk h' S') dt' (fun h2 dt2 sb2=>?_) (by rw[length_take];omega))
  rw[storedT_next nd ek]at dt2
  refine wpAny_pure ⟨plainId_quiet dl_plain _,?_⟩
  have:=tloop hh hu hl few nd h0 G s00 q n (i+1) {s with heap:=h2,toks:=s.toks+(k.length+1)} (by omega) (fun h tk=>es h tk) (st'.extBut sb2.extBut (Ne.symm G.di)) dt2 (fun b o n1 n2 hb=>sb2.extBut _ _ n1 (S' b o n1 n2 hb))
  rw[show((i+1:Nat):Int)=(i:Int)+1 by omega]at this
  exact this
end
end L2
namespace L2
open PySem.W
theorem nst_raw {P:Program}{w:World}{H:Hp}{h:Heap}(ok:HOk P w H h):∀{bl:List (List Int×Int)} {ps:List V} {its:List Value},Nsts H ps bl→Vals ps its→∃xs:List (List Key×Addr×Value),xs.length=bl.length∧xs.map (·.1)=bl.map (fun b=>b.1.map Sum.inl)∧KT H (bl.map kvT) xs∧
 ∀(j:Nat) (v:Value),its[j]?=some v→∃(p:Addr) (k:List Key) (a:Addr) (x:Value),v=.ref p∧IsTup h p #[.ref a,x]∧xs[j]?=some (k,a,x)∧H a=some (.tup (k.map kV))
 |[],[],_,_,.nil=>⟨[],rfl,rfl,.nil,fun j v e=>by cases e⟩
 |b::bl,[],_,r,_=>absurd r.1 (by simp)
 |[],x::xs,_,r,_=>absurd r.1 (by simp)
 |b::bl,x::ps,_,r,.cons rx rv=>by
  obtain⟨p,q,e,hp,hq⟩:=r.2 0 b rfl
  have e:x=.ref p:=Option.some.inj e
  subst e
  obtain⟨xs,e1,e2,e3,h3⟩:=nst_raw ok (bl:=bl) (ps:=ps) ⟨by simpa using r.1,fun j c ec=>r.2 (j+1) c ec⟩ rv
  obtain⟨_,its2,rv2,tp⟩:=(show ObjOk P w H h p (.tup [.ref q,.int b.2]) from ok p _ hp)
  obtain⟨key,y,rfl,rk,ry⟩:=vals2 rv2
  cases(show key=Value.ref q from rk)
  refine⟨(b.1.map Sum.inl,q,y)::xs,by rw[length_cons,length_cons,e1],by rw[map_cons,map_cons,e2],.cons ⟨rfl,by show H q=some (.tup ((b.1.map Sum.inl).map kV));rw[key_ints];exact hq,ry⟩ e3,fun j v ev=>?_⟩
  cases j with
  |zero=>
   have ev:_=v:=Option.some.inj ev
   subst ev
   exact⟨p,_,q,y,rx,tp,rfl,by rw[key_ints];exact hq⟩
  |succ j=>exact h3 j v ev
section
variable {X:Cx}
def rDictT:List V→Hp→VK→Prop:=fun vs H Q=>∃(l:Addr) (ps:List V) (bl:List (List Int×Int)),vs=[.ref l]∧H l=some (.lst ps)∧Nsts H ps bl∧bl.length≤1000∧(bl.map (·.1)).Nodup∧
 ∀d,H d=none→Q (.ref d) (upd H d (.dT (bl.map kvT)))
theorem call_dictT (hc:X.calm=true)(hu:X.A.units+2<cLine):CallR X (.type "dict") rDictT:=by
 intro pins s σ H vs us Q I r h
 obtain⟨l,ps,bl,rfl,hl,pr,few,nd,q⟩:=h
 obtain⟨u,rfl,rx⟩:=vals1 r
 cases(show u=Value.ref l from rx)
 obtain⟨hz,its,n,rv,hls⟩:=(show ObjOk X.prog X.w H s.heap l (.lst ps) from I.hok l _ hl)
 have ilen:ps.length=its.length:=rv.length
 have plen:=pr.1
 obtain⟨xs,lx,kx,kt,hx⟩:=nst_raw I.hok pr rv
 have hnew:(s.heap.push {cls:=.type "dict",data:=.dict #[]}).DictOfH (tupleKind (mixKind X.prog X.w)) s.heap.objs.size []:=Heap.DictOfH.new s.heap
 have hls':(s.heap.push {cls:=.type "dict",data:=.dict #[]}).get? l=some {cls:=.type "list",dict:=none,data:=.seq its.toArray n,slots:=#[]}:=get?_push_of_some _ hls
 refine callType_codes F.kt_called_dict (F.kt_typeCall_dict_1 _) F.entry_dict_init (kt_code_dict_new (Q₁:=fun v z=>v=.ref s.heap.objs.size∧z={s with heap:=s.heap.push {cls:=.type "dict",data:=.dict #[]}}) _ ⟨rfl,rfl⟩)
  fun v z ⟨ev,ez⟩=>ev▸ez▸⟨hnew.typeIs,F.args_dict_init_2 _ _,di_list (I.ok.hd hc) hnew.typeIs hls' fun h1 tk1 kp1=>?_⟩
 have old:∀b o,s.heap.get? b=some o→(h1.push {cls:=.type "list_iterator",data:=.fields #[.ref l,.int 0 0]}).get? b=some o:=fun b o e=>get?_push_of_some _ (kp1 _ _ (get?_push_of_some _ e))
 have lt1:∀b o,s.heap.get? b=some o→b≠s.heap.objs.size∧b≠h1.objs.size:=fun b o e=>⟨Nat.ne_of_lt (lt_size e),Nat.ne_of_lt (lt_size (kp1 _ _ (get?_push_of_some _ e)))⟩
 have big:s.heap.objs.size≠h1.objs.size:=by
  obtain⟨o,es,ep,ho,_⟩:=id hnew
  exact Nat.ne_of_lt (lt_size (kp1 _ _ ho))
 have nsm:(s.heap.objs.size==sysModules)=false:=beq_eq_false_iff_ne.mpr (Ne.symm (Nat.ne_of_lt I.big))
 have nd':(xs.map (·.1)).Nodup:=by
  rw[kx]
  have:=pairwise_map.mp nd
  exact pairwise_map.mpr (this.imp fun{x y} ne e=>ne (inl_inj e))
 have G:TkIn X.prog X.w l h1.objs.size s.heap.objs.size its xs s.heap:=by
  refine⟨big,(lt1 _ _ hls).1,(lt1 _ _ hls).2,⟨_,hls,rfl,n,rfl⟩,fun j v hj=>?_⟩
  obtain⟨p,k,a,x,rfl,tp,ex,ha⟩:=hx j v hj
  obtain⟨o,ho,r⟩:=id tp
  refine⟨p,k,a,x,rfl,(lt1 _ _ ho).1,(lt1 _ _ ho).2,tp,ex,fun h' S=>?_⟩
  obtain⟨o3,i3,m3,f1,f2⟩:(tupleKind (mixKind X.prog X.w)).is s.heap k a:=key_of I.hok ha
  exact⟨o3,i3,m3,S _ _ (lt1 _ _ f1).1 (lt1 _ _ f1).2 f1,f2⟩
 refine tloop (A:=X.A.in1) (I.ok.hd hc) (show X.A.units+1+1<cLine by omega) (by omega) (by rw[lx];exact Nat.le_trans few (by decide)) nd' s.heap G s (fun h' tk hd' S=>?_) its.length 0 _ (by omega) (fun h tk=>rfl) ⟨_,get?_push_size _ rfl,rfl,rfl⟩ ?_ (fun b o _ _ hb=>old b o hb)
 ·refine⟨rfl,.ref s.heap.objs.size,_,I.laid (a:=s.heap.objs.size) (t':=tk) (o:=.dT (bl.map kvT)) (fun b o e=>S b o (lt1 _ _ e).1 (lt1 _ _ e).2 e) (Nat.le_refl _) ?_,rfl,q _ (I.hok.fresh (Nat.le_refl _))⟩
  obtain⟨o,es,ep,g1,g2,g3,g4,_⟩:=hd'
  have fr:=I.hok.fresh (Nat.le_refl s.heap.objs.size)
  refine⟨by rw[length_map];exact Nat.le_trans few (by decide),nsm,xs,KT.keeps kt fun b ys e=>?_,o,es,ep,g1,g2,g3,g4,nd'⟩
  rw[upd_ne (fun z=>by rw[z,fr]at e;cases e)]
  exact e
 ·obtain⟨o,es,ep,ho,x1,x2,x3,x4,x5⟩:=id hnew
  exact⟨o,es,ep,get?_push_of_some _ (kp1 _ _ ho),x1,x2,x3,fun x hx=>(by cases hx),x5⟩
end
end L2
namespace L2
open PySem.W
abbrev IsVI (h:Heap)(z d:Addr)(i n ep:Nat):Prop:=h.get? z=some {cls:=.type "dict_valueiterator",dict:=none,data:=.fields #[.ref d,.int (i:Int) 0,.int (n:Int) 0,.int (ep:Int) 0],slots:=#[]}
section
variable {prog:Program}{w:World}{A:Around}{E:Value→Shared→Prop}{s:Shared}
theorem vi_item {z d:Addr}{i ep:Nat}{es:Array DictEntry}{Q:Option Value→Shared→Prop}(hit:IsVI s.heap z d i es.size ep)(hd:RawD s.heap d es ep)(hi:i<es.size)
 (q:∀h',IsVI h' z d (i+1) es.size ep→Heap.SameBut z s.heap h'→Q (some es[i].val) {s with heap:=h'}):wpAny (model prog w) A (pyNext (.ref z)) Q E s:=by
 obtain⟨hp,g,dr,tk,os⟩:=s
 obtain⟨⟨c,dd,da,sl⟩,ho,hc,hda⟩:=hd
 simp only at hc hda ho
 subst hc hda
 have hT:Shared.TypeIs ⟨hp,g,dr,tk,os⟩ (.ref z) "dict_valueiterator":=⟨_,hit,rfl⟩
 unfold pyNext
 refine wpAny_bind (wpAny_attempt (wpAny_callSpecial?_slot (name:=Str.ofString "__next__") hT F.slot_dict_valueiterator_next (wpAny_call_entry F.slot_dict_valueiterator_next hT F.entry_dict_valueiterator_next ?_ (F.args_dict_valueiterator_next_1 _))))
 have e1:¬((i:Int)<0):=by omega
 have e2:es[(i:Int).toNat]?=some es[i]:=by rw[Int.toNat_natCast];exact Array.getElem?_eq_getElem hi
 unfold Builtin.«dict_valueiterator.__next__»
 wp_walk
 rw[if_neg e1,e2]
 dsimp only
 wp_walk
 refine⟨_,rfl,wpAny_pure (q _ ?_ (Heap.SameBut.update ..))⟩
 refine(get?_update_self _ hit rfl).trans ?_
 kernel_rfl
theorem vi_end {z d:Addr}{i ep:Nat}{es:Array DictEntry}{Q:Option Value→Shared→Prop}(hh:A.handled=none)(hit:IsVI s.heap z d i es.size ep)(hd:RawD s.heap d es ep)(hi:es.size≤i)
 (q:∀h' tk,Heap.ExtBut z s.heap h'→Q none {s with heap:=h',toks:=tk}):wpAny (model prog w) A (pyNext (.ref z)) Q E s:=by
 obtain⟨hp,g,dr,tk,os⟩:=s
 obtain⟨⟨c,dd,da,sl⟩,ho,hc,hda⟩:=hd
 simp only at hc hda ho
 subst hc hda
 have hT:Shared.TypeIs ⟨hp,g,dr,tk,os⟩ (.ref z) "dict_valueiterator":=⟨_,hit,rfl⟩
 unfold pyNext
 refine wpAny_bind (wpAny_attempt (wpAny_callSpecial?_slot (name:=Str.ofString "__next__") hT F.slot_dict_valueiterator_next (wpAny_call_entry F.slot_dict_valueiterator_next hT F.entry_dict_valueiterator_next ?_ (F.args_dict_valueiterator_next_1 _))))
 have e1:¬((i:Int)<0):=by omega
 have e2:es[(i:Int).toNat]?=none:=by rw[Int.toNat_natCast];exact Array.getElem?_eq_none hi
 unfold Builtin.«dict_valueiterator.__next__»
 wp_walk
 rw[if_neg e1,e2]
 dsimp only
 wp_walk
 simp only[raiseNew]
 refine wpAny_bind (wpAny_handled ?_)
 rw[show A.in1.handled=none from hh]
 refine wpAny_bind (wpAny_pure (wpAny_throw ?_))
 refine wpAny_bind (wpAny_isInstance (T:="StopIteration") (b:=true) ⟨_,get?_push_size _ rfl,rfl⟩ isSubtype_stop ?_)
 exact wpAny_pure (q _ _ (((Heap.SameBut.update ..).extBut.push _).push _))
theorem vi_iter {v d:Addr}{ep:Nat}{es:Array DictEntry}{Q:Value→Shared→Prop}(ns:(d==sysModules)=false)(hv:s.heap.get? v=some {cls:=.type "dict_values",data:=.fields #[.ref d]})(hd:RawD s.heap d es ep)
 (q:∀h',IsVI h' s.heap.objs.size d 0 es.size ep→(∀b o,s.heap.get? b=some o→h'.get? b=some o)→h'.objs.size=s.heap.objs.size+1→Q (.ref s.heap.objs.size) {s with heap:=h'}):wpAny (model prog w) A (pyIter (.ref v)) Q E s:=by
 obtain⟨hp,g,dr,tk,os⟩:=s
 obtain⟨⟨c,dd,da,sl⟩,ho,hc,hda⟩:=hd
 simp only at hc hda ho
 subst hc hda
 have hT:Shared.TypeIs ⟨hp,g,dr,tk,os⟩ (.ref v) "dict_values":=⟨_,hv,rfl⟩
 refine wpAny_pyIter_slot hT F.slot_dict_values_iter (wpAny_call_entry F.slot_dict_values_iter hT F.entry_dict_values_iter ?_ (F.args_dict_values_iter_1 _))
 unfold Builtin.«dict_values.__iter__»
 wp_walk
 exact⟨_,rfl,"dict_valueiterator",_,⟨_,get?_push_size _ rfl,rfl⟩,F.slot_dict_valueiterator_next.lookup,q _ ((get?_push_size _ rfl).trans (by kernel_rfl)) (fun b o e=>get?_push_of_some _ e) (Heap.size_push ..)⟩
theorem d_valuesR {d:Addr}{ep:Nat}{es:Array DictEntry}{Q:Value→Shared→Prop}(ns:(d==sysModules)=false)(hd:RawD s.heap d es ep)
 (q:Q (.ref s.heap.objs.size) {s with heap:=s.heap.push {cls:=.type "dict_values",data:=.fields #[.ref d]}}):wpAny (model prog w) A (call (.builtin "dict.values") [.ref d]) Q E s:=by
 obtain⟨hp,g,dr,tk,os⟩:=s
 obtain⟨⟨c,dd,da,sl⟩,ho,hc,hda⟩:=hd
 simp only at hc hda ho
 subst hc hda
 have hT:Shared.TypeIs ⟨hp,g,dr,tk,os⟩ (.ref d) "dict":=⟨_,ho,rfl⟩
 refine wpAny_call_entry F.slot_dict_values hT F.entry_dict_values ?_ (F.args_dict_values_1 _)
 unfold Builtin.«dict.values»
 wp_walk
 exact⟨_,rfl,q⟩
end
end L2
namespace L2
open PySem.W
theorem RawD.at {h h':Heap}{d:Addr}{es:Array DictEntry}{ep:Nat}(x:RawD h d es ep)(e:∀o,h.get? d=some o→h'.get? d=some o):RawD h' d es ep:=let⟨o,ho,r⟩:=x;⟨o,e _ ho,r⟩
theorem walk_vals {prog:Program}{w:World}{A:Around}(hh:A.handled=none)(I d:Addr)(hne:d≠I)(es:Array DictEntry)(ep:Nat) :
 Walks prog w A I [I,d] [I] es.size (fun i v=>∃h:i<es.size,v=es[i].val) (fun i h=>IsVI h I d i es.size ep∧RawD h d es ep) where
 sub:=fun b hb=>by simp at hb;simp[hb]
 frame:=fun i h h' st k=>⟨k I (by simp) _ st.1,st.2.at fun o e=>k d (by simp) o e⟩
 item:=fun i s Q E hi st q=>vi_item st.1 st.2 hi fun h' it sb=>q _ h' s.toks ⟨hi,rfl⟩ ⟨it,st.2.at fun o e=>sb.extBut _ _ hne e⟩ fun b o nb e=>sb.extBut b o (fun z=>nb (by simp[z])) e
 done:=fun s Q E st q=>vi_end hh st.1 st.2 (Nat.le_refl _) fun h' tk eb=>q h' tk fun b o nb e=>eb b o (fun z=>nb (by simp[z])) e
 self:=fun i s Q E st q=>wpAny_pyIter_valiter (i:=i) ⟨_,st.1,rfl,rfl⟩ q
def valsO (d:Addr):Obj:={cls:=.type "dict_values",data:=.fields #[.ref d]}
def rValuesT:V→List V→Hp→VK→Prop:=fun x vs H Q=>∃(d:Addr) (kvs:List (List Key×V)),x=.ref d∧vs=[]∧H d=some (.dT kvs)∧∀v,H v=none→Q (.ref v) (upd H v (Fz v (valsO d)))
theorem mt_valuesT {X:Cx}:MtR X "dict.values" rValuesT:=by
 intro pins s σ H x xs v us Q I rx rv h
 obtain⟨d,kvs,rfl,rfl,hd,q⟩:=h
 cases(show v=Value.ref d from rx)
 cases rv
 obtain⟨lo,hz,es,ep,rd,_⟩:=raw_dT (I.hok d _ hd)
 refine d_valuesR lo rd ?_
 exact⟨.ref s.heap.objs.size,_,I.laid (a:=s.heap.objs.size) (t':=s.toks) (o:=Fz s.heap.objs.size (valsO d)) (fun b o e=>get?_push_of_some _ e) (Nat.le_refl _) (fz_ok (get?_push_size _ rfl)),rfl,q _ (I.hok.fresh (Nat.le_refl _))⟩
def rSumV:List V→Hp→VK→Prop:=fun xs H Q=>∃(v d:Addr) (bl:List (List Int×Int)),xs=[.ref v]∧H v=some (Fz v (valsO d))∧H d=some (.dT (bl.map kvT))∧Q (.int (bl.map (·.2)).sum) H
theorem call_sumV {X:Cx}(hc:X.calm=true):CallR X (.builtin "sum") rSumV:=by
 intro pins s σ H xs us Q I r h
 obtain⟨v,d,bl,rfl,hv,hd,q⟩:=h
 obtain⟨u,rfl,rx⟩:=vals1 r
 cases(show u=Value.ref v from rx)
 obtain⟨lo,hz,es,ep,rd,ln,at_⟩:=raw_dT (I.hok d _ hd)
 rw[length_map]at ln
 have gv:s.heap.get? v=some (valsO d):=(I.hok v _ hv).1
 refine call_sum_walkAnyS (vi_iter lo gv rd fun h' it kp sz=>?_)
 have ld:d<s.heap.objs.size:=let⟨o,ho,_⟩:=rd;lt_size ho
 refine⟨s.heap.objs.size,_,_,_,_,_,_,fun i=>(bl.map (·.2)).getD i 0,rfl,(walk_vals (by simpa using I.ok.hd hc) s.heap.objs.size d (Nat.ne_of_lt ld) es ep).toS,⟨it,rd.at fun o e=>kp _ _ e⟩,fun b hb=>?_,fun i x hx=>?_,fun s' t' mv=>?_⟩
 ·rw[sz]
  simp only[mem_cons,not_mem_nil,or_false]at hb
  rcases hb with rfl | rfl
  ·exact Nat.lt_succ_self _
  ·exact Nat.lt_succ_of_lt ld
 ·obtain⟨hi,rfl⟩:=hx
  have eb:bl[i]?=some (bl[i]'(by omega)):=List.getElem?_eq_getElem _
  obtain⟨_,p,_,_,rv⟩:=at_ i _ (by rw[List.getElem?_map,eb];rfl)
  obtain⟨t,e⟩:∃t,es[i].val=.int (bl[i]'(by omega)).2 t:=rv
  refine⟨t,?_⟩
  rw[e]
  show Value.int _ t=Value.int ((bl.map (·.2)).getD i 0) t
  rw[getD_eq_getElem?_getD,List.getElem?_map,eb]
  rfl
 ·obtain⟨h2,g',d',tk',os'⟩:=s'
  cases(show g'=s.gens from mv.gens)
  cases(show d'=s.drawn from mv.drawn)
  cases(show os'=s.os from mv.os)
  rw[preSum_getD,take_of_length_le (by rw[length_map];omega)]
  refine⟨.int (bl.map (·.2)).sum,H,I.kept (t':=tk') fun b o e=>mv.heap b o ?_ (kp _ _ e),⟨_,rfl⟩,q⟩
  have:=lt_size e
  simp only[mem_cons,not_mem_nil,or_false]
  exact Nat.ne_of_lt this
end L2
namespace L2
section
variable {prog:Program}{w:World}{A:Around}{E:Value→Shared→Prop}
theorem draw_lst {it l:Addr}{items:Array Value}(ne:l≠it):∀(n i:Nat) (s:Shared) (Q:List Value→Shared→Prop),s.heap.IsListIter it l i→s.heap.IsList l items→i+n≤items.size→
 (∀g,g.IsListIter it l (i+n)→Heap.SameBut it s.heap g→Q ((items.toList.drop i).take n) {s with heap:=g})→wpAny (model prog w) A (draw (.ref it) n) Q E s:=by
 intro n
 induction n with
 |zero=>intro i s Q a b c q;exact wpAny_pure (q s.heap a (Heap.SameBut.refl _ _))
 |succ n ih=>
  intro i s Q a b c q
  have lt:i<items.size:=Nat.lt_of_lt_of_le (Nat.lt_add_of_pos_right (Nat.succ_pos n)) c
  have one:items.toList.drop i=items[i]::items.toList.drop (i+1):=by
   rw[drop_eq_getElem_cons (by rw[length_toList];exact lt)]
   rfl
  show wpAny _ A (pyNext (.ref it) >>= _) _ _ s
  refine wpAny_bind (wpAny_pyNext_list_item a b (Array.getElem?_eq_getElem lt) fun g a1 sb=>?_)
  refine wpAny_bind (wpAny_holding (ih (i+1) _ _ a1 (b.extBut sb.extBut ne) (by omega) fun g2 a2 sb2=>wpAny_pure ?_))
  have z:=q g2 (by rw[show i+(n+1)=i+1+n by omega];exact a2) (sb.trans sb2)
  rw[one]at z
  exact z
theorem unp_lst {s:Shared}{l:Addr}{items:Array Value}{Q:List Value→Shared→Prop}(hh:A.handled=none)(b:s.heap.IsList l items)
 (q:∀g,Heap.ExtBut s.heap.objs.size s.heap g→Q items.toList {s with heap:=g}):wpAny (model prog w) A (unpackItems (.ref l) items.size none) Q E s:=by
 have lt:l≠s.heap.objs.size:=by obtain⟨o,ho,_⟩:=b;exact Nat.ne_of_lt (lt_size ho)
 unfold unpackItems notIterableAtAll
 refine wpAny_bind (wpAny_bind (wpAny_specialOf b.typeIs slot_list_iter.lookup (wpAny_pure ?_)))
 show wpAny _ _ (holding [Value.ref l] (pyIter (.ref l)) >>= _) _ _ s
 refine wpAny_bind (wpAny_holding (wpAny_pyIter_list b ?_))
 refine wpAny_bind (wpAny_holding (draw_lst lt items.size 0 _ _ ⟨_,get?_push_size _ rfl,rfl,rfl⟩ (b.push _) (by omega) fun g a1 sb=>?_))
 have all:(items.toList.drop 0).take items.size=items.toList:=by
  rw[drop_zero,←length_toList]
  exact take_length
 rw[all]
 have few:¬items.toList.length<items.size:=by rw[length_toList];exact Nat.lt_irrefl _
 show wpAny _ _ (if items.toList.length<items.size then _ else _) _ _ _
 rw[if_neg few]
 rw[Nat.zero_add]at a1
 refine wpAny_bind (wpAny_holding (wpAny_pyNext_list_end hh a1 ((b.push _).extBut sb.extBut lt) (Array.getElem?_eq_none (Nat.le_refl _)) fun g2 eb=>?_))
 exact wpAny_pure (q g2 fun c o hc e=>eb c o hc (sb.extBut c o hc (get?_push_of_some _ e)))
end
section
variable {X:Cx}{pos:Pos}
def gLst (K:W.Frag)(n:Nat)(t:TGs):TG:=fun v σ H Q=>∃a xs,v=.ref a∧SqL K H a xs∧xs.length=n∧t xs σ H Q
theorem pg_lst {es:List Expr}{k:Nat}{t:TGs}{n:Nat}(hc:X.calm=true)(h:PGs X es t)
 (hn:(assignEach es X.env).length=n:=by rfl) (hst:(assignEach es X.env).findIdx? (·.1)=none:=by rfl):PG X (.Tuple es k pos) (gLst X.K n t):=by
 intro pins s σ H v u Q I r hw
 obtain⟨a,xs,e1,hq,hl,hw⟩:=hw
 subst e1
 cases r
 obtain⟨its,rv,pl,hz⟩:=I.list hq
 rw[assign_Tuple]
 refine wpAny_bind (wpAny_standAt ?_)
 unfold unpack
 have sz:(assignEach es X.env).length=its.toArray.size:=by rw[hn,←hl,rv.length,size_toArray]
 rw[sz,hst]
 refine wpAny_bind (wpAny_holding (unp_lst (I.ok.hd hc) pl.isList fun g eb=>?_))
 have I1:Inv X pins σ H {s with heap:=g}:=I.kept (t':=s.toks) fun b o e=>eb b o (Nat.ne_of_lt (lt_size e)) e
 exact h pins _ σ H xs _ Q I1 (by simpa using rv) hw
end
theorem comp_inv {J:It}{g:TG}{te:TE}{Q:VK}{D:Addr}{H1:Hp}{σ0:St}(n:Nat)(hn:n≤sizeLine)(Pv:Nat→St→Hp→List V→Prop)(itm:Nat→V→Prop)
 (h0:Pv 0 σ0 (upd H1 D (.lst [])) []) (hD:∀i σ H ys,Pv i σ H ys→H D=some (.lst ys)∧ys.length=i)
 (items:∀i σ H ys,Pv i σ H ys→(i<n→J.go i H∧∀x H2,J.yld i H x H2→H2=H∧itm i x)∧(n≤i→J.stop i H))
 (step:∀i x σ H ys,i<n→Pv i σ H ys→itm i x→∀R:St→V→Hp→Prop,(∀σ3 y H5,H5 D=some (.lst ys)→Pv (i+1) σ3 (upd H5 D (.lst (ys++[y]))) (ys++[y])→R σ3 y H5)→g x σ H fun σ3 H3=>te σ3 H3 (R σ3))
 (fin:∀σ H ys,Pv n σ H ys→Q (.ref D) H):cmpW J g tYes te Q D σ0 H1:=by
 refine⟨fun i m σ H=>m=n - i∧i≤n∧∃ys,Pv i σ H ys,⟨n,by omega,Nat.zero_le _,[],h0⟩,?_⟩
 rintro i m σ H ⟨rfl,hi,ys,pv⟩
 by_cases hlt:i<n
 ·obtain⟨go,yl⟩:=(items i σ H ys pv).1 hlt
  refine .inr ⟨go,fun x H2 y=>?_⟩
  obtain⟨rfl,im⟩:=yl x H2 y
  have key:=step i x σ H2 ys hlt pv im (fun σ3 y H5=>∃ys,H5 D=some (.lst ys)∧ys.length<sizeLine∧∃m',m'<n - i∧(m'=n - (i+1)∧i+1≤n∧∃zs,Pv (i+1) σ3 (upd H5 D (.lst (ys++[y]))) zs)) fun σ3 y H5 e p=>by
   have:=(hD _ _ _ _ pv).2
   exact⟨ys,e,by omega,n - (i+1),by omega,rfl,by omega,_,p⟩
  have e:(fun(σ3:St) (H3:Hp)=>te σ3 H3 fun y H5=>∃ys,H5 D=some (.lst ys)∧ys.length<sizeLine∧∃m',m'<n - i∧(m'=n - (i+1)∧i+1≤n∧∃zs,Pv (i+1) σ3 (upd H5 D (.lst (ys++[y]))) zs)) =
   fun(σ3:St) (H3:Hp)=>tYes σ3 H3 fun ok H4=>if ok=true then te σ3 H4 fun y H5=>∃ys,H5 D=some (.lst ys)∧ys.length<sizeLine∧∃m',m'<n - i∧(m'=n - (i+1)∧i+1≤n∧∃zs,Pv (i+1) σ3 (upd H5 D (.lst (ys++[y]))) zs)
    else ∃m',m'<n - i∧(m'=n - (i+1)∧i+1≤n∧∃zs,Pv (i+1) σ3 H4 zs):=by
   funext σ3 H3
   unfold tYes
   dsimp only
   rw[if_pos rfl]
  rw[←e]
  exact key
 ·have e:i=n:=by omega
  subst e
  exact .inl ⟨(items i σ H ys pv).2 (Nat.le_refl _),fin σ H ys pv⟩
end L2
namespace K84
open L2
open BB (lens outs waysL)
theorem hu4 {k:Nat}{A:Around}(r:Room k A):A.units+1+1<cLine:=by have:=r.un;omega
theorem hu5 {k:Nat}{A:Around}(r:Room k A):A.units+4<cLine:=by have:=r.un;omega
def spAr:Sp:=fun vs H Q _=>∃(a:Addr) (N k:Nat) (x:Int) (b:Bool),vs=[.ref a,.int (N:Int),.int (k:Int)]∧StAt H a x b∧N≤8∧k≤N∧
 ∀(H':Hp) (x':Int),Keep a H H'→StAt H' a x' b→Q (.bl true) H'
def binI (N:Nat):Nat→Int
 |0=>1
 |i+1=>binI N i*((N:Int) - (i:Int)) / ((i:Int)+1)
theorem bin_bd:∀N,N≤8→∀i,i≤8→-1000≤binI N i∧binI N i≤1000:=by decide +kernel
theorem bin_is:∀N,N≤8→∀k,k≤N→binI N k=((waysL N k).length:Int)∧0<(waysL N k).length∧(waysL N k).length≤100:=by decide +kernel
theorem cnt_sum:∀{bl:List (List Int×Int)} {xs:List (List Int)},Cnt bl xs→(bl.map (·.2)).sum=((xs.length:Nat):Int)
 |[],xs,c=>by
  cases xs with
  |nil=>rfl
  |cons x r=>
   have:=(c.mem x (((x::r).count x:Nat):Int)).mpr ⟨count_pos_iff.mpr mem_cons_self,rfl⟩
   cases this
 |(t,n)::bl,xs,c=>by
  have h1:=((c.mem t n).mp mem_cons_self).2
  have nd:=nodup_cons.mp (show(t::bl.map (·.1)).Nodup from c.nd)
  have hs:∀s,s≠t→(xs.filter fun z=>decide (z≠t)).count s=xs.count s:=fun s ne=>List.count_filter (decide_eq_true ne)
  have c2:Cnt bl (xs.filter fun z=>decide (z≠t)):=by
   refine⟨nd.2,fun s m=>?_⟩
   by_cases e:s=t
   ·subst e
    have z:(xs.filter fun z=>decide (z≠s)).count s=0:=count_eq_zero.mpr fun hm=>by
     have:=(mem_filter.mp hm).2
     simp at this
    rw[z]
    exact⟨fun hm=>absurd (mem_map_of_mem (f:=(·.1)) hm) nd.1,fun⟨h,_⟩=>absurd h (Nat.lt_irrefl 0)⟩
   ·rw[hs s e,←c.mem s m,mem_cons]
    exact⟨.inr,fun h=>h.resolve_left fun z=>e (congrArg Prod.fst z)⟩
  have ih:=cnt_sum c2
  have l:=List.length_eq_countP_add_countP (fun z:List Int=>z==t) (l:=xs)
  have e2:(xs.filter fun z=>decide (z≠t)).length=xs.countP (fun a=>decide (¬(a==t)=true)):=by
   rw[List.countP_eq_length_filter]
   refine congrArg List.length (filter_congr fun z _=>?_)
   simp
  rw[map_cons,sum_cons,ih,e2]
  show n+_=_
  rw[h1]
  show((xs.countP (fun z=>z==t):Nat):Int)+_=_
  omega
theorem tl_rws {H:Hp}{l:Addr}{bl:List (List Int)}(h:TL H l (bl.map (·.map V.int))):∃ys,H l=some (.lst ys)∧Rws H ys bl:=by
 obtain⟨ys,h1,h2,h3⟩:=h
 rw[length_map]at h2
 refine⟨ys,h1,h2,fun j b e=>?_⟩
 have jl:j<ys.length:=by rw[h2];exact(List.getElem?_eq_some_iff.mp e).1
 obtain⟨p,e1,e2⟩:=h3 j _ (List.getElem?_eq_getElem jl)
 refine⟨p,by rw[List.getElem?_eq_getElem jl,e1],?_⟩
 rw[e2,getD_eq_getElem?_getD,List.getElem?_map,e]
 rfl
theorem rws_de {H:Hp}{xs ys:List V}{bl:List (List Int)}(a:Rws H xs bl)(b:Rws H ys bl):xs.length=ys.length∧∀(j:Nat) (u v:V),xs[j]?=some u→ys[j]?=some v→De H 1 u v:=by
 refine⟨by rw[a.1,b.1],fun j u v e1 e2=>?_⟩
 have jl:j<bl.length:=by rw[←a.1];exact(List.getElem?_eq_some_iff.mp e1).1
 obtain⟨p,x1,x2⟩:=a.2 j _ (List.getElem?_eq_getElem jl)
 obtain⟨q,y1,y2⟩:=b.2 j _ (List.getElem?_eq_getElem jl)
 rw[e1]at x1
 rw[e2]at y1
 cases x1
 cases y1
 refine .inr ⟨p,q,_,_,rfl,rfl,x2,y2,rfl,fun m u v g1 g2=>?_⟩
 rw[g1]at g2
 cases g2
 obtain⟨z,_,rfl⟩:=mem_map.mp (mem_of_getElem? g1)
 exact⟨z,rfl,rfl⟩
theorem ways_nd {N k:Nat}(hN:N≤8)(hk:k≤N):(waysL N k).Nodup:=
 (BB.chn_pw (BB.ways_chn N (by omega) k hk)).imp fun{a b} h e=>by rw[e,lx_irr]at h;cases h
theorem ways_sorted {N k:Nat}(hN:N≤8)(hk:k≤N){l:List (List Int)}(p:l.Perm (waysL N k))(h:l.Pairwise fun x y=>HT.lexLt x y=true):l=waysL N k:=
 List.Perm.eq_of_pairwise (fun a b _ _ h1 h2=>by
  have:=lx_trans h1 h2
  rw[lx_irr]at this
  cases this) h (BB.chn_pw (BB.ways_chn N (by omega) k hk)) p
theorem ways_ne {N k:Nat}(h:2≤(waysL N k).length):∀b∈waysL N k,b≠[]:=fun b hb e=>by
 have w:=BB.mem_ways.mp hb
 have k0:k=0:=by rw[←w.len,e];rfl
 subst k0
 exact absurd h (by show ¬2≤1;omega)
theorem way_ok {N k:Nat}(hN:N≤8){w:List Int}(h:w∈waysL N k)(hk:k≤N):w.length≤12∧(∀p∈w,-1000000000≤p∧p≤1000000000)∧w.Pairwise (· < ·):=by
 have w':=BB.mem_ways.mp h
 refine⟨by rw[w'.len];omega,fun p hp=>?_,w'.up⟩
 have:=w'.bd p hp
 omega
theorem rws_at' {H:Hp}{ys:List V}{bl:List (List Int)}{j:Nat}{x:V}(r:Rws H ys bl)(e:ys[j]?=some x):∃p b,bl[j]?=some b∧x=.ref p∧H p=some (.tup (b.map V.int)):=by
 have jl:j<bl.length:=by rw[←r.1];exact(List.getElem?_eq_some_iff.mp e).1
 obtain⟨p,e1,e2⟩:=r.2 j _ (List.getElem?_eq_getElem jl)
 rw[e]at e1
 cases e1
 exact⟨p,_,List.getElem?_eq_getElem jl,rfl,e2⟩
theorem sel_count (bl:List (List Int))(t:List Int):((List.range bl.length).filter fun i=>decide (BB.lenL (bl.getD i [])=t)).length=(bl.map BB.lenL).count t:=by
 have e:(List.range bl.length).map (fun i=>bl.getD i [])=bl:=by
  refine ext_getElem? fun i=>?_
  rw[List.getElem?_map]
  by_cases h:i<bl.length
  ·rw[getElem?_range h,List.getElem?_eq_getElem h,Option.map_some,getD_eq_getElem?_getD,List.getElem?_eq_getElem h]
   rfl
  ·rw[List.getElem?_eq_none (by rw[length_range];omega),List.getElem?_eq_none (by omega)]
   rfl
 conv=>rhs;rw[←e]
 rw[map_map,List.count_eq_countP,List.countP_map,List.countP_eq_length_filter]
 refine congrArg List.length (filter_congr fun i _=>?_)
 show decide _=(BB.lenL _==t)
 by_cases c:BB.lenL (bl.getD i [])=t
 ·rw[decide_eq_true c,c];simp
 ·rw[decide_eq_false c];exact(beq_eq_false_iff_ne.mpr c).symm
theorem rws_keep {H H':Hp}{a:Addr}{zs ys:List V}{bl:List (List Int)}(r:Rws H ys bl)(k:Keep a H H')(ha:H a=some (.lst zs)):Rws H' ys bl:=
 ⟨r.1,fun j b e=>by
  obtain⟨p,e1,e2⟩:=r.2 j b e
  exact⟨p,e1,k _ _ (fun z=>by rw[z,ha]at e2;cases e2) e2⟩⟩
theorem eq_yes {α:Type}[DecidableEq α]{x y:α}(e:x=y):V.bl (decide (x=y))=.bl true:=by rw[decide_eq_true e]
section
variable {P:Program}{w:World}{K:W.Frag}{mg:Str→Option Value}{base:Heap}
theorem ok_L_all_right {f:Addr}{fd:FuncData}(F:Fun K "_law_all_right" "_law_all_right" s_L_all_right f fd)(nb:Nb4 mg)(h_all_rows:Has P w K mg base 3 "all_rows" ["boxes","balls"] spAll)(h_is_row:Has P w K mg base 2 "is_row" ["thing"] spIsRow)(h_by_lengths:Has P w K mg base 6 "by_lengths" ["boxes","balls"] spByl)(h_L_take:Has P w K mg base 1 "_law_take" ["_law_state_here","_law_many"] (spTake K))(h_one_making:Has P w K mg base 4 "one_making" ["one","other"] spOm)(h_lengths:Has P w K mg base 3 "lengths" ["row"] spLen)  :
 FnOk P w K mg base CX0 7 f fd ["_law_state_here","_law_boxes","_law_balls"] spAr:=by
 have nd:=sc_L_all_right.nd
 refine F.ok (k:=6) sc_L_all_right (fun vs H Q E h=>?_) (fun cdv A outer s H vs Q E hr h=>?_)
 ·obtain⟨a,N,k,x,b,rfl,_⟩:=h
  rfl
 obtain⟨a,N,k,x,b,rfl,hS,N8,kN,q⟩:=h
 refine⟨_,(pss_cons (ps_set (i:=3) nd rfl (Or.inr rfl) (pe_def h_all_rows hr (pa_cons (pv 1) (pa_cons (pv 2) pa_nil))))
(pss_cons (ps_set (i:=4) nd rfl (Or.inr rfl) pe_int)
(pss_cons (ps_for PassesOwn.never rfl (pi_range1 rfl nb.range (pa_cons (pv 2) pa_nil)) (pg_name (i:=5) nd rfl (Or.inl rfl))
(pss_one (ps_set (i:=4) nd rfl (Or.inr rfl) (pe_op op_fdiv (pe_op op_mul (pv 4) (pe_op op_sub (pv 1) (pv 5))) (pe_op op_add (pv 5) pe_int)))))
(pss_cons (ps_if (PW.pt (pw_or (pt_cmpR op_ne (pe_callB call_len_seq rfl nb.len PySem.boot_len (pa_cons (pv 3) pa_nil)) (pv 4) (nomark _)) (pw_or (pt_not (pt_truth (pe_callB (call_allB rfl) rfl nb.all boot_all (pa_cons (pe_comp1 (sc:=defScope s_L_all_right) (N0:=["_law_state_here","_law_boxes","_law_balls","_law_rows","_law_many","_law_number","_law_told","_law_one","_law_other","_law_same"]) (N:=[]) (js:=[]) rfl rfl rfl (by exact⟨rfl,by decide +kernel,by decide +kernel,by decide +kernel,rfl,rfl,by decide,by decide +kernel,by decide +kernel⟩) rfl
(pi_list (pv 3))
(fun _ _ _ _ _=>by exact pts_nil)
(fun _ _ _ _ _=>by exact(pe_def h_is_row hr (pa_cons (pv 0) pa_nil)))) pa_nil)) (fun _=>rfl))) (pw_or1 (pt_cmpR (op_neD (n:=1) (hu4 hr)) (pe_sortsetT (hu5 hr) rfl nb.sorted rfl nb.set rfl (pa_cons (pv 3) pa_nil)) (pv 3) (nomark _))))))
(pss_one (ps_ret pe_bl))
pss_nil)
(pss_cons (ps_set (i:=6) nd rfl (Or.inl rfl) (pe_callTy (call_dictT rfl (hu2 hr)) rfl nb.dict boot_dict (pa_cons (pe_def h_by_lengths hr (pa_cons (pv 1) (pa_cons (pv 2) pa_nil))) pa_nil)))
(pss_cons (ps_if (pt_cmpR op_ne (pe_callB (call_sumV rfl) rfl nb.sum boot_sum (pa_cons (pe_bm0 PySem.F.plainAttrs_dict PySem.F.slot_dict_values PySem.F.type_dict_values mt_valuesT (pv 6)) pa_nil)) (pv 4) (nomark _))
(pss_one (ps_ret pe_bl))
pss_nil)
(pss_cons (ps_asg (pe_comp1 (sc:=defScope s_L_all_right) (N0:=["_law_state_here","_law_boxes","_law_balls","_law_rows","_law_many","_law_number","_law_told","_law_one","_law_other","_law_same"]) (N:=["_law_state_here","_law_rows","_law_many"]) (js:=[0,3,4]) rfl rfl rfl (by exact⟨rfl,by decide +kernel,by decide +kernel,by decide +kernel,rfl,rfl,by decide,by decide +kernel,by decide +kernel⟩) rfl
(pi_range1 rfl nb.range (pa_cons pe_int pa_nil))
(fun _ _ _ _ _=>by exact pts_nil)
(fun _ _ _ _ _=>by exact(pe_ix (show IxR _ (rIxL K) from ix_list) (pv 2) (pe_def h_L_take hr (pa_cons (pv 1) (pa_cons (pv 3) pa_nil))) (fun _ _=>rfl)))) (pg_lst rfl (pgs_cons (pg_name (i:=7) nd rfl (Or.inr rfl)) (pgs_cons (pg_name (i:=8) nd rfl (Or.inl rfl)) pgs_nil))))
(pss_cons (ps_set (i:=9) nd rfl (Or.inl rfl) (pe_callB call_len_seq rfl nb.len PySem.boot_len (pa_cons (pe_comp1 (sc:=defScope s_L_all_right) (N0:=["_law_state_here","_law_boxes","_law_balls","_law_rows","_law_many","_law_number","_law_told","_law_one","_law_other","_law_same"]) (N:=["_law_one"]) (js:=[7]) rfl rfl rfl (by exact⟨rfl,by decide +kernel,by decide +kernel,by decide +kernel,rfl,rfl,by decide,by decide +kernel,by decide +kernel⟩) rfl
(pi_list (pv 3))
(fun _ _ _ _ _=>by exact(pts_one (pt_truthW K rfl (pe_def h_one_making hr (pa_cons (pv 0) (pa_cons (pv 1) pa_nil))) (fun _=>rfl))))
(fun _ _ _ _ _=>by exact(pv 0))) pa_nil)))
(pss_one (ps_ret (pe_and (pe_cmpR op_eq (pe_dget (hu1 hr) (pv 6) (pe_def h_lengths hr (pa_cons (pv 7) pa_nil)) (fun _ _=>rfl)) (pv 9) (nomark _)) (pe_one (pe_cmpR op_eq (pe_def h_one_making hr (pa_cons (pv 7) (pa_cons (pv 8) pa_nil))) (pe_cmpR (op_eqT hr.units0) (pe_def h_lengths hr (pa_cons (pv 7) pa_nil)) (pe_def h_lengths hr (pa_cons (pv 8) pa_nil)) (nomark _)) (nomark _)))))))))))))),?_⟩
 refine⟨_,rfl,_,rfl,N,k,rfl,by omega,kN,fun l H1 s1 t1=>?_⟩
 have st1:=hS.same s1
 obtain⟨ys,hl,rw1⟩:=tl_rws t1
 obtain⟨bi,w0,w1⟩:=bin_is N N8 k kN
 have yl:ys.length=(waysL N k).length:=rw1.1
 have la:l≠a:=fun e=>by
  obtain⟨p,e1,_⟩:=rw1.2 0 _ (List.getElem?_eq_getElem w0)
  rw[e,st1.1]at hl
  cases hl
  cases e1
 -- how many ways there are
 refine⟨_,rfl,_,rfl,by omega,by omega,?_⟩
 refine for_range (fun i σ H'=>H'=H1∧∃o5,σ=[some (.ref a),some (.int (N:Int)),some (.int (k:Int)),some (.ref l),some (.int (binI N i)),o5,none,none,none,none]) ⟨rfl,_,rfl⟩ (fun i σ H' hi hp=>?_) (fun σ H' hp=>?_)
 ·obtain⟨rfl,o5,rfl⟩:=hp
  have b1:=bin_bd N N8 i (by omega)
  refine⟨_,rfl,_,rfl,_,rfl,_,_,rfl,rfl,_,_,rfl,rfl,.inl ⟨by omega,by omega⟩,_,rfl,_,_,rfl,rfl,_,_,rfl,rfl,⟨by omega,by omega⟩,rfl,some (.int (0+(i:Int))),?_⟩
  show [_,_,_,_,some (V.int (binI N i*((N:Int) - (0+(i:Int))) / (0+(i:Int)+1))),_,_,_,_,_]=_
  rw[Int.zero_add]
  rfl
 obtain⟨rfl,o5,rfl⟩:=hp
 rw[Int.toNat_natCast,bi]
 -- as many rows
 refine⟨_,rfl,l,ys,rfl,.inl (SqL.of hl),_,rfl,rfl,false,ne_no (by rw[yl]),iteF ?_⟩
 -- all rows
 refine⟨_,rfl,l,rfl,⟨_,SqL.of hl⟩,fun D hD=>?_⟩
 refine comp_go ys.length (by rw[sizeLine_eq];omega) (fun _=>.bl true) (fun σ=>∃o1,σ=[o1]) _ hD (by exact⟨_,rfl⟩) (items_lst hl) (fun j x σ' HH hj sH im hσ R hR=>?_) (fun H2 s2 hD2=>?_)
 ·obtain⟨o1,rfl⟩:=hσ
  obtain⟨p,w,ew,rfl,hp⟩:=rws_at' (rw1.same sH) im
  obtain⟨c1,c2,c3⟩:=way_ok N8 (mem_of_getElem? ew) kN
  exact⟨_,rfl,p,w,rfl,hp,c1,c2,c3,fun H3 s3=>hR _ _ _ ⟨_,rfl⟩ s3 rfl⟩
 have eb:(List.range ys.length).map (fun _=>V.bl true)=((List.range ys.length).map fun _=>true).map V.bl:=by rw[map_map];rfl
 have al:((List.range ys.length).map fun _=>true).all id=true:=by rw[all_map];exact all_eq_true.mpr fun _ _=>rfl
 rw[eb]at hD2
 refine⟨D,_,rfl,SqL.of hD2,_,rfl,?_⟩
 rw[al]
 refine iteF ?_
 -- none twice
 refine⟨_,rfl,l,ys,waysL N k,rfl,s2 _ _ hl,rw1.same s2,ways_nd N8 kN,ways_ne,by omega,run_all N8 kN,fun bl' zs l2 pm so rz hl2=>?_⟩
 have ew:=ways_sorted N8 kN pm so
 subst ew
 have q3:=same_new hl2 (.lst zs)
 have S3:=s2.trans q3
 have hl3:=S3 _ _ hl
 have rw3:=rw1.same S3
 have de:=rws_de (rz.same q3) rw3
 refine⟨_,rfl,l2,l,zs,ys,rfl,rfl,SqL.of upd_same,SqL.of hl3,de.1,de.2,_,rfl,iteF ?_⟩
 have st3:=st1.same S3
 have T3:=s1.trans S3
 generalize upd H2 l2 (.lst zs)=H3 at hl3 rw3 st3 T3 ⊢
 clear de S3 q3 hl2 rz so pm hD2 s2 hD st1 rw1 hl t1
 -- told by lengths
 refine⟨_,rfl,_,rfl,N,k,rfl,by omega,kN,fun r bl zs' H4 s4 hn told h4 ns4=>?_⟩
 have fewb:bl.length≤1000:=by
  have:=told.1.len fun x hx=>hx
  rw[length_map]at this
  omega
 refine⟨r,zs',bl,rfl,h4,ns4,fewb,told.1.nd,fun d hd=>?_⟩
 have q5:=same_new hd (.dT (bl.map kvT))
 have S5:=s4.trans q5
 have hl5:=S5 _ _ hl3
 have rw5:=rw3.same S5
 have st5:=st3.same S5
 have T5:=T3.trans S5
 have d5:(upd H4 d (.dT (bl.map kvT))) d=some (.dT (bl.map kvT)):=upd_same
 generalize upd H4 d (.dT (bl.map kvT))=H5 at hl5 rw5 st5 T5 d5 ⊢
 clear S5 q5 hd h4 ns4 s4 hl3 rw3 st3 T3
 refine⟨_,rfl,.inr (.inr (.inl ⟨rfl,.inr ⟨_,d5⟩⟩)),d,_,rfl,rfl,d5,fun v hv=>?_⟩
 have q6:=same_new hv (Fz v (valsO d))
 have hl6:=q6 _ _ hl5
 have rw6:=rw5.same q6
 have st6:=st5.same q6
 have T6:=T5.trans q6
 have d6:=q6 _ _ d5
 refine⟨v,d,bl,rfl,upd_same,d6,_,rfl,rfl,false,ne_no (by rw[cnt_sum told.1,length_map]),iteF ?_⟩
 generalize upd H5 v (Fz v (valsO d))=H6 at hl6 rw6 st6 T6 d6 ⊢
 clear q6 hv hl5 rw5 st5 T5 d5
 -- two of them
 refine⟨_,rfl,by decide,by decide,fun D hD=>?_⟩
 have Da:D≠a:=fun z=>by rw[z,st6.1]at hD;cases hD
 refine comp_inv 2 (by rw[sizeLine_eq];omega) (fun i σ H' zs=>∃(o1:Option V) (x':Int),σ=[o1,some (.ref a),some (.ref l),some (.int ((waysL N k).length:Int))]∧Keep a H6 H'∧StAt H' a x' b∧H' D=some (.lst zs)∧zs.length=i∧∀y∈zs,∃j:Nat,ys[j]?=some y) (fun i x=>x=.int (0+(i:Int))) ?_ (fun i σ H' ys h=>?_) (fun i σ H' ys _=>?_) (fun i x σ H' zs hi h im R hR=>?_) (fun σ H7 zs h=>?_)
 ·exact⟨_,x,rfl,fun c o nc e=>(same_new hD _) c o e,st6.same (same_new hD _),upd_same,rfl,fun y hy=>absurd hy not_mem_nil⟩
 ·obtain⟨o1,x',rfl,kp,st,hd,lk,bk⟩:=h
  exact⟨hd,lk⟩
 ·exact⟨fun hi=>⟨hi,fun x H2 ⟨e,y⟩=>⟨e,y⟩⟩,fun hi=>hi⟩
 ·obtain⟨o1,x',rfl,kp,st,hd,lk,bk⟩:=h
  refine⟨_,rfl,_,rfl,_,rfl,a,x',b,_,rfl,st,by omega,by omega,fun v y7 v0 v1 d7=>?_⟩
  have k7:=keep_upd a H' (.lst [.int y7,.bl b])
  have st7:StAt (upd H' a (.lst [.int y7,.bl b])) a y7 b:=StAt.upd d7
  have hd7:=k7 _ _ Da hd
  have kp7:=kp.trans k7
  have hl7:=kp7 _ _ la hl6
  generalize upd H' a (.lst [.int y7,.bl b])=H7 at k7 st7 hd7 kp7 hl7 ⊢
  obtain⟨m,rfl⟩:=Int.eq_ofNat_of_zero_le v0
  have ml:m<ys.length:=by omega
  have em:=List.getElem?_eq_getElem ml
  refine⟨l,ys,_,_,rfl,rfl,SqL.of hl7,atI_nat em,hR _ _ _ hd7 ⟨_,y7,rfl,fun c o nc e=>?_,⟨by rw[upd_ne Da.symm];exact st7.1,st7.2⟩,upd_same,by rw[length_append,length_singleton,lk],fun y hy=>?_⟩⟩
  ·rw[upd_ne (ne_of_none e hD)]
   exact kp7 c o nc e
  ·rcases mem_append.mp hy with z | z
   ·exact bk y z
   ·rw[mem_singleton.mp z]
    exact⟨m,em⟩
 obtain⟨o1,x7,rfl,kp7,st7,hd7,lk,bk⟩:=h
 match zs,lk,hd7,bk with
 |[y1,y2],_,hd7,bk=>
 obtain⟨j1,e1⟩:=bk y1 (by simp)
 obtain⟨j2,e2⟩:=bk y2 (by simp)
 have rw7:=rws_keep rw6 kp7 st6.1
 have hl7:=kp7 _ _ la hl6
 have d7:=kp7 d _ (fun z=>by rw[z,st6.1]at d6;cases d6) d6
 obtain⟨p1,v1,ev1,rfl,hp1⟩:=rws_at' rw7 e1
 obtain⟨p2,v2,ev2,rfl,hp2⟩:=rws_at' rw7 e2
 obtain⟨c1,_,_⟩:=way_ok N8 (mem_of_getElem? ev1) kN
 obtain⟨c2,_,_⟩:=way_ok N8 (mem_of_getElem? ev2) kN
 refine⟨D,[.ref p1,.ref p2],rfl,SqL.of hd7,rfl,_,_,rfl,_,_,rfl,rfl,?_⟩
 -- as many as have these lengths
 refine⟨_,rfl,l,rfl,⟨_,SqL.of hl7⟩,fun D2 hD2=>?_⟩
 refine comp_sel ys.length (by rw[sizeLine_eq];omega) (fun i=>decide (BB.lenL ((waysL N k).getD i [])=BB.lenL v1)) (fun i=>ys.getD i .non) (fun σ=>∃o1,σ=[o1,some (.ref p1)]) _ hD2 (by exact⟨_,rfl⟩) (items_lst hl7) (fun j x σ' HH hj sH im hσ R S hR hS'=>?_) (fun H8 s8 h8=>?_)
 ·obtain⟨o1,rfl⟩:=hσ
  obtain⟨p,w,ew,rfl,hp⟩:=rws_at' (rw7.same sH) im
  obtain⟨cw,_,_⟩:=way_ok N8 (mem_of_getElem? ew) kN
  have gw:(waysL N k).getD j []=w:=by rw[getD_eq_getElem?_getD,ew];rfl
  have gy:ys.getD j .non=.ref p:=by rw[getD_eq_getElem?_getD,im];rfl
  refine⟨_,rfl,_,rfl,p,p1,w,v1,rfl,hp,sH _ _ hp1,cw,c1,fun H9 s9=>⟨_,rfl,?_⟩⟩
  by_cases c:BB.lenL w=BB.lenL v1
  ·rw[decide_eq_true (show lens (outs w.length w)=lens (outs v1.length v1) from c)]
   exact iteT ⟨_,rfl,hR (by rw[gw];exact decide_eq_true c) _ _ _ ⟨_,rfl⟩ s9 gy.symm⟩
  ·rw[decide_eq_false (show ¬lens (outs w.length w)=lens (outs v1.length v1) from c)]
   exact iteF (hS' (by rw[gw];exact decide_eq_false c) _ _ ⟨_,rfl⟩ s9)
 refine⟨D2,_,rfl,.inl (SqL.of h8),?_⟩
 rw[length_map,yl,sel_count]
 have hm:(BB.lenL v1,((((waysL N k).map BB.lenL).count (BB.lenL v1):Nat):Int))∈bl:=(told.1.mem _ _).mpr ⟨count_pos_iff.mpr (mem_map_of_mem (mem_of_getElem? ev1)),rfl⟩
 refine⟨_,rfl,_,rfl,p1,v1,rfl,s8 _ _ hp1,c1,fun r1 H9 s9 h9=>?_⟩
 have S9:=s8.trans s9
 have dg:DGet H9 d (.ref r1) (some (.int ((((waysL N k).map BB.lenL).count (BB.lenL v1):Nat):Int))):=by
  have z:=DGet.t (k:=(BB.lenL v1).map Sum.inl) (S9 _ _ d7) (show H9 r1=some (.tup (((BB.lenL v1).map (Sum.inl:Int→Key)).map kV)) by rw[key_ints];exact h9)
  rw[told.1.some hm]at z
  exact z
 refine⟨d,_,rfl,dg,_,rfl,rfl,true,eq_yes rfl,?_⟩
 rw[if_pos rfl]
 refine⟨_,rfl,_,rfl,p1,p2,v1,v2,rfl,S9 _ _ hp1,S9 _ _ hp2,c1,c2,fun HA sA=>?_⟩
 have SA:=S9.trans sA
 refine⟨_,rfl,p1,v1,rfl,SA _ _ hp1,c1,fun r2 HB sB hB=>⟨_,rfl,p2,v2,rfl,sB _ _ (SA _ _ hp2),c2,fun r3 HC sC hC=>⟨r2,r3,_,_,rfl,rfl,SqT.of (sC _ _ hB),SqT.of hC,rfl,?_⟩⟩⟩
 have SC:=SA.trans (sB.trans sC)
 rw[eq_yes rfl]
 exact q HC x7 (fun c o nc e=>SC _ _ (kp7 c o nc (T6 c o e))) (st7.same SC)
end
end K84
namespace L2
def Din (K:W.Frag)(x:Str)(st:Stmt):Prop:=∃(f:Addr) (fd:FuncData),PySem.W.nsIn K mainGlobals x=some (some (.ref f))∧Fun K x x st f fd
theorem din {K:W.Frag}{x:Str}{st:Stmt}{f:Addr}{oc kV doc pm cdv ct:Value}{od an:Option Addr}{osl:Array (Option Value)}(a:PySem.W.nsIn K mainGlobals x=some (some (.ref f)))(l:K.lookup f=some ⟨oc,od,.func (PySem.W.fnOf x x (defArgs st) (defBody st) (defScope st) .none kV doc pm an cdv ct),osl⟩)
 (c:PySem.W.codeIn K cdv x=true) (k:PySem.W.keepIn K (.ref f)=true):Din K x st:=⟨f,_,a,fun_mk l c k⟩
theorem Din.has {P:Program}{w:World}{K:W.Frag}{mg:Str→Option Value}{base h:Heap}{x:Str}{st:Stmt}{ps:List Str}{sp:Sp}{lv:Nat}(d:Din K x st)(X:K.In h)(G:h.Ns mainGlobals mg)(ok:∀{f:Addr} {fd:FuncData},Fun K x x st f fd→FnOk P w K mg base CX0 lv f fd ps sp)
 (hb:∀(kV doc pm:Value) (an:Option Addr) (cdv ct:Value) (us:List Value),us.length=ps.length→bindArgs (PySem.W.fnOf x x (defArgs st) (defBody st) (defScope st) .none kV doc pm an cdv ct) ⟨us,[]⟩=pure (ps.zip us):=by
  intro _ _ _ _ _ _ us hl
  first
   |exact(match us,hl with | [_],_=>rfl)
   |exact(match us,hl with | [_,_],_=>rfl)
   |exact(match us,hl with | [_,_,_],_=>rfl)
   |exact(match us,hl with | [_,_,_,_],_=>rfl)):Has P w K mg base lv x ps sp:=by
 obtain⟨f,fd,a,F⟩:=d
 exact⟨f,fd,ok F,PySem.W.mg_of X G a,F.kp,F.binds hb⟩
end L2
namespace K84
open L2
theorem same_keep {H H':Hp}{r:Addr}{o:HO}(hr:H r=none)(k:Keep r (upd H r o) H'):Same H H':=fun c u h=>k c u (ne_of_none h hr) (same_new hr o c u h)
def spLaw (K:W.Frag):Sp:=fun vs H Q _=>∃(a:Addr) (ns:List Int),vs=[.ref a]∧SqL K H a (ns.map V.int)∧ns.length≤63∧∀H',Q (.bl true) H'
section
variable {P:Program}{w:World}{K:W.Frag}{mg:Str→Option Value}{base:Heap}
theorem ok_law {f:Addr}{fd:FuncData}(F:Fun K "law" "law" s_law f fd)(nb:Nb4 mg)(h_L_state:Has P w K mg base 2 "_law_state" ["_law_script","_law_k"] (spState K))(h_L_take:Has P w K mg base 1 "_law_take" ["_law_state_here","_law_many"] (spTake K))(h_L_lot:Has P w K mg base 2 "_law_lot" ["_law_state_here"] spLot)(h_L_made_right:Has P w K mg base 5 "_law_made_right" ["_law_some","_law_gaps"] spMr)(h_L_all_right:Has P w K mg base 7 "_law_all_right" ["_law_state_here","_law_boxes","_law_balls"] spAr)  :
 FnOk P w K mg base CX0 8 f fd ["_law_script"] (spLaw K):=by
 have nd:=sc_law.nd
 refine F.ok (k:=7) sc_law (fun vs H Q E h=>?_) (fun cdv A outer s H vs Q E hr h=>?_)
 ·obtain⟨a,ns,rfl,_⟩:=h
  rfl
 obtain⟨a,ns,rfl,hS,h63,q⟩:=h
 refine⟨_,(pss_cons (ps_for PassesOwn.never rfl (pi_range1 rfl nb.range (pa_cons (pe_callB (call_max2 rfl) rfl nb.max boot_max (pa_cons pe_int (pa_cons (pe_callB (call_min2 rfl) rfl nb.min boot_min (pa_cons (pe_callB call_len_seq rfl nb.len PySem.boot_len (pa_cons (pv 0) pa_nil)) (pa_cons pe_int pa_nil))) pa_nil))) pa_nil)) (pg_name (i:=1) nd rfl (Or.inl rfl))
(pss_cons (ps_set (i:=2) nd rfl (Or.inl rfl) (pe_def h_L_state hr (pa_cons (pv 0) (pa_cons (pv 1) pa_nil))))
(pss_cons (ps_asg (pe_def h_L_lot hr (pa_cons (pv 2) pa_nil)) (pg_tup rfl (pgs_cons (pg_name (i:=3) nd rfl (Or.inl rfl)) (pgs_cons (pg_name (i:=4) nd rfl (Or.inl rfl)) pgs_nil))))
(pss_cons (ps_if (pt_not (pt_truth (pe_def h_L_made_right hr (pa_cons (pv 3) (pa_cons (pv 4) pa_nil))) (fun _=>rfl)))
(pss_one (ps_ret pe_bl))
pss_nil)
(pss_cons (ps_set (i:=5) nd rfl (Or.inl rfl) (pe_def h_L_take hr (pa_cons (pv 2) (pa_cons pe_int pa_nil))))
(pss_one (ps_if (pt_not (pt_truth (pe_def h_L_all_right hr (pa_cons (pv 2) (pa_cons (pv 5) (pa_cons (pe_def h_L_take hr (pa_cons (pv 2) (pa_cons (pe_op op_add (pv 5) pe_int) pa_nil))) pa_nil)))) (fun _=>rfl)))
(pss_one (ps_ret pe_bl))
pss_nil)))))))
(pss_one (ps_ret pe_bl))),?_⟩
 refine⟨_,rfl,a,_,rfl,.inl hS,_,_,rfl,_,_,rfl,_,rfl,?_,?_,?_⟩
 ·split<;>split<;>omega
 ·split<;>split<;>omega
 refine for_range (fun i σ H'=>Same H H'∧∃o1 o2 o3 o4 o5,σ=[some (.ref a),o1,o2,o3,o4,o5]) ⟨Same.refl _,_,_,_,_,_,rfl⟩ (fun i σ H0 hi hp=>?_) (fun σ H0 hp=>q _)
 obtain⟨sm,o1,o2,o3,o4,o5,rfl⟩:=hp
 refine⟨_,rfl,_,rfl,a,ns,_,rfl,sm.seq hS,by omega,fun r x bb hr0 d=>?_⟩
 have st1:StAt (upd H0 r (.lst [.int x,.bl bb])) r x bb:=StAt.upd d
 generalize hG:upd H0 r (.lst [.int x,.bl bb])=G at st1 ⊢
 have fin:∀H',Keep r G H'→Same H H':=fun H' k=>sm.trans (same_keep hr0 (by rw[hG];exact k))
 -- lengths and gaps
 refine⟨_,rfl,r,x,bb,rfl,st1,fun p t u ls gs H2 x2 k2 st2 ht hu hp lg=>?_⟩
 refine⟨p,_,rfl,SqT.of hp,rfl,_,_,rfl,_,_,rfl,rfl,?_⟩
 refine⟨_,rfl,_,rfl,t,u,ls,gs,rfl,ht,hu,lg,fun H3 s3=>⟨_,rfl,iteF ?_⟩⟩
 have st3:=st2.same s3
 have k3:=k2.same s3
 -- boxes and balls
 refine⟨_,rfl,r,x2,bb,9,rfl,st3,by decide,by decide,fun v1 x4 v10 v11 d4=>?_⟩
 have k4:=k3.trans (keep_upd r H3 (.lst [.int x4,.bl bb]))
 have st4:StAt (upd H3 r (.lst [.int x4,.bl bb])) r x4 bb:=StAt.upd d4
 generalize upd H3 r (.lst [.int x4,.bl bb])=H4 at k4 st4 ⊢
 refine⟨_,rfl,_,rfl,_,rfl,_,rfl,_,_,rfl,rfl,r,x4,bb,_,rfl,st4,by omega,by omega,fun v2 x5 v20 v21 d5=>?_⟩
 have k5:=k4.trans (keep_upd r H4 (.lst [.int x5,.bl bb]))
 have st5:StAt (upd H4 r (.lst [.int x5,.bl bb])) r x5 bb:=StAt.upd d5
 generalize upd H4 r (.lst [.int x5,.bl bb])=H5 at k5 st5 ⊢
 obtain⟨N,rfl⟩:=Int.eq_ofNat_of_zero_le v10
 obtain⟨k,rfl⟩:=Int.eq_ofNat_of_zero_le v20
 refine⟨r,N,k,x5,bb,rfl,st5,by omega,by omega,fun H6 x6 k6 st6=>⟨_,rfl,iteF ?_⟩⟩
 exact⟨fin _ (k5.trans k6),_,_,_,_,_,rfl⟩
end
end K84
namespace K84
open L2
theorem all_mk {l:PySem.W.OpenLaw}{w:World}{K:W.Frag}{h:Heap}{mg:Str→Option Value}{fa:Addr}(X:K.In h)(G:h.Ns mainGlobals mg)(hfa:mg "law" = some (.ref fa))
 {u1 u2 u3 u4 u5:Value}
 (d1:Din K "is_number" s_is_number) (d2:Din K "need_number" s_need_number) (d3:Din K "is_rising" s_is_rising) (d4:Din K "carry" s_carry) (d5:Din K "blocks_in" s_blocks_in) (d6:Din K "closed_up" s_closed_up) (d7:Din K "lengths_from" s_lengths_from) (d8:Din K "ways" s_ways) (d9:Din K "is_row" s_is_row) (d10:Din K "carried" s_carried) (d11:Din K "peeled" s_peeled) (d12:Din K "lengths" s_lengths) (d13:Din K "one_making" s_one_making) (d14:Din K "counted_by_lengths" s_counted_by_lengths) (d15:Din K "are_lengths" s_are_lengths) (d16:Din K "are_gaps" s_are_gaps) (d17:Din K "free_row" s_free_row) (d18:Din K "all_rows" s_all_rows) (d19:Din K "by_lengths" s_by_lengths) (d20:Din K "takings" s_takings) (d21:Din K "is_free" s_is_free) (d22:Din K "blocks" s_blocks) (d23:Din K "free_later" s_free_later) (d24:Din K "_law_cell_at" s_L_cell_at) (d25:Din K "_law_state" s_L_state) (d26:Din K "_law_take" s_L_take) (d27:Din K "_law_lot" s_L_lot) (d28:Din K "_law_made_right" s_L_made_right) (d29:Din K "_law_all_right" s_L_all_right) (d30:Din K "law" s_law)
 (n1:PySem.W.nsIn K mainGlobals "MOST_BALLS" = some (some u1)) (e1:RelV (.int 12) u1)
 (n2:PySem.W.nsIn K mainGlobals "FARTHEST" = some (some u2)) (e2:RelV (.int 1000000000) u2)
 (n3:PySem.W.nsIn K mainGlobals "WIDEST_GAP" = some (some u3)) (e3:RelV (.int 100) u3)
 (n4:PySem.W.nsIn K mainGlobals "MOST_BOXES" = some (some u4)) (e4:RelV (.int 10) u4)
 (n5:PySem.W.nsIn K mainGlobals "MOST_STEPS" = some (some u5)) (e5:RelV (.int 1000000) u5)
 (z1:PySem.W.nsIn K mainGlobals "len" = some none) (z2:PySem.W.nsIn K mainGlobals "isinstance" = some none) (z3:PySem.W.nsIn K mainGlobals "bool" = some none) (z4:PySem.W.nsIn K mainGlobals "int" = some none) (z5:PySem.W.nsIn K mainGlobals "tuple" = some none) (z6:PySem.W.nsIn K mainGlobals "list" = some none) (z7:PySem.W.nsIn K mainGlobals "range" = some none) (z8:PySem.W.nsIn K mainGlobals "zip" = some none) (z9:PySem.W.nsIn K mainGlobals "all" = some none) (z10:PySem.W.nsIn K mainGlobals "max" = some none) (z11:PySem.W.nsIn K mainGlobals "min" = some none) (z12:PySem.W.nsIn K mainGlobals "reversed" = some none) (z13:PySem.W.nsIn K mainGlobals "abs" = some none) (z14:PySem.W.nsIn K mainGlobals "dict" = some none) (z15:PySem.W.nsIn K mainGlobals "sorted" = some none) (z16:PySem.W.nsIn K mainGlobals "sum" = some none) (z17:PySem.W.nsIn K mainGlobals "set" = some none) :
 ∃fd:FuncData,(∀(s:Shared) (v:Value),BindsTo s fd ⟨[v],[]⟩ [("_law_script",v)])∧∀base:Heap,K.In base→base.Ns mainGlobals mg→FnOk l.prog w K mg base CX0 8 fa fd ["_law_script"] (spLaw K):=by
 obtain⟨f,fd,a,F⟩:=d30
 cases hfa.symm.trans (PySem.W.mg_of X G a)
 have nb0:Nb mg:=⟨PySem.W.mg_none_of X G z1,PySem.W.mg_none_of X G z2,PySem.W.mg_none_of X G z3,PySem.W.mg_none_of X G z4,PySem.W.mg_none_of X G z5,PySem.W.mg_none_of X G z6,PySem.W.mg_none_of X G z7,PySem.W.mg_none_of X G z8,PySem.W.mg_none_of X G z9,PySem.W.mg_none_of X G z10,PySem.W.mg_none_of X G z11⟩
 have nb2:Nb2 mg:=⟨nb0,PySem.W.mg_none_of X G z12,PySem.W.mg_none_of X G z13⟩
 have nb3:Nb3 mg:=⟨nb2,PySem.W.mg_none_of X G z14,PySem.W.mg_none_of X G z15⟩
 have nb:Nb4 mg:=⟨nb3,PySem.W.mg_none_of X G z16,PySem.W.mg_none_of X G z17⟩
 have c_MOST_BALLS:∃u,mg "MOST_BALLS" = some u∧RelV (.int 12) u:=⟨u1,PySem.W.mg_of X G n1,e1⟩
 have c_FARTHEST:∃u,mg "FARTHEST" = some u∧RelV (.int 1000000000) u:=⟨u2,PySem.W.mg_of X G n2,e2⟩
 have c_WIDEST_GAP:∃u,mg "WIDEST_GAP" = some u∧RelV (.int 100) u:=⟨u3,PySem.W.mg_of X G n3,e3⟩
 have c_MOST_BOXES:∃u,mg "MOST_BOXES" = some u∧RelV (.int 10) u:=⟨u4,PySem.W.mg_of X G n4,e4⟩
 have c_MOST_STEPS:∃u,mg "MOST_STEPS" = some u∧RelV (.int 1000000) u:=⟨u5,PySem.W.mg_of X G n5,e5⟩
 refine⟨fd,fun s v=>(by obtain⟨_,_,_,_,_,_,_,_,_,rfl,_⟩:=F.ex;exact .of_eq rfl),fun base _ _=>?_⟩
 have h_is_number:Has l.prog w K mg base 1 "is_number" ["thing","least","greatest"] spNum:=d1.has X G fun F=>ok_is_number F nb0
 have h_need_number:Has l.prog w K mg base 2 "need_number" ["thing","least","greatest"] spNeed:=d2.has X G fun F=>ok_need_number F nb3 h_is_number
 have h_is_rising:Has l.prog w K mg base 1 "is_rising" ["numbers"] spRise:=d3.has X G fun F=>ok_is_rising F nb0
 have h_carry:Has l.prog w K mg base 1 "carry" ["row","size"] spCarry:=d4.has X G fun F=>ok_carry F nb2
 have h_blocks_in:Has l.prog w K mg base 1 "blocks_in" ["row"] spBin:=d5.has X G fun F=>ok_blocks_in F nb2
 have h_closed_up:Has l.prog w K mg base 1 "closed_up" ["places","out"] spClosed:=d6.has X G fun F=>ok_closed_up F nb0
 have h_lengths_from:Has l.prog w K mg base 1 "lengths_from" ["counts"] spLf:=d7.has X G fun F=>ok_lengths_from F nb2
 have h_ways:Has l.prog w K mg base 1 "ways" ["boxes","balls"] spWays:=d8.has X G fun F=>ok_ways F nb0
 have h_is_row:Has l.prog w K mg base 2 "is_row" ["thing"] spIsRow:=d9.has X G fun F=>ok_is_row F nb0 h_is_number h_is_rising c_MOST_BALLS c_FARTHEST
 have h_carried:Has l.prog w K mg base 2 "carried" ["row"] spCar:=d10.has X G fun F=>ok_carried F nb2 h_carry
 have h_peeled:Has l.prog w K mg base 2 "peeled" ["row"] spPeel:=d11.has X G fun F=>ok_peeled F nb0 h_closed_up
 have h_lengths:Has l.prog w K mg base 3 "lengths" ["row"] spLen:=d12.has X G fun F=>ok_lengths F nb2 h_peeled h_lengths_from
 have h_one_making:Has l.prog w K mg base 4 "one_making" ["one","other"] spOm:=d13.has X G fun F=>ok_one_making F nb3 h_lengths
 have h_counted_by_lengths:Has l.prog w K mg base 5 "counted_by_lengths" ["rows"] spCbl:=d14.has X G fun F=>ok_counted_by_lengths F nb3 h_lengths
 have h_are_lengths:Has l.prog w K mg base 2 "are_lengths" ["thing"] spAl:=d15.has X G fun F=>ok_are_lengths F nb h_is_number c_MOST_BALLS
 have h_are_gaps:Has l.prog w K mg base 2 "are_gaps" ["thing","lengths"] spAg:=d16.has X G fun F=>ok_are_gaps F nb h_is_number c_WIDEST_GAP
 have h_free_row:Has l.prog w K mg base 3 "free_row" ["lengths","gaps"] spFr:=d17.has X G fun F=>ok_free_row F nb h_are_lengths h_are_gaps
 have h_all_rows:Has l.prog w K mg base 3 "all_rows" ["boxes","balls"] spAll:=d18.has X G fun F=>ok_all_rows F nb3 h_need_number h_ways c_MOST_BOXES
 have h_by_lengths:Has l.prog w K mg base 6 "by_lengths" ["boxes","balls"] spByl:=d19.has X G fun F=>ok_by_lengths F nb3 h_all_rows h_counted_by_lengths
 have h_takings:Has l.prog w K mg base 2 "takings" ["row"] spTks:=d20.has X G fun F=>ok_takings F nb3 h_carry
 have h_is_free:Has l.prog w K mg base 2 "is_free" ["row"] spFree:=d21.has X G fun F=>ok_is_free F nb2 h_blocks_in
 have h_blocks:Has l.prog w K mg base 3 "blocks" ["row"] spBl:=d22.has X G fun F=>ok_blocks F nb2 h_is_row h_is_free h_blocks_in
 have h_free_later:Has l.prog w K mg base 4 "free_later" ["row","steps"] spFl:=d23.has X G fun F=>ok_free_later F nb0 h_blocks h_need_number c_MOST_STEPS
 have h_L_cell_at:Has l.prog w K mg base 1 "_law_cell_at" ["_law_script","_law_k"] (spCell K):=d24.has X G fun F=>ok_L_cell_at F nb0
 have h_L_state:Has l.prog w K mg base 2 "_law_state" ["_law_script","_law_k"] (spState K):=d25.has X G fun F=>ok_L_state F nb0 h_L_cell_at
 have h_L_take:Has l.prog w K mg base 1 "_law_take" ["_law_state_here","_law_many"] (spTake K):=d26.has X G fun F=>ok_L_take F nb0
 have h_L_lot:Has l.prog w K mg base 2 "_law_lot" ["_law_state_here"] spLot:=d27.has X G fun F=>ok_L_lot F nb h_L_take
 have h_L_made_right:Has l.prog w K mg base 5 "_law_made_right" ["_law_some","_law_gaps"] spMr:=d28.has X G fun F=>ok_L_made_right F nb h_free_row h_is_row h_is_free h_blocks h_lengths h_takings h_carried h_free_later
 have h_L_all_right:Has l.prog w K mg base 7 "_law_all_right" ["_law_state_here","_law_boxes","_law_balls"] spAr:=d29.has X G fun F=>ok_L_all_right F nb h_all_rows h_is_row h_by_lengths h_L_take h_one_making h_lengths
 exact ok_law F nb h_L_state h_L_take h_L_lot h_L_made_right h_L_all_right
theorem walk {l:PySem.W.OpenLaw}{q:Program}{loose:List Str}{XP:(Str→Option Value)→Heap→Prop}{YP:World→Heap→Prop}{d:DefRec}{K:Params→W.Frag}(hn:l.most=some 63)(hdf:d.params.defaults=[])
 (hY:∀(w:World) (h:Heap),YP w h→(K w.params).In h)
 (F:∀(w:World) (mg:Str→Option Value) (fa:Addr) (h:Heap),(K w.params).In h→h.Ns mainGlobals mg→mg d.name=some (.ref fa)→
  ∃fd:FuncData,(∀(s:Shared) (u:Value),BindsTo s fd ⟨[u],[]⟩ [("_law_script",u)])∧∀base:Heap,(K w.params).In base→base.Ns mainGlobals mg→FnOk l.prog w (K w.params) mg base CX0 8 fa fd ["_law_script"] (spLaw (K w.params))) :
 PySem.W.WalkO q loose XP YP l.row.toRowW d [] (fun f vs=>PySem.call f vs):=
 L2.walk_of (n:=63) (k:=8) (x:="_law_script") (CX:=fun _=>CX0) (sp:=fun w=>spLaw (K w.params)) hn (by decide) hdf ⟨rfl,by decide,by decide⟩ hY F (fun _ _ a ns hl _ hS=>⟨a,ns,rfl,hS,hl,fun _=>rfl⟩) fun _ _ _ _ _ z=>z
end K84
namespace PySem.Challenge.cw_boxballs_k84_whole_rows_made_holds
def tw7114956056109659569:=()
def tw7613800371163840210:=()
def tw18402089945275151479:=()
def tw15895439878138425769:=()
def tw16418372204977837490:=()
def tw10455988793104136608:=()
def tw6765899539468175276:=()
def tw17097364294147680194:=()
def tw2856914945113675787:=()
def tw18359063661727579394:=()
def tw17916879518103073705:=()
def tw7646214124121718415:=()
def tw16763474330522336977:=()
def tw5688513349851757463:=()
def tw18014466251428070802:=()
def tw15427085082639437592:=()
def tw7295173820323756699:=()
def tw7128482460289838280:=()
def tw12496271807981039979:=()
def tw11114570286169798829:=()
def tw4233556928618827001:=()
def tw3020174009990361180:=()
def tw1619583746306514599:=()
def tw15646953287671258006:=()
def tw1415685665448833529:=()
def tw18044406943368519488:=()
def tw17517261805372105653:=()
def tw18264697634164757123:=()
def tw8602167818244371654:=()
def tw11578333049262303518:=()
def tw1588153097540662928:=()
def tw5911411157396391813:=()
def tw10559488475194604392:=()
def tw3692771158839772319:=()
def tw6416441495242518421:=()
def tw14396938484406533791:=()
def tw8884576405171313212:=()
def tw7390292936665400173:=()
def tw3101472128179190733:=()
def tw2504474797174422352:=()
def tw552609814510072314:=()
def tw18425094343652081043:=()
def tw8087304850876364751:=()
def tw14886714984283184587:=()
def tw11792478101042708777:=()
def tw10041972087822393122:=()
def tw18285281660910812801:=()
def tw17153177941130059927:=()
def tw17685103049165490867:=()
def tw826886689003107021:=()
def tw8367920346487541827:=()
def tw15970984159256495871:=()
def tw15613082172052374241:=()
def tw2676873017504865705:=()
def tw1650237847073997432:=()
def tw1712388285973365838:=()
def tw5730772394724080943:=()
def tw1527082450797672520:=()
def tw5858540521947386975:=()
def tw11636752387884437258:=()
def tw1173348989539188705:=()
def tw3433335431924606809:=()
def tw12415098385035593145:=()
def tw8485995371778397625:=()
def tw13885895185437788368:=()
def tw4040048902591799076:=()
def tw12258462122992558031:=()
def tw11094072610175962601:=()
def tw3635730949771890307:=()
def tw14166135422891698600:=()
def tw1239535496532115816:=()
def tw2864521396946043494:=()
def tw3019376070502311146:=()
def tw14968035575242852132:=()
def tw5699865793919559215:=()
def tw4516151834819549946:=()
def tw10770983177305223266:=()
def tw648308593032421579:=()
def tw14549575995608358735:=()
def tw3445356105283046481:=()
def tw1234069219365278886:=()
def tw7384488582986386278:=()
def tw2859894113748890268:=()
def tw17400849751944611556:=()
def tw6104452588047724728:=()
def tw15736084512993187018:=()
def tw4189273553315762489:=()
def tw11610534771183449253:=()
def tw1834399730188917886:=()
def tw16582060177140455208:=()
def tw17174043632153565186:=()
def tw7893401747874414258:=()
def tw14017931157236528587:=()
def tw12864896057091561365:=()
def tw8536596503094496072:=()
def tw13622152222952317246:=()
def tw8252102657451303228:=()
def tw14920087844867429150:=()
def tw7474265459681026150:=()
def tw14395762840823595071:=()
def tw15100070817031004835:=()
def tw1397276275936957020:=()
def tw8347784957753613281:=()
def tw9211457596388602792:=()
def tw14762022033672485547:=()
def tw2386610826830393714:=()
def tw14805327099094575649:=()
def tw8595124987538858013:=()
def tw7920747270647504254:=()
def tw7872548399078319586:=()
def tw7143359284273602155:=()
def tw7097029847202042523:=()
def tw9457181959729479868:=()
def tw10137169169137339919:=()
def tw4368226360730473895:=()
def tw3768841165289253656:=()
def tw18110404833958849811:=()
def tw6799827241383491357:=()
def tw17968042442179192780:=()
def tw6215317341322976240:=()
def tw10576656241958557594:=()
def tw13447751619184735197:=()
def tw5108549387598758163:=()
def tw8223115954155771830:=()
def tw3236384275513566655:=()
def tw15899552447886587175:=()
def tw4605673543650102801:=()
def tw2759030113254803512:=()
def tw580172658661165552:=()
def tw9452549765741740333:=()
def tw11795039455207497992:=()
def tw9368476591442847032:=()
def tw9107692508334425802:=()
def tw11392716368010229897:=()
def tw6181173141018632576:=()
def tw10762417630256312127:=()
def tw3729768494932298739:=()
def tw4103292742343711809:=()
def tw7178347755816986414:=()
def tw8073302593108471707:=()
def tw17239827331162326514:=()
end PySem.Challenge.cw_boxballs_k84_whole_rows_made_holds
set_option Elab.async true
open PySem PySem.W PyProof.Rows
set_option maxHeartbeats 0 in
theorem PySem.Challenge.cw_boxballs_k84_whole_rows_made_holds : PySem.Challenge.rw_boxballs_k84_whole_rows_made.Holds := by
 w_on;o_law;k_head;(case hw=>w_witness2)
 k_fill
 refine K84.walk (l:=PySem.Challenge.rw_boxballs_k84_whole_rows_made) rfl rfl (fun w h Y=>PySem.W.kIn_of Y) ?F
 case F=>
  intro w mg fa h KX G hmg
  refine' K84.all_mk KX G hmg ?d1 ?d2 ?d3 ?d4 ?d5 ?d6 ?d7 ?d8 ?d9 ?d10 ?d11 ?d12 ?d13 ?d14 ?d15 ?d16 ?d17 ?d18 ?d19 ?d20 ?d21 ?d22 ?d23 ?d24 ?d25 ?d26 ?d27 ?d28 ?d29 ?d30 ?n1 ?e1 ?n2 ?e2 ?n3 ?e3 ?n4 ?e4 ?n5 ?e5 ?z1 ?z2 ?z3 ?z4 ?z5 ?z6 ?z7 ?z8 ?z9 ?z10 ?z11 ?z12 ?z13 ?z14 ?z15 ?z16 ?z17
  (case d1=>(refine' L2.din ?a ?l ?c ?k;(case a=>k_is);(case l=>k_is);(case c=>k_is);(case k=>k_is)))
  (case d2=>(refine' L2.din ?a ?l ?c ?k;(case a=>k_is);(case l=>k_is);(case c=>k_is);(case k=>k_is)))
  (case d3=>(refine' L2.din ?a ?l ?c ?k;(case a=>k_is);(case l=>k_is);(case c=>k_is);(case k=>k_is)))
  (case d4=>(refine' L2.din ?a ?l ?c ?k;(case a=>k_is);(case l=>k_is);(case c=>k_is);(case k=>k_is)))
  (case d5=>(refine' L2.din ?a ?l ?c ?k;(case a=>k_is);(case l=>k_is);(case c=>k_is);(case k=>k_is)))
  (case d6=>(refine' L2.din ?a ?l ?c ?k;(case a=>k_is);(case l=>k_is);(case c=>k_is);(case k=>k_is)))
  (case d7=>(refine' L2.din ?a ?l ?c ?k;(case a=>k_is);(case l=>k_is);(case c=>k_is);(case k=>k_is)))
  (case d8=>(refine' L2.din ?a ?l ?c ?k;(case a=>k_is);(case l=>k_is);(case c=>k_is);(case k=>k_is)))
  (case d9=>(refine' L2.din ?a ?l ?c ?k;(case a=>k_is);(case l=>k_is);(case c=>k_is);(case k=>k_is)))
  (case d10=>(refine' L2.din ?a ?l ?c ?k;(case a=>k_is);(case l=>k_is);(case c=>k_is);(case k=>k_is)))
  (case d11=>(refine' L2.din ?a ?l ?c ?k;(case a=>k_is);(case l=>k_is);(case c=>k_is);(case k=>k_is)))
  (case d12=>(refine' L2.din ?a ?l ?c ?k;(case a=>k_is);(case l=>k_is);(case c=>k_is);(case k=>k_is)))
  (case d13=>(refine' L2.din ?a ?l ?c ?k;(case a=>k_is);(case l=>k_is);(case c=>k_is);(case k=>k_is)))
  (case d14=>(refine' L2.din ?a ?l ?c ?k;(case a=>k_is);(case l=>k_is);(case c=>k_is);(case k=>k_is)))
  (case d15=>(refine' L2.din ?a ?l ?c ?k;(case a=>k_is);(case l=>k_is);(case c=>k_is);(case k=>k_is)))
  (case d16=>(refine' L2.din ?a ?l ?c ?k;(case a=>k_is);(case l=>k_is);(case c=>k_is);(case k=>k_is)))
  (case d17=>(refine' L2.din ?a ?l ?c ?k;(case a=>k_is);(case l=>k_is);(case c=>k_is);(case k=>k_is)))
  (case d18=>(refine' L2.din ?a ?l ?c ?k;(case a=>k_is);(case l=>k_is);(case c=>k_is);(case k=>k_is)))
  (case d19=>(refine' L2.din ?a ?l ?c ?k;(case a=>k_is);(case l=>k_is);(case c=>k_is);(case k=>k_is)))
  (case d20=>(refine' L2.din ?a ?l ?c ?k;(case a=>k_is);(case l=>k_is);(case c=>k_is);(case k=>k_is)))
  (case d21=>(refine' L2.din ?a ?l ?c ?k;(case a=>k_is);(case l=>k_is);(case c=>k_is);(case k=>k_is)))
  (case d22=>(refine' L2.din ?a ?l ?c ?k;(case a=>k_is);(case l=>k_is);(case c=>k_is);(case k=>k_is)))
  (case d23=>(refine' L2.din ?a ?l ?c ?k;(case a=>k_is);(case l=>k_is);(case c=>k_is);(case k=>k_is)))
  (case d24=>(refine' L2.din ?a ?l ?c ?k;(case a=>k_is);(case l=>k_is);(case c=>k_is);(case k=>k_is)))
  (case d25=>(refine' L2.din ?a ?l ?c ?k;(case a=>k_is);(case l=>k_is);(case c=>k_is);(case k=>k_is)))
  (case d26=>(refine' L2.din ?a ?l ?c ?k;(case a=>k_is);(case l=>k_is);(case c=>k_is);(case k=>k_is)))
  (case d27=>(refine' L2.din ?a ?l ?c ?k;(case a=>k_is);(case l=>k_is);(case c=>k_is);(case k=>k_is)))
  (case d28=>(refine' L2.din ?a ?l ?c ?k;(case a=>k_is);(case l=>k_is);(case c=>k_is);(case k=>k_is)))
  (case d29=>(refine' L2.din ?a ?l ?c ?k;(case a=>k_is);(case l=>k_is);(case c=>k_is);(case k=>k_is)))
  (case d30=>(refine' L2.din ?a ?l ?c ?k;(case a=>k_is);(case l=>k_is);(case c=>k_is);(case k=>k_is)))
  (case n1=>k_is);(case e1=>exact⟨_,rfl⟩)
  (case n2=>k_is);(case e2=>exact⟨_,rfl⟩)
  (case n3=>k_is);(case e3=>exact⟨_,rfl⟩)
  (case n4=>k_is);(case e4=>exact⟨_,rfl⟩)
  (case n5=>k_is);(case e5=>exact⟨_,rfl⟩)
  (case z1=>k_is)
  (case z2=>k_is)
  (case z3=>k_is)
  (case z4=>k_is)
  (case z5=>k_is)
  (case z6=>k_is)
  (case z7=>k_is)
  (case z8=>k_is)
  (case z9=>k_is)
  (case z10=>k_is)
  (case z11=>k_is)
  (case z12=>k_is)
  (case z13=>k_is)
  (case z14=>k_is)
  (case z15=>k_is)
  (case z16=>k_is)
  (case z17=>k_is)

import PyProof.Rows.All
import Wide.All
import OpenK.AllK
import Wide.FinOn
import Lean
import PyProof.EqAt
import PyProof.EqKinds
import PyProof.TupleCall
import KE.KSortTup
import PyProof.TupleOfGen
import PyProof.ListRange
import PyProof.Rows.ZipGen
import KE.KRevIter
import PyProof.NeKinds
import PyProof.CompUse
import KE.KDictSum
import PyProof.Rows.SortWalk
import PyProof.AttrMissHeap
import KE.KDictOf
import PyProof.StationsW
import PyProof.ExcClass2
import PyProof.ExcBaseAll.ValueError
import OpenK.KOwn
import PyProof.RulesAs
import PyProof.Rows.Catch
import PyProof.ExcAttrAll.ValueError
import KE.KIsAll
import PyProof.NsDelKeeps
import KE.KLam
import KE.KTupSum
import PyProof.EnumStmt
import PyProof.EnumMake
import PyProof.SeqI3
import PyProof.MinMaxWalk
import PyProof.WalkInts
import PyProof.Rows.CallKwBuiltin
import KE.KRevSl
import PyProof.Rows.SetFrom
import PyProof.ListMulRoad
import PyProof.FactsAll.tuple
import PyProof.WalksMore
import PyProof.StrWalks
import PyProof.MeetsStr
import PyProof.StrBlockH
import KE.KIntText
import PyProof.Rows.FStr
import KE.IntTextLaws
import KE.KxText
import PyProof.Rows.StrDigitsNeg
import PyProof.Rows.ReprOcc
import PyProof.StrLawsFirst
import PyProof.StrLawsIn
import PyProof.StrCalls2
import PyProof.StrLawsChain
import PyProof.StrLawsOcc
import PyProof.Rows.SeqMore
import PyProof.Rows.SortStr
import KE.KUnpackStar
import PyProof.StrLawsTight
import PySem.Challenge.RW_boxballs_k93_a_desk
set_option maxHeartbeats 4000000
set_option maxRecDepth 100000
set_option Elab.async false
set_option linter.unusedVariables false
set_option linter.all false
open PySem PySem.Spec PyProof.Rows
open Array (getElem?_toList length_toList)
open Bool (and_eq_true eq_false_iff false_eq_true)
open List (all_cons all_eq_true all_map any_cons append_nil count_cons ext_getElem? filterMap_cons filterMap_map filter_append filter_congr filter_cons filter_cons_of_neg filter_cons_of_pos filter_nil find?_cons find?_eq_none forall_mem_cons getD_eq_getElem?_getD getElem?_append_left getElem?_append_right getElem?_drop getElem?_map getElem?_range getElem_mem length_append length_cons length_drop length_filter_le length_map length_nil length_pos_iff length_range length_replicate length_reverse length_singleton length_take lookup_cons map_append map_congr_left map_cons map_map map_nil mem_append mem_append_left mem_append_right mem_cons mem_cons_of_mem mem_cons_self mem_filter mem_map mem_of_getElem? mem_range mem_singleton nil_append nodup_cons not_mem_nil of_mem_zip pairwise_append pairwise_cons range_succ replicate reverse_cons size_toArray sum_cons take_add_one take_length)
open Option (getD_none isSome_map)
open PySem.Heap (get?_push_at get?_push_of_some get?_push_size get?_update_of_ne get?_update_other get?_update_self lt_size size_after_update size_push)
namespace L2
abbrev Key:=Sum Int Str
def keyIs:Key→Value→Bool
 | .inl k,v=>Value.isInt k v
 | .inr x,v=>Value.isStrOf x v
def keyH (w:World):Key→Int
 | .inl k=>hashInt k
 | .inr x=>hashStr w x
theorem keyIs_shape:∀{k:Key} {v:Value},keyIs k v=true→(∃i t,k=Sum.inl i∧v=Value.int i t)∨(∃x t,k=Sum.inr x∧v=Value.str x t)
 | .inl i,v,h=>by
   obtain⟨t,e⟩:=Value.isInt_shape (k:=i) (v:=v) h
   exact .inl ⟨i,t,rfl,e⟩
 | .inr x,v,h=>by
   obtain⟨t,e⟩:=Value.isStrOf_shape (x:=x) (v:=v) h
   exact .inr ⟨x,t,rfl,e⟩
theorem keyIs_int (i:Int)(t:Tok):keyIs (.inl i) (.int i t)=true:=by simp[keyIs,Value.isInt]
theorem keyIs_str (x:Str)(t:Tok):keyIs (.inr x) (.str x t)=true:=by simp[keyIs,Value.isStrOf]
theorem key_ll (a b:Int):decide ((Sum.inl a:Key)=Sum.inl b)=(a==b):=by
 by_cases e:a=b
 ·subst e;simp
 ·have h:¬(Sum.inl a:Key)=Sum.inl b:=fun q=>e (Sum.inl.inj q)
  rw[decide_eq_false h]
  exact(beq_eq_false_iff_ne.mpr e).symm
theorem key_rr (a b:Str):decide ((Sum.inr a:Key)=Sum.inr b)=decide (a=b):=by
 by_cases e:a=b
 ·subst e;simp
 ·have h:¬(Sum.inr a:Key)=Sum.inr b:=fun q=>e (Sum.inr.inj q)
  rw[decide_eq_false h,decide_eq_false e]
theorem key_lr (a:Int)(b:Str):decide ((Sum.inl a:Key)=Sum.inr b)=false:=decide_eq_false (fun q=>nomatch q)
theorem key_rl (a:Str)(b:Int):decide ((Sum.inr a:Key)=Sum.inl b)=false:=decide_eq_false (fun q=>nomatch q)
def mixKind (prog:Program)(w:World):PySem.KeyKind prog w Key where
 is:=keyIs
 hash:=keyH w
 inj:=fun v a b ha hb=>by
  rcases keyIs_shape ha with⟨i,t,rfl,rfl⟩ | ⟨x,t,rfl,rfl⟩
  ·rcases keyIs_shape hb with⟨j,u,rfl,e⟩ | ⟨y,u,rfl,e⟩
   ·injection e with e1 _;rw[e1]
   ·exact nomatch e
  ·rcases keyIs_shape hb with⟨j,u,rfl,e⟩ | ⟨y,u,rfl,e⟩
   ·exact nomatch e
   ·injection e with e1 _;rw[e1]
 byValue:=fun k v h=>by
   rcases keyIs_shape h with⟨i,t,rfl,rfl⟩ | ⟨x,t,rfl,rfl⟩<;>rfl
 pyHash:=fun hv h=>by
  rcases keyIs_shape hv with⟨i,t,rfl,rfl⟩ | ⟨x,t,rfl,rfl⟩
  ·exact wpAny_pyHash_int h
  ·exact wpAny_pyHash_str h
 eqBool:=fun hu hv h=>by
  rcases keyIs_shape hu with⟨i,t,rfl,rfl⟩ | ⟨x,t,rfl,rfl⟩
  ·rcases keyIs_shape hv with⟨j,u,rfl,rfl⟩ | ⟨y,u,rfl,rfl⟩
   ·rw[key_ll]at h;exact wpAny_eqBool_int h
   ·rw[key_lr]at h;exact SeqAt.EqAt.int_str i t y u _ _ _ _ h
  ·rcases keyIs_shape hv with⟨j,u,rfl,rfl⟩ | ⟨y,u,rfl,rfl⟩
   ·rw[key_rl]at h;exact SeqAt.EqAt.str_int x t j u _ _ _ _ h
   ·rw[key_rr]at h;exact wpAny_eqBool_str h
 «strs»:=fun k x t v h=>by
  rcases keyIs_shape h with⟨i,u,rfl,e⟩ | ⟨y,u,rfl,e⟩
  ·exact nomatch e
  ·injection e with e1 _
   subst e1
   cases v<;>rfl
theorem mixKind_int (prog:Program)(w:World)(i:Int)(t:Tok):(mixKind prog w).is (.inl i) (.int i t)=true:=keyIs_int i t
theorem mixKind_str (prog:Program)(w:World)(x:Str)(t:Tok):(mixKind prog w).is (.inr x) (.str x t)=true:=keyIs_str x t
inductive V where
 |non | bl (b:Bool) | int (i:Int) | str (x:Str) | byt (b:Array UInt8) | flt (b:UInt64) | ref (a:Addr) | ty (n:String)
 deriving DecidableEq
def RelV:V→Value→Prop
 | .non,u=>u=Value.none
 | .bl b,u=>u=Value.bool b
 | .int i,u=>∃t,u=Value.int i t
 | .str x,u=>∃t,u=Value.str x t
 | .byt b,u=>∃t,u=Value.bytes b t
 | .flt b,u=>∃t,u=Value.float b t
 | .ref a,u=>u=Value.ref a
 | .ty n,u=>u=Value.type n
abbrev Vals:List V→List Value→Prop:=Paired RelV
theorem Vals.length {xs:List V}{us:List Value}(r:Vals xs us):xs.length=us.length:=Paired.length r
theorem Vals.get:∀{xs:List V} {us:List Value} {i:Nat} {x:V},Vals xs us→xs[i]?=some x→∃u,us[i]?=some u∧RelV x u
 |_,_,_,_,.nil,e=>by simp at e
 |_,_,0,_,.cons r _,e=>by simp at e;subst e;exact⟨_,rfl,r⟩
 |_,_,i+1,x,.cons _ t,e=>by
  obtain⟨u,h1,h2⟩:=Vals.get (i:=i) (x:=x) t (by simpa using e)
  exact⟨u,by simpa using h1,h2⟩
theorem Vals.set {x:V}{u:Value}(r:RelV x u):∀{xs:List V} {us:List Value} (i:Nat),Vals xs us→Vals (xs.set i x) (us.set i u)
 |_,_,_,.nil=>.nil
 |_,_,0,.cons _ t=>.cons r t
 |_,_,i+1,.cons q t=>.cons q (Vals.set r i t)
theorem Vals.append:∀{xs ys:List V} {us ws:List Value},Vals xs us→Vals ys ws→Vals (xs++ys) (us++ws)
 |_,_,_,_,.nil,s=>s
 |_,_,_,_,.cons r t,s=>.cons r (Vals.append t s)
theorem Vals.take:∀{xs:List V} {us:List Value} (n:Nat),Vals xs us→Vals (xs.take n) (us.take n)
 |_,_,0,_=>.nil
 |_,_,_+1,.nil=>.nil
 |_,_,n+1,.cons r t=>.cons r (Vals.take n t)
theorem Vals.drop:∀{xs:List V} {us:List Value} (n:Nat),Vals xs us→Vals (xs.drop n) (us.drop n)
 |_,_,0,r=>r
 |_,_,_+1,.nil=>.nil
 |_,_,n+1,.cons _ t=>Vals.drop n t
theorem Vals.none_of:∀{xs:List V} {us:List Value} {i:Nat},Vals xs us→xs[i]?=none→us[i]?=none:=fun{xs us i} r e=>by
 have h1:=r.length
 have h2:xs.length≤i:=List.getElem?_eq_none_iff.mp e
 exact List.getElem?_eq_none_iff.mpr (by omega)
def RelO:Option V→Option Value→Prop
 |some v,some u=>RelV v u
 |none,none=>True
 |_,_=>False
def KV {κ:Type}:List (κ×V)→List (κ×Value)→Prop:=Paired fun(p:κ×V) (q:κ×Value)=>p.1=q.1∧RelV p.2 q.2
def kV:Key→V
 | .inl i=>.int i
 | .inr x=>.str x
inductive HO where
 |lst (xs:List V)
 |tup (xs:List V)
 |dK (kvs:List (Key×V)) | dT (kvs:List (List Key×V))
 |set (S:Int→Bool) (n:Nat)
 |ins (C dx:Addr) (fs:List (Str×V))
 |own (x:Addr)
 |xd (fs:List (Str×V))
 |met (f x:Addr)
 |rng (lo hi:Int)
 |frz (o:Obj) (u:HO)
 |tbl (ps:Array Value)
 |ext (φ:Heap→Prop)
abbrev Hp:=Addr→Option HO
def upd (H:Hp)(a:Addr)(o:HO):Hp:=fun b=>if b=a then some o else H b
theorem upd_same {H:Hp}{a:Addr}{o:HO}:upd H a o a=some o:=by unfold upd;rw[if_pos rfl]
theorem upd_ne {H:Hp}{a b:Addr}{o:HO}(h:b≠a):upd H a o b=H b:=by unfold upd;rw[if_neg h]
theorem ne_of {H:Hp}{a b:Addr}{o u:HO}(h:H a=some o)(h':H b=some u)(d:o≠u):a≠b:=by
 intro e;subst e;rw[h]at h';exact d (Option.some.inj h')
theorem ne_of_none {H:Hp}{a b:Addr}{o:HO}(h:H a=some o)(h':H b=none):a≠b:=by
 intro e;subst e;rw[h]at h';cases h'
section
variable (P:Program)(w:World)
def ObjOk (H:Hp)(h:Heap)(a:Addr):HO→Prop
 | .lst xs=>xs.length≤sizeLine∧∃(its:List Value) (n:Nat),Vals xs its∧h.get? a=some {cls:=.type "list",data:=.seq its.toArray n}
 | .tup xs=>xs.length≤sizeLine∧∃its:List Value,Vals xs its∧IsTup h a its.toArray
 | .dK kvs=>kvs.length≤sizeLine∧(a==sysModules)=false∧∃vs,KV kvs vs∧h.DictOf (mixKind P w) a vs
 | .dT kvs=>kvs.length≤sizeLine∧(a==sysModules)=false∧∃xs:List (List Key×Addr×Value),
  Paired (fun(p:List Key×V) (q:List Key×Addr×Value)=>p.1=q.1∧H q.2.1=some (.tup (p.1.map kV))∧RelV p.2 q.2.2) kvs xs∧
  ∃o es ep,h.get? a=some o∧o.ExactDict∧o.data=.dict es ep∧es.toList=xs.map (entryOfKey (tupleKind (mixKind P w)))∧(xs.map (·.1)).Nodup
 | .set S n=>h.SetOf (intKind P w) a S n
 | .ins C dx fs=>H dx=some (.own a)∧fs.length≤1000∧dx≠a∧h.get? a=some (PySem.W.instObj C dx)∧
  ∃mA,h.Ns1 dx mA∧(∀f,RelO (fs.lookup f) (mA f))∧PySem.Within mA (fs.map (·.1))
 | .own _=>∃o,h.get? a=some o
 | .xd fs=>∃mA,h.Ns1 a mA∧∀f,RelO (fs.lookup f) (mA f)
 | .rng lo hi=>∃t u v,h.get? a=some {cls:=.type "range",data:=.fields #[.int lo t,.int hi u,.int 1 v]}
 | .frz o u=>h.get? a=some o∧ObjOk H h a u
 | .tbl ps=>h.get? a=some {cls:=.none,data:=.fields ps}
 | .met f x=>h.get? a=some (PySem.W.methodObj (.ref f) (.ref x))
 | .ext φ=>φ h∧(∃o,h.get? a=some o)∧∀h1 h2:Heap,φ h1→(∀o,h1.get? a=some o→h2.get? a=some o)→φ h2
def HOk (H:Hp)(h:Heap):Prop:=∀a o,H a=some o→ObjOk P w H h a o
end
section
variable {P:Program}{w:World}{H H':Hp}{h h':Heap}{a:Addr}{o:HO}
theorem ObjOk.lt (x:ObjOk P w H h a o):a<h.objs.size:=by
 cases o with
 |lst xs=>obtain⟨_,_,_,_,e⟩:=x;exact lt_size e
 |tup xs=>obtain⟨_,_,_,p⟩:=x;exact p.lt
 |dK kvs=>obtain⟨_,_,_,_,o,_,_,e,_⟩:=x;exact lt_size e
 |dT kvs=>obtain⟨_,_,_,_,o,_,_,e,_⟩:=x;exact lt_size e
 |set S n=>obtain⟨o,_,_,_,e,_⟩:=x;exact lt_size e
 |ins C dx fs=>obtain⟨_,_,_,e,_⟩:=x;exact lt_size e
 |own y=>obtain⟨_,e⟩:=x;exact lt_size e
 |xd fs=>obtain⟨_,⟨_,_,_,e,_⟩,_⟩:=x;exact lt_size e
 |rng lo hi=>obtain⟨_,_,_,e⟩:=x;exact lt_size e
 |frz ob u=>obtain⟨e,_⟩:=x;exact lt_size e
 |tbl ps=>exact lt_size (show h.get? a=some _ from x)
 |met f y=>exact lt_size (show h.get? a=some _ from x)
 |ext φ=>obtain⟨_,⟨_,e⟩,_⟩:=x;exact lt_size e
theorem Paired.mapP {α β:Type}{F G:α→β→Prop}:∀{l₁:List α} {l₂:List β},Paired F l₁ l₂→(∀a b,F a b→G a b)→Paired G l₁ l₂
 |_,_,.nil,_=>.nil
 |_,_,.cons r t,f=>.cons (f _ _ r) (Paired.mapP t f)
theorem Paired.imp' {α β:Type}{F G:α→β→Prop}(f:∀a b,F a b→G a b){l₁:List α}{l₂:List β}(r:Paired F l₁ l₂):Paired G l₁ l₂:=Paired.mapP r f
theorem ObjOk.stay (x:ObjOk P w H h a o)(k:∀b u,(b=a∨H b=some (.own a))→h.get? b=some u→h'.get? b=some u)
 (ho:∀b,H b=some (.own a)→H' b=some (.own a)) (ht:∀b xs,H b=some (.tup xs)→H' b=some (.tup xs)):ObjOk P w H' h' a o:=by
 induction o with
 |lst xs=>obtain⟨z,its,n,r,e⟩:=x;exact⟨z,its,n,r,k _ _ (.inl rfl) e⟩
 |tup xs=>obtain⟨z,its,r,ob,e,c⟩:=x;exact⟨z,its,r,ob,k _ _ (.inl rfl) e,c⟩
 |dK kvs=>obtain⟨z,y,vs,r,ob,es,ep,e,c⟩:=x;exact⟨z,y,vs,r,ob,es,ep,k _ _ (.inl rfl) e,c⟩
 |dT kvs=>
  obtain⟨z,y,xs,r,ob,es,ep,e,c⟩:=x
  exact⟨z,y,xs,Paired.mapP r fun p q z=>⟨z.1,ht _ _ z.2.1,z.2.2⟩,ob,es,ep,k _ _ (.inl rfl) e,c⟩
 |set S n=>obtain⟨ob,es,ep,t,e,c⟩:=x;exact⟨ob,es,ep,t,k _ _ (.inl rfl) e,c⟩
 |ins C dx fs=>
  obtain⟨d,z,ne,e,mA,⟨od,es,ep,e2,c⟩,r⟩:=x
  exact⟨ho _ d,z,ne,k _ _ (.inl rfl) e,mA,⟨od,es,ep,k _ _ (.inr d) e2,c⟩,r⟩
 |own y=>obtain⟨ob,e⟩:=x;exact⟨ob,k _ _ (.inl rfl) e⟩
 |xd fs=>obtain⟨mA,⟨od,es,ep,e,c⟩,r⟩:=x;exact⟨mA,⟨od,es,ep,k _ _ (.inl rfl) e,c⟩,r⟩
 |rng lo hi=>obtain⟨t,u,v,e⟩:=x;exact⟨t,u,v,k _ _ (.inl rfl) e⟩
 |frz ob u ih=>obtain⟨e,q⟩:=x;exact⟨k _ _ (.inl rfl) e,ih q⟩
 |tbl ps=>
  have e:h.get? a=some {cls:=.none,data:=.fields ps}:=x
  show h'.get? a=some {cls:=.none,data:=.fields ps}
  exact k a _ (.inl rfl) e
 |met f y=>
  have e:h.get? a=some (PySem.W.methodObj (.ref f) (.ref y)):=x
  show h'.get? a=some (PySem.W.methodObj (.ref f) (.ref y))
  exact k a _ (.inl rfl) e
 |ext φ=>obtain⟨p,⟨o,e⟩,st⟩:=x;exact⟨st _ _ p fun o q=>k _ _ (.inl rfl) q,⟨o,k _ _ (.inl rfl) e⟩,st⟩
theorem HOk.lt (x:HOk P w H h)(e:H a=some o):a<h.objs.size:=(x a o e).lt
theorem HOk.fresh (x:HOk P w H h)(e:h.objs.size≤a):H a=none:=by
 cases q:H a with
 |none=>rfl
 |some u=>exact absurd (Nat.lt_of_lt_of_le (x.lt q) e) (Nat.lt_irrefl _)
theorem HOk.kept (x:HOk P w H h)(k:∀b u,h.get? b=some u→h'.get? b=some u):HOk P w H h':=fun a o e=>
 (x a o e).stay (fun b u _ q=>k b u q) (fun _ q=>q) fun _ _ q=>q
theorem HOk.laid (x:HOk P w H h)(k:∀b u,h.get? b=some u→h'.get? b=some u)(hp:h.objs.size≤a)(new:ObjOk P w (upd H a o) h' a o):HOk P w (upd H a o) h':=fun b u e=>by
 have hn:=x.fresh hp
 by_cases hb:b=a
 ·subst hb;rw[upd_same]at e;cases e;exact new
 ·rw[upd_ne hb]at e
  exact(x b u e).stay (fun c v _ q=>k c v q) (fun c q=>by rw[upd_ne (ne_of_none q hn)];exact q) fun c xs q=>by rw[upd_ne (ne_of_none q hn)];exact q
end
def Rd (H:Hp)(a:Addr)(u:HO):Prop:=H a=some u∨∃o,H a=some (.frz o u)
theorem Rd.ok {P:Program}{w:World}{H:Hp}{h:Heap}{a:Addr}{u:HO}(r:Rd H a u)(x:HOk P w H h):ObjOk P w H h a u:=by
 rcases r with r | ⟨o,r⟩
 ·exact x a u r
 ·obtain⟨_,q⟩:=x a _ r
  exact q
def Mut:Option HO→Prop
 |some (.lst _)=>True
 |some (.dK _)=>True
 |some (.dT _)=>True
 |some (.set _ _)=>True
 |some (.ins _ _ _)=>True
 |some (.ext _)=>True
 |_=>False
section
variable {P:Program}{w:World}{H:Hp}{h h':Heap}{x e:Addr}{o':HO}
theorem HOk.write (ok:HOk P w H h)(mu:Mut (H x))(he:e=x∨H e=some (.own x))(k:∀b u,b≠e→h.get? b=some u→h'.get? b=some u)(heo:∃u,h'.get? e=some u)
 (new:ObjOk P w (upd H x o') h' x o'):HOk P w (upd H x o') h':=fun b u q=>by
 have nown:∀c y,H c=some (.own y)→c≠x:=fun c y r z=>by subst z;rw[r]at mu;exact mu
 have ntup:∀c xs,H c=some (.tup xs)→c≠x:=fun c xs r z=>by subst z;rw[r]at mu;exact mu
 by_cases hb:b=x
 ·subst hb;rw[upd_same]at q;cases q;exact new
 ·rw[upd_ne hb]at q
  by_cases hbe:b=e
  ·have q':H b=some (.own x):=by
    rcases he with z | z
    ·exact absurd (hbe.trans z) hb
    ·rw[hbe];exact z
   rw[q]at q';cases q'
   obtain⟨v,hv⟩:=heo
   exact⟨v,by rw[hbe];exact hv⟩
  ·refine(ok b u q).stay (fun c v hc r=>k c v ?_ r) (fun c r=>by rw[upd_ne (nown c b r)];exact r) fun c xs r=>by rw[upd_ne (ntup c xs r)];exact r
   rcases hc with rfl | hc
   ·exact hbe
   ·rintro rfl
    rcases he with z | z
    ·exact nown c b hc z
    ·rw[hc]at z;cases z;exact hb rfl
end
structure Un (fs ex:List Addr)(H H':Hp)(h h':Heap):Prop where
 keep:∀b o,h.get? b=some o→H b=none→b∉fs→b∉ex→h'.get? b=some o
 slot:∀b o,h.get? b=some o→H b=none→b∈fs→b∉ex→∃sl,h'.get? b=some {o with slots:=sl}
 free:∀b o,h.get? b=some o→H b=none→b∉ex→H' b=none
 there:∀b o,h.get? b=some o→b∉ex→∃o',h'.get? b=some o'
 tups:∀b xs,H b=some (.tup xs)→H' b=some (.tup xs)
 frzs:∀b o u,H b=some (.frz o u)→H' b=some (.frz o u)
 tbls:∀b ps,H b=some (.tbl ps)→∃more,H' b=some (.tbl (ps++more))
section
variable {fs fs' ex ex':List Addr}{H H1 H2:Hp}{h h1 h2 h':Heap}{a x e:Addr}{o:HO}
theorem Un.any (u:Un fs ex H H1 h h1){b:Addr}{ob:Obj}(q:h.get? b=some ob)(n:H b=none)(hx:b∉ex):∃sl,h1.get? b=some {ob with slots:=sl}:=by
 by_cases hb:b∈fs
 ·exact u.slot b ob q n hb hx
 ·exact⟨ob.slots,u.keep b ob q n hb hx⟩
theorem Un.kept (k:∀b u,h.get? b=some u→h'.get? b=some u):Un fs ex H H h h':=
 ⟨fun b ob q _ _ _=>k b ob q,fun b ob q _ _ _=>⟨ob.slots,k b ob q⟩,fun _ _ _ n _=>n,fun b ob q _=>⟨ob,k b ob q⟩,fun _ _ q=>q,fun _ _ _ q=>q,fun _ ps q=>⟨#[],by rw[q];simp⟩⟩
theorem Un.refl:Un fs ex H H h h:=Un.kept fun _ _ q=>q
theorem Un.laid (k:∀b u,h.get? b=some u→h'.get? b=some u)(hp:h.objs.size≤a)(hn:H a=none):Un fs ex H (upd H a o) h h' where
 keep:=fun b u q _ _ _=>k b u q
 slot:=fun b u q _ _ _=>⟨u.slots,k b u q⟩
 free:=fun b u q n _=>by rw[upd_ne (Nat.ne_of_lt (Nat.lt_of_lt_of_le (lt_size q) hp))];exact n
 there:=fun b u q _=>⟨u,k b u q⟩
 tups:=fun b xs q=>by rw[upd_ne (ne_of_none q hn)];exact q
 frzs:=fun b u xs q=>by rw[upd_ne (ne_of_none q hn)];exact q
 tbls:=fun b ps q=>⟨#[],by rw[upd_ne (ne_of_none q hn),q];simp⟩
theorem Un.write (mu:Mut (H x))(he:e=x∨H e=some (.own x))(k:∀b u,b≠e→h.get? b=some u→h'.get? b=some u)(heo:∃u,h'.get? e=some u):Un fs ex H (upd H x o) h h':=by
 have hx:∀b,H b=none→b≠x:=fun b n z=>by subst z;rw[n]at mu;exact mu
 have hb:∀b,H b=none→b≠e:=fun b n z=>by
  subst z
  rcases he with r | r
  ·exact hx b n r
  ·rw[n]at r;cases r
 have hm:∀b u,H b=some u→¬Mut (some u)→b≠x:=fun b u q nm z=>by subst z;rw[q]at mu;exact nm mu
 refine⟨fun b u q n _ _=>k b u (hb b n) q,fun b u q n _ _=>⟨u.slots,k b u (hb b n) q⟩,fun b u q n _=>by rw[upd_ne (hx b n)];exact n,fun b u q _=>?_,
  fun b xs q=>by rw[upd_ne (hm b _ q fun z=>z)];exact q,fun b u xs q=>by rw[upd_ne (hm b _ q fun z=>z)];exact q,fun b ps q=>⟨#[],by rw[upd_ne (hm b _ q fun z=>z),q];simp⟩⟩
 by_cases hbe:b=e
 ·subst hbe;exact heo
 ·exact⟨u,k b u hbe q⟩
end
def trk (h:Heap)(H:Hp):List Addr:=(List.range h.objs.size).filter fun a=>(H a).isSome
def allNews (g h:Heap)(L:Addr):List (Addr×Obj):=(List.range h.objs.size).filterMap fun a=>if a=L∨(g.get? a).isSome=true then none else(h.get? a).map fun o=>(a,o)
def rest (g h:Heap)(L d:Addr):List (Addr×Obj):=(allNews g h L).filter fun p=>decide (p.1≠d)
structure Mod (K:W.Frag)(mg:Str→Option Value)(base:Heap):Prop where
 kin:K.In base
 glob:base.Ns mainGlobals mg
 blt:∃mb,base.Ns builtinsNs mb∧∀x:Str,x≠"__name__"→mb x=bootBuiltins x
 nolimit:base.NoLimit
structure Cx where
 prog:Program
 w:World
 K:W.Frag
 mg:Str→Option Value
 base:Heap
 A:Around
 N:List Str
 s₀:Shared
 H₀:Hp
 env:Env
 outer:List Env
 stack:List Env
 ex:List Addr
 fn:Str→Bool
 calm:Bool
 pn:List (Addr×Obj)
 xe:Value→Shared→Prop
def frs (l:List Env):List Addr:=l.filterMap (·.frame)
abbrev Cx.fs (X:Cx):List Addr:=frs X.outer
def Vis (sc:Scope)(x:Str):Prop:=sc.names.lookup x=some .local∨sc.names.lookup x=some .cell∨sc.names.lookup x=some .free
def Loc (sc:Scope)(x:Str):Prop:=sc.names.lookup x=some .local∨sc.names.lookup x=some .cell
def Look (env:Env)(h:Heap)(m:Str→Option Value)(x:Str)(u:Value):Prop:=
 (env.kindOf x=some .local∧m x=some u)∨((env.kindOf x=some .cell∨env.kindOf x=some .free)∧∃c,env.cells.lookup x=some c∧h.IsCell c (some u))
structure Cx.Ok (X:Cx):Prop where
 mod:Mod X.K X.mg X.base
 kind:X.env.scope.kind=.function
 glob:X.env.globals=mainGlobals
 blt:X.env.builtins=builtinsNs
 above:X.s₀.heap.objs.size≤X.env.locals
 inj:∀x y c,X.env.cells.lookup x=some c→X.env.cells.lookup y=some c→x=y
 has:∀x,(X.env.kindOf x=some .cell∨X.env.kindOf x=some .free)→∃c,X.env.cells.lookup x=some c
 cab:∀x c,X.fn x=true→X.env.cells.lookup x=some c→X.s₀.heap.objs.size≤c
 hd:X.calm=true→X.A.handled=none
 frames:X.A.frames=some X.stack
 stk:X.stack=X.outer∨(X.stack=X.env::X.outer∧X.env.frame=some X.env.locals)
 exf:∀b∈X.ex,b≠X.env.locals∧∀x c,X.env.cells.lookup x=some c→c≠b
 bs:∀b o,X.base.get? b=some o→X.s₀.heap.get? b=some o∧X.H₀ b=none
 bsz:X.base.objs.size≤X.s₀.heap.objs.size
 noex:∀b o,X.base.get? b=some o→b∉X.ex
 exfs:∀b∈X.ex,b∉X.fs
 funs:X.s₀.heap.FunFrames X.base X.outer
 frf:∀b∈X.fs,X.H₀ b=none
structure Inv (X:Cx)(pins:List (Addr×Obj))(σ:List (Option V))(H:Hp)(s:Shared):Prop where
 ok:X.Ok
 os:s.os=X.s₀.os
 bare:AllBare s.gens
 base:Un X.fs X.ex X.H₀ H X.s₀.heap s.heap
 loc:∃m,s.heap.Ns X.env.locals m∧∀(i:Nat) (x:Str) (v:V),X.N[i]?=some x→σ[i]?=some (some v)→Vis X.env.scope x→∃u,RelV v u∧Look X.env s.heap m x u
 cell:∀x c,X.env.cells.lookup x=some c→∃v,s.heap.IsCell c v
 free:H X.env.locals=none
 freeC:∀x c,X.env.cells.lookup x=some c→H c=none
 pin:∀p∈X.pn++pins,s.heap.get? p.1=some p.2∧H p.1=none∧p.1≠X.env.locals∧p.1∉X.fs∧∀v,p.2.data≠.cell v
 hok:HOk X.prog X.w H s.heap
 len:σ.length=X.N.length
section
variable {X:Cx}{pins:List (Addr×Obj)}{σ:List (Option V)}{H H':Hp}{s:Shared}{h':Heap}
theorem Cx.Ok.nofr (ok:X.Ok){b:Addr}{o:Obj}(e:X.base.get? b=some o):b∉X.fs:=fun hb=>by
 have:=(ok.funs.mem hb).1
 rw[e]at this;cases this
theorem Inv.bs (I:Inv X pins σ H s):∀b o,X.base.get? b=some o→s.heap.get? b=some o∧H b=none:=fun b o e=>
 ⟨I.base.keep b o (I.ok.bs b o e).1 (I.ok.bs b o e).2 (I.ok.nofr e) (I.ok.noex b o e),I.base.free b o (I.ok.bs b o e).1 (I.ok.bs b o e).2 (I.ok.noex b o e)⟩
theorem Inv.bk (I:Inv X pins σ H s):∀b o,X.base.get? b=some o→s.heap.get? b=some o:=fun b o e=>(I.bs b o e).1
theorem Inv.mod (I:Inv X pins σ H s):Mod X.K X.mg X.base:=I.ok.mod
theorem Inv.kIn (I:Inv X pins σ H s):X.K.In s.heap:=I.ok.mod.kin.keeps I.bk
theorem Inv.lt (I:Inv X pins σ H s):X.env.locals<s.heap.objs.size:=let⟨_,hn,_⟩:=I.loc;hn.lt
theorem Inv.sz (I:Inv X pins σ H s):X.s₀.heap.objs.size≤s.heap.objs.size:=Nat.le_trans I.ok.above (Nat.le_of_lt I.lt)
theorem Inv.nofs (I:Inv X pins σ H s){a:Addr}(h:s.heap.objs.size≤a):a∉X.fs:=fun hb=>by
 obtain⟨_,o,ho,_⟩:=I.ok.funs.mem hb
 exact absurd (Nat.lt_of_lt_of_le (lt_size ho) (Nat.le_trans I.sz h)) (Nat.lt_irrefl _)
theorem Inv.cne (I:Inv X pins σ H s):∀x c,X.env.cells.lookup x=some c→c≠X.env.locals:=fun x c e z=>by
 obtain⟨v,o,ho,hd⟩:=I.cell x c e
 obtain⟨m,⟨o',es,ep,ho',hd',_⟩,_⟩:=I.loc
 rw[z,ho']at ho;cases ho;rw[hd']at hd;cases hd
theorem Inv.funs (I:Inv X pins σ H s):s.heap.FunFrames X.base X.outer:=by
 have all:∀(l:List Env),(∀b∈frs l,b∈X.fs)→X.s₀.heap.FunFrames X.base l→s.heap.FunFrames X.base l:=by
  intro l
  induction l with
  |nil=>intro _ _;trivial
  |cons env r ih=>
   intro hs hl
   obtain⟨hk,⟨L,o,hf,hn,ho,hd⟩,hr⟩:=hl
   have hL:L∈X.fs:=hs L (by unfold frs;rw[filterMap_cons,hf];exact mem_cons_self)
   obtain⟨sl,e⟩:=I.base.slot L o ho (I.ok.frf L hL) hL fun z=>I.ok.exfs L z hL
   exact⟨hk,⟨L,_,hf,hn,e,hd⟩,ih (fun b hb=>hs b (by unfold frs;rw[filterMap_cons,hf];exact mem_cons_of_mem _ hb)) hr⟩
 exact all X.outer (fun _ hb=>hb) I.ok.funs
theorem Inv.stack (I:Inv X pins σ H s):s.heap.FunFrames X.base X.stack:=by
 rcases I.ok.stk with e | ⟨e,hf⟩
 ·rw[e];exact I.funs
 ·rw[e]
  obtain⟨m,hn,_⟩:=I.loc
  refine .cons (by rw[I.ok.kind];decide) hf hn ?_ I.funs
  exact Heap.get?_none_of_le (Nat.le_trans I.ok.bsz I.ok.above)
theorem Inv.stkSub (I:Inv X pins σ H s):∀b∈frs X.stack,b∈X.env.locals::X.fs:=fun b hb=>by
 rcases I.ok.stk with e | ⟨e,hf⟩
 ·rw[e]at hb;exact mem_cons_of_mem _ hb
 ·rw[e]at hb
  unfold frs at hb
  rw[filterMap_cons,hf]at hb
  exact hb
theorem Inv.stkFree (I:Inv X pins σ H s):∀b∈frs X.stack,H b=none:=fun b hb=>by
 rcases mem_cons.mp (I.stkSub b hb) with e | hb
 ·rw[e];exact I.free
 ·obtain⟨_,o,ho,_⟩:=I.ok.funs.mem hb
  exact I.base.free b o ho (I.ok.frf b hb) fun z=>I.ok.exfs b z hb
theorem Inv.step {g':Array GenState}{t':Nat}{d':Drawn}{ch:List Addr}(I:Inv X pins σ H s)
 (hch:∀b∈ch,(b∈X.ex∨X.s₀.heap.objs.size≤b)∧b≠X.env.locals∧(∀x c,X.env.cells.lookup x=some c→c≠b)∧∀p∈X.pn++pins,p.1≠b)
 (keep:∀b o,b≠X.env.locals→b∉X.fs→b∉ch→s.heap.get? b=some o→H b=none→h'.get? b=some o)
 (slot:∀b o,b≠X.env.locals→b∈X.fs→b∉ch→s.heap.get? b=some o→H b=none→∃sl,h'.get? b=some {o with slots:=sl}) (free:∀b o,b∉ch→s.heap.get? b=some o→H b=none→H' b=none)
 (there:∀b o,b∉ch→s.heap.get? b=some o→∃o',h'.get? b=some o')
 (tups:∀b xs,H b=some (.tup xs)→H' b=some (.tup xs)) (frzs:∀b o u,H b=some (.frz o u)→H' b=some (.frz o u)) (tbls:∀b ps,H b=some (.tbl ps)→∃more,H' b=some (.tbl (ps++more)))
 (ns:∀m,s.heap.Ns X.env.locals m→h'.Ns X.env.locals m) (hok:HOk X.prog X.w H' h') (hg:AllBare g') :
 Inv X pins σ H' {s with heap:=h',gens:=g',drawn:=d',toks:=t'}:=by
 have neL:∀b o,X.s₀.heap.get? b=some o→b≠X.env.locals:=fun b o e=>Nat.ne_of_lt (Nat.lt_of_lt_of_le (lt_size e) I.ok.above)
 have neC:∀b o,X.s₀.heap.get? b=some o→b∉X.ex→b∉ch:=fun b o e hx hb=>by
  rcases(hch b hb).1 with z | z
  ·exact hx z
  ·exact absurd (Nat.lt_of_lt_of_le (lt_size e) z) (Nat.lt_irrefl _)
 have cellK:∀x c,X.env.cells.lookup x=some c→∀v,s.heap.IsCell c v→h'.IsCell c v:=fun x c e v ⟨o,ho,hd⟩=>by
  have nch:c∉ch:=fun z=>(hch c z).2.2.1 x c e rfl
  by_cases hc:c∈X.fs
  ·obtain⟨sl,q⟩:=slot c o (I.cne x c e) hc nch ho (I.freeC x c e)
   exact⟨_,q,hd⟩
  ·exact⟨o,keep c o (I.cne x c e) hc nch ho (I.freeC x c e),hd⟩
 refine⟨I.ok,I.os,hg,⟨fun b o e n hb hx=>?_,fun b o e n hb hx=>?_,fun b o e n hx=>?_,fun b o e hx=>?_,fun b xs e=>tups b xs (I.base.tups b xs e),fun b o xs e=>frzs b o xs (I.base.frzs b o xs e),fun b ps e=>?_⟩,?_,fun x c e=>?_,?_,fun x c e=>?_,fun p hp=>?_,hok,I.len⟩
 ·exact keep b o (neL b o e) hb (neC b o e hx) (I.base.keep b o e n hb hx) (I.base.free b o e n hx)
 ·obtain⟨sl,e1⟩:=I.base.slot b o e n hb hx
  obtain⟨sl',e2⟩:=slot b _ (neL b o e) hb (neC b o e hx) e1 (I.base.free b o e n hx)
  exact⟨sl',e2⟩
 ·obtain⟨o',e1⟩:=I.base.there b o e hx
  exact free b o' (neC b o e hx) e1 (I.base.free b o e n hx)
 ·obtain⟨o',e1⟩:=I.base.there b o e hx
  exact there b o' (neC b o e hx) e1
 ·obtain⟨m1,e1⟩:=I.base.tbls b ps e
  obtain⟨m2,e2⟩:=tbls b _ e1
  exact⟨m1++m2,by rw[e2,Array.append_assoc]⟩
 ·obtain⟨m,hn,hl⟩:=I.loc
  refine⟨m,ns m hn,fun i x v e1 e2 e3=>?_⟩
  obtain⟨u,r,l⟩:=hl i x v e1 e2 e3
  refine⟨u,r,?_⟩
  rcases l with l | ⟨k,c,e,z⟩
  ·exact .inl l
  ·exact .inr ⟨k,c,e,cellK x c e _ z⟩
 ·obtain⟨v,z⟩:=I.cell x c e
  exact⟨v,cellK x c e v z⟩
 ·obtain⟨m,⟨o,_,_,ho,_⟩,_⟩:=I.loc
  exact free _ o (fun z=>(hch _ z).2.1 rfl) ho I.free
 ·obtain⟨v,o,ho,hd⟩:=I.cell x c e
  exact free c o (fun z=>(hch c z).2.2.1 x c e rfl) ho (I.freeC x c e)
 ·obtain⟨e,n,ne,nf,d⟩:=I.pin p hp
  have nch:p.1∉ch:=fun z=>(hch p.1 z).2.2.2 p hp rfl
  exact⟨keep p.1 p.2 ne nf nch e n,free p.1 p.2 nch e n,ne,nf,d⟩
theorem Inv.un {t':Nat}(I:Inv X pins σ H s)(u:Un X.fs [] H H' s.heap h')(hok:HOk X.prog X.w H' h'):Inv X pins σ H' {s with heap:=h',toks:=t'}:=by
 obtain⟨m,⟨o,es,ep,ho,r⟩,_⟩:=id I.loc
 obtain⟨sl,hL⟩:=u.any ho I.free (by simp)
 exact I.step (g':=s.gens) (d':=s.drawn) (ch:=[]) (fun _ z=>nomatch z) (fun b o _ hb _ e n=>u.keep b o e n hb (by simp)) (fun b o _ hb _ e n=>u.slot b o e n hb (by simp)) (fun b o _ e n=>u.free b o e n (by simp)) (fun b o _ e=>u.there b o e (by simp)) u.tups u.frzs u.tbls (fun m' hm=>by
  obtain⟨o',es',ep',ho',r'⟩:=hm
  rw[ho]at ho';cases ho'
  exact⟨_,es',ep',hL,r'⟩) hok I.bare
theorem Inv.call {g':Array GenState}{t':Nat}{d':Drawn}{ch:List Addr}(I:Inv X pins σ H s)(u:Un (frs X.stack) ch H H' s.heap h')(hok:HOk X.prog X.w H' h')(hg:AllBare g')
 (hch:∀b∈ch,(b∈X.ex∨X.s₀.heap.objs.size≤b)∧b≠X.env.locals∧(∀x c,X.env.cells.lookup x=some c→c≠b)∧∀p∈X.pn++pins,p.1≠b) :
 Inv X pins σ H' {s with heap:=h',gens:=g',drawn:=d',toks:=t'}:=by
 obtain⟨m,⟨o,es,ep,ho,r⟩,_⟩:=id I.loc
 obtain⟨sl,hL⟩:=u.any ho I.free fun z=>(hch _ z).2.1 rfl
 exact I.step (ch:=ch) hch (fun b o hL hb hc e n=>u.keep b o e n (fun z=>(mem_cons.mp (I.stkSub b z)).elim hL hb) hc) (fun b o _ _ hc e n=>u.any e n hc) (fun b o hc e n=>u.free b o e n hc) (fun b o hc e=>u.there b o e hc) u.tups u.frzs u.tbls (fun m' hm=>by
  obtain⟨o',es',ep',ho',r'⟩:=hm
  rw[ho]at ho';cases ho'
  exact⟨_,es',ep',hL,r'⟩) hok hg
theorem Inv.turned {t':Nat}{it:Addr}(I:Inv X pins σ H s)(k:∀b o,b≠it→s.heap.get? b=some o→h'.get? b=some o)(hn:H it=none)(hL:it≠X.env.locals)
 (h1:it∈X.ex∨X.s₀.heap.objs.size≤it) (h2:∀x c,X.env.cells.lookup x=some c→c≠it) (h3:∀p∈X.pn++pins,p.1≠it):Inv X pins σ H {s with heap:=h',toks:=t'}:=by
 have nit:∀b u,H b=some u→b≠it:=fun b u e z=>by rw[z,hn]at e;cases e
 refine I.step (g':=s.gens) (d':=s.drawn) (ch:=[it]) (fun b hb=>?_) (fun b o _ _ hc e _=>k b o (fun z=>hc (by simp[z])) e) (fun b o _ _ hc e _=>⟨o.slots,k b o (fun z=>hc (by simp[z])) e⟩) (fun _ _ _ _ n=>n)
  (fun b o hc e=>⟨o,k b o (fun z=>hc (by simp[z])) e⟩) (fun _ _ e=>e) (fun _ _ _ e=>e) (fun b ps e=>⟨#[],by rw[e];simp⟩) (fun m hm=>?_) (fun b u e=>?_) I.bare
 ·have e:b=it:=by simpa using hb
  subst e
  exact⟨h1,hL,h2,h3⟩
 ·obtain⟨o,es,ep,ho,r⟩:=hm
  exact⟨o,es,ep,k _ o (Ne.symm hL) ho,r⟩
 ·refine(I.hok b u e).stay (fun c v hc q=>k c v ?_ q) (fun _ q=>q) fun _ _ q=>q
  rcases hc with z | z
  ·rw[z];exact nit b u e
  ·exact nit c _ z
theorem Inv.tok (I:Inv X pins σ H s)(t:Nat):Inv X pins σ H {s with toks:=t}:=I.un (h':=s.heap) (t':=t) Un.refl I.hok
theorem Inv.kept {t':Nat}(I:Inv X pins σ H s)(k:∀b u,s.heap.get? b=some u→h'.get? b=some u):Inv X pins σ H {s with heap:=h',toks:=t'}:=I.un (Un.kept k) (I.hok.kept k)
theorem Inv.laid {a:Addr}{o:HO}{t':Nat}(I:Inv X pins σ H s)(k:∀b u,s.heap.get? b=some u→h'.get? b=some u)(hp:s.heap.objs.size≤a)(new:ObjOk X.prog X.w (upd H a o) h' a o) :
 Inv X pins σ (upd H a o) {s with heap:=h',toks:=t'}:=I.un (Un.laid k hp (I.hok.fresh hp)) (I.hok.laid k hp new)
theorem Inv.write {x e:Addr}{o:HO}{t':Nat}(I:Inv X pins σ H s)(mu:Mut (H x))(he:e=x∨H e=some (.own x))(k:∀b u,b≠e→s.heap.get? b=some u→h'.get? b=some u)(heo:∃u,h'.get? e=some u)
 (new:ObjOk X.prog X.w (upd H x o) h' x o):Inv X pins σ (upd H x o) {s with heap:=h',toks:=t'}:=I.un (Un.write mu he k heo) (I.hok.write mu he k heo new)
theorem Inv.pins_of {pins':List (Addr×Obj)}(I:Inv X pins σ H s)(h:∀p∈pins',s.heap.get? p.1=some p.2∧H p.1=none∧p.1≠X.env.locals∧p.1∉X.fs∧∀v,p.2.data≠.cell v):Inv X pins' σ H s:=
 ⟨I.ok,I.os,I.bare,I.base,I.loc,I.cell,I.free,I.freeC,fun p hp=>(mem_append.mp hp).elim (fun z=>I.pin p (mem_append_left _ z)) (h p),I.hok,I.len⟩
theorem nodup_ix {N:List Str}(hN:N.Nodup){i j:Nat}{x:Str}(a:N[i]?=some x)(b:N[j]?=some x):i=j:=by
 obtain⟨h1,e1⟩:=List.getElem?_eq_some_iff.mp a
 obtain⟨h2,e2⟩:=List.getElem?_eq_some_iff.mp b
 exact(List.getElem_inj hN).mp (e1.trans e2.symm)
theorem store_ok2 {M:Model}{A:Around}{E:Value→Shared→Prop}{i:Nat}{x:Str}{v:V}{u:Value}{Q:Unit→Shared→Prop}(I:Inv X pins σ H s)(hN:X.N.Nodup)(hi:X.N[i]?=some x)(hx:Loc X.env.scope x)(r:RelV v u)
 (h:∀s',Inv X pins (σ.set i (some v)) H s'→(∃a,Heap.SameBut a s.heap s'.heap∧(a=X.env.locals∨X.env.cells.lookup x=some a))→Q () s') (hf:X.fn x=true∨X.env.scope.names.lookup x=some .local:=by first | exact .inl rfl | exact .inr rfl | assumption):wpAny M A (storeName X.env x u) Q E s:=by
 obtain⟨m,hn,hl⟩:=id I.loc
 have hcls:(X.env.scope.kind==.class||(X.env.scope.kind==.module&&X.env.locals !=X.env.globals))=false:=by rw[I.ok.kind];rfl
 have hiσ:i<σ.length:=by rw[I.len];exact(List.getElem?_eq_some_iff.mp hi).1
 have cne:=I.cne
 have tracked:∀{a:Addr} {h':Heap},(∃o,s.heap.get? a=some o∧H a=none)→Heap.SameBut a s.heap h'→HOk X.prog X.w H h':=fun{a h'} ha hs b ob e=>by
  obtain⟨_,_,hfree⟩:=ha
  refine(I.hok b ob e).stay (fun c w' hc q=>(hs.2 c ?_).trans q) (fun _ q=>q) fun _ _ q=>q
  rintro rfl
  rcases hc with rfl | hc
  ·rw[hfree]at e;cases e
  ·rw[hfree]at hc;cases hc
 rcases hx with hk | hk
 ·refine wpAny_storeName_local hk hn (fun h' hn' hs=>?_) hcls
  obtain⟨oL,_,_,hoL,_⟩:=id hn
  refine h _ ⟨I.ok,I.os,I.bare,⟨fun b o e n hb hx=>?_,fun b o e n hb hx=>?_,I.base.free,fun b o e hx=>?_,I.base.tups,I.base.frzs,I.base.tbls⟩,⟨_,hn',fun j y v' e1 e2 e3=>?_⟩,fun y c e=>?_,I.free,I.freeC,fun p hp=>?_,tracked ⟨oL,hoL,I.free⟩ hs,by simpa using I.len⟩ ⟨_,hs,.inl rfl⟩
  ·exact(hs.2 b (Nat.ne_of_lt (Nat.lt_of_lt_of_le (lt_size e) I.ok.above))).trans (I.base.keep b o e n hb hx)
  ·obtain⟨sl,e1⟩:=I.base.slot b o e n hb hx
   exact⟨sl,(hs.2 b (Nat.ne_of_lt (Nat.lt_of_lt_of_le (lt_size e) I.ok.above))).trans e1⟩
  ·obtain⟨o',e1⟩:=I.base.there b o e hx
   exact⟨o',(hs.2 b (Nat.ne_of_lt (Nat.lt_of_lt_of_le (lt_size e) I.ok.above))).trans e1⟩
  ·by_cases hj:j=i
   ·subst hj
    rw[hi]at e1;cases e1
    rw[List.getElem?_set_self hiσ]at e2
    cases e2
    exact⟨u,r,.inl ⟨hk,by simp⟩⟩
   ·rw[List.getElem?_set_ne (Ne.symm hj)]at e2
    obtain⟨u',r',q⟩:=hl j y v' e1 e2 e3
    refine⟨u',r',?_⟩
    rcases q with⟨k,e⟩ | ⟨k,c,e,z⟩
    ·refine .inl ⟨k,?_⟩
     have:y≠x:=fun e=>hj (nodup_ix hN e1 (e▸hi))
     simp[this,e]
    ·exact .inr ⟨k,c,e,z.sameBut hs (cne y c e)⟩
  ·obtain⟨w',z⟩:=I.cell y c e
   exact⟨w',z.sameBut hs (cne y c e)⟩
  ·obtain⟨e,n,ne,nf,d⟩:=I.pin p hp
   exact⟨(hs.2 p.1 ne).trans e,n,ne,nf,d⟩
 ·have hfn:X.fn x=true:=by
   rcases hf with z | z
   ·exact z
   ·rw[z]at hk;cases hk
  obtain⟨c,hc⟩:=I.ok.has x (.inl hk)
  obtain⟨w',z⟩:=I.cell x c hc
  refine wpAny_storeName_cell I.ok.kind hk hc z (fun h' hc' hs=>?_)
  obtain⟨oc,hoc,hocd⟩:=id z
  refine h {s with heap:=h'} ⟨I.ok,I.os,I.bare,⟨fun b o e n hb hx=>?_,fun b o e n hb hx=>?_,I.base.free,fun b o e hx=>?_,I.base.tups,I.base.frzs,I.base.tbls⟩,⟨m,hn.sameBut hs (Ne.symm (cne x c hc)),fun j y v' e1 e2 e3=>?_⟩,fun y c' e=>?_,I.free,I.freeC,fun p hp=>?_,tracked ⟨oc,hoc,I.freeC x c hc⟩ hs,by simpa using I.len⟩ ⟨c,hs,.inr hc⟩
  ·exact(hs.2 b (Nat.ne_of_lt (Nat.lt_of_lt_of_le (lt_size e) (I.ok.cab x c hfn hc)))).trans (I.base.keep b o e n hb hx)
  ·obtain⟨sl,e1⟩:=I.base.slot b o e n hb hx
   exact⟨sl,(hs.2 b (Nat.ne_of_lt (Nat.lt_of_lt_of_le (lt_size e) (I.ok.cab x c hfn hc)))).trans e1⟩
  ·obtain⟨o',e1⟩:=I.base.there b o e hx
   exact⟨o',(hs.2 b (Nat.ne_of_lt (Nat.lt_of_lt_of_le (lt_size e) (I.ok.cab x c hfn hc)))).trans e1⟩
  ·by_cases hj:j=i
   ·subst hj
    rw[hi]at e1;cases e1
    rw[List.getElem?_set_self hiσ]at e2
    cases e2
    exact⟨u,r,.inr ⟨.inl hk,c,hc,hc'⟩⟩
   ·rw[List.getElem?_set_ne (Ne.symm hj)]at e2
    obtain⟨u',r',q⟩:=hl j y v' e1 e2 e3
    refine⟨u',r',?_⟩
    rcases q with q | ⟨k,c',e,z'⟩
    ·exact .inl q
    ·refine .inr ⟨k,c',e,z'.sameBut hs ?_⟩
     rintro rfl
     exact hj (nodup_ix hN e1 (I.ok.inj _ _ _ e hc▸hi))
  ·by_cases hcc:c'=c
   ·subst hcc;exact⟨_,hc'⟩
   ·obtain⟨w2,z2⟩:=I.cell y c' e
    exact⟨w2,z2.sameBut hs hcc⟩
  ·obtain⟨e,n,ne,nf,d⟩:=I.pin p hp
   refine⟨(hs.2 p.1 ?_).trans e,n,ne,nf,d⟩
   intro q
   rw[q,hoc]at e
   have q':oc=p.2:=Option.some.inj e
   exact d w' (by rw[←q'];exact hocd)
theorem store_ok {M:Model}{A:Around}{E:Value→Shared→Prop}{i:Nat}{x:Str}{v:V}{u:Value}{Q:Unit→Shared→Prop}(I:Inv X pins σ H s)(hN:X.N.Nodup)(hi:X.N[i]?=some x)(hx:Loc X.env.scope x)(r:RelV v u)
 (h:∀s',Inv X pins (σ.set i (some v)) H s'→Q () s') (hf:X.fn x=true∨X.env.scope.names.lookup x=some .local:=by first | exact .inl rfl | exact .inr rfl | assumption):wpAny M A (storeName X.env x u) Q E s:=
 store_ok2 I hN hi hx r (fun s' I' _=>h s' I') hf
theorem Inv.call' {s':Shared}{ch:List Addr}(I:Inv X pins σ H s)(ho:s'.os=s.os)(u:Un (frs X.stack) ch H H' s.heap s'.heap)(hok:HOk X.prog X.w H' s'.heap)(hg:AllBare s'.gens)
 (hch:∀b∈ch,(b∈X.ex∨X.s₀.heap.objs.size≤b)∧b≠X.env.locals∧(∀x c,X.env.cells.lookup x=some c→c≠b)∧∀p∈X.pn++pins,p.1≠b):Inv X pins σ H' s':=by
 obtain⟨h',g',d',t',o'⟩:=s'
 have e:o'=s.os:=ho
 subst e
 exact I.call (g':=g') (t':=t') (d':=d') u hok hg hch
end
abbrev XK:=Value→Option Addr→Hp→Prop
abbrev St:=List (Option V)
abbrev VK:=V→Hp→Prop
abbrev TE:=St→Hp→VK→Prop
abbrev TT:=St→Hp→(Bool→Hp→Prop)→Prop
abbrev TA:=St→Hp→(List V→Hp→Prop)→Prop
structure Ends where
 nx:St→Hp→Prop
 rt:VK
 bk:St→Hp→Prop:=fun _ _=>False
 ct:St→Hp→Prop:=fun _ _=>False
abbrev TS:=Ends→St→Hp→Prop
def EP (X:Cx)(pins:List (Addr×Obj))(σ:St)(Q:VK)(u:Value)(s':Shared):Prop:=∃v H',Inv X pins σ H' s'∧RelV v u∧Q v H'
def TP (X:Cx)(pins:List (Addr×Obj))(σ:St)(Q:Bool→Hp→Prop)(b:Bool)(s':Shared):Prop:=∃H',Inv X pins σ H' s'∧Q b H'
def AP (X:Cx)(pins:List (Addr×Obj))(σ:St)(Q:List V→Hp→Prop)(us:List Value)(s':Shared):Prop:=∃vs H',Inv X pins σ H' s'∧Vals vs us∧Q vs H'
def SP (X:Cx)(pins:List (Addr×Obj))(D:Ends)(f:Flow)(s':Shared):Prop:=
 match f with
 | .next=>∃σ' H',Inv X pins σ' H' s'∧D.nx σ' H'
 | .brk=>∃σ' H',Inv X pins σ' H' s'∧D.bk σ' H'
 | .cont=>∃σ' H',Inv X pins σ' H' s'∧D.ct σ' H'
 | .ret u=>∃v σ' H',Inv X pins σ' H' s'∧RelV v u∧D.rt v H'
def PE (X:Cx)(e:Expr)(t:TE):Prop:=
 ∀(pins:List (Addr×Obj)) (s:Shared) (σ:St) (H:Hp) (Q:VK),Inv X pins σ H s→t σ H Q→wpAny (model X.prog X.w) X.A (eval e X.env) (EP X pins σ Q) X.xe s
def PT (X:Cx)(e:Expr)(t:TT):Prop:=
 ∀(pins:List (Addr×Obj)) (s:Shared) (σ:St) (H:Hp) (Q:Bool→Hp→Prop),Inv X pins σ H s→t σ H Q→wpAny (model X.prog X.w) X.A (isTrue e X.env (eval e X.env)) (TP X pins σ Q) X.xe s
def PW (X:Cx)(e:Expr)(t:TT):Prop:=
 ∀(whole:Sem Value) (pins:List (Addr×Obj)) (s:Shared) (σ:St) (H:Hp) (Q:Bool→Hp→Prop),Inv X pins σ H s→t σ H Q→wpAny (model X.prog X.w) X.A (isTrue e X.env whole) (TP X pins σ Q) X.xe s
theorem PW.pt {X:Cx}{e:Expr}{t:TT}(h:PW X e t):PT X e t:=h _
def PA (X:Cx)(es:List Expr)(t:TA):Prop:=
 ∀(pos:Pos) (pins:List (Addr×Obj)) (s:Shared) (σ:St) (H:Hp) (Q:List V→Hp→Prop),Inv X pins σ H s→t σ H Q→wpAny (model X.prog X.w) X.A (spliced (backTo pos (starEach es X.env))) (AP X pins σ Q) X.xe s
def PS (X:Cx)(st:Stmt)(t:TS):Prop:=
 ∀(pins:List (Addr×Obj)) (s:Shared) (σ:St) (H:Hp) (D:Ends),Inv X pins σ H s→t D σ H→wpAny (model X.prog X.w) X.A (exec st X.env) (SP X pins D) X.xe s
def PSs (X:Cx)(st:List Stmt)(t:TS):Prop:=
 ∀(pins:List (Addr×Obj)) (s:Shared) (σ:St) (H:Hp) (D:Ends),Inv X pins σ H s→t D σ H→wpAny (model X.prog X.w) X.A (execs st X.env) (SP X pins D) X.xe s
theorem thn {α:Type}{t:Sem α}{Q Q':α→Shared→Prop}{M:Model}{A:Around}{E:Value→Shared→Prop}{s:Shared}(h:wpAny M A t Q E s)(hQ:∀a s,Q a s→Q' a s):wpAny M A t Q' E s:=wpAny_mono h hQ fun _ _ x=>x
section
variable {X:Cx}
def tVar (i:Nat):TE:=fun σ H Q=>∃v,σ[i]?=some (some v)∧Q v H
def tC (v:V):TE:=fun _ H Q=>Q v H
theorem pe_var {i:Nat}{x:Str}{pos:Pos}(hN:X.N[i]?=some x)(hv:Vis X.env.scope x)(hd:(x==("__debug__" : Str))=false:=by decide)(hcd:(x==("__classdict__" : Str))=false:=by decide):PE X (.Name x pos) (tVar i):=by
 intro pins s σ H Q I h
 obtain⟨v,e,h⟩:=h
 obtain⟨m,hn,hl⟩:=I.loc
 obtain⟨u,r,l⟩:=hl i x v hN e hv
 have fin:EP X pins σ Q u s:=⟨v,H,I,r,h⟩
 rcases l with⟨hk,hm⟩ | ⟨hk,c,hc,hcell⟩
 ·exact wpAny_Name (wpAny_loadName_local I.ok.kind hk hn hm fin) hd
 ·rcases hk with hk | hk
  ·exact wpAny_Name (wpAny_loadName_cell I.ok.kind hk hc hcell fin) hd
  ·exact wpAny_Name (wpAny_loadName_free I.ok.kind hk hc hcell fin hcd) hd
theorem pe_int {i j pos}:PE X (.Constant (.int i) j pos) (tC (.int i)):=fun _ _ _ H _ I h=>wpAny_Constant_int ⟨.int i,H,I.tok _,⟨_,rfl⟩,h⟩
theorem pe_bl {b j pos}:PE X (.Constant (.bool b) j pos) (tC (.bl b)):=fun _ _ _ H _ I h=>Constant_bool ⟨.bl b,H,I,rfl,h⟩
theorem pe_non {j pos}:PE X (.Constant .none j pos) (tC .non):=fun _ _ _ H _ I h=>Constant_none ⟨.non,H,I,rfl,h⟩
theorem pe_str {x j pos}:PE X (.Constant (.str x) j pos) (tC (.str x)):=fun _ _ _ H _ I h=>Calls.Constant_str ⟨.str x,H,I.tok _,⟨_,rfl⟩,h⟩
def Gl (X:Cx)(x:Str):Prop:=X.env.kindOf x=some .globalImplicit
theorem ld_glob {E:Value→Shared→Prop}{pins:List (Addr×Obj)}{s:Shared}{σ:St}{H:Hp}{x:Str}{u:Value}{pos:Pos}{Q:Value→Shared→Prop}(I:Inv X pins σ H s)(hg:Gl X x)(hm:X.mg x=some u)(h:Q u s)
 (hd:(x==("__debug__" : Str))=false:=by decide):wpAny (model X.prog X.w) X.A (eval (.Name x pos) X.env) Q E s:=
 Calls.Name_function_global I.ok.kind hg (Calls.loadGlobal_global (by rw[I.ok.glob];exact I.mod.glob.keeps I.bk) hm h) hd
theorem ld_blt {E:Value→Shared→Prop}{pins:List (Addr×Obj)}{s:Shared}{σ:St}{H:Hp}{x:Str}{u:Value}{pos:Pos}{Q:Value→Shared→Prop}(I:Inv X pins σ H s)(hg:Gl X x)(hm:X.mg x=none)(hv:bootBuiltins x=some u)(h:Q u s)
 (hn:x≠"__name__":=by decide) (hd:(x==("__debug__" : Str))=false:=by decide):wpAny (model X.prog X.w) X.A (eval (.Name x pos) X.env) Q E s:=by
 obtain⟨mb,h1,h2⟩:=I.mod.blt
 exact Calls.Name_function_global I.ok.kind hg (Calls.loadGlobal_builtin (by rw[I.ok.glob];exact I.mod.glob.keeps I.bk) hm (by rw[I.ok.blt];exact h1.keeps I.bk) ((h2 x hn).trans hv) h) hd
theorem pe_glob {x:Str}{v:V}{u:Value}{pos:Pos}(hg:Gl X x)(hm:X.mg x=some u)(r:RelV v u)(hd:(x==("__debug__" : Str))=false:=by decide):PE X (.Name x pos) (tC v):=
 fun _ _ _ H _ I h=>ld_glob I hg hm ⟨v,H,I,r,h⟩ hd
theorem pe_bltn {x:Str}{v:V}{u:Value}{pos:Pos}(hg:Gl X x)(hm:X.mg x=none)(hv:bootBuiltins x=some u)(r:RelV v u)(hn:x≠"__name__":=by decide)(hd:(x==("__debug__" : Str))=false:=by decide):PE X (.Name x pos) (tC v):=
 fun _ _ _ H _ I h=>ld_blt I hg hm hv ⟨v,H,I,r,h⟩ hn hd
variable {a b:Expr}{ta tb:TE}{pos:Pos}
def PC (X:Cx)(op:CmpOp)(a b:Expr)(t:TE):Prop:=
 ∀(pins:List (Addr×Obj)) (s:Shared) (σ:St) (H:Hp) (Q:VK),Inv X pins σ H s→t σ H Q→
  wpAny (model X.prog X.w) X.A (eval a X.env) (fun v s₁=>wpAny (model X.prog X.w) X.A (eval b X.env) (fun u s₂=>wpAny (model X.prog X.w) X.A (compareOp op v u) (EP X pins σ Q) X.xe s₂) X.xe s₁) X.xe s
def tB (t:TE):TT:=fun σ H Q=>t σ H fun x H1=>∃c,x=.bl c∧Q c H1
theorem pt_cmp {op:CmpOp}{t:TE}(h:PC X op a b t)(h1:behindInMarks op b=false:=by first | exact nobehind _ (by decide) (by decide) | rfl):PT X (.Compare a [op] [b] pos) (tB t):=by
 intro pins s σ H Q I hw
 refine wpAny_isTrue_Compare1 (thn (h pins s σ H _ I hw) fun v s1 h1=>thn h1 fun u s2 h2=>thn h2 fun c s3 ⟨x,H1,I1,r1,q1⟩=>?_) h1
 obtain⟨d,rfl,q⟩:=q1
 cases r1
 exact wpAny_truthy_bool ⟨H1,I1,q⟩
variable {tA tB':TT}{rest:List Expr}
def tAnd (t u:TT):TT:=fun σ H Q=>t σ H fun c H1=>if c=true then u σ H1 Q else Q false H1
def tOr (t u:TT):TT:=fun σ H Q=>t σ H fun c H1=>if c=true then Q true H1 else u σ H1 Q
def tNot (t:TT):TT:=fun σ H Q=>t σ H fun c H1=>Q (!c) H1
theorem pw_and1 (ha:PT X a tA):PW X (.BoolOp .And [a] pos) tA:=by
 intro wh pins s σ H Q I h
 refine isTrue_and (thn (ha pins s σ H Q I h) fun c s1 e=>?_)
 cases c with
 |true=>exact isTrue_and_nil e
 |false=>exact e
theorem pw_or1 (ha:PT X a tA):PW X (.BoolOp .Or [a] pos) tA:=by
 intro wh pins s σ H Q I h
 refine isTrue_or (thn (ha pins s σ H Q I h) fun c s1 e=>?_)
 cases c with
 |false=>exact isTrue_or_nil e
 |true=>exact e
theorem pw_and (ha:PT X a tA)(hb:PW X (.BoolOp .And (b::rest) pos) tB'):PW X (.BoolOp .And (a::b::rest) pos) (tAnd tA tB'):=by
 intro wh pins s σ H Q I h
 refine isTrue_and (thn (ha pins s σ H _ I h) fun c s1 ⟨H1,I1,q1⟩=>?_)
 cases c with
 |true=>exact hb wh pins s1 σ H1 Q I1 q1
 |false=>exact⟨H1,I1,q1⟩
theorem pw_or (ha:PT X a tA)(hb:PW X (.BoolOp .Or (b::rest) pos) tB'):PW X (.BoolOp .Or (a::b::rest) pos) (tOr tA tB'):=by
 intro wh pins s σ H Q I h
 refine isTrue_or (thn (ha pins s σ H _ I h) fun c s1 ⟨H1,I1,q1⟩=>?_)
 cases c with
 |true=>exact⟨H1,I1,q1⟩
 |false=>exact hb wh pins s1 σ H1 Q I1 q1
theorem pt_not (ha:PT X a tA):PT X (.UnaryOp .Not a pos) (tNot tA):=by
 intro pins s σ H Q I h
 exact isTrue_not (ha pins s σ H (fun c H1=>Q (!c) H1) I h)
def tIf (t:TT)(ta tb:TE):TE:=fun σ H Q=>t σ H fun c H1=>if c=true then ta σ H1 Q else tb σ H1 Q
theorem pe_ifExp {c:Expr}(hc:PT X c tA)(ha:PE X a ta)(hb:PE X b tb):PE X (.IfExp c a b pos) (tIf tA ta tb):=by
 intro pins s σ H Q I h
 refine wpAny_IfExp (thn (hc pins s σ H _ I h) fun d s1 ⟨H1,I1,q1⟩=>?_)
 cases d with
 |true=>exact ha pins s1 σ H1 Q I1 q1
 |false=>exact hb pins s1 σ H1 Q I1 q1
end
def SqL (K:W.Frag)(H:Hp)(a:Addr)(xs:List V):Prop:=
 Rd H a (.lst xs)∨
  ∃(o:Obj) (its:Array Value) (n:Nat),K.lookup a=some o∧o.cls=.type "list"∧o.dict=none∧o.data=.seq its n∧its.size≤sizeLine∧Vals xs its.toList
def SqT (K:W.Frag)(H:Hp)(a:Addr)(xs:List V):Prop:=
 Rd H a (.tup xs)∨
  ∃(o:Obj) (its:Array Value) (n:Nat),K.lookup a=some o∧o.cls=.type "tuple"∧o.data=.seq its n∧its.size≤sizeLine∧Vals xs its.toList
def absV:Value→Option V
 | .none=>some .non
 | .bool b=>some (.bl b)
 | .int i _=>some (.int i)
 | .str x _=>some (.str x)
 | .bytes b _=>some (.byt b)
 | .float b _=>some (.flt b)
 | .ref a=>some (.ref a)
 | .type n=>some (.ty n)
 |_=>none
theorem RelV.abs {x:V}{u:Value}(r:RelV x u):absV u=some x:=by
 cases x with
 |non=>cases r;rfl
 |bl _=>cases r;rfl
 |int _=>obtain⟨t,rfl⟩:=r;rfl
 |str _=>obtain⟨t,rfl⟩:=r;rfl
 |byt _=>obtain⟨t,rfl⟩:=r;rfl
 |flt _=>obtain⟨t,rfl⟩:=r;rfl
 |ref _=>cases r;rfl
 |ty _=>cases r;rfl
theorem RelV.inj {x y:V}{u:Value}(r:RelV x u)(q:RelV y u):x=y:=Option.some.inj (r.abs.symm.trans q.abs)
theorem Vals.inj:∀{xs ys:List V} {us:List Value},Vals xs us→Vals ys us→xs=ys
 |_,_,_,.nil,.nil=>rfl
 |_,_,_,.cons r t,.cons r' t'=>by rw[r.inj r',Vals.inj t t']
section
variable {X:Cx}{pins:List (Addr×Obj)}{σ:St}{H:Hp}{s:Shared}{a:Addr}{xs ys:List V}
theorem SqL.of {K:W.Frag}(h:H a=some (.lst xs)):SqL K H a xs:=.inl (.inl h)
theorem SqT.of {K:W.Frag}(h:H a=some (.tup xs)):SqT K H a xs:=.inl (.inl h)
theorem Inv.list (I:Inv X pins σ H s)(h:SqL X.K H a xs):∃its:List Value,Vals xs its∧PlainL s.heap a its.toArray∧xs.length≤sizeLine:=by
 rcases h with h | ⟨o,its,n,hk,hc,hd,hs,hz,r⟩
 ·obtain⟨z,its,n,r,e⟩:=h.ok I.hok
  exact⟨its,r,⟨_,n,e,rfl,rfl,rfl⟩,z⟩
 ·refine⟨its.toList,r,⟨o,n,I.kIn a o hk,hc,hd,by simpa using hs⟩,?_⟩
  have e:=r.length
  simp only[length_toList]at e
  omega
theorem Inv.tuple (I:Inv X pins σ H s)(h:SqT X.K H a xs):∃its:List Value,Vals xs its∧IsTup s.heap a its.toArray∧xs.length≤sizeLine:=by
 rcases h with h | ⟨o,its,n,hk,hc,hs,hz,r⟩
 ·obtain⟨z,its,r,p⟩:=h.ok I.hok
  exact⟨its,r,p,z⟩
 ·refine⟨its.toList,r,⟨o,I.kIn a o hk,hc,n,by simpa using hs⟩,?_⟩
  have e:=r.length
  simp only[length_toList]at e
  omega
theorem Inv.list_inj (I:Inv X pins σ H s)(h:SqL X.K H a xs)(h':SqL X.K H a ys):xs=ys:=by
 obtain⟨its,r,⟨o,n,e,_,_,d⟩,_⟩:=I.list h
 obtain⟨its',r',⟨o',n',e',_,_,d'⟩,_⟩:=I.list h'
 rw[e]at e';cases e'
 rw[d]at d'
 injection d' with d1 _
 have:its=its':=by simpa using congrArg Array.toList d1
 subst this
 exact r.inj r'
theorem Inv.tuple_inj (I:Inv X pins σ H s)(h:SqT X.K H a xs)(h':SqT X.K H a ys):xs=ys:=by
 obtain⟨its,r,⟨o,e,_,n,d⟩,_⟩:=I.tuple h
 obtain⟨its',r',⟨o',e',_,n',d'⟩,_⟩:=I.tuple h'
 rw[e]at e';cases e'
 rw[d]at d'
 injection d' with d1 _
 have:its=its':=by simpa using congrArg Array.toList d1
 subst this
 exact r.inj r'
end
abbrev Cx.wish (X:Cx)(E:Value→Shared→Prop):Cx:={X with xe:=E}
abbrev Cx.nox (X:Cx):Cx:=X.wish fun _ _=>False
theorem Cx.Ok.wish {X:Cx}(ok:X.Ok)(E:Value→Shared→Prop):(X.wish E).Ok:=
 ⟨ok.mod,ok.kind,ok.glob,ok.blt,ok.above,ok.inj,ok.has,ok.cab,ok.hd,ok.frames,ok.stk,ok.exf,ok.bs,ok.bsz,ok.noex,ok.exfs,ok.funs,ok.frf⟩
theorem Cx.Ok.unwish {X:Cx}{E:Value→Shared→Prop}(ok:(X.wish E).Ok):X.Ok:=
 ⟨ok.mod,ok.kind,ok.glob,ok.blt,ok.above,ok.inj,ok.has,ok.cab,ok.hd,ok.frames,ok.stk,ok.exf,ok.bs,ok.bsz,ok.noex,ok.exfs,ok.funs,ok.frf⟩
section
variable {X:Cx}{pins:List (Addr×Obj)}{σ:St}{H:Hp}{s:Shared}{E:Value→Shared→Prop}
theorem Inv.wish (I:Inv X pins σ H s)(E:Value→Shared→Prop):Inv (X.wish E) pins σ H s:=⟨I.ok.wish E,I.os,I.bare,I.base,I.loc,I.cell,I.free,I.freeC,I.pin,I.hok,I.len⟩
theorem Inv.unwish (I:Inv (X.wish E) pins σ H s):Inv X pins σ H s:=⟨I.ok.unwish,I.os,I.bare,I.base,I.loc,I.cell,I.free,I.freeC,I.pin,I.hok,I.len⟩
theorem SP.unwish {D:Ends}{f:Flow}{s':Shared}(h:SP (X.wish E) pins D f s'):SP X pins D f s':=by
 cases f with
 |next=>obtain⟨σ',H',I,q⟩:=h;exact⟨σ',H',I.unwish,q⟩
 |brk=>obtain⟨σ',H',I,q⟩:=h;exact⟨σ',H',I.unwish,q⟩
 |cont=>obtain⟨σ',H',I,q⟩:=h;exact⟨σ',H',I.unwish,q⟩
 |ret u=>obtain⟨v,σ',H',I,r,q⟩:=h;exact⟨v,σ',H',I.unwish,r,q⟩
theorem PSs.nox {st:List Stmt}{t:TS}(h:PSs X.nox st t):PSs X st t:=fun pins s σ H D I hw=>
 wpAny_mono (h pins s σ H D (I.wish _) hw) (fun _ _ q=>q.unwish) fun _ _ z=>False.elim z
end
section
variable {X:Cx}{st:Stmt}{rest:List Stmt}{t u:TS}{e:Expr}{te:TE}{pos:Pos}
def tNext:TS:=fun D σ H=>D.nx σ H
def tSeq (t u:TS):TS:=fun D σ H=>t {D with nx:=u D} σ H
theorem pss_nil:PSs X [] tNext:=fun _ _ σ H _ I h=>wpAny_execs_nil ⟨σ,H,I,h⟩
theorem pss_cons (h1:PS X st t)(h2:PSs X rest u):PSs X (st::rest) (tSeq t u):=by
 intro pins s σ H D I h
 refine wpAny_execs_cons (thn (h1 pins s σ H {D with nx:=u D} I h) fun f s1 q=>?_)
 cases f with
 |next=>
  obtain⟨σ',H',I',q⟩:=q
  exact h2 pins s1 σ' H' D I' q
 |ret v=>exact q
 |brk=>exact q
 |cont=>exact q
theorem pss_one (h1:PS X st t):PSs X [st] t:=by
 intro pins s σ H D I h
 refine wpAny_execs_cons (thn (h1 pins s σ H D I h) fun f s1 q=>?_)
 cases f with
 |next=>exact wpAny_execs_nil q
 |ret v=>exact q
 |brk=>exact q
 |cont=>exact q
theorem Inv.quiet {pins:List (Addr×Obj)}{σ:St}{H:Hp}{s:Shared}(I:Inv X pins σ H s):interactive X.env=false:=by simp[interactive,I.ok.kind]
def tDrop (te:TE):TS:=fun D σ H=>te σ H fun _ H1=>D.nx σ H1
theorem ps_expr (he:PE X e te)(hs:swapsWith e none pos.line X.env=pure false:=by rfl):PS X (.Expr e pos) (tDrop te):=by
 intro pins s σ H D I h
 exact wpAny_Expr_any (thn (he pins s σ H _ I h) fun v s1 ⟨x,H1,I1,r1,q1⟩=>⟨σ,H1,I1,q1⟩) I.quiet hs
def tRet (te:TE):TS:=fun D σ H=>te σ H D.rt
theorem ps_ret (he:PE X e te):PS X (.Return (some e) pos) (tRet te):=by
 intro pins s σ H D I h
 exact wpAny_Return_some (thn (he pins s σ H _ I h) fun v s1 ⟨x,H1,I1,r1,q1⟩=>⟨x,σ,H1,I1,r1,q1⟩)
def tIfS (c:TT)(t u:TS):TS:=fun D σ H=>c σ H fun b H1=>if b=true then t D σ H1 else u D σ H1
theorem ps_if {c:Expr}{a b:List Stmt}{tc:TT}(hc:PT X c tc)(ha:PSs X a t)(hb:PSs X b u):PS X (.If c a b pos) (tIfS tc t u):=by
 intro pins s σ H D I h
 refine wpAny_If (thn (hc pins s σ H _ I h) fun d s1 ⟨H1,I1,q1⟩=>?_)
 cases d with
 |true=>exact ha pins s1 σ H1 D I1 q1
 |false=>exact hb pins s1 σ H1 D I1 q1
def tNever:TS:=fun _ _ _=>False
theorem ps_never:PS X st tNever:=fun _ _ _ _ _ _ h=>h.elim
theorem pss_never {sts:List Stmt}:PSs X sts tNever:=fun _ _ _ _ _ _ h=>h.elim
end
abbrev TG:=V→St→Hp→(St→Hp→Prop)→Prop
abbrev TGs:=List V→St→Hp→(St→Hp→Prop)→Prop
def PG (X:Cx)(target:Expr)(t:TG):Prop:=
 ∀(pins:List (Addr×Obj)) (s:Shared) (σ:St) (H:Hp) (v:V) (u:Value) (Q:St→Hp→Prop),Inv X pins σ H s→RelV v u→t v σ H Q→
  wpAny (model X.prog X.w) X.A (assign target X.env u) (fun _ s'=>∃σ' H',Inv X pins σ' H' s'∧Q σ' H') X.xe s
def PGs (X:Cx)(ts:List Expr)(t:TGs):Prop:=
 ∀(pins:List (Addr×Obj)) (s:Shared) (σ:St) (H:Hp) (vs:List V) (us:List Value) (Q:St→Hp→Prop),Inv X pins σ H s→Vals vs us→t vs σ H Q→
  wpAny (model X.prog X.w) X.A (assignInOrder ((assignEach ts X.env).map (·.2)) us) (fun _ s'=>∃σ' H',Inv X pins σ' H' s'∧Q σ' H') X.xe s
abbrev TSet:=V→V→V→Hp→(Hp→Prop)→Prop
def PSet (X:Cx)(t:TSet):Prop:=
 ∀(pins:List (Addr×Obj)) (s:Shared) (σ:St) (H:Hp) (o i v:V) (ov iv u:Value) (Q:Hp→Prop),Inv X pins σ H s→RelV o ov→RelV i iv→RelV v u→t o i v H Q→
  wpAny (model X.prog X.w) X.A (setItem ov iv u) (fun _ s'=>∃H',Inv X pins σ H' s'∧Q H') X.xe s
abbrev TIp:=V→V→Hp→VK→Prop
def PIp (X:Cx)(op:Operator)(t:TIp):Prop:=
 ∀(pins:List (Addr×Obj)) (s:Shared) (σ:St) (H:Hp) (x y:V) (v u:Value) (Q:VK),Inv X pins σ H s→RelV x v→RelV y u→t x y H Q→
  wpAny (model X.prog X.w) X.A (inplaceOp op v u) (EP X pins σ Q) X.xe s
section
variable {X:Cx}{pos:Pos}
def gName (i:Nat):TG:=fun v σ H Q=>Q (σ.set i (some v)) H
theorem pg_name {i:Nat}{x:Str}(hN:X.N.Nodup)(hi:X.N[i]?=some x)(hx:Loc X.env.scope x)(hf:X.fn x=true∨X.env.scope.names.lookup x=some .local:=by first | exact .inl rfl | exact .inr rfl | assumption):PG X (.Name x pos) (gName i):=by
 intro pins s σ H v u Q I r h
 exact wpAny_assign_Name (store_ok I hN hi hx r (fun s' I'=>⟨_,H,I',h⟩) hf)
def gNil:TGs:=fun vs σ H Q=>vs=[]∧Q σ H
def gCons (t:TG)(u:TGs):TGs:=fun vs σ H Q=>∃v r,vs=v::r∧t v σ H fun σ' H'=>u r σ' H' Q
theorem pgs_nil:PGs X [] gNil:=by
 intro pins s σ H vs us Q I r h
 obtain⟨e,h⟩:=h
 subst e
 cases r
 exact assignInOrder_nil ⟨σ,H,I,h⟩
theorem pgs_cons {e:Expr}{es:List Expr}{t:TG}{u:TGs}(h1:PG X e t)(h2:PGs X es u)
 (hs:(assignEach (e::es) X.env).map (·.2)=assign e X.env::(assignEach es X.env).map (·.2):=by rfl):PGs X (e::es) (gCons t u):=by
 intro pins s σ H vs us Q I r h
 obtain⟨v,vr,e1,h⟩:=h
 subst e1
 cases r with
 |cons r rr=>
  rw[hs]
  refine assignInOrder_cons (thn (h1 pins s σ H _ _ _ I r h) fun _ s1 ⟨σ1,H1,I1,q1⟩=>?_)
  exact h2 pins s1 σ1 H1 _ _ Q I1 rr q1
def gTup (K:W.Frag)(n:Nat)(t:TGs):TG:=fun v σ H Q=>∃a xs,v=.ref a∧SqT K H a xs∧xs.length=n∧t xs σ H Q
theorem pg_tup {es:List Expr}{k:Nat}{t:TGs}{n:Nat}(hc:X.calm=true)(h:PGs X es t)
 (hn:(assignEach es X.env).length=n:=by rfl) (hst:(assignEach es X.env).findIdx? (·.1)=none:=by rfl):PG X (.Tuple es k pos) (gTup X.K n t):=by
 intro pins s σ H v u Q I r hw
 obtain⟨a,xs,e1,hq,hl,hw⟩:=hw
 subst e1
 cases r
 obtain⟨its,rv,ht,hz⟩:=I.tuple hq
 refine assign_Tuple_tuple (I.ok.hd hc) ht (by simp[hn,←hl,rv.length]) hst fun h' hx=>?_
 have I1:Inv X pins σ H {s with heap:=h'}:=I.kept (t':=s.toks) fun b o e=>hx b o (Nat.ne_of_lt (lt_size e)) e
 exact h pins _ σ H xs _ Q I1 (by simpa using rv) hw
def gSub (to ti:TE)(t:TSet):TG:=fun v σ H Q=>to σ H fun o H1=>ti σ H1 fun i H2=>t o i v H2 fun H3=>Q σ H3
theorem pg_sub {o i:Expr}{to ti:TE}{t:TSet}(ho:PE X o to)(hi:PE X i ti)(hs:PSet X t)
 (ha:∀v,assign (.Subscript o i pos) X.env v=(do
  let ov ←holding [v] (eval o X.env)
  let iv ←holding [v,ov] (eval i X.env)
  standAt pos
  holding [v,ov,iv] (setItem ov iv v)
  release [v,ov,iv] []):=by intro _;rfl):PG X (.Subscript o i pos) (gSub to ti t):=by
 intro pins s σ H v u Q I r h
 rw[ha]
 refine wpAny_bind (wpAny_holding (thn (ho pins s σ H _ I h) fun ov s1 ⟨x,H1,I1,r1,q1⟩=>?_))
 refine wpAny_bind (wpAny_holding (thn (hi pins s1 σ H1 _ I1 q1) fun iv s2 ⟨y,H2,I2,r2,q2⟩=>?_))
 refine wpAny_bind (wpAny_standAt (wpAny_bind (wpAny_holding (thn (hs pins s2 σ H2 x y v ov iv u _ I2 r1 r2 r q2) fun _ s3 ⟨H3,I3,q3⟩=>?_))))
 exact wpAny_release ⟨σ,H3,I3,q3⟩
def tAsg (te:TE)(g:TG):TS:=fun D σ H=>te σ H fun x H1=>g x σ H1 D.nx
theorem ps_asg {tg e:Expr}{te:TE}{g:TG}(he:PE X e te)(hg:PG X tg g)(hs:swapsWithSole [tg] e pos.line X.env=pure false:=by rfl)(hw:swappedStores [tg] e X.env=pure none:=by rfl)
 (h1:(assignEach [tg] X.env).map (·.2)=[assign tg X.env]:=by rfl):PS X (.Assign [tg] e pos) (tAsg te g):=by
 intro pins s σ H D I h
 refine wpAny_Assign_stores (thn (he pins s σ H _ I h) fun v s1 ⟨x,H1,I1,r1,q1⟩=>?_) hs hw
 rw[h1]
 exact thn (hg pins s1 σ H1 x v _ I1 r1 q1) fun _ s2 q=>q
theorem ps_set {i:Nat}{x:Str}{e:Expr}{te:TE}{pos':Pos}(hN:X.N.Nodup)(hi:X.N[i]?=some x)(hx:Loc X.env.scope x)(he:PE X e te)(hs:swapsWith e (some (.Name x pos')) pos.line X.env=pure false:=by rfl)(hf:X.fn x=true∨X.env.scope.names.lookup x=some .local:=by first | exact .inl rfl | exact .inr rfl | assumption) :
 PS X (.Assign [.Name x pos'] e pos) (tAsg te (gName i)):=by
 intro pins s σ H D I h
 refine wpAny_Assign_Name (thn (he pins s σ H _ I h) fun v s1 ⟨y,H1,I1,r1,q1⟩=>?_) hs
 exact store_ok I1 hN hi hx r1 (fun s2 I2=>⟨_,H1,I2,q1⟩) hf
def tAug (i:Nat)(te:TE)(ti:TIp):TS:=fun D σ H=>∃x,σ[i]?=some (some x)∧te σ H fun y H1=>ti x y H1 fun z H2=>D.nx (σ.set i (some z)) H2
theorem ps_aug {i:Nat}{x:Str}{e:Expr}{te:TE}{op:Operator}{ti:TIp}{pos':Pos}(hN:X.N.Nodup)(hi:X.N[i]?=some x)(hx:Loc X.env.scope x)(he:PE X e te)(ho:PIp X op ti)(hf:X.fn x=true∨X.env.scope.names.lookup x=some .local:=by first | exact .inl rfl | exact .inr rfl | assumption) :
 PS X (.AugAssign (.Name x pos') op e pos) (tAug i te ti):=by
 intro pins s σ H D I h
 obtain⟨v,e1,h⟩:=h
 obtain⟨m,hn,hl⟩:=I.loc
 have vis:Vis X.env.scope x:=by rcases hx with k | k;exact .inl k;exact .inr (.inl k)
 obtain⟨u,r,l⟩:=hl i x v hi e1 vis
 refine wpAny_AugAssign_Name ?_
 have go:wpAny (model X.prog X.w) X.A (eval e X.env) (fun w s₂=>wpAny (model X.prog X.w) X.A (inplaceOp op u w) (fun r s₃=>wpAny (model X.prog X.w) X.A (storeName X.env x r) (fun _=>SP X pins D .next) X.xe s₃) X.xe s₂) X.xe s:=by
  refine thn (he pins s σ H _ I h) fun w s1 ⟨y,H1,I1,r1,q1⟩=>?_
  refine thn (ho pins s1 σ H1 v y u w _ I1 r r1 q1) fun z s2 ⟨zv,H2,I2,r2,q2⟩=>?_
  exact store_ok I2 hN hi hx r2 (fun s3 I3=>⟨_,H2,I3,q2⟩) hf
 rcases l with⟨hk,hm⟩ | ⟨hk,c,hc,hcell⟩
 ·exact wpAny_loadName_local I.ok.kind hk hn hm go
 ·rcases hk with hk | hk
  ·exact wpAny_loadName_cell I.ok.kind hk hc hcell go
  ·rcases hx with k | k
   ·have:X.env.scope.names.lookup x=some .free:=hk
    rw[k]at this;cases this
   ·have:X.env.scope.names.lookup x=some .free:=hk
    rw[k]at this;cases this
def ipI (f:Int→Int→Int):TIp:=fun x y H Q=>∃i j,x=.int i∧y=.int j∧Q (.int (f i j)) H
theorem ip_add:PIp X .Add (ipI fun i j=>i+j):=by
 intro pins s σ H x y v u Q I r1 r2 h
 obtain⟨i,j,e1,e2,q⟩:=h
 subst e1;subst e2
 obtain⟨t,rfl⟩:=r1
 obtain⟨t',rfl⟩:=r2
 exact iadd_int ⟨.int _,H,I.tok _,⟨_,rfl⟩,q⟩
theorem ip_sub:PIp X .Sub (ipI fun i j=>i - j):=by
 intro pins s σ H x y v u Q I r1 r2 h
 obtain⟨i,j,e1,e2,q⟩:=h
 subst e1;subst e2
 obtain⟨t,rfl⟩:=r1
 obtain⟨t',rfl⟩:=r2
 exact isub_int ⟨.int _,H,I.tok _,⟨_,rfl⟩,q⟩
end
section
variable {X:Cx}{pos:Pos}
def tWhile (c:TT)(tb:TS):TS:=fun D σ H=>∃W:Nat→St→Hp→Prop,(∃m,W m σ H)∧∀m σ H,W m σ H→
 c σ H fun b H1=>if b=true then ∃N:St→Hp→Prop,(∀σ' H',N σ' H'→∃m',m'<m∧W m' σ' H')∧tb {D with nx:=N,ct:=N,bk:=D.nx} σ H1 else D.nx σ H1
theorem ps_while {c:Expr}{body:List Stmt}{tc:TT}{tb:TS}(hp:PassesOwn (model X.prog X.w) X.A X.env X.xe)(hc:PT X c tc)(hb:PSs X body tb):PS X (.While c body [] pos) (tWhile tc tb):=by
 intro pins s σ H D I h
 obtain⟨W,⟨m0,w0⟩,turn⟩:=h
 refine wpAny_While (codeAny_whileLoop (fun n s'=>∃σ' H',Inv X pins σ' H' s'∧W n σ' H') ?_ m0 ⟨σ,H,I,w0⟩)
 rintro n s1 ⟨σ1,H1,I1,w1⟩
 refine wpAny_passesOwn hp (thn (hc pins s1 σ1 H1 _ I1 (turn n σ1 H1 w1)) fun b s2 ⟨H2,I2,q2⟩=>?_)
 cases b with
 |true=>
  obtain⟨N,hN,q2⟩:=q2
  rw[if_pos rfl]
  refine wpAny_passesOwn hp (thn (hb pins s2 σ1 H2 _ I2 q2) fun f s3 q3=>?_)
  cases f with
  |next=>
   obtain⟨σ3,H3,I3,n3⟩:=q3
   obtain⟨m',hm,w3⟩:=hN σ3 H3 n3
   exact⟨m',hm,σ3,H3,I3,w3⟩
  |cont=>
   obtain⟨σ3,H3,I3,n3⟩:=q3
   obtain⟨m',hm,w3⟩:=hN σ3 H3 n3
   exact⟨m',hm,σ3,H3,I3,w3⟩
  |brk=>exact q3
  |ret v=>exact q3
 |false=>
  rw[if_neg Bool.false_ne_true]
  exact wpAny_execs_nil ⟨σ1,H2,I2,q2⟩
end
structure It where
 go:Nat→Hp→Prop
 yld:Nat→Hp→V→Hp→Prop
 stop:Nat→Hp→Prop
def FpOk (X:Cx)(pins:List (Addr×Obj))(H:Hp)(b:Addr):Prop:=
 H b=none∧b≠X.env.locals∧b∉X.fs∧(b∈X.ex∨X.s₀.heap.objs.size≤b)∧(∀x c,X.env.cells.lookup x=some c→c≠b)∧∀p∈X.pn++pins,p.1≠b
theorem Inv.fpOk {X:Cx}{pins:List (Addr×Obj)}{σ:St}{H H':Hp}{s:Shared}{b:Addr}(I:Inv X pins σ H s)(hb:s.heap.objs.size≤b)(hn:H' b=none):FpOk X pins H' b:=by
 refine⟨hn,Nat.ne_of_gt (Nat.lt_of_lt_of_le I.lt hb),I.nofs hb,.inr (Nat.le_trans I.sz hb),fun x c e z=>?_,fun p hp z=>?_⟩
 ·obtain⟨v,q⟩:=I.cell x c e
  exact absurd (Nat.lt_of_lt_of_le q.lt (by rw[z];exact hb)) (Nat.lt_irrefl _)
 ·exact absurd (Nat.lt_of_lt_of_le (lt_size (I.pin p hp).1) (by rw[z];exact hb)) (Nat.lt_irrefl _)
structure Turn (P:Program)(w:World)(K:W.Frag)(tg:Expr)(J:It)(fp:List Addr)(it:Addr)(tn:Nat→Heap→Prop):Prop where
 mem:it∈fp
 obj:∀i h,tn i h→∀b∈fp,∃o,h.get? b=some o∧∀v,o.data≠.cell v
 keep:∀i h h',tn i h→(∀b∈fp,∀o,h.get? b=some o→h'.get? b=some o)→tn i h'
 item:∀(X:Cx),X.prog=P→X.w=w→X.K=K→X.calm=true→∀(i:Nat) (pins:List (Addr×Obj)) (s:Shared) (σ:St) (H:Hp) (E:Value→Shared→Prop),Inv X pins σ H s→(∀b∈fp,FpOk X pins H b)→tn i s.heap→J.go i H→
  wpAny (model P w) X.A (pyNext (.ref it)) (fun r s1=>∃u,r=some u∧
   wpAny (model P w) X.A (letOwnedTupleGo tg (.ref it) u) (fun _ s2=>∃x H',Inv X pins σ H' s2∧RelV x u∧J.yld i H x H'∧tn (i+1) s2.heap∧∀b∈fp,H' b=none) E s1) E s
 done:∀(X:Cx),X.prog=P→X.w=w→X.K=K→X.calm=true→∀(i:Nat) (pins:List (Addr×Obj)) (s:Shared) (σ:St) (H:Hp) (E:Value→Shared→Prop),Inv X pins σ H s→(∀b∈fp,FpOk X pins H b)→tn i s.heap→J.stop i H→
   wpAny (model P w) X.A (pyNext (.ref it)) (fun r s1=>r=none∧Inv X pins σ H s1) E s
 self:∀(A:Around) (i:Nat) (s:Shared) (Q:Value→Shared→Prop) (E:Value→Shared→Prop),tn i s.heap→Q (.ref it) s→wpAny (model P w) A (pyIter (.ref it)) Q E s
abbrev TI:=St→Hp→(It→Hp→Prop)→Prop
def PIE (X:Cx)(pins:List (Addr×Obj))(σ:St)(tg:Expr)(R:It→Hp→Prop)(itv:Value)(s2:Shared):Prop:=
 ∃(it:Addr) (fp:List Addr) (tn:Nat→Heap→Prop) (J:It) (H':Hp),itv=.ref it∧Inv X pins σ H' s2∧Turn X.prog X.w X.K tg J fp it tn∧tn 0 s2.heap∧(∀b∈fp,FpOk X pins H' b)∧R J H'
def PI (X:Cx)(tg iter:Expr)(wi:TI):Prop:=
 ∀(pins:List (Addr×Obj)) (s:Shared) (σ:St) (H:Hp) (R:It→Hp→Prop),Inv X pins σ H s→wi σ H R→
  wpAny (model X.prog X.w) X.A (eval iter X.env) (fun v s1=>wpAny (model X.prog X.w) X.A (pyIter v) (PIE X pins σ tg R) X.xe s1) X.xe s
theorem go_of {M:Model}{A:Around}{E:Value→Shared→Prop}{s:Shared}{tg:Expr}{it:Addr}{u:Value}{o:Obj}{n:String}{vs:Array Value}{Q:Unit→Shared→Prop}(ho:s.heap.get? it=some o)(hc:o.cls=.type n)(hd:o.data=.fields vs)
 (hn:["enumerate","zip","dict_itemiterator","dict_reverseitemiterator","odict_iterator","itertools.zip_longest","itertools.pairwise"].contains n=false) (hQ:Q () s):wpAny M A (letOwnedTupleGo tg (.ref it) u) Q E s:=by
 unfold letOwnedTupleGo
 cases tg<;>first
  |exact wpAny_pure hQ
  |(cases u<;>first
   |exact wpAny_pure hQ
   |(refine wpAny_bind (wpAny_load ho ?_)
     rw[hc,hd]
     show wpAny M A (if(["enumerate","zip","dict_itemiterator","dict_reverseitemiterator","odict_iterator","itertools.zip_longest","itertools.pairwise"].contains n&&vs[0]?==some (rawInt _))=true then _ else _) Q E s
     rw[if_neg (by intro h;rw[hn,Bool.false_and]at h;cases h)]
     exact wpAny_pure hQ))
def Itl (K:W.Frag)(a:Addr):It:=
 ⟨fun i H=>∃xs x,SqL K H a xs∧xs[i]?=some x,fun i H x H'=>H'=H∧∀xs,SqL K H a xs→xs[i]?=some x,fun i H=>∃xs,SqL K H a xs∧xs.length≤i⟩
def Itt (K:W.Frag)(a:Addr):It:=
 ⟨fun i H=>∃xs x,SqT K H a xs∧xs[i]?=some x,fun i H x H'=>H'=H∧∀xs,SqT K H a xs→xs[i]?=some x,fun i H=>∃xs,SqT K H a xs∧xs.length≤i⟩
def Itr (lo:Int)(n:Nat):It:=⟨fun i _=>i<n,fun i H x H'=>H'=H∧x=.int (lo+i),fun i _=>n≤i⟩
theorem turn_list {P:Program}{w:World}{K:W.Frag}{tg:Expr}(a it:Addr):Turn P w K tg (Itl K a) [it] it (fun i h=>h.IsListIter it a i) where
 mem:=by simp
 obj:=fun i h st b hb=>by
  have e:b=it:=by simpa using hb
  subst e
  obtain⟨o,e,c,d⟩:=st
  exact⟨o,e,fun v z=>by rw[d]at z;cases z⟩
 keep:=fun i h h' st k=>st.at fun o e=>k it (by simp) o e
 item:=by
  intro X hP hw hK hc i pins s σ H E I hf st hg
  subst hP hw hK
  obtain⟨xs,x,hq,hx⟩:=hg
  obtain⟨its,rv,p,hz⟩:=I.list hq
  obtain⟨u,hu,ru⟩:=rv.get hx
  obtain⟨f0,f1,f2,f3,f4,f5⟩:=hf it (by simp)
  refine wpAny_pyNext_list_item st p.isList (x:=u) (by simpa using hu) fun h' st' sb=>?_
  have I1:Inv X pins σ H {s with heap:=h'}:=I.turned (t':=s.toks) (fun b o hb e=>(sb.2 b hb).trans e) f0 f1 f3 f4 f5
  obtain⟨o,e,c,d⟩:=id st'
  exact⟨u,rfl,go_of (s:={s with heap:=h'}) e c d (by decide) ⟨x,H,I1,ru,⟨rfl,fun ys hy=>by rw[I.list_inj hy hq];exact hx⟩,st',fun b hb=>(hf b hb).1⟩⟩
 done:=by
   intro X hP hw hK hc i pins s σ H E I hf st hg
   subst hP hw hK
   obtain⟨xs,hq,hx⟩:=hg
   obtain⟨its,rv,p,hz⟩:=I.list hq
   obtain⟨f0,f1,f2,f3,f4,f5⟩:=hf it (by simp)
   have hl:=rv.length
   exact wpAny_pyNext_list_end (I.ok.hd hc) st p.isList (by simp;omega) fun h' eb=>⟨rfl,I.turned (t':=s.toks) (fun b o hb e=>eb b o hb e) f0 f1 f3 f4 f5⟩
 self:=fun _ _ _ _ _ st h=>wpAny_pyIter_listiter st h
theorem turn_tuple {P:Program}{w:World}{K:W.Frag}{tg:Expr}(a it:Addr):Turn P w K tg (Itt K a) [it] it (fun i h=>h.IsTupleIter it a i) where
 mem:=by simp
 obj:=fun i h st b hb=>by
  have e:b=it:=by simpa using hb
  subst e
  obtain⟨o,e,c,d⟩:=st
  exact⟨o,e,fun v z=>by rw[d]at z;cases z⟩
 keep:=fun i h h' st k=>st.at fun o e=>k it (by simp) o e
 item:=by
  intro X hP hw hK hc i pins s σ H E I hf st hg
  subst hP hw hK
  obtain⟨xs,x,hq,hx⟩:=hg
  obtain⟨its,rv,p,hz⟩:=I.tuple hq
  obtain⟨u,hu,ru⟩:=rv.get hx
  obtain⟨f0,f1,f2,f3,f4,f5⟩:=hf it (by simp)
  refine wpAny_pyNext_tuple_item st (show s.heap.IsTuple a its.toArray from p) (x:=u) (by simpa using hu) fun h' st' sb=>?_
  have I1:Inv X pins σ H {s with heap:=h'}:=I.turned (t':=s.toks) (fun b o hb e=>(sb.2 b hb).trans e) f0 f1 f3 f4 f5
  obtain⟨o,e,c,d⟩:=id st'
  exact⟨u,rfl,go_of (s:={s with heap:=h'}) e c d (by decide) ⟨x,H,I1,ru,⟨rfl,fun ys hy=>by rw[I.tuple_inj hy hq];exact hx⟩,st',fun b hb=>(hf b hb).1⟩⟩
 done:=by
   intro X hP hw hK hc i pins s σ H E I hf st hg
   subst hP hw hK
   obtain⟨xs,hq,hx⟩:=hg
   obtain⟨its,rv,p,hz⟩:=I.tuple hq
   obtain⟨f0,f1,f2,f3,f4,f5⟩:=hf it (by simp)
   have hl:=rv.length
   exact wpAny_pyNext_tuple_end (I.ok.hd hc) st (show s.heap.IsTuple a its.toArray from p) (by simp;omega) fun h' eb=>⟨rfl,I.turned (t':=s.toks) (fun b o hb e=>eb b o hb e) f0 f1 f3 f4 f5⟩
 self:=fun _ _ _ _ _ st h=>wpAny_pyIter_tupleiter st h
theorem turn_range {P:Program}{w:World}{K:W.Frag}{tg:Expr}(it:Addr)(lo:Int)(n:Nat):Turn P w K tg (Itr lo n) [it] it (fun i h=>IsRangeIter h it (lo+(i:Nat)*1) ((n:Int) - (i:Nat)) 1) where
 mem:=by simp
 obj:=fun i h st b hb=>by
  have e:b=it:=by simpa using hb
  subst e
  exact⟨_,st,fun v z=>by
   have z':Data.fields _=Data.cell v:=z
   cases z'⟩
 keep:=fun i h h' st k=>k it (by simp) _ st
 item:=by
  intro X hP hw hK hc i pins s σ H E I hf st hg
  subst hP hw hK
  obtain⟨f0,f1,f2,f3,f4,f5⟩:=hf it (by simp)
  have W:=Walks.range (prog:=X.prog) (w:=X.w) (I.ok.hd hc) it lo 1 n
  refine W.item i s _ _ hg st fun v h' tk hv st' kk=>?_
  obtain⟨t,rfl⟩:=hv
  have I1:Inv X pins σ H {s with heap:=h',toks:=tk}:=I.turned (fun b o hb e=>kk b o (by simpa using hb) e) f0 f1 f3 f4 f5
  refine⟨_,rfl,go_of (s:={s with heap:=h',toks:=tk}) (n:="range_iterator") st' rfl rfl (by decide) ⟨.int (lo+i),H,I1,⟨t,?_⟩,⟨rfl,rfl⟩,st',fun b hb=>(hf b hb).1⟩⟩
  rw[Int.mul_one]
 done:=by
   intro X hP hw hK hc i pins s σ H E I hf st hg
   subst hP hw hK
   obtain⟨f0,f1,f2,f3,f4,f5⟩:=hf it (by simp)
   exact wpAny_pyNext_range_end (I.ok.hd hc) st (by have:n≤i:=hg;omega) fun h' eb=>⟨rfl,I.turned (t':=s.toks) (fun b o hb e=>eb b o hb e) f0 f1 f3 f4 f5⟩
 self:=fun _ _ _ _ _ st h=>wpAny_pyIter_rangeiter st h
section
variable {X:Cx}{tg:Expr}
def iList (K:W.Frag)(tl:TE):TI:=fun σ H R=>tl σ H fun x H1=>∃a,x=.ref a∧(∃xs,SqL K H1 a xs)∧R (Itl K a) H1
def iTup (K:W.Frag)(tl:TE):TI:=fun σ H R=>tl σ H fun x H1=>∃a,x=.ref a∧(∃xs,SqT K H1 a xs)∧R (Itt K a) H1
theorem pi_list {l:Expr}{tl:TE}(hl:PE X l tl):PI X tg l (iList X.K tl):=by
 intro pins s σ H R I h
 refine thn (hl pins s σ H _ I h) fun v s1 ⟨x,H1,I1,r1,q1⟩=>?_
 obtain⟨a,e,⟨xs,hq⟩,q⟩:=q1
 subst e
 cases r1
 obtain⟨its,rv,p,hz⟩:=I1.list hq
 refine wpAny_pyIter_list p.isList ?_
 refine⟨s1.heap.objs.size,[s1.heap.objs.size],_,_,H1,rfl,I1.kept (t':=s1.toks) fun b o e=>get?_push_of_some _ e,turn_list a _,⟨_,get?_push_size _ rfl,rfl,rfl⟩,fun b hb=>?_,q⟩
 have e:b=s1.heap.objs.size:=by simpa using hb
 subst e
 exact I1.fpOk (Nat.le_refl _) (I1.hok.fresh (Nat.le_refl _))
theorem pi_tup {l:Expr}{tl:TE}(hl:PE X l tl):PI X tg l (iTup X.K tl):=by
 intro pins s σ H R I h
 refine thn (hl pins s σ H _ I h) fun v s1 ⟨x,H1,I1,r1,q1⟩=>?_
 obtain⟨a,e,⟨xs,hq⟩,q⟩:=q1
 subst e
 cases r1
 obtain⟨its,rv,p,hz⟩:=I1.tuple hq
 refine wpAny_pyIter_tuple (show s1.heap.IsTuple a its.toArray from p) ?_
 refine⟨s1.heap.objs.size,[s1.heap.objs.size],_,_,H1,rfl,I1.kept (t':=s1.toks) fun b o e=>get?_push_of_some _ e,turn_tuple a _,⟨_,get?_push_size _ rfl,rfl,rfl⟩,fun b hb=>?_,q⟩
 have e:b=s1.heap.objs.size:=by simpa using hb
 subst e
 exact I1.fpOk (Nat.le_refl _) (I1.hok.fresh (Nat.le_refl _))
theorem range_it {pins:List (Addr×Obj)}{σ:St}{H:Hp}{s:Shared}{R:It→Hp→Prop}{E:Value→Shared→Prop}{lo hi:Int}{t u v:Tok}{tk:Nat}(I:Inv X pins σ H s)(h1:-(2^62)≤lo)(h2:lo<2^62)(h3:-(2^62)≤hi)(h4:hi<2^62)
 (q:R (Itr lo (hi - lo).toNat) H):wpAny (model X.prog X.w) X.A (pyIter (.ref s.heap.objs.size)) (PIE X pins σ tg R) E {s with heap:=s.heap.push {cls:=.type "range",data:=.fields #[.int lo t,.int hi u,.int 1 v]},toks:=tk}:=by
 refine wpAny_pyIter_range (IsRange.new ..) (small_one h1 h2 h3 h4) ?_
 have I1:Inv X pins σ H {s with heap:=s.heap.push {cls:=.type "range",data:=.fields #[.int lo t,.int hi u,.int 1 v]},toks:=tk}:=I.kept fun b o e=>get?_push_of_some _ e
 refine⟨(s.heap.push {cls:=.type "range",data:=.fields #[.int lo t,.int hi u,.int 1 v]}).objs.size,[(s.heap.push {cls:=.type "range",data:=.fields #[.int lo t,.int hi u,.int 1 v]}).objs.size],_,_,H,rfl,
  I1.kept (t':=tk) fun b o e=>get?_push_of_some _ e,turn_range _ lo (hi - lo).toNat,?_,fun b hb=>?_,q⟩
 ·have e1:lo+((0:Nat):Int)*1=lo:=by simp
  have e2:(((hi - lo).toNat:Nat):Int) - ((0:Nat):Int)=Builtin.Range.rangeSize lo hi 1:=by rw[rangeSize_one];split<;>omega
  show IsRangeIter _ _ (lo+((0:Nat):Int)*1) ((((hi - lo).toNat:Nat):Int) - ((0:Nat):Int)) 1
  rw[e1,e2]
  exact get?_push_size _ rfl
 ·have e:b=(s.heap.push {cls:=.type "range",data:=.fields #[.int lo t,.int hi u,.int 1 v]}).objs.size:=by simpa using hb
  subst e
  exact I1.fpOk (Nat.le_refl _) (I1.hok.fresh (Nat.le_refl _))
def iRng1 (ta:TA):TI:=fun σ H R=>ta σ H fun vs H1=>∃j:Int,vs=[.int j]∧-(2^62)≤j∧j<2^62∧R (Itr 0 j.toNat) H1
def iRng2 (ta:TA):TI:=fun σ H R=>ta σ H fun vs H1=>∃i j:Int,vs=[.int i,.int j]∧(-(2^62)≤i∧i<2^62∧-(2^62)≤j∧j<2^62)∧R (Itr i (j - i).toNat) H1
theorem pi_range1 {a:Expr}{ta:TA}{p pos:Pos}(hg:Gl X "range")(hm:X.mg "range" = none)(ha:PA X [a] ta)(hs:starEach [a] X.env=[(false,eval a X.env)]:=by rfl):PI X tg (.Call (.Name "range" p) [a] [] pos) (iRng1 ta):=by
 intro pins s σ H R I h
 refine Call_ (ld_blt I hg hm boot_range (callWith_type1 (thn (ha pos pins s σ H _ I h) fun us s1 ⟨vs,H1,I1,r1,q1⟩=>?_) hs rfl))
 obtain⟨j,e,q1,q2,q⟩:=q1
 subst e
 cases r1 with
 |cons r rr=>
  cases rr
  obtain⟨t,rfl⟩:=r
  exact call_range_1 (range_it I1 (by omega) (by omega) q1 q2 (by simpa using q))
theorem pi_range2 {a b:Expr}{ta:TA}{p pos:Pos}(hg:Gl X "range")(hm:X.mg "range" = none)(ha:PA X [a,b] ta)(hs:starEach [a,b] X.env=[(false,eval a X.env),(false,eval b X.env)]:=by rfl)(hs2:starEach [b] X.env=[(false,eval b X.env)]:=by rfl) :
 PI X tg (.Call (.Name "range" p) [a,b] [] pos) (iRng2 ta):=by
 intro pins s σ H R I h
 refine Call_ (ld_blt I hg hm boot_range (callWith_type1 (thn (ha pos pins s σ H _ I h) fun us s1 ⟨vs,H1,I1,r1,q1⟩=>?_) (by rw[hs,hs2]) (by rw[hs2];rfl)))
 obtain⟨i,j,e,⟨q1,q2,q3,q4⟩,q⟩:=q1
 subst e
 cases r1 with
 |cons r rr=>
  cases rr with
  |cons r' rr=>
   cases rr
   obtain⟨t,rfl⟩:=r
   obtain⟨t',rfl⟩:=r'
   exact call_range_2 (range_it I1 q1 q2 q3 q4 q)
def tFor (wi:TI)(g:TG)(tb:TS):TS:=fun D σ H=>wi σ H fun J H1=>∃W:Nat→Nat→St→Hp→Prop,(∃m,W 0 m σ H1)∧∀i m σ H,W i m σ H→
 (J.stop i H∧D.nx σ H)∨(J.go i H∧∃N:St→Hp→Prop,(∀σ' H',N σ' H'→∃m',m'<m∧W (i+1) m' σ' H')∧∀x H',J.yld i H x H'→g x σ H' fun σ2 H2=>tb {D with nx:=N,ct:=N,bk:=D.nx} σ2 H2)
def pinsAt (fp:List Addr)(h:Heap):List (Addr×Obj):=fp.filterMap fun b=>(h.get? b).map fun o=>(b,o)
theorem mem_pinsAt {fp:List Addr}{h:Heap}{b:Addr}{o:Obj}(hb:b∈fp)(e:h.get? b=some o):(b,o)∈pinsAt fp h:=List.mem_filterMap.mpr ⟨b,hb,by rw[e];rfl⟩
theorem of_pinsAt {fp:List Addr}{h:Heap}{p:Addr×Obj}(hp:p∈pinsAt fp h):p.1∈fp∧h.get? p.1=some p.2:=by
 obtain⟨b,hb,e⟩:=List.mem_filterMap.mp hp
 cases q:h.get? b with
 |none=>rw[q]at e;cases e
 |some o=>
  rw[q]at e
  have e':(b,o)=p:=Option.some.inj e
  subst e'
  exact⟨hb,q⟩
theorem Inv.pinned {pins:List (Addr×Obj)}{σ:St}{H:Hp}{s:Shared}{fp:List Addr}(I:Inv X pins σ H s)(hf:∀b∈fp,FpOk X pins H b)(ho:∀b∈fp,∃o,s.heap.get? b=some o∧∀v,o.data≠.cell v):Inv X (pins++pinsAt fp s.heap) σ H s:=
 I.pins_of fun p hp=>(mem_append.mp hp).elim (fun z=>I.pin p (mem_append_right _ z)) fun z=>by
  obtain⟨hb,e⟩:=of_pinsAt z
  obtain⟨f0,f1,f2,_⟩:=hf p.1 hb
  obtain⟨o,e',d⟩:=ho p.1 hb
  rw[e]at e';cases e'
  exact⟨e,f0,f1,f2,d⟩
theorem Inv.unpinned {pins pl:List (Addr×Obj)}{σ:St}{H:Hp}{s:Shared}(I:Inv X (pins++pl) σ H s):Inv X pins σ H s:=I.pins_of fun p hp=>I.pin p (mem_append_right _ (mem_append_left _ hp))
theorem ps_for {iter:Expr}{body:List Stmt}{wi:TI}{g:TG}{tb:TS}{pos:Pos}(hp:PassesOwn (model X.prog X.w) X.A X.env X.xe)(hc:X.calm=true)(hi:PI X tg iter wi)(hg:PG X tg g)(hb:PSs X body tb)
 (hs:∀x,foldedSetIterable iter X.env x=pure x:=by intro _;rfl):PS X (.For tg iter body [] pos) (tFor wi g tb):=by
 intro pins s σ H D I h
 refine wpAny_For (thn (hi pins s σ H _ I h) fun v s1 h1=>thn h1 fun itv s2 h2=>?_) hs
 obtain⟨it,fp,tn,J,H2,e,I2,T,st2,f2,W,⟨m0,w0⟩,turn⟩:=h2
 subst e
 -- what stays true of the iterator's objects through the loop
 have stat:∀{H':Hp},(∀b∈fp,H' b=none)→∀b∈fp,FpOk X pins H' b:=fun hn b hb=>⟨hn b hb,(f2 b hb).2⟩
 refine codeAny_forLoop_any (fun n s'=>∃i σ' H',Inv X pins σ' H' s'∧tn i s'.heap∧(∀b∈fp,H' b=none)∧W i n σ' H') ?_ m0 ⟨0,σ,H2,I2,st2,fun b hb=>(f2 b hb).1,w0⟩
 rintro n s3 ⟨i,σ3,H3,I3,st3,fr3,w3⟩
 rcases turn i n σ3 H3 w3 with⟨stop,qn⟩ | ⟨go,N,hN,step⟩
 ·refine wpAny_passesOwn hp (thn (T.done X rfl rfl rfl hc i pins s3 σ3 H3 X.xe I3 (stat fr3) st3 stop) fun r s4 ⟨hr,I4⟩=>?_)
  subst hr
  exact wpAny_execs_nil ⟨σ3,H3,I4,qn⟩
 ·refine wpAny_passesOwn hp (thn (T.item X rfl rfl rfl hc i pins s3 σ3 H3 X.xe I3 (stat fr3) st3 go) fun r s4 ⟨u,hr,h4⟩=>?_)
  subst hr
  refine wpAny_passesOwn hp (thn h4 fun _ s5 ⟨x,H5,I5,r5,y5,st5,fr5⟩=>?_)
  have I5':=I5.pinned (stat fr5) (T.obj _ _ st5)
  refine wpAny_passesOwn hp (thn (hg _ s5 σ3 H5 x u _ I5' r5 (step x H5 y5)) fun _ s6 ⟨σ6,H6,I6,q6⟩=>?_)
  refine wpAny_passesOwn hp (thn (hb _ s6 σ6 H6 _ I6 q6) fun f s7 q7=>?_)
  have again:∀{σ7:St} {H7:Hp},Inv X (pins++pinsAt fp s5.heap) σ7 H7 s7→N σ7 H7→∃m,m<n∧∃i σ' H',Inv X pins σ' H' s7∧tn i s7.heap∧(∀b∈fp,H' b=none)∧W i m σ' H':=fun{σ7 H7} I7 n7=>by
   obtain⟨m',hm,w7⟩:=hN σ7 H7 n7
   refine⟨m',hm,i+1,σ7,H7,I7.unpinned,T.keep _ _ _ st5 fun b hb o e=>(I7.pin (b,o) (mem_append_right _ (mem_append_right _ (mem_pinsAt hb e)))).1,fun b hb=>?_,w7⟩
   obtain⟨o,e,d⟩:=T.obj _ _ st5 b hb
   exact(I7.pin (b,o) (mem_append_right _ (mem_append_right _ (mem_pinsAt hb e)))).2.1
  cases f with
  |next=>obtain⟨σ7,H7,I7,n7⟩:=q7;exact again I7 n7
  |cont=>obtain⟨σ7,H7,I7,n7⟩:=q7;exact again I7 n7
  |brk=>obtain⟨σ7,H7,I7,q7⟩:=q7;exact⟨σ7,H7,I7.unpinned,q7⟩
  |ret v=>obtain⟨x7,σ7,H7,I7,r7,q7⟩:=q7;exact⟨x7,σ7,H7,I7.unpinned,r7,q7⟩
end
theorem for_tup {K:W.Frag}{a:Addr}{xs:List V}{g:TG}{tb:TS}{D:Ends}{σ:St}{H:Hp}(Pv:Nat→St→Hp→Prop)(h0:Pv 0 σ H)(hl:∀i σ H,i≤xs.length→Pv i σ H→SqT K H a xs)
 (hs:∀i x σ H,xs[i]?=some x→Pv i σ H→g x σ H fun σ2 H2=>tb {D with nx:=Pv (i+1),ct:=Pv (i+1),bk:=D.nx} σ2 H2) (hd:∀σ H,Pv xs.length σ H→D.nx σ H) :
 ∃W:Nat→Nat→St→Hp→Prop,(∃m,W 0 m σ H)∧∀i m σ H,W i m σ H→
  ((Itt K a).stop i H∧D.nx σ H)∨((Itt K a).go i H∧∃N:St→Hp→Prop,(∀σ' H',N σ' H'→∃m',m'<m∧W (i+1) m' σ' H')∧∀x H',(Itt K a).yld i H x H'→g x σ H' fun σ2 H2=>tb {D with nx:=N,ct:=N,bk:=D.nx} σ2 H2):=by
 refine⟨fun i m σ H=>m=xs.length - i∧i≤xs.length∧Pv i σ H,⟨xs.length,by simp,Nat.zero_le _,h0⟩,?_⟩
 rintro i m σ H ⟨rfl,hi,p⟩
 have q:=hl i σ H hi p
 by_cases hlt:i<xs.length
 ·refine .inr ⟨⟨xs,xs[i],q,by simp[hlt]⟩,Pv (i+1),fun σ' H' p'=>⟨xs.length - (i+1),by omega,rfl,hlt,p'⟩,fun x H' y=>?_⟩
  obtain⟨e,y⟩:=y
  subst e
  exact hs i x σ _ (y xs q) p
 ·have e:i=xs.length:=by omega
  subst e
  exact .inl ⟨⟨xs,q,Nat.le_refl _⟩,hd σ H p⟩
theorem for_range {lo:Int}{n:Nat}{g:TG}{tb:TS}{D:Ends}{σ:St}{H:Hp}(Pv:Nat→St→Hp→Prop)(h0:Pv 0 σ H)
 (hs:∀i σ H,i<n→Pv i σ H→g (.int (lo+i)) σ H fun σ2 H2=>tb {D with nx:=Pv (i+1),ct:=Pv (i+1),bk:=D.nx} σ2 H2) (hd:∀σ H,Pv n σ H→D.nx σ H) :
 ∃W:Nat→Nat→St→Hp→Prop,(∃m,W 0 m σ H)∧∀i m σ H,W i m σ H→
  ((Itr lo n).stop i H∧D.nx σ H)∨((Itr lo n).go i H∧∃N:St→Hp→Prop,(∀σ' H',N σ' H'→∃m',m'<m∧W (i+1) m' σ' H')∧∀x H',(Itr lo n).yld i H x H'→g x σ H' fun σ2 H2=>tb {D with nx:=N,ct:=N,bk:=D.nx} σ2 H2):=by
 refine⟨fun i m σ H=>m=n - i∧i≤n∧Pv i σ H,⟨n,by simp,Nat.zero_le _,h0⟩,?_⟩
 rintro i m σ H ⟨rfl,hi,p⟩
 by_cases hlt:i<n
 ·refine .inr ⟨hlt,Pv (i+1),fun σ' H' p'=>⟨n - (i+1),by omega,rfl,hlt,p'⟩,fun x H' y=>?_⟩
  obtain⟨e,y⟩:=y
  subst e y
  exact hs i σ _ hlt p
 ·have e:i=n:=by omega
  subst e
  exact .inl ⟨Nat.le_refl _,hd σ H p⟩
theorem while_by {c:TT}{tb:TS}{D:Ends}{σ:St}{H:Hp}(Pv:St→Hp→Prop)(μ:St→Hp→Nat)(h0:Pv σ H)
 (hs:∀σ H,Pv σ H→c σ H fun b H1=>if b=true then tb {D with nx:=fun σ' H'=>Pv σ' H'∧μ σ' H'<μ σ H,ct:=fun σ' H'=>Pv σ' H'∧μ σ' H'<μ σ H,bk:=D.nx} σ H1 else D.nx σ H1)
 (mono:∀σ H Q Q',(∀b H1,Q b H1→Q' b H1)→c σ H Q→c σ H Q'):tWhile c tb D σ H:=by
 refine⟨fun m σ H=>m=μ σ H∧Pv σ H,⟨_,rfl,h0⟩,?_⟩
 rintro m σ H ⟨rfl,p⟩
 refine mono σ H _ _ (fun b H1 q=>?_) (hs σ H p)
 cases b with
 |true=>exact⟨_,fun σ' H' ⟨p',l⟩=>⟨_,l,rfl,p'⟩,q⟩
 |false=>exact q
abbrev R2:=V→V→Hp→VK→Prop
def OpR (X:Cx)(f:Value→Value→Sem Value)(r:R2):Prop:=
 ∀(pins:List (Addr×Obj)) (s:Shared) (σ:St) (H:Hp) (x y:V) (v u:Value) (Q:VK),Inv X pins σ H s→RelV x v→RelV y u→r x y H Q→
  wpAny (model X.prog X.w) X.A (f v u) (EP X pins σ Q) X.xe s
def UnR (X:Cx)(f:Value→Sem Value)(r:V→Hp→VK→Prop):Prop:=
 ∀(pins:List (Addr×Obj)) (s:Shared) (σ:St) (H:Hp) (x:V) (v:Value) (Q:VK),Inv X pins σ H s→RelV x v→r x H Q→
  wpAny (model X.prog X.w) X.A (f v) (EP X pins σ Q) X.xe s
def CallR (X:Cx)(f:Value)(r:List V→Hp→VK→Prop):Prop:=
 ∀(pins:List (Addr×Obj)) (s:Shared) (σ:St) (H:Hp) (xs:List V) (us:List Value) (Q:VK),Inv X pins σ H s→Vals xs us→r xs H Q→
  wpAny (model X.prog X.w) X.A (call f us) (EP X pins σ Q) X.xe s
def TruR (X:Cx)(r:V→Hp→(Bool→Hp→Prop)→Prop):Prop:=
 ∀(pins:List (Addr×Obj)) (s:Shared) (σ:St) (H:Hp) (x:V) (v:Value) (Q:Bool→Hp→Prop),Inv X pins σ H s→RelV x v→r x H Q→
  wpAny (model X.prog X.w) X.A (truthy v) (TP X pins σ Q) X.xe s
def tOp (r:R2)(ta tb:TE):TE:=fun σ H Q=>ta σ H fun x H1=>tb σ H1 fun y H2=>r x y H2 Q
def tUn (r:V→Hp→VK→Prop)(ta:TE):TE:=fun σ H Q=>ta σ H fun x H1=>r x H1 Q
def rI (C:Int→Int→Prop)(g:Int→Int→V):R2:=fun x y H Q=>∃i j,x=.int i∧y=.int j∧C i j∧Q (g i j) H
def rI0 (g:Int→Int→V):R2:=fun x y H Q=>∃i j,x=.int i∧y=.int j∧Q (g i j) H
def rU (g:Int→V):V→Hp→VK→Prop:=fun x H Q=>∃i,x=.int i∧Q (g i) H
section
variable {X:Cx}{a b c:Expr}{ta tb tc:TE}{pos:Pos}
theorem binT (ha:PE X a ta)(hb:PE X b tb){pins:List (Addr×Obj)}{s:Shared}{σ:St}{H:Hp}{R:V→V→Hp→Prop}(I:Inv X pins σ H s)
 (h:ta σ H fun x H1=>tb σ H1 fun y H2=>R x y H2) {Q:Value→Shared→Prop} {f:Value→Value→Sem Value}
 (hf:∀v u s2 x y H2,Inv X pins σ H2 s2→RelV x v→RelV y u→R x y H2→wpAny (model X.prog X.w) X.A (f v u) Q X.xe s2) :
 wpAny (model X.prog X.w) X.A (eval a X.env) (fun v s₁=>wpAny (model X.prog X.w) X.A (eval b X.env) (fun u s₂=>wpAny (model X.prog X.w) X.A (f v u) Q X.xe s₂) X.xe s₁) X.xe s:=by
 refine thn (ha pins s σ H _ I h) fun v s1 ⟨x,H1,I1,r1,q1⟩=>?_
 refine thn (hb pins s1 σ H1 _ I1 q1) fun u s2 ⟨y,H2,I2,r2,q2⟩=>?_
 exact hf v u s2 x y H2 I2 r1 r2 q2
theorem pe_op {op:Operator}{r:R2}(ho:OpR X (binaryOp op) r)(ha:PE X a ta)(hb:PE X b tb):PE X (.BinOp a op b pos) (tOp r ta tb):=by
 intro pins s σ H Q I h
 exact wpAny_BinOp (binT ha hb I h fun v u s2 x y H2 I2 rx ry q=>ho pins s2 σ H2 x y v u Q I2 rx ry q)
theorem pe_un {op:UnaryOp}{r:V→Hp→VK→Prop}(ho:UnR X (unaryOp op) r)(ha:PE X a ta):PE X (.UnaryOp op a pos) (tUn r ta):=by
 intro pins s σ H Q I h
 exact UnaryOp_ (thn (ha pins s σ H _ I h) fun v s1 ⟨x,H1,I1,r1,q1⟩=>ho pins s1 σ H1 x v Q I1 r1 q1)
theorem opI {f:Value→Value→Sem Value}{C:Int→Int→Prop}{g:Int→Int→Int}
 (rule:∀(i j:Int) (t u:Tok) (s:Shared) (Q:Value→Shared→Prop) (E:Value→Shared→Prop),C i j→Q (.int (g i j) s.toks) {s with toks:=s.toks+1}→wpAny (model X.prog X.w) X.A (f (.int i t) (.int j u)) Q E s) :
 OpR X f (rI C fun i j=>.int (g i j)):=by
 intro pins s σ H x y v u Q I rx ry h
 obtain⟨i,j,rfl,rfl,hc,q⟩:=h
 obtain⟨t,rfl⟩:=rx
 obtain⟨t',rfl⟩:=ry
 exact rule i j t t' s _ _ hc ⟨.int (g i j),H,I.tok _,⟨_,rfl⟩,q⟩
theorem opI0 {f:Value→Value→Sem Value}{g:Int→Int→Int}
 (rule:∀(i j:Int) (t u:Tok) (s:Shared) (Q:Value→Shared→Prop) (E:Value→Shared→Prop),Q (.int (g i j) s.toks) {s with toks:=s.toks+1}→wpAny (model X.prog X.w) X.A (f (.int i t) (.int j u)) Q E s) :
 OpR X f (rI0 fun i j=>.int (g i j)):=by
 intro pins s σ H x y v u Q I rx ry h
 obtain⟨i,j,rfl,rfl,q⟩:=h
 obtain⟨t,rfl⟩:=rx
 obtain⟨t',rfl⟩:=ry
 exact rule i j t t' s _ _ ⟨.int (g i j),H,I.tok _,⟨_,rfl⟩,q⟩
theorem opB0 {f:Value→Value→Sem Value}{g:Int→Int→Bool}
 (rule:∀(i j:Int) (t u:Tok) (s:Shared) (Q:Value→Shared→Prop) (E:Value→Shared→Prop),Q (.bool (g i j)) s→wpAny (model X.prog X.w) X.A (f (.int i t) (.int j u)) Q E s) :
 OpR X f (rI0 fun i j=>.bl (g i j)):=by
 intro pins s σ H x y v u Q I rx ry h
 obtain⟨i,j,rfl,rfl,q⟩:=h
 obtain⟨t,rfl⟩:=rx
 obtain⟨t',rfl⟩:=ry
 exact rule i j t t' s _ _ ⟨.bl (g i j),H,I,rfl,q⟩
def CDiv (i j:Int):Prop:=0<j∧j<1073741824
def CPow (i j:Int):Prop:=0≤j∧j≤1000000∧i.natAbs<2^64
def CMul (i j:Int):Prop:=(-(2^64)<i∧i<2^64)∨(-(2^64)<j∧j<2^64)
theorem CMul.ok {i j:Int}(h:CMul i j):IntMulOk i j:=by
 rcases h with⟨h1,h2⟩ | ⟨h1,h2⟩
 ·exact .of_left (intBits_le_64 h1 h2)
 ·exact .of_right (intBits_le_64 h1 h2)
theorem op_add:OpR X (binaryOp .Add) (rI0 fun i j=>.int (i+j)):=opI0 fun _ _ _ _ _ _ _ q=>add_int q
theorem op_sub:OpR X (binaryOp .Sub) (rI0 fun i j=>.int (i - j)):=opI0 fun _ _ _ _ _ _ _ q=>sub_int q
theorem op_mul:OpR X (binaryOp .Mult) (rI CMul fun i j=>.int (i*j)):=opI fun _ _ _ _ _ _ _ hc q=>mul_int q hc.ok
theorem op_fdiv:OpR X (binaryOp .FloorDiv) (rI CDiv fun i j=>.int (i / j)):=opI fun i j _ _ _ _ _ hc q=>by
 have h1:(0:Int)<j:=hc.1
 have h2:j<1073741824:=hc.2
 exact floordiv_int (by omega) (by rw[Int.fdiv_eq_ediv_of_nonneg i (by omega)];exact q) (.inl (PyProof.noPylong_small (by omega)))
theorem op_mod:OpR X (binaryOp .Mod) (rI (fun _ j=>0<j) fun i j=>.int (i % j)):=opI fun i j _ _ _ _ _ hc q=>by
 have h1:(0:Int)<j:=hc
 exact mod_int' (by omega) (by rw[Int.fmod_eq_emod_of_nonneg i (by omega)];exact q)
theorem op_pow:OpR X (binaryOp .Pow) (rI CPow fun i j=>.int (i^j.toNat)):=opI fun _ _ _ _ _ _ _ hc q=>pow_int_small hc.1 hc.2.1 hc.2.2 q
theorem unI {f:Value→Sem Value}{g:Int→Int}
 (rule:∀(i:Int) (t:Tok) (s:Shared) (Q:Value→Shared→Prop) (E:Value→Shared→Prop),Q (.int (g i) s.toks) {s with toks:=s.toks+1}→wpAny (model X.prog X.w) X.A (f (.int i t)) Q E s) :
 UnR X f (rU fun i=>.int (g i)):=by
 intro pins s σ H x v Q I rx h
 obtain⟨i,rfl,q⟩:=h
 obtain⟨t,rfl⟩:=rx
 exact rule i t s _ _ ⟨.int (g i),H,I.tok _,⟨_,rfl⟩,q⟩
theorem un_neg:UnR X (unaryOp .USub) (rU fun i=>.int (-i)):=unI fun _ _ _ _ _ q=>neg_int q
end
def scal:V→V→Bool
 | .non,.non=>true | .non,.int _=>true | .int _,.non=>true | .non,.bl _=>true | .bl _,.non=>true | .non,.str _=>true | .str _,.non=>true
 | .int _,.int _=>true | .bl _,.bl _=>true | .str _,.str _=>true | .byt _,.byt _=>true
 | .int _,.str _=>true | .str _,.int _=>true | .bl _,.str _=>true | .str _,.bl _=>true
 |_,_=>false
def rEq:R2:=fun x y H Q=>scal x y=true∧Q (.bl (decide (x=y))) H
def rNe:R2:=fun x y H Q=>scal x y=true∧Q (.bl (!decide (x=y))) H
theorem dec_int {i j:Int}:decide (V.int i=V.int j)=(i==j):=by
 rw[Bool.eq_iff_iff]
 simp
theorem dec_bl {i j:Bool}:decide (V.bl i=V.bl j)=(i==j):=by
 rw[Bool.eq_iff_iff]
 simp
theorem dec_str {i j:Str}:decide (V.str i=V.str j)=(i==j):=by
 rw[Bool.eq_iff_iff]
 simp
theorem dec_byt {i j:Array UInt8}:decide (V.byt i=V.byt j)=(i.toList==j.toList):=by
 rw[Bool.eq_iff_iff]
 cases i
 cases j
 simp
section
variable {X:Cx}{a b c:Expr}{ta tb tc:TE}{pos:Pos}
theorem fin_bl {pins:List (Addr×Obj)}{σ:St}{H:Hp}{s:Shared}{Q:VK}{k k':Bool}(I:Inv X pins σ H s)(q:Q (.bl k) H)(e:k=k'):EP X pins σ Q (.bool k') s:=by
 subst e
 exact⟨.bl k,H,I,rfl,q⟩
theorem op_eq:OpR X (compareOp .Eq) rEq:=by
 intro pins s σ H x y v u Q I rx ry h
 obtain⟨hs,q⟩:=h
 cases x with
 |non=>
  cases rx
  cases y with
  |non=>cases ry;exact PySem.EqNone.eq_none_none (fin_bl I q (by simp))
  |bl j=>cases ry;exact PySem.EqNone.eq_none_bool (fin_bl I q (by simp))
  |int j=>obtain⟨t',rfl⟩:=ry;exact PySem.EqNone.eq_none_int (fin_bl I q (by simp))
  |str j=>obtain⟨t',rfl⟩:=ry;exact PySem.EqNone.eq_none_str (fin_bl I q (by simp))
  |_=>exact absurd (show false=true from hs) Bool.false_ne_true
 |bl i=>
  cases rx
  cases y with
  |non=>cases ry;exact PySem.EqNone.eq_bool_none (fin_bl I q (by simp))
  |bl j=>cases ry;exact eq_bool (fin_bl I q dec_bl)
  |str j=>obtain⟨t',rfl⟩:=ry;exact PySem.EqMixed.eq_bool_str (fin_bl I q (by simp))
  |_=>exact absurd (show false=true from hs) Bool.false_ne_true
 |int i=>
  obtain⟨t,rfl⟩:=rx
  cases y with
  |non=>cases ry;exact PySem.EqNone.eq_int_none (fin_bl I q (by simp))
  |int j=>obtain⟨t',rfl⟩:=ry;exact eq_int (fin_bl I q dec_int)
  |str j=>obtain⟨t',rfl⟩:=ry;exact PySem.EqMixed.eq_int_str (fin_bl I q (by simp))
  |_=>exact absurd (show false=true from hs) Bool.false_ne_true
 |str i=>
  obtain⟨t,rfl⟩:=rx
  cases y with
  |non=>cases ry;exact PySem.EqNone.eq_str_none (fin_bl I q (by simp))
  |bl j=>cases ry;exact PySem.EqMixed.eq_str_bool (fin_bl I q (by simp))
  |int j=>obtain⟨t',rfl⟩:=ry;exact PySem.EqMixed.eq_str_int (fin_bl I q (by simp))
  |str j=>obtain⟨t',rfl⟩:=ry;exact eq_str (fin_bl I q dec_str)
  |_=>exact absurd (show false=true from hs) Bool.false_ne_true
 |byt i=>
  obtain⟨t,rfl⟩:=rx
  cases y with
  |byt j=>obtain⟨t',rfl⟩:=ry;exact PySem.W.eq_bytes (fin_bl I q dec_byt)
  |_=>exact absurd (show false=true from hs) Bool.false_ne_true
 |_=>cases y<;>exact absurd (show false=true from hs) Bool.false_ne_true
theorem op_ne:OpR X (compareOp .NotEq) rNe:=by
 intro pins s σ H x y v u Q I rx ry h
 obtain⟨hs,q⟩:=h
 cases x with
 |non=>
  cases rx
  cases y with
  |non=>cases ry;exact PySem.EqNone.ne_none_none (fin_bl I q (by simp))
  |bl j=>cases ry;exact PySem.EqNone.ne_none_bool (fin_bl I q (by simp))
  |int j=>obtain⟨t',rfl⟩:=ry;exact PySem.EqNone.ne_none_int (fin_bl I q (by simp))
  |str j=>obtain⟨t',rfl⟩:=ry;exact PySem.EqNone.ne_none_str (fin_bl I q (by simp))
  |_=>exact absurd (show false=true from hs) Bool.false_ne_true
 |bl i=>
  cases rx
  cases y with
  |non=>cases ry;exact PySem.EqNone.ne_bool_none (fin_bl I q (by simp))
  |bl j=>cases ry;exact ne_bool (fin_bl I q (congrArg not dec_bl))
  |str j=>obtain⟨t',rfl⟩:=ry;exact PySem.EqMixed.ne_bool_str (fin_bl I q (by simp))
  |_=>exact absurd (show false=true from hs) Bool.false_ne_true
 |int i=>
  obtain⟨t,rfl⟩:=rx
  cases y with
  |non=>cases ry;exact PySem.EqNone.ne_int_none (fin_bl I q (by simp))
  |int j=>obtain⟨t',rfl⟩:=ry;exact ne_int (fin_bl I q (congrArg not dec_int))
  |str j=>obtain⟨t',rfl⟩:=ry;exact PySem.EqMixed.ne_int_str (fin_bl I q (by simp))
  |_=>exact absurd (show false=true from hs) Bool.false_ne_true
 |str i=>
  obtain⟨t,rfl⟩:=rx
  cases y with
  |non=>cases ry;exact PySem.EqNone.ne_str_none (fin_bl I q (by simp))
  |bl j=>cases ry;exact PySem.EqMixed.ne_str_bool (fin_bl I q (by simp))
  |int j=>obtain⟨t',rfl⟩:=ry;exact PySem.EqMixed.ne_str_int (fin_bl I q (by simp))
  |str j=>obtain⟨t',rfl⟩:=ry;exact ne_str (fin_bl I q (congrArg not dec_str))
  |_=>exact absurd (show false=true from hs) Bool.false_ne_true
 |byt i=>
  obtain⟨t,rfl⟩:=rx
  cases y with
  |byt j=>obtain⟨t',rfl⟩:=ry;exact PySem.W.ne_bytes (fin_bl I q (congrArg not dec_byt))
  |_=>exact absurd (show false=true from hs) Bool.false_ne_true
 |_=>cases y<;>exact absurd (show false=true from hs) Bool.false_ne_true
theorem op_lt:OpR X (compareOp .Lt) (rI0 fun i j=>.bl (decide (i<j))):=opB0 fun _ _ _ _ _ _ _ q=>lt_int q
theorem op_le:OpR X (compareOp .LtE) (rI0 fun i j=>.bl (decide (i≤j))):=opB0 fun _ _ _ _ _ _ _ q=>le_int q
theorem op_gt:OpR X (compareOp .Gt) (rI0 fun i j=>.bl (decide (j<i))):=opB0 fun _ _ _ _ _ _ _ q=>gt_int q
theorem op_ge:OpR X (compareOp .GtE) (rI0 fun i j=>.bl (decide (j≤i))):=opB0 fun _ _ _ _ _ _ _ q=>ge_int q
theorem op_in_str:OpR X (compareOp .In) (fun x y H Q=>∃i j,x=.str i∧y=.str j∧Q (.bl (!(Builtin.Str.occurrences j i 0 j.length 1).isEmpty)) H):=by
 intro pins s σ H x y v u Q I rx ry h
 obtain⟨i,j,rfl,rfl,q⟩:=h
 obtain⟨t,rfl⟩:=rx
 obtain⟨t',rfl⟩:=ry
 exact in_str (fin_bl I q rfl)
theorem op_isN:OpR X (compareOp .Is) (fun x y H Q=>y=.non∧Q (.bl (decide (x=.non))) H):=by
 intro pins s σ H x y v u Q I rx ry h
 obtain⟨rfl,q⟩:=h
 cases ry
 refine is_none_gen (fin_bl I q ?_)
 cases x<;>first
  |(cases rx;rfl)
  |(obtain⟨t,rfl⟩:=rx;rfl)
theorem op_notN:OpR X (compareOp .IsNot) (fun x y H Q=>y=.non∧Q (.bl (!decide (x=.non))) H):=by
 intro pins s σ H x y v u Q I rx ry h
 obtain⟨rfl,q⟩:=h
 cases ry
 refine isnot_none_gen (fin_bl I q ?_)
 cases x<;>first
  |(cases rx;rfl)
  |(obtain⟨t,rfl⟩:=rx;rfl)
theorem nomark (b:Expr){op:CmpOp}(h:op≠.In:=by decide)(h2:op≠.NotIn:=by decide):behindInMarks op b=false:=by
 have e1:(op==CmpOp.In)=false:=by cases op<;>first | rfl | exact absurd rfl h
 have e2:(op==CmpOp.NotIn)=false:=by cases op<;>first | rfl | exact absurd rfl h2
 cases b<;>simp[behindInMarks,e1,e2]
theorem pe_cmpR {op:CmpOp}{r:R2}(ho:OpR X (compareOp op) r)(ha:PE X a ta)(hb:PE X b tb)(hm:behindInMarks op b=false):PE X (.Compare a [op] [b] pos) (tOp r ta tb):=by
 intro pins s σ H Q I h
 exact wpAny_Compare1 (binT ha hb I h fun v u s2 x y H2 I2 rx ry q=>ho pins s2 σ H2 x y v u Q I2 rx ry q) hm
def tTest (t:TE):TT:=fun σ H Q=>t σ H fun x H'=>∃k,x=.bl k∧Q k H'
theorem pt_cmpR {op:CmpOp}{r:R2}(ho:OpR X (compareOp op) r)(ha:PE X a ta)(hb:PE X b tb)(hm:behindInMarks op b=false):PT X (.Compare a [op] [b] pos) (tTest (tOp r ta tb)):=by
 intro pins s σ H Q I h
 refine wpAny_isTrue_Compare1 (thn (ha pins s σ H _ I h) fun v s1 ⟨x,H1,I1,r1,q1⟩=>thn (hb pins s1 σ H1 _ I1 q1) fun u s2 ⟨y,H2,I2,r2,q2⟩=>
  thn (ho pins s2 σ H2 x y v u _ I2 r1 r2 q2) fun c s3 ⟨z,H3,I3,r3,k,e,q3⟩=>?_) hm
 subst e
 cases r3
 exact wpAny_truthy_bool ⟨H3,I3,q3⟩
def tChain (r r':R2)(ta tb tc:TE):TE:=fun σ H Q=>ta σ H fun x H1=>tb σ H1 fun y H2=>r x y H2 fun z H3=>∃k,z=.bl k∧
 (if k=true then tc σ H3 fun w' H4=>r' y w' H4 Q else Q (.bl false) H3)
theorem pe_chain {op op':CmpOp}{r r':R2}(ho:OpR X (compareOp op) r)(ho':OpR X (compareOp op') r')(ha:PE X a ta)(hb:PE X b tb)(hc:PE X c tc)
 (hm:lastMarks [op,op'] [b,c]=false:=by with_unfolding_all rfl):PE X (.Compare a [op,op'] [b,c] pos) (tChain r r' ta tb tc):=by
 intro pins s σ H Q I h
 refine Compare_chain (thn (ha pins s σ H _ I h) fun v s1 ⟨x,H1,I1,r1,q1⟩=>chain_link (thn (hb pins s1 σ H1 _ I1 q1) fun u s2 ⟨y,H2,I2,r2,q2⟩=>
  thn (ho pins s2 σ H2 x y v u _ I2 r1 r2 q2) fun d s3 ⟨z,H3,I3,r3,k,e,q3⟩=>?_)) hm
 subst e
 cases r3
 refine wpAny_truthy_bool ?_
 cases k with
 |false=>exact ite_ff ⟨.bl false,H3,I3,rfl,q3⟩
 |true=>exact ite_tt (chain_last (thn (hc pins s3 σ H3 _ I3 q3) fun w' s4 ⟨z',H4,I4,r4,q4⟩=>ho' pins s4 σ H4 y z' u w' Q I4 r2 r4 q4))
theorem pt_chain {op op':CmpOp}{r r':R2}(ho:OpR X (compareOp op) r)(ho':OpR X (compareOp op') r')(ha:PE X a ta)(hb:PE X b tb)(hc:PE X c tc)
 (hm:lastMarks [op,op'] [b,c]=false:=by with_unfolding_all rfl):PT X (.Compare a [op,op'] [b,c] pos) (tTest (tChain r r' ta tb tc)):=by
 intro pins s σ H Q I h
 refine isTrue_chain (thn (ha pins s σ H _ I h) fun v s1 ⟨x,H1,I1,r1,q1⟩=>test_link (thn (hb pins s1 σ H1 _ I1 q1) fun u s2 ⟨y,H2,I2,r2,q2⟩=>
  thn (ho pins s2 σ H2 x y v u _ I2 r1 r2 q2) fun d s3 ⟨z,H3,I3,r3,k,e,q3⟩=>?_)) hm
 subst e
 cases r3
 refine wpAny_truthy_bool ?_
 cases k with
 |false=>
  obtain⟨k',e',q'⟩:=q3
  cases e'
  exact ite_ff ⟨H3,I3,q'⟩
 |true=>
  refine ite_tt (test_last (thn (hc pins s3 σ H3 _ I3 q3) fun w' s4 ⟨z',H4,I4,r4,q4⟩=>thn (ho' pins s4 σ H4 y z' u w' _ I4 r2 r4 q4) fun d' s5 ⟨z2,H5,I5,r5,k2,e2,q5⟩=>?_))
  subst e2
  cases r5
  exact wpAny_truthy_bool ⟨H5,I5,q5⟩
def TruV (K:W.Frag)(x:V)(H:Hp)(k:Bool):Prop:=
 match x with
 | .non=>k=false
 | .bl b=>k=b
 | .int i=>k=(i !=0)
 | .str y=>y.length≤sizeLine∧k=((y.length:Int) !=0)
 | .byt y=>y.size≤sizeLine∧k=((y.size:Int) !=0)
 | .ref p=>(∃xs,SqL K H p xs∧k=!xs.isEmpty)∨(∃xs,SqT K H p xs∧k=!xs.isEmpty)∨∃kvs,H p=some (.dK kvs)∧k=!kvs.isEmpty
 |_=>False
theorem isEmpty_kv {κ:Type}{kvs:List (κ×V)}{vs:List (κ×Value)}(r:KV kvs vs):(!vs.isEmpty)=!kvs.isEmpty:=by
 cases r<;>rfl
theorem isEmpty_of {xs:List V}{its:List Value}(r:Vals xs its):(!its.toArray.isEmpty)=!xs.isEmpty:=by
 cases r<;>simp
theorem line63:(sizeLine:Nat)<2^63:=by rw[sizeLine_eq];decide
theorem tru_ok:TruR X (fun x H Q=>∃k,TruV X.K x H k∧Q k H):=by
 intro pins s σ H x v Q I rx h
 obtain⟨k,e,q⟩:=h
 have hl:=line63
 have hs:sizeLine=16777216:=sizeLine_eq
 cases x with
 |non=>
  cases rx
  have e':k=false:=e
  subst e'
  exact truthy_none ⟨H,I,q⟩
 |bl b=>
  cases rx
  have e':k=b:=e
  subst e'
  exact wpAny_truthy_bool ⟨H,I,q⟩
 |int i=>
  obtain⟨t,rfl⟩:=rx
  have e':k=(i !=0):=e
  subst e'
  exact PySem.P.truthy_int ⟨H,I,q⟩
 |str y=>
  obtain⟨t,rfl⟩:=rx
  obtain⟨hy,e'⟩:y.length≤sizeLine∧k=((y.length:Int) !=0):=e
  subst e'
  exact PySem.P.truthy_str (by omega) ⟨H,I.tok _,q⟩
 |byt y=>
  obtain⟨t,rfl⟩:=rx
  obtain⟨hy,e'⟩:y.size≤sizeLine∧k=((y.size:Int) !=0):=e
  subst e'
  exact PySem.W.truthy_bytes (by omega) ⟨H,I.tok _,q⟩
 |ref p=>
  cases rx
  have e':(∃xs,SqL X.K H p xs∧k=!xs.isEmpty)∨(∃xs,SqT X.K H p xs∧k=!xs.isEmpty)∨∃kvs,H p=some (.dK kvs)∧k=!kvs.isEmpty:=e
  rcases e' with⟨xs,hx,e'⟩ | ⟨xs,hx,e'⟩ | ⟨kvs,hx,e'⟩
  ·subst e'
   obtain⟨its,r,pl,hz⟩:=I.list hx
   have hlen:=r.length
   exact wpAny_truthy_list pl.isList (by simp only[size_toArray];omega) ⟨H,I.tok _,by rw[isEmpty_of r];exact q⟩
  ·subst e'
   obtain⟨its,r,pl,hz⟩:=I.tuple hx
   have hlen:=r.length
   exact truthy_tuple pl (by simp only[size_toArray];omega) ⟨H,I.tok _,by rw[isEmpty_of r];exact q⟩
  ·subst e'
   obtain⟨hz,hS,vs,r,m⟩:kvs.length≤sizeLine∧(p==sysModules)=false∧∃vs,KV kvs vs∧s.heap.DictOf (mixKind X.prog X.w) p vs:=I.hok p _ hx
   have hlen:kvs.length=vs.length:=Paired.length r
   exact wpAny_truthy_dict hS m (by omega) ⟨H,I.tok _,by rw[isEmpty_kv r];exact q⟩
 |_=>exact(show False from e).elim
theorem pt_truth (ha:PE X a ta)(he:∀whole,isTrue a X.env whole=(do let v ←whole;standAt a.pos;holding [v] (truthy v))) :
 PT X a (fun σ H Q=>ta σ H fun x H'=>∃k,TruV X.K x H' k∧Q k H'):=by
 intro pins s σ H Q I h
 exact isTrue_plain (thn (ha pins s σ H _ I h) fun v s1 ⟨x,H1,I1,r1,q1⟩=>tru_ok pins s1 σ H1 x v Q I1 r1 q1) (he _)
theorem op_add_str:OpR X (binaryOp .Add) (fun x y H Q=>∃i j,x=.str i∧y=.str j∧i.length+j.length≤sizeLine∧Q (.str (i++j)) H):=by
 intro pins s σ H x y v u Q I rx ry h
 obtain⟨i,j,rfl,rfl,hz,q⟩:=h
 obtain⟨t,rfl⟩:=rx
 obtain⟨t',rfl⟩:=ry
 exact add_str (fun t' tk=>⟨.str (i++j),H,I.tok _,⟨_,rfl⟩,q⟩) hz
def PlainIxT (b:Expr):Prop:=∀o i,subscripted b false o i=operate [o,i] (getItem o i)
theorem pe_item_str (ha:PE X a ta)(hb:PE X b tb)(hs:PlainIxT b) :
 PE X (.Subscript a b pos) (tOp (fun x y H Q=>∃z i c,x=.str z∧y=.int i∧0≤i∧i<2^63∧i<z.length∧z.cps[i.toNat]?=some c∧Q (.str ⟨#[c]⟩) H) ta tb):=by
 intro pins s σ H Q I h
 refine Subscript_ (binT ha hb I h fun v u s2 x y H2 I2 rx ry q=>?_)
 obtain⟨z,i,c,rfl,rfl,h0,h63,h1,hc,q⟩:=q
 obtain⟨t,rfl⟩:=rx
 obtain⟨t',rfl⟩:=ry
 have e:seqIndex? i z.length=some i.toNat:=PySem.StrLaws.seqIndex_nonneg h0 h1
 exact tail_any (typeIs_str s2 z t) slot_str_getitem.lookup (getItem_str (c:=c) (by
  have e1:decide (i < -(2^63:Int))=false:=decide_eq_false (by omega)
  have e2:decide (i≥2^63)=false:=decide_eq_false (by omega)
  rw[e1,e2]<;>rfl) (by rw[e];exact hc) ⟨.str ⟨#[c]⟩,H2,I2.tok _,⟨_,rfl⟩,q⟩) (hs _ _)
theorem vals1 {x:V}{us:List Value}(r:Vals [x] us):∃u,us=[u]∧RelV x u:=by
 cases r with
 |cons r1 r2=>cases r2;exact⟨_,rfl,r1⟩
theorem vals2 {x y:V}{us:List Value}(r:Vals [x,y] us):∃u w',us=[u,w']∧RelV x u∧RelV y w':=by
 cases r with
 |cons r1 r2=>
  cases r2 with
  |cons r3 r4=>cases r4;exact⟨_,_,rfl,r1,r3⟩
theorem call_abs:CallR X (.builtin "abs") (fun xs H Q=>∃i,xs=[.int i]∧Q (.int (if i<0 then -i else i)) H):=by
 intro pins s σ H xs us Q I r h
 obtain⟨i,rfl,q⟩:=h
 obtain⟨u,rfl,t,rfl⟩:=vals1 r
 exact call_abs_int fun u tk=>⟨.int (if i<0 then -i else i),H,I.tok _,⟨_,rfl⟩,q⟩
theorem call_max2 (hc:X.calm=true):CallR X (.builtin "max") (fun xs H Q=>∃i j,xs=[.int i,.int j]∧Q (.int (if j>i then j else i)) H):=by
 intro pins s σ H xs us Q I r h
 obtain⟨i,j,rfl,q⟩:=h
 obtain⟨u,w',rfl,⟨t,rfl⟩,⟨t',rfl⟩⟩:=vals2 r
 refine max_two_ints (I.ok.hd hc) fun h' tk k=>⟨_,H,I.kept k,?_,q⟩
 by_cases hj:j>i
 ·rw[if_pos hj,if_pos hj];exact⟨_,rfl⟩
 ·rw[if_neg hj,if_neg hj];exact⟨_,rfl⟩
theorem call_min2 (hc:X.calm=true):CallR X (.builtin "min") (fun xs H Q=>∃i j,xs=[.int i,.int j]∧Q (.int (if j<i then j else i)) H):=by
 intro pins s σ H xs us Q I r h
 obtain⟨i,j,rfl,q⟩:=h
 obtain⟨u,w',rfl,⟨t,rfl⟩,⟨t',rfl⟩⟩:=vals2 r
 refine min_two_ints (I.ok.hd hc) fun h' tk k=>⟨_,H,I.kept k,?_,q⟩
 by_cases hj:j<i
 ·rw[if_pos hj,if_pos hj];exact⟨_,rfl⟩
 ·rw[if_neg hj,if_neg hj];exact⟨_,rfl⟩
theorem call_int1:CallR X (.type "int") (fun xs H Q=>(∃i,xs=[.int i]∧Q (.int i) H)∨∃k,xs=[.bl k]∧Q (.int (if k then 1 else 0)) H):=by
 intro pins s σ H xs us Q I r h
 rcases h with⟨i,rfl,q⟩ | ⟨k,rfl,q⟩
 ·obtain⟨u,rfl,t,rfl⟩:=vals1 r
  exact call_int_int ⟨.int i,H,I,⟨_,rfl⟩,q⟩
 ·obtain⟨u,rfl,r1⟩:=vals1 r
  cases r1
  exact call_int_bool ⟨.int (if k then 1 else 0),H,I.tok _,⟨_,rfl⟩,q⟩
theorem call_str_int:CallR X (.type "str") (fun xs H Q=>∃i,xs=[.int i]∧i.natAbs.log2<1920∧Q (.str (toString i)) H):=by
 intro pins s σ H xs us Q I r h
 obtain⟨i,rfl,hz,q⟩:=h
 obtain⟨u,rfl,t,rfl⟩:=vals1 r
 exact PySem.P.str_of_int hz ⟨.str _,H,I.tok _,⟨_,rfl⟩,q⟩
end
structure ObjM (h:Heap)(x dx C:Addr)(mA:Str→Option Value):Prop where
 obj:h.get? x=some (PySem.W.instObj C dx)
 ns:h.Ns1 dx mA
 ne:dx≠x
theorem lookIn_ns {h:Heap}{dx:Addr}{mA:Str→Option Value}(n:h.Ns1 dx mA):∃od,h.get? dx=some od∧∀name,PySem.W.lookIn name od=some (mA name):=by
 obtain⟨o,es,ep,ho,hd,hk,_,hm⟩:=n
 refine⟨o,ho,fun name=>?_⟩
 have e:=hm name
 unfold nsFind findBy at e
 rw[←Array.find?_toList]at e
 unfold PySem.W.lookIn
 rw[hd]
 dsimp only
 split
 ·rename_i y q
  rw[q]at e
  exact congrArg some e
 ·rename_i q
  rw[q]at e
  have a:es.toList.any (·.refKey)=false:=by
   rw[List.any_eq_false]
   intro y hy
   obtain⟨z,t,hkey⟩:=hk y (Array.mem_toList_iff.mp hy)
   simp[DictEntry.refKey,hkey]
  have a':¬es.toList.any (·.refKey)=true:=by rw[a];exact Bool.false_ne_true
  rw[if_neg a']
  exact congrArg some e
theorem ObjM.look {h:Heap}{x dx C:Addr}{mA:Str→Option Value}(I:ObjM h x dx C mA):∃od,PySem.W.InstAt h x (PySem.W.instObj C dx) C (some od)∧∀name,PySem.W.lookIn name od=some (mA name):=
 let⟨od,ho,hl⟩:=lookIn_ns I.ns
 ⟨od,⟨I.obj,rfl,rfl,ho⟩,hl⟩
section
variable {prog:Program}{w:World}{A:Around}{E:Value→Shared→Prop}{s:Shared}{K:W.Frag}{x dx C f:Addr}{mA:Str→Option Value}{name:Str}{v:Value}
theorem get_map {expr:Bool}{Q:Value→Shared→Prop}(X:K.In s.heap)(I:ObjM s.heap x dx C mA)(hg:PySem.W.plainGet K C name=true)(hh:PySem.W.hasDictIn K C=true)
 (ha:PySem.W.findIn K (.ref C) name=some none) (hv:mA name=some v) (hv':PySem.W.handedIn v=true) (h:Q v {s with toks:=s.toks+1}) :
 wpAny (model prog w) A (getAttr (.ref x) name expr) Q E s:=by
 obtain⟨od,J,hl⟩:=I.look
 exact PySem.W.get_value X J (PySem.W.plainGet_of hg).1 (PySem.W.findObj_own hh ha rfl (by rw[hl,hv])) hv' h
theorem get_meth {pl:Sem Bool}{Q:Value×List Value→Shared→Prop}(X:K.In s.heap)(I:ObjM s.heap x dx C mA)(hg:PySem.W.plainGet K C name=true)
 (hf:PySem.W.findIn K (.ref C) name=some (some (.ref f))) (ht:PySem.W.isFn K (.ref f)=true) (hv:mA name=none) (h:Q (.ref f,[.ref x]) s) :
 wpAny (model prog w) A (getMethod (.ref x) name pl) Q E s:=by
 obtain⟨od,J,hl⟩:=I.look
 exact PySem.W.method_fn X J (PySem.W.plainGet_of hg).1 (PySem.W.plainGet_of hg).2 hf (beq_iff_eq.mp ht) (by show(PySem.W.lookIn name od).map (·.isSome)=some false;rw[hl,hv];rfl) h
theorem set_map {ns:List Str}{Q:Unit→Shared→Prop}(X:K.In s.heap)(I:ObjM s.heap x dx C mA)
 (hs:PySem.W.findIn K (.ref C) "__setattr__" = some (some (.builtin "object.__setattr__"))) (hp:PySem.W.plainOver K C=true) (ht:PySem.W.takerIn K C name=some none) (hh:PySem.W.hasDictIn K C=true)
 (hw:PySem.Within mA ns) (hsz:ns.length≤sizeLine)
 (h:∀h',ObjM h' x dx C (fun y=>if y=name then some v else mA y)→Heap.SameBut dx s.heap h'→Q () {s with heap:=h',toks:=s.toks+2}) :
 wpAny (model prog w) A (setAttr (.ref x) name v) Q E s:=by
 obtain⟨od,J,hl⟩:=I.look
 refine PySem.W.set_plain X J hs (PySem.W.osa_open (s:={s with toks:=s.toks+1}) (r:=none) X J hp ht fun b=>?_)
 obtain⟨cd,hc,hd'⟩:=PySem.W.any_some hh
 have hx:s.heap.get? x=some ⟨.ref C,some dx,.plain,#[]⟩:=I.obj
 refine wpAny_bind (wpAny_pure (wpAny_bind (wpAny_bind (wpAny_loadPart hx (wpAny_bind (PySem.W.Looks.here (s:={s with toks:=s.toks+1}) (PySem.W.looks_clsIn X hc) ?_))))))
 rw[hd']
 refine wpAny_pure (a:=some dx) (wpAny_bind (wpAny_pure (wpAny_bind ?_)))
 refine wpAny_nsSet1 (s:={s with toks:=s.toks+1}) I.ns fun h' hn2 hs2=>?_
 obtain⟨oD,esD,epD,hoD,hdD,hcD⟩:=hn2.count (PySem.Within.cons name v hw)
 refine wpAny_bind (wpAny_lookBehind hoD (by rw[hdD];exact pastItsLine_dict (Nat.le_trans hcD (by rw[length_cons];omega))) ?_)
 exact wpAny_pure (h _ ⟨(hs2.2 _ (Ne.symm I.ne)).trans I.obj,hn2,I.ne⟩ hs2)
theorem make_map {R:Result→Shared→Prop}{vs:List Value}{kw:List (Str×Value)}(X:K.In s.heap)(hm:PySem.W.makesIn K C=true)
 (hi:PySem.W.findIn K (.ref C) "__init__" = some (some (.ref f))) (hf:PySem.W.typeIn K (.ref f)=some (.type "function"))
 (h:codeAny (model prog w) (A.under (.builtin "type.__call__" ⟨.ref C::vs,kw⟩)) (.call (.ref f) ⟨.ref (s.heap.objs.size+1)::vs,kw⟩) (PySem.W.InitBack (s.heap.objs.size+1) R)
  {s with heap:=(s.heap.push PySem.W.emptyDict).push (PySem.W.instObj C s.heap.objs.size)}) :
 codeAny (model prog w) A (.call (.ref C) ⟨vs,kw⟩) R s:=by
 obtain⟨hh,g,d,t,os⟩:=s
 exact PySem.W.make_core (PySem.W.makes_of X hm) (PySem.W.looks_findIn X hi) (fun self=>PySem.W.bind_fn X self hf) (.inl rfl) h
end
def putF (f:Str)(v:V):List (Str×V)→List (Str×V)
 |[]=>[(f,v)]
 |(g,x)::r=>if g=f then(g,v)::r else(g,x)::putF f v r
theorem lookup_putF (f g:Str)(v:V):∀fs:List (Str×V),(putF f v fs).lookup g=if g=f then some v else fs.lookup g
 |[]=>by
  show List.lookup g [(f,v)]=_
  by_cases h:g=f
  ·have hb:(g==f)=true:=beq_iff_eq.mpr h
   simp only[List.lookup,hb,if_pos h]
  ·have hb:(g==f)=false:=beq_eq_false_iff_ne.mpr h
   simp only[List.lookup,hb,if_neg h]
 |(k,x)::r=>by
  have ih:=lookup_putF f g v r
  rw[show putF f v ((k,x)::r)=(if k=f then(k,v)::r else(k,x)::putF f v r) from rfl]
  by_cases hk:k=f
  ·rw[if_pos hk]
   by_cases h:g=k
   ·have hb:(g==k)=true:=beq_iff_eq.mpr h
    simp only[List.lookup,hb,if_pos (h.trans hk)]
   ·have hb:(g==k)=false:=beq_eq_false_iff_ne.mpr h
    simp only[List.lookup,hb,if_neg (fun e:g=f=>h (e.trans hk.symm))]
  ·rw[if_neg hk]
   by_cases h:g=k
   ·have hb:(g==k)=true:=beq_iff_eq.mpr h
    simp only[List.lookup,hb,if_neg (fun e:g=f=>hk (h.symm.trans e))]
   ·have hb:(g==k)=false:=beq_eq_false_iff_ne.mpr h
    simp only[List.lookup,hb]
    exact ih
theorem keys_putF (f:Str)(v:V):∀fs:List (Str×V),f∈(putF f v fs).map (·.1)∧∀g,g∈fs.map (·.1)→g∈(putF f v fs).map (·.1)
 |[]=>⟨by simp[putF],fun g h=>by simp at h⟩
 |(k,x)::r=>by
  obtain⟨i1,i2⟩:=keys_putF f v r
  rw[show putF f v ((k,x)::r)=(if k=f then(k,v)::r else(k,x)::putF f v r) from rfl]
  by_cases hk:k=f
  ·rw[if_pos hk]
   subst hk
   exact⟨by simp,fun g h=>by simpa using h⟩
  ·rw[if_neg hk]
   refine⟨?_,fun g h=>?_⟩
   ·rw[map_cons]
    exact mem_cons_of_mem _ i1
   ·rw[map_cons]at h ⊢
    rcases mem_cons.mp h with e | e
    ·exact mem_cons.mpr (.inl e)
    ·exact mem_cons_of_mem _ (i2 g e)
theorem length_putF (f:Str)(v:V):∀fs:List (Str×V),(putF f v fs).length≤fs.length+1
 |[]=>by simp[putF]
 |(k,x)::r=>by
  have ih:=length_putF f v r
  rw[show putF f v ((k,x)::r)=(if k=f then(k,v)::r else(k,x)::putF f v r) from rfl]
  by_cases hk:k=f
  ·rw[if_pos hk,length_cons,length_cons];omega
  ·rw[if_neg hk,length_cons,length_cons];omega
theorem RelO.some_of {v:V}{o:Option Value}(r:RelO (some v) o):∃u,o=some u∧RelV v u:=by
 cases o with
 |none=>exact(show False from r).elim
 |some u=>exact⟨u,rfl,r⟩
theorem RelO.none_of {o:Option Value}(r:RelO none o):o=none:=by
 cases o with
 |none=>rfl
 |some u=>exact(show False from r).elim
theorem handed_of {v:V}{u:Value}(r:RelV v u):PySem.W.handedIn u=true:=by
 cases v with
 |non=>cases(show u=Value.none from r);rfl
 |bl b=>cases(show u=Value.bool b from r);rfl
 |int i=>obtain⟨t,e⟩:=(show ∃t,u=Value.int i t from r);cases e;rfl
 |str x=>obtain⟨t,e⟩:=(show ∃t,u=Value.str x t from r);cases e;rfl
 |byt b=>obtain⟨t,e⟩:=(show ∃t,u=Value.bytes b t from r);cases e;rfl
 |flt b=>obtain⟨t,e⟩:=(show ∃t,u=Value.float b t from r);cases e;rfl
 |ref a=>cases(show u=Value.ref a from r);rfl
 |ty n=>cases(show u=Value.type n from r);rfl
section
variable {P:Program}{w:World}{H H':Hp}{h h':Heap}{a C dx:Addr}{fs fs':List (Str×V)}
theorem ins_get (hok:HOk P w H h)(e:H a=some (.ins C dx fs)):∃mA,ObjM h a dx C mA∧(∀f,RelO (fs.lookup f) (mA f))∧PySem.Within mA (fs.map (·.1))∧fs.length≤1000∧H dx=some (.own a):=by
 obtain⟨d,z,ne,ob,mA,n,r,q⟩:=(show ObjOk P w H h a (.ins C dx fs) from hok a _ e)
 exact⟨mA,⟨ob,n,ne⟩,r,q,z,d⟩
end
structure Cls (K:W.Frag)(C:Addr):Prop where
 pg:PySem.W.plainGet K C Str.empty=true
 hd:PySem.W.hasDictIn K C=true
 po:PySem.W.plainOver K C=true
 sa:PySem.W.findIn K (.ref C) "__setattr__" = some (some (.builtin "object.__setattr__"))
theorem Cls.get {K:W.Frag}{C:Addr}(c:Cls K C)(f:Str):PySem.W.plainGet K C f=true:=c.pg
def NoAttr (K:W.Frag)(C:Addr)(f:Str):Prop:=PySem.W.findIn K (.ref C) f=some none
theorem NoAttr.taker {K:W.Frag}{C:Addr}{f:Str}(n:NoAttr K C f):PySem.W.takerIn K C f=some none:=by
 unfold PySem.W.takerIn
 rw[show PySem.W.findIn K (.ref C) f=some none from n]
 rfl
structure Meth (K:W.Frag)(C:Addr)(m:Str)(f:Addr):Prop where
 at_:PySem.W.findIn K (.ref C) m=some (some (.ref f))
 fn:PySem.W.isFn K (.ref f)=true
 kp:PySem.W.keepIn K (.ref f)=true
section
variable {X:Cx}{pins:List (Addr×Obj)}{σ:St}{H:Hp}{s:Shared}{a C dx:Addr}{fs:List (Str×V)}{f:Str}{v:V}{A:Around}{E:Value→Shared→Prop}
theorem getattr_ok {b:Bool}{Q:Value→Shared→Prop}(I:Inv X pins σ H s)(e:H a=some (.ins C dx fs))(c:Cls X.K C)(n:NoAttr X.K C f)(l:fs.lookup f=some v)
 (h:∀u s',Inv X pins σ H s'→RelV v u→Q u s'):wpAny (model X.prog X.w) A (getAttr (.ref a) f b) Q E s:=by
 obtain⟨mA,O,r,_,_,_⟩:=ins_get I.hok e
 obtain⟨u,hu,ru⟩:=RelO.some_of (v:=v) (o:=mA f) (by rw[←l];exact r f)
 exact get_map I.kIn O (c.get f) c.hd n hu (handed_of ru) (h u _ (I.tok _) ru)
theorem getmeth_ok {m:Str}{g:Addr}{pl:Sem Bool}{Q:Value×List Value→Shared→Prop}(I:Inv X pins σ H s)(e:H a=some (.ins C dx fs))(c:Cls X.K C)(k:Meth X.K C m g)(l:fs.lookup m=none)
 (h:Q (.ref g,[.ref a]) s):wpAny (model X.prog X.w) A (getMethod (.ref a) m pl) Q E s:=by
 obtain⟨mA,O,r,_,_,_⟩:=ins_get I.hok e
 have hn:mA m=none:=RelO.none_of (by rw[←l];exact r m)
 exact get_meth I.kIn O (c.get m) k.at_ k.fn hn h
theorem setattr_ok {y:V}{u:Value}{Q:Unit→Shared→Prop}(I:Inv X pins σ H s)(e:H a=some (.ins C dx fs))(c:Cls X.K C)(n:NoAttr X.K C f)(hl:fs.length<1000)(ry:RelV y u)
 (h:∀s',Inv X pins σ (upd H a (.ins C dx (putF f y fs))) s'→Q () s'):wpAny (model X.prog X.w) A (setAttr (.ref a) f u) Q E s:=by
 obtain⟨mA,O,r,wi,_,ho⟩:=ins_get I.hok e
 have hz:(fs.map (·.1)).length≤sizeLine:=by rw[length_map,sizeLine_eq];omega
 refine set_map I.kIn O c.sa c.po n.taker c.hd wi hz fun h' O' sb=>h _ ?_
 have hd:∃o,h'.get? dx=some o:=let⟨o,_,_,e',_⟩:=O'.ns;⟨o,e'⟩
 refine I.write (x:=a) (e:=dx) (by rw[e];exact True.intro) (.inr ho) (fun b q hb z=>(sb.2 b hb).trans z) hd ?_
 refine⟨by rw[upd_ne O.ne];exact ho,?_,O.ne,O'.obj,_,O'.ns,fun g=>?_,fun g hg=>?_⟩
 ·have:=length_putF f y fs;omega
 ·show RelO ((putF f y fs).lookup g) (if g=f then some u else mA g)
  rw[lookup_putF]
  by_cases q:g=f
  ·rw[if_pos q,if_pos q];exact ry
  ·rw[if_neg q,if_neg q];exact r g
 ·by_cases q:g=f
  ·rw[q];exact(keys_putF f y fs).1
  ·refine(keys_putF f y fs).2 g (wi g fun z=>hg ?_)
   show(if g=f then some u else mA g)=none
   rw[if_neg q];exact z
theorem Inv.made (I:Inv X pins σ H s):Inv X pins σ (upd (upd H s.heap.objs.size (.own (s.heap.objs.size+1))) (s.heap.objs.size+1) (.ins C s.heap.objs.size []))
 {s with heap:=(s.heap.push PySem.W.emptyDict).push (PySem.W.instObj C s.heap.objs.size)}:=by
 have e1:(s.heap.push PySem.W.emptyDict).get? s.heap.objs.size=some PySem.W.emptyDict:=get?_push_size s.heap rfl
 have e2:((s.heap.push PySem.W.emptyDict).push (PySem.W.instObj C s.heap.objs.size)).get? (s.heap.objs.size+1)=some (PySem.W.instObj C s.heap.objs.size):=by
  have:=get?_push_size (s.heap.push PySem.W.emptyDict) (o:=PySem.W.instObj C s.heap.objs.size) rfl
  rwa [size_push]at this
 have e3:(s.heap.push PySem.W.emptyDict).Ns s.heap.objs.size (fun _=>none):=⟨PySem.W.emptyDict,#[],_,e1,rfl,(fun e he=>absurd he (by simp)),fun _=>rfl⟩
 have I1:=I.laid (a:=s.heap.objs.size) (o:=.own (s.heap.objs.size+1)) (h':=s.heap.push PySem.W.emptyDict) (t':=s.toks) (fun b u q=>get?_push_of_some _ q) (Nat.le_refl _) ⟨_,e1⟩
 refine I1.laid (a:=s.heap.objs.size+1) (o:=.ins C s.heap.objs.size []) (t':=s.toks) (fun b u q=>get?_push_of_some _ q) (Nat.le_of_eq (size_push _ _)) ?_
 have ne:s.heap.objs.size≠s.heap.objs.size+1:=Nat.ne_of_lt (Nat.lt_succ_self _)
 refine⟨by rw[upd_ne ne,upd_same],Nat.zero_le _,ne,e2,fun _=>none,(Heap.Ns1.of_empty e3).at fun o q=>get?_push_of_some _ q,fun _=>True.intro,fun y hy=>absurd rfl hy⟩
theorem attr_of {prog:Program}{w:World}{env:Env}{e:Expr}{f:Str}{pos:Pos}{s:Shared}{Q:Value→Shared→Prop}(hb:attributeBase e f env (eval e env)=eval e env)
 (h:wpAny (model prog w) A (eval e env) (fun o s₁=>wpAny (model prog w) A (getAttr o f true) Q E s₁) E s):wpAny (model prog w) A (eval (.Attribute e f pos) env) Q E s:=
 Attribute_any_ h (by rw[arm_eval_Attribute,hb])
end
def tFld (K:W.Frag)(ta:TE)(f:Str):TE:=fun σ H Q=>ta σ H fun x H1=>∃a C dx fs v,x=.ref a∧H1 a=some (.ins C dx fs)∧Cls K C∧NoAttr K C f∧fs.lookup f=some v∧Q v H1
def sFld (K:W.Frag)(ta tv:TE)(f:Str):TS:=fun D σ H=>tv σ H fun y H1=>ta σ H1 fun x H2=>∃a C dx fs,x=.ref a∧H2 a=some (.ins C dx fs)∧Cls K C∧NoAttr K C f∧fs.length<1000∧
 D.nx σ (upd H2 a (.ins C dx (putF f y fs)))
section
variable {X:Cx}{o e value:Expr}{f:Str}{pos pos' tpos:Pos}{ta tv:TE}
theorem pe_fld (he:PE X e ta)(hb:attributeBase e f X.env (eval e X.env)=eval e X.env):PE X (.Attribute e f pos) (tFld X.K ta f):=by
 intro pins s σ H Q I h
 refine attr_of hb (thn (he pins s σ H _ I h) fun u s1 ⟨x,H1,I1,rx,a,C,dx,fs,v,ex,ea,c,n,l,q⟩=>?_)
 subst ex
 obtain rfl:u=Value.ref a:=rx
 exact getattr_ok I1 ea c n l fun u' s2 I2 ru=>⟨v,H1,I2,ru,q⟩
theorem ps_fld (ha:PE X o ta)(hv:PE X value tv)(hs:swapsWith value (some (.Attribute o f pos')) pos.line X.env=pure false):PS X (.Assign [.Attribute o f pos'] value pos) (sFld X.K ta tv f):=by
 intro pins s σ H D I h
 refine plainObj_wpAny_Assign_Attribute (thn (hv pins s σ H _ I h) fun u s1 ⟨y,H1,I1,ry,q⟩=>thn (ha pins s1 σ H1 _ I1 q) fun ov s2 ⟨x,H2,I2,rx,a,C,dx,fs,ex,ea,c,n,l,q2⟩=>?_) hs
 subst ex
 obtain rfl:ov=Value.ref a:=rx
 exact setattr_ok I2 ea c n l ry fun s3 I3=>⟨σ,_,I3,q2⟩
end
section
variable {X:Cx}{pins:List (Addr×Obj)}{σ:St}{H:Hp}{s:Shared}{A:Around}{E:Value→Shared→Prop}{Q:Value→Shared→Prop}{c:Value}{b:Bool}
inductive TyOf (K:W.Frag) (H:Hp):V→Value→Prop where
 |non:TyOf K H .non (.type "NoneType")
 |bl (x:Bool):TyOf K H (.bl x) (.type "bool")
 |int (i:Int):TyOf K H (.int i) (.type "int")
 |str (x:Str):TyOf K H (.str x) (.type "str")
 |flt (x:UInt64):TyOf K H (.flt x) (.type "float")
 |lst {a:Addr} {xs:List V} (e:H a=some (.lst xs)):TyOf K H (.ref a) (.type "list")
 |frz {a:Addr} {o:Obj} {xs:List V} (e:H a=some (.frz o (.lst xs))):TyOf K H (.ref a) (.type "list")
 |tup {a:Addr} {xs:List V} (e:H a=some (.tup xs)):TyOf K H (.ref a) (.type "tuple")
 |dK {a:Addr} {kvs:List (Key×V)} (e:H a=some (.dK kvs)):TyOf K H (.ref a) (.type "dict")
 |dT {a:Addr} {kvs:List (List Key×V)} (e:H a=some (.dT kvs)):TyOf K H (.ref a) (.type "dict")
 |ins {a C dx:Addr} {fs:List (Str×V)} (e:H a=some (.ins C dx fs)) (cl:Cls K C) (ha:PySem.W.findIn K (.ref C) "__class__" = some (some (.builtin "object.__class__")))
  (hn:PySem.W.specialIn K (.builtin "object.__class__") "__get__" = some (some (.builtin "getset_descriptor.__get__"))) (htk:PySem.W.takesIn K (.builtin "object.__class__")=some true)
  (hm:PySem.W.mroIn K C (.type "object")=some true):TyOf K H (.ref a) (.ref C)
theorem isinst_ok {x:V}{u t:Value}(I:Inv X pins σ H s)(rx:RelV x u)(ty:TyOf X.K H x t)(e:PySem.W.kitOne X.K t c=some b)(h:∀tk,Q (.bool b) {s with toks:=tk}) :
 wpAny (model X.prog X.w) A (call (.builtin "isinstance") [u,c]) Q E s:=by
 cases ty with
 |non=>cases(show u=Value.none from rx);exact PySem.W.kia_one PySem.W.kitx_none I.kIn True.intro e (fun z=>nomatch z) h
 |bl y=>cases(show u=Value.bool y from rx);exact PySem.W.kia_one PySem.W.kitx_bool I.kIn True.intro e (fun z=>nomatch z) h
 |int i=>obtain⟨t,q⟩:=(show ∃t,u=Value.int i t from rx);cases q;exact PySem.W.kia_one PySem.W.kitx_int I.kIn True.intro e (fun z=>nomatch z) h
 |str y=>obtain⟨t,q⟩:=(show ∃t,u=Value.str y t from rx);cases q;exact PySem.W.kia_one PySem.W.kitx_str I.kIn True.intro e (fun z=>nomatch z) h
 |flt y=>obtain⟨t,q⟩:=(show ∃t,u=Value.float y t from rx);cases q;exact PySem.W.kia_one PySem.W.kitx_float I.kIn True.intro e (fun z=>nomatch z) h
 | @lst a xs ea=>
   cases(show u=Value.ref a from rx)
   obtain⟨_,_,n,_,h1⟩:=(show ObjOk X.prog X.w H s.heap a (.lst xs) from I.hok a _ ea)
   exact PySem.W.kia_one PySem.W.kitx_list I.kIn ⟨_,h1,rfl⟩ e (fun z=>nomatch z) h
 | @frz a ob xs ea=>
   cases(show u=Value.ref a from rx)
   obtain⟨_,_,_,n,_,h1⟩:=(show ObjOk X.prog X.w H s.heap a (.frz ob (.lst xs)) from I.hok a _ ea)
   exact PySem.W.kia_one PySem.W.kitx_list I.kIn ⟨_,h1,rfl⟩ e (fun z=>nomatch z) h
 | @tup a xs ea=>
   cases(show u=Value.ref a from rx)
   obtain⟨_,_,_,p⟩:=(show ObjOk X.prog X.w H s.heap a (.tup xs) from I.hok a _ ea)
   obtain⟨o,h1,h2,_⟩:=p
   exact PySem.W.kia_one PySem.W.kitx_tuple I.kIn ⟨o,h1,h2⟩ e (fun z=>nomatch z) h
 | @dK a kvs ea=>
   cases(show u=Value.ref a from rx)
   obtain⟨_,_,vs,_,p⟩:=(show ObjOk X.prog X.w H s.heap a (.dK kvs) from I.hok a _ ea)
   obtain⟨o,es,ep,h1,h2,_⟩:=p
   exact PySem.W.kia_one PySem.W.kitx_dict I.kIn ⟨o,h1,h2.1⟩ e (fun z=>nomatch z) h
 | @dT a kvs ea=>
   cases(show u=Value.ref a from rx)
   obtain⟨_,_,xs,_,o,es,ep,h1,h2,_⟩:=(show ObjOk X.prog X.w H s.heap a (.dT kvs) from I.hok a _ ea)
   exact PySem.W.kia_one PySem.W.kitx_dict I.kIn ⟨o,h1,h2.1⟩ e (fun z=>nomatch z) h
 | @ins a C dx fs ea cl ha hn htk hm=>
   cases(show u=Value.ref a from rx)
   obtain⟨mA,O,_⟩:=ins_get I.hok ea
   obtain⟨od,J,_⟩:=O.look
   exact PySem.W.kia_one (PySem.W.kitx_own (cl.get _) cl.hd ha hn htk hm) I.kIn J e (fun z=>nomatch z) h
end
structure Room (k:Nat)(A:Around):Prop where
 hd:A.handled=none
 dp:A.depth+3*k+5<recursionLimit
 un:A.units+16*k+200<cLine
theorem Room.mono {j k:Nat}{A:Around}(r:Room k A)(h:j≤k):Room j A:=⟨r.hd,by have:=r.dp;omega,by have:=r.un;omega⟩
theorem Room.deeper {k:Nat}{A:Around}(r:Room (k+1) A)(env:Env):Room k (A.deeper env):=
 ⟨r.hd,by have:=r.dp;show A.depth+1+3*k+5<_;omega,by have:=r.un;show A.units+3+16*k+200<_;omega⟩
theorem make_depth {A:Around}{C:Addr}{us:List Value}{kw:List (Str×Value)}:(A.under (.builtin "type.__call__" ⟨.ref C::us,kw⟩)).depth=A.depth+1:=by
 first | rfl | simp[Around.under,Code.weight,Code.isCreation,Code.isGuard,Code.isCaller,Code.frames,Code.isFrame,guardIds]
theorem make_units {A:Around}{C:Addr}{us:List Value}{kw:List (Str×Value)}:(A.under (.builtin "type.__call__" ⟨.ref C::us,kw⟩)).units=A.units+1:=by
 first | rfl | simp[Around.under,Code.cUnits,Code.frames,Code.isFrame]
theorem Room.make {k:Nat}{A:Around}(r:Room (k+1) A)(C:Addr)(us:List Value)(kw:List (Str×Value)):Room k (A.under (.builtin "type.__call__" ⟨.ref C::us,kw⟩)):=
 ⟨r.hd,by have:=r.dp;rw[make_depth];omega,by have:=r.un;rw[make_units];omega⟩
theorem Room.depth {k:Nat}{A:Around}(r:Room k A):A.depth<recursionLimit:=by have:=r.dp;omega
theorem Room.units {k:Nat}{A:Around}(r:Room k A):A.units+64<cLine:=by have:=r.un;omega
theorem Room.units0 {k:Nat}{A:Around}(r:Room k A):A.units<cLine:=by have:=r.un;omega
def tNil:TA:=fun _ H Q=>Q [] H
def tCons (ta:TE)(tr:TA):TA:=fun σ H Q=>ta σ H fun x H1=>tr σ H1 fun xs H2=>Q (x::xs) H2
section
variable {X:Cx}{e:Expr}{es:List Expr}{te:TE}{t:TA}{pos:Pos}
theorem pa_nil:PA X [] tNil:=fun _ _ _ _ H Q I h=>Calls.spliced_nil ⟨[],H,I,.nil,h⟩
theorem pa_cons (ha:PE X e te)(hr:PA X es t)(hs:starEach (e::es) X.env=(false,eval e X.env)::starEach es X.env:=by rfl):PA X (e::es) (tCons te t):=by
 intro pos pins s σ H Q I h
 rw[hs]
 show wpAny _ _ (spliced ((false,eval e X.env)::backTo pos (starEach es X.env))) _ _ s
 refine Calls.spliced_cons (thn (ha pins s σ H _ I h) fun u s1 ⟨x,H1,I1,r1,q1⟩=>?_)
 exact thn (hr pos pins s1 σ H1 _ I1 q1) fun us s2 ⟨xs,H2,I2,r2,q2⟩=>⟨x::xs,H2,I2,.cons r1 r2,q2⟩
def tTup (t:TA):TE:=fun σ H Q=>t σ H fun xs H1=>xs.length≤sizeLine∧∀p,H1 p=none→Q (.ref p) (upd H1 p (.tup xs))
def tLst (t:TA):TE:=fun σ H Q=>t σ H fun xs H1=>xs.length≤sizeLine∧∀p,H1 p=none→Q (.ref p) (upd H1 p (.lst xs))
theorem pe_tup {x1}(h:PA X es t):PE X (.Tuple es x1 pos) (tTup t):=by
 intro pins s σ H Q I hq
 refine wpAny_Tuple_spliced (thn (h pos pins s σ H _ I hq) fun us s1 ⟨xs,H1,I1,r,z,q⟩=>⟨by rw[←r.length];exact z,?_⟩)
 have hf:H1 s1.heap.objs.size=none:=I1.hok.fresh (Nat.le_refl _)
 refine⟨.ref s1.heap.objs.size,upd H1 s1.heap.objs.size (.tup xs),I1.laid (t':=s1.toks) (fun b u e=>get?_push_of_some _ e) (Nat.le_refl _) ?_,rfl,q _ hf⟩
 exact⟨z,us,r,⟨_,get?_push_size _ rfl,rfl,_,rfl⟩⟩
theorem pe_lst (h:PA X es t):PE X (.List es pos) (tLst t):=by
 intro pins s σ H Q I hq
 refine wpAny_List_spliced (thn (h pos pins s σ H _ I hq) fun us s1 ⟨xs,H1,I1,r,z,q⟩=>⟨by rw[←r.length];exact z,?_⟩)
 have hf:H1 s1.heap.objs.size=none:=I1.hok.fresh (Nat.le_refl _)
 refine⟨.ref s1.heap.objs.size,upd H1 s1.heap.objs.size (.lst xs),I1.laid (t':=s1.toks) (fun b u e=>get?_push_of_some _ e) (Nat.le_refl _) ?_,rfl,q _ hf⟩
 exact⟨z,us,0,r,get?_push_size _ rfl⟩
end
abbrev Sp:=List V→Hp→VK→XK→Prop
abbrev CXT:=List Env→Hp→Shared→XK→Value→Shared→Prop
structure Env0 (P:Program)(w:World)(K:W.Frag)(mg:Str→Option Value)(base:Heap)(A:Around)(outer:List Env)(s:Shared)(H:Hp):Prop where
 frames:A.frames=some outer
 mod:Mod K mg base
 bs:∀b o,base.get? b=some o→s.heap.get? b=some o∧H b=none
 bsz:base.objs.size≤s.heap.objs.size
 funs:s.heap.FunFrames base outer
 frf:∀b∈frs outer,H b=none
 hok:HOk P w H s.heap
 bare:AllBare s.gens
def CE (outer:List Env)(P:Program)(w:World)(H:Hp)(s:Shared)(Q:VK)(u:Value)(s':Shared):Prop:=
 ∃v H',s'.os=s.os∧AllBare s'.gens∧Un (frs outer) [] H H' s.heap s'.heap∧HOk P w H' s'.heap∧RelV v u∧Q v H'
def CR (CX:CXT)(outer:List Env)(P:Program)(w:World)(H:Hp)(s:Shared)(Q:VK)(E:XK)(r:Result)(s':Shared):Prop:=
 match r with
 | .ok (.ret u)=>CE outer P w H s Q u s'
 | .ok _=>False
 | .error e=>CX outer H s E e s'
structure FnOk (P:Program)(w:World)(K:W.Frag)(mg:Str→Option Value)(base:Heap)(CX:CXT)(k:Nat)(f:Addr)(fd:FuncData)(ps:List Str)(sp:Sp):Prop where
 len:∀vs H Q E,sp vs H Q E→vs.length=ps.length
 run:∀(A:Around) (outer:List Env) (s:Shared) (H:Hp) (args:Args) (us:List Value) (vs:List V) (Q:VK) (E:XK),Room k A→Env0 P w K mg base A outer s H→BindsTo s fd args (ps.zip us)→Vals vs us→sp vs H Q E→
  codeAny (model P w) A (.call (.ref f) args) (CR CX outer P w H s Q E) s
theorem FnOk.mono {P:Program}{w:World}{K:W.Frag}{mg:Str→Option Value}{base:Heap}{CX:CXT}{j k:Nat}{f:Addr}{fd:FuncData}{ps:List Str}{sp:Sp}(F:FnOk P w K mg base CX j f fd ps sp)(h:j≤k) :
 FnOk P w K mg base CX k f fd ps sp:=⟨F.len,fun A outer s H args us vs Q E hr=>F.run A outer s H args us vs Q E (hr.mono h)⟩
theorem FnOk.imp {P:Program}{w:World}{K:W.Frag}{mg:Str→Option Value}{base:Heap}{CX:CXT}{k:Nat}{f:Addr}{fd:FuncData}{ps:List Str}{sp sp':Sp}(F:FnOk P w K mg base CX k f fd ps sp)
 (h:∀vs H Q E,sp' vs H Q E→sp vs H Q E):FnOk P w K mg base CX k f fd ps sp':=
 ⟨fun vs H Q E q=>F.len vs H Q E (h _ _ _ _ q),fun A outer s H args us vs Q E hr he hb hv hs=>F.run A outer s H args us vs Q E hr he hb hv (h _ _ _ _ hs)⟩
theorem Env0.make {P:Program}{w:World}{K:W.Frag}{mg:Str→Option Value}{base:Heap}{A:Around}{outer:List Env}{s:Shared}{H:Hp}(e:Env0 P w K mg base A outer s H)(C:Addr)(us:List Value)(kw:List (Str×Value)) :
 Env0 P w K mg base (A.under (.builtin "type.__call__" ⟨.ref C::us,kw⟩)) outer s H:=⟨by first | exact e.frames | (simpa[Around.under,Code.envs,Code.isFrame,pushEnvs]using e.frames),e.mod,e.bs,e.bsz,e.funs,e.frf,e.hok,e.bare⟩
section
variable {X:Cx}{pins:List (Addr×Obj)}{σ:St}{H:Hp}{s s':Shared}
theorem Inv.env0 (I:Inv X pins σ H s):Env0 X.prog X.w X.K X.mg X.base X.A X.stack s H:=
 ⟨I.ok.frames,I.ok.mod,I.bs,Nat.le_trans I.ok.bsz I.sz,I.stack,I.stkFree,I.hok,I.bare⟩
theorem Inv.after {Q:VK}{u:Value}(I:Inv X pins σ H s)(h:CE X.stack X.prog X.w H s Q u s'):EP X pins σ Q u s':=by
 obtain⟨v,H',os,bare,un,hok,r,q⟩:=h
 obtain⟨hh,g,d,t,os'⟩:=s'
 obtain rfl:os'=s.os:=os
 exact⟨v,H',I.call (h':=hh) (g':=g) (d':=d) (t':=t) (ch:=[]) un hok bare (fun b z=>absurd z (by simp)),r,q⟩
end
def tCall (sp:Sp)(dvs:List V)(E:XK)(t:TA):TE:=fun σ H Q=>t σ H fun vs H1=>sp (vs++dvs) H1 Q E
def tMeth (C:Addr)(m:Str)(sp:Sp)(dvs:List V)(E:XK)(ta:TE)(t:TA):TE:=fun σ H Q=>ta σ H fun x H1=>∃a dx fs,x=.ref a∧H1 a=some (.ins C dx fs)∧fs.lookup m=none∧
 t σ H1 fun vs H2=>sp (x::(vs++dvs)) H2 Q E
def tMake (C:Addr)(sp:Sp)(dvs:List V)(E:XK)(t:TA):TE:=fun σ H Q=>t σ H fun vs H1=>∀x dx,H1 x=none→H1 dx=none→dx≠x→
 sp (.ref x::(vs++dvs)) (upd (upd H1 dx (.own x)) x (.ins C dx [])) (fun v H2=>v=.non∧Q (.ref x) H2) E
def Binds (K:W.Frag)(fd:FuncData)(ps:List Str)(ds:List Value):Prop:=
 ∀(s:Shared) (us:List Value),K.In s.heap→(us++ds).length=ps.length→BindsTo s fd ⟨us,[]⟩ (ps.zip (us++ds))
theorem Binds.all {K:W.Frag}{fd:FuncData}{ps:List Str}(h:∀us:List Value,us.length=ps.length→bindArgs fd ⟨us,[]⟩=pure (ps.zip us)):Binds K fd ps []:=fun s us _ hl=>by
 rw[append_nil]at hl ⊢
 exact .of_eq (h us hl)
def Passes (CX:CXT)(X:Cx)(E:XK):Prop:=∀(pins:List (Addr×Obj)) (σ:St) (H:Hp) (s:Shared) (e:Value) (s':Shared),Inv X pins σ H s→CX X.stack H s E e s'→X.xe e s'
section
variable {X:Cx}{CX:CXT}{k:Nat}{f C:Addr}{fd:FuncData}{ps:List Str}{sp:Sp}{dvs:List V}{ds:List Value}{E:XK}{x m:Str}{p pos apos:Pos}{e o:Expr}{es:List Expr}{ta:TE}{t:TA}
theorem run_fn {pins:List (Addr×Obj)}{σ:St}{H:Hp}{s:Shared}{Q:VK}{us:List Value}{vs:List V}(F:FnOk X.prog X.w X.K X.mg X.base CX k f fd ps sp)(hr:Room k X.A)(hb:Binds X.K fd ps ds)(hd:Vals dvs ds)(hx:Passes CX X E)
 (I:Inv X pins σ H s) (r:Vals vs us) (h:sp (vs++dvs) H Q E):wpAny (model X.prog X.w) X.A (call (.ref f) us) (EP X pins σ Q) X.xe s:=by
 have r2:Vals (vs++dvs) (us++ds):=r.append hd
 have hl:(us++ds).length=ps.length:=by rw[←r2.length];exact F.len _ _ _ _ h
 refine wpAny_call (codeAny_mono (F.run X.A X.stack s H ⟨us,[]⟩ (us++ds) (vs++dvs) Q E hr I.env0 (hb s us I.kIn hl) r2 h) fun r s' hq=>?_)
 cases r with
 |error e=>exact hx pins σ H s e s' I hq
 |ok fl=>
  cases fl with
  |ret u=>exact I.after hq
  |next=>exact False.elim hq
  |brk=>exact False.elim hq
  |cont=>exact False.elim hq
theorem pe_call (F:FnOk X.prog X.w X.K X.mg X.base CX k f fd ps sp)(hr:Room k X.A)(hg:Gl X x)(hm:X.mg x=some (.ref f))(hk:PySem.W.keepIn X.K (.ref f)=true)(hb:Binds X.K fd ps ds)(hd:Vals dvs ds)(hx:Passes CX X E)
 (ha:PA X (e::es) t) (hdb:(x==("__debug__" : Str))=false:=by decide) (he:starEach (e::es) X.env=(false,eval e X.env)::starEach es X.env:=by rfl) (hpl:(backTo pos (starEach es X.env)).any (·.1)=false:=by rfl) :
 PE X (.Call (.Name x p) (e::es) [] pos) (tCall sp dvs E t):=by
 intro pins s σ H Q I h
 refine wpAny_Call_Name_kw (ld_glob I hg hm ?_ hdb)
 refine PySem.W.callWith_K (h₀:=X.base) I.ok.mod.kin hk (thn (ha pos pins s σ H _ I h) fun us s1 ⟨vs,H1,I1,r,q⟩=>⟨I1.kIn,?_⟩) he hpl
 exact run_fn F hr hb hd hx I1 r q
theorem pe_meth {pl:Sem Bool}(he:PE X o ta)(c:Cls X.K C)(hm:Meth X.K C m f)(F:FnOk X.prog X.w X.K X.mg X.base CX k f fd ps sp)(hr:Room k X.A)(hb:Binds X.K fd ps ds)(hd:Vals dvs ds)(hx:Passes CX X E)(ha:PA X (e::es) t)
 (hst:starEach (e::es) X.env=(false,eval e X.env)::starEach es X.env:=by rfl) (hpl:(backTo pos (starEach es X.env)).any (·.1)=false:=by rfl)
 (ht:eval (.Call (.Attribute o m apos) (e::es) [] pos) X.env=(do
  let ov ←eval o X.env
  standAt apos.atName
  let(f,first) ←holding [ov] (getMethod ov m pl)
  callWith pos f first (backTo pos (starEach (e::es) X.env)) (backToKw pos (keywordEach [] X.env))):=by rfl) :
 PE X (.Call (.Attribute o m apos) (e::es) [] pos) (tMeth C m sp dvs E ta t):=by
 intro pins s σ H Q I h
 refine PySem.W.methodCall_KW (pl:=pl) (thn (he pins s σ H _ I h) fun u s1 ⟨x,H1,I1,rx,a,dx,fs,ex,ea,l,q⟩=>?_) ht
 subst ex
 obtain rfl:u=Value.ref a:=rx
 refine getmeth_ok I1 ea c hm l ?_
 refine PySem.W.callWith_K (first:=[.ref a]) (h₀:=X.base) I.ok.mod.kin hm.kp (thn (ha pos pins s1 σ H1 _ I1 q) fun us s2 ⟨vs,H2,I2,r,q2⟩=>⟨I2.kIn,?_⟩) hst hpl
 exact run_fn (us:=.ref a::us) (vs:=.ref a::vs) F hr hb hd hx I2 (.cons rfl r) q2
structure Mk (K:W.Frag)(C f:Addr):Prop where
 makes:PySem.W.makesIn K C=true
 init:PySem.W.findIn K (.ref C) "__init__" = some (some (.ref f))
 fn:PySem.W.isFn K (.ref f)=true
 kp:PySem.W.keepIn K (.ref C)=true
theorem run_make {pins:List (Addr×Obj)}{σ:St}{H:Hp}{s:Shared}{Q:VK}{us:List Value}{vs:List V}(M:Mk X.K C f)(F:FnOk X.prog X.w X.K X.mg X.base CX k f fd ps sp)(hr:Room (k+1) X.A)(hb:Binds X.K fd ps ds)(hd:Vals dvs ds)
 (hx:Passes CX X E) (I:Inv X pins σ H s) (r:Vals vs us)
 (h:∀x dx,H x=none→H dx=none→dx≠x→sp (.ref x::(vs++dvs)) (upd (upd H dx (.own x)) x (.ins C dx [])) (fun v H2=>v=.non∧Q (.ref x) H2) E) :
 wpAny (model X.prog X.w) X.A (call (.ref C) us) (EP X pins σ Q) X.xe s:=by
 have hq:=h (s.heap.objs.size+1) s.heap.objs.size (I.hok.fresh (Nat.le_succ _)) (I.hok.fresh (Nat.le_refl _)) (Nat.ne_of_lt (Nat.lt_succ_self _))
 have I2:=Inv.made (C:=C) I
 have r2:Vals (V.ref (s.heap.objs.size+1)::(vs++dvs)) (Value.ref (s.heap.objs.size+1)::(us++ds)):=.cons rfl (r.append hd)
 have hl:(Value.ref (s.heap.objs.size+1)::us++ds).length=ps.length:=by
  have e:=r2.length
  rw[F.len _ _ _ _ hq]at e
  exact e.symm
 refine wpAny_call (make_map (f:=f) I.kIn M.makes M.init (beq_iff_eq.mp M.fn) (codeAny_mono (F.run _ X.stack _ _ ⟨Value.ref (s.heap.objs.size+1)::us,[]⟩ (Value.ref (s.heap.objs.size+1)::(us++ds)) _ _ E (hr.make C us [])
  (I2.env0.make C us []) (hb _ (Value.ref (s.heap.objs.size+1)::us) I2.kIn hl) r2 hq) fun r s' hq'=>?_))
 cases r with
 |error e=>exact hx pins σ _ _ e s' I2 hq'
 |ok fl=>
  cases fl with
  |ret u=>
   obtain⟨v,H',I3,rv,ev,q3⟩:=I2.after hq'
   subst ev
   exact⟨rv,⟨V.ref (s.heap.objs.size+1),H',I3,rfl,q3⟩⟩
  |next=>exact False.elim hq'
  |brk=>exact False.elim hq'
  |cont=>exact False.elim hq'
theorem pe_make0 (M:Mk X.K C f)(F:FnOk X.prog X.w X.K X.mg X.base CX k f fd ps sp)(hr:Room (k+1) X.A)(hg:Gl X x)(hm:X.mg x=some (.ref C))(hb:Binds X.K fd ps ds)(hd:Vals dvs ds)(hx:Passes CX X E)
 (hdb:(x==("__debug__" : Str))=false:=by decide):PE X (.Call (.Name x p) [] [] pos) (tMake C sp dvs E tNil):=by
 intro pins s σ H Q I h
 refine wpAny_Call_Name_kw (ld_glob I hg hm ?_ hdb)
 exact PySem.W.callWith_K0 I.kIn M.kp (run_make (us:=[]) M F hr hb hd hx I .nil h)
end
structure FnScope (N P:List Str)(sc:Scope):Prop where
 kind:sc.kind=.function
 co:sc.isCoroutine=false
 gen:sc.isGenerator=false
 nd:N.Nodup
 pre:N.take P.length=P
 par:∀x∈P,sc.names.lookup x=some .local∨sc.names.lookup x=some .cell
 nofree:∀y∈sc.names,y.2≠.free
theorem bindL_out {kindOf:Str→Option NameKind}{x:Str}:∀{binds:List (Str×Value)} {m:Str→Option Value},(∀v,(x,v)∉binds)→bindL kindOf binds m x=m x
 |[],_,_=>rfl
 |(n,v)::r,m,h=>by
  unfold bindL
  rw[bindL_out fun w hw=>h w (mem_cons_of_mem _ hw)]
  split
  ·have:x≠n:=by rintro rfl;exact h v mem_cons_self
   simp[this]
  ·rfl
theorem bindC_out {kindOf:Str→Option NameKind}{x:Str}:∀{binds:List (Str×Value)} {m:Str→Option Value},(∀v,(x,v)∉binds)→bindC kindOf binds m x=m x
 |[],_,_=>rfl
 |(n,v)::r,m,h=>by
  unfold bindC
  rw[bindC_out fun w hw=>h w (mem_cons_of_mem _ hw)]
  split
  ·rfl
  ·have:x≠n:=by rintro rfl;exact h v mem_cons_self
   simp[this]
theorem bindL_get {kindOf:Str→Option NameKind}{x:Str}{v:Value}:∀{P:List Str} {vs:List Value} {i:Nat} {m:Str→Option Value},P.Nodup→P[i]?=some x→vs[i]?=some v→kindOf x=some .local→
 bindL kindOf (P.zip vs) m x=some v
 |[],_,_,_,_,h,_,_=>by simp at h
 |_::_,[],_,_,_,_,h,_=>by simp at h
 |p::P,w::vs,0,m,nd,h1,h2,hk=>by
  simp at h1 h2;subst h1;subst h2
  show bindL kindOf ((p,w)::P.zip vs) m p=_
  unfold bindL
  rw[bindL_out fun v hv=>(nodup_cons.mp nd).1 (of_mem_zip hv).1,if_pos hk]
  simp
 |p::P,w::vs,i+1,m,nd,h1,h2,hk=>by
  show bindL kindOf ((p,w)::P.zip vs) m x=_
  unfold bindL
  exact bindL_get (i:=i) (nodup_cons.mp nd).2 (by simpa using h1) (by simpa using h2) hk
theorem bindC_get {kindOf:Str→Option NameKind}{x:Str}{v:Value}:∀{P:List Str} {vs:List Value} {i:Nat} {m:Str→Option Value},P.Nodup→P[i]?=some x→vs[i]?=some v→kindOf x≠some .local→
 bindC kindOf (P.zip vs) m x=some v
 |[],_,_,_,_,h,_,_=>by simp at h
 |_::_,[],_,_,_,_,h,_=>by simp at h
 |p::P,w::vs,0,m,nd,h1,h2,hk=>by
  simp at h1 h2;subst h1;subst h2
  show bindC kindOf ((p,w)::P.zip vs) m p=_
  unfold bindC
  rw[bindC_out fun v hv=>(nodup_cons.mp nd).1 (of_mem_zip hv).1,if_neg hk]
  simp
 |p::P,w::vs,i+1,m,nd,h1,h2,hk=>by
  show bindC kindOf ((p,w)::P.zip vs) m x=_
  unfold bindC
  exact bindC_get (i:=i) (nodup_cons.mp nd).2 (by simpa using h1) (by simpa using h2) hk
def start (N:List Str)(vs:List V):St:=vs.map some++replicate (N.length - vs.length) none
def cxOf (CX:CXT)(P:Program)(w:World)(K:W.Frag)(mg:Str→Option Value)(base:Heap)(N:List Str)(qual:Str)(scope:Scope)(f:Addr)(cd:Value)(A:Around)(outer:List Env)(s:Shared)(H:Hp)(E:XK):Cx where
 prog:=P
 w:=w
 K:=K
 mg:=mg
 base:=base
 A:=A.deeper (envOfC qual scope s.heap.objs.size f cd)
 N:=N
 s₀:=s
 H₀:=H
 env:=envOfC qual scope s.heap.objs.size f cd
 outer:=outer
 stack:=envOfC qual scope s.heap.objs.size f cd::outer
 ex:=[]
 calm:=true
 fn:=fun _=>true
 pn:=[]
 xe:=fun e s'=>wpAny (model P w) (A.deeper (envOfC qual scope s.heap.objs.size f cd)) (leaving (envOfC qual scope s.heap.objs.size f cd) e) (fun _ s''=>CX outer H s E e s'') (fun e' s''=>CX outer H s E e' s'') s'
theorem cell_has {sc:Scope}{n:Nat}{x:Str}(h:sc.names.lookup x=some .cell):∃c,(cellsFrom n sc.names []).lookup x=some c:=by
 have q:=PySem.W.cellsFrom_some sc.names n [] (.inl h)
 exact Option.isSome_iff_exists.mp q
theorem inv_start {CX:CXT}{P:Program}{w:World}{K:W.Frag}{mg:Str→Option Value}{base:Heap}{N ps:List Str}{qual:Str}{scope:Scope}{f:Addr}{cd:Value}{A:Around}{outer:List Env}{s s1:Shared}{H:Hp}{E:XK}{us:List Value}{vs:List V}
 (S:FnScope N ps scope) (hd:A.handled=none) (e0:Env0 P w K mg base A outer s H) (hl:vs.length=ps.length) (r:Vals vs us)
 (x:InCallC s s.heap.objs.size (bindL (envOfC qual scope s.heap.objs.size f cd).kindOf (ps.zip us) fun _=>none) (cellsFrom (s.heap.objs.size+1) scope.names []) (bindC (envOfC qual scope s.heap.objs.size f cd).kindOf (ps.zip us) fun _=>none) s1) :
 Inv (cxOf CX P w K mg base N qual scope f cd A outer s H E) [] (start N vs) H s1:=by
 have hpl:ps.length≤N.length:=by have:=congrArg List.length S.pre;rw[length_take]at this;omega
 obtain⟨h1,tk,rfl,hk⟩:=x.done
 have noA:∀b:Addr,b∉(cxOf CX P w K mg base N qual scope f cd A outer s H E).ex:=fun b z=>absurd (show b∈([]:List Addr) from z) (by simp)
 refine⟨⟨e0.mod,S.kind,rfl,rfl,Nat.le_refl _,fun y z c h1 h2=>?_,fun y hy=>?_,fun y c _ h=>?_,fun _=>hd,Around.frames_deeper e0.frames,.inr ⟨rfl,rfl⟩,fun b z=>absurd z (noA b),e0.bs,e0.bsz,fun b _ _=>noA b,fun b z=>absurd z (noA b),e0.funs,e0.frf⟩,
  rfl,e0.bare,Un.kept hk,⟨_,x.toInCall.ns,fun i y v h1 h2 h3=>?_⟩,fun y c h=>⟨_,x.cell y c h⟩,e0.hok.fresh (Nat.le_refl _),fun y c h=>?_,fun p hp=>absurd (show p∈([]:List (Addr×Obj)) from hp) (by simp),e0.hok.kept hk,?_⟩
 ·exact name_of_addr x.apart (PySem.mem_of_lookup h1) (PySem.mem_of_lookup h2)
 ·have hy:scope.names.lookup y=some .cell∨scope.names.lookup y=some .free:=hy
  rcases hy with hy | hy
  ·exact cell_has hy
  ·exact absurd rfl (S.nofree _ (PySem.mem_of_lookup hy))
 ·exact Nat.le_of_lt (x.above y c (PySem.mem_of_lookup h))
 ·have hi:i<vs.length:=by
   unfold start at h2
   by_cases hi:i<vs.length
   ·exact hi
   ·rw[getElem?_append_right (by simpa using hi)]at h2
    rw[List.getElem?_replicate]at h2
    split at h2<;>cases h2
  have ha:vs[i]?=some v:=by
   unfold start at h2
   rw[getElem?_append_left (by simpa using hi),getElem?_map]at h2
   cases e:vs[i]? with
   |none=>rw[e]at h2;cases h2
   |some a=>rw[e]at h2;cases h2;rfl
  obtain⟨u,hu,rv⟩:=r.get ha
  have hp:ps[i]?=some y:=by
   rw[←S.pre,List.getElem?_take_of_lt (by omega)];exact h1
  have ndP:ps.Nodup:=by rw[←S.pre];exact S.nd.sublist (List.take_sublist _ _)
  refine⟨u,rv,?_⟩
  rcases S.par y (mem_of_getElem? hp) with k | k
  ·exact .inl ⟨k,bindL_get ndP hp hu k⟩
  ·obtain⟨c,e⟩:=cell_has (n:=s.heap.objs.size+1) k
   refine .inr ⟨.inl k,c,e,?_⟩
   have q:=x.cell y c e
   rw[bindC_get ndP hp hu (by show scope.names.lookup y≠_;rw[k];decide)]at q
   exact q
 ·exact e0.hok.fresh (Nat.le_of_lt (x.above y c (PySem.mem_of_lookup h)))
 ·unfold start
  show _=N.length
  rw[length_append,length_map,length_replicate]
  omega
theorem fn_of {CX:CXT}{P:Program}{w:World}{K:W.Frag}{mg:Str→Option Value}{base:Heap}{k:Nat}{f:Addr}{name qual:Str}{params:Arguments}{body:List Stmt}{scope:Scope}{dV kV doc pm cdv ct oc:Value}{an od:Option Addr}
 {osl:Array (Option Value)} {N ps:List Str} {sp:Sp} (lk:K.lookup f=some ⟨oc,od,.func (PySem.W.fnOf name qual params body scope dV kV doc pm an cdv ct),osl⟩) (hcd:PySem.W.codeIn K cdv qual=true) (S:FnScope N ps scope)
 (len:∀vs H Q E,sp vs H Q E→vs.length=ps.length)
 (hbody:∀(A:Around) (outer:List Env) (s:Shared) (H:Hp) (vs:List V) (Q:VK) (E:XK),Room k (A.deeper (envOfC qual scope s.heap.objs.size f cdv))→sp vs H Q E→
  ∃t,PSs (cxOf CX P w K mg base N qual scope f cdv A outer s H E) body t∧t {nx:=fun _ H'=>Q .non H',rt:=Q} (start N vs) H) :
 FnOk P w K mg base CX (k+1) f (PySem.W.fnOf name qual params body scope dV kV doc pm an cdv ct) ps sp:=by
 refine⟨len,fun A outer s H args us vs Q E hr e0 hb r hsp=>?_⟩
 have hl:=len _ _ _ _ hsp
 have KX:K.In s.heap:=e0.mod.kin.keeps fun b o e=>(e0.bs b o e).1
 have lim:s.heap.NoLimit:=e0.mod.nolimit.keeps fun b o e=>(e0.bs b o e).1
 have hkind:∀y∈ps.zip us,scope.names.lookup y.1=some .local∨(scope.names.lookup y.1=some .cell∧((cellsFrom (s.heap.objs.size+1) scope.names []).lookup y.1).isSome=true):=fun⟨n,v⟩ hy=>by
  rcases S.par n (of_mem_zip hy).1 with q | q
  ·exact .inl q
  ·exact .inr ⟨q,PySem.W.cellsFrom_some _ _ _ (.inl q)⟩
 refine codeAny_call_function hr.depth (KX _ _ lk) rfl S.co S.gen rfl (PySem.W.codeRec_of KX hcd) (hb _ _ _ _ ?_)
 refine wpAny_newFunctionEnv_cells S.kind hkind fun env he s1 x=>?_
 subst he
 refine⟨lim.keeps x.toInCall.keep,codeAny_func ?_⟩
 obtain⟨t,ht,hq⟩:=hbody A outer s H vs Q E (hr.deeper _) hsp
 have I:Inv (cxOf CX P w K mg base N qual scope f cdv A outer s H E) [] (start N vs) H s1:=inv_start S hr.hd e0 hl r x
 refine wpAny_mono (ht [] s1 (start N vs) H _ I hq) (fun fl s' hs=>?_) fun e s' hs=>hs
 have fin:∀{σ':St} {H':Hp} {v:V} {u:Value},Inv (cxOf CX P w K mg base N qual scope f cdv A outer s H E) [] σ' H' s'→RelV v u→Q v H'→CE outer P w H s Q u s':=
  fun{σ' H' v u} J rv q=>⟨v,H',J.os,J.bare,J.base,J.hok,rv,q⟩
 cases fl with
 |ret u=>
  obtain⟨v,σ',H',J,rv,q⟩:=hs
  exact fin J rv q
 |next=>
  obtain⟨σ',H',J,q⟩:=hs
  exact fin (v:=V.non) (u:=Value.none) J rfl q
 |brk=>
  obtain⟨_,_,_,q⟩:=hs
  exact False.elim q
 |cont=>
  obtain⟨_,_,_,q⟩:=hs
  exact False.elim q
section
variable {X:Cx}{x:Str}{p pos:Pos}{e:Expr}{es:List Expr}{t:TA}{id T:String}{r:List V→Hp→VK→Prop}
def tCB (r:List V→Hp→VK→Prop)(t:TA):TE:=fun σ H Q=>t σ H fun vs H1=>r vs H1 Q
theorem pe_callB (hc:CallR X (.builtin id) r)(hg:Gl X x)(hm:X.mg x=none)(hv:bootBuiltins x=some (.builtin id))(ha:PA X (e::es) t)(hn:x≠"__name__":=by decide)(hdb:(x==("__debug__" : Str))=false:=by decide)
 (he:starEach (e::es) X.env=(false,eval e X.env)::starEach es X.env:=by rfl) (hpl:(backTo pos (starEach es X.env)).any (·.1)=false:=by rfl):PE X (.Call (.Name x p) (e::es) [] pos) (tCB r t):=by
 intro pins s σ H Q I h
 refine wpAny_Call_Name_kw (ld_blt I hg hm hv ?_ hn hdb)
 exact callWith_builtin1 (thn (ha pos pins s σ H _ I h) fun us s1 ⟨vs,H1,I1,r1,q1⟩=>hc pins s1 σ H1 vs us Q I1 r1 q1) he hpl
theorem pe_callTy (hc:CallR X (.type T) r)(hg:Gl X x)(hm:X.mg x=none)(hv:bootBuiltins x=some (.type T))(ha:PA X (e::es) t)(hn:x≠"__name__":=by decide)(hdb:(x==("__debug__" : Str))=false:=by decide)
 (he:starEach (e::es) X.env=(false,eval e X.env)::starEach es X.env:=by rfl) (hpl:(backTo pos (starEach es X.env)).any (·.1)=false:=by rfl):PE X (.Call (.Name x p) (e::es) [] pos) (tCB r t):=by
 intro pins s σ H Q I h
 refine wpAny_Call_Name_kw (ld_blt I hg hm hv ?_ hn hdb)
 exact callWith_type1 (thn (ha pos pins s σ H _ I h) fun us s1 ⟨vs,H1,I1,r1,q1⟩=>hc pins s1 σ H1 vs us Q I1 r1 q1) he hpl
end
end L2
namespace HT
open PySem PyProof.Rows
section
variable {prog:Program}{w:World}{A:Around}{E:Value→Shared→Prop}{s:Shared}
def sIx (n d:Nat):Option Int→Nat
 |none=>d
 |some v=>if v<0 then(v+(n:Int)).toNat else min v.toNat n
theorem sIx_none (n d:Nat):sIx n d none=d:=rfl
theorem sIx_nat (n d k:Nat):sIx n d (some (k:Int))=min k n:=by
 show(if(k:Int)<0 then((k:Int)+(n:Int)).toNat else min (k:Int).toNat n)=min k n
 rw[if_neg (by omega),Int.toNat_natCast]
theorem sIx_le (n d:Nat)(hd:d≤n)(o:Option Int):sIx n d o≤n:=by
 cases o with
 |none=>exact hd
 |some v=>
  show(if v<0 then(v+(n:Int)).toNat else min v.toNat n)≤n
  by_cases hv:v<0
  ·rw[if_pos hv];omega
  ·rw[if_neg hv];exact Nat.min_le_right _ _
theorem clip_eq (v:Int)(n d:Nat):(if v<0 then max (v+(n:Int)) 0 else min v (n:Int))=((sIx n d (some v):Nat):Int):=by
 show(if v<0 then max (v+(n:Int)) 0 else min v (n:Int))=(((if v<0 then(v+(n:Int)).toNat else min v.toNat n):Nat):Int)
 by_cases hv:v<0
 ·simp only[if_pos hv];omega
 ·simp only[if_neg hv];omega
theorem adjust_gen (lo hi:Option Int)(n:Nat):Builtin.Slice.sliceAdjust lo hi 1 (n:Int)=(((sIx n 0 lo:Nat):Int),((sIx n n hi:Nat):Int)):=by
 have h1:¬((1:Int)<0):=by omega
 unfold Builtin.Slice.sliceAdjust
 simp only[h1,if_false]
 refine Prod.ext ?_ ?_
 ·cases lo with
  |none=>rfl
  |some v=>exact clip_eq v n 0
 ·cases hi with
  |none=>rfl
  |some v=>exact clip_eq v n n
theorem places_gen (i j:Nat):Builtin.Slice.slicePlaces (i:Int) (j:Int) 1=j - i:=by
 unfold Builtin.Slice.slicePlaces
 have h1:(1:Int)>0:=by omega
 simp only[h1,if_true,Int.ediv_one]
 split<;>omega
theorem slicePart_ {v:Value}{o:Option Int}{Q:Option Int→Shared→Prop}(p:IsPart v o)(h:Q o s):wpAny (model prog w) A (Builtin.Slice.slicePartIndex v) Q E s:=by
 cases p with
 |none=>exact slicePart_none h
 |int i t=>exact slicePart_int h
theorem sliceApplied_gen {sl:Addr}{vl vu:Value}{lo hi:Option Int}{n:Nat}{Q:Int×Int×Nat→Shared→Prop}(hs:s.heap.IsSliceOf sl vl vu .none)(pl:IsPart vl lo)(pu:IsPart vu hi)
 (h:Q (((sIx n 0 lo:Nat):Int),1,sIx n n hi - sIx n 0 lo) s):wpAny (model prog w) A (Builtin.Slice.sliceApplied (.ref sl) (pure (n:Int))) Q E s:=by
 obtain⟨os,hos,hcs,hds⟩:=id hs
 unfold Builtin.Slice.sliceApplied Builtin.Slice.sliceFields
 refine wpAny_bind (wpAny_bind (wpAny_field hos hds (x:=vl) rfl (wpAny_bind (wpAny_field hos hds (x:=vu) rfl (wpAny_bind (wpAny_field hos hds (x:=.none) rfl (wpAny_pure ?_)))))))
 refine wpAny_bind (slicePart_none ?_)
 show wpAny _ _ (if((1:Int)==0)=true then _ else _) _ _ s
 rw[if_neg (by decide)]
 refine wpAny_bind (slicePart_ pl (wpAny_bind (slicePart_ pu (wpAny_bind (wpAny_pure ?_)))))
 show wpAny _ _ (match Builtin.Slice.sliceAdjust lo hi 1 (n:Int) with | (lo,hi)=>pure (lo,(1:Int),Builtin.Slice.slicePlaces lo hi 1)) _ _ s
 rw[adjust_gen lo hi n]
 show wpAny _ _ (pure (((sIx n 0 lo:Nat):Int),(1:Int),Builtin.Slice.slicePlaces ((sIx n 0 lo:Nat):Int) ((sIx n n hi:Nat):Int) 1)) _ _ s
 rw[places_gen]
 exact wpAny_pure h
theorem pick_gen (xs:Array Value)(i k:Nat):((List.range k).filterMap fun(m:Nat)=>xs[((i:Int)+(m:Int)*1).toNat]?).toArray=((xs.toList.drop i).take k).toArray:=by
 have e:(fun(m:Nat)=>xs[((i:Int)+(m:Int)*1).toNat]?)=fun m=>xs[i+m]?:=by
  funext m
  have:((i:Int)+(m:Int)*1).toNat=i+m:=by omega
  rw[this]
 rw[e]
 have:=pick_run xs i k
 rw[filterMap_map]at this
 have e2:((fun x=>xs[x]?)∘fun x=>i+x)=fun m=>xs[i+m]?:=rfl
 rw[e2]at this
 rw[this]
theorem getItem_tuple_cut {t sl:Addr}{items:Array Value}{vl vu:Value}{lo hi:Option Int}{Q:Value→Shared→Prop}(ht:IsTup s.heap t items)(hs:s.heap.IsSliceOf sl vl vu .none)(pl:IsPart vl lo)(pu:IsPart vu hi)
 (hw:¬(sIx items.size 0 lo=0∧sIx items.size items.size hi=items.size))
 (h:Q (.ref s.heap.objs.size) {s with heap:=s.heap.push {cls:=.type "tuple",data:=.seq ((items.toList.drop (sIx items.size 0 lo)).take (sIx items.size items.size hi - sIx items.size 0 lo)).toArray}})
 (hsz:items.size≤sizeLine):wpAny (model prog w) A (getItem (.ref t) (.ref sl)) Q E s:=by
 have htake:sizeOk (.seq ((items.toList.drop (sIx items.size 0 lo)).take (sIx items.size items.size hi - sIx items.size 0 lo)).toArray):=by
  show((items.toList.drop (sIx items.size 0 lo)).take (sIx items.size items.size hi - sIx items.size 0 lo)).toArray.size≤sizeLine
  rw[size_toArray,length_take,length_drop,length_toList]
  omega
 have hj:sIx items.size items.size hi≤items.size:=sIx_le _ _ (Nat.le_refl _) hi
 obtain⟨os,hos,hcs,hds⟩:=id hs
 have hTs:s.TypeIs (.ref sl) "slice":=⟨os,hos,hcs⟩
 unfold getItem
 try with_reducible refine wpAny_holding ?_
 first | refine wpAny_bind (wpAny_pure ?_) | skip
 refine wpAny_bind (wpAny_sequenceKey ht.typeIs (by decide) ?_)
 refine wpAny_bind (wpAny_callSpecial?_slot (name:=Str.ofString "__getitem__") ht.typeIs slot_tuple_getitem
  (wpAny_call_entry slot_tuple_getitem ht.typeIs entry_tuple_getitem ?_ (args_tuple_getitem _ _)))
 show wpAny _ _ (Builtin.Tuple.tupleItemsOf (.ref t) >>= _) _ _ s
 refine wpAny_bind (tupleItemsOf_ ht ?_)
 refine wpAny_bind (wpAny_typeOf hTs ?_)
 rw[if_pos (by decide)]
 refine wpAny_bind (sliceApplied_gen hs pl pu ?_)
 have hno:¬((((sIx items.size 0 lo:Nat):Int)==0&&(1:Int)==1&&(sIx items.size items.size hi - sIx items.size 0 lo)==items.size)=true):=by
  intro q
  rw[and_eq_true,and_eq_true]at q
  have q1:((sIx items.size 0 lo:Nat):Int)=0:=eq_of_beq q.1.1
  have q2:sIx items.size items.size hi - sIx items.size 0 lo=items.size:=eq_of_beq q.2
  exact hw ⟨by omega,by omega⟩
 show wpAny _ _ (if(((sIx items.size 0 lo:Nat):Int)==0&&(1:Int)==1&&(sIx items.size items.size hi - sIx items.size 0 lo)==items.size)=true then _ else _) _ _ s
 rw[if_neg hno,pick_gen]
 first
  |exact wpAny_bind (m:=Builtin.Tuple.tupleExact _) (wpAny_newObj_type (wpAny_pure ⟨_,rfl,wpAny_pure h⟩) htake)
  |exact wpAny_bind (m:=Builtin.Tuple.tupleExact _) (wpAny_newObj_type (wpAny_bind (wpAny_pure (wpAny_pure ⟨_,rfl,wpAny_pure h⟩))) htake)
  |exact wpAny_bind (wpAny_bind (m:=Builtin.Tuple.tupleExact _) (wpAny_newObj_type (wpAny_pure (wpAny_pure ⟨_,rfl,wpAny_pure h⟩)) htake))
  |exact wpAny_bind (wpAny_bind (m:=Builtin.Tuple.tupleExact _) (wpAny_newObj_type (wpAny_pure ⟨_,rfl,wpAny_pure h⟩) htake))
end
end HT
namespace L2
abbrev TO:=St→Hp→(Option Int→Hp→Prop)→Prop
def PO (X:Cx)(e:Option Expr)(t:TO):Prop:=
 ∀(pins:List (Addr×Obj)) (s:Shared) (σ:St) (H:Hp) (Q:Option Int→Hp→Prop),Inv X pins σ H s→t σ H Q→
  wpAny (model X.prog X.w) X.A (evalPart e X.env) (fun u s'=>∃o H',Inv X pins σ H' s'∧IsPart u o∧Q o H') X.xe s
def tNoPart:TO:=fun _ H Q=>Q none H
def tPart (t:TE):TO:=fun σ H Q=>t σ H fun x H1=>∃i,x=.int i∧Q (some i) H1
section
variable {X:Cx}{e:Expr}{te:TE}{lo hi:Option Expr}{tl th:TO}{pos p2:Pos}
theorem po_none:PO X none tNoPart:=by
 intro pins s σ H Q I h
 rw[evalPart_none]
 exact wpAny_pure ⟨none,H,I,.none,h⟩
theorem po_some (h:PE X e te):PO X (some e) (tPart te):=by
 intro pins s σ H Q I hw
 rw[evalPart_some]
 refine thn (h pins s σ H _ I hw) fun u s1 ⟨x,H1,I1,r1,q1⟩=>?_
 obtain⟨i,rfl,q⟩:=q1
 obtain⟨t,rfl⟩:=r1
 exact⟨some i,H1,I1,.int i t,q⟩
def SlR (X:Cx)(r:V→Option Int→Option Int→Hp→VK→Prop):Prop:=
 ∀(pins:List (Addr×Obj)) (s:Shared) (σ:St) (H:Hp) (x:V) (v vl vu:Value) (lo hi:Option Int) (sl:Addr) (Q:VK),Inv X pins σ H s→RelV x v→s.heap.IsSliceOf sl vl vu .none→IsPart vl lo→IsPart vu hi→r x lo hi H Q→
  ∃T id,typeLookup (.type T) "__getitem__" = pure (some (.builtin id))∧s.TypeIs v T∧wpAny (model X.prog X.w) X.A (getItem v (.ref sl)) (EP X pins σ Q) X.xe s
def tSl (r:V→Option Int→Option Int→Hp→VK→Prop)(te:TE)(tl th:TO):TE:=fun σ H Q=>te σ H fun x H1=>tl σ H1 fun l H2=>th σ H2 fun u H3=>r x l u H3 Q
theorem pe_slice {r:V→Option Int→Option Int→Hp→VK→Prop}(hr:SlR X r)(he:PE X e te)(hl:PO X lo tl)(hu:PO X hi th):PE X (.Subscript e (.Slice lo hi none p2) pos) (tSl r te tl th):=by
 intro pins s σ H Q I h
 refine Subscript_ (thn (he pins s σ H _ I h) fun v s1 ⟨x,H1,I1,r1,q1⟩=>?_)
 refine wpAny_Slice (thn (hl pins s1 σ H1 _ I1 q1) fun vl s2 ⟨l,H2,I2,pl,q2⟩=>thn (hu pins s2 σ H2 _ I2 q2) fun vu s3 ⟨u,H3,I3,pu,q3⟩=>?_)
 rw[evalPart_none]
 refine wpAny_pure ?_
 have I4:Inv X pins σ H3 {s3 with heap:=s3.heap.push {cls:=.type "slice",data:=.fields #[vl,vu,.none]}}:=I3.kept (t':=s3.toks) fun b ob q=>get?_push_of_some _ q
 obtain⟨T,id,hT,ht,hg⟩:=hr pins {s3 with heap:=s3.heap.push {cls:=.type "slice",data:=.fields #[vl,vu,.none]}} σ H3 x v vl vu l u s3.heap.objs.size Q I4 r1 (Heap.IsSliceOf.new ..) pl pu q3
 show wpAny (model X.prog X.w) X.A (subscriptTail e (.Slice lo hi none p2) v (.ref s3.heap.objs.size)) (EP X pins σ Q) X.xe {s3 with heap:=s3.heap.push {cls:=.type "slice",data:=.fields #[vl,vu,.none]}}
 exact tail_any (ops:=[.ref s3.heap.objs.size,v]) ht hT hg (by with_unfolding_all rfl)
def cutV (xs:List V)(lo hi:Option Int):List V:=(xs.drop (HT.sIx xs.length 0 lo)).take (HT.sIx xs.length xs.length hi - HT.sIx xs.length 0 lo)
theorem cutV_length (xs:List V)(lo hi:Option Int):(cutV xs lo hi).length≤xs.length:=by
 unfold cutV
 rw[length_take,length_drop]
 omega
def rSlT (K:W.Frag):V→Option Int→Option Int→Hp→VK→Prop:=fun x lo hi H Q=>∃a xs,x=.ref a∧SqT K H a xs∧
 ¬(HT.sIx xs.length 0 lo=0∧HT.sIx xs.length xs.length hi=xs.length)∧∀p,H p=none→Q (.ref p) (upd H p (.tup (cutV xs lo hi)))
theorem sl_tup:SlR X (rSlT X.K):=by
 intro pins s σ H x v vl vu lo hi sl Q I rx hs pl pu h
 obtain⟨a,xs,rfl,hx,hw,q⟩:=h
 cases rx
 obtain⟨its,r,ht,hz⟩:=I.tuple hx
 have hlen:its.toArray.size=xs.length:=by rw[size_toArray];exact r.length.symm
 refine⟨"tuple",_,slot_tuple_getitem.lookup,ht.typeIs,?_⟩
 refine HT.getItem_tuple_cut ht hs pl pu (by rw[hlen];exact hw) ?_ (by rw[hlen];exact hz)
 rw[hlen]
 refine⟨.ref s.heap.objs.size,_,I.laid (t':=s.toks) (o:=.tup (cutV xs lo hi)) (fun b ob q=>get?_push_of_some _ q) (Nat.le_refl _) ?_,rfl,q _ (I.hok.fresh (Nat.le_refl _))⟩
 exact⟨Nat.le_trans (cutV_length xs lo hi) hz,_,(r.drop (HT.sIx xs.length 0 lo)).take (HT.sIx xs.length xs.length hi - HT.sIx xs.length 0 lo),IsTup.new _ _⟩
end
def ixN (n:Nat)(i:Int):Option Nat:=if 0≤i then(if i<n then some i.toNat else none) else if -(n:Int)≤i then some (i+n).toNat else none
def atI {α:Type}(xs:List α)(i:Int):Option α:=(ixN xs.length i).bind fun j=>xs[j]?
theorem ixN_seq {n:Nat}{i:Int}{j:Nat}(h:ixN n i=some j):seqIndex? i n=some j∧j<n∧-(n:Int)≤i∧i<n:=by
 unfold ixN at h
 by_cases h0:0≤i
 ·rw[if_pos h0]at h
  by_cases h1:i<n
  ·rw[if_pos h1]at h
   have e:i.toNat=j:=Option.some.inj h
   exact⟨by rw[seqIndex_of h0 h1,e],by omega,by omega,h1⟩
  ·rw[if_neg h1]at h;cases h
 ·rw[if_neg h0]at h
  by_cases h1:-(n:Int)≤i
  ·rw[if_pos h1]at h
   have e:(i+n).toNat=j:=Option.some.inj h
   exact⟨by rw[seqIndex_neg (by omega) h1,e],by omega,h1,by omega⟩
  ·rw[if_neg h1]at h;cases h
theorem atI_get {α:Type}{xs:List α}{i:Int}{v:α}(h:atI xs i=some v):∃j,seqIndex? i xs.length=some j∧xs[j]?=some v∧j<xs.length∧-(xs.length:Int)≤i∧i<xs.length:=by
 unfold atI at h
 cases e:ixN xs.length i with
 |none=>rw[e]at h;cases h
 |some j=>
  rw[e]at h
  obtain⟨h1,h2,h3,h4⟩:=ixN_seq e
  exact⟨j,h1,h,h2,h3,h4⟩
theorem atI_nat {α:Type}{xs:List α}{j:Nat}{v:α}(h:xs[j]?=some v):atI xs (j:Int)=some v:=by
 have hj:j<xs.length:=(List.getElem?_eq_some_iff.mp h).1
 have e:ixN xs.length (j:Int)=some j:=by
  unfold ixN
  rw[if_pos (by omega),if_pos (by omega)];simp
 unfold atI;rw[e];exact h
def PlainIx (b:Expr):Prop:=∀o i,subscripted b false o i=operate [o,i] (getItem o i)
def IxR (X:Cx)(r:R2):Prop:=
 ∀(value slice:Expr) (pins:List (Addr×Obj)) (s:Shared) (σ:St) (H:Hp) (x y:V) (v u:Value) (Q:VK),Inv X pins σ H s→RelV x v→RelV y u→r x y H Q→
  subscripted slice false v u=operate [v,u] (getItem v u)→wpAny (model X.prog X.w) X.A (subscriptTail value slice v u) (EP X pins σ Q) X.xe s
def MtR (X:Cx)(id:String)(r:V→List V→Hp→VK→Prop):Prop:=
 ∀(pins:List (Addr×Obj)) (s:Shared) (σ:St) (H:Hp) (x:V) (xs:List V) (v:Value) (us:List Value) (Q:VK),Inv X pins σ H s→RelV x v→Vals xs us→r x xs H Q→
  wpAny (model X.prog X.w) X.A (call (.builtin id) (v::us)) (EP X pins σ Q) X.xe s
section
variable {X:Cx}{a b:Expr}{ta tb:TE}{pos:Pos}
theorem pe_ix {r:R2}(hr:IxR X r)(ha:PE X a ta)(hb:PE X b tb)(hs:PlainIx b):PE X (.Subscript a b pos) (tOp r ta tb):=by
 intro pins s σ H Q I h
 exact Subscript_ (binT ha hb I h fun v u s2 x y H2 I2 rx ry q=>hr a b pins s2 σ H2 x y v u Q I2 rx ry q (hs _ _))
def rIxL (K:W.Frag):R2:=fun x y H Q=>∃p xs i v,x=.ref p∧y=.int i∧SqL K H p xs∧atI xs i=some v∧Q v H
def rIxT (K:W.Frag):R2:=fun x y H Q=>∃p xs i v,x=.ref p∧y=.int i∧SqT K H p xs∧atI xs i=some v∧Q v H
theorem ix_list:IxR X (rIxL X.K):=by
 intro value slice pins s σ H x y v u Q I rx ry h hs
 obtain⟨p,xs,i,z,rfl,rfl,hq,he,q⟩:=h
 cases rx
 obtain⟨t,rfl⟩:=ry
 obtain⟨its,r,pl,hz⟩:=I.list hq
 obtain⟨j,h1,h2,h3,h4,h5⟩:=atI_get he
 obtain⟨w,ew,rw'⟩:=r.get h2
 have hl:=r.length
 have hn:=line63
 have fin:EP X pins σ Q w s:=⟨z,H,I,rw',q⟩
 by_cases h0:0≤i
 ·have hj:i.toNat=j:=by
   rw[seqIndex_of h0 h5]at h1
   exact Option.some.inj h1
  exact item_listR pl.isList h0 (by omega) (by rw[hj];simpa using ew) fin hs
 ·have hj:(i+(its.toArray.size:Int)).toNat=j:=by
   rw[seqIndex_neg (by omega) h4]at h1
   rw[size_toArray,←hl]
   exact Option.some.inj h1
  exact subscriptTail_builtinR (x:=w) pl.isList.typeIs slot_list_getitem.lookup
   (wpAny_getItem_list_neg (Q:=fun r s'=>r=w∧EP X pins σ Q r s') pl.isList (by omega) (by rw[size_toArray]<;>omega) (by omega) (by rw[hj];simpa using ew) ⟨rfl,fin⟩) hs
theorem ix_tup:IxR X (rIxT X.K):=by
 intro value slice pins s σ H x y v u Q I rx ry h hs
 obtain⟨p,xs,i,z,rfl,rfl,hq,he,q⟩:=h
 cases rx
 obtain⟨t,rfl⟩:=ry
 obtain⟨its,r,pl,hz⟩:=I.tuple hq
 obtain⟨j,h1,h2,h3,h4,h5⟩:=atI_get he
 obtain⟨w,ew,rw'⟩:=r.get h2
 have hl:=r.length
 have hn:=line63
 have fin:EP X pins σ Q w s:=⟨z,H,I,rw',q⟩
 exact subscriptTail_builtinR (x:=w) pl.typeIs slot_tuple_getitem.lookup
  (getItem_tuple (j:=j) (Q:=fun r s'=>r=w∧EP X pins σ Q r s') pl (by omega) (by omega) (by rw[size_toArray,←hl];exact h1) (by simpa using ew) ⟨rfl,fin⟩) hs
theorem mapSeq_set (its:List Value)(n j:Nat)(u:Value):Obj.mapSeq (·.setIfInBounds j u) {cls:=.type "list",data:=.seq its.toArray n}={cls:=.type "list",data:=.seq (its.set j u).toArray n}:=by
 simp[Obj.mapSeq]
theorem Inv.lst {pins:List (Addr×Obj)}{σ:St}{H:Hp}{s:Shared}{p:Addr}{xs:List V}(I:Inv X pins σ H s)(h:H p=some (.lst xs)) :
 ∃(its:List Value) (n:Nat),Vals xs its∧s.heap.get? p=some {cls:=.type "list",data:=.seq its.toArray n}∧xs.length≤sizeLine:=by
 obtain⟨z,its,n,r,e⟩:=I.hok p _ h
 exact⟨its,n,r,e,z⟩
theorem Inv.lstUpd {pins:List (Addr×Obj)}{σ:St}{H:Hp}{s:Shared}{p:Addr}{xs ys:List V}{its its':List Value}{n n':Nat}{f:Obj→Obj}(I:Inv X pins σ H s)(h:H p=some (.lst xs))
 (ho:s.heap.get? p=some {cls:=.type "list",data:=.seq its.toArray n}) (hf:f {cls:=.type "list",data:=.seq its.toArray n}={cls:=.type "list",data:=.seq its'.toArray n'}) (r:Vals ys its') (hz:ys.length≤sizeLine) (t:Nat) :
 Inv X pins σ (upd H p (.lst ys)) {s with heap:=s.heap.update p f,toks:=t}:=by
 have e:(s.heap.update p f).get? p=some {cls:=.type "list",data:=.seq its'.toArray n'}:=by
  rw[get?_update_self f ho (by rw[hf]<;>rfl),hf]
 refine I.write (x:=p) (e:=p) (by rw[h];trivial) (.inl rfl) (fun b u hb q=>(get?_update_other _ _ (Ne.symm hb)).trans q) ⟨_,e⟩ ?_
 exact⟨hz,its',n',r,e⟩
def rSetL:V→V→V→Hp→(Hp→Prop)→Prop:=fun o i v H Q=>∃p xs k j,o=.ref p∧i=.int k∧H p=some (.lst xs)∧ixN xs.length k=some j∧Q (upd H p (.lst (xs.set j v)))
theorem set_list:PSet X rSetL:=by
 intro pins s σ H o i v ov iv u Q I ro ri rv h
 obtain⟨p,xs,k,j,rfl,rfl,hp,hj,q⟩:=h
 cases ro
 obtain⟨t,rfl⟩:=ri
 obtain⟨its,n,r,ho,hz⟩:=I.lst hp
 obtain⟨h1,h2,h3,h4⟩:=ixN_seq hj
 have hl:=r.length
 have hn:=line63
 have I':Inv X pins σ (upd H p (.lst (xs.set j v))) {s with heap:=s.heap.update p (Obj.mapSeq (·.setIfInBounds j u))}:=
  I.lstUpd hp ho (mapSeq_set its n j u) (r.set rv j) (by rw[List.length_set];exact hz) s.toks
 by_cases h0:0≤k
 ·have hk:k.toNat=j:=by
   rw[seqIndex_of h0 h4]at h1
   exact Option.some.inj h1
  exact PySem.W.ki_setAt ho h0 (by omega) (by rw[size_toArray,←hl];exact h4) (by rw[hk];exact⟨_,I',q⟩)
 ·have hk:(k+(its.toArray.size:Int)).toNat=j:=by
   rw[seqIndex_neg (by omega) h3]at h1
   rw[size_toArray,←hl]
   exact Option.some.inj h1
  exact PySem.W.ki_setBack ho (by omega) (by rw[size_toArray,←hl];exact h3) (by omega) (by rw[hk];exact⟨_,I',q⟩)
theorem slice_bounds (lo hi:Option Int)(n:Nat):(sliceBounds lo hi none n).1=((HT.sIx n 0 lo:Nat):Int)∧(sliceBounds lo hi none n).2.1=((HT.sIx n n hi:Nat):Int)∧(sliceBounds lo hi none n).2.2=1:=by
 refine⟨?_,?_,rfl⟩
 ·cases lo with
  |none=>simp[sliceBounds,HT.sIx]
  |some i=>
   simp only[sliceBounds,HT.sIx,getD_none,show(1:Int)>0 by decide,if_true]
   by_cases h:i<0
   ·simp only[h,if_true]<;>omega
   ·simp only[h,if_false]<;>omega
 ·cases hi with
  |none=>simp[sliceBounds,HT.sIx]
  |some i=>
   simp only[sliceBounds,HT.sIx,getD_none,show(1:Int)>0 by decide,if_true]
   by_cases h:i<0
   ·simp only[h,if_true]<;>omega
   ·simp only[h,if_false]<;>omega
theorem slicePick_cut (its:List Value)(lo hi:Option Int):slicePick its.toArray lo hi none=((its.drop (HT.sIx its.length 0 lo)).take (HT.sIx its.length its.length hi - HT.sIx its.length 0 lo)).toArray:=by
 obtain⟨h1,h2,h3⟩:=slice_bounds lo hi its.toArray.size
 unfold slicePick
 rw[h1,h2,h3]
 simp only[sliceRange_one,pick_run,size_toArray]<;>rfl
def rSlL (K:W.Frag):V→Option Int→Option Int→Hp→VK→Prop:=fun x lo hi H Q=>∃a xs,x=.ref a∧SqL K H a xs∧∀p,H p=none→Q (.ref p) (upd H p (.lst (cutV xs lo hi)))
theorem sl_list:SlR X (rSlL X.K):=by
 intro pins s σ H x v vl vu lo hi sl Q I rx hs pl pu h
 obtain⟨a,xs,rfl,hx,q⟩:=h
 cases rx
 obtain⟨its,r,ht,hz⟩:=I.list hx
 have hlen:=r.length
 refine⟨"list",_,slot_list_getitem.lookup,ht.isList.typeIs,?_⟩
 refine wpAny_getItem_list_slice ht.isList hs pl pu .none (by simp) ?_ (by rw[size_toArray]<;>omega)
 rw[slicePick_cut,←hlen]
 refine⟨.ref s.heap.objs.size,_,I.laid (t':=s.toks) (o:=.lst (cutV xs lo hi)) (fun b ob q=>get?_push_of_some _ q) (Nat.le_refl _) ?_,rfl,q _ (I.hok.fresh (Nat.le_refl _))⟩
 exact⟨Nat.le_trans (cutV_length xs lo hi) hz,_,0,(r.drop (HT.sIx xs.length 0 lo)).take (HT.sIx xs.length xs.length hi - HT.sIx xs.length 0 lo),get?_push_size _ rfl⟩
def flatV:V→Bool
 | .non=>true
 | .bl _=>true
 | .int _=>true
 | .str _=>true
 |_=>false
def eqV:V→V→Bool
 | .non,.non=>true
 | .bl a,.bl b=>a==b
 | .bl a,.int b=>(if a then 1 else 0)==b
 | .int a,.bl b=>a==(if b then 1 else 0)
 | .int a,.int b=>a==b
 | .str a,.str b=>a==b
 |_,_=>false
theorem eqAt_V {A:Around}{s:Shared}{y x:V}{u v:Value}(ry:RelV y u)(rx:RelV x v)(fy:flatV y=true)(fx:flatV x=true):SeqAt.EqAt A s u v (eqV y x):=by
 cases y with
 |non=>
  cases ry
  cases x with
  |non=>cases rx;exact SeqAt.EqAt.same _
  |bl b=>cases rx;exact SeqAt.EqAt.none_bool b
  |int b=>obtain⟨t,rfl⟩:=rx;exact SeqAt.EqAt.none_int b t
  |str b=>obtain⟨t,rfl⟩:=rx;exact SeqAt.EqAt.none_str b t
  |_=>exact absurd (show false=true from fx) Bool.false_ne_true
 |bl a=>
  cases ry
  cases x with
  |non=>cases rx;exact SeqAt.EqAt.bool_none a
  |bl b=>cases rx;exact SeqAt.EqAt.bool_bool a b
  |int b=>obtain⟨t,rfl⟩:=rx;exact SeqAt.EqAt.bool_int a b t
  |str b=>obtain⟨t,rfl⟩:=rx;exact SeqAt.EqAt.bool_str a b t
  |_=>exact absurd (show false=true from fx) Bool.false_ne_true
 |int a=>
  obtain⟨t',rfl⟩:=ry
  cases x with
  |non=>cases rx;exact SeqAt.EqAt.int_none a t'
  |bl b=>cases rx;exact SeqAt.EqAt.int_bool a t' b
  |int b=>obtain⟨t,rfl⟩:=rx;exact SeqAt.EqAt.int_int a t' b t
  |str b=>obtain⟨t,rfl⟩:=rx;exact SeqAt.EqAt.int_str a t' b t
  |_=>exact absurd (show false=true from fx) Bool.false_ne_true
 |str a=>
  obtain⟨t',rfl⟩:=ry
  cases x with
  |non=>cases rx;exact SeqAt.EqAt.str_none a t'
  |bl b=>cases rx;exact SeqAt.EqAt.str_bool a t' b
  |int b=>obtain⟨t,rfl⟩:=rx;exact SeqAt.EqAt.str_int a t' b t
  |str b=>obtain⟨t,rfl⟩:=rx;exact SeqAt.EqAt.str_str a t' b t
  |_=>exact absurd (show false=true from fx) Bool.false_ne_true
 |_=>exact absurd (show false=true from fy) Bool.false_ne_true
def eqU (x:V)(u:Value):Bool:=match u with
 | .none=>eqV .non x
 | .bool b=>eqV (.bl b) x
 | .int i _=>eqV (.int i) x
 | .str z _=>eqV (.str z) x
 |_=>false
theorem eqU_of {x y:V}{u:Value}(r:RelV y u)(f:flatV y=true):eqU x u=eqV y x:=by
 cases y with
 |non=>cases r;rfl
 |bl b=>cases r;rfl
 |int i=>obtain⟨t,rfl⟩:=r;rfl
 |str z=>obtain⟨t,rfl⟩:=r;rfl
 |_=>exact absurd (show false=true from f) Bool.false_ne_true
theorem any_eqU {x:V}:∀{xs:List V} {us:List Value},Vals xs us→xs.all flatV=true→us.any (eqU x)=xs.any fun y=>eqV y x
 |_,_,.nil,_=>rfl
 |y::xs,u::us,.cons r t,f=>by
  rw[all_cons,and_eq_true]at f
  rw[any_cons,any_cons,eqU_of r f.1,any_eqU t f.2]
theorem mem_eqAt {A:Around}{s:Shared}{x:V}{v:Value}(rx:RelV x v)(fx:flatV x=true):∀{xs:List V} {us:List Value},Vals xs us→xs.all flatV=true→∀u∈us,SeqAt.EqAt A s u v (eqU x u)
 |_,_,.nil,_=>fun u hu=>by cases hu
 |y::xs,u::us,.cons r t,f=>fun u' hu=>by
  rw[all_cons,and_eq_true]at f
  rcases mem_cons.mp hu with rfl | hu
  ·rw[eqU_of r f.1];exact eqAt_V r rx f.1 fx
  ·exact mem_eqAt rx fx t f.2 u' hu
def inV (x:V)(xs:List V):Bool:=xs.any fun y=>eqV y x
def rIn (K:W.Frag)(neg:Bool):R2:=fun x y H Q=>∃p xs,y=.ref p∧(SqL K H p xs∨SqT K H p xs)∧flatV x=true∧xs.all flatV=true∧Q (.bl (if neg then !inV x xs else inV x xs)) H
theorem op_in_seq:OpR X (compareOp .In) (rIn X.K false):=by
 intro pins s σ H x y v u Q I rx ry h
 obtain⟨p,xs,rfl,hq,fx,fs,q⟩:=h
 cases ry
 rcases hq with hq | hq
 ·obtain⟨its,r,pl,hz⟩:=I.list hq
  refine SeqAt.in_listAt (eqU x) pl.isList (fun w hw=>mem_eqAt rx fx r fs w (by simpa using hw)) ⟨.bl _,H,I,rfl,?_⟩
  rw[show its.toArray.any (eqU x)=its.any (eqU x) by simp,any_eqU r fs]
  exact q
 ·obtain⟨its,r,pl,hz⟩:=I.tuple hq
  refine SeqAt.in_tupleAt (eqU x) pl (fun w hw=>mem_eqAt rx fx r fs w (by simpa using hw)) ⟨.bl _,H,I,rfl,?_⟩
  rw[show its.toArray.any (eqU x)=its.any (eqU x) by simp,any_eqU r fs]
  exact q
theorem op_notIn_seq:OpR X (compareOp .NotIn) (rIn X.K true):=by
 intro pins s σ H x y v u Q I rx ry h
 obtain⟨p,xs,rfl,hq,fx,fs,q⟩:=h
 cases ry
 rcases hq with hq | hq
 ·obtain⟨its,r,pl,hz⟩:=I.list hq
  refine SeqAt.notIn_listAt (eqU x) pl.isList (fun w hw=>mem_eqAt rx fx r fs w (by simpa using hw)) ⟨.bl _,H,I,rfl,?_⟩
  rw[show its.toArray.any (eqU x)=its.any (eqU x) by simp,any_eqU r fs]
  exact q
 ·obtain⟨its,r,pl,hz⟩:=I.tuple hq
  refine SeqAt.notIn_tupleAt (eqU x) pl (fun w hw=>mem_eqAt rx fx r fs w (by simpa using hw)) ⟨.bl _,H,I,rfl,?_⟩
  rw[show its.toArray.any (eqU x)=its.any (eqU x) by simp,any_eqU r fs]
  exact q
theorem call_len_seq:CallR X (.builtin "len") (fun xs H Q=>∃p ys,xs=[.ref p]∧(SqL X.K H p ys∨SqT X.K H p ys)∧Q (.int ys.length) H):=by
 intro pins s σ H xs us Q I r h
 obtain⟨p,ys,rfl,hq,q⟩:=h
 obtain⟨u,rfl,rx⟩:=vals1 r
 cases rx
 have hn:=line63
 rcases hq with hq | hq
 ·obtain⟨its,r',pl,hz⟩:=I.list hq
  have hlen:=r'.length
  exact Calls.call_len_list pl.isList (by simp only[size_toArray]<;>omega) ⟨.int ys.length,H,I.tok _,⟨s.toks+1,by rw[size_toArray,hlen]⟩,q⟩
 ·obtain⟨its,r',pl,hz⟩:=I.tuple hq
  have hlen:=r'.length
  exact len_tuple pl (by simp only[size_toArray]<;>omega) ⟨.int ys.length,H,I.tok _,⟨s.toks+1,by rw[size_toArray,hlen]⟩,q⟩
theorem call_len_str:CallR X (.builtin "len") (fun xs H Q=>∃z,xs=[.str z]∧z.length≤sizeLine∧Q (.int z.length) H):=by
 intro pins s σ H xs us Q I r h
 obtain⟨z,rfl,hz,q⟩:=h
 obtain⟨u,rfl,t,rfl⟩:=vals1 r
 have hn:=line63
 exact len_str (by omega) ⟨.int z.length,H,I.tok _,⟨_,rfl⟩,q⟩
theorem call_tuple_of:CallR X (.type "tuple") (fun xs H Q=>∃p ys,xs=[.ref p]∧((SqL X.K H p ys∧∀l,H l=none→Q (.ref l) (upd H l (.tup ys)))∨(SqT X.K H p ys∧Q (.ref p) H))):=by
 intro pins s σ H xs us Q I r h
 obtain⟨p,ys,rfl,h⟩:=h
 obtain⟨u,rfl,rx⟩:=vals1 r
 cases rx
 rcases h with⟨hq,q⟩ | ⟨hq,q⟩
 ·obtain⟨its,r',pl,hz⟩:=I.list hq
  have hlen:=r'.length
  refine call_tuple_list pl.isList (fun h' kp=>?_) (by simp only[size_toArray]<;>omega)
  have I1:Inv X pins σ H {s with heap:=h'}:=I.kept (t':=s.toks) kp
  have I2:Inv X pins σ (upd H h'.objs.size (.tup ys)) {s with heap:=h'.push {cls:=.type "tuple",data:=.seq its.toArray}}:=
   I1.laid (t':=s.toks) (fun b o e=>get?_push_of_some _ e) (Nat.le_refl _) (show ObjOk X.prog X.w _ _ _ (.tup ys) from⟨hz,its,r',IsTup.new _ _⟩)
  exact⟨.ref h'.objs.size,_,I2,rfl,q _ (I1.hok.fresh (Nat.le_refl _))⟩
 ·obtain⟨its,r',pl,hz⟩:=I.tuple hq
  exact call_tuple_same pl ⟨.ref p,H,I,rfl,q⟩
def tyV (K:W.Frag)(T:String)(x:V)(H:Hp):Prop:=match x with
 | .str _=>T="str"
 | .int _=>T="int"
 | .ref p=>(T="list"∧∃xs,SqL K H p xs)∨(T="tuple"∧∃o,K.lookup p=some o∧o.cls=.type "tuple"∧o.dict=none)∨
  (T="dict"∧((∃kvs,H p=some (.dK kvs))∨∃kvs,H p=some (.dT kvs)))∨(T="set"∧∃S n,H p=some (.set S n))
 |_=>False
theorem tyV_is {pins:List (Addr×Obj)}{σ:St}{H:Hp}{s:Shared}{T:String}{x:V}{v:Value}(I:Inv X pins σ H s)(r:RelV x v)(ty:tyV X.K T x H) :
 s.TypeIs v T∧∀a,v=.ref a→∃ob,s.heap.get? a=some ob∧ob.dict=none:=by
 cases x with
 |str z=>
  obtain⟨t,rfl⟩:=r
  cases(show T="str" from ty)
  exact⟨typeIs_str s z t,fun _ e=>nomatch e⟩
 |int i=>
  obtain⟨t,rfl⟩:=r
  cases(show T="int" from ty)
  exact⟨typeIs_int s i t,fun _ e=>nomatch e⟩
 |ref p=>
  cases r
  rcases ty with⟨rfl,xs,hq⟩ | ⟨rfl,o,hk,hc,hd⟩ | ⟨rfl,hk⟩ | ⟨rfl,S,n,hk⟩
  ·obtain⟨its,_,pl,_⟩:=I.list hq
   refine⟨pl.isList.typeIs,fun a e=>?_⟩
   cases e
   obtain⟨o,n,e,c,hd,_⟩:=pl
   exact⟨o,e,hd⟩
  ·refine⟨⟨o,I.kIn p o hk,hc⟩,fun a e=>?_⟩
   cases e
   exact⟨o,I.kIn _ o hk,hd⟩
  ·have z:∃o,s.heap.get? p=some o∧o.ExactDict:=by
    rcases hk with⟨kvs,hk⟩ | ⟨kvs,hk⟩
    ·obtain⟨_,_,_,_,o,_,_,e,ex,_⟩:=I.hok p _ hk
     exact⟨o,e,ex⟩
    ·obtain⟨_,_,_,_,o,_,_,e,ex,_⟩:=I.hok p _ hk
     exact⟨o,e,ex⟩
   obtain⟨o,e,ex⟩:=z
   refine⟨⟨o,e,ex.1⟩,fun a e2=>?_⟩
   cases e2
   exact⟨o,e,ex.2.1⟩
  ·obtain⟨o,_,_,_,e,ex,_⟩:=I.hok p _ hk
   refine⟨⟨o,e,ex.1⟩,fun a e2=>?_⟩
   cases e2
   exact⟨o,e,ex.2.1⟩
 |_=>exact False.elim ty
def tBM (K:W.Frag)(T:String)(r:V→List V→Hp→VK→Prop)(to:TE)(t:TA):TE:=fun σ H Q=>to σ H fun x H1=>tyV K T x H1∧t σ H1 fun xs H2=>r x xs H2 Q
variable {o e:Expr}{es:List Expr}{to:TE}{t:TA}{name:Str}{apos cpos:Pos}{T id:String}{r:V→List V→Hp→VK→Prop}
theorem pe_bm (pa:PlainAttrs T)(slot:Slot T name id)(hty:typeOf (.builtin id)=pure (.type "method_descriptor"))(hm:MtR X id r)(ho:PE X o to)(ha:PA X (e::es) t)
 (hbase:attributeBase o name X.env (eval o X.env)=eval o X.env:=by rfl)
 (hfew:((backTo cpos (starEach (e::es) X.env)).all (fun x=>!x.1)&&(backToKw cpos (keywordEach [] X.env)).all (fun x=>x.1.isSome)
  &&decide ((e::es).length+([]:List Keyword).length+(if([]:List Keyword).isEmpty then 0 else 1)<30))=true:=by rfl)
 (hline:(apos.endLine==cpos.line)=true:=by rfl) (hs:starEach (e::es) X.env=(false,eval e X.env)::starEach es X.env:=by rfl) (hplain:(backTo cpos (starEach es X.env)).any (·.1)=false:=by rfl) :
 PE X (.Call (.Attribute o name apos) (e::es) [] cpos) (tBM X.K T r to t):=by
 intro pins s σ H Q I h
 refine wpAny_Call_method_late hbase hfew hline rfl (thn (ho pins s σ H _ I h) fun v s1 ⟨x,H1,I1,r1,ty,q1⟩=>?_)
 obtain⟨h1,h2⟩:=tyV_is I1 r1 ty
 refine⟨T,id,pa,slot,hty,h1,h2,?_⟩
 have hA:=ha cpos pins s1 σ H1 _ I1 q1
 rw[hs]at hA ⊢
 refine Calls.callWith_builtin (by show(false||(backTo cpos (starEach es X.env)).any (·.1))=false;rw[hplain]<;>rfl) (Calls.evalArgs_plain ?_)
 exact thn hA fun us s2 ⟨vs,H2,I2,r2,q2⟩=>hm pins s2 σ H2 x vs v us Q I2 r1 r2 q2
end
def MtM (X:Cx)(id:String)(r:V→List V→Hp→VK→Prop):Prop:=
 ∀(pins:List (Addr×Obj)) (s:Shared) (σ:St) (H:Hp) (x:V) (xs:List V) (v:Value) (us:List Value) (Q:VK),Inv X pins σ H s→RelV x v→Vals xs us→r x xs H Q→
  wpAny (model X.prog X.w) X.A (call (.builtin id) (v::us)) (EP X pins σ Q) X.xe s
theorem Vals.one:∀{x:V} {us:List Value},Vals [x] us→∃u,us=[u]∧RelV x u
 |_,_,.cons r .nil=>⟨_,rfl,r⟩
section
variable {X:Cx}{pins:List (Addr×Obj)}{σ:St}{H:Hp}{s:Shared}{l b:Addr}{xs ys zs:List V}
theorem Inv.lset {its its':List Value}{n:Nat}{f:Array Value→Array Value}{t':Nat}(I:Inv X pins σ H s)(hH:H l=some (.lst xs))
 (e:s.heap.get? l=some {cls:=.type "list",data:=.seq its.toArray n}) (hf:f its.toArray=its'.toArray) (hv:Vals ys its') (hz:ys.length≤sizeLine) :
 Inv X pins σ (upd H l (.lst ys)) {s with heap:=s.heap.update l (Obj.mapSeq f),toks:=t'}:=by
 have q:=PySem.IsL.update e f
 rw[hf]at q
 refine I.write (x:=l) (e:=l) (by rw[hH];exact trivial) (.inl rfl) (fun b' u hb hu=>(get?_update_other s.heap (Obj.mapSeq f) (Ne.symm hb)).trans hu) ⟨_,q⟩ ?_
 exact⟨hz,its',_,hv,q⟩
theorem Inv.lnew {its:List Value}{t':Nat}(I:Inv X pins σ H s)(hv:Vals ys its)(hz:ys.length≤sizeLine) :
 Inv X pins σ (upd H s.heap.objs.size (.lst ys)) {s with heap:=s.heap.push {cls:=.type "list",data:=.seq its.toArray},toks:=t'}:=
 I.laid (fun _ _ q=>get?_push_of_some _ q) (Nat.le_refl _) ⟨hz,its,0,hv,get?_push_size _ rfl⟩
theorem Inv.fresh (I:Inv X pins σ H s):H s.heap.objs.size=none:=I.hok.fresh (Nat.le_refl _)
theorem Inv.lstM (I:Inv X pins σ H s)(hH:H l=some (.lst xs)):xs.length≤sizeLine∧∃(its:List Value) (n:Nat),Vals xs its∧xs.length=its.length∧s.heap.get? l=some {cls:=.type "list",data:=.seq its.toArray n}:=by
 obtain⟨z,its,n,r,e⟩:=I.hok l _ hH
 exact⟨z,its,n,r,r.length,e⟩
theorem notLongL {n:Nat}(h:n≤sizeLine):Builtin.List.listTooLong n=false:=by
 unfold Builtin.List.listTooLong
 exact decide_eq_false (by omega)
end
section
variable {X:Cx}
def rAppend:V→List V→Hp→VK→Prop:=fun x vs H Q=>∃l xs y,x=.ref l∧vs=[y]∧H l=some (.lst xs)∧xs.length<sizeLine∧Q .non (upd H l (.lst (xs++[y])))
theorem mt_append:MtM X "list.append" rAppend:=by
 intro pins s σ H x vs v us Q I rx rv h
 obtain⟨l,xs,y,rfl,rfl,hH,hz,q⟩:=h
 cases rx
 obtain⟨u,rfl,ru⟩:=rv.one
 obtain⟨z,its,n,r,hl,e⟩:=I.lstM hH
 refine call_meets F.slot_list_append ⟨_,e,rfl⟩ F.entry_list_append (F.args_list_append_2 _ _) (PySem.list_append l its.toArray n u (by rw[size_toArray];omega)) ⟨e,?_⟩
 refine⟨.non,_,I.lset (its':=its++[u]) hH e (by simp) (r.append (.cons ru .nil)) ?_,rfl,q⟩
 rw[length_append,length_singleton]
 omega
def rExtend:V→List V→Hp→VK→Prop:=fun x vs H Q=>∃l b xs zs,x=.ref l∧vs=[.ref b]∧H l=some (.lst xs)∧H b=some (.lst zs)∧xs.length+zs.length≤sizeLine∧Q .non (upd H l (.lst (xs++zs)))
theorem mt_extend:MtM X "list.extend" rExtend:=by
 intro pins s σ H x vs v us Q I rx rv h
 obtain⟨l,b,xs,zs,rfl,rfl,hH,hB,hz,q⟩:=h
 cases rx
 obtain⟨u,rfl,ru⟩:=rv.one
 cases ru
 obtain⟨z,its,n,r,hl,e⟩:=I.lstM hH
 obtain⟨z2,its2,n2,r2,hl2,e2⟩:=I.lstM hB
 have hsz:its.toArray.size+its2.toArray.size≤sizeLine:=by rw[size_toArray,size_toArray];omega
 have hlong:¬(!its.toArray.isEmpty&&Builtin.List.listTooLong (its.toArray.size+its2.toArray.size))=true:=by
  rw[notLongL hsz,Bool.and_false]
  exact Bool.false_ne_true
 refine call_meets F.slot_list_extend ⟨_,e,rfl⟩ F.entry_list_extend (F.args_list_extend_2 _ _)
  (AutoSeq1.list_extend_list_list_0 l its.toArray n b its2.toArray n2 hlong (by rw[size_toArray];omega) (by omega)) ⟨e,e2,?_⟩
 refine⟨.non,_,I.lset (its':=its++its2) hH e (by simp) (r.append r2) ?_,rfl,q⟩
 rw[length_append]
 omega
def rCat:R2:=fun x y H Q=>∃l b xs zs,x=.ref l∧y=.ref b∧H l=some (.lst xs)∧H b=some (.lst zs)∧xs.length+zs.length≤sizeLine∧∀p,H p=none→Q (.ref p) (upd H p (.lst (xs++zs)))
theorem op_cat:OpR X (binaryOp .Add) rCat:=by
 intro pins s σ H x y v u Q I rx ry h
 obtain⟨l,b,xs,zs,rfl,rfl,hH,hB,hz,q⟩:=h
 cases rx
 cases ry
 obtain⟨z,its,n,r,hl,e⟩:=I.lstM hH
 obtain⟨z2,its2,n2,r2,hl2,e2⟩:=I.lstM hB
 refine PySem.P.add_list e e2 ?_ (by rw[size_toArray,size_toArray];omega)
 have ea:its.toArray++its2.toArray=(its++its2).toArray:=by simp
 rw[ea]
 exact⟨.ref _,_,I.lnew (t':=s.toks) (r.append r2) (by rw[length_append];omega),rfl,q _ I.fresh⟩
end
end L2
namespace Att
open PySem PySem.W PySem.Calls PyProof.Rows
theorem ints_of_wellAll {P:Params}{h:Heap}:∀(ns:List Int) (vs:List Value),WellAll P h vs (ns.map WData.int)→IntsAre vs ns:=by
 intro ns
 induction ns with
 |nil=>
  intro vs w
  rw[map_nil]at w
  cases w
  exact .nil
 |cons n ns ih=>
  intro vs w
  rw[map_cons]at w
  cases w with
  |cons a b=>
   cases a
   exact .cons _ _ (ih _ b)
theorem script_of {l:OpenLaw}{n:Nat}(hn:l.most=some n){P:Params}{h:Heap}{args:List WData}{vals:List Value}
 (hpre:l.row.toRowW.claim.pre args=true) (hwl:WellAll P h vals args) :
 ∃a vs ns,vals=[Value.ref a]∧args=[WData.list (ns.map WData.int)]∧h.get? a=some {cls:=.type "list",data:=.seq vs.toArray}∧IntsAre vs ns∧ns.length≤n:=by
 have hsh:WShape.hasAll [] args [.list .int]=true:=(pre_splitW hpre).1
 have hc:l.pre.holds [] {args:=args}=true:=(pre_splitW hpre).2
 obtain⟨d,r,rfl,h1,h2⟩:=hasAllW_cons hsh
 obtain rfl:=hasAllW_nil h2
 obtain⟨xs,rfl,h3⟩:=hasW_list h1
 obtain⟨ns,rfl⟩:=items_int h3
 have hlen:ns.length≤n:=by
  unfold OpenLaw.pre at hc
  have h4:(WTm.not (.lt (.lit (.int (n:Int))) (.len (.arg 0)))).holds [] {args:=[.list (ns.map .int)]}=true:=by
   have h4:=(holds_andW hc).1
   rw[hn]at h4
   exact h4
  have h5:=condW_of h4 (w_not (w_lt w_lit (w_len_list (w_arg rfl))))
  rw[length_map]at h5
  refine Nat.le_of_not_lt fun q=>?_
  have q':(n:Int)<((ns.length:Nat):Int):=by omega
  first
   |(rw[decide_eq_true q']at h5;exact absurd h5 (by decide))
   |(simp at h5;omega)
 cases hwl with
 |cons w1 w2=>
  cases w2
  cases w1 with
  |list ho hall=>exact⟨_,_,ns,rfl,rfl,ho,ints_of_wellAll ns _ hall,hlen⟩
theorem post_true (l:OpenLaw)(args:List WData):l.row.toRowW.claim.post args (.bool true) args=true:=
 postW_of (r:=l.row.toRowW) (X:=(true==true))
  (show WShape.has [] (.bool true) .bool=true by first | rfl | decide | simp[WShape.has,WShape.arms,WShape.armsAll])
  (show(WTm.eq .res (.lit (.bool true))).value [] {args:=args,res:=some (.bool true),after:=args}=some (.bool (true==true)) from w_eq_bool (w_res rfl) w_lit) rfl
theorem attach_call {l:OpenLaw}{n:Nat}{q:Program}{loose:List Str}{XP:(Str→Option Value)→Heap→Prop}{YP:World→Heap→Prop}{d:DefRec}
 (hn:l.most=some n) (hdf:d.params.defaults=[])
 (call:∀(w:World) (s₀ s₁:Shared) (mg mb:Str→Option Value) (fa:Addr) (o:Obj) (pm cd doc:Value) (a:Addr) (vs:List Value) (ns:List Int),
  Ground q loose [] XP w s₀ mg mb s₁.heap→YP w s₁.heap→
  s₁.heap.get? fa=some o→o.data=.func (docDef d.name d.params d.body d.scope pm cd doc)→s₁.heap.CodeRec cd d.name→mg d.name=some (.ref fa)→
  s₁.heap.get? a=some {cls:=.type "list",data:=.seq vs.toArray}→IntsAre vs ns→ns.length≤n→s₁.gens=#[]→
  codeAny (model l.prog w) callerA (.call (.ref fa) ⟨[.ref a],[]⟩) (fun r s'=>r=.ok (.ret (.bool true))∧OldK s₁.heap s'.heap∧s'.os=s₁.os∧AllBare s'.gens) s₁) :
 WalkO q loose XP YP l.row.toRowW d [] (fun f vs=>PySem.call f vs):=by
 intro w s₀ s₁ mg mb G Y fa o pm cd doc dV kV ho hd hcd hD hmg hg args vals as hpre hlay hrd hwl hlo
 obtain rfl:dV=.none:=Dflts.none hD hdf
 obtain rfl:kV=.none:=Dflts.noKw hD
 obtain⟨a,vs,ns,rfl,rfl,hobj,hints,hlen⟩:=script_of hn hpre hwl
 refine enter_call (codeAny_mono (call w s₀ s₁ mg mb fa o pm cd doc a vs ns G Y ho (fd_plain hd) hcd hmg hobj hints hlen hg) fun r s' hq=>?_)
 obtain⟨rfl,h2,h3,h4⟩:=hq
 exact⟨.inl ⟨.bool true,.bool true,[],rfl,fun _=>rfl,.bool true,post_true l _,fun _=>⟨List.Pairwise.nil,fun _ hm=>(nomatch hm)⟩⟩,h2,h3,h4⟩
end Att
namespace L2
theorem vals_ints:∀{vs:List Value} {ns:List Int},IntsAre vs ns→Vals (ns.map V.int) vs
 |_,_,.nil=>.nil
 |_,_,.cons n t h=>.cons ⟨t,rfl⟩ (vals_ints h)
def defArgs (s:Stmt):Arguments:=match s with
 | .FunctionDef _ a _ _ _ _ _ _ _ _=>a
 |_=>{posonlyargs:=[],args:=[],vararg:=none,kwonlyargs:=[],kw_defaults:=[],kwarg:=none,defaults:=[]}
def defBody (s:Stmt):List Stmt:=match s with
 | .FunctionDef _ _ b _ _ _ _ _ _ _=>b
 |_=>[]
def defScope (s:Stmt):Scope:=match s with
 | .FunctionDef _ _ _ _ _ _ sc _ _ _=>sc
 |_=>{kind:=.function,names:=[],isGenerator:=false,isCoroutine:=false}
abbrev CX0:CXT:=fun _ _ _ _ _ _=>False
abbrev E0:XK:=fun _ _ _=>False
theorem pass0 {X:Cx}:Passes CX0 X E0:=fun _ _ _ _ _ _ _ h=>h.elim
structure Fun (K:W.Frag)(x qual:Str)(st:Stmt)(f:Addr)(fd:FuncData):Prop where
 ex:∃(oc:Value) (od:Option Addr) (kV doc pm:Value) (an:Option Addr) (cdv ct:Value) (osl:Array (Option Value)),
  fd=PySem.W.fnOf x qual (defArgs st) (defBody st) (defScope st) .none kV doc pm an cdv ct∧K.lookup f=some ⟨oc,od,.func fd,osl⟩∧PySem.W.codeIn K cdv qual=true
 kp:PySem.W.keepIn K (.ref f)=true
section
variable {P:Program}{w:World}{K:W.Frag}{mg:Str→Option Value}{base:Heap}
theorem Fun.ok {x qual:Str}{st:Stmt}{f:Addr}{fd:FuncData}{N ps:List Str}{k:Nat}{sp:Sp}(F:Fun K x qual st f fd)(S:FnScope N ps (defScope st))(len:∀vs H Q E,sp vs H Q E→vs.length=ps.length)
 (hbody:∀(cdv:Value) (A:Around) (outer:List Env) (s:Shared) (H:Hp) (vs:List V) (Q:VK) (E:XK),Room k (A.deeper (envOfC qual (defScope st) s.heap.objs.size f cdv))→sp vs H Q E→
  ∃t,PSs (cxOf CX0 P w K mg base N qual (defScope st) f cdv A outer s H E).nox (defBody st) t∧t {nx:=fun _ H'=>Q .non H',rt:=Q} (start N vs) H):FnOk P w K mg base CX0 (k+1) f fd ps sp:=by
 obtain⟨oc,od,kV,doc,pm,an,cdv,ct,osl,rfl,lk,hcd⟩:=F.ex
 refine fn_of lk hcd S len fun A outer s H vs Q E hr hsp=>?_
 obtain⟨t,h,q⟩:=hbody cdv A outer s H vs Q E hr hsp
 exact⟨t,h.nox,q⟩
theorem Fun.binds {x qual:Str}{st:Stmt}{f:Addr}{fd:FuncData}{ps:List Str}(F:Fun K x qual st f fd)
 (h:∀(kV doc pm:Value) (an:Option Addr) (cdv ct:Value) (us:List Value),us.length=ps.length→bindArgs (PySem.W.fnOf x qual (defArgs st) (defBody st) (defScope st) .none kV doc pm an cdv ct) ⟨us,[]⟩=pure (ps.zip us)):Binds K fd ps []:=by
 obtain⟨oc,od,kV,doc,pm,an,cdv,ct,osl,rfl,lk,hcd⟩:=F.ex
 exact .all (h kV doc pm an cdv ct)
theorem fun_mk {x qual:Str}{st:Stmt}{f:Addr}{oc:Value}{od an:Option Addr}{osl:Array (Option Value)}{kV doc pm cdv ct:Value}(l:K.lookup f=some ⟨oc,od,.func (PySem.W.fnOf x qual (defArgs st) (defBody st) (defScope st) .none kV doc pm an cdv ct),osl⟩)
 (c:PySem.W.codeIn K cdv qual=true) (k:PySem.W.keepIn K (.ref f)=true):Fun K x qual st f (PySem.W.fnOf x qual (defArgs st) (defBody st) (defScope st) .none kV doc pm an cdv ct):=⟨⟨oc,od,kV,doc,pm,an,cdv,ct,osl,rfl,l,c⟩,k⟩
end
section
variable {X:Cx}
theorem pv (i:Nat){x:Str}{pos:Pos}(hN:X.N[i]?=some x:=by rfl)(hv:Vis X.env.scope x:=by first | exact Or.inl rfl | exact Or.inr (Or.inl rfl) | exact Or.inr (Or.inr rfl))(hd:(x==("__debug__" : Str))=false:=by decide)
 (hcd:(x==("__classdict__" : Str))=false:=by decide):PE X (.Name x pos) (tVar i):=pe_var hN hv hd hcd
end
theorem iteF {A B:Prop}(h:B):if false=true then A else B:=by
 rw[if_neg Bool.false_ne_true]
 exact h
theorem iteT {A B:Prop}(h:A):if true=true then A else B:=by
 rw[if_pos rfl]
 exact h
theorem ite2 {c A B:Prop}[Decidable c](h1:c→A)(h2:¬c→B):if c then A else B:=by
 by_cases h:c
 ·rw[if_pos h]
  exact h1 h
 ·rw[if_neg h]
  exact h2 h
theorem iteNS {c A B:Prop}[Decidable c](hc:c)(h:B):if(!decide c)=true then A else B:=by
 rw[decide_eq_true hc]
 exact iteF h
def Same (H H':Hp):Prop:=∀b o,H b=some o→H' b=some o
theorem Same.refl (H:Hp):Same H H:=fun _ _ h=>h
theorem Same.trans {H H1 H2:Hp}(a:Same H H1)(b:Same H1 H2):Same H H2:=fun c o h=>b c o (a c o h)
theorem Same.seq {K:W.Frag}{H H':Hp}{a:Addr}{xs:List V}(e:Same H H')(h:SqL K H a xs):SqL K H' a xs:=by
 rcases h with(h | ⟨o,h⟩) | h
 ·exact .inl (.inl (e _ _ h))
 ·exact .inl (.inr ⟨o,e _ _ h⟩)
 ·exact .inr h
theorem relab_free {env:Env}:∀{ns:List (Str×NameKind)} {x:Str},ns.lookup x=some .free→
 (ns.map fun(n,k)=>if(k==NameKind.free&&env.scope.kind==.function&&env.kindOf n==some .cell) then(n,NameKind.cell) else(n,k)).lookup x=some .cell∨
 (ns.map fun(n,k)=>if(k==NameKind.free&&env.scope.kind==.function&&env.kindOf n==some .cell) then(n,NameKind.cell) else(n,k)).lookup x=some .free
 |[],_,h=>by simp at h
 |(n,k)::r,x,h=>by
  rw[map_cons]
  by_cases e:(x==n)=true
  ·rw[lookup_cons,e]at h
   have hk:k=.free:=by simpa using h
   subst hk
   by_cases q:(NameKind.free==NameKind.free&&env.scope.kind==.function&&env.kindOf n==some .cell)=true
   ·left;dsimp only;rw[if_pos q,lookup_cons,e]
   ·right;dsimp only;rw[if_neg q,lookup_cons,e]
  ·have e':(x==n)=false:=by simpa using e
   rw[lookup_cons,e']at h
   have ih:=relab_free (env:=env) h
   dsimp only
   split<;>(rw[lookup_cons,e'];exact ih)
theorem relab_back {env:Env}:∀{ns:List (Str×NameKind)} {x:Str} {k:NameKind},(∀y∈ns,y.2≠.cell)→(k=.cell∨k=.free)→
 (ns.map fun(n,k)=>if(k==NameKind.free&&env.scope.kind==.function&&env.kindOf n==some .cell) then(n,NameKind.cell) else(n,k)).lookup x=some k→(x,NameKind.free)∈ns
 |[],_,_,_,_,h=>by simp at h
 |(n,k')::r,x,k,nc,hk,h=>by
  rw[map_cons]at h
  have ih:=relab_back (env:=env) (ns:=r) (x:=x) (k:=k) (fun y hy=>nc y (mem_cons_of_mem _ hy)) hk
  by_cases e:(x==n)=true
  ·have ex:x=n:=by simpa using e
   subst ex
   by_cases q:(k'==NameKind.free&&env.scope.kind==.function&&env.kindOf x==some .cell)=true
   ·have:k'=.free:=by
     cases k'<;>first | rfl | (simp at q)
    subst this
    exact mem_cons_self
   ·dsimp only at h
    rw[if_neg q,lookup_cons,e]at h
    have:k'=k:=by simpa using h
    subst this
    rcases hk with z | z
    ·exact absurd z (nc (x,k') mem_cons_self)
    ·subst z;exact mem_cons_self
  ·have e':(x==n)=false:=by simpa using e
   refine mem_cons_of_mem _ (ih ?_)
   dsimp only at h
   split at h<;>(rw[lookup_cons,e']at h;exact h)
theorem clos_step {env:Env}:∀(ns:List (Str×NameKind)) (acc:List (Str×Addr)),(∀y∈ns,y.2=.free→∃c,env.cells.lookup y.1=some c)→
 (∀x c,acc.lookup x=some c→env.cells.lookup x=some c)→
 ∃cl:List (Str×Addr),(forIn ns acc fun x r=>(match x with | (name,kind)=>if(kind==NameKind.free)=true then do let c ←cellOf env name;pure (ForInStep.yield ((name,c)::r)) else pure (ForInStep.yield r):Sem (ForInStep (List (Str×Addr)))):Sem (List (Str×Addr)))=pure cl∧
  (∀x c,cl.lookup x=some c→env.cells.lookup x=some c)∧(∀x,(x,NameKind.free)∈ns→∃c,cl.lookup x=some c)∧∀x c,acc.lookup x=some c→∃c',cl.lookup x=some c'
 |[],acc,_,hacc=>⟨acc,rfl,hacc,fun _ h=>absurd h (by simp),fun x c h=>⟨c,h⟩⟩
 |(n,k)::r,acc,hfr,hacc=>by
  by_cases q:(k==NameKind.free)=true
  ·have hk:k=.free:=by cases k<;>first | rfl | (simp at q)
   subst hk
   obtain⟨c,hc⟩:=hfr (n,.free) mem_cons_self rfl
   have hof:cellOf env n=pure c:=by unfold cellOf;rw[hc]
   obtain⟨cl,h1,h2,h3,h4⟩:=clos_step (env:=env) r ((n,c)::acc) (fun y hy=>hfr y (mem_cons_of_mem _ hy)) (fun x c' h=>by
    by_cases e:(x==n)=true
    ·have ex:x=n:=by simpa using e
     subst ex
     rw[lookup_cons,e]at h
     have:c=c':=by simpa using h
     rw[←this];exact hc
    ·have e':(x==n)=false:=by simpa using e
     rw[lookup_cons,e']at h
     exact hacc x c' h)
   refine⟨cl,?_,h2,fun x hx=>?_,fun x c' h=>?_⟩
   ·rw[List.forIn_cons]
    dsimp only
    rw[if_pos q,hof]
    exact h1
   ·rcases mem_cons.mp hx with e | e
    ·cases e
     exact h4 n c (by simp)
    ·exact h3 x e
   ·by_cases e:(x==n)=true
    ·have ex:x=n:=by simpa using e
     subst ex
     exact h4 x c (by simp)
    ·have e':(x==n)=false:=by simpa using e
     exact h4 x c' (by rw[lookup_cons,e'];exact h)
  ·obtain⟨cl,h1,h2,h3,h4⟩:=clos_step (env:=env) r acc (fun y hy=>hfr y (mem_cons_of_mem _ hy)) hacc
   refine⟨cl,?_,h2,fun x hx=>?_,h4⟩
   ·rw[List.forIn_cons]
    dsimp only
    rw[if_neg q]
    exact h1
   ·rcases mem_cons.mp hx with e | e
    ·cases e
     exact absurd rfl q
    ·exact h3 x e
theorem clos_of {env:Env}{scope:Scope}(hfr:∀y∈scope.names,y.2=.free→∃c,env.cells.lookup y.1=some c) :
 ∃cl:List (Str×Addr),closureFor scope env=pure cl∧(∀x c,cl.lookup x=some c→env.cells.lookup x=some c)∧∀x,(x,NameKind.free)∈scope.names→∃c,cl.lookup x=some c:=by
 obtain⟨cl,h1,h2,h3,_⟩:=clos_step (env:=env) scope.names [] hfr (fun x c h=>by simp at h)
 refine⟨cl,?_,h2,h3⟩
 unfold closureFor
 dsimp only
 rw[h1]
 rfl
def inner (nt:Nat)(js:List Nat)(σ:St):St:=replicate nt none++js.map fun j=>(σ[j]?).join
def blk (X:Cx)(N:List Str)(scope:Scope)(cl:List (Str×Addr))(C:Addr)(s:Shared)(H:Hp)(fp:List Addr):Cx:=
 {X with N:=N,s₀:=s,H₀:=H,env:=compEnvC scope cl C X.env,outer:=X.stack,ex:=fp,fn:=fun _=>false,pn:=[],xe:=fun _ _=>False}
structure Blk (sc:Scope)(N0:List Str)(N:List Str)(nt:Nat)(js:List Nat)(scope:Scope):Prop where
 kind:scope.kind=.function
 loc:∀y∈scope.names,y.2=.local→scope.names.lookup y.1=some .local
 nocell:∀y∈scope.names,y.2≠.cell
 cap:∀y∈scope.names,y.2=.free→sc.names.lookup y.1=some .cell∨sc.names.lookup y.1=some .free
 len:N.length=nt+js.length
 out:N.drop nt=js.map fun j=>N0.getD j ""
 js:∀j∈js,j<N0.length
 fr:∀x∈N.drop nt,scope.names.lookup x=some .free
 nd:N.Nodup
theorem inner_get {nt:Nat}{js:List Nat}{σ:St}{i:Nat}{v:V}(h:(inner nt js σ)[i]?=some (some v)):∃k j,i=nt+k∧js[k]?=some j∧σ[j]?=some (some v):=by
 unfold inner at h
 by_cases hi:i<nt
 ·rw[getElem?_append_left (by simpa using hi),List.getElem?_replicate,if_pos hi]at h
  cases h
 ·rw[getElem?_append_right (by simpa using hi),length_replicate,getElem?_map]at h
  cases e:js[i - nt]? with
  |none=>rw[e]at h;cases h
  |some j=>
   rw[e]at h
   refine⟨i - nt,j,by omega,e,?_⟩
   have h':(σ[j]?).join=some v:=by simpa using h
   cases e2:σ[j]? with
   |none=>rw[e2]at h';cases h'
   |some o=>rw[e2]at h';cases o with
    |none=>cases h'
    |some w=>have:w=v:=by simpa using h'
             rw[this]
section
variable {X:Cx}{pins:List (Addr×Obj)}{σ:St}{H:Hp}{s:Shared}{N:List Str}{nt:Nat}{js:List Nat}{scope:Scope}{cl:List (Str×Addr)}{fp:List Addr}
theorem blk_start {h':Heap}{tk:Nat}(I:Inv X pins σ H s)(B:Blk X.env.scope X.N N nt js scope)
 (c1:∀x c,cl.lookup x=some c→X.env.cells.lookup x=some c) (c2:∀x,(x,NameKind.free)∈scope.names→∃c,cl.lookup x=some c)
 (hf:∀b∈fp,FpOk X pins H b) (hlt:∀b∈fp,b<s.heap.objs.size)
 (kp:∀b o,s.heap.get? b=some o→h'.get? b=some o) (hC:h'.Ns (s.heap.objs.size+1) fun _=>none)
 (hD:h'.get? s.heap.objs.size=some {cls:=.type "list",data:=.seq ([]:List Value).toArray 0}) :
 Inv (blk X N scope cl (s.heap.objs.size+1) s H fp) [] (inner nt js σ) (upd H s.heap.objs.size (.lst [])) {s with heap:=h',toks:=tk}:=by
 have hfr:∀a,s.heap.objs.size≤a→H a=none:=fun a ha=>I.hok.fresh ha
 have cold:∀x c,X.env.cells.lookup x=some c→c<s.heap.objs.size:=fun x c e=>by
  obtain⟨v,q⟩:=I.cell x c e
  exact q.lt
 refine⟨⟨I.ok.mod,B.kind,I.ok.glob,I.ok.blt,Nat.le_succ _,fun x y c a b=>I.ok.inj x y c (c1 x c a) (c1 y c b),fun x hx=>?_,fun x c z _=>absurd z Bool.false_ne_true,I.ok.hd,I.ok.frames,.inl rfl,fun b hb=>?_,I.bs,Nat.le_trans I.ok.bsz I.sz,fun b o e hb=>?_,fun b hb z=>?_,I.stack,I.stkFree⟩,
  rfl,I.bare,Un.laid kp (Nat.le_refl _) (hfr _ (Nat.le_refl _)),⟨_,hC,fun i x v h1 h2 h3=>?_⟩,fun x c e=>?_,?_,fun x c e=>?_,fun p hp=>absurd (show p∈([]:List (Addr×Obj)) from hp) (by simp),I.hok.laid kp (Nat.le_refl _) ⟨Nat.zero_le _,[],0,.nil,hD⟩,?_⟩
 ·have:(x,NameKind.free)∈scope.names:=hx.elim (fun z=>relab_back B.nocell (.inl rfl) z) fun z=>relab_back B.nocell (.inr rfl) z
  exact c2 x this
 ·refine⟨Nat.ne_of_lt (Nat.lt_succ_of_lt (hlt b hb)),fun x c e=>(hf b hb).2.2.2.2.1 x c (c1 x c e)⟩
 ·rcases(hf b hb).2.2.2.1 with z | z
  ·exact I.ok.noex b o e z
  ·exact absurd (Nat.lt_of_lt_of_le (lt_size (I.ok.bs b o e).1) z) (Nat.lt_irrefl _)
 ·rcases mem_cons.mp (I.stkSub b z) with q | q
  ·exact(hf b hb).2.1 q
  ·exact(hf b hb).2.2.1 q
 ·obtain⟨k,j,rfl,hk,hv⟩:=inner_get h2
  have hkl:k<js.length:=(List.getElem?_eq_some_iff.mp hk).1
  have h1':(N.drop nt)[k]?=some x:=by rw[getElem?_drop];exact h1
  have hxm:x∈N.drop nt:=mem_of_getElem? h1'
  have hfree:scope.names.lookup x=some .free:=B.fr x hxm
  have hj:X.N[j]?=some x:=by
   rw[B.out,getElem?_map,hk]at h1'
   have hjl:j<X.N.length:=B.js j (mem_of_getElem? hk)
   rw[List.getElem?_eq_getElem hjl]
   have e:X.N.getD j "" = x:=by simpa using h1'
   rw[←e]
   simp[getD_eq_getElem?_getD,List.getElem?_eq_getElem hjl]
  have hcap:=B.cap _ (PySem.mem_of_lookup hfree) rfl
  obtain⟨m,hn,hl⟩:=I.loc
  obtain⟨u,ru,lk⟩:=hl j x v hj hv (hcap.elim (fun z=>.inr (.inl z)) fun z=>.inr (.inr z))
  refine⟨u,ru,.inr ⟨relab_free hfree,?_⟩⟩
  rcases lk with⟨z,_⟩ | ⟨_,c,e,q⟩
  ·exact absurd (show X.env.scope.names.lookup x=some .local from z) (by rcases hcap with y | y<;>(rw[y];decide))
  ·obtain⟨c',e'⟩:=c2 x (PySem.mem_of_lookup hfree)
   have ec:=c1 x c' e'
   rw[e]at ec
   cases ec
   obtain⟨o,ho,hd⟩:=q
   exact⟨c,e',o,kp c o ho,hd⟩
 ·obtain⟨v,o,ho,hd⟩:=I.cell x c (c1 x c e)
  exact⟨v,o,kp c o ho,hd⟩
 ·show upd H _ _ (s.heap.objs.size+1)=none
  rw[upd_ne (Nat.ne_of_gt (Nat.lt_succ_self _))]
  exact hfr _ (Nat.le_succ _)
 ·show upd H _ _ c=none
  rw[upd_ne (Nat.ne_of_lt (cold x c (c1 x c e)))]
  exact I.freeC x c (c1 x c e)
 ·show(inner nt js σ).length=N.length
  unfold inner
  rw[length_append,length_replicate,length_map,B.len]
end
def PTs (X:Cx)(ifs:List Expr)(t:TT):Prop:=
 ∀(pins:List (Addr×Obj)) (s:Shared) (σ:St) (H:Hp) (Q:Bool→Hp→Prop),Inv X pins σ H s→t σ H Q→
  wpAny (model X.prog X.w) X.A (forIn ifs true fun c r=>if r=true then do let ok ←isTrue c X.env (eval c X.env);pure (ForInStep.yield ok) else pure (ForInStep.yield r)) (TP X pins σ Q) X.xe s
def tYes:TT:=fun _ H Q=>Q true H
theorem pts_nil {X:Cx}:PTs X [] tYes:=fun _ _ _ H _ I h=>wpAny_tests_nil ⟨H,I,h⟩
theorem pts_one {X:Cx}{c:Expr}{t:TT}(h:PT X c t):PTs X [c] t:=fun pins s σ H Q I q=>wpAny_tests_one (h pins s σ H Q I q)
section
variable {prog:Program}{w:World}{A:Around}{s:Shared}{R:Result→Shared→Prop}
theorem comp_turns {elt tg iter:Expr}{ifs:List Expr}{scope:Scope}{pos:Pos}{it acc:Value}{env:Env}(J:Nat→Shared→Prop)
 (turn:∀n s,J n s→wpAny (model prog w) A (pyNext it) (fun r s1=>match r with
  |none=>R (.ok .next) s1
  |some v=>wpAny (model prog w) A (letOwnedTupleGo tg it v) (fun _ s2=>wpAny (model prog w) A (assign tg env v) (fun _ s3=>
   wpAny (model prog w) A (forIn ifs true fun c r=>if r=true then do let ok ←isTrue c env (eval c env);pure (ForInStep.yield ok) else pure (ForInStep.yield r)) (fun ok s4=>
    if ok=true then wpAny (model prog w) A (eval elt env) (fun x s5=>wpAny (model prog w) A (call (.builtin "list.append") [acc,x]) (fun _ s6=>∃m,m<n∧J m s6) (fun _ _=>False) s5) (fun _ _=>False) s4
    else ∃m,m<n∧J m s4) (fun _ _=>False) s3) (fun _ _=>False) s2) (fun _ _=>False) s1) (fun _ _=>False) s)
 (n:Nat) (h:J n s):codeAny (model prog w) A (.compLoop (.ListComp elt [⟨tg,iter,ifs,0⟩] scope pos) 0 it acc env) R s:=by
 refine codeAny_loop rfl J (fun k s' hJ=>?_) n h
 show wpAny _ A ((compTurn (.ListComp elt [⟨tg,iter,ifs,0⟩] scope pos) 0 it acc env).onRaise (fun x=>do noteFrame x env;theTreesLotGoes x)) _ _ s'
 refine wpAny_noted ?_
 rw[compTurn_list]
 refine wpAny_bind (wpAny_standAt (wpAny_bind (wpAny_mono (turn k s' hJ) (fun r s1 q1=>?_) fun _ _ z=>z.elim)))
 cases r with
 |none=>exact wpAny_pure q1
 |some v=>
  refine wpAny_bind (wpAny_mono q1 (fun _ s2 q2=>wpAny_bind (wpAny_mono q2 (fun _ s3 q3=>wpAny_bind (wpAny_mono q3 (fun ok s4 q4=>?_) fun _ _ z=>z.elim)) fun _ _ z=>z.elim)) fun _ _ z=>z.elim)
  cases ok with
  |false=>exact wpAny_pure ⟨rfl,q4⟩
  |true=>exact wpAny_bind (wpAny_bind (wpAny_mono q4 (fun x s5 q5=>wpAny_bind (wpAny_mono q5 (fun _ s6 q6=>wpAny_pure (wpAny_pure ⟨rfl,q6⟩)) fun _ _ z=>z.elim)) fun _ _ z=>z.elim))
end
def cmpW (J:It)(g:TG)(tt:TT)(te:TE)(Q:VK)(D:Addr)(σ0:St)(H1:Hp):Prop:=∃W:Nat→Nat→St→Hp→Prop,(∃m,W 0 m σ0 (upd H1 D (.lst [])))∧
 ∀i m σ' H',W i m σ' H'→(J.stop i H'∧Q (.ref D) H')∨(J.go i H'∧∀x H2,J.yld i H' x H2→g x σ' H2 fun σ3 H3=>tt σ3 H3 fun ok H4=>
  if ok=true then te σ3 H4 fun y H5=>∃ys,H5 D=some (.lst ys)∧ys.length<sizeLine∧∃m',m'<m∧W (i+1) m' σ3 (upd H5 D (.lst (ys++[y]))) else ∃m',m'<m∧W (i+1) m' σ3 H4)
def tComp (nt:Nat)(js:List Nat)(wi:TI)(g:TG)(tt:TT)(te:TE):TE:=fun σ H Q=>wi σ H fun J H1=>∀D,H1 D=none→cmpW J g tt te Q D (inner nt js σ) H1
theorem pe_comp {X:Cx}{elt tg iter:Expr}{ifs:List Expr}{scope:Scope}{pos:Pos}{N:List Str}{nt:Nat}{js:List Nat}{sc:Scope}{N0:List Str}{wi:TI}{g:TG}{tt:TT}{te:TE}
 (hc:X.calm=true) (hsc:X.env.scope=sc) (hN:X.N=N0) (B:Blk sc N0 N nt js scope) (hi:PI X tg iter wi)
 (hg:∀cl C s H fp,PG (blk X N scope cl C s H fp) tg g) (ht:∀cl C s H fp,PTs (blk X N scope cl C s H fp) ifs tt) (he:∀cl C s H fp,PE (blk X N scope cl C s H fp) elt te)
 (hs:∀x,foldedSetIterable iter X.env x=pure x:=by intro _;rfl):PE X (.ListComp elt [⟨tg,iter,ifs,0⟩] scope pos) (tComp nt js wi g tt te):=by
 subst hsc hN
 intro pins s σ H Q I h
 obtain⟨cl,hcl,c1,c2⟩:=clos_of (env:=X.env) (scope:=scope) fun y hy hk=>I.ok.has y.1 (B.cap y hy hk)
 rw[eval_ListComp]
 refine wpAny_comprehension_free (use:=none) rfl hs hcl B.kind B.loc (thn (hi pins s σ H _ I h) fun v s1 q1=>thn q1 fun itv s2 q2=>?_)
 obtain⟨it,fp,tn,J,H2,e,I2,T,st2,f2,q2⟩:=q2
 subst e
 obtain⟨W,⟨m0,w0⟩,turn⟩:=q2 s2.heap.objs.size (I2.hok.fresh (Nat.le_refl _))
 have hlt:∀b∈fp,b<s2.heap.objs.size:=fun b hb=>by
  obtain⟨o,eo,_⟩:=T.obj _ _ st2 b hb
  exact lt_size eo
 refine wpAny_newObj_type (wpAny_newFunctionEnv B.nocell (by intro y hy;simp at hy) (fun h1 hns hsb=>?_) B.kind)
 dsimp only at hns hsb ⊢
 have hsz:(s2.heap.push {cls:=.type "list",dict:=none,data:=.seq ([]:List Value).toArray}).objs.size=s2.heap.objs.size+1:=by rw[size_push]
 have old:∀b o,s2.heap.get? b=some o→h1.get? b=some o:=fun b o eb=>hsb.extBut b o (by rw[hsz];exact Nat.ne_of_lt (Nat.lt_succ_of_lt (lt_size eb))) (get?_push_of_some _ (get?_push_of_some _ eb))
 have hD:h1.get? s2.heap.objs.size=some {cls:=.type "list",data:=.seq ([]:List Value).toArray 0}:=hsb.extBut _ _ (by rw[hsz];exact Nat.ne_of_lt (Nat.lt_succ_self _)) (get?_push_of_some _ (get?_push_size _ rfl))
 rw[hsz]at hns
 have I3:=blk_start (cl:=cl) (fp:=fp) (tk:=s2.toks+([]:List (Str×Value)).length) I2 B c1 c2 f2 hlt old (show h1.Ns (s2.heap.objs.size+1) fun _=>none from hns) hD
 have stat:∀{H':Hp},(∀b∈fp,H' b=none)→∀b∈fp,FpOk (blk X N scope cl (s2.heap.objs.size+1) s2 H2 fp) [] H' b:=fun{H'} hn b hb=>
  ⟨hn b hb,Nat.ne_of_lt (Nat.lt_succ_of_lt (hlt b hb)),fun z=>(mem_cons.mp (I2.stkSub b z)).elim (f2 b hb).2.1 (f2 b hb).2.2.1,.inl hb,fun x c ec=>(f2 b hb).2.2.2.2.1 x c (c1 x c ec),fun p hp=>absurd (show p∈([]:List (Addr×Obj)) from hp) (by simp)⟩
 have fin:∀{i:Nat} {σ':St} {H':Hp} {s':Shared},Inv (blk X N scope cl (s2.heap.objs.size+1) s2 H2 fp) [] σ' H' s'→Q (.ref s2.heap.objs.size) H'→
  compPost (model X.prog X.w) X.A X.xe none (EP X pins σ Q) (.ref s2.heap.objs.size) (s2.heap.objs.size+1) (.ok .next) s':=fun{i σ' H' s'} Ib q=>by
  obtain⟨m,hn,_⟩:=id Ib.loc
  refine⟨m,hn,fun h'' hs''=>?_⟩
  have I4:Inv X pins σ H' s':=I2.call' Ib.os Ib.base Ib.hok Ib.bare fun b hb=>⟨(f2 b hb).2.2.2.1,(f2 b hb).2.1,(f2 b hb).2.2.2.2.1,(f2 b hb).2.2.2.2.2⟩
  obtain⟨g0,g1,g2,g3,g4,g5⟩:=I2.fpOk (H':=H') (Nat.le_succ _) Ib.free
  exact⟨.ref s2.heap.objs.size,H',I4.turned (t':=s'.toks) (fun b o hb eb=>hs''.extBut b o hb eb) g0 g1 g3 g4 g5,rfl,q⟩
 have loop:codeAny (model X.prog X.w) X.A (.compLoop (.ListComp elt [⟨tg,iter,ifs,0⟩] scope pos) 0 (.ref it) (.ref s2.heap.objs.size) (compEnvC scope cl (s2.heap.objs.size+1) X.env))
  (compPost (model X.prog X.w) X.A X.xe none (EP X pins σ Q) (.ref s2.heap.objs.size) (s2.heap.objs.size+1)) {s2 with heap:=h1,toks:=s2.toks+([]:List (Str×Value)).length}:=by
  refine comp_turns (fun n s'=>∃i σ' H',Inv (blk X N scope cl (s2.heap.objs.size+1) s2 H2 fp) [] σ' H' s'∧tn i s'.heap∧(∀b∈fp,H' b=none)∧W i n σ' H') ?_ m0
   ⟨0,_,_,I3,T.keep _ _ _ st2 fun b _ o eb=>old b o eb,fun b hb=>?_,w0⟩
  ·rintro n s3 ⟨i,σ3,H3,J3,st3,fr3,w3⟩
   rcases turn i n σ3 H3 w3 with⟨stop,qn⟩ | ⟨go,step⟩
   ·refine thn (T.done (blk X N scope cl (s2.heap.objs.size+1) s2 H2 fp) rfl rfl rfl hc i [] s3 σ3 H3 _ J3 (stat fr3) st3 stop) fun r s4 ⟨hr,I4⟩=>?_
    subst hr
    exact fin (i:=i) I4 qn
   ·refine thn (T.item (blk X N scope cl (s2.heap.objs.size+1) s2 H2 fp) rfl rfl rfl hc i [] s3 σ3 H3 _ J3 (stat fr3) st3 go) fun r s4 ⟨u,hr,h4⟩=>?_
    subst hr
    refine thn h4 fun _ s5 ⟨x,H5,I5,r5,y5,st5,fr5⟩=>?_
    have I5':=I5.pinned (stat fr5) (T.obj _ _ st5)
    refine thn (hg _ _ _ _ _ _ s5 σ3 H5 x u _ I5' r5 (step x H5 y5)) fun _ s6 ⟨σ6,H6,I6,q6⟩=>?_
    have again:∀{σ7:St} {H7:Hp} {s7:Shared} {k:Nat},Inv (blk X N scope cl (s2.heap.objs.size+1) s2 H2 fp) ([]++pinsAt fp s5.heap) σ7 H7 s7→k<n→W (i+1) k σ7 H7→
     ∃k,k<n∧∃i σ' H',Inv (blk X N scope cl (s2.heap.objs.size+1) s2 H2 fp) [] σ' H' s7∧tn i s7.heap∧(∀b∈fp,H' b=none)∧W i k σ' H':=fun{σ7 H7 s7 k} I7 hk w7=>by
     refine⟨k,hk,i+1,σ7,H7,I7.unpinned,T.keep _ _ _ st5 fun b hb o eb=>(I7.pin (b,o) (mem_append_right _ (mem_append_right _ (mem_pinsAt hb eb)))).1,fun b hb=>?_,w7⟩
     obtain⟨o,eb,_⟩:=T.obj _ _ st5 b hb
     exact(I7.pin (b,o) (mem_append_right _ (mem_append_right _ (mem_pinsAt hb eb)))).2.1
    refine thn (ht _ _ _ _ _ _ s6 σ6 H6 _ I6 q6) fun ok s7 ⟨H7,I7,q7⟩=>?_
    cases ok with
    |false=>
     rw[if_neg Bool.false_ne_true]at q7 ⊢
     obtain⟨k,hk,w7⟩:=q7
     exact again I7 hk w7
    |true=>
     rw[if_pos rfl]at q7 ⊢
     refine thn (he _ _ _ _ _ _ s7 σ6 H7 _ I7 q7) fun y s8 ⟨v8,H8,I8,r8,ys,e8,z8,k,hk,w8⟩=>?_
     refine thn (mt_append _ s8 σ6 H8 (.ref s2.heap.objs.size) [v8] _ [y] (fun _ H9=>W (i+1) k σ6 H9) I8 rfl (.cons r8 .nil) ⟨_,ys,v8,rfl,rfl,e8,z8,w8⟩) fun _ s9 ⟨_,H9,I9,_,w9⟩=>?_
     exact again I9 hk w9
  ·show upd H2 _ _ b=none
   rw[upd_ne (Nat.ne_of_lt (hlt b hb))]
   exact(f2 b hb).1
 rw[hsz]
 exact codeAny_compStart_list loop (T.self _ 0 _ _ _ (T.keep _ _ _ st2 fun b _ o eb=>old b o eb) loop)
section
variable {X:Cx}
inductive Kn (H:Hp):V→String→Prop where
 |non:Kn H .non "NoneType"
 |bl (b:Bool):Kn H (.bl b) "bool"
 |int (i:Int):Kn H (.int i) "int"
 |str (x:Str):Kn H (.str x) "str"
 |lst {a:Addr} {xs:List V} (e:H a=some (.lst xs)):Kn H (.ref a) "list"
 |tup {a:Addr} {xs:List V} (e:H a=some (.tup xs)):Kn H (.ref a) "tuple"
 |dK {a:Addr} {kvs:List (Key×V)} (e:H a=some (.dK kvs)):Kn H (.ref a) "dict"
theorem Kn.ty {K:W.Frag}{H:Hp}{v:V}{T:String}(h:Kn H v T):TyOf K H v (.type T):=by
 cases h with
 |non=>exact .non
 |bl b=>exact .bl b
 |int i=>exact .int i
 |str x=>exact .str x
 |lst e=>exact .lst e
 |tup e=>exact .tup e
 |dK e=>exact .dK e
def subT (T U:String):Bool:=T==U||(T=="bool"&&U=="int")
theorem kit_int {K:W.Frag}{H:Hp}{v:V}{T:String}(h:Kn H v T):PySem.W.kitOne K (.type T) (.type "int")=some (subT T "int"):=by
 cases h<;>rfl
theorem kit_bool {K:W.Frag}{H:Hp}{v:V}{T:String}(h:Kn H v T):PySem.W.kitOne K (.type T) (.type "bool")=some (subT T "bool"):=by
 cases h<;>rfl
theorem kit_tuple {K:W.Frag}{H:Hp}{v:V}{T:String}(h:Kn H v T):PySem.W.kitOne K (.type T) (.type "tuple")=some (subT T "tuple"):=by
 cases h<;>rfl
theorem kit_list {K:W.Frag}{H:Hp}{v:V}{T:String}(h:Kn H v T):PySem.W.kitOne K (.type T) (.type "list")=some (subT T "list"):=by
 cases h<;>rfl
theorem call_isi:CallR X (.builtin "isinstance") (fun xs H Q=>∃x T U,xs=[x,.ty U]∧Kn H x T∧(U="int"∨U="bool"∨U="tuple"∨U="list")∧Q (.bl (subT T U)) H):=by
 intro pins s σ H xs us Q I r h
 obtain⟨x,T,U,rfl,hk,hU,q⟩:=h
 obtain⟨u,c,rfl,rx,rc⟩:=vals2 r
 cases(show c=Value.type U from rc)
 refine isinst_ok I rx hk.ty (b:=subT T U) ?_ fun tk=>⟨.bl (subT T U),H,I.tok tk,rfl,q⟩
 rcases hU with rfl | rfl | rfl | rfl
 ·exact kit_int hk
 ·exact kit_bool hk
 ·exact kit_tuple hk
 ·exact kit_list hk
theorem call_allB (hc:X.calm=true):CallR X (.builtin "all") (fun xs H Q=>∃(p:Addr) (bs:List Bool),xs=[.ref p]∧SqL X.K H p (bs.map V.bl)∧Q (.bl (bs.all id)) H):=by
 intro pins s σ H xs us Q I r h
 obtain⟨p,bs,rfl,hq,q⟩:=h
 obtain⟨u,rfl,rx⟩:=vals1 r
 cases(show u=Value.ref p from rx)
 obtain⟨its,r',pl,hz⟩:=I.list hq
 have hsz:its.length=bs.length:=by have:=r'.length;rw[length_map]at this;exact this.symm
 refine call_all_walk (wpAny_pyIter_list pl.isList ?_)
 have hne:p≠s.heap.objs.size:=by
  obtain⟨o,ho,_⟩:=pl.isList
  exact Nat.ne_of_lt (lt_size ho)
 refine⟨_,_,_,its.toArray.size,_,_,fun i=>bs.getD i true,rfl,Walks.list (A:=X.A.in1) (show X.A.in1.handled=none from I.ok.hd hc) s.heap.objs.size p hne its.toArray,⟨⟨_,get?_push_size _ rfl,rfl,rfl⟩,pl.isList.push _⟩,?_,?_⟩
 ·intro i v s' Q' E' hP hQ
  have hv:its[i]?=some v:=by simpa using hP
  have hi:i<its.length:=(List.getElem?_eq_some_iff.mp hv).1
  have hb:(bs.map V.bl)[i]?=some (V.bl (bs.getD i true)):=by
   rw[getElem?_map,List.getElem?_eq_getElem (by omega)]
   simp[getD_eq_getElem?_getD,List.getElem?_eq_getElem (show i<bs.length by omega)]
  obtain⟨w',hw,rw'⟩:=r'.get hb
  rw[hv]at hw
  cases hw
  cases(show v=Value.bool _ from rw')
  exact wpAny_truthy_bool hQ
 ·intro h' tk hk
  have e:(List.range its.toArray.size).all (fun i=>bs.getD i true)=bs.all id:=by
   rw[size_toArray,hsz]
   rw[Bool.eq_iff_iff,all_eq_true,all_eq_true]
   constructor
   ·intro h1 x hx
    obtain⟨i,hi,rfl⟩:=List.getElem_of_mem hx
    have:=h1 i (mem_range.mpr hi)
    rw[getD_eq_getElem?_getD,List.getElem?_eq_getElem hi]at this
    exact this
   ·intro h1 i hi
    have hi':=mem_range.mp hi
    rw[getD_eq_getElem?_getD,List.getElem?_eq_getElem hi']
    exact h1 _ (getElem_mem hi')
  rw[e]
  refine⟨.bl (bs.all id),H,I.kept (t':=tk) fun b o eb=>hk b o (fun z=>?_) (get?_push_of_some _ eb),rfl,q⟩
  have:b=s.heap.objs.size:=by simpa using z
  exact absurd (lt_size eb) (by rw[this];exact Nat.lt_irrefl _)
theorem same_new {H:Hp}{p:Addr}(h:H p=none)(o:HO):Same H (upd H p o):=fun b u q=>by rw[upd_ne (ne_of_none q h)];exact q
def rSlA:V→Option Int→Option Int→Hp→VK→Prop:=fun x lo hi H Q=>∃a xs,x=.ref a∧H a=some (.tup xs)∧∀p H',Same H H'→H' p=some (.tup (cutV xs lo hi))→Q (.ref p) H'
end
section
variable {prog:Program}{w:World}{A:Around}{E:Value→Shared→Prop}{s:Shared}
theorem tup_at {t:Addr}{items:Array Value}{k:Value}{Q:Value→Shared→Prop}(ht:IsTup s.heap t items)
 (h:wpAny (model prog w) A.in1 (Builtin.«tuple.__getitem__» ⟨[.ref t,k],[]⟩) (fun fin s'=>∃v,fin=.done (.ret v)∧Q v s') E s):wpAny (model prog w) A (getItem (.ref t) k) Q E s:=by
 have sl:=slot_tuple_getitem
 unfold getItem
 wp_walk using wpAny_sequenceKey ht.typeIs (by decide),wpAny_callSpecial?_slot (name:=Str.ofString "__getitem__") ht.typeIs sl (wpAny_call_entry sl ht.typeIs entry_tuple_getitem (wpAny_mono h (fun fin s' ⟨v,e,q⟩=>⟨v,e,wpAny_pure q⟩) fun _ _ e=>e) (args_tuple_getitem _ _))
theorem cut_whole {t sl:Addr}{items:Array Value}{vl vu:Value}{lo hi:Option Int}{Q:Value→Shared→Prop}(ht:IsTup s.heap t items)(hs:s.heap.IsSliceOf sl vl vu .none)(pl:IsPart vl lo)(pu:IsPart vu hi)
 (hw:HT.sIx items.size 0 lo=0∧HT.sIx items.size items.size hi=items.size) (h:Q (.ref t) s):wpAny (model prog w) A (getItem (.ref t) (.ref sl)) Q E s:=by
 have f1:s.TypeIs (.ref sl) "slice":=let⟨o,ho,hc,_⟩:=hs;⟨o,ho,hc⟩
 have f2:=ht.typeIs
 refine tup_at ht ?_
 wp_walk using tupleItemsOf_ ht,HT.sliceApplied_gen hs pl pu
 exact⟨_,rfl,h⟩
end
section
variable {X:Cx}
theorem sl_tupA:SlR X rSlA:=by
 intro pins s σ H x v vl vu lo hi sl Q I rx hs pl pu h
 obtain⟨a,xs,rfl,hx,q⟩:=h
 cases(show v=Value.ref a from rx)
 by_cases hw:HT.sIx xs.length 0 lo=0∧HT.sIx xs.length xs.length hi=xs.length
 ·obtain⟨its,r,ht,hz⟩:=I.tuple (SqT.of hx)
  have hlen:its.toArray.size=xs.length:=by rw[size_toArray];exact r.length.symm
  refine⟨"tuple",_,slot_tuple_getitem.lookup,ht.typeIs,cut_whole ht hs pl pu (by rw[hlen];exact hw) ⟨.ref a,H,I,rfl,q a H (Same.refl H) ?_⟩⟩
  rw[hx]
  unfold cutV
  rw[hw.1,hw.2,List.drop_zero,Nat.sub_zero,take_length]
 ·exact sl_tup (X:=X) pins s σ H (.ref a) _ vl vu lo hi sl Q I rfl hs pl pu ⟨a,xs,rfl,SqT.of hx,hw,fun p hp=>q p _ (same_new hp _) upd_same⟩
end
structure Nx (P:Program)(w:World)(i l:Addr)(pl:Nat→Heap→Prop)(vs:Array Value):Prop where
 ne:l≠i
 there:∀k h,pl k h→(∃o,h.get? i=some o∧(∃c,o.cls=.type c∧(c="list_iterator"∨c="tuple_iterator"))∧∃f,o.data=.fields f)∧∃o,h.get? l=some o∧(o.cls=.type "list"∨o.cls=.type "tuple")
 keep:∀k h h',pl k h→(∀o,h.get? i=some o→h'.get? i=some o)→(∀o,h.get? l=some o→h'.get? l=some o)→pl k h'
 item:∀(A:Around) k (s:Shared) (Q:Value→Shared→Prop) (E:Value→Shared→Prop) x,pl k s.heap→vs[k]?=some x→(∀h',pl (k+1) h'→Heap.SameBut i s.heap h'→Q x {s with heap:=h'})→
  wpAny (model P w) A (Builtin.SmallTypes.nextOf (.ref i)) Q E s
 done:∀(A:Around) k (s:Shared) (Q:Value→Shared→Prop) (E:Value→Shared→Prop),A.handled=none→pl k s.heap→vs[k]?=none→
   (∀h' e,Heap.ExtBut i s.heap h'→(∃o,h'.get? e=some o∧o.cls=.type "StopIteration")→E (.ref e) {s with heap:=h'})→wpAny (model P w) A (Builtin.SmallTypes.nextOf (.ref i)) Q E s
theorem nx_list {P:Program}{w:World}{i l:Addr}(vs:Array Value)(hne:l≠i):Nx P w i l (fun k h=>h.IsListIter i l k∧h.IsList l vs) vs where
 ne:=hne
 there:=fun k h ⟨⟨o,e,c,d⟩,⟨o',e',c',_⟩⟩=>⟨⟨o,e,⟨_,c,.inl rfl⟩,_,d⟩,o',e',.inl c'⟩
 keep:=fun k h h' ⟨a,b⟩ e1 e2=>⟨a.at e1,b.at e2⟩
 item:=fun A k s Q E x ⟨a,b⟩ hx q=>wpAny_nextOf_list_item a b hx fun h' a' sb=>q h' ⟨a',b.extBut sb.extBut hne⟩ sb
 done:=fun A k s Q E hh ⟨a,b⟩ hx q=>wpAny_nextOf_list_end hh a b hx q
theorem tn_item (it t:Addr)(i:Nat)(dc:Option Addr)(sl:Array (Option Value))(items:Array Value)(x:Value)(hx:items[i]?=some x) :
 Meets (Builtin.«tuple_iterator.__next__» ⟨[.ref it],[]⟩) (fun _ R s=>s.heap.get? it=some ⟨.type "tuple_iterator",dc,.fields #[.ref t,.int i 0],sl⟩∧s.heap.IsTuple t items∧
  ∀h',h'.IsTupleIter it t (i+1)→Heap.SameBut it s.heap h'→R (.ok (.ret x)) {s with heap:=h'}):=
 .of_wp fun prog w A R s h=>by
  obtain⟨hp,g,d,tk,os⟩:=s
  obtain⟨h1,⟨⟨c,dc2,dt,sl2⟩,h2,hc,n,hd⟩,h⟩:=h
  simp only at hc hd
  subst hc hd
  simp only at h1 h2
  wp_walk
  rw[Int.toNat_natCast,hx]
  wp_walk
  exact⟨_,rfl,h _ ⟨_,get?_update_self _ h1 rfl,rfl,rfl⟩ (.update ..)⟩
theorem tn_end (it t:Addr)(i:Nat)(dc:Option Addr)(sl:Array (Option Value))(items:Array Value)(hx:items[i]?=none) :
 Meets (Builtin.«tuple_iterator.__next__» ⟨[.ref it],[]⟩) (fun A R s=>A.handled=none∧s.heap.get? it=some ⟨.type "tuple_iterator",dc,.fields #[.ref t,.int i 0],sl⟩∧s.heap.IsTuple t items∧
  ∀h' e,Heap.ExtBut it s.heap h'→(∃o,h'.get? e=some o∧o.cls=.type "StopIteration")→R (.error (.ref e)) {s with heap:=h'}):=
 .of_wp fun prog w A R s h=>by
  obtain⟨hp,g,d,tk,os⟩:=s
  obtain⟨hh,h1,⟨⟨c,dc2,dt,sl2⟩,h2,hc,n,hd⟩,h⟩:=h
  simp only at hc hd
  subst hc hd
  simp only at h1 h2
  wp_walk
  rw[Int.toNat_natCast,hx]
  wp_walk
  exact wpAny_raiseNew_none hh (h _ _ (fun b o n e=>by repeat (first | exact get?_update_of_ne _ (Ne.symm n) e | refine get?_push_of_some _ ?_)) ⟨_,get?_push_size _ rfl,rfl⟩)
theorem nx_tup {P:Program}{w:World}{i l:Addr}(vs:Array Value)(hne:l≠i):Nx P w i l (fun k h=>h.IsTupleIter i l k∧h.IsTuple l vs) vs where
 ne:=hne
 there:=fun k h ⟨⟨o,e,c,d⟩,⟨o',e',c',_⟩⟩=>⟨⟨o,e,⟨_,c,.inr rfl⟩,_,d⟩,o',e',.inr c'⟩
 keep:=fun k h h' ⟨a,b⟩ e1 e2=>⟨a.at e1,b.at e2⟩
 item:=fun A k s Q E x ⟨a,b⟩ hx q=>by
  obtain⟨⟨c,dc,dt,sl⟩,e,hc,hd⟩:=a
  simp only at hc hd
  subst hc hd
  have hT:s.TypeIs (.ref i) "tuple_iterator":=⟨_,e,rfl⟩
  exact wpAny_bind (wpAny_callSpecial?_slot (name:=Str.ofString "__next__") hT F.slot_tuple_iterator_next (call_meets F.slot_tuple_iterator_next hT F.entry_tuple_iterator_next (F.args_tuple_iterator_next_1 _)
   (tn_item i l k dc sl vs x hx) ⟨e,b,fun h' a' sb=>wpAny_pure (q h' ⟨a',b.extBut sb.extBut hne⟩ sb)⟩))
 done:=fun A k s Q E hh ⟨a,b⟩ hx q=>by
   obtain⟨⟨c,dc,dt,sl⟩,e,hc,hd⟩:=a
   simp only at hc hd
   subst hc hd
   have hT:s.TypeIs (.ref i) "tuple_iterator":=⟨_,e,rfl⟩
   exact wpAny_bind (wpAny_callSpecial?_slot (name:=Str.ofString "__next__") hT F.slot_tuple_iterator_next (call_meets F.slot_tuple_iterator_next hT F.entry_tuple_iterator_next (F.args_tuple_iterator_next_1 _)
    (tn_end i l k dc sl vs hx) ⟨hh,e,b,q⟩))
section
variable {P:Program}{w:World}{A:Around}{E:Value→Shared→Prop}{s:Shared}{z TI TO i j l m:Addr}{p1 p2:Nat→Heap→Prop}{xs ys:Array Value}{k:Nat}
theorem zip_item {x y a b:Value}{Q:Option Value→Shared→Prop}(nd:[z,TI,TO,i,j].Nodup)(c1:l∉[z,TI,TO,i,j])(c2:m∉[z,TI,TO,i,j])(N1:Nx P w i l p1 xs)(N2:Nx P w j m p2 ys)
 (hz:IsZip s.heap z TI TO .none) (hTI:IsPair s.heap TI (.ref i) (.ref j)) (hTO:IsPair s.heap TO a b) (q1:p1 k s.heap) (q2:p2 k s.heap) (hx:xs[k]?=some x) (hy:ys[k]?=some y)
 (hQ:∀h',IsZip h' z TI TO (rawInt s.heap.objs.size)→IsPair h' TO x y→p1 (k+1) h'→p2 (k+1) h'→IsPair h' s.heap.objs.size x y→h'.objs.size=s.heap.objs.size+1→
  (∀c o,c≠z→c≠TO→c≠i→c≠j→s.heap.get? c=some o→h'.get? c=some o)→Q (some (.ref s.heap.objs.size)) {s with heap:=h'}) :
 wpAny (model P w) A (pyNext (.ref z)) Q E s:=by
 simp only[nodup_cons,mem_cons,not_mem_nil,or_false,not_or,not_false_eq_true,and_true,List.nodup_nil]at nd c1 c2
 have hT:s.TypeIs (.ref z) "zip":=⟨_,hz,rfl⟩
 unfold pyNext
 refine wpAny_bind (wpAny_attempt (wpAny_callSpecial?_slot (name:=Str.ofString "__next__") hT F.slot_zip_next (wpAny_call_entry F.slot_zip_next hT F.entry_zip_next ?_ (F.args_zip_next_1 _))))
 obtain⟨hp,g,d,tk,os⟩:=s
 wp_walk using wpAny_onRaise,N1.item _ k _ _ _ x
 ·exact N1.keep _ _ _ q1 (fun o e=>get?_update_of_ne _ nd.1.2.2.1 e) fun o e=>get?_update_of_ne _ (Ne.symm c1.1) e
 ·exact hx
 intro g2 r2 s2
 have t2:IsPair g2 TO a b:=s2.extBut _ _ nd.2.2.1.1 (get?_update_of_ne _ nd.1.2.1 hTO)
 wp_walk using wpAny_onRaise,N2.item _ k _ _ _ y
 ·exact N2.keep _ _ _ q2 (fun o e=>get?_update_of_ne _ nd.2.2.1.2 (s2.extBut _ _ (Ne.symm nd.2.2.2) (get?_update_of_ne _ nd.1.2.2.2 e)))
   fun o e=>get?_update_of_ne _ (Ne.symm c2.2.2.1) (s2.extBut _ _ c2.2.2.2.1 (get?_update_of_ne _ (Ne.symm c2.1) e))
 ·exact hy
 intro g4 r4 s4
 have t4:=s4.extBut _ _ nd.2.2.1.2 (get?_update_self (Obj.mapSeq fun q=>q.setIfInBounds 0 x) t2 rfl)
 have nz:TO≠z:=Ne.symm nd.1.2.1
 have z4:=s4.extBut _ _ nd.1.2.2.2 (get?_update_of_ne (Obj.mapSeq fun q=>q.setIfInBounds 0 x) nz (s2.extBut _ _ nd.1.2.2.1 (get?_update_self (Obj.mapFields fun q=>q.setIfInBounds 0 Value.ellipsis) hz rfl)))
 wp_walk
 refine⟨_,rfl,wpAny_pure ?_⟩
 have sz:(g4.update TO (Obj.mapSeq fun q=>q.setIfInBounds (0+1) y)).objs.size=hp.objs.size:=by
  rw[size_after_update,s4.1]
  show(g2.update TO _).objs.size=_
  rw[size_after_update,s2.1]
  exact size_after_update ..
 rw[sz]
 have zl:z<hp.objs.size:=lt_size hz
 have last:∀{G:Heap} {c:Addr} {o:Obj} {f1 f2:Obj→Obj},c≠z→G.get? c=some o→((G.update z f1).update z f2).get? c=some o:=fun n e=>get?_update_of_ne _ (Ne.symm n) (get?_update_of_ne _ (Ne.symm n) e)
 have mid:∀{c:Addr} {o:Obj} {T:Obj},c≠TO→g4.get? c=some o→((g4.update TO (Obj.mapSeq fun q=>q.setIfInBounds (0+1) y)).push T).get? c=some o:=fun n e=>get?_push_of_some _ (get?_update_of_ne _ (Ne.symm n) e)
 refine hQ _ (get?_update_self _ (get?_update_self _ (mid (Ne.symm nz) z4) rfl) rfl) (last nz (get?_push_of_some _ (get?_update_self _ t4 rfl)))
  (N1.keep _ _ _ r2 (fun o e=>last (Ne.symm nd.1.2.2.1) (mid (Ne.symm nd.2.2.1.1) (s4.extBut _ _ nd.2.2.2 (get?_update_of_ne _ nd.2.2.1.1 e))))
   fun o e=>last c1.1 (mid c1.2.2.1 (s4.extBut _ _ c1.2.2.2.2 (get?_update_of_ne _ (Ne.symm c1.2.2.1) e))))
  (N2.keep _ _ _ r4 (fun o e=>last (Ne.symm nd.1.2.2.2) (mid (Ne.symm nd.2.2.1.2) e)) fun o e=>last c2.1 (mid c2.2.2.1 e))
  (last (Nat.ne_of_gt zl) (get?_push_at sz.symm rfl)) ?_ fun c o n1 n2 n3 n4 e=>last n1 (mid n2 (s4.extBut _ _ n4 (get?_update_of_ne _ (Ne.symm n2) (s2.extBut _ _ n3 (get?_update_of_ne _ (Ne.symm n1) e)))))
 rw[size_after_update,size_after_update,size_push,sz]
theorem zip_done {a b:Value}{Q:Option Value→Shared→Prop}(hh:A.handled=none)(nd:[z,TI,TO,i,j].Nodup)(c1:l∉[z,TI,TO,i,j])(c2:m∉[z,TI,TO,i,j])(N1:Nx P w i l p1 xs)(N2:Nx P w j m p2 ys)
 (hz:IsZip s.heap z TI TO .none) (hTI:IsPair s.heap TI (.ref i) (.ref j)) (hTO:IsPair s.heap TO a b) (q1:p1 k s.heap) (q2:p2 k s.heap) (hend:xs[k]?=none∨ys[k]?=none)
 (hQ:∀h',(∀c o,c≠z→c≠TO→c≠i→c≠j→s.heap.get? c=some o→h'.get? c=some o)→Q none {s with heap:=h'}):wpAny (model P w) A (pyNext (.ref z)) Q E s:=by
 simp only[nodup_cons,mem_cons,not_mem_nil,or_false,not_or,not_false_eq_true,and_true,List.nodup_nil]at nd c1 c2
 have hT:s.TypeIs (.ref z) "zip":=⟨_,hz,rfl⟩
 have stop:∀(G:Heap) (e:Addr) (o:Obj),G.get? z=some ⟨.type "zip",none,.fields #[.ellipsis,.bool false,.bool false,.ref TI,.ref TO],#[]⟩→G.get? e=some o→o.cls=.type "StopIteration"→
  (∀c o,c≠z→c≠TO→c≠i→c≠j→s.heap.get? c=some o→G.get? c=some o)→
  wpAny (model P w) A.in1 (setField (.ref z) 0 .none) (fun _ s''=>wpAny (model P w) A (do if(←isInstance (.ref e) (.type "StopIteration"))=true then pure none else throw (.ref e)) Q E s'') (fun e' s''=>wpAny (model P w) A (do if(←isInstance e' (.type "StopIteration"))=true then pure none else throw e') Q E s'') {s with heap:=G}:=fun G e o g1 g2 hc kp=>by
  have ne:z≠e:=fun q=>by subst q;rw[g1]at g2;cases g2;exact absurd (show Value.type "zip" = Value.type "StopIteration" from hc) (by decide)
  have g3:=get?_update_of_ne (Obj.mapFields fun q=>q.setIfInBounds 0 Value.none) ne g2
  obtain⟨hp,gs,d,tk,os⟩:=s
  have ht:Shared.TypeIs ⟨G.update z (Obj.mapFields fun q=>q.setIfInBounds 0 Value.none),gs,d,tk,os⟩ (.ref e) "StopIteration":=⟨o,g3,hc⟩
  have sub:=isSubtype_stop
  wp_walk
  exact hQ _ fun c o n1 n2 n3 n4 q=>get?_update_of_ne _ (Ne.symm n1) (kp c o n1 n2 n3 n4 q)
 unfold pyNext
 refine wpAny_bind (wpAny_attempt (wpAny_callSpecial?_slot (name:=Str.ofString "__next__") hT F.slot_zip_next (wpAny_call_entry F.slot_zip_next hT F.entry_zip_next ?_ (F.args_zip_next_1 _))))
 have z1:=get?_update_self (Obj.mapFields fun q=>q.setIfInBounds 0 Value.ellipsis) hz rfl
 obtain⟨hp,g,d,tk,os⟩:=s
 have f1:p1 k (hp.update z (Obj.mapFields fun q=>q.setIfInBounds 0 Value.ellipsis)):=N1.keep _ _ _ q1 (fun o e=>get?_update_of_ne _ nd.1.2.2.1 e) fun o e=>get?_update_of_ne _ (Ne.symm c1.1) e
 cases hx:xs[k]? with
 |none=>
  wp_walk using wpAny_onRaise,N1.done _ k
  ·exact hh
  ·exact f1
  ·exact hx
  intro g2 e s2 he
  obtain⟨o,ho,hc⟩:=he
  exact stop g2 e o (s2 _ _ nd.1.2.2.1 z1) ho hc fun c o n1 n2 n3 n4 q=>s2 _ _ n3 (get?_update_of_ne _ (Ne.symm n1) q)
 |some x=>
  have hy:ys[k]?=none:=hend.resolve_left (by rw[hx];exact nofun)
  wp_walk using wpAny_onRaise,N1.item _ k _ _ _ x
  ·exact f1
  ·exact hx
  intro g2 r2 s2
  have t2:IsPair g2 TO a b:=s2.extBut _ _ nd.2.2.1.1 (get?_update_of_ne _ nd.1.2.1 hTO)
  wp_walk using wpAny_onRaise,N2.done _ k
  ·exact hh
  ·exact N2.keep _ _ _ q2 (fun o e=>get?_update_of_ne _ nd.2.2.1.2 (s2.extBut _ _ (Ne.symm nd.2.2.2) (get?_update_of_ne _ nd.1.2.2.2 e)))
    fun o e=>get?_update_of_ne _ (Ne.symm c2.2.2.1) (s2.extBut _ _ c2.2.2.2.1 (get?_update_of_ne _ (Ne.symm c2.1) e))
  ·exact hy
  intro g4 e s4 he
  obtain⟨o,ho,hc⟩:=he
  exact stop g4 e o (s4 _ _ nd.1.2.2.2 (get?_update_of_ne _ (Ne.symm nd.1.2.1) (s2.extBut _ _ nd.1.2.2.1 z1))) ho hc
   fun c o n1 n2 n3 n4 q=>s4 _ _ n4 (get?_update_of_ne _ (Ne.symm n2) (s2.extBut _ _ n3 (get?_update_of_ne _ (Ne.symm n1) q)))
end
def ups (lo:Int)(n:Nat):List Int:=(List.range n).map fun(k:Nat)=>lo+(k:Int)
theorem ups_length (lo:Int)(n:Nat):(ups lo n).length=n:=by unfold ups;rw[length_map,length_range]
theorem vals_items {lo:Int}{n:Nat}{acc:Array Value}(h:ItemsOf (fun i v=>∃t,v=Value.int (lo+i*1) t) acc n):Vals ((ups lo n).map V.int) acc.toList:=by
 have:∀(us:List Value) (ns:List Int),us.length=ns.length→(∀(j:Nat) (u:Value),us[j]?=some u→∃t,∃i,ns[j]?=some i∧u=Value.int i t)→Vals (ns.map V.int) us:=by
  intro us
  induction us with
  |nil=>intro ns hl _;cases ns with
   |nil=>exact .nil
   |cons=>cases hl
  |cons x r ih=>
   intro ns hl hh
   cases ns with
   |nil=>cases hl
   |cons n ns=>
    obtain⟨t,i,e1,e2⟩:=hh 0 x rfl
    have:n=i:=by simpa using e1
    subst this
    exact .cons ⟨t,e2⟩ (ih ns (by simpa using hl) fun j u hj=>hh (j+1) u (by simpa using hj))
 refine this _ _ (by rw[ups_length,length_toList];exact h.1) fun j u hj=>?_
 have hj':acc[j]?=some u:=by simpa using hj
 obtain⟨t,e⟩:=h.2 j u hj'
 have hjn:j<n:=by rw[←h.1];exact(Array.getElem?_eq_some_iff.mp hj').1
 refine⟨t,lo+(j:Int),?_,by rw[e,Int.mul_one]⟩
 unfold ups
 rw[getElem?_map,getElem?_range hjn]
 rfl
section
variable {X:Cx}
theorem call_rng2:CallR X (.type "range") (fun xs H Q=>∃i j:Int,xs=[.int i,.int j]∧∀p,H p=none→Q (.ref p) (upd H p (.rng i j))):=by
 intro pins s σ H xs us Q I r h
 obtain⟨i,j,rfl,q⟩:=h
 obtain⟨u,u',rfl,r1,r2⟩:=vals2 r
 obtain⟨t,rfl⟩:=(show ∃t,u=Value.int i t from r1)
 obtain⟨t',rfl⟩:=(show ∃t,u'=Value.int j t from r2)
 refine call_range_2 ⟨.ref s.heap.objs.size,_,I.laid (a:=s.heap.objs.size) (o:=.rng i j) (fun b ob q=>get?_push_of_some _ q) (Nat.le_refl _) ⟨_,_,_,get?_push_size _ rfl⟩,rfl,q _ (I.hok.fresh (Nat.le_refl _))⟩
theorem call_list_rng (hc:X.calm=true):CallR X (.type "list") (fun xs H Q=>∃p i j,xs=[.ref p]∧H p=some (.rng i j)∧(-(2^62)≤i∧i<2^62∧-(2^62)≤j∧j<2^62)∧(j - i).toNat≤sizeLine∧
 ∀l,H l=none→Q (.ref l) (upd H l (.lst ((ups i (j - i).toNat).map V.int)))):=by
 intro pins s σ H xs us Q I r h
 obtain⟨p,i,j,rfl,hp,⟨b1,b2,b3,b4⟩,hz,q⟩:=h
 obtain⟨u,rfl,rx⟩:=vals1 r
 cases(show u=Value.ref p from rx)
 obtain⟨t1,t2,t3,ho⟩:=(show ObjOk X.prog X.w H s.heap p (.rng i j) from I.hok p _ hp)
 refine call_list_range (I.ok.hd hc) ho (small_one b1 b2 b3 b4) (n:=(j - i).toNat) (by rw[rangeSize_one];split<;>omega) (by rw[sizeLine_eq]at hz;exact hz) fun h' tk acc c' hk hS hacc=>?_
 refine⟨.ref s.heap.objs.size,_,I.laid (a:=s.heap.objs.size) (t':=tk) (o:=.lst ((ups i (j - i).toNat).map V.int)) hk (Nat.le_refl _) ?_,rfl,q _ (I.hok.fresh (Nat.le_refl _))⟩
 refine⟨by rw[length_map,ups_length];exact hz,acc.toList,c',vals_items hacc,?_⟩
 have e:acc.toList.toArray=acc:=by simp
 rw[e]
 exact hS
end
def ItAt (t:Bool)(i l:Addr)(k:Nat)(h:Heap):Prop:=match t with
 |true=>h.IsTupleIter i l k
 |false=>h.IsListIter i l k
def SqK (t:Bool)(K:W.Frag)(H:Hp)(l:Addr)(xs:List V):Prop:=match t with
 |true=>SqT K H l xs
 |false=>SqL K H l xs
theorem ItAt.at {t:Bool}{i l:Addr}{k:Nat}{h h':Heap}(x:ItAt t i l k h)(e:∀o,h.get? i=some o→h'.get? i=some o):ItAt t i l k h':=by
 cases t
 ·exact Heap.IsListIter.at x e
 ·exact Heap.IsTupleIter.at x e
theorem ItAt.obj {t:Bool}{i l:Addr}{k:Nat}{h:Heap}(x:ItAt t i l k h):∃o f c,h.get? i=some o∧o.data=.fields f∧o.cls=.type c∧(c="list_iterator"∨c="tuple_iterator"):=by
 cases t
 ·obtain⟨o,e,c,d⟩:=(show h.IsListIter i l k from x)
  exact⟨o,_,_,e,d,c,.inl rfl⟩
 ·obtain⟨o,e,c,d⟩:=(show h.IsTupleIter i l k from x)
  exact⟨o,_,_,e,d,c,.inr rfl⟩
section
variable {X:Cx}{pins:List (Addr×Obj)}{σ:St}{H:Hp}{s:Shared}
theorem Inv.sqk {t:Bool}{l:Addr}{xs:List V}(I:Inv X pins σ H s)(h:SqK t X.K H l xs):∃its:List Value,Vals xs its∧(∃o,s.heap.get? l=some o∧(o.cls=.type "list"∨o.cls=.type "tuple"))∧
 ∀(i:Addr),l≠i→∃pl:Nat→Heap→Prop,Nx X.prog X.w i l pl its.toArray∧(∀k,ItAt t i l k s.heap→pl k s.heap)∧(∀k h',pl k h'→ItAt t i l k h'):=by
 cases t
 ·obtain⟨its,r,p,hz⟩:=I.list (show SqL X.K H l xs from h)
  obtain⟨o,ho,hc,n,hd⟩:=id p.isList
  exact⟨its,r,⟨o,ho,.inl hc⟩,fun i ne=>⟨_,nx_list its.toArray ne,fun k z=>⟨z,p.isList⟩,fun k h' z=>z.1⟩⟩
 ·obtain⟨its,r,p,hz⟩:=I.tuple (show SqT X.K H l xs from h)
  obtain⟨o,ho,hc,n,hd⟩:=id p
  exact⟨its,r,⟨o,ho,.inr hc⟩,fun i ne=>⟨_,nx_tup its.toArray ne,fun k z=>⟨z,p⟩,fun k h' z=>z.1⟩⟩
theorem Inv.sqk_inj {t:Bool}{l:Addr}{xs ys:List V}(I:Inv X pins σ H s)(h:SqK t X.K H l xs)(h':SqK t X.K H l ys):xs=ys:=by
 cases t
 ·exact I.list_inj h h'
 ·exact I.tuple_inj h h'
end
def Itz (t:Bool)(K:W.Frag)(l m:Addr):It where
 go:=fun i H=>∃xs ys x y,SqK t K H l xs∧SqK t K H m ys∧xs[i]?=some x∧ys[i]?=some y
 yld:=fun i H v H'=>∃p x y,v=.ref p∧H p=none∧H'=upd H p (.tup [x,y])∧(∀xs,SqK t K H l xs→xs[i]?=some x)∧∀ys,SqK t K H m ys→ys[i]?=some y
 stop:=fun i H=>∃xs ys,SqK t K H l xs∧SqK t K H m ys∧(xs[i]?=none∨ys[i]?=none)
theorem turn_zip {P:Program}{w:World}{K:W.Frag}{es:List Expr}{k0:Nat}{pos:Pos}{t:Bool}{z TI TO i j l m:Addr}(a1:TI≠z)(a2:TO≠z)(a3:i≠z)(a4:j≠z)(a5:TI≠TO)(a6:TI≠i)(a7:TI≠j)(a8:TO≠i)(a9:TO≠j)(b1:i≠j)
 (c1:l∉[z,TI,TO,i,j]) (c2:m∉[z,TI,TO,i,j]) :
 Turn P w K (.Tuple es k0 pos) (Itz t K l m) [z,TI,TO,i,j] z (fun k h=>IsZip h z TI TO .none∧IsPair h TI (.ref i) (.ref j)∧(∃a b,IsPair h TO a b)∧ItAt t i l k h∧ItAt t j m k h) where
 mem:=by simp
 obj:=fun k h ⟨hz,h1,⟨a,b,h2⟩,h3,h4⟩ c hc=>by
  obtain⟨o1,f1,_,e1,d1,_⟩:=h3.obj
  obtain⟨o2,f2,_,e2,d2,_⟩:=h4.obj
  simp only[mem_cons,not_mem_nil,or_false]at hc
  rcases hc with rfl | rfl | rfl | rfl | rfl
  ·exact⟨_,hz,fun v q=>by cases q⟩
  ·exact⟨_,h1,fun v q=>by cases q⟩
  ·exact⟨_,h2,fun v q=>by cases q⟩
  ·exact⟨_,e1,fun v q=>by rw[d1]at q;cases q⟩
  ·exact⟨_,e2,fun v q=>by rw[d2]at q;cases q⟩
 keep:=fun k h h' ⟨hz,h1,⟨a,b,h2⟩,h3,h4⟩ kp=>⟨kp z (by simp) _ hz,kp TI (by simp) _ h1,⟨a,b,kp TO (by simp) _ h2⟩,h3.at fun o e=>kp i (by simp) o e,h4.at fun o e=>kp j (by simp) o e⟩
 item:=by
  intro X hP hw hK hc k pins s σ H E I hf st hg
  subst hP hw hK
  obtain⟨xs,ys,x,y,hl,hm,hx,hy⟩:=hg
  obtain⟨hz,h1,⟨a,b,h2⟩,h3,h4⟩:=st
  have cl:=c1
  have cm:=c2
  simp only[mem_cons,not_mem_nil,or_false,not_or]at c1 c2
  obtain⟨its,r1,_,n1⟩:=I.sqk hl
  obtain⟨jts,r2,_,n2⟩:=I.sqk hm
  obtain⟨p1,N1,u1,v1⟩:=n1 i c1.2.2.2.1
  obtain⟨p2,N2,u2,v2⟩:=n2 j c2.2.2.2.2
  obtain⟨u,hu,ru⟩:=r1.get hx
  obtain⟨u',hu',ru'⟩:=r2.get hy
  have D:[z,TI,TO,i,j].Nodup:=by simp[a1,a2,a3,a4,a5,a6,a7,a8,a9,b1,Ne.symm a1,Ne.symm a2,Ne.symm a3,Ne.symm a4]
  refine zip_item D cl cm N1 N2 hz h1 h2 (u1 k h3) (u2 k h4) (x:=u) (y:=u') (by simpa using hu) (by simpa using hu') fun h' z1 z2 z3 z4 z5 z6 kp=>?_
  refine⟨_,rfl,wpAny_letOwnedTupleGo_zip z1 fun h'' y1 sb=>?_⟩
  have fz:H s.heap.objs.size=none:=I.hok.fresh (Nat.le_refl _)
  have zlt:z<s.heap.objs.size:=lt_size hz
  have mine:∀c∈[z,TI,TO,i,j],c≠s.heap.objs.size:=fun c hc'=>by
   obtain⟨o1,f1,_,e1,d1,_⟩:=h3.obj
   obtain⟨o2,f2,_,e2,d2,_⟩:=h4.obj
   simp only[mem_cons,not_mem_nil,or_false]at hc'
   rcases hc' with rfl | rfl | rfl | rfl | rfl
   ·exact Nat.ne_of_lt (lt_size hz)
   ·exact Nat.ne_of_lt (lt_size h1)
   ·exact Nat.ne_of_lt (lt_size h2)
   ·exact Nat.ne_of_lt (lt_size e1)
   ·exact Nat.ne_of_lt (lt_size e2)
  have kp2:∀c o,c∉[z,TI,TO,i,j]→s.heap.get? c=some o→h''.get? c=some o:=fun c o hc' e=>by
   simp only[mem_cons,not_mem_nil,or_false,not_or]at hc'
   exact sb.extBut _ _ hc'.1 (kp c o hc'.1 hc'.2.2.1 hc'.2.2.2.1 hc'.2.2.2.2 e)
  have tp:h''.get? s.heap.objs.size=some {cls:=.type "tuple",data:=.seq #[u,u']}:=sb.extBut _ _ (mine z (by simp)).symm z5
  have notH:∀c∈[z,TI,TO,i,j],H c=none:=fun c hc'=>(hf c hc').1
  have I1:Inv X pins σ (upd H s.heap.objs.size (.tup [x,y])) {s with heap:=h''}:=by
   have un:Un X.fs [z,TI,TO,i,j] H (upd H s.heap.objs.size (.tup [x,y])) s.heap h'':=
    ⟨fun c o e n nf hx=>kp2 c o hx e,fun c o e n nf hx=>⟨o.slots,kp2 c o hx e⟩,fun c o e n hx=>by rw[upd_ne (Nat.ne_of_lt (lt_size e))];exact n,
     fun c o e hx=>⟨o,kp2 c o hx e⟩,fun c xs e=>by rw[upd_ne (ne_of_none e fz)];exact e,fun c o xs e=>by rw[upd_ne (ne_of_none e fz)];exact e,fun c ps e=>⟨#[],by rw[upd_ne (ne_of_none e fz),e];simp⟩⟩
   have hok:HOk X.prog X.w (upd H s.heap.objs.size (.tup [x,y])) h'':=fun c o e=>by
    by_cases hcs:c=s.heap.objs.size
    ·subst hcs
     rw[upd_same]at e
     cases e
     exact⟨by show 2≤sizeLine;decide,[u,u'],.cons ru (.cons ru' .nil),⟨_,tp,rfl,_,rfl⟩⟩
    ·rw[upd_ne hcs]at e
     refine(I.hok c o e).stay (fun d w' hd q=>kp2 d w' (fun zz=>?_) q) (fun d q=>?_) fun d w' q=>?_
     ·have hn:=notH d zz
      rcases hd with rfl | hd
      ·rw[hn]at e;cases e
      ·rw[hn]at hd;cases hd
     ·rw[upd_ne (ne_of_none q fz)];exact q
     ·rw[upd_ne (ne_of_none q fz)];exact q
   have hch:∀b∈[z,TI,TO,i,j],(b∈X.ex∨X.s₀.heap.objs.size≤b)∧b≠X.env.locals∧(∀x c,X.env.cells.lookup x=some c→c≠b)∧∀p∈X.pn++pins,p.1≠b:=fun b hb=>⟨(hf b hb).2.2.2.1,(hf b hb).2.1,(hf b hb).2.2.2.2.1,(hf b hb).2.2.2.2.2⟩
   refine I.step (g':=s.gens) (d':=s.drawn) (t':=s.toks) (ch:=[z,TI,TO,i,j]) hch (fun c o _ _ hc' e _=>kp2 c o hc' e) (fun c o _ _ hc' e _=>⟨o.slots,kp2 c o hc' e⟩) (fun c o hc' e n=>un.free c o e n hc') (fun c o hc' e=>un.there c o e hc') un.tups un.frzs un.tbls (fun m' hm'=>?_) hok I.bare
   obtain⟨o,es',ep,ho,r⟩:=hm'
   exact⟨o,es',ep,kp2 _ o (fun zz=>(hf _ zz).2.1 rfl) ho,r⟩
  refine⟨.ref s.heap.objs.size,_,I1,rfl,⟨s.heap.objs.size,x,y,rfl,fz,rfl,fun xs' q=>by rw[I.sqk_inj q hl];exact hx,fun ys' q=>by rw[I.sqk_inj q hm];exact hy⟩,?_,fun c hc'=>?_⟩
  ·have up:∀c o,c≠z→h'.get? c=some o→h''.get? c=some o:=fun c o hc' e=>sb.extBut _ _ hc' e
   exact⟨y1,up _ _ a1 (kp _ _ a1 a5 a6 a7 h1),⟨_,_,up _ _ a2 z2⟩,(v1 _ _ z3).at fun o e=>up _ o a3 e,(v2 _ _ z4).at fun o e=>up _ o a4 e⟩
  ·rw[upd_ne (mine c hc')]
   exact notH c hc'
 done:=by
   intro X hP hw hK hc k pins s σ H E I hf st hg
   subst hP hw hK
   obtain⟨xs,ys,hl,hm,hend⟩:=hg
   obtain⟨hz,h1,⟨a,b,h2⟩,h3,h4⟩:=st
   have cl:=c1
   have cm:=c2
   simp only[mem_cons,not_mem_nil,or_false,not_or]at c1 c2
   obtain⟨its,r1,_,n1⟩:=I.sqk hl
   obtain⟨jts,r2,_,n2⟩:=I.sqk hm
   obtain⟨p1,N1,u1,v1⟩:=n1 i c1.2.2.2.1
   obtain⟨p2,N2,u2,v2⟩:=n2 j c2.2.2.2.2
   have D:[z,TI,TO,i,j].Nodup:=by simp[a1,a2,a3,a4,a5,a6,a7,a8,a9,b1,Ne.symm a1,Ne.symm a2,Ne.symm a3,Ne.symm a4]
   refine zip_done (I.ok.hd hc) D cl cm N1 N2 hz h1 h2 (u1 k h3) (u2 k h4) (hend.elim (fun q=>.inl (by simpa using r1.none_of q)) fun q=>.inr (by simpa using r2.none_of q)) fun h' kp=>⟨rfl,?_⟩
   have kp2:∀c o,c∉[z,TI,TO,i,j]→s.heap.get? c=some o→h'.get? c=some o:=fun c o hc' e=>by
    simp only[mem_cons,not_mem_nil,or_false,not_or]at hc'
    exact kp c o hc'.1 hc'.2.2.1 hc'.2.2.2.1 hc'.2.2.2.2 e
   have hch:∀b∈[z,TI,TO,i,j],(b∈X.ex∨X.s₀.heap.objs.size≤b)∧b≠X.env.locals∧(∀x c,X.env.cells.lookup x=some c→c≠b)∧∀p∈X.pn++pins,p.1≠b:=fun b hb=>⟨(hf b hb).2.2.2.1,(hf b hb).2.1,(hf b hb).2.2.2.2.1,(hf b hb).2.2.2.2.2⟩
   refine I.step (g':=s.gens) (d':=s.drawn) (t':=s.toks) (ch:=[z,TI,TO,i,j]) hch (fun c o _ _ hc' e _=>kp2 c o hc' e) (fun c o _ _ hc' e _=>⟨o.slots,kp2 c o hc' e⟩) (fun _ _ _ _ n=>n) (fun c o hc' e=>⟨o,kp2 c o hc' e⟩) (fun _ _ e=>e) (fun _ _ _ e=>e) (fun b ps e=>⟨#[],by rw[e];simp⟩) (fun m' hm'=>?_) (fun c o e=>?_) I.bare
   ·obtain⟨o,es',ep,ho,r⟩:=hm'
    exact⟨o,es',ep,kp2 _ o (fun zz=>(hf _ zz).2.1 rfl) ho,r⟩
   ·refine(I.hok c o e).stay (fun d w' hd q=>kp2 d w' (fun zz=>?_) q) (fun _ q=>q) fun _ _ q=>q
    have hn:=(hf d zz).1
    rcases hd with rfl | hd
    ·rw[hn]at e;cases e
    ·rw[hn]at hd;cases hd
 self:=fun A k s Q E st h=>wpAny_pyIter_zip st.1 h
theorem tz_new (l m:Addr)(xs ys:Array Value):Meets (Builtin.«zip.__new__» ⟨[.type "zip",.ref l,.ref m],[]⟩) (fun _ R s=>s.heap.IsTuple l xs∧s.heap.IsTuple m ys∧
 ∀h':Heap,IsZip h' (s.heap.objs.size+4) (s.heap.objs.size+2) (s.heap.objs.size+3) .none→IsPair h' (s.heap.objs.size+2) (.ref s.heap.objs.size) (.ref (s.heap.objs.size+1))→
  IsPair h' (s.heap.objs.size+3) .none .none→h'.IsTupleIter s.heap.objs.size l 0→h'.IsTupleIter (s.heap.objs.size+1) m 0→(∀c o,s.heap.get? c=some o→h'.get? c=some o)→
  R (.ok (.ret (.ref (s.heap.objs.size+4)))) {s with heap:=h'}):=
 .of_wp fun prog w A R s h=>by
  obtain⟨hp,g,d,tk,os⟩:=s
  obtain⟨h1,h2,h⟩:=h
  have hsub:=sub_zip
  wp_walk using wpAny_pyIter_tuple h1,wpAny_pyIter_tuple (Heap.IsTuple.push h2 _)
  simp only[size_push]
  refine⟨_,rfl,h _ (get?_push_at (by simp only[size_push]) rfl) ?_ ?_ ?_ ?_ fun c o x=>?_⟩
  ·exact get?_push_of_some _ (get?_push_of_some _ (get?_push_at (by simp only[size_push]) rfl))
  ·exact get?_push_of_some _ (get?_push_at (by simp only[size_push]) rfl)
  ·exact⟨_,get?_push_of_some _ (get?_push_of_some _ (get?_push_of_some _ (get?_push_of_some _ (get?_push_size _ rfl)))),rfl,rfl⟩
  ·exact⟨_,get?_push_of_some _ (get?_push_of_some _ (get?_push_of_some _ (get?_push_at (by simp only[size_push]) rfl))),rfl,rfl⟩
  repeat (first | exact x | refine get?_push_of_some _ ?_)
section
variable {prog:Program}{w:World}{A:Around}{E:Value→Shared→Prop}{s:Shared}
theorem zip_tups {l m:Addr}{xs ys:Array Value}{Q:Value→Shared→Prop}(h1:s.heap.IsTuple l xs)(h2:s.heap.IsTuple m ys)
 (h:∀h',IsZip h' (s.heap.objs.size+4) (s.heap.objs.size+2) (s.heap.objs.size+3) .none→IsPair h' (s.heap.objs.size+2) (.ref s.heap.objs.size) (.ref (s.heap.objs.size+1))→
  IsPair h' (s.heap.objs.size+3) .none .none→h'.IsTupleIter s.heap.objs.size l 0→h'.IsTupleIter (s.heap.objs.size+1) m 0→
  (∀c o,s.heap.get? c=some o→h'.get? c=some o)→Q (.ref (s.heap.objs.size+4)) {s with heap:=h'}) :
 wpAny (model prog w) A (call (.type "zip") [.ref l,.ref m]) Q E s:=
 callType_new F.called_zip (by decide) (F.typeCall_zip_2 _ _) (F.newCall_zip_2 _ _) (fun obj=>F.args_object_init_3 obj _ _) F.entry_zip_new (tz_new l m xs ys)
  ⟨h1,h2,fun h' z p1 p2 i1 i2 kp=>⟨⟨_,z,rfl⟩,h h' z p1 p2 i1 i2 kp⟩⟩
end
theorem apart_nat (n:Nat){a b:Nat}(h:a≠b):n+a≠n+b:=fun z=>h (Nat.add_left_cancel z)
theorem not_fresh5 {n c:Nat}(h:c<n)(z:c=n+4∨c=n+2∨c=n+3∨c=n∨c=n+1):False:=by omega
theorem fresh5 {n c:Nat}(z:c=n+4∨c=n+2∨c=n+3∨c=n∨c=n+1):n≤c:=by omega
section
variable {X:Cx}
def iZip (t:Bool)(K:W.Frag)(ta:TA):TI:=fun σ H R=>ta σ H fun vs H1=>∃l m xs ys,vs=[.ref l,.ref m]∧SqK t K H1 l xs∧SqK t K H1 m ys∧R (Itz t K l m) H1
theorem pi_zip (t:Bool){es:List Expr}{k0:Nat}{tp:Pos}{a b:Expr}{ta:TA}{p pos:Pos}(hg:Gl X "zip")(hm:X.mg "zip" = none)(ha:PA X [a,b] ta)(hs:starEach [a,b] X.env=[(false,eval a X.env),(false,eval b X.env)]:=by rfl)(hs2:starEach [b] X.env=[(false,eval b X.env)]:=by rfl) :
 PI X (.Tuple es k0 tp) (.Call (.Name "zip" p) [a,b] [] pos) (iZip t X.K ta):=by
 intro pins s σ H R I h
 refine Call_ (ld_blt I hg hm boot_zip (callWith_type1 (thn (ha pos pins s σ H _ I h) fun us s1 ⟨vs,H1,I1,r1,q1⟩=>?_) (by rw[hs,hs2]) (by rw[hs2];rfl)))
 obtain⟨l,m,xs,ys,e,hl,hm',q⟩:=q1
 subst e
 obtain⟨u,u',rfl,ru,ru'⟩:=vals2 r1
 cases(show u=Value.ref l from ru)
 cases(show u'=Value.ref m from ru')
 obtain⟨its,_,⟨ol,eol,_⟩,_⟩:=I1.sqk hl
 obtain⟨jts,_,⟨om,eom,_⟩,_⟩:=I1.sqk hm'
 have ll:l<s1.heap.objs.size:=lt_size eol
 have lm:m<s1.heap.objs.size:=lt_size eom
 have fin:∀h':Heap,IsZip h' (s1.heap.objs.size+4) (s1.heap.objs.size+2) (s1.heap.objs.size+3) .none→IsPair h' (s1.heap.objs.size+2) (.ref s1.heap.objs.size) (.ref (s1.heap.objs.size+1))→
  IsPair h' (s1.heap.objs.size+3) .none .none→ItAt t s1.heap.objs.size l 0 h'→ItAt t (s1.heap.objs.size+1) m 0 h'→(∀c o,s1.heap.get? c=some o→h'.get? c=some o)→
  wpAny (model X.prog X.w) X.A (pyIter (.ref (s1.heap.objs.size+4))) (PIE X pins σ (.Tuple es k0 tp) R) X.xe {s1 with heap:=h'}:=fun h' z1 z2 z3 z4 z5 kp=>by
  have I2:Inv X pins σ H1 {s1 with heap:=h'}:=I1.kept (t':=s1.toks) kp
  refine wpAny_pyIter_zip z1 ⟨s1.heap.objs.size+4,[s1.heap.objs.size+4,s1.heap.objs.size+2,s1.heap.objs.size+3,s1.heap.objs.size,s1.heap.objs.size+1],_,_,H1,rfl,I2,
   turn_zip (t:=t) (l:=l) (m:=m) (apart_nat _ (a:=2) (b:=4) (by decide)) (apart_nat _ (a:=3) (b:=4) (by decide)) (apart_nat _ (a:=0) (b:=4) (by decide)) (apart_nat _ (a:=1) (b:=4) (by decide)) (apart_nat _ (a:=2) (b:=3) (by decide)) (apart_nat _ (a:=2) (b:=0) (by decide)) (apart_nat _ (a:=2) (b:=1) (by decide)) (apart_nat _ (a:=3) (b:=0) (by decide)) (apart_nat _ (a:=3) (b:=1) (by decide)) (apart_nat _ (a:=0) (b:=1) (by decide)) (fun z=>?_) (fun z=>?_),⟨z1,z2,⟨_,_,z3⟩,z4,z5⟩,fun c hc=>?_,q⟩
  ·simp only[mem_cons,not_mem_nil,or_false]at z;exact not_fresh5 ll z
  ·simp only[mem_cons,not_mem_nil,or_false]at z;exact not_fresh5 lm z
  ·have hcs:s1.heap.objs.size≤c:=by simp only[mem_cons,not_mem_nil,or_false]at hc;exact fresh5 hc
   exact I1.fpOk hcs (I1.hok.fresh hcs)
 cases t
 ·obtain⟨its,_,pl,_⟩:=I1.list (show SqL X.K H1 l xs from hl)
  obtain⟨jts,_,pm,_⟩:=I1.list (show SqL X.K H1 m ys from hm')
  exact call_zip_2 pl.isList pm.isList fun h' z1 z2 z3 z4 z5 _ kp=>fin h' z1 z2 z3 z4 z5 kp
 ·obtain⟨its,_,pl,_⟩:=I1.tuple (show SqT X.K H1 l xs from hl)
  obtain⟨jts,_,pm,_⟩:=I1.tuple (show SqT X.K H1 m ys from hm')
  exact zip_tups pl pm fun h' z1 z2 z3 z4 z5 kp=>fin h' z1 z2 z3 z4 z5 kp
end
def Has (P:Program)(w:World)(K:W.Frag)(mg:Str→Option Value)(base:Heap)(k:Nat)(x:Str)(ps:List Str)(sp:Sp):Prop:=
 ∃(f:Addr) (fd:FuncData),FnOk P w K mg base CX0 k f fd ps sp∧mg x=some (.ref f)∧PySem.W.keepIn K (.ref f)=true∧Binds K fd ps []
section
variable {X:Cx}{k k':Nat}{x:Str}{ps:List Str}{sp:Sp}{e:Expr}{es:List Expr}{t:TA}{p pos:Pos}
theorem pe_def (h:Has X.prog X.w X.K X.mg X.base k x ps sp)(hr:Room k' X.A)(ha:PA X (e::es) t)(hg:Gl X x:=by rfl)(hk:k≤k':=by decide)(hdb:(x==("__debug__" : Str))=false:=by decide)
 (he:starEach (e::es) X.env=(false,eval e X.env)::starEach es X.env:=by rfl) (hpl:(backTo pos (starEach es X.env)).any (·.1)=false:=by rfl):PE X (.Call (.Name x p) (e::es) [] pos) (tCall sp [] E0 t):=by
 obtain⟨f,fd,F,m,kp,b⟩:=h
 exact pe_call F (hr.mono hk) hg m kp b .nil pass0 ha hdb he hpl
theorem pe_const {v:V}(h:∃u,X.mg x=some u∧RelV v u)(hg:Gl X x:=by rfl)(hd:(x==("__debug__" : Str))=false:=by decide):PE X (.Name x pos) (tC v):=by
 obtain⟨u,m,r⟩:=h
 exact pe_glob hg m r hd
theorem pe_ty {T:String}(hm:X.mg x=none)(hv:bootBuiltins x=some (.type T))(hg:Gl X x:=by rfl)(hn:x≠"__name__":=by decide)(hd:(x==("__debug__" : Str))=false:=by decide):PE X (.Name x pos) (tC (.ty T)):=pe_bltn hg hm hv rfl hn hd
end
structure Nb (mg:Str→Option Value):Prop where
 len:mg "len" = none
 isi:mg "isinstance" = none
 bool:mg "bool" = none
 int:mg "int" = none
 tuple:mg "tuple" = none
 list:mg "list" = none
 range:mg "range" = none
 zip:mg "zip" = none
 all:mg "all" = none
 max:mg "max" = none
 min:mg "min" = none
theorem Same.upd_free {H1 H5:Hp}{D:Addr}(s:Same H1 H5)(hD:H1 D=none)(o:HO):Same H1 (upd H5 D o):=fun b u q=>by rw[upd_ne (ne_of_none q hD)];exact s b u q
theorem comp_go {J:It}{g:TG}{te:TE}{Q:VK}{D:Addr}{H1:Hp}{σ0:St}(n:Nat)(hn:n≤sizeLine)(f:Nat→V)(Sg:St→Prop)(itm:Nat→Hp→V→Prop)(hD:H1 D=none)(s0:Sg σ0)
 (items:∀i H,Same H1 H→(i<n→J.go i H∧∀x H2,J.yld i H x H2→Same H H2∧itm i H2 x)∧(n≤i→J.stop i H))
 (step:∀i x σ' H,i<n→Same H1 H→itm i H x→Sg σ'→∀R:St→V→Hp→Prop,(∀σ3 y H5,Sg σ3→Same H H5→y=f i→R σ3 y H5)→g x σ' H fun σ3 H3=>te σ3 H3 (R σ3))
 (fin:∀H',Same H1 H'→H' D=some (.lst ((List.range n).map f))→Q (.ref D) H') :
 cmpW J g tYes te Q D σ0 H1:=by
 refine⟨fun i m σ H=>m=n - i∧i≤n∧Sg σ∧Same H1 H∧H D=some (.lst ((List.range i).map f)),⟨n,by omega,Nat.zero_le _,s0,(Same.refl H1).upd_free hD _,upd_same⟩,?_⟩
 rintro i m σ H ⟨rfl,hi,hs,sm,hd⟩
 by_cases hlt:i<n
 ·obtain⟨go,yl⟩:=(items i H sm).1 hlt
  refine .inr ⟨go,fun x H2 y=>?_⟩
  obtain⟨s2,im⟩:=yl x H2 y
  have e:(fun(σ3:St) (H3:Hp)=>tYes σ3 H3 fun ok H4=>
   if ok=true then te σ3 H4 fun y H5=>∃ys,H5 D=some (.lst ys)∧ys.length<sizeLine∧∃m',m'<n - i∧(m'=n - (i+1)∧i+1≤n∧Sg σ3∧Same H1 (upd H5 D (.lst (ys++[y])))∧upd H5 D (.lst (ys++[y])) D=some (.lst ((List.range (i+1)).map f)))
   else ∃m',m'<n - i∧(m'=n - (i+1)∧i+1≤n∧Sg σ3∧Same H1 H4∧H4 D=some (.lst ((List.range (i+1)).map f)))) =
   fun σ3 H3=>te σ3 H3 fun y H5=>∃ys,H5 D=some (.lst ys)∧ys.length<sizeLine∧∃m',m'<n - i∧(m'=n - (i+1)∧i+1≤n∧Sg σ3∧Same H1 (upd H5 D (.lst (ys++[y])))∧upd H5 D (.lst (ys++[y])) D=some (.lst ((List.range (i+1)).map f))):=by
   funext σ3 H3
   unfold tYes
   dsimp only
   rw[if_pos rfl]
  rw[e]
  refine step i x σ H2 hlt (sm.trans s2) im hs _ fun σ3 y H5 g3 s5 ey=>?_
  refine⟨_,s5 _ _ (s2 _ _ hd),by rw[length_map,length_range];omega,n - (i+1),by omega,rfl,by omega,g3,(sm.trans (s2.trans s5)).upd_free hD _,?_⟩
  rw[upd_same,ey,range_succ,map_append]
  rfl
 ·have e:i=n:=by omega
  subst e
  exact .inl ⟨(items i H sm).2 (Nat.le_refl _),fin H sm hd⟩
theorem items_tup {K:W.Frag}{a:Addr}{xs:List V}{H1:Hp}(h:H1 a=some (.tup xs))(i:Nat)(H:Hp)(s:Same H1 H) :
 (i<xs.length→(Itt K a).go i H∧∀x H2,(Itt K a).yld i H x H2→Same H H2∧xs[i]?=some x)∧(xs.length≤i→(Itt K a).stop i H):=by
 have q:SqT K H a xs:=SqT.of (s _ _ h)
 refine⟨fun hi=>⟨⟨xs,xs[i],q,List.getElem?_eq_getElem hi⟩,fun x H2 ⟨e,y⟩=>?_⟩,fun hi=>⟨xs,q,hi⟩⟩
 subst e
 exact⟨Same.refl _,y xs q⟩
theorem items_lst {K:W.Frag}{a:Addr}{xs:List V}{H1:Hp}(h:H1 a=some (.lst xs))(i:Nat)(H:Hp)(s:Same H1 H) :
 (i<xs.length→(Itl K a).go i H∧∀x H2,(Itl K a).yld i H x H2→Same H H2∧xs[i]?=some x)∧(xs.length≤i→(Itl K a).stop i H):=by
 have q:SqL K H a xs:=SqL.of (s _ _ h)
 refine⟨fun hi=>⟨⟨xs,xs[i],q,List.getElem?_eq_getElem hi⟩,fun x H2 ⟨e,y⟩=>?_⟩,fun hi=>⟨xs,q,hi⟩⟩
 subst e
 exact⟨Same.refl _,y xs q⟩
theorem items_zip {K:W.Frag}{a b:Addr}{xs ys:List V}{H1:Hp}(h:H1 a=some (.tup xs))(h':H1 b=some (.tup ys))(i:Nat)(H:Hp)(s:Same H1 H) :
 (i<min xs.length ys.length→(Itz true K a b).go i H∧∀v H2,(Itz true K a b).yld i H v H2→Same H H2∧∃p x y,v=.ref p∧H2 p=some (.tup [x,y])∧xs[i]?=some x∧ys[i]?=some y)∧(min xs.length ys.length≤i→(Itz true K a b).stop i H):=by
 have q:SqK true K H a xs:=SqT.of (s _ _ h)
 have q':SqK true K H b ys:=SqT.of (s _ _ h')
 refine⟨fun hi=>⟨⟨xs,ys,xs[i]'(by omega),ys[i]'(by omega),q,q',List.getElem?_eq_getElem (by omega),List.getElem?_eq_getElem (by omega)⟩,fun v H2 ⟨p,x,y,e1,e2,e3,e4,e5⟩=>?_⟩,fun hi=>⟨xs,ys,q,q',?_⟩⟩
 ·subst e3
  exact⟨same_new e2 _,p,x,y,e1,upd_same,e4 xs q,e5 ys q'⟩
 ·by_cases hx:xs.length≤i
  ·exact .inl (List.getElem?_eq_none hx)
  ·exact .inr (List.getElem?_eq_none (by omega))
section
variable {X:Cx}{elt iter:Expr}{ifs:List Expr}{scope:Scope}{pos:Pos}{N:List Str}{js:List Nat}{sc:Scope}{N0:List Str}{wi:TI}{tt:TT}{te:TE}{x y:Str}{px py tp:Pos}{k:Nat}
theorem blk_loc {cl:List (Str×Addr)}{C:Addr}{s:Shared}{H:Hp}{fp:List Addr}(h:scope.names.lookup x=some .local):(blk X N scope cl C s H fp).env.scope.names.lookup x=some .local:=lookup_relabel_local h
theorem pe_comp1 (hc:X.calm=true)(hsc:X.env.scope=sc)(hN:X.N=N0)(B:Blk sc N0 (x::N) 1 js scope)(hx:scope.names.lookup x=some .local)(hi:PI X (.Name x px) iter wi)
 (ht:∀cl C s H fp,PTs (blk X (x::N) scope cl C s H fp) ifs tt) (he:∀cl C s H fp,PE (blk X (x::N) scope cl C s H fp) elt te)
 (hs:∀x,foldedSetIterable iter X.env x=pure x:=by intro _;rfl):PE X (.ListComp elt [⟨.Name x px,iter,ifs,0⟩] scope pos) (tComp 1 js wi (gName 0) tt te):=
 pe_comp hc hsc hN B hi (fun cl C s H fp=>pg_name (i:=0) B.nd rfl (.inl (blk_loc hx)) (.inr (blk_loc hx))) ht he hs
theorem pe_comp2 (hc:X.calm=true)(hsc:X.env.scope=sc)(hN:X.N=N0)(B:Blk sc N0 (x::y::N) 2 js scope)(hx:scope.names.lookup x=some .local)(hy:scope.names.lookup y=some .local)(hi:PI X (.Tuple [.Name x px,.Name y py] k tp) iter wi)
 (ht:∀cl C s H fp,PTs (blk X (x::y::N) scope cl C s H fp) ifs tt) (he:∀cl C s H fp,PE (blk X (x::y::N) scope cl C s H fp) elt te)
 (hs:∀x,foldedSetIterable iter X.env x=pure x:=by intro _;rfl):PE X (.ListComp elt [⟨.Tuple [.Name x px,.Name y py] k tp,iter,ifs,0⟩] scope pos) (tComp 2 js wi (gTup X.K 2 (gCons (gName 0) (gCons (gName 1) gNil))) tt te):=
 pe_comp hc hsc hN B hi (fun cl C s H fp=>pg_tup (X:=blk X (x::y::N) scope cl C s H fp) hc (pgs_cons (pg_name (i:=0) B.nd rfl (.inl (blk_loc hx)) (.inr (blk_loc hx))) (pgs_cons (pg_name (i:=1) B.nd rfl (.inl (blk_loc hy)) (.inr (blk_loc hy))) pgs_nil))) ht he hs
end
theorem lookup_by {T:String}{n:Str}{r:Option Value}(h:fastLookup T n=some r):typeLookup (.type T) n=pure r:=by rw[typeLookup_type,builtinLookup_eq_fast,h]
theorem slot_by {T id owner n:String}{mro:List Value}(found:fastLookup T (Str.ofString n)=some (some (.builtin id)))(above:fastBuiltinMro T=some mro)(mine:mro.contains (.type owner)=true)
 (named:splitId id=some (owner,n)∧withoutEnding? id "#opaque" = none∧withoutEnding? id "#data" = none∧plainId id=true)
 (kind:(Manifest.find? owner).bind (·.attrs.lookup n)=some .slot∨(Manifest.find? owner).bind (·.attrs.lookup n)=some .method):Slot T (Str.ofString n) id:=
 .of (lookup_by found) named.1 named.2.1 named.2.2.1 kind (by rw[isSubtype_type,above];exact congrArg pure mine) named.2.2.2
theorem rv_init:Slot "reversed" (Str.ofString "__init__") "object.__init__":=slot_by (mro:=[.type "reversed",.type "object"]) (owner:="object") (by kernel_rfl) (by kernel_rfl) (by kernel_rfl) (by decide +kernel) (.inl (by decide +kernel))
theorem rv_iter:Slot "reversed" (Str.ofString "__iter__") "reversed.__iter__":=slot_by (mro:=[.type "reversed",.type "object"]) (owner:="reversed") (by kernel_rfl) (by kernel_rfl) (by kernel_rfl) (by decide +kernel) (.inl (by decide +kernel))
theorem rv_next:Slot "reversed" (Str.ofString "__next__") "reversed.__next__":=slot_by (mro:=[.type "reversed",.type "object"]) (owner:="reversed") (by kernel_rfl) (by kernel_rfl) (by kernel_rfl) (by decide +kernel) (.inl (by decide +kernel))
theorem rv_called:TypeCalled "reversed" "reversed.__new__" "object.__init__":=
 {(by constructor<;>first | exact⟨_,_,F.mro_reversed⟩ | exact F.made_reversed | exact rv_init | decide +kernel | (rw[isSubtype_type];kernel_rfl):TypeCalled "reversed" "reversed.__new__" "object.__init__") with}
theorem rv_entry_iter:entryFor table "reversed.__iter__" = some Builtin.«dict_keyiterator.__iter__»:=
 entryFor_alias (id':="dict_keyiterator.__iter__") (by kernel_rfl) (by first | rfl | decide +kernel) (by decide +kernel) (by kernel_rfl)
theorem rv_entry_next:entryFor table "reversed.__next__" = some Builtin.«reversed.__next__»:=entryFor_of_tree (by kernel_rfl)
theorem args_by {id:String}{v:List Value}{n o:List Char}{rows:List (String×Manifest.Signature)}(cut:((id.toList.map fun c=>if c.isAlphanum||c=='_'||c=='.' then c else '_').reverse.span (· !='.'))=(n,'.'::o))
 (own:Manifest.owners.lookup (String.ofList o.reverse)=some rows) (ok:∀sg,Manifest.signature? id=rows.lookup (String.ofList n.reverse)→sg=rows.lookup (String.ofList n.reverse)→argsOk id ⟨v,[]⟩):argsOk id ⟨v,[]⟩:=
 ok _ (signature?_of cut own) rfl
theorem rv_args_next (a:Value):argsOk "reversed.__next__" ⟨[a],[]⟩:=
 args_by (n:="__txen__".toList) (o:="desrever".toList) (rows:=Manifest.sig_reversed) (by kernel_rfl) (by kernel_rfl) fun _ e _=>by unfold argsOk;rw[e];kernel_rfl
theorem rv_args_iter (a:Value):argsOk "reversed.__iter__" ⟨[a],[]⟩:=
 args_by (n:="__reti__".toList) (o:="desrever".toList) (rows:=Manifest.sig_reversed) (by kernel_rfl) (by kernel_rfl) fun _ e _=>by unfold argsOk;rw[e];kernel_rfl
theorem rv_init_args (a b:Value):argsOk "object.__init__" ⟨[a,b],[]⟩:=F.args_object_init_2 a b
theorem tup_norev:typeLookup (.type "tuple") "__reversed__" = pure none:=lookup_by (by kernel_rfl)
theorem tup_notdict:isSubtype (.type "tuple") (.type "dict")=pure false:=by rw[isSubtype_type];exact congrArg pure (show _=false from by kernel_rfl)
abbrev IsRv (h:Heap)(z t:Addr)(i:Int):Prop:=h.get? z=some {cls:=.type "reversed",dict:=none,data:=.fields #[.ref t,rawInt i],slots:=#[]}
theorem rv_new (t:Addr)(xs:Array Value)(hz:(xs.size:Int)<2^63):Meets (Builtin.«reversed.__new__» ⟨[.type "reversed",.ref t],[]⟩) (fun _ R s=>IsTup s.heap t xs∧
 R (.ok (.ret (.ref s.heap.objs.size))) {s with heap:=s.heap.push {cls:=.type "reversed",data:=.fields #[.ref t,rawInt ((xs.size:Int) - 1)]},toks:=s.toks+1+1}):=
 .of_wp fun prog w A R s h=>by
  obtain⟨hp,g,d,tk,os⟩:=s
  obtain⟨h1,h⟩:=h
  have hT:Shared.TypeIs ⟨hp,g,d,tk,os⟩ (.ref t) "tuple":=h1.typeIs
  have hsub:=F.sub_reversed_self
  have hnr:=tup_norev
  have k1:Heap.IsTuple (Shared.heap ⟨hp,g,d,tk,os⟩) t xs:=h1
  have hnd:=tup_notdict
  have hgi:typeLookup (.type "tuple") "__getitem__" = pure (some (.builtin "tuple.__getitem__")):=slot_tuple_getitem.lookup
  wp_walk using len_tuple h1 hz
  exact⟨_,rfl,h⟩
section
variable {prog:Program}{w:World}{A:Around}{E:Value→Shared→Prop}
theorem rv_item {z t:Addr}{i:Nat}{xs:Array Value}{x:Value}{Q:Value→Shared→Prop}{s:Shared}(hz:IsRv s.heap z t (i:Int))(ht:IsTup s.heap t xs)(hl:(xs.size:Int)<2^63)(hx:xs[i]?=some x)
 (q:∀h' tk,IsRv h' z t ((i:Int) - 1)→Heap.SameBut z s.heap h'→Q x {s with heap:=h',toks:=tk}) :
 wpAny (model prog w) A (Builtin.«reversed.__next__» ⟨[.ref z],[]⟩) (fun fin s'=>∃v,fin=.done (.ret v)∧Q v s') E s:=by
 obtain⟨hp,g,d,tk,os⟩:=s
 have f1:typeLookup (.type "tuple") "__getitem__" = pure (some (.builtin "tuple.__getitem__")):=slot_tuple_getitem.lookup
 have lt:i<xs.size:=(Array.getElem?_eq_some_iff.mp hx).1
 have neg:¬(i:Int)<0:=by omega
 obtain⟨⟨c,dc,dt,sl⟩,ho,hc,n,hd⟩:=id ht
 simp only at hc hd
 subst hc hd
 simp only at ho
 have lo:-(2^63)≤(i:Int):=by omega
 have ht':IsTup hp t xs:=ht
 have hi:(i:Int)<2^63:=by omega
 have at_:seqIndex? (i:Int) xs.size=some i:=by unfold seqIndex?;simp;omega
 have gi:∀{Q:Value→Shared→Prop} {E:Value→Shared→Prop},Q x ⟨hp,g,d,tk+1,os⟩→wpAny (model prog w) A (getItem (#[Value.ref t,rawInt (i:Int)][0]'(Nat.zero_lt_succ 1)) (.int i tk)) Q E ⟨hp,g,d,tk+1,os⟩:=fun r=>by
  show wpAny (model prog w) A (getItem (.ref t) (.int i tk)) _ _ _
  refine getItem_tuple (items:=xs) (j:=i) (x:=x) ?_ lo ?_ ?_ ?_ ?_
  ·exact ht
  ·exact hi
  ·exact at_
  ·exact hx
  ·exact r
 wp_walk using gi
 exact⟨_,rfl,q _ _ (get?_update_self _ hz rfl) (.update ..)⟩
theorem rv_end {z t:Addr}{i:Int}{Q:PySem.Fin→Shared→Prop}{s:Shared}(hh:A.handled=none)(hz:IsRv s.heap z t i)(hi:i<0)
 (hE:∀h' e,(∀c o,c≠z→s.heap.get? c=some o→h'.get? c=some o)→(∃o,h'.get? e=some o∧o.cls=.type "StopIteration")→E (.ref e) {s with heap:=h'}) :
 wpAny (model prog w) A (Builtin.«reversed.__next__» ⟨[.ref z],[]⟩) Q E s:=by
 obtain⟨hp,g,d,tk,os⟩:=s
 wp_walk
 exact wpAny_raiseNew_none hh (hE _ _ (fun c o n e=>by repeat (first | exact e | refine get?_update_of_ne _ (Ne.symm n) ?_ | refine get?_push_of_some _ ?_)) ⟨_,get?_push_size _ rfl,rfl⟩)
theorem rv_pyNext {z t:Addr}{i:Nat}{xs:Array Value}{x:Value}{Q:Option Value→Shared→Prop}{s:Shared}(hz:IsRv s.heap z t (i:Int))(ht:IsTup s.heap t xs)(hl:(xs.size:Int)<2^63)(hx:xs[i]?=some x)
 (q:∀h' tk,IsRv h' z t ((i:Int) - 1)→Heap.SameBut z s.heap h'→Q (some x) {s with heap:=h',toks:=tk}):wpAny (model prog w) A (pyNext (.ref z)) Q E s:=by
 have hT:s.TypeIs (.ref z) "reversed":=⟨_,hz,rfl⟩
 unfold pyNext
 exact wpAny_bind (wpAny_attempt (wpAny_callSpecial?_slot (name:=Str.ofString "__next__") hT rv_next
  (wpAny_call_entry rv_next hT rv_entry_next (rv_item hz ht hl hx fun h' tk a1 a2=>wpAny_pure (q h' tk a1 a2)) (rv_args_next _))))
theorem rv_pyEnd {z t:Addr}{i:Int}{Q:Option Value→Shared→Prop}{s:Shared}(hh:A.handled=none)(hz:IsRv s.heap z t i)(hi:i<0)
 (q:∀h',(∀c o,c≠z→s.heap.get? c=some o→h'.get? c=some o)→Q none {s with heap:=h'}):wpAny (model prog w) A (pyNext (.ref z)) Q E s:=by
 have hT:s.TypeIs (.ref z) "reversed":=⟨_,hz,rfl⟩
 unfold pyNext
 refine wpAny_bind (wpAny_attempt (wpAny_callSpecial?_slot (name:=Str.ofString "__next__") hT rv_next
  (wpAny_call_entry rv_next hT rv_entry_next (rv_end hh hz hi fun h' e hk he=>?_) (rv_args_next _))))
 obtain⟨o,ho,hc⟩:=he
 refine wpAny_bind (wpAny_isInstance (T:="StopIteration") (b:=true) ⟨o,ho,hc⟩ isSubtype_stop ?_)
 exact wpAny_pure (q _ hk)
theorem rv_pyIter {z t:Addr}{i:Int}{Q:Value→Shared→Prop}{s:Shared}(hz:IsRv s.heap z t i)(h:Q (.ref z) s):wpAny (model prog w) A (pyIter (.ref z)) Q E s:=by
 have hT:s.TypeIs (.ref z) "reversed":=⟨_,hz,rfl⟩
 refine wpAny_pyIter_slot hT rv_iter (wpAny_call_entry rv_iter hT rv_entry_iter ?_ (rv_args_iter _))
 show wpAny _ _ (ret (.ref z)) _ _ s
 exact wpAny_pure ⟨_,rfl,"reversed",_,hT,rv_next.lookup,h⟩
theorem rv_call {t:Addr}{xs:Array Value}{Q:Value→Shared→Prop}{s:Shared}(ht:IsTup s.heap t xs)(hl:(xs.size:Int)<2^63)
 (h:Q (.ref s.heap.objs.size) {s with heap:=s.heap.push {cls:=.type "reversed",data:=.fields #[.ref t,rawInt ((xs.size:Int) - 1)]},toks:=s.toks+1+1}) :
 wpAny (model prog w) A (call (.type "reversed") [.ref t]) Q E s:=by
 refine callType_new rv_called (by decide) (F.typeCall_reversed_1 _) (F.newCall_reversed_1 _) (fun obj=>rv_init_args obj _) F.entry_reversed_new (rv_new t xs hl) ⟨ht,?_⟩
 exact⟨⟨_,get?_push_size _ rfl,rfl⟩,h⟩
end
def Itv (K:W.Frag)(a:Addr)(n:Nat):It where
 go:=fun i H=>∃xs x,SqT K H a xs∧xs.length=n∧xs.reverse[i]?=some x
 yld:=fun i H x H'=>H'=H∧∀xs,SqT K H a xs→xs.length=n→xs.reverse[i]?=some x
 stop:=fun i H=>n≤i
theorem turn_rev {P:Program}{w:World}{K:W.Frag}{tg:Expr}(a it:Addr)(n:Nat):Turn P w K tg (Itv K a n) [it] it (fun i h=>IsRv h it a ((n:Int) - 1 - (i:Int))) where
 mem:=by simp
 obj:=fun i h st b hb=>by
  have e:b=it:=by simpa using hb
  subst e
  exact⟨_,st,fun v z=>by
   have z':Data.fields _=Data.cell v:=z
   cases z'⟩
 keep:=fun i h h' st k=>k it (by simp) _ st
 item:=by
  intro X hP hw hK hc i pins s σ H E I hf st hg
  subst hP hw hK
  obtain⟨xs,x,hq,hn,hx⟩:=hg
  obtain⟨its,rv,p,hz⟩:=I.tuple hq
  have hlen:=rv.length
  have hl63:=line63
  have hi:i<xs.length:=by
   have:=(List.getElem?_eq_some_iff.mp hx).1
   simpa using this
  rw[List.getElem?_reverse hi]at hx
  obtain⟨u,hu,ru⟩:=rv.get hx
  obtain⟨f0,f1,f2,f3,f4,f5⟩:=hf it (by simp)
  have ei:(n:Int) - 1 - (i:Int)=((xs.length - 1 - i:Nat):Int):=by omega
  have st2:IsRv s.heap it a ((xs.length - 1 - i:Nat):Int):=by rw[←ei];exact st
  refine rv_pyNext st2 (show IsTup s.heap a its.toArray from p) (by simp only[size_toArray];omega) (x:=u) (by simpa using hu) fun h' tk st' sb=>?_
  have I1:Inv X pins σ H {s with heap:=h',toks:=tk}:=I.turned (t':=tk) (fun b o hb e=>(sb.2 b hb).trans e) f0 f1 f3 f4 f5
  refine⟨u,rfl,go_of (s:={s with heap:=h',toks:=tk}) (n:="reversed") st' rfl rfl (by decide) ⟨x,H,I1,ru,⟨rfl,fun ys hy _=>by rw[I.tuple_inj hy hq,List.getElem?_reverse hi];exact hx⟩,?_,fun b hb=>(hf b hb).1⟩⟩
  have e2:(n:Int) - 1 - ((i+1:Nat):Int)=((xs.length - 1 - i:Nat):Int) - 1:=by omega
  rw[e2]
  exact st'
 done:=by
   intro X hP hw hK hc i pins s σ H E I hf st hg
   subst hP hw hK
   obtain⟨f0,f1,f2,f3,f4,f5⟩:=hf it (by simp)
   exact rv_pyEnd (I.ok.hd hc) st (by have:n≤i:=hg;omega) fun h' eb=>⟨rfl,I.turned (t':=s.toks) (fun b o hb e=>eb b o hb e) f0 f1 f3 f4 f5⟩
 self:=fun _ _ _ _ _ st h=>rv_pyIter st h
section
variable {X:Cx}{tg:Expr}
def iRev (K:W.Frag)(ta:TA):TI:=fun σ H R=>ta σ H fun vs H1=>∃a xs,vs=[.ref a]∧SqT K H1 a xs∧R (Itv K a xs.length) H1
theorem pi_rev {a:Expr}{ta:TA}{p pos:Pos}(hg:Gl X "reversed")(hm:X.mg "reversed" = none)(ha:PA X [a] ta)(hs:starEach [a] X.env=[(false,eval a X.env)]:=by rfl) :
 PI X tg (.Call (.Name "reversed" p) [a] [] pos) (iRev X.K ta):=by
 intro pins s σ H R I h
 refine Call_ (ld_blt I hg hm boot_reversed (callWith_type1 (thn (ha pos pins s σ H _ I h) fun us s1 ⟨vs,H1,I1,r1,q1⟩=>?_) (by rw[hs];rfl) (by rfl)))
 obtain⟨t,xs,e,hl,q⟩:=q1
 subst e
 obtain⟨u,rfl,ru⟩:=vals1 r1
 cases(show u=Value.ref t from ru)
 obtain⟨its,rv,p,hz⟩:=I1.tuple hl
 have hlen:=rv.length
 have hl63:=line63
 refine rv_call (show IsTup s1.heap t its.toArray from p) (by simp only[size_toArray];omega) ?_
 have I2:Inv X pins σ H1 {s1 with heap:=s1.heap.push {cls:=.type "reversed",data:=.fields #[.ref t,rawInt ((its.toArray.size:Int) - 1)]},toks:=s1.toks+1+1}:=I1.kept fun b o e=>get?_push_of_some _ e
 have e0:IsRv (s1.heap.push {cls:=.type "reversed",data:=.fields #[.ref t,rawInt ((its.toArray.size:Int) - 1)]}) s1.heap.objs.size t ((its.toArray.size:Int) - 1):=get?_push_size _ rfl
 refine rv_pyIter e0 ⟨s1.heap.objs.size,[s1.heap.objs.size],_,_,H1,rfl,I2,turn_rev t _ xs.length,?_,fun b hb=>?_,q⟩
 ·have e3:((xs.length:Nat):Int) - 1 - ((0:Nat):Int)=(its.toArray.size:Int) - 1:=by simp only[size_toArray];omega
  rw[e3]
  exact e0
 ·have e:b=s1.heap.objs.size:=by simpa using hb
  subst e
  exact I1.fpOk (Nat.le_refl _) (I1.hok.fresh (Nat.le_refl _))
end
theorem all_same (ns ms:List Int):((List.range (min ns.length ms.length)).all (fun j=>ns.getD j 0==ms.getD j 0)&&(ns.length==ms.length))=decide (ns=ms):=by
 rw[Bool.eq_iff_iff,and_eq_true,all_eq_true,decide_eq_true_eq,beq_iff_eq]
 constructor
 ·rintro⟨h1,h2⟩
  apply List.ext_getElem h2
  intro i a b
  have:=h1 i (mem_range.mpr (by omega))
  rw[beq_iff_eq,getD_eq_getElem?_getD,getD_eq_getElem?_getD,List.getElem?_eq_getElem a,List.getElem?_eq_getElem b]at this
  exact this
 ·rintro rfl
  exact⟨fun i _=>by rw[beq_iff_eq],rfl⟩
theorem of_rcne' {prog:Program}{w:World}{A:Around}{E:Value→Shared→Prop}{s:Shared}{a b:Value}{k:Bool}{Q:Value→Shared→Prop}(h:SeqAt.RcNeAt A s a b k)(hq:Q (.bool k) s):wpAny (model prog w) A (compareOp .NotEq a b) Q E s:=h prog w E Q hq
section
variable {X:Cx}
theorem int_val {n:Int}{u:Value}(r:RelV (.int n) u):∃t,u=.int n t:=r
theorem ints_eqAt {A:Around}{s:Shared}{ns ms:List Int}{its its2:List Value}(r1:Vals (ns.map V.int) its)(r2:Vals (ms.map V.int) its2)(j:Nat)(h1:j<its.toArray.size)(h2:j<its2.toArray.size) :
 SeqAt.EqAt A s its.toArray[j] its2.toArray[j] (ns.getD j 0==ms.getD j 0):=by
 have l1:=r1.length
 have l2:=r2.length
 rw[length_map]at l1 l2
 simp only[size_toArray]at h1 h2
 have e1:(ns.map V.int)[j]?=some (.int ns[j]):=by rw[getElem?_map,List.getElem?_eq_getElem (by omega)];rfl
 have e2:(ms.map V.int)[j]?=some (.int ms[j]):=by rw[getElem?_map,List.getElem?_eq_getElem (by omega)];rfl
 obtain⟨u,hu,ru⟩:=r1.get e1
 obtain⟨v,hv,rv⟩:=r2.get e2
 obtain⟨t,rfl⟩:=int_val ru
 obtain⟨t',rfl⟩:=int_val rv
 have a1:its.toArray[j]=.int ns[j] t:=by
  have:=(List.getElem?_eq_some_iff.mp hu).2
  simpa using this
 have a2:its2.toArray[j]=.int ms[j] t':=by
  have:=(List.getElem?_eq_some_iff.mp hv).2
  simpa using this
 rw[a1,a2,getD_eq_getElem?_getD,getD_eq_getElem?_getD,List.getElem?_eq_getElem (by omega),List.getElem?_eq_getElem (by omega)]
 exact SeqAt.EqAt.int_int _ _ _ _
def rEqT (K:W.Frag):R2:=fun x y H Q=>∃(a b:Addr) (ns ms:List Int),x=.ref a∧y=.ref b∧SqT K H a (ns.map V.int)∧SqT K H b (ms.map V.int)∧Q (.bl (decide (ns=ms))) H
theorem op_eqT (hu:X.A.units<cLine):OpR X (compareOp .Eq) (rEqT X.K):=by
 intro pins s σ H x y v u Q I rx ry h
 obtain⟨a,b,ns,ms,rfl,rfl,ha,hb,q⟩:=h
 cases rx
 cases ry
 obtain⟨its,r1,p1,_⟩:=I.tuple ha
 obtain⟨its2,r2,p2,_⟩:=I.tuple hb
 have l1:=r1.length
 have l2:=r2.length
 rw[length_map]at l1 l2
 refine SeqAt.eq_tupleAt (show s.heap.IsTuple a its.toArray from p1) (show s.heap.IsTuple b its2.toArray from p2) hu (ints_eqAt r1 r2) ?_
 simp only[size_toArray]
 rw[←l1,←l2,all_same]
 exact⟨.bl (decide (ns=ms)),H,I,rfl,q⟩
end
def tSetC (i:Nat)(te:TE):TS:=fun D σ H=>te σ H fun v H1=>D.nx (σ.set i (some v)) H1
theorem ps_comp {X:Cx}{elt tg iter:Expr}{ifs:List Expr}{scope:Scope}{pos pos' spos:Pos}{N:List Str}{nt:Nat}{js:List Nat}{sc:Scope}{N0:List Str}{wi:TI}{g:TG}{tt:TT}{te:TE}{ii:Nat}{nm:Str}
 (hNd:X.N.Nodup) (hii:X.N[ii]?=some nm) (hloc:Loc X.env.scope nm)
 (hc:X.calm=true) (hsc:X.env.scope=sc) (hN:X.N=N0) (B:Blk sc N0 N nt js scope) (hi:PI X tg iter wi)
 (hg:∀cl C s H fp,PG (blk X N scope cl C s H fp) tg g) (ht:∀cl C s H fp,PTs (blk X N scope cl C s H fp) ifs tt) (he:∀cl C s H fp,PE (blk X N scope cl C s H fp) elt te)
 (hsw:swapsWith (.ListComp elt [⟨tg,iter,ifs,0⟩] scope pos) (some (.Name nm pos')) spos.line X.env=pure true:=by rfl)
 (hf:X.fn nm=true∨X.env.scope.names.lookup nm=some .local:=by first | exact .inl rfl | exact .inr rfl | assumption)
 (hs:∀x,foldedSetIterable iter X.env x=pure x:=by intro _;rfl):PS X (.Assign [.Name nm pos'] (.ListComp elt [⟨tg,iter,ifs,0⟩] scope pos) spos) (tSetC ii (tComp nt js wi g tt te)):=by
 subst hsc hN
 intro pins s σ H D I h
 obtain⟨cl,hcl,c1,c2⟩:=clos_of (env:=X.env) (scope:=scope) fun y hy hk=>I.ok.has y.1 (B.cap y hy hk)
 rw[PySem.exec_Assign_Name_used _ _ _ _ hsw]
 refine wpAny_bind (wpAny_standAt (wpAny_bind ?_))
 show wpAny _ _ (comprehension _ scope X.env _ _ _ _ (some (assign (.Name nm pos') X.env)) >>= _) _ _ _
 refine wpAny_bind (thn (Q:=fun _ s'=>∃σ' H',Inv X pins σ' H' s'∧D.nx σ' H') ?_ fun _ s9 q9=>wpAny_pure (wpAny_pure q9))
 refine wpAny_comprehension_free (use:=some (assign (.Name nm pos') X.env)) rfl hs hcl B.kind B.loc (thn (hi pins s σ H _ I h) fun v s1 q1=>thn q1 fun itv s2 q2=>?_)
 obtain⟨it,fp,tn,J,H2,e,I2,T,st2,f2,q2⟩:=q2
 subst e
 obtain⟨W,⟨m0,w0⟩,turn⟩:=q2 s2.heap.objs.size (I2.hok.fresh (Nat.le_refl _))
 have hlt:∀b∈fp,b<s2.heap.objs.size:=fun b hb=>by
  obtain⟨o,eo,_⟩:=T.obj _ _ st2 b hb
  exact lt_size eo
 refine wpAny_newObj_type (wpAny_newFunctionEnv B.nocell (by intro y hy;simp at hy) (fun h1 hns hsb=>?_) B.kind)
 dsimp only at hns hsb ⊢
 have hsz:(s2.heap.push {cls:=.type "list",dict:=none,data:=.seq ([]:List Value).toArray}).objs.size=s2.heap.objs.size+1:=by rw[size_push]
 have old:∀b o,s2.heap.get? b=some o→h1.get? b=some o:=fun b o eb=>hsb.extBut b o (by rw[hsz];exact Nat.ne_of_lt (Nat.lt_succ_of_lt (lt_size eb))) (get?_push_of_some _ (get?_push_of_some _ eb))
 have hD:h1.get? s2.heap.objs.size=some {cls:=.type "list",data:=.seq ([]:List Value).toArray 0}:=hsb.extBut _ _ (by rw[hsz];exact Nat.ne_of_lt (Nat.lt_succ_self _)) (get?_push_of_some _ (get?_push_size _ rfl))
 rw[hsz]at hns
 have I3:=blk_start (cl:=cl) (fp:=fp) (tk:=s2.toks+([]:List (Str×Value)).length) I2 B c1 c2 f2 hlt old (show h1.Ns (s2.heap.objs.size+1) fun _=>none from hns) hD
 have stat:∀{H':Hp},(∀b∈fp,H' b=none)→∀b∈fp,FpOk (blk X N scope cl (s2.heap.objs.size+1) s2 H2 fp) [] H' b:=fun{H'} hn b hb=>
  ⟨hn b hb,Nat.ne_of_lt (Nat.lt_succ_of_lt (hlt b hb)),fun z=>(mem_cons.mp (I2.stkSub b z)).elim (f2 b hb).2.1 (f2 b hb).2.2.1,.inl hb,fun x c ec=>(f2 b hb).2.2.2.2.1 x c (c1 x c ec),fun p hp=>absurd (show p∈([]:List (Addr×Obj)) from hp) (by simp)⟩
 have fin:∀{i:Nat} {σ':St} {H':Hp} {s':Shared},Inv (blk X N scope cl (s2.heap.objs.size+1) s2 H2 fp) [] σ' H' s'→D.nx (σ.set ii (some (.ref s2.heap.objs.size))) H'→
  compPost (model X.prog X.w) X.A X.xe (some (assign (.Name nm pos') X.env)) (fun _ s'=>∃σ' H',Inv X pins σ' H' s'∧D.nx σ' H') (.ref s2.heap.objs.size) (s2.heap.objs.size+1) (.ok .next) s':=fun{i σ' H' s'} Ib q=>by
  obtain⟨m,hn,_⟩:=id Ib.loc
  have I4:Inv X pins σ H' s':=I2.call' Ib.os Ib.base Ib.hok Ib.bare fun b hb=>⟨(f2 b hb).2.2.2.1,(f2 b hb).2.1,(f2 b hb).2.2.2.2.1,(f2 b hb).2.2.2.2.2⟩
  obtain⟨g0,g1,g2,g3,g4,g5⟩:=I2.fpOk (H':=H') (Nat.le_succ _) Ib.free
  show wpAny _ _ (assign (.Name nm pos') X.env (.ref s2.heap.objs.size)) _ _ _
  refine wpAny_bind (wpAny_standAt (wpAny_bindName (store_ok2 I4 hNd hii hloc (v:=.ref s2.heap.objs.size) rfl (fun s5 I5 ⟨a,sb,ha⟩=>?_) hf)))
  have na:s2.heap.objs.size+1≠a:=by
   rcases ha with rfl | ha
   ·exact g1
   ·exact fun z=>g4 _ _ ha z.symm
  refine⟨m,hn.sameBut sb na,fun h'' hs''=>?_⟩
  exact⟨_,H',I5.turned (t':=s5.toks) (fun b o hb eb=>hs''.extBut b o hb eb) g0 g1 g3 g4 g5,q⟩
 have loop:codeAny (model X.prog X.w) X.A (.compLoop (.ListComp elt [⟨tg,iter,ifs,0⟩] scope pos) 0 (.ref it) (.ref s2.heap.objs.size) (compEnvC scope cl (s2.heap.objs.size+1) X.env))
  (compPost (model X.prog X.w) X.A X.xe (some (assign (.Name nm pos') X.env)) (fun _ s'=>∃σ' H',Inv X pins σ' H' s'∧D.nx σ' H') (.ref s2.heap.objs.size) (s2.heap.objs.size+1)) {s2 with heap:=h1,toks:=s2.toks+([]:List (Str×Value)).length}:=by
  refine comp_turns (fun n s'=>∃i σ' H',Inv (blk X N scope cl (s2.heap.objs.size+1) s2 H2 fp) [] σ' H' s'∧tn i s'.heap∧(∀b∈fp,H' b=none)∧W i n σ' H') ?_ m0
   ⟨0,_,_,I3,T.keep _ _ _ st2 fun b _ o eb=>old b o eb,fun b hb=>?_,w0⟩
  ·rintro n s3 ⟨i,σ3,H3,J3,st3,fr3,w3⟩
   rcases turn i n σ3 H3 w3 with⟨stop,qn⟩ | ⟨go,step⟩
   ·refine thn (T.done (blk X N scope cl (s2.heap.objs.size+1) s2 H2 fp) rfl rfl rfl hc i [] s3 σ3 H3 _ J3 (stat fr3) st3 stop) fun r s4 ⟨hr,I4⟩=>?_
    subst hr
    exact fin (i:=i) I4 qn
   ·refine thn (T.item (blk X N scope cl (s2.heap.objs.size+1) s2 H2 fp) rfl rfl rfl hc i [] s3 σ3 H3 _ J3 (stat fr3) st3 go) fun r s4 ⟨u,hr,h4⟩=>?_
    subst hr
    refine thn h4 fun _ s5 ⟨x,H5,I5,r5,y5,st5,fr5⟩=>?_
    have I5':=I5.pinned (stat fr5) (T.obj _ _ st5)
    refine thn (hg _ _ _ _ _ _ s5 σ3 H5 x u _ I5' r5 (step x H5 y5)) fun _ s6 ⟨σ6,H6,I6,q6⟩=>?_
    have again:∀{σ7:St} {H7:Hp} {s7:Shared} {k:Nat},Inv (blk X N scope cl (s2.heap.objs.size+1) s2 H2 fp) ([]++pinsAt fp s5.heap) σ7 H7 s7→k<n→W (i+1) k σ7 H7→
     ∃k,k<n∧∃i σ' H',Inv (blk X N scope cl (s2.heap.objs.size+1) s2 H2 fp) [] σ' H' s7∧tn i s7.heap∧(∀b∈fp,H' b=none)∧W i k σ' H':=fun{σ7 H7 s7 k} I7 hk w7=>by
     refine⟨k,hk,i+1,σ7,H7,I7.unpinned,T.keep _ _ _ st5 fun b hb o eb=>(I7.pin (b,o) (mem_append_right _ (mem_append_right _ (mem_pinsAt hb eb)))).1,fun b hb=>?_,w7⟩
     obtain⟨o,eb,_⟩:=T.obj _ _ st5 b hb
     exact(I7.pin (b,o) (mem_append_right _ (mem_append_right _ (mem_pinsAt hb eb)))).2.1
    refine thn (ht _ _ _ _ _ _ s6 σ6 H6 _ I6 q6) fun ok s7 ⟨H7,I7,q7⟩=>?_
    cases ok with
    |false=>
     rw[if_neg Bool.false_ne_true]at q7 ⊢
     obtain⟨k,hk,w7⟩:=q7
     exact again I7 hk w7
    |true=>
     rw[if_pos rfl]at q7 ⊢
     refine thn (he _ _ _ _ _ _ s7 σ6 H7 _ I7 q7) fun y s8 ⟨v8,H8,I8,r8,ys,e8,z8,k,hk,w8⟩=>?_
     refine thn (mt_append _ s8 σ6 H8 (.ref s2.heap.objs.size) [v8] _ [y] (fun _ H9=>W (i+1) k σ6 H9) I8 rfl (.cons r8 .nil) ⟨_,ys,v8,rfl,rfl,e8,z8,w8⟩) fun _ s9 ⟨_,H9,I9,_,w9⟩=>?_
     exact again I9 hk w9
  ·show upd H2 _ _ b=none
   rw[upd_ne (Nat.ne_of_lt (hlt b hb))]
   exact(f2 b hb).1
 rw[hsz]
 exact codeAny_compStart_list loop (T.self _ 0 _ _ _ (T.keep _ _ _ st2 fun b _ o eb=>old b o eb) loop)
theorem range_filter_succ (n:Nat)(keep:Nat→Bool):(List.range (n+1)).filter keep=(List.range n).filter keep++(if keep n=true then [n] else []):=by
 rw[range_succ,filter_append]
 congr 1
 cases h:keep n<;>simp[h]
theorem comp_sel {J:It}{g:TG}{tt:TT}{te:TE}{Q:VK}{D:Addr}{H1:Hp}{σ0:St}(n:Nat)(hn:n≤sizeLine)(keep:Nat→Bool)(f:Nat→V)(Sg:St→Prop)(itm:Nat→Hp→V→Prop)(hD:H1 D=none)(s0:Sg σ0)
 (items:∀i H,Same H1 H→(i<n→J.go i H∧∀x H2,J.yld i H x H2→Same H H2∧itm i H2 x)∧(n≤i→J.stop i H))
 (step:∀i x σ' H,i<n→Same H1 H→itm i H x→Sg σ'→∀(R:St→V→Hp→Prop) (S:St→Hp→Prop),(keep i=true→∀σ3 y H5,Sg σ3→Same H H5→y=f i→R σ3 y H5)→(keep i=false→∀σ3 H4,Sg σ3→Same H H4→S σ3 H4)→
  g x σ' H fun σ3 H3=>tt σ3 H3 fun ok H4=>if ok=true then te σ3 H4 (R σ3) else S σ3 H4)
 (fin:∀H',Same H1 H'→H' D=some (.lst (((List.range n).filter keep).map f))→Q (.ref D) H') :
 cmpW J g tt te Q D σ0 H1:=by
 refine⟨fun i m σ H=>m=n - i∧i≤n∧Sg σ∧Same H1 H∧H D=some (.lst (((List.range i).filter keep).map f)),⟨n,by omega,Nat.zero_le _,s0,(Same.refl H1).upd_free hD _,upd_same⟩,?_⟩
 rintro i m σ H ⟨rfl,hi,hs,sm,hd⟩
 by_cases hlt:i<n
 ·obtain⟨go,yl⟩:=(items i H sm).1 hlt
  refine .inr ⟨go,fun x H2 y=>?_⟩
  obtain⟨s2,im⟩:=yl x H2 y
  refine step i x σ H2 hlt (sm.trans s2) im hs _ _ (fun kp σ3 y H5 g3 s5 ey=>?_) (fun kp σ3 H4 g3 s4=>?_)
  ·have ll:(((List.range i).filter keep).map f).length≤i:=by
    rw[length_map]
    exact Nat.le_trans (length_filter_le _ _) (by rw[length_range];exact Nat.le_refl _)
   refine⟨_,s5 _ _ (s2 _ _ hd),by omega,n - (i+1),by omega,rfl,by omega,g3,(sm.trans (s2.trans s5)).upd_free hD _,?_⟩
   rw[upd_same,ey,range_filter_succ,if_pos kp,map_append]
   rfl
  ·refine⟨n - (i+1),by omega,rfl,by omega,g3,sm.trans (s2.trans s4),?_⟩
   rw[s4 _ _ (s2 _ _ hd),range_filter_succ,if_neg (by rw[kp];exact Bool.false_ne_true),append_nil]
 ·have e:i=n:=by omega
  subst e
  exact .inl ⟨(items i H sm).2 (Nat.le_refl _),fin H sm hd⟩
theorem items_rng {H1:Hp}(lo:Int)(n:Nat)(i:Nat)(H:Hp)(s:Same H1 H) :
 (i<n→(Itr lo n).go i H∧∀x H2,(Itr lo n).yld i H x H2→Same H H2∧x=.int (lo+(i:Int)))∧(n≤i→(Itr lo n).stop i H):=by
 refine⟨fun hi=>⟨hi,fun x H2 ⟨e,y⟩=>?_⟩,fun hi=>hi⟩
 subst e
 exact⟨Same.refl _,y⟩
theorem items_rev {K:W.Frag}{a:Addr}{xs:List V}{H1:Hp}(h:H1 a=some (.tup xs))(i:Nat)(H:Hp)(s:Same H1 H) :
 (i<xs.length→(Itv K a xs.length).go i H∧∀x H2,(Itv K a xs.length).yld i H x H2→Same H H2∧xs.reverse[i]?=some x)∧(xs.length≤i→(Itv K a xs.length).stop i H):=by
 have q:SqT K H a xs:=SqT.of (s _ _ h)
 refine⟨fun hi=>⟨⟨xs,xs.reverse[i]'(by simpa using hi),q,rfl,List.getElem?_eq_getElem _⟩,fun x H2 ⟨e,y⟩=>?_⟩,fun hi=>hi⟩
 subst e
 exact⟨Same.refl _,y xs q rfl⟩
end L2
namespace BB
def stp (z L:Nat)(b:Bool):Nat×Bool:=
 if b then(if L<z then(L+1,false) else(L,true)) else(if 0<L then(L - 1,true) else(0,false))
def out (z:Nat):Nat→List Bool→List Bool
 |_,[]=>[]
 |L,b::r=>(stp z L b).2::out z (stp z L b).1 r
def fin (z:Nat):Nat→List Bool→Nat
 |L,[]=>L
 |L,b::r=>fin z (stp z L b).1 r
theorem stp_le {z L:Nat}{b:Bool}(h:L≤z):(stp z L b).1≤z:=by
 unfold stp
 cases b<;>simp only[false_eq_true,if_false,if_true]
 ·split<;>simp only<;>omega
 ·split<;>simp only<;>omega
theorem stp_back {z L:Nat}{b:Bool}(h:L≤z):stp z (stp z L b).1 (stp z L b).2=(L,b):=by
 unfold stp
 cases b
 ·by_cases c:0<L
  ·simp only[false_eq_true,if_false,if_true,if_pos c]
   rw[if_pos (by omega)]
   congr 1
   omega
  ·simp only[false_eq_true,if_false,if_neg c,Nat.lt_irrefl]
   congr 1
   omega
 ·by_cases c:L<z
  ·simp only[if_true,if_pos c,false_eq_true,if_false,Nat.succ_pos]
   rfl
  ·simp only[if_true,if_neg c]
theorem out_append (z:Nat):∀(L:Nat) (x y:List Bool),out z L (x++y)=out z L x++out z (fin z L x) y
 |_,[],_=>rfl
 |L,b::r,y=>by
  show _::out z _ (r++y)=_::(out z _ r++_)
  rw[out_append z _ r y]
  rfl
theorem fin_append (z:Nat):∀(L:Nat) (x y:List Bool),fin z L (x++y)=fin z (fin z L x) y
 |_,[],_=>rfl
 |L,b::r,y=>fin_append z _ r y
theorem out_length (z:Nat):∀(L:Nat) (bs:List Bool),(out z L bs).length=bs.length
 |_,[]=>rfl
 |L,b::r=>by
  show(out z _ r).length+1=r.length+1
  rw[out_length z _ r]
theorem back {z:Nat}:∀{L:Nat} {bs:List Bool},L≤z→out z (fin z L bs) (out z L bs).reverse=bs.reverse∧fin z (fin z L bs) (out z L bs).reverse=L
 |L,[],_=>⟨rfl,rfl⟩
 |L,b::r,h=>by
  obtain⟨h1,h2⟩:=back (bs:=r) (stp_le (b:=b) h)
  have e:(out z L (b::r)).reverse=(out z (stp z L b).1 r).reverse++[(stp z L b).2]:=reverse_cons
  have ef:fin z L (b::r)=fin z (stp z L b).1 r:=rfl
  have hb:=stp_back (b:=b) h
  rw[e,ef,out_append,fin_append,h1,h2]
  constructor
  ·show r.reverse++[(stp z (stp z L b).1 (stp z L b).2).2]=_
   rw[hb,reverse_cons]
  ·show(stp z (stp z L b).1 (stp z L b).2).1=L
   rw[hb]
theorem count_out {z:Nat}:∀{L:Nat} {bs:List Bool},(out z L bs).count true+fin z L bs=L+bs.count true
 |L,[]=>by simp[out,fin]
 |L,b::r=>by
  have ih:=count_out (z:=z) (L:=(stp z L b).1) (bs:=r)
  have e1:out z L (b::r)=(stp z L b).2::out z (stp z L b).1 r:=rfl
  have e2:fin z L (b::r)=fin z (stp z L b).1 r:=rfl
  rw[e1,e2,count_cons,count_cons]
  have k:(stp z L b).1+(if(stp z L b).2==true then 1 else 0)=L+(if b==true then 1 else 0):=by
   unfold stp
   cases b
   ·simp only[false_eq_true,if_false]
    split<;>simp<;>omega
   ·simp only[if_true]
    split<;>simp
  omega
def places:Int→List Bool→List Int
 |_,[]=>[]
 |lo,b::r=>(if b=true then [lo] else [])++places (lo+1) r
theorem places_append:∀(lo:Int) (x y:List Bool),places lo (x++y)=places lo x++places (lo+(x.length:Int)) y
 |lo,[],y=>by show places lo y=places (lo+((0:Nat):Int)) y;congr 1;omega
 |lo,b::r,y=>by
  show _++places (lo+1) (r++y)=(_++places (lo+1) r)++places (lo+((r.length+1:Nat):Int)) y
  rw[places_append (lo+1) r y,List.append_assoc]
  congr 3
  omega
theorem places_length:∀(lo:Int) (bs:List Bool),(places lo bs).length=bs.count true
 |_,[]=>rfl
 |lo,b::r=>by
  show(_++places (lo+1) r).length=_
  rw[length_append,places_length (lo+1) r,count_cons]
  cases b<;>simp<;>omega
theorem places_ge:∀{lo:Int} {bs:List Bool} {p:Int},p∈places lo bs→lo≤p∧p<lo+(bs.length:Int)
 |lo,[],p,h=>by cases h
 |lo,b::r,p,h=>by
  rcases mem_append.mp (show p∈(if b=true then [lo] else [])++places (lo+1) r from h) with h | h
  ·cases b
   ·cases h
   ·have:p=lo:=by simpa using h
    subst this
    simp only[length_cons]
    omega
  ·have:=places_ge h
   simp only[length_cons]
   omega
theorem places_up:∀(lo:Int) (bs:List Bool),(places lo bs).Pairwise (· < ·)
 |_,[]=>.nil
 |lo,b::r=>by
  refine pairwise_append.mpr ⟨by cases b<;>simp,places_up (lo+1) r,fun x hx y hy=>?_⟩
  have:=places_ge hy
  cases b
  ·cases hx
  ·have:x=lo:=by simpa using hx
   omega
def mir (row:List Int):List Int:=row.reverse.map fun p=>-p
theorem mir_mir (row:List Int):mir (mir row)=row:=by
 unfold mir
 rw[←List.map_reverse,List.reverse_reverse,map_map]
 refine(map_congr_left fun p _=>?_).trans (List.map_id row)
 show - -p=p
 omega
theorem mir_length (row:List Int):(mir row).length=row.length:=by unfold mir;rw[length_map,length_reverse]
theorem mir_places:∀(lo:Int) (bs:List Bool),mir (places lo bs)=places (1 - (lo+(bs.length:Int))) bs.reverse
 |_,[]=>rfl
 |lo,b::r=>by
  have e:mir (places lo (b::r))=mir (places (lo+1) r)++mir (if b=true then [lo] else []):=by
   show mir (_++places (lo+1) r)=_
   unfold mir
   rw[List.reverse_append,map_append]
  rw[e,mir_places (lo+1) r,reverse_cons,places_append]
  congr 1
  ·congr 1
   simp only[length_cons]
   omega
  ·have e2:1 - (lo+((b::r).length:Int))+(r.reverse.length:Int)=-lo:=by
    simp only[length_cons,length_reverse]
    omega
   rw[e2]
   cases b<;>rfl
theorem mir_up {row:List Int}(h:row.Pairwise (· < ·)):(mir row).Pairwise (· < ·):=by
 unfold mir
 rw[List.pairwise_map,List.pairwise_reverse]
 exact h.imp fun{a b} z=>by omega
def row (lo:Int)(n:Nat):List Int:=(List.range n).map fun(k:Nat)=>lo+(k:Int)
theorem row_zero (lo:Int):row lo 0=[]:=rfl
theorem row_succ (lo:Int)(n:Nat):row lo (n+1)=lo::row (lo+1) n:=by
 unfold row
 rw[List.range_succ_eq_map,map_cons,map_map]
 congr 1
 ·show lo+((0:Nat):Int)=lo
  omega
 ·refine map_congr_left fun k _=>?_
  show lo+((k+1:Nat):Int)=lo+1+(k:Int)
  omega
def sp (z:Nat):Nat→Int→List Int→List Int
 |L,box,[]=>row box L
 |L,box,p::r=>row box (min L (p - box).toNat)++
  (if L - min L (p - box).toNat<z then sp z (L - min L (p - box).toNat+1) (p+1) r else p::sp z (L - min L (p - box).toNat) (p+1) r)
theorem sp_gap {z L:Nat}{lo:Int}{rw_:List Int}(h:∀p∈rw_,lo+1≤p):sp z L lo rw_=if 0<L then lo::sp z (L - 1) (lo+1) rw_ else sp z 0 (lo+1) rw_:=by
 cases rw_ with
 |nil=>
  show row lo L=if 0<L then lo::row (lo+1) (L - 1) else row (lo+1) 0
  cases L with
  |zero=>rfl
  |succ L=>rw[if_pos (Nat.succ_pos L),row_succ];rfl
 |cons p r=>
  have hp:=h p (mem_cons_self ..)
  cases L with
  |zero=>
   rw[if_neg (by omega)]
   unfold sp
   rw[Nat.zero_min,Nat.zero_min]
   rfl
  |succ L=>
   rw[if_pos (Nat.succ_pos L)]
   have e:min (L+1) (p - lo).toNat=min L (p - (lo+1)).toNat+1:=by omega
   unfold sp
   rw[e,row_succ,show L+1 - 1=L from rfl,show L+1 - (min L (p - (lo+1)).toNat+1)=L - min L (p - (lo+1)).toNat by omega]
   rfl
theorem sp_places (z:Nat):∀(L:Nat) (lo:Int) (bs:List Bool),sp z L lo (places lo bs)=places lo (out z L bs)++row (lo+(bs.length:Int)) (fin z L bs)
 |L,lo,[]=>by
  show row lo L=[]++row (lo+((0:Nat):Int)) L
  rw[nil_append]
  congr 1
  omega
 |L,lo,false::r=>by
  have e:places lo (false::r)=places (lo+1) r:=rfl
  rw[e,sp_gap fun p hp=>(places_ge hp).1]
  have el:lo+1+(r.length:Int)=lo+((false::r).length:Int):=by simp only[length_cons];omega
  by_cases c:0<L
  ·rw[if_pos c,sp_places z (L - 1) (lo+1) r,el]
   have e1:stp z L false=(L - 1,true):=by unfold stp;simp only[false_eq_true,if_false,if_pos c]
   show _=((if(stp z L false).2=true then [lo] else [])++places (lo+1) (out z (stp z L false).1 r))++row _ (fin z (stp z L false).1 r)
   rw[e1]
   rfl
  ·rw[if_neg c,sp_places z 0 (lo+1) r,el]
   have e1:stp z L false=(0,false):=by unfold stp;simp only[false_eq_true,if_false,if_neg c]
   show _=((if(stp z L false).2=true then [lo] else [])++places (lo+1) (out z (stp z L false).1 r))++row _ (fin z (stp z L false).1 r)
   rw[e1]
   rfl
 |L,lo,true::r=>by
  have e:places lo (true::r)=lo::places (lo+1) r:=rfl
  have el:lo+1+(r.length:Int)=lo+((true::r).length:Int):=by simp only[length_cons];omega
  rw[e]
  unfold sp
  have em:min L (lo - lo).toNat=0:=by rw[Int.sub_self];exact Nat.min_zero L
  rw[em,row_zero,nil_append,Nat.sub_zero]
  by_cases c:L<z
  ·rw[if_pos c,sp_places z (L+1) (lo+1) r,el]
   have e1:stp z L true=(L+1,false):=by unfold stp;simp only[if_true,if_pos c]
   show _=((if(stp z L true).2=true then [lo] else [])++places (lo+1) (out z (stp z L true).1 r))++row _ (fin z (stp z L true).1 r)
   rw[e1]
   rfl
  ·rw[if_neg c,sp_places z L (lo+1) r,el]
   have e1:stp z L true=(L,true):=by unfold stp;simp only[if_true,if_neg c]
   show _=((if(stp z L true).2=true then [lo] else [])++places (lo+1) (out z (stp z L true).1 r))++row _ (fin z (stp z L true).1 r)
   rw[e1]
   rfl
theorem sp_free {z:Nat}{box box':Int}:∀{r:List Int},sp z 0 box r=sp z 0 box' r
 |[]=>rfl
 |p::r=>by
  unfold sp
  rw[Nat.zero_min,Nat.zero_min]
  rfl
def step (z:Nat)(r:List Int):List Int:=sp z 0 (r.headD 0) r
theorem step_places {z:Nat}{lo:Int}{bs:List Bool}(h:fin z 0 bs=0):step z (places lo bs)=places lo (out z 0 bs):=by
 unfold step
 rw[sp_free (box':=lo),sp_places,h,row_zero,append_nil]
theorem cells:∀(n:Nat) (lo:Int) (r:List Int),r.Pairwise (· < ·)→(∀p∈r,lo≤p∧p<lo+(n:Int))→∃bs:List Bool,bs.length=n∧places lo bs=r
 |0,lo,r,_,h=>by
  cases r with
  |nil=>exact⟨[],rfl,rfl⟩
  |cons p r=>have:=h p (mem_cons_self ..);omega
 |n+1,lo,r,up,h=>by
  cases r with
  |nil=>
   obtain⟨bs,e1,e2⟩:=cells n (lo+1) [] .nil (fun p hp=>by cases hp)
   exact⟨false::bs,by rw[length_cons,e1],e2⟩
  |cons p r=>
   obtain⟨u1,u2⟩:=pairwise_cons.mp up
   have hp:=h p (mem_cons_self ..)
   by_cases c:p=lo
   ·subst c
    obtain⟨bs,e1,e2⟩:=cells n (p+1) r u2 fun q hq=>by
     have:=u1 q hq
     have:=h q (mem_cons_of_mem _ hq)
     omega
    refine⟨true::bs,by rw[length_cons,e1],?_⟩
    show [p]++places (p+1) bs=_
    rw[e2]
    rfl
   ·obtain⟨bs,e1,e2⟩:=cells n (lo+1) (p::r) up fun q hq=>by
     have:=h q hq
     rcases mem_cons.mp hq with rfl | hq'
     ·omega
     ·have:=u1 q hq'
      omega
    exact⟨false::bs,by rw[length_cons,e1],e2⟩
theorem fin_falses (z:Nat):∀(k L:Nat),fin z L (replicate k false)=L - k
 |0,L=>rfl
 |k+1,L=>by
  show fin z (stp z L false).1 (replicate k false)=_
  rw[fin_falses z k]
  unfold stp
  simp only[false_eq_true,if_false]
  split<;>simp only<;>omega
theorem places_falses:∀(k:Nat) (lo:Int),places lo (replicate k false)=[]
 |0,_=>rfl
 |k+1,lo=>places_falses k (lo+1)
theorem window (z:Nat){A B:Int}{r:List Int}(up:r.Pairwise (· < ·))(h:∀p∈r,A≤p∧p≤B):∃bs:List Bool,places A bs=r∧fin z 0 bs=0∧bs.count true=r.length∧(r≠[]→A+(bs.length:Int)≤B+1+(r.length:Int)):=by
 obtain⟨bs,e1,e2⟩:=cells (B+1 - A).toNat A r up fun p hp=>by have:=h p hp;omega
 have hc:bs.count true=r.length:=by rw[←places_length A bs,e2]
 have hf:fin z 0 bs≤r.length:=by have:=count_out (z:=z) (L:=0) (bs:=bs);omega
 refine⟨bs++replicate (fin z 0 bs) false,?_,?_,?_,fun ne=>?_⟩
 ·rw[places_append,places_falses,append_nil,e2]
 ·rw[fin_append,fin_falses,Nat.sub_self]
 ·rw[List.count_append,hc]
  have:(replicate (fin z 0 bs) false).count true=0:=by simp[List.count_replicate]
  omega
 ·cases r with
  |nil=>exact absurd rfl ne
  |cons p r=>
   have:=h p (mem_cons_self ..)
   rw[length_append,length_replicate,e1]
   omega
structure Rw (r:List Int)(k:Nat)(A B:Int):Prop where
 up:r.Pairwise (· < ·)
 len:r.length=k
 bd:∀p∈r,A≤p∧p≤B
theorem Rw.mono {r:List Int}{k:Nat}{A B A' B':Int}(h:Rw r k A B)(ha:A'≤A)(hb:B≤B'):Rw r k A' B':=⟨h.up,h.len,fun p hp=>by have:=h.bd p hp;omega⟩
theorem Rw.mir {r:List Int}{k:Nat}{A B:Int}(h:Rw r k A B):Rw (mir r) k (-B) (-A):=⟨mir_up h.up,by rw[mir_length,h.len],fun p hp=>by
 obtain⟨q,hq,rfl⟩:=mem_map.mp hp
 have:=h.bd q (List.mem_reverse.mp hq)
 omega⟩
theorem Rw.step {r:List Int}{k:Nat}{A B:Int}(z:Nat)(h:Rw r k A B):Rw (step z r) k A (B+(k:Int)):=by
 obtain⟨bs,e1,e2,e3,e4⟩:=window z h.up h.bd
 have hc:=count_out (z:=z) (L:=0) (bs:=bs)
 rw[←e1,step_places e2]
 refine⟨places_up _ _,by rw[places_length];have:=h.len;omega,fun p hp=>?_⟩
 have:=places_ge hp
 rw[out_length]at this
 have ne:r≠[]:=fun w=>by
  have:(places A (out z 0 bs)).length=0:=by rw[places_length];rw[w]at e3;simp only[length_nil]at e3;omega
  rw[List.length_eq_zero_iff]at this
  rw[this]at hp
  cases hp
 have:=e4 ne
 have:=h.len
 omega
def unstep (z:Nat)(r:List Int):List Int:=mir (step z (mir r))
theorem Rw.unstep {r:List Int}{k:Nat}{A B:Int}(z:Nat)(h:Rw r k A B):Rw (unstep z r) k (A - (k:Int)) B:=by
 have:=(h.mir.step z).mir
 rw[Int.neg_neg,show -(-A+(k:Int))=A - (k:Int) by omega]at this
 exact this
theorem unstep_step (z:Nat){r:List Int}{k:Nat}{A B:Int}(h:Rw r k A B):unstep z (step z r)=r:=by
 obtain⟨bs,e1,e2,_⟩:=window z h.up h.bd
 obtain⟨b1,b2⟩:=back (z:=z) (bs:=bs) (Nat.zero_le z)
 rw[e2]at b1 b2
 unfold unstep
 rw[←e1,step_places e2,mir_places,step_places b2,b1,mir_places]
 rw[List.reverse_reverse,out_length,length_reverse]
 congr 1
 omega
theorem step_unstep (z:Nat){r:List Int}{k:Nat}{A B:Int}(h:Rw r k A B):step z (unstep z r)=r:=by
 have:=unstep_step z h.mir
 unfold unstep at this
 have e:=congrArg mir this
 rw[mir_mir,mir_mir]at e
 unfold unstep
 exact e
def it (f:List Int→List Int):Nat→List Int→List Int
 |0,r=>r
 |n+1,r=>f (it f n r)
theorem Rw.its {z:Nat}{r:List Int}{k:Nat}{A B:Int}(h:Rw r k A B):∀n:Nat,Rw (it (BB.step z) n r) k A (B+(n:Int)*(k:Int))
 |0=>by
  show Rw r k A (B+((0:Nat):Int)*(k:Int))
  rw[show((0:Nat):Int)*(k:Int)=0 by simp,Int.add_zero]
  exact h
 |n+1=>by
  have:=(h.its (z:=z) n).step z
  rw[show B+((n+1:Nat):Int)*(k:Int)=B+(n:Int)*(k:Int)+(k:Int) by rw[Int.natCast_add,Int.add_mul];omega]
  exact this
theorem Rw.itu {z:Nat}{r:List Int}{k:Nat}{A B:Int}(h:Rw r k A B):∀n:Nat,Rw (it (BB.unstep z) n r) k (A - (n:Int)*(k:Int)) B
 |0=>by
  show Rw r k (A - ((0:Nat):Int)*(k:Int)) B
  rw[show((0:Nat):Int)*(k:Int)=0 by simp,Int.sub_zero]
  exact h
 |n+1=>by
  have:=(h.itu (z:=z) n).unstep z
  rw[show A - ((n+1:Nat):Int)*(k:Int)=A - (n:Int)*(k:Int) - (k:Int) by rw[Int.natCast_add,Int.add_mul];omega]
  exact this
def lat (z:Nat)(s:Int)(r:List Int):List Int:=if 0<s then it (step z) s.toNat r else it (unstep z) (-s).toNat r
theorem lat_rw {z:Nat}{r:List Int}{k:Nat}{A B:Int}(h:Rw r k A B)(s:Int):∃A' B',Rw (lat z s r) k A' B':=by
 unfold lat
 split
 ·exact⟨_,_,h.its _⟩
 ·exact⟨_,_,h.itu _⟩
theorem lat_succ {z:Nat}{r:List Int}{k:Nat}{A B:Int}(h:Rw r k A B)(s:Int):lat z (s+1) r=step z (lat z s r):=by
 unfold lat
 by_cases c:0<s
 ·rw[if_pos c,if_pos (by omega),show(s+1).toNat=s.toNat+1 by omega]
  rfl
 ·by_cases d:s=0
  ·subst d
   rfl
  ·rw[if_neg c,if_neg (by omega)]
   have e:(-s).toNat=(-(s+1)).toNat+1:=by omega
   rw[e]
   show _=step z (unstep z (it (unstep z) (-(s+1)).toNat r))
   rw[step_unstep z (h.itu _)]
theorem lat_pred {z:Nat}{r:List Int}{k:Nat}{A B:Int}(h:Rw r k A B)(s:Int):lat z (s - 1) r=unstep z (lat z s r):=by
 have e:=lat_succ (z:=z) h (s - 1)
 rw[show s - 1+1=s by omega]at e
 obtain⟨A',B',g⟩:=lat_rw (z:=z) h (s - 1)
 rw[e,unstep_step z g]
def ld (L:Nat)(b:Bool):Nat:=if b then L+1 else L - 1
def lst:Nat→List Bool→Nat
 |L,[]=>L
 |L,b::r=>lst (ld L b) r
end BB
namespace L2
structure Nb2 (mg:Str→Option Value):Prop extends Nb mg where
 rev:mg "reversed" = none
 abs:mg "abs" = none
section
variable {X:Cx}{elt iter:Expr}{ifs:List Expr}{scope:Scope}{pos pos' spos:Pos}{N:List Str}{js:List Nat}{sc:Scope}{N0:List Str}{wi:TI}{tt:TT}{te:TE}{x nm:Str}{px:Pos}{ii:Nat}
theorem ps_comp1 (hNd:X.N.Nodup)(hii:X.N[ii]?=some nm)(hloc:Loc X.env.scope nm)(hc:X.calm=true)(hsc:X.env.scope=sc)(hN:X.N=N0)(B:Blk sc N0 (x::N) 1 js scope)(hx:scope.names.lookup x=some .local)(hi:PI X (.Name x px) iter wi)
 (ht:∀cl C s H fp,PTs (blk X (x::N) scope cl C s H fp) ifs tt) (he:∀cl C s H fp,PE (blk X (x::N) scope cl C s H fp) elt te)
 (hsw:swapsWith (.ListComp elt [⟨.Name x px,iter,ifs,0⟩] scope pos) (some (.Name nm pos')) spos.line X.env=pure true:=by rfl)
 (hf:X.fn nm=true∨X.env.scope.names.lookup nm=some .local:=by first | exact .inl rfl | exact .inr rfl | assumption)
 (hs:∀x,foldedSetIterable iter X.env x=pure x:=by intro _;rfl):PS X (.Assign [.Name nm pos'] (.ListComp elt [⟨.Name x px,iter,ifs,0⟩] scope pos) spos) (tSetC ii (tComp 1 js wi (gName 0) tt te)):=
 ps_comp hNd hii hloc hc hsc hN B hi (fun cl C s H fp=>pg_name (i:=0) B.nd rfl (.inl (blk_loc hx)) (.inr (blk_loc hx))) ht he hsw hf hs
end
section
variable {κ:Type}[DecidableEq κ]
def valV (kvs:List (κ×V))(k:κ):Option V:=(kvs.find? fun kv=>decide (kv.1=k)).map (·.2)
def putK (kvs:List (κ×V))(k:κ)(v:V):List (κ×V):=
 if(kvs.any fun kv=>decide (kv.1=k))=true then kvs.map (fun kv=>if kv.1=k then(kv.1,v) else kv) else kvs++[(k,v)]
theorem valV_pos {p:κ×V}{r:List (κ×V)}{k:κ}(e:p.1=k):valV (p::r) k=some p.2:=by simp[valV,find?_cons,e]
theorem valV_neg {p:κ×V}{r:List (κ×V)}{k:κ}(e:¬p.1=k):valV (p::r) k=valV r k:=by simp[valV,find?_cons,e]
theorem valV_any (k:κ):∀kvs:List (κ×V),(kvs.any fun kv=>decide (kv.1=k))=(valV kvs k).isSome
 |[]=>rfl
 |p::r=>by
  rw[any_cons]
  by_cases e:p.1=k
  ·simp only[valV_pos e,decide_eq_true e,Bool.true_or,Option.isSome_some]
  ·rw[valV_neg e,decide_eq_false e,Bool.false_or];exact valV_any k r
theorem length_putK (kvs:List (κ×V))(k:κ)(v:V):(putK kvs k v).length≤kvs.length+1:=by
 unfold putK
 split
 ·rw[length_map];omega
 ·rw[length_append,length_cons,length_nil];omega
theorem RelO.isSome_eq {o:Option V}{u:Option Value}(r:RelO o u):o.isSome=u.isSome:=by
 cases o with
 |none=>cases u with
  |none=>rfl
  |some _=>exact(show False from r).elim
 |some _=>cases u with
  |none=>exact(show False from r).elim
  |some _=>rfl
theorem KV.val {kvs:List (κ×V)}{vs:List (κ×Value)}(r:KV kvs vs)(k:κ):RelO (valV kvs k) (valueAt vs k):=by
 unfold KV at r
 induction r with
 |nil=>exact True.intro
 | @cons p q ps qs h t ih=>
   obtain⟨h1,h2⟩:=h
   by_cases e:p.1=k
   ·have e':q.1=k:=h1.symm.trans e
    have b:valueAt (q::qs) k=some q.2:=by simp[valueAt,find?_cons,e']
    rw[valV_pos e,b];exact h2
   ·have e':¬q.1=k:=fun z=>e (h1.trans z)
    have b:valueAt (q::qs) k=valueAt qs k:=by simp[valueAt,find?_cons,e']
    rw[valV_neg e,b];exact ih
theorem KV.any {kvs:List (κ×V)}{vs:List (κ×Value)}(r:KV kvs vs)(k:κ):(kvs.any fun kv=>decide (kv.1=k))=vs.any fun kv=>decide (kv.1=k):=by
 unfold KV at r
 induction r with
 |nil=>rfl
 |cons h t ih=>rw[any_cons,any_cons,ih,h.1]
theorem KV.repl {kvs:List (κ×V)}{vs:List (κ×Value)}(r:KV kvs vs)(k:κ){y:V}{u:Value}(ry:RelV y u) :
 KV (kvs.map fun kv=>if kv.1=k then(kv.1,y) else kv) (vs.map fun kv=>if kv.1=k then(kv.1,u) else kv):=by
 unfold KV at r ⊢
 induction r with
 |nil=>exact .nil
 | @cons p q ps qs h t ih=>
   rw[map_cons,map_cons]
   refine .cons ?_ ih
   obtain⟨h1,h2⟩:=h
   by_cases e:p.1=k
   ·rw[if_pos e,if_pos (h1.symm.trans e)];exact⟨h1,ry⟩
   ·rw[if_neg e,if_neg (fun z=>e (h1.trans z))];exact⟨h1,h2⟩
theorem KV.put {kvs:List (κ×V)}{vs:List (κ×Value)}(r:KV kvs vs)(k:κ){y:V}{u:Value}(ry:RelV y u):KV (putK kvs k y) (stored vs k u):=by
 unfold putK stored
 rw[r.any k]
 by_cases e:(vs.any fun kv=>decide (kv.1=k))=true
 ·rw[if_pos e,if_pos e];exact r.repl k ry
 ·rw[if_neg e,if_neg e];exact Paired.snoc r ⟨rfl,ry⟩
theorem KV.keys {kvs:List (κ×V)}{vs:List (κ×Value)}(r:KV kvs vs):kvs.map (·.1)=vs.map (·.1):=by
 unfold KV at r
 induction r with
 |nil=>rfl
 |cons h t ih=>rw[map_cons,map_cons,ih,h.1]
theorem KV.length {kvs:List (κ×V)}{vs:List (κ×Value)}(r:KV kvs vs):kvs.length=vs.length:=Paired.length r
end
theorem kV_is {P:Program}{w:World}{k:Key}{u:Value}(r:RelV (kV k) u):(mixKind P w).is k u=true:=by
 cases k with
 |inl i=>obtain⟨t,e⟩:=(show ∃t,u=Value.int i t from r);subst e;exact mixKind_int P w i t
 |inr x=>obtain⟨t,e⟩:=(show ∃t,u=Value.str x t from r);subst e;exact mixKind_str P w x t
theorem items_are {P:Program}{w:World}:∀{ks:List Key} {us:List Value},Vals (ks.map kV) us→ItemsAre (mixKind P w) ks us
 |[],_,r=>by rw[map_nil]at r;cases r;exact .nil
 |k::ks,_,r=>by
  rw[map_cons]at r
  cases r with
  |cons h t=>exact .cons (kV_is h) (items_are t)
abbrev KT (H:Hp):List (List Key×V)→List (List Key×Addr×Value)→Prop:=Paired fun p q=>p.1=q.1∧H q.2.1=some (.tup (p.1.map kV))∧RelV p.2 q.2.2
theorem KT.val {H:Hp}{kvs:List (List Key×V)}{xs:List (List Key×Addr×Value)}(r:KT H kvs xs)(k:List Key):RelO (valV kvs k) ((atKey xs k).map (·.2)):=by
 induction r with
 |nil=>exact True.intro
 | @cons p q ps qs h t ih=>
   obtain⟨h1,_,h2⟩:=h
   by_cases e:p.1=k
   ·have e':q.1=k:=h1.symm.trans e
    have b:atKey (q::qs) k=some q.2:=by simp[atKey,find?_cons,e']
    rw[valV_pos e,b];exact h2
   ·have e':¬q.1=k:=fun z=>e (h1.trans z)
    have b:atKey (q::qs) k=atKey qs k:=by simp[atKey,find?_cons,e']
    rw[valV_neg e,b];exact ih
theorem KT.repl {H:Hp}{kvs:List (List Key×V)}{xs:List (List Key×Addr×Value)}(r:KT H kvs xs)(k:List Key){y:V}{u:Value}(ry:RelV y u) :
 KT H (kvs.map fun kv=>if kv.1=k then(kv.1,y) else kv) (xs.map (putAt k u)):=by
 induction r with
 |nil=>exact .nil
 | @cons p q ps qs h t ih=>
   rw[map_cons,map_cons]
   refine .cons ?_ ih
   obtain⟨h1,h2,h3⟩:=h
   unfold putAt
   by_cases e:p.1=k
   ·rw[if_pos e,if_pos (h1.symm.trans e)];exact⟨h1,h2,ry⟩
   ·rw[if_neg e,if_neg (fun z=>e (h1.trans z))];exact⟨h1,h2,h3⟩
theorem KT.put {H:Hp}{kvs:List (List Key×V)}{xs:List (List Key×Addr×Value)}(r:KT H kvs xs)(k:List Key){b:Addr}{y:V}{u:Value}(hb:H b=some (.tup (k.map kV)))(ry:RelV y u) :
 KT H (putK kvs k y) (storedH xs k b u):=by
 have e:(kvs.any fun kv=>decide (kv.1=k))=(atKey xs k).isSome:=by
  rw[valV_any,(r.val k).isSome_eq,isSome_map]
 unfold putK storedH
 rw[e]
 by_cases q:(atKey xs k).isSome=true
 ·rw[if_pos q,if_pos q];exact r.repl k ry
 ·rw[if_neg q,if_neg q];exact Paired.snoc r ⟨rfl,hb,ry⟩
theorem KT.keeps {H H':Hp}{kvs:List (List Key×V)}{xs:List (List Key×Addr×Value)}(r:KT H kvs xs)(ht:∀b ys,H b=some (.tup ys)→H' b=some (.tup ys)):KT H' kvs xs:=
 Paired.mapP r fun _ _ z=>⟨z.1,ht _ _ z.2.1,z.2.2⟩
section
variable {P:Program}{w:World}{H:Hp}{h:Heap}{a:Addr}
theorem rd_of {u:HO}(ok:HOk P w H h)(e:Rd H a u):ObjOk P w H h a u:=e.ok ok
theorem dk_rd {kvs:List (Key×V)}(ok:HOk P w H h)(e:Rd H a (.dK kvs)):kvs.length≤sizeLine∧(a==sysModules)=false∧∃vs,KV kvs vs∧h.DictOf (mixKind P w) a vs:=
 show ObjOk P w H h a (.dK kvs) from rd_of ok e
theorem dk_of {kvs:List (Key×V)}(ok:HOk P w H h)(e:H a=some (.dK kvs)):kvs.length≤sizeLine∧(a==sysModules)=false∧∃vs,KV kvs vs∧h.DictOf (mixKind P w) a vs:=dk_rd ok (.inl e)
theorem key_of {ks:List Key}(ok:HOk P w H h)(e:H a=some (.tup (ks.map kV))):(tupleKind (mixKind P w)).is h ks a:=by
 obtain⟨_,its,r,o,h1,h2,n,h3⟩:=(show ObjOk P w H h a (.tup (ks.map kV)) from ok a _ e)
 exact⟨o,its.toArray,n,h1,h2,h3,by simpa using items_are r⟩
theorem dt_rd {kvs:List (List Key×V)}(ok:HOk P w H h)(e:Rd H a (.dT kvs)):kvs.length≤sizeLine∧(a==sysModules)=false∧
 ∃xs,KT H kvs xs∧h.DictOfH (tupleKind (mixKind P w)) a xs:=by
 obtain⟨z,y,xs,r,o,es,ep,h1,h2,h3,h4,h5⟩:=(show ObjOk P w H h a (.dT kvs) from rd_of ok e)
 refine⟨z,y,xs,r,o,es,ep,h1,h2,h3,h4,fun x hx=>?_,h5⟩
 have all:∀{l:List (List Key×V)} {m:List (List Key×Addr×Value)},KT H l m→∀x∈m,(tupleKind (mixKind P w)).is h x.1 x.2.1:=by
  intro l m q
  induction q with
  |nil=>intro x hx;exact nomatch hx
  | @cons p q ps qs hq t ih=>
    intro x hx
    rcases mem_cons.mp hx with e | hx
    ·subst e
     exact key_of ok (by rw[←hq.1];exact hq.2.1)
    ·exact ih x hx
 exact all r x hx
theorem dt_of {kvs:List (List Key×V)}(ok:HOk P w H h)(e:H a=some (.dT kvs)):kvs.length≤sizeLine∧(a==sysModules)=false∧
 ∃xs,KT H kvs xs∧h.DictOfH (tupleKind (mixKind P w)) a xs:=dt_rd ok (.inl e)
end
def DGet (H:Hp)(a:Addr)(y:V)(r:Option V):Prop:=
 (∃kvs k,Rd H a (.dK kvs)∧y=kV k∧r=valV kvs k)∨∃kvs k b,Rd H a (.dT kvs)∧y=.ref b∧H b=some (.tup (k.map kV))∧r=valV kvs k
def DPut (H:Hp)(a:Addr)(y v:V)(H':Hp):Prop:=
 (∃kvs k,H a=some (.dK kvs)∧y=kV k∧kvs.length<sizeLine∧H'=upd H a (.dK (putK kvs k v)))∨
 ∃kvs k b,H a=some (.dT kvs)∧y=.ref b∧H b=some (.tup (k.map kV))∧kvs.length<sizeLine∧H'=upd H a (.dT (putK kvs k v))
theorem DGet.k {H:Hp}{a:Addr}{kvs:List (Key×V)}{k:Key}(e:H a=some (.dK kvs)):DGet H a (kV k) (valV kvs k):=.inl ⟨kvs,k,.inl e,rfl,rfl⟩
theorem DPut.k {H:Hp}{a:Addr}{kvs:List (Key×V)}{k:Key}{v:V}(e:H a=some (.dK kvs))(hl:kvs.length<sizeLine):DPut H a (kV k) v (upd H a (.dK (putK kvs k v))):=.inl ⟨kvs,k,e,rfl,hl,rfl⟩
section
variable {X:Cx}{pins:List (Addr×Obj)}{σ:St}{H:Hp}{s:Shared}{a:Addr}{y v:V}{u r:Value}{o:Option V}{A:Around}{E:Value→Shared→Prop}
theorem Inv.big (I:Inv X pins σ H s):sysModules<s.heap.objs.size:=by
 have h:mainGlobals<s.heap.objs.size:=(I.mod.glob.keeps I.bk).lt
 exact Nat.lt_trans (by decide) h
theorem d_getItem {Q:Value→Shared→Prop}(hu:A.units+1<cLine)(I:Inv X pins σ H s)(g:DGet H a y (some v))(ry:RelV y u)(h:∀w' s',Inv X pins σ H s'→RelV v w'→Q w' s') :
 wpAny (model X.prog X.w) A (getItem (.ref a) u) Q E s:=by
 rcases g with⟨kvs,k,e,ey,l⟩ | ⟨kvs,k,b,e,ey,eb,l⟩
 ·subst ey
  obtain⟨z,hd,vs,rel,dd⟩:=dk_rd I.hok e
  obtain⟨w',hw,rw'⟩:=RelO.some_of (v:=v) (o:=valueAt vs k) (by rw[l];exact rel.val k)
  exact wpAny_getItem_of (kV_is ry) dd.mapOf hw (h w' _ (I.tok _) rw')
 ·subst ey
  cases(show u=Value.ref b from ry)
  obtain⟨z,hd,xs,rel,dd⟩:=dt_rd I.hok e
  obtain⟨w',hw,rw'⟩:=RelO.some_of (v:=v) (o:=(atKey xs k).map (·.2)) (by rw[l];exact rel.val k)
  obtain⟨p,hp,hp2⟩:=Option.map_eq_some_iff.mp hw
  refine wpAny_getItem_heap (tupleKind_room_in1 hu) (key_of I.hok eb) dd hp ?_
  rw[hp2]
  exact h w' _ (I.tok _) rw'
theorem d_notIn {Q:Value→Shared→Prop}(hu:A.units+1<cLine)(I:Inv X pins σ H s)(g:DGet H a y o)(ry:RelV y u)(h:∀s',Inv X pins σ H s'→Q (.bool (!o.isSome)) s') :
 wpAny (model X.prog X.w) A (compareOp .NotIn u (.ref a)) Q E s:=by
 rcases g with⟨kvs,k,e,ey,l⟩ | ⟨kvs,k,b,e,ey,eb,l⟩
 ·subst ey
  obtain⟨z,hd,vs,rel,dd⟩:=dk_rd I.hok e
  refine wpAny_notIn_of (kV_is ry) hd dd.mapOf ?_
  rw[←(rel.val k).isSome_eq,←l]
  exact h _ (I.tok _)
 ·subst ey
  cases(show u=Value.ref b from ry)
  obtain⟨z,hd,xs,rel,dd⟩:=dt_rd I.hok e
  refine wpAny_notIn_heap (tupleKind_room_in1 hu) (key_of I.hok eb) hd dd ?_
  have q:=(rel.val k).isSome_eq
  rw[isSome_map]at q
  rw[←q,←l]
  exact h _ (I.tok _)
theorem d_write {h':Heap}{t':Nat}{ob:HO}(I:Inv X pins σ H s)(mu:Mut (H a))(hs:Heap.SameBut a s.heap h')(he:∃q,h'.get? a=some q)(new:ObjOk X.prog X.w (upd H a ob) h' a ob) :
 Inv X pins σ (upd H a ob) {s with heap:=h',toks:=t'}:=
 I.write (x:=a) (e:=a) mu (.inl rfl) (fun b q hb z=>(hs.2 b hb).trans z) he new
theorem dk_new {P:Program}{w:World}{H':Hp}{h':Heap}{kvs:List (Key×V)}{vs:List (Key×Value)}(z:kvs.length≤sizeLine)(hd:(a==sysModules)=false)(rel:KV kvs vs)(dd:h'.DictOf (mixKind P w) a vs) :
 ObjOk P w H' h' a (.dK kvs):=⟨z,hd,vs,rel,dd⟩
theorem d_setItem {H':Hp}{Q:Unit→Shared→Prop}(hu:A.units+1<cLine)(I:Inv X pins σ H s)(g:DPut H a y v H')(ry:RelV y u)(rv:RelV v r)(h:∀s',Inv X pins σ H' s'→Q () s') :
 wpAny (model X.prog X.w) A (setItem (.ref a) u r) Q E s:=by
 rcases g with⟨kvs,k,e,ey,l,eH⟩ | ⟨kvs,k,b,e,ey,eb,l,eH⟩
 ·subst ey eH
  obtain⟨z,hd,vs,rel,dd⟩:=dk_of I.hok e
  have hz:vs.length≤sizeLine:=by rw[←rel.length];exact z
  have hl:(putK kvs k v).length≤sizeLine:=by have:=length_putK kvs k v;omega
  refine wpAny_setItem_pairs (hsz:=hz) (kV_is ry) dd fun h' dd' hs=>h _ ?_
  have he:∃q,h'.get? a=some q:=let⟨q,_,_,hq,_⟩:=dd';⟨q,hq⟩
  exact d_write I (by rw[e];exact True.intro) hs he (dk_new hl hd (rel.put k rv) dd')
 ·subst ey eH
  cases(show u=Value.ref b from ry)
  obtain⟨z,hd,xs,rel,dd⟩:=dt_of I.hok e
  have hz:xs.length≤sizeLine:=by rw[←Paired.length rel];exact z
  have hl:(putK kvs k v).length≤sizeLine:=by have:=length_putK kvs k v;omega
  refine wpAny_setItem_heap (hsz:=hz) (tupleKind_room_in1 hu) (key_of I.hok eb) dd fun h' dd' hs=>h _ ?_
  obtain⟨q,es,ep,hq,h2,h3,h4,_,h5⟩:=dd'
  refine d_write I (by rw[e];exact True.intro) hs ⟨q,hq⟩ ⟨hl,hd,_,(rel.put k eb rv).keeps fun c ys ec=>?_,q,es,ep,hq,h2,h3,h4,h5⟩
  rw[upd_ne (ne_of ec e (fun z=>nomatch z))]
  exact ec
end
def NoSl (i:Expr):Prop:=∀ov iv,subscripted i false ov iv=operate [ov,iv] (getItem ov iv)
theorem subD_of {prog:Program}{w:World}{A:Around}{E:Value→Shared→Prop}{s:Shared}{env:Env}{value slice:Expr}{pos:Pos}{T id:String}{Q:Value→Shared→Prop}
 (hl:typeLookup (.type T) "__getitem__" = pure (some (.builtin id))) (hs:NoSl slice)
 (h:wpAny (model prog w) A (eval value env) (fun o s₁=>wpAny (model prog w) A (eval slice env) (fun i s₂=>s₂.TypeIs o T∧wpAny (model prog w) A (getItem o i) Q E s₂) E s₁) E s) :
 wpAny (model prog w) A (eval (.Subscript value slice pos) env) Q E s:=by
 refine Subscript_ (wpAny_mono h (fun o s₁ h₁=>wpAny_mono h₁ (fun i s₂ h₂=>?_) fun _ _ x=>x) fun _ _ x=>x)
 obtain⟨hT,h₂⟩:=h₂
 unfold subscriptTail
 refine wpAny_bind ?_
 rw[getitemInPython_of_ne hT.not_modules]
 refine wpAny_bind (wpAny_specialOf hT hl ?_)
 have fin:wpAny (model prog w) A (subscripted slice false o i) (fun r s₃=>wpAny (model prog w) A (letTemporaryGo value o r >>= fun _=>pure r) Q E s₃) E s₂:=by
  rw[hs o i]
  exact wpAny_operating (wpAny_mono h₂ (fun r s₃ h₃=>wpAny_bind (wpAny_letTemporaryGo (wpAny_pure h₃))) fun _ _ x=>x)
 first
  |exact wpAny_pure (wpAny_bind fin)
  |exact wpAny_bind (wpAny_pure (wpAny_bind fin))
  |exact wpAny_bind fin
theorem dict_typeIs {X:Cx}{pins:List (Addr×Obj)}{σ:St}{H:Hp}{s:Shared}{a:Addr}{y:V}{o:Option V}(I:Inv X pins σ H s)(g:DGet H a y o):s.TypeIs (.ref a) "dict":=by
 rcases g with⟨kvs,k,e,_,_⟩ | ⟨kvs,k,b,e,_,_,_⟩
 ·obtain⟨_,_,vs,_,dd⟩:=dk_rd I.hok e
  exact dd.typeIs
 ·obtain⟨_,_,xs,_,dd⟩:=dt_rd I.hok e
  exact dd.typeIs
def tDGet (td ty:TE):TE:=fun σ H Q=>td σ H fun x H1=>ty σ H1 fun y H2=>∃a v,x=.ref a∧DGet H2 a y (some v)∧Q v H2
def tDNotIn (ty td:TE):TE:=fun σ H Q=>ty σ H fun y H1=>td σ H1 fun x H2=>∃a o,x=.ref a∧DGet H2 a y o∧Q (.bl (!o.isSome)) H2
def sDPut (td ty tv:TE):TS:=fun D σ H=>tv σ H fun v H1=>td σ H1 fun x H2=>ty σ H2 fun y H3=>∃a H4,x=.ref a∧DPut H3 a y v H4∧D.nx σ H4
section
variable {X:Cx}{o i e value:Expr}{pos pos' tpos:Pos}{td ty tv:TE}
theorem pe_dget (hu:X.A.units+1<cLine)(ho:PE X o td)(hi:PE X i ty)(hs:NoSl i):PE X (.Subscript o i pos) (tDGet td ty):=by
 intro pins s σ H Q I h
 refine subD_of PySem.F.slot_dict_getitem.lookup hs (thn (ho pins s σ H _ I h) fun u s1 ⟨x,H1,I1,rx,q1⟩=>thn (hi pins s1 σ H1 _ I1 q1) fun iv s2 ⟨y,H2,I2,ry,a,v,ex,g,q2⟩=>?_)
 subst ex
 obtain rfl:u=Value.ref a:=rx
 exact⟨dict_typeIs I2 g,d_getItem hu I2 g ry fun w' s3 I3 rw'=>⟨v,H2,I3,rw',q2⟩⟩
theorem pc_dnotin (hu:X.A.units+1<cLine)(hi:PE X i ty)(ho:PE X o td):PC X .NotIn i o (tDNotIn ty td):=by
 intro pins s σ H Q I h
 refine thn (hi pins s σ H _ I h) fun iv s1 ⟨y,H1,I1,ry,q1⟩=>thn (ho pins s1 σ H1 _ I1 q1) fun u s2 ⟨x,H2,I2,rx,a,ov,ex,g,q2⟩=>?_
 subst ex
 obtain rfl:u=Value.ref a:=rx
 exact d_notIn hu I2 g ry fun s3 I3=>⟨.bl (!ov.isSome),H2,I3,rfl,q2⟩
theorem ps_dput (hu:X.A.units+1<cLine)(ho:PE X o td)(hi:PE X i ty)(hv:PE X value tv)(hs:swapsWith value (some (.Subscript o i pos')) pos.line X.env=pure false) :
 PS X (.Assign [.Subscript o i pos'] value pos) (sDPut td ty tv):=by
 intro pins s σ H D I h
 refine wpAny_Assign_Subscript (thn (hv pins s σ H _ I h) fun r s1 ⟨v,H1,I1,rv,q1⟩=>thn (ho pins s1 σ H1 _ I1 q1) fun u s2 ⟨x,H2,I2,rx,q2⟩=>thn (hi pins s2 σ H2 _ I2 q2) fun iv s3 ⟨y,H3,I3,ry,a,H4,ex,g,q3⟩=>?_) hs
 subst ex
 obtain rfl:u=Value.ref a:=rx
 exact d_setItem hu I3 g ry rv fun s4 I4=>⟨σ,H4,I4,q3⟩
end
theorem dk_empty {P:Program}{w:World}{H:Hp}(h:Heap)(hb:sysModules<h.objs.size):ObjOk P w H (h.push {cls:=.type "dict",data:=.dict #[]}) h.objs.size (.dK []):=
 ⟨Nat.zero_le _,beq_eq_false_iff_ne.mpr (Ne.symm (Nat.ne_of_lt hb)),[],.nil,Heap.DictOf.new h⟩
def tDNewK:TE:=fun _ H Q=>∀p,H p=none→Q (.ref p) (upd H p (.dK []))
section
variable {X:Cx}{pos:Pos}
theorem pe_dnewK:PE X (.Dict [] [] pos) tDNewK:=fun pins s σ H Q I h=>
 wpAny_Dict_empty ⟨.ref s.heap.objs.size,_,I.laid (a:=s.heap.objs.size) (o:=.dK []) (t':=s.toks) (fun _ _ q=>get?_push_of_some _ q) (Nat.le_refl _) (dk_empty s.heap I.big),rfl,h _ (I.hok.fresh (Nat.le_refl _))⟩
end
section
variable {X:Cx}
theorem items_zipL {K:W.Frag}{a b:Addr}{xs ys:List V}{H1:Hp}(h:H1 a=some (.lst xs))(h':H1 b=some (.lst ys))(i:Nat)(H:Hp)(s:Same H1 H) :
 (i<min xs.length ys.length→(Itz false K a b).go i H∧∀v H2,(Itz false K a b).yld i H v H2→Same H H2∧∃p x y,v=.ref p∧H2 p=some (.tup [x,y])∧xs[i]?=some x∧ys[i]?=some y)∧(min xs.length ys.length≤i→(Itz false K a b).stop i H):=by
 have q:SqK false K H a xs:=SqL.of (s _ _ h)
 have q':SqK false K H b ys:=SqL.of (s _ _ h')
 refine⟨fun hi=>⟨⟨xs,ys,xs[i]'(by omega),ys[i]'(by omega),q,q',List.getElem?_eq_getElem (by omega),List.getElem?_eq_getElem (by omega)⟩,fun v H2 ⟨p,x,y,e1,e2,e3,e4,e5⟩=>?_⟩,fun hi=>⟨xs,ys,q,q',?_⟩⟩
 ·subst e3
  exact⟨same_new e2 _,p,x,y,e1,upd_same,e4 xs q,e5 ys q'⟩
 ·by_cases hx:xs.length≤i
  ·exact .inl (List.getElem?_eq_none hx)
  ·exact .inr (List.getElem?_eq_none (by omega))
end
end L2
namespace BB
def nx:Int→List Int→Int
 |x,[]=>x
 |x,q::R=>if q<x then nx x R else if q=x then nx (x+1) R else x
def emp:Nat→Int→List Int→List Int
 |0,_,_=>[]
 |n+1,b,R=>nx b R::emp n (nx b R+1) R
theorem rise_ext:∀{x y:List Int},x.Pairwise (· < ·)→y.Pairwise (· < ·)→(∀a,a∈x↔a∈y)→x=y
 |[],[],_,_,_=>rfl
 |[],b::y,_,_,h=>absurd ((h b).mpr (mem_cons_self ..)) (by simp)
 |a::x,[],_,_,h=>absurd ((h a).mp (mem_cons_self ..)) (by simp)
 |a::x,b::y,hx,hy,h=>by
  obtain⟨x1,x2⟩:=pairwise_cons.mp hx
  obtain⟨y1,y2⟩:=pairwise_cons.mp hy
  have e:a=b:=by
   rcases mem_cons.mp ((h a).mp (mem_cons_self ..)) with z | z
   ·exact z
   ·rcases mem_cons.mp ((h b).mpr (mem_cons_self ..)) with w | w
    ·exact w.symm
    ·have:=y1 a z;have:=x1 b w;omega
  subst e
  congr 1
  refine rise_ext x2 y2 fun c=>⟨fun hc=>?_,fun hc=>?_⟩
  ·rcases mem_cons.mp ((h c).mp (mem_cons_of_mem _ hc)) with z | z
   ·have:=x1 c hc;omega
   ·exact z
  ·rcases mem_cons.mp ((h c).mpr (mem_cons_of_mem _ hc)) with z | z
   ·have:=y1 c hc;omega
   ·exact z
structure At (z:Nat)(all R bh ks:List Int)(L:Nat)(box:Int):Prop where
 eq:bh++sp z L box R=step z all
 cnt:bh.length+L+R.length=z
 lo:∀x∈bh,x<box
 ge:∀x∈R,box≤x
 up:R.Pairwise (· < ·)
 mem:∀x,x∈ks↔x∈bh∨x∈emp L box R∨x∈R
end BB
namespace L2
structure Nb3 (mg:Str→Option Value):Prop extends Nb2 mg where
 dict:mg "dict" = none
 sorted:mg "sorted" = none
theorem hu1 {k:Nat}{A:Around}(r:Room k A):A.units+1<cLine:=by have:=r.units;omega
theorem comp_tups {J:It}{g:TG}{te:TE}{Q:VK}{D:Addr}{H1:Hp}{σ0:St}(n:Nat)(hn:n≤sizeLine)(f:Nat→List V)(Sg:St→Prop)(itm:Nat→Hp→V→Prop)(hD:H1 D=none)(s0:Sg σ0)
 (items:∀i H,Same H1 H→(i<n→J.go i H∧∀x H2,J.yld i H x H2→Same H H2∧itm i H2 x)∧(n≤i→J.stop i H))
 (step:∀i x σ' H,i<n→Same H1 H→itm i H x→Sg σ'→∀R:St→V→Hp→Prop,(∀σ3 p H5,Sg σ3→Same H H5→H5 p=some (.tup (f i))→R σ3 (.ref p) H5)→g x σ' H fun σ3 H3=>te σ3 H3 (R σ3))
 (fin:∀H' ys,Same H1 H'→H' D=some (.lst ys)→ys.length=n→(∀(j:Nat) (y:V),ys[j]?=some y→∃p,y=.ref p∧H' p=some (.tup (f j)))→Q (.ref D) H') :
 cmpW J g tYes te Q D σ0 H1:=by
 refine⟨fun i m σ H=>m=n - i∧i≤n∧Sg σ∧Same H1 H∧∃ys,H D=some (.lst ys)∧ys.length=i∧∀(j:Nat) (y:V),ys[j]?=some y→∃p,y=.ref p∧H p=some (.tup (f j)),⟨n,by omega,Nat.zero_le _,s0,(Same.refl H1).upd_free hD _,[],upd_same,rfl,fun j y h=>by cases h⟩,?_⟩
 rintro i m σ H ⟨rfl,hi,hs,sm,ys,hd,hl,hy⟩
 by_cases hlt:i<n
 ·obtain⟨go,yl⟩:=(items i H sm).1 hlt
  refine .inr ⟨go,fun x H2 y=>?_⟩
  obtain⟨s2,im⟩:=yl x H2 y
  have key:=step i x σ H2 hlt (sm.trans s2) im hs (fun σ3 y H5=>∃ys,H5 D=some (.lst ys)∧ys.length<sizeLine∧∃m',m'<n - i∧(m'=n - (i+1)∧i+1≤n∧Sg σ3∧Same H1 (upd H5 D (.lst (ys++[y])))∧∃zs,(upd H5 D (.lst (ys++[y]))) D=some (.lst zs)∧zs.length=i+1∧∀(j:Nat) (u:V),zs[j]?=some u→∃p,u=.ref p∧(upd H5 D (.lst (ys++[y]))) p=some (.tup (f j)))) fun σ3 p H5 g3 s5 ep=>by
   refine⟨ys,s5 _ _ (s2 _ _ hd),by omega,n - (i+1),by omega,rfl,by omega,g3,(sm.trans (s2.trans s5)).upd_free hD _,ys++[.ref p],upd_same,by rw[length_append,length_singleton,hl],fun j u hu=>?_⟩
   have dd:=s5 _ _ (s2 _ _ hd)
   by_cases c:j<ys.length
   ·rw[getElem?_append_left c]at hu
    obtain⟨p',e1,e2⟩:=hy j u hu
    have e3:=s5 _ _ (s2 _ _ e2)
    exact⟨p',e1,by rw[upd_ne (ne_of e3 dd (by intro z;cases z))];exact e3⟩
   ·have ej:j=i:=by
     have:=(List.getElem?_eq_some_iff.mp hu).1
     rw[length_append,length_singleton]at this
     omega
    subst ej
    rw[getElem?_append_right (by omega),hl,Nat.sub_self]at hu
    have eu:u=.ref p:=by simpa using hu.symm
    exact⟨p,eu,by rw[upd_ne (ne_of ep dd (by intro z;cases z))];exact ep⟩
  have e:(fun(σ3:St) (H3:Hp)=>te σ3 H3 fun y H5=>∃ys,H5 D=some (.lst ys)∧ys.length<sizeLine∧∃m',m'<n - i∧(m'=n - (i+1)∧i+1≤n∧Sg σ3∧Same H1 (upd H5 D (.lst (ys++[y])))∧∃zs,(upd H5 D (.lst (ys++[y]))) D=some (.lst zs)∧zs.length=i+1∧∀(j:Nat) (u:V),zs[j]?=some u→∃p,u=.ref p∧(upd H5 D (.lst (ys++[y]))) p=some (.tup (f j)))) =
   fun(σ3:St) (H3:Hp)=>tYes σ3 H3 fun ok H4=>if ok=true then te σ3 H4 fun y H5=>∃ys,H5 D=some (.lst ys)∧ys.length<sizeLine∧∃m',m'<n - i∧(m'=n - (i+1)∧i+1≤n∧Sg σ3∧Same H1 (upd H5 D (.lst (ys++[y])))∧∃zs,(upd H5 D (.lst (ys++[y]))) D=some (.lst zs)∧zs.length=i+1∧∀(j:Nat) (u:V),zs[j]?=some u→∃p,u=.ref p∧(upd H5 D (.lst (ys++[y]))) p=some (.tup (f j)))
    else ∃m',m'<n - i∧(m'=n - (i+1)∧i+1≤n∧Sg σ3∧Same H1 H4∧∃zs,H4 D=some (.lst zs)∧zs.length=i+1∧∀(j:Nat) (u:V),zs[j]?=some u→∃p,u=.ref p∧H4 p=some (.tup (f j))):=by
   funext σ3 H3
   unfold tYes
   dsimp only
   rw[if_pos rfl]
  rw[←e]
  exact key
 ·have e:i=n:=by omega
  subst e
  exact .inl ⟨(items i H sm).2 (Nat.le_refl _),fin H ys sm hd hl hy⟩
end L2
namespace BB
def tkn (z:Nat):Nat→Int→List Int→Nat
 |_,_,[]=>0
 |L,box,p::r=>if L - min L (p - box).toNat<z then tkn z (L - min L (p - box).toNat+1) (p+1) r+1 else tkn z (L - min L (p - box).toNat) (p+1) r
theorem load_gap {L:Nat}{d:Int}(h:0≤d):(if d<(L:Int) then d else(L:Int))=((min L d.toNat:Nat):Int):=by
 obtain⟨n,rfl⟩:=Int.eq_ofNat_of_zero_le h
 rw[Int.toNat_natCast]
 split
 ·rename_i c
  rw[Nat.min_eq_right (Int.ofNat_le.mp (Int.le_of_lt c))]
 ·rename_i c
  rw[Nat.min_eq_left (Int.ofNat_le.mp (Int.not_lt.mp c))]
def taken (z:Nat)(r:List Int):Nat:=tkn z 0 (r.headD 0) r
theorem tkn_le (z:Nat):∀(R:List Int) (L:Nat) (box:Int),tkn z L box R≤R.length
 |[],_,_=>Nat.le_refl 0
 |p::r,L,box=>by
  unfold tkn
  rw[length_cons]
  split
  ·have:=tkn_le z r (L - min L (p - box).toNat+1) (p+1);omega
  ·have:=tkn_le z r (L - min L (p - box).toNat) (p+1);omega
end BB
namespace L2
section
variable {X:Cx}
def rNeNil (K:W.Frag):R2:=fun x y H Q=>∃(a b:Addr) (xs:List V),x=.ref a∧y=.ref b∧SqL K H a xs∧SqL K H b []∧Q (.bl (!xs.isEmpty)) H
theorem op_neNil (hu:X.A.units<cLine):OpR X (compareOp .NotEq) (rNeNil X.K):=by
 intro pins s σ H x y v u Q I rx ry h
 obtain⟨a,b,xs,rfl,rfl,ha,hb,q⟩:=h
 cases rx
 cases ry
 obtain⟨its,r1,p1,_⟩:=I.list ha
 obtain⟨its2,r2,p2,_⟩:=I.list hb
 cases r2
 cases r1 with
 |nil=>
  refine of_rcne' (SeqAt.RcNeAt.lists (e:=fun _=>true) p1.isList p2.isList rfl hu (fun j h1=>absurd h1 (by simp))) ?_
  exact⟨.bl false,H,I,rfl,q⟩
 |cons h t=>
  refine of_rcne' (SeqAt.RcNeAt.lists_lengths p1.isList p2.isList (by simp) hu) ?_
  exact⟨.bl true,H,I,rfl,q⟩
end
abbrev TJ:=Str→St→Hp→VK→Prop
def PJ (X:Cx)(es:List Expr)(t:TJ):Prop:=
 ∀(out:Str) (pins:List (Addr×Obj)) (s:Shared) (σ:St) (H:Hp) (Q:VK),Inv X pins σ H s→t out σ H Q→wpAny (model X.prog X.w) X.A (joinParts out (evalEach es X.env)) (EP X pins σ Q) X.xe s
section
variable {X:Cx}{e:Expr}{es:List Expr}{te:TE}{t:TJ}{pos:Pos}
def jNil:TJ:=fun out _ H Q=>out.length≤sizeLine∧Q (.str out) H
def jStr (y:Str)(t:TJ):TJ:=fun out σ H Q=>(out++y).length≤sizeLine∧t (out++y) σ H Q
def jInt (te:TE)(t:TJ):TJ:=fun out σ H Q=>te σ H fun x H1=>∃i:Int,x=.int i∧i.natAbs.log2<1920∧(out++(toString i:Str)).length≤sizeLine∧t (out++(toString i:Str)) σ H1 Q
theorem pj_nil:PJ X [] jNil:=by
 intro out pins s σ H Q I h
 obtain⟨hz,q⟩:=h
 exact joinParts_nil ⟨.str out,H,I.tok _,⟨_,rfl⟩,q⟩ hz
theorem pj_str {y:Str}{j:Nat}(hr:PJ X es t):PJ X (.Constant (.str y) j pos::es) (jStr y t):=by
 intro out pins s σ H Q I h
 obtain⟨hz,q⟩:=h
 show wpAny _ _ (joinParts out (eval (.Constant (.str y) j pos) X.env::evalEach es X.env)) _ _ _
 refine joinParts_cons (Calls.Constant_str ?_)
 exact⟨hz,hr (out++y) pins _ σ H Q (I.tok _) q⟩
theorem pj_int (he:PE X e te)(hr:PJ X es t):PJ X (.FormattedValue e (-1) none pos::es) (jInt te t):=by
 intro out pins s σ H Q I h
 show wpAny _ _ (joinParts out (eval (.FormattedValue e (-1) none pos) X.env::evalEach es X.env)) _ _ _
 refine joinParts_cons (FormattedValue_plain (thn (he pins s σ H _ I h) fun u s1 ⟨x,H1,I1,rx,i,ex,hd,hz,q⟩=>?_))
 subst ex
 obtain⟨tk,rfl⟩:=int_val rx
 refine formatField_int_small hd ?_
 exact⟨hz,hr _ pins _ σ H1 Q (I1.tok _) q⟩
def tJoin (t:TJ):TE:=fun σ H Q=>t Str.empty σ H Q
theorem pe_fstr {e1 e2:Expr}(h:PJ X (e1::e2::es) t):PE X (.JoinedStr (e1::e2::es) pos) (tJoin t):=by
 intro pins s σ H Q I hq
 exact JoinedStr_many (h Str.empty pins s σ H Q I hq)
end
def lessOf:List Addr→Heap→Heap
 |[],h=>h
 |a::S,h=>(lessOf S h).update a fun o=>{o with data:=.freed}
theorem freed_get (h:Heap)(a:Addr):(h.update a fun o=>{o with data:=.freed}).get? a=none:=by
 obtain⟨objs,l⟩:=h
 show Heap.get? ⟨objs.modify a _,l⟩ a=none
 unfold Heap.get?
 simp only[Array.getElem?_modify,if_pos]
 cases objs[a]?<;>rfl
theorem less_in:∀{S:List Addr} {h:Heap} {b:Addr},b∈S→(lessOf S h).get? b=none
 |a::S,h,b,hb=>by
  by_cases e:a=b
  ·subst e;exact freed_get _ _
  ·show((lessOf S h).update a _).get? b=none
   rw[get?_update_other _ _ e]
   exact less_in ((mem_cons.mp hb).resolve_left fun z=>e z.symm)
theorem less_out:∀{S:List Addr} {h:Heap} {b:Addr},b∉S→(lessOf S h).get? b=h.get? b
 |[],_,_,_=>rfl
 |a::S,h,b,hb=>by
  show((lessOf S h).update a _).get? b=_
  rw[get?_update_other _ _ fun z=>hb (by rw[z];exact mem_cons_self),less_out fun z=>hb (mem_cons_of_mem _ z)]
theorem less_some {S:List Addr}{h:Heap}{b:Addr}{o:Obj}(e:(lessOf S h).get? b=some o):b∉S∧h.get? b=some o:=by
 by_cases hb:b∈S
 ·rw[less_in hb]at e;cases e
 ·exact⟨hb,(less_out hb).symm.trans e⟩
theorem less_stays (S:List Addr)(h:Heap):(lessOf S h).StaysIn h:=fun _ _ e=>(less_some e).2
theorem less_frames {S:List Addr}{h base:Heap}:∀{l:List Env},(∀b∈frs l,b∈S)→h.FunFrames base l→h.FunFrames (lessOf S h) l
 |[],_,_=>trivial
 |env::r,hs,⟨hk,⟨L,o,hf,_,ho,hd⟩,hr⟩=>by
  have hm:∀b,b=L∨b∈frs r→b∈S:=fun b hb=>hs b (by unfold frs;rw[filterMap_cons,hf];exact mem_cons.mpr hb)
  exact⟨hk,⟨L,o,hf,less_in (hm L (.inl rfl)),ho,hd⟩,less_frames (fun b hb=>hm b (.inr hb)) hr⟩
def Trc (h:Heap)(e T:Addr)(cls:Value):Prop:=
 ∃oe vs oT ts a0,h.get? e=some oe∧oe.cls=cls∧vs[0]?=some a0∧oe.data=.fields vs∧vs[1]?=some (.ref T)∧T≠e∧h.get? T=some oT∧oT.data=.fields ts∧ts[3]?=some .none
structure Fly (P:Program)(w:World)(outer:List Env)(H:Hp)(s:Shared)(H':Hp)(e:Addr)(cls:Value)(s':Shared):Prop where
 os:s'.os=s.os
 bare:AllBare s'.gens
 un:Un (frs outer) [] H H' s.heap s'.heap
 hok:HOk P w H' s'.heap
 new:s.heap.get? e=none
 free:H' e=none
 tr:∃T,Trc s'.heap e T cls∧s.heap.get? T=none∧H' T=none
def CXF (P:Program)(w:World):CXT:=fun outer H s E v s'=>∃e cls H',v=.ref e∧Fly P w outer H s H' e cls s'∧E cls (some e) H'
section
variable {P:Program}{w:World}{base:Heap}{env:Env}{outer:List Env}{L:Addr}
structure Gone (S:List Addr)(h h':Heap):Prop where
 keep:∀b o,b∉S→h.get? b=some o→h'.get? b=some o
 slot:h.UpToSlots h'
theorem Gone.hok {S:List Addr}{H:Hp}{h h':Heap}(g:Gone S h h')(hS:∀b∈S,H b=none)(x:HOk P w H h):HOk P w H h':=fun b u e=>by
 have ne:∀c u,H c=some u→c∉S:=fun c u q z=>by rw[hS c z]at q;cases q
 refine(x b u e).stay (fun c v hc q=>g.keep c v ?_ q) (fun _ q=>q) fun _ _ q=>q
 rcases hc with rfl | hc
 ·exact ne _ _ e
 ·exact ne _ _ hc
end
theorem ObjOk.live {P:Program}{w:World}{H:Hp}{h:Heap}{a:Addr}{o:HO}(x:ObjOk P w H h a o):∃u,h.get? a=some u:=by
 cases o with
 |lst xs=>exact let⟨_,_,_,_,e⟩:=x;⟨_,e⟩
 |tup xs=>exact let⟨_,_,_,_,e,_⟩:=x;⟨_,e⟩
 |dK kvs=>exact let⟨_,_,_,_,_,_,_,e,_⟩:=x;⟨_,e⟩
 |dT kvs=>exact let⟨_,_,_,_,_,_,_,e,_⟩:=x;⟨_,e⟩
 |set S n=>exact let⟨_,_,_,_,e,_⟩:=x;⟨_,e⟩
 |ins C dx fs=>exact let⟨_,_,_,e,_⟩:=x;⟨_,e⟩
 |own y=>exact x
 |xd fs=>exact let⟨_,⟨_,_,_,e,_⟩,_⟩:=x;⟨_,e⟩
 |rng lo hi=>exact let⟨_,_,_,e⟩:=x;⟨_,e⟩
 |frz ob u=>exact⟨_,x.1⟩
 |tbl ps=>exact⟨_,x⟩
 |met f y=>exact⟨_,x⟩
 |ext φ=>exact x.2.1
theorem HOk.gone {P:Program}{w:World}{H:Hp}{h:Heap}{a:Addr}(x:HOk P w H h)(e:h.get? a=none):H a=none:=by
 cases q:H a with
 |none=>rfl
 |some o=>
  obtain⟨u,z⟩:=(x a o q).live
  rw[e]at z;cases z
section
variable {X:Cx}{pins:List (Addr×Obj)}{σ:St}{H H':Hp}{s s':Shared}{e:Addr}{cls:Value}{Q:Unit→Shared→Prop}{E:Value→Shared→Prop}
structure Own (X:Cx):Prop where
 stk:X.stack=X.env::X.outer
 frm:X.env.frame=some X.env.locals
 ex:X.ex=[]
theorem Inv.flown (I:Inv X pins σ H s)(F:Fly X.prog X.w X.stack H s H' e cls s'):Inv X pins σ H' s':=by
 obtain⟨hh,g,d,t,os'⟩:=s'
 obtain rfl:os'=s.os:=F.os
 exact I.call (h':=hh) (g':=g) (d':=d) (t':=t) (ch:=[]) F.un F.hok F.bare fun b z=>absurd z (by simp)
theorem Gone.fly {S:List Addr}{h':Heap}{T:Addr}(O:Own X)(I:Inv X pins σ H' s')(g:Gone S s'.heap h')(sub:∀b∈S,(X.s₀.heap.get? b=none∧H' b=none)∨b∈frs X.stack)
 (ne:X.s₀.heap.get? e=none) (fe:H' e=none) (tr:Trc h' e T cls) (nT:X.s₀.heap.get? T=none) (fT:H' T=none):Fly X.prog X.w X.outer X.H₀ X.s₀ H' e cls {s' with heap:=h'}:=by
 have fr:∀b∈S,H' b=none:=fun b hb=>(sub b hb).elim (fun z=>z.2) (I.stkFree b)
 have base:=O.ex▸I.base
 have outS:∀b o,X.s₀.heap.get? b=some o→b∉X.fs→b∉S:=fun b o eb nb hb=>by
  rcases sub b hb with z | z
  ·rw[z.1]at eb;cases eb
  ·rcases mem_cons.mp (I.stkSub b z) with q | q
   ·exact absurd (Nat.lt_of_lt_of_le (lt_size eb) I.ok.above) (by rw[q];exact Nat.lt_irrefl _)
   ·exact nb q
 have atF:∀b o,X.s₀.heap.get? b=some o→X.H₀ b=none→b∈X.fs→∃sl,h'.get? b=some {o with slots:=sl}:=fun b o eb n hb=>by
  obtain⟨sl,e1⟩:=base.slot b o eb n hb (by simp)
  obtain⟨_,o',eo,hd⟩:=I.ok.funs.mem hb
  rw[eb]at eo;cases eo
  obtain⟨sl',e2⟩:=g.slot b _ e1 hd
  exact⟨sl',e2⟩
 refine⟨I.os,I.bare,⟨fun b o eb n hb _=>g.keep b o (outS b o eb hb) (base.keep b o eb n hb (by simp)),fun b o eb n hb _=>atF b o eb n hb,base.free,fun b o eb _=>?_,base.tups,base.frzs,base.tbls⟩,g.hok fr I.hok,ne,fe,T,tr,nT,fT⟩
 by_cases hb:b∈X.fs
 ·obtain⟨sl,z⟩:=atF b o eb (I.ok.frf b hb) hb
  exact⟨_,z⟩
 ·obtain⟨o1,e1⟩:=base.there b o eb (by simp)
  exact⟨o1,g.keep b o1 (outS b o eb hb) e1⟩
theorem not_frame {h h':Heap}{base:Heap}{l:List Env}{T:Addr}{o:Obj}{ts:Array Value}(hl:h.FunFrames base l)(up:h.UpToSlots h')(e:h'.get? T=some o)(hd:o.data=.fields ts):T∉frs l:=fun hb=>by
 obtain⟨_,o',eo,nd⟩:=hl.mem hb
 obtain⟨sl,e2⟩:=up T o' eo nd
 rw[e]at e2
 cases e2
 exact nd ts hd
theorem fly_on (O:Own X)(I:Inv X pins σ H s)(F:Fly X.prog X.w X.stack H s H' e cls s')(q:∀h',Fly X.prog X.w X.outer X.H₀ X.s₀ H' e cls {s' with heap:=h'}→Q () {s' with heap:=h'}) :
 wpAny (model X.prog X.w) X.A (leaving X.env (.ref e)) Q E s':=by
 have J:=I.flown F
 obtain⟨T,⟨oe,vs,oT,ts,a0,he,hc,h0,hd,h1,ne,hT,hdT,h3⟩,nT,fT⟩:=F.tr
 have old:∀b,s.heap.get? b=none→X.s₀.heap.get? b=none:=fun b z=>by
  cases q:X.s₀.heap.get? b with
  |none=>rfl
  |some o=>
   obtain⟨o',e'⟩:=I.base.there b o q (by rw[O.ex];simp)
   rw[z]at e';cases e'
 have frames:s'.heap.FunFrames (lessOf (e::T::frs X.stack) s'.heap) X.stack:=less_frames (fun b hb=>mem_cons_of_mem _ (mem_cons_of_mem _ hb)) J.stack
 have fl:Heap.FlyingW (lessOf (e::T::frs X.stack) s'.heap) (X.env::X.outer) e cls a0 s'.heap:=
  ⟨less_stays _ _,less_in (by simp),O.stk▸frames,oe,vs,T,oT,ts,he,⟨hc,h0⟩,hd,h1,less_in (by simp),ne,hT,hdT,h3⟩
 refine wpAny_leaves_onW (O.stk▸I.ok.frames) O.frm fl fun h' f' up=>q h' ?_
 obtain⟨st,_,_,oe',vs',T',oT',ts',he',⟨hc',h0'⟩,hd',h1',nb',ne',hT',hdT',h3'⟩:=f'
 have g:Gone (e::T::frs X.stack) s'.heap h':=⟨fun b o hb eb=>st b o ((less_out hb).trans eb),up⟩
 have tw:T'=T∨s'.heap.get? T'=none:=by
  by_cases hm:T'∈e::T::frs X.stack
  ·rcases mem_cons.mp hm with z | z
   ·exact absurd z ne'
   ·rcases mem_cons.mp z with z | z
    ·exact .inl z
    ·exact absurd z (not_frame J.stack up hT' hdT')
  ·exact .inr ((less_out hm).symm.trans nb')
 refine g.fly (T:=T') O J (fun b hb=>?_) (old e F.new) F.free ⟨oe',vs',oT',ts',a0,he',hc',h0',hd',h1',ne',hT',hdT',h3'⟩ ?_ ?_
 ·rcases mem_cons.mp hb with z | z
  ·exact .inl (z▸⟨old e F.new,F.free⟩)
  ·rcases mem_cons.mp z with z | z
   ·exact .inl (z▸⟨old T nT,fT⟩)
   ·exact .inr z
 ·rcases tw with z | z
  ·exact z▸old T nT
  ·cases q:X.s₀.heap.get? T' with
   |none=>rfl
   |some o=>
    obtain⟨o',e'⟩:=J.base.there T' o q (by rw[O.ex];simp)
    rw[z]at e';cases e'
 ·rcases tw with z | z
  ·exact z▸fT
  ·exact J.hok.gone z
theorem fly_off {args:List Value}{h1:Heap}(O:Own X)(I:Inv X pins σ H s)(M:Heap.MadeExcOf s.heap h1 e cls args)(q:∀h',Fly X.prog X.w X.outer X.H₀ X.s₀ H e cls {s with heap:=h'}→Q () {s with heap:=h'}) :
 wpAny (model X.prog X.w) X.A (leaving X.env (.ref e)) Q E {s with heap:=h1}:=by
 have old:∀b,s.heap.get? b=none→X.s₀.heap.get? b=none:=fun b z=>by
  cases q:X.s₀.heap.get? b with
  |none=>rfl
  |some o=>
   obtain⟨o',e'⟩:=I.base.there b o q (by rw[O.ex];simp)
   rw[z]at e';cases e'
 have frames:s.heap.FunFrames (lessOf (frs X.stack) s.heap) X.stack:=less_frames (fun b hb=>hb) I.stack
 refine wpAny_leaves_madeW (s:={s with heap:=h1}) (h:=s.heap) (base:=lessOf (frs X.stack) s.heap) (O.stk▸I.ok.frames) O.frm (less_stays _ _) (O.stk▸frames) M fun h' t f' _ _ up1=>q h' ?_
 obtain⟨st,nb,_,oe',vs',T',oT',ts',he',⟨hc',h0'⟩,hd',h1',nb',ne',hT',hdT',h3'⟩:=f'
 have up:s.heap.UpToSlots h':=(Heap.UpToSlots.of_keeps M.keeps).trans up1
 have g:Gone (frs X.stack) s.heap h':=⟨fun b o hb eb=>st b o ((less_out hb).trans eb),up⟩
 have tn:s.heap.get? T'=none:=(less_out (not_frame I.stack up hT' hdT')).symm.trans nb'
 exact g.fly (T:=T') O I (fun b hb=>.inr hb) (old e M.new) (I.hok.gone M.new) ⟨oe',vs',oT',ts',_,he',hc',h0',hd',h1',ne',hT',hdT',h3'⟩ (old T' tn) (I.hok.gone tn)
end
abbrev mroV:List Value:=[.type "ValueError",.type "Exception",.type "BaseException",.type "object"]
structure Exc (K:W.Frag)(C:Addr)(bm:List Value):Prop where
 ob:∃(nm q:Str) (N:Addr) (bs:List Value) (hdct:Bool) (sn:List Str) (sub:List Value) (ab:Bool) (col:Option Bool) (dd:Option Addr) (k0 k1 k2 k3 k5:Option Value),
  K.lookup C=some (excClassObj nm q C N bs bm hdct sn sub ab col dd k0 k1 k2 k3 k5 "ValueError.__new__")∧PySem.W.nsOkIn K N=true∧PySem.W.nsIn K N "__init__" = some none
 tl:PySem.W.tailIn K mroV bm=true
 bb:bm.contains (.type "BaseException")=true
 vb:bm.contains (.type "ValueError")=true
section
variable {P:Program}{w:World}{K:W.Frag}{mg:Str→Option Value}{base:Heap}{N:List Str}{qual:Str}{scope:Scope}{f:Addr}{cd:Value}{A:Around}{outer:List Env}{s:Shared}{H:Hp}{E:XK}
theorem own_cx {CX:CXT}:Own (cxOf CX P w K mg base N qual scope f cd A outer s H E):=⟨rfl,rfl,rfl⟩
structure Lvs (X:Cx)(E:XK):Prop where
 own:Own X
 xe:∀e s',wpAny (model X.prog X.w) X.A (leaving X.env e) (fun _ s''=>CXF X.prog X.w X.outer X.H₀ X.s₀ E e s'') (fun e' s''=>CXF X.prog X.w X.outer X.H₀ X.s₀ E e' s'') s'→X.xe e s'
theorem lvs_cx:Lvs (cxOf (CXF P w) P w K mg base N qual scope f cd A outer s H E) E:=⟨own_cx,fun _ _ h=>h⟩
end
section
variable {X:Cx}{E E':XK}
theorem Lvs.pass (L:Lvs X E)(imp:∀c a H,E' c a H→E c a H):Passes (CXF X.prog X.w) X E':=by
 intro pins σ H s v s' I h
 obtain⟨e,cls,H',rfl,F,q⟩:=h
 exact L.xe _ _ (fly_on L.own I F fun h' F'=>⟨e,cls,H',rfl,F',imp _ _ _ q⟩)
def tRaise (E:XK)(C:Addr)(ta:TA):TS:=fun _ σ H=>ta σ H fun vs H1=>vs.length≤sizeLine∧∀e,H1 e=none→E (.ref C) (some e) H1
theorem ps_raise {C:Addr}{bm:List Value}{x:Str}{np cpos pos:Pos}{a:Expr}{es:List Expr}{ta:TA}(L:Lvs X E)(hc:X.calm=true)(hg:Gl X x)(hm:X.mg x=some (.ref C))(ex:Exc X.K C bm)(ha:PA X (a::es) ta)
 (he:starEach (a::es) X.env=(false,eval a X.env)::starEach es X.env:=by rfl) (hpl:(backTo cpos (starEach (a::es) X.env)).any (·.1)=false:=by rfl) (hd:(x==("__debug__" : Str))=false:=by decide) :
 PS X (.Raise (some (.Call (.Name x np) (a::es) [] cpos)) none pos) (tRaise E C ta):=by
 intro pins s σ H D I h
 obtain⟨⟨nm,q,N,bs,hdct,sn,sub,ab,col,dd,k0,k1,k2,k3,k5,lk,nok,nin⟩,tl,bb,vb⟩:=ex
 have KB:=I.ok.mod.kin
 have ns:X.base.Ns N (X.base.nsMap N):=.of_isNs (PySem.W.isNs_of_in KB nok)
 refine wpAny_Raise_call_subT (nm:=nm) (q:=q) (N:=N) (bs:=bs) (bm:=bm) (hdct:=hdct) (sn:=sn) (sub:=sub) (ab:=ab) (col:=col) (dd:=dd) (k0:=k0) (k1:=k1) (k2:=k2) (k3:=k3) (k5:=k5) (mN:=X.base.nsMap N)
  F.excBase_ValueError bb (I.ok.hd hc) hpl (PySem.W.nsMap_none_of_in KB nok nin) (ld_glob I hg hm ⟨rfl,?_⟩ hd)
 have go:=ha cpos pins s σ H _ I h
 rw[he]at go ⊢
 refine Calls.evalArgs_plain (thn go fun us s1 ⟨vs,H1,I1,r,hz,q1⟩=>?_)
 refine⟨rfl,by rw[←r.length];exact hz,I1.kIn _ _ lk,ns.keeps I1.bk,PySem.W.tail_of_in I1.kIn tl,fun h' e M=>L.xe _ _ ?_⟩
 exact fly_off L.own I1 M fun h2 F=>⟨e,.ref C,H1,rfl,F,q1 e (I1.hok.gone M.new)⟩
end
section
variable {X:Cx}{pins:List (Addr×Obj)}{σ:St}{H H':Hp}{s s':Shared}{e T:Addr}{cls:Value}{S:List Addr}{h':Heap}
theorem Gone.on (I:Inv X pins σ H s)(F:Fly X.prog X.w X.stack H s H' e cls s')(g:Gone S s'.heap h')(sub:∀b∈S,(s.heap.get? b=none∧H' b=none)∨b∈frs X.stack)
 (tr:Trc h' e T cls) (nT:s.heap.get? T=none) (fT:H' T=none):Fly X.prog X.w X.stack H s H' e cls {s' with heap:=h'}:=by
 have J:=I.flown F
 have fr:∀b∈S,H' b=none:=fun b hb=>(sub b hb).elim (fun z=>z.2) (J.stkFree b)
 have outS:∀b o,s.heap.get? b=some o→b∉frs X.stack→b∉S:=fun b o eb nb hb=>by
  rcases sub b hb with z | z
  ·rw[z.1]at eb;cases eb
  ·exact nb z
 have atF:∀b o,s.heap.get? b=some o→H b=none→b∈frs X.stack→∃sl,h'.get? b=some {o with slots:=sl}:=fun b o eb n hb=>by
  obtain⟨sl,e1⟩:=F.un.slot b o eb n hb (by simp)
  obtain⟨_,o',eo,hd⟩:=I.stack.mem hb
  rw[eb]at eo;cases eo
  obtain⟨sl',e2⟩:=g.slot b _ e1 hd
  exact⟨sl',e2⟩
 refine⟨F.os,F.bare,⟨fun b o eb n hb _=>g.keep b o (outS b o eb hb) (F.un.keep b o eb n hb (by simp)),fun b o eb n hb _=>atF b o eb n hb,F.un.free,fun b o eb _=>?_,F.un.tups,F.un.frzs,F.un.tbls⟩,g.hok fr F.hok,F.new,F.free,T,tr,nT,fT⟩
 by_cases hb:b∈frs X.stack
 ·obtain⟨sl,z⟩:=atF b o eb (I.stkFree b hb) hb
  exact⟨_,z⟩
 ·obtain⟨o1,e1⟩:=F.un.there b o eb (by simp)
  exact⟨o1,g.keep b o1 (outS b o eb hb) e1⟩
theorem fly_base (I:Inv X pins σ H s)(F:Fly X.prog X.w X.stack H s H' e cls s'):∃(T:Addr) (a0:Value),Heap.FlyingW (lessOf (e::T::frs X.stack) s'.heap) X.stack e cls a0 s'.heap∧
 ∀h',Heap.FlyingW (lessOf (e::T::frs X.stack) s'.heap) X.stack e cls a0 h'→s'.heap.UpToSlots h'→Fly X.prog X.w X.stack H s H' e cls {s' with heap:=h'}:=by
 have J:=I.flown F
 obtain⟨T,⟨oe,vs,oT,ts,a0,he,hc,h0,hd,h1,ne,hT,hdT,h3⟩,nT,fT⟩:=F.tr
 refine⟨T,a0,⟨less_stays _ _,less_in (by simp),less_frames (fun b hb=>mem_cons_of_mem _ (mem_cons_of_mem _ hb)) J.stack,oe,vs,T,oT,ts,he,⟨hc,h0⟩,hd,h1,less_in (by simp),ne,hT,hdT,h3⟩,fun h' f' up=>?_⟩
 obtain⟨st,_,_,oe',vs',T',oT',ts',he',⟨hc',h0'⟩,hd',h1',nb',ne',hT',hdT',h3'⟩:=f'
 have g:Gone (e::T::frs X.stack) s'.heap h':=⟨fun b o hb eb=>st b o ((less_out hb).trans eb),up⟩
 have tw:T'=T∨s'.heap.get? T'=none:=by
  by_cases hm:T'∈e::T::frs X.stack
  ·rcases mem_cons.mp hm with z | z
   ·exact absurd z ne'
   ·rcases mem_cons.mp z with z | z
    ·exact .inl z
    ·exact absurd z (not_frame J.stack up hT' hdT')
  ·exact .inr ((less_out hm).symm.trans nb')
 refine g.on (T:=T') I F (fun b hb=>?_) ⟨oe',vs',oT',ts',a0,he',hc',h0',hd',h1',ne',hT',hdT',h3'⟩ ?_ ?_
 ·rcases mem_cons.mp hb with z | z
  ·exact .inl (z▸⟨F.new,F.free⟩)
  ·rcases mem_cons.mp z with z | z
   ·exact .inl (z▸⟨nT,fT⟩)
   ·exact .inr z
 ·rcases tw with z | z
  ·exact z▸nT
  ·cases q:s.heap.get? T' with
   |none=>rfl
   |some o=>
    obtain⟨o',e'⟩:=F.un.there T' o q (by simp)
    rw[z]at e';cases e'
 ·rcases tw with z | z
  ·exact z▸fT
  ·exact J.hok.gone z
variable {A:Around}{M:Model}{E:Value→Shared→Prop}{Q:Unit→Shared→Prop}
theorem fly_seen (O:Own X)(I:Inv X pins σ H s)(F:Fly X.prog X.w X.stack H s H' e cls s')(hA:A.frames=some X.stack)
 (q:∀h',Fly X.prog X.w X.stack H s H' e cls {s' with heap:=h'}→Q () {s' with heap:=h'}) :
 wpAny M A (noteFrame (.ref e) X.env) (fun _ s2=>wpAny M A (setFlight (.ref e) none) Q E s2) E s':=by
 obtain⟨T,a0,fl,back⟩:=fly_base I F
 rw[O.stk]at fl hA
 refine wpAny_looks_onW hA O.frm fl fun h1 held up1=>wpAny_landsW (s:={s' with heap:=h1}) held fun h2 fl2 up2=>q h2 (back h2 ?_ (up1.trans up2))
 rw[O.stk]
 exact fl2
theorem fly_land (I:Inv X pins σ H s)(F:Fly X.prog X.w X.stack H s H' e cls s')(q:∀h',Fly X.prog X.w X.stack H s H' e cls {s' with heap:=h'}→Q () {s' with heap:=h'}) :
 wpAny M A (setFlight (.ref e) none) Q E s':=by
 obtain⟨T,a0,fl,back⟩:=fly_base I F
 exact lands_againW fl fun h2 fl2 up2=>q h2 (back h2 fl2 up2)
end
section
variable {M:Model}{A:Around}{E:Value→Shared→Prop}{h:Heap}{g:Array GenState}{d:Drawn}{t:Nat}{os:OsState}{e C C0:Addr}{oe:Obj}{Q:Bool→Shared→Prop}
variable {nm q:Str}{N:Addr}{bs bm:List Value}{hdct:Bool}{sn:List Str}{sub:List Value}{ab:Bool}{col:Option Bool}{dd:Option Addr}{k0 k1 k2 k3 k5:Option Value}{ni:String}
variable {nm' q':Str}{N':Addr}{bs' bm':List Value}{hdct':Bool}{sn':List Str}{sub':List Value}{ab':Bool}{col':Option Bool}{dd':Option Addr}{k0' k1' k2' k3' k5':Option Value}{ni':String}
theorem match_own (hC:h.get? C=some (excClassObj nm q C N bs bm hdct sn sub ab col dd k0 k1 k2 k3 k5 ni))(h0:h.get? C0=some (excClassObj nm' q' C0 N' bs' bm' hdct' sn' sub' ab' col' dd' k0' k1' k2' k3' k5' ni'))
 (hb:bm'.contains (.type "BaseException")=true) (he:h.get? e=some oe) (hcls:oe.cls=.ref C) (hin:(Value.ref C::bm).contains (.ref C0)=true) (hq:Q true ⟨h,g,d,t,os⟩) :
 wpAny M A (excMatches (.ref e) (.ref C0)) Q E ⟨h,g,d,t,os⟩:=by
 have hB:(Value.ref C0::bm').contains (.type "BaseException")=true:=by rw[List.contains_cons,hb,Bool.or_true]
 have f:=tc_notTuple
 obtain⟨c,dc,dt,sl⟩:=oe
 simp only at hcls
 subst hcls
 have s0:∀{Q:Bool→Shared→Prop} {E:Value→Shared→Prop},Q true ⟨h,g,d,t,os⟩→wpAny M A (isSubtype (.ref C0) (.type "BaseException")) Q E ⟨h,g,d,t,os⟩:=fun z=>wpAny_isSubtype_exc h0 (by rw[hB];exact z)
 have s1:∀{Q:Bool→Shared→Prop} {E:Value→Shared→Prop},Q true ⟨h,g,d,t,os⟩→wpAny M A (isSubtype (.ref C) (.ref C0)) Q E ⟨h,g,d,t,os⟩:=fun z=>wpAny_isSubtype_exc hC (by rw[hin];exact z)
 wp_walk using s0,s1
 exact hq
end
section
variable {prog:Program}{w:World}{A:Around}{E:Value→Shared→Prop}{K:W.Frag}{h:Heap}{g:Array GenState}{d:Drawn}{t:Nat}{os:OsState}{e C:Addr}{dc:Option Addr}{vs:Array Value}{sl:Array (Option Value)}
theorem exc_class {Q:Option Value→Shared→Prop}(X:K.In h)(he:h.get? e=some ⟨.ref C,dc,.fields vs,sl⟩)
 (l1:PySem.W.findIn K (.ref C) "__getattribute__" = some (some (.builtin "BaseException.__getattribute__"))) (l2:PySem.W.findIn K (.ref C) "__class__" = some (some (.builtin "object.__class__")))
 (l3:PySem.W.findIn K (.ref C) "__getattr__" = some none) (l4:PySem.W.subIn K (.ref C) (.type "BaseException")=some true) (l5:PySem.W.subIn K (.ref C) (.type "object")=some true)
 (q:Q (some (.ref C)) ⟨h,g,d,t+1,os⟩):wpAny (model prog w) A (getAttr? (.ref e) "__class__") Q E ⟨h,g,d,t,os⟩:=by
 have L1:∀{A} {Q:Option Value→Shared→Prop} {E:Value→Shared→Prop} {t},Q (some (.builtin "BaseException.__getattribute__")) ⟨h,g,d,t,os⟩→wpAny (model prog w) A (typeLookup (.ref C) "__getattribute__") Q E ⟨h,g,d,t,os⟩:=fun z=>(PySem.W.looks_findIn X l1).at z
 have L2:∀{A} {Q:Option Value→Shared→Prop} {E:Value→Shared→Prop} {t},Q (some (.builtin "object.__class__")) ⟨h,g,d,t,os⟩→wpAny (model prog w) A (typeLookup (Obj.mk (.ref C) dc (.fields vs) sl).cls "__class__") Q E ⟨h,g,d,t,os⟩:=fun z=>(PySem.W.looks_findIn X l2).at z
 have L3:∀{A} {Q:Option Value→Shared→Prop} {E:Value→Shared→Prop} {t},Q none ⟨h,g,d,t,os⟩→wpAny (model prog w) A (typeLookup (Obj.mk (.ref C) dc (.fields vs) sl).cls "__getattr__") Q E ⟨h,g,d,t,os⟩:=fun z=>(PySem.W.looks_findIn X l3).at z
 have bnd:=F.attr_ValueError.ga.bind (.ref e)
 have L4:∀{A} {Q:Bool→Shared→Prop} {E:Value→Shared→Prop} {t},Q true ⟨h,g,d,t,os⟩→wpAny (model prog w) A (isSubtype (Obj.mk (.ref C) dc (.fields vs) sl).cls (.type "BaseException")) Q E ⟨h,g,d,t,os⟩:=fun z=>(PySem.W.looks_subIn X l4).at z
 wp_walk using L1,L3
 refine codeAny_call_builtin F.attr_ValueError.ga.plain F.entry_bexc_ga ?_
 have ar:=F.args_bexc_ga (.ref e) (.str (Str.ofString "__class__") t)
 unfold checkBuiltinCall
 rw[show builtinKind "BaseException.__getattribute__" = some .slot by decide +kernel,show splitId "BaseException.__getattribute__" = some ("BaseException","__getattribute__") by decide +kernel]
 have f5:=F.typeOf_object_class
 have f6:=F.slot_gs_get.lookup
 have f7:=F.slot_gs_set.lookup
 have f8:=F.owner_object_class
 have L5:∀{A} {Q:Bool→Shared→Prop} {E:Value→Shared→Prop} {t},Q true ⟨h,g,d,t,os⟩→wpAny (model prog w) A (isSubtype (Obj.mk (.ref C) dc (.fields vs) sl).cls (.type (".".intercalate ("object.__class__".cutAt '.').dropLast))) Q E ⟨h,g,d,t,os⟩:=fun z=>by
  rw[f8];exact(PySem.W.looks_subIn X l5).at z
 wp_walk using L4,L2
 refine codeAny_call_builtin F.slot_gs_get.plain F.entry_gs_get ?_
 refine F.slot_gs_get.check _ _ _ _ _ _ _ _ f5 (F.args_gs_get _ _ _) ?_
 wp_walk using L5
 refine⟨Code.quiet_builtin _ (by decide +kernel),?_⟩
 refine codeAny_builtin F.entry_object_class ?_
 wp_walk
 exact q
end
structure ExcF (K:W.Frag)(C:Addr)(bm:List Value):Prop extends Exc K C bm where
 l1:PySem.W.findIn K (.ref C) "__getattribute__" = some (some (.builtin "BaseException.__getattribute__"))
 l2:PySem.W.findIn K (.ref C) "__class__" = some (some (.builtin "object.__class__"))
 l3:PySem.W.findIn K (.ref C) "__getattr__" = some none
 l4:PySem.W.subIn K (.ref C) (.type "BaseException")=some true
 l5:PySem.W.subIn K (.ref C) (.type "object")=some true
def IsExc (e C:Addr)(h:Heap):Prop:=∃dc vs sl,h.get? e=some ⟨.ref C,dc,.fields vs,sl⟩
abbrev ExcO (e C:Addr):HO:=.ext (IsExc e C)
theorem excO_ok {P:Program}{w:World}{H:Hp}{h:Heap}{e C:Addr}(x:IsExc e C h):ObjOk P w H h e (ExcO e C):=by
 refine⟨x,?_,fun h1 h2 ⟨dc,vs,sl,z⟩ k=>⟨dc,vs,sl,k _ z⟩⟩
 obtain⟨dc,vs,sl,z⟩:=x
 exact⟨_,z⟩
theorem kitx_exc {K:W.Frag}{e C:Addr}{bm:List Value}(F:ExcF K C bm):PySem.W.KitX K (.ref e) (.ref C) (IsExc e C):=by
 obtain⟨⟨⟨nm,q,N,bs,hdct,sn,sub,ab,col,dd,k0,k1,k2,k3,k5,lk,_,_⟩,_,_,_⟩,l1,l2,l3,l4,l5⟩:=F
 refine⟨fun M h X ⟨dc,vs,sl,z⟩ A Q E s k hq=>?_,fun M h X _ A Q E s k hq=>?_,fun h tp dd' its n sl X htp=>?_,fun{prog w A E Q s} X ⟨dc,vs,sl,z⟩ hq=>?_⟩
 ·obtain⟨hp,g,d,t,os⟩:=s
  have z':=k _ _ z
  wp_walk
  exact hq
 ·obtain⟨hp,g,d,t,os⟩:=s
  have z':=k _ _ (X _ _ lk)
  wp_walk
  exact hq
 ·refine eq_false_iff.mpr fun w=>?_
  have e:C=tp:=Value.ref.inj (beq_iff_eq.mp w)
  subst e
  have z:=congrArg Obj.cls (Option.some.inj ((X _ _ lk).symm.trans htp))
  exact absurd (show Value.type "type" = Value.type "tuple" from z) (by decide)
 ·obtain⟨hp,g,d,t,os⟩:=s
  exact exc_class X z l1 l2 l3 l4 l5 hq
section
variable {X:Cx}
theorem call_isiE:CallR X (.builtin "isinstance") (fun xs H Q=>∃e C bm y b,xs=[.ref e,y]∧H e=some (ExcO e C)∧ExcF X.K C bm∧((∃C0,y=.ref C0∧PySem.W.kitOne X.K (.ref C) (.ref C0)=some b)∨∃T,y=.ty T∧PySem.W.kitOne X.K (.ref C) (.type T)=some b)∧Q (.bl b) H):=by
 intro pins s σ H xs us Q I r h
 obtain⟨e,C,bm,y,b,rfl,he,F,hy,q⟩:=h
 obtain⟨u,c,rfl,rx,rc⟩:=vals2 r
 cases(show u=Value.ref e from rx)
 have ie:IsExc e C s.heap:=(show ObjOk X.prog X.w H s.heap e (ExcO e C) from I.hok e _ he).1
 rcases hy with⟨C0,rfl,k⟩ | ⟨T,rfl,k⟩
 ·cases(show c=Value.ref C0 from rc)
  exact PySem.W.kia_one (kitx_exc F) I.kIn ie k (fun z=>nomatch z) fun tk=>⟨.bl b,H,I.tok tk,rfl,q⟩
 ·cases(show c=Value.type T from rc)
  exact PySem.W.kia_one (kitx_exc F) I.kIn ie k (fun z=>nomatch z) fun tk=>⟨.bl b,H,I.tok tk,rfl,q⟩
end
theorem ns_one {h:Heap}{a:Addr}{m m2:Str→Option Value}{x:Str}(p:h.Ns a m)(q:h.Ns a m2):m x=m2 x:=by
 obtain⟨o,es,ep,ho,hd,_,hf⟩:=p
 obtain⟨o',es',ep',ho',hd',_,hf'⟩:=q
 rw[ho]at ho';cases ho'
 rw[hd]at hd';cases hd'
 rw[←hf,←hf']
abbrev Cx.held (X:Cx)(A:Around)(E:Value→Shared→Prop):Cx:={X with A:=A,calm:=false,xe:=E}
section
variable {X:Cx}{pins:List (Addr×Obj)}{σ:St}{H H':Hp}{s s':Shared}{e C:Addr}{cls:Value}{A:Around}{E:Value→Shared→Prop}
theorem Inv.held (I:Inv X pins σ H s)(hA:A.frames=some X.stack):Inv (X.held A E) pins σ H s:=
 ⟨⟨I.ok.mod,I.ok.kind,I.ok.glob,I.ok.blt,I.ok.above,I.ok.inj,I.ok.has,I.ok.cab,fun z=>absurd z Bool.false_ne_true,hA,I.ok.stk,I.ok.exf,I.ok.bs,I.ok.bsz,I.ok.noex,I.ok.exfs,I.ok.funs,I.ok.frf⟩,
   I.os,I.bare,I.base,I.loc,I.cell,I.free,I.freeC,I.pin,I.hok,I.len⟩
theorem Inv.unheld (I:Inv (X.held A E) pins σ H s)(ok:X.Ok):Inv X pins σ H s:=⟨ok,I.os,I.bare,I.base,I.loc,I.cell,I.free,I.freeC,I.pin,I.hok,I.len⟩
theorem Inv.caught (O:Own X)(I:Inv X pins σ H s)(F:Fly X.prog X.w X.stack H s H' e (.ref C) s'):Inv X pins σ (upd H' e (ExcO e C)) s':=by
 have J:=I.flown F
 obtain⟨T,⟨oe,vs,oT,ts,a0,he,hc,h0,hd,h1,ne,hT,hdT,h3⟩,nT,fT⟩:=F.tr
 obtain⟨c,dc,dt,sl⟩:=oe
 simp only at hc hd
 subst hc hd
 have live:∀b o,s.heap.get? b=some o→b≠e:=fun b o z q=>by rw[q,F.new]at z;cases z
 have old:∀b o,X.s₀.heap.get? b=some o→b≠e:=fun b o z=>by
  obtain⟨o',z'⟩:=I.base.there b o z (by rw[O.ex];simp)
  exact live b o' z'
 have trk:∀b o,H' b=some o→b≠e:=fun b o z q=>by rw[q,F.free]at z;cases z
 refine⟨J.ok,J.os,J.bare,⟨J.base.keep,J.base.slot,fun b o z n hx=>?_,J.base.there,fun b xs z=>?_,fun b o u z=>?_,fun b ps z=>?_⟩,J.loc,J.cell,?_,fun x c z=>?_,fun p hp=>?_,fun b u z=>?_,J.len⟩
 ·rw[upd_ne (old b o z)];exact J.base.free b o z n hx
 ·have q:=J.base.tups b xs z
  rw[upd_ne (trk b _ q)];exact q
 ·have q:=J.base.frzs b o u z
  rw[upd_ne (trk b _ q)];exact q
 ·obtain⟨more,q⟩:=J.base.tbls b ps z
  exact⟨more,by rw[upd_ne (trk b _ q)];exact q⟩
 ·obtain⟨m,⟨o,_,_,ho,_⟩,_⟩:=I.loc
  rw[upd_ne (live _ o ho)];exact J.free
 ·obtain⟨v,o,ho,_⟩:=I.cell x c z
  rw[upd_ne (live _ o ho)];exact J.freeC x c z
 ·obtain⟨z,n,r⟩:=J.pin p hp
  obtain⟨z1,_⟩:=I.pin p hp
  exact⟨z,by rw[upd_ne (live _ _ z1)];exact n,r⟩
 ·by_cases q:b=e
  ·subst q
   rw[upd_same]at z
   cases z
   exact excO_ok ⟨_,_,_,he⟩
  ·rw[upd_ne q]at z
   refine(J.hok b u z).stay (fun _ _ _ z=>z) (fun c z=>?_) fun c xs z=>?_
   ·rw[upd_ne (trk c _ z)];exact z
   ·rw[upd_ne (trk c _ z)];exact z
theorem Inv.gone {k:Nat}{n:Str}{h':Heap}{m:Str→Option Value}{v:Option Value}{t':Nat}(I:Inv X pins σ H s)(nd:X.N.Nodup)(hk:X.N[k]?=some n)(hm:s.heap.Ns X.env.locals m)
 (hn:h'.Ns X.env.locals fun y=>if y=n then v else m y) (sb:Heap.SameBut X.env.locals s.heap h'):Inv X pins (σ.set k none) H {s with heap:=h',toks:=t'}:=by
 have kp:∀b o,b≠X.env.locals→s.heap.get? b=some o→h'.get? b=some o:=fun b o hb z=>sb.extBut b o hb z
 have old:∀b o,X.s₀.heap.get? b=some o→b≠X.env.locals:=fun b o z=>Nat.ne_of_lt (Nat.lt_of_lt_of_le (lt_size z) I.ok.above)
 have trk:∀b u,H b=some u→b≠X.env.locals:=fun b u z q=>by rw[q,I.free]at z;cases z
 have there:∀b o,s.heap.get? b=some o→∃o',h'.get? b=some o':=fun b o z=>by
  by_cases q:b=X.env.locals
  ·obtain⟨o',_,_,ho',_⟩:=hn
   exact⟨o',q▸ho'⟩
  ·exact⟨o,kp b o q z⟩
 refine⟨I.ok,I.os,I.bare,⟨fun b o z n hb hx=>kp b o (old b o z) (I.base.keep b o z n hb hx),fun b o z n hb hx=>?_,I.base.free,fun b o z hx=>?_,I.base.tups,I.base.frzs,I.base.tbls⟩,⟨_,hn,fun i x v' h1 h2 h3=>?_⟩,fun x c z=>?_,I.free,I.freeC,fun p hp=>?_,fun b u z=>?_,?_⟩
 ·obtain⟨sl,e1⟩:=I.base.slot b o z n hb hx
  exact⟨sl,kp b _ (old b o z) e1⟩
 ·obtain⟨o',e1⟩:=I.base.there b o z hx
  exact there b o' e1
 ·have ik:i≠k:=fun q=>by
   rw[q,List.getElem?_set_self']at h2
   cases z:σ[k]? with
   |none=>rw[z]at h2;cases h2
   |some _=>rw[z]at h2;cases h2
  rw[List.getElem?_set_ne (Ne.symm ik)]at h2
  have xn:x≠n:=fun q=>ik (nodup_ix nd (q▸h1) hk)
  obtain⟨m2,hm2,hl⟩:=I.loc
  obtain⟨u,ru,lk⟩:=hl i x v' h1 h2 h3
  refine⟨u,ru,?_⟩
  rcases lk with⟨a,b⟩ | ⟨a,c,b,o,ho,hd⟩
  ·refine .inl ⟨a,?_⟩
   show(if x=n then v else m x)=some u
   rw[if_neg xn,ns_one hm hm2]
   exact b
  ·exact .inr ⟨a,c,b,o,kp c o (I.cne x c b) ho,hd⟩
 ·obtain⟨v,o,ho,hd⟩:=I.cell x c z
  exact⟨v,o,kp c o (I.cne x c z) ho,hd⟩
 ·obtain⟨z,n,ne,r⟩:=I.pin p hp
  exact⟨kp _ _ ne z,n,ne,r⟩
 ·refine(I.hok b u z).stay (fun c w hc q=>kp c w ?_ q) (fun _ q=>q) fun _ _ q=>q
  rcases hc with q | q
  ·exact q▸trk b u z
  ·exact trk c _ q
 ·rw[List.length_set];exact I.len
end
abbrev TB:=St→Hp→(Hp→Prop)→XK→Prop
def PB (X:Cx)(body:List Stmt)(tb:TB):Prop:=∀(pins:List (Addr×Obj)) (s:Shared) (σ:St) (H:Hp) (Q:Hp→Prop) (E:XK),Inv X pins σ H s→tb σ H Q E→
 wpAny (model X.prog X.w) X.A (execs body X.env) (fun f s1=>f=.next∧∃H1,Inv X pins σ H1 s1∧Q H1) (fun v s1=>CXF X.prog X.w X.stack H s E v s1) s
def tTry (K:W.Frag)(C0:Addr)(k:Nat)(tb:TB)(ts:TS):TS:=fun D σ H=>tb σ H (fun H1=>D.nx σ H1) fun c ea H1=>∃C bm e,c=.ref C∧ea=some e∧ExcF K C bm∧(Value.ref C::bm).contains (.ref C0)=true∧
 ts {nx:=fun σ' H'=>D.nx (σ'.set k none) H',rt:=fun _ _=>False} (σ.set k (some (.ref e))) (upd H1 e (ExcO e C))
section
variable {X:Cx}{body suite:List Stmt}{b₀:Stmt}{tb:TB}{ts:TS}{x n:Str}{np hp pos:Pos}{C0:Addr}{bm0:List Value}{k:Nat}
theorem ps_try (O:Own X)(nd:X.N.Nodup)(hk:X.N[k]?=some n)(hkl:X.env.scope.names.lookup n=some .local)(hg:Gl X x)(hm:X.mg x=some (.ref C0))(e0:Exc X.K C0 bm0)
 (hb:PB X body tb) (hs:∀A E,PSs (X.held A E) (b₀::suite) ts) (hd:(x==("__debug__" : Str))=false:=by decide) :
 PS X (.Try body [.ExceptHandler (some (.Name x np)) (some n) (b₀::suite) hp] [] [] pos) (tTry X.K C0 k tb ts):=by
 intro pins s σ H D I h
 refine wpAny_Try_except (wpAny_mono (hb pins s σ H _ _ I h) (fun f s1 ⟨ef,H1,I1,q1⟩=>?_) fun v s1 hv=>?_)
 ·subst ef
  exact wpAny_pure ⟨σ,H1,I1,q1⟩
 ·obtain⟨e,cls,H1,rfl,F,C,bm,e',rfl,ee,ex,hin,q⟩:=hv
  cases ee
  refine fly_seen O I F I.ok.frames fun h1 F1=>?_
  have hA:(X.A.mark (some (.ref e))).frames=some X.stack:=I.ok.frames
  have J1:=I.flown F1
  refine wpAny_handleBy_cons (codeAny_handlers_test (Calls.Name_function_global I.ok.kind hg (Calls.loadGlobal_global (by rw[I.ok.glob];exact J1.mod.glob.keeps J1.bk) hm ?_) hd)) (by intro z;cases z)
  obtain⟨⟨nm,q',N,bs,hdct,sn,sub,ab,col,dd,k0,k1,k2,k3,k5,lk,_,_⟩,_,_,_⟩:=ex.toExc
  obtain⟨⟨nm',q'',N',bs',hdct',sn',sub',ab',col',dd',k0',k1',k2',k3',k5',lk',_,_⟩,_,bb',_⟩:=e0
  obtain⟨T,⟨oe,vs,oT,tts,a0,he,hcl,_⟩,_,_⟩:=F1.tr
  refine match_own (J1.kIn _ _ lk) (J1.kIn _ _ lk') bb' he hcl hin ?_
  refine codeAny_handlers_suite_as (fly_land I F1 fun h2 F2=>?_)
  have J2:=I.caught O F2
  refine store_ok2 J2 nd hk (.inl hkl) (v:=.ref e) rfl (fun s3 I3 _=>?_) (.inr hkl)
  refine wpAny_mono (hs (X.A.mark (some (.ref e))) (fun _ _=>False) pins s3 _ _ _ (I3.held hA) q) (fun f s4 h4=>?_) fun _ _ z=>False.elim z
  cases f with
  |next=>
   obtain⟨σ',H4,I4,q4⟩:=h4
   have I5:=I4.unheld I.ok
   obtain⟨m,hm4,_⟩:=id I5.loc
   exact wpAny_nameGoes_keeps hkl hm4 (by rw[I.ok.kind];rfl) fun h' v hn sb=>⟨_,_,I5.gone nd hk hm4 hn sb,q4⟩
  |brk=>exact(let⟨_,_,_,z⟩:=h4;False.elim z)
  |cont=>exact(let⟨_,_,_,z⟩:=h4;False.elim z)
  |ret u=>exact(let⟨_,_,_,_,_,z⟩:=h4;False.elim z)
end
def Fz (a:Addr)(o:Obj):HO:=.frz o (.ext fun h=>h.get? a=some o)
theorem fz_ok {P:Program}{w:World}{H:Hp}{h:Heap}{a:Addr}{o:Obj}(e:h.get? a=some o):ObjOk P w H h a (Fz a o):=⟨e,e,⟨_,e⟩,fun _ _ q k=>k _ q⟩
theorem fz_get {P:Program}{w:World}{H:Hp}{h:Heap}{a:Addr}{o:Obj}(x:HOk P w H h)(e:H a=some (Fz a o)):h.get? a=some o:=(x a _ e).1
def Runs (P:Program)(w:World)(K:W.Frag)(mg:Str→Option Value)(base:Heap)(k:Nat)(f:Addr)(H:Hp)(Q:VK)(E:XK):Prop:=
 ∀(A:Around) (outer:List Env) (s:Shared),Room k A→Env0 P w K mg base A outer s H→codeAny (model P w) A (.call (.ref f) ⟨[],[]⟩) (CR (CXF P w) outer P w H s Q E) s
def tbCall (X:Cx)(k i:Nat):TB:=fun σ H Q E=>∃f o fd,σ[i]?=some (some (.ref f))∧H f=some (Fz f o)∧o.data=.func fd∧Runs X.prog X.w X.K X.mg X.base k f H (fun _ H1=>Q H1) E
theorem keeps_F {M:Model}{f:Addr}{o:Obj}{fd:FuncData}(hd:o.data=.func fd)(h:Heap)(e:h.get? f=some o):∃k,(k=Keeper.frame∨k=Keeper.machine∨k=Keeper.boundFrame)∧PySem.W.Looks M h (keeperOf (.ref f)) k:=by
 obtain⟨c,dc,dt,sl⟩:=o
 simp only at hd
 subst hd
 exact⟨.frame,.inl rfl,(PySem.W.Looks.ld (part:=none) e).andThen .now⟩
theorem pb_call {X:Cx}{k i:Nat}{x:Str}{p cpos pos:Pos}(hr:Room k X.A)(hN:X.N[i]?=some x)(hv:X.env.scope.names.lookup x=some .local)(hd:(x==("__debug__" : Str))=false:=by decide)
 (hs:swapsWith (.Call (.Name x p) [] [] cpos) none pos.line X.env=pure false:=by rfl):PB X [.Expr (.Call (.Name x p) [] [] cpos) pos] (tbCall X k i):=by
 intro pins s σ H Q E I h
 obtain⟨f,o,fd,e1,e2,e3,run⟩:=h
 obtain⟨m,hn,hl⟩:=id I.loc
 obtain⟨u,r,l⟩:=hl i x _ hN e1 (.inl hv)
 obtain rfl:u=.ref f:=r
 have hm:m x=some (.ref f):=by
  rcases l with⟨_,z⟩ | ⟨z,_⟩
  ·exact z
  ·have z:X.env.scope.names.lookup x=some .cell∨X.env.scope.names.lookup x=some .free:=z
   rw[hv]at z
   rcases z with z | z<;>cases z
 refine wpAny_execs_cons (wpAny_Expr_any (wpAny_Call_Name_kw (wpAny_Name (wpAny_loadName_local I.ok.kind hv hn hm ?_) hd)) I.quiet hs)
 refine PySem.W.callWith_of (P:=fun h=>h.get? f=some o) rfl (keeps_F e3) (evalArgs_nil3 ⟨fz_get I.hok e2,?_⟩)
 refine wpAny_call (codeAny_mono (run X.A X.stack s hr I.env0) fun rs s' hq=>?_)
 cases rs with
 |error e=>exact hq
 |ok fl=>
  cases fl with
  |ret u=>
   obtain⟨v,H1,I1,_,q⟩:=I.after hq
   exact wpAny_execs_nil ⟨rfl,H1,I1,q⟩
  |next=>exact False.elim hq
  |brk=>exact False.elim hq
  |cont=>exact False.elim hq
def lamCx (P:Program)(w:World)(K:W.Frag)(mg:Str→Option Value)(base:Heap)(N:List Str)(qual:Str)(scope:Scope)(cl:List (Str×Addr))(f:Addr)(cd:Value)(A:Around)(outer:List Env)(s:Shared)(H:Hp)(E:XK):Cx where
 prog:=P
 w:=w
 K:=K
 mg:=mg
 base:=base
 A:=A.deeper (PySem.W.envX qual scope s.heap.objs.size f cd cl)
 N:=N
 s₀:=s
 H₀:=H
 env:=PySem.W.envX qual scope s.heap.objs.size f cd cl
 outer:=outer
 stack:=PySem.W.envX qual scope s.heap.objs.size f cd cl::outer
 ex:=[]
 calm:=true
 fn:=fun _=>false
 pn:=[]
 xe:=fun e s'=>wpAny (model P w) (A.deeper (PySem.W.envX qual scope s.heap.objs.size f cd cl)) (leaving (PySem.W.envX qual scope s.heap.objs.size f cd cl) e) (fun _ s''=>CXF P w outer H s E e s'') (fun e' s''=>CXF P w outer H s E e' s'') s'
structure Cap (base:Heap)(scope:Scope)(cl:List (Str×Addr))(N:List Str)(σ:St):Prop where
 inj:∀x y c,cl.lookup x=some c→cl.lookup y=some c→x=y
 has:∀x,scope.names.lookup x=some .free→∃c,cl.lookup x=some c
 cell:∀x c,cl.lookup x=some c→∃v,base.IsCell c v
 val:∀(i:Nat) (x:Str) (v:V),N[i]?=some x→σ[i]?=some (some v)→scope.names.lookup x=some .free∧∃u c,RelV v u∧cl.lookup x=some c∧base.IsCell c (some u)
 len:σ.length=N.length
structure LamS (scope:Scope):Prop where
 kind:scope.kind=.function
 co:scope.isCoroutine=false
 gen:scope.isGenerator=false
 nocell:∀y∈scope.names,y.2≠.cell
section
variable {P:Program}{w:World}{K:W.Frag}{mg:Str→Option Value}{base:Heap}{N:List Str}{qual:Str}{scope:Scope}{cl:List (Str×Addr)}{f:Addr}{cd:Value}{A:Around}{outer:List Env}{s:Shared}{H:Hp}{E:XK}{σ:St}
theorem own_lam:Own (lamCx P w K mg base N qual scope cl f cd A outer s H E):=⟨rfl,rfl,rfl⟩
theorem lvs_lam:Lvs (lamCx P w K mg base N qual scope cl f cd A outer s H E) E:=⟨own_lam,fun _ _ h=>h⟩
theorem lam_start {h1:Heap}{tk:Nat}(S:LamS scope)(C:Cap base scope cl N σ)(hd:A.handled=none)(e0:Env0 P w K mg base A outer s H)(kp:∀b o,s.heap.get? b=some o→h1.get? b=some o)(hn:h1.Ns s.heap.objs.size fun _=>none) :
 Inv (lamCx P w K mg base N qual scope cl f cd A outer s H E) [] σ H {s with heap:=h1,toks:=tk}:=by
 have noA:∀b:Addr,b∉(lamCx P w K mg base N qual scope cl f cd A outer s H E).ex:=fun b z=>absurd (show b∈([]:List Addr) from z) (by simp)
 have bc:∀{c:Addr} {v:Option Value},base.IsCell c v→h1.IsCell c v∧H c=none:=fun{c v} ⟨o,ho,hd⟩=>⟨⟨o,kp _ _ (e0.bs c o ho).1,hd⟩,(e0.bs c o ho).2⟩
 refine⟨⟨e0.mod,S.kind,rfl,rfl,Nat.le_refl _,C.inj,fun y hy=>?_,fun y c z _=>absurd z Bool.false_ne_true,fun _=>hd,Around.frames_deeper e0.frames,.inr ⟨rfl,rfl⟩,fun b z=>absurd z (noA b),e0.bs,e0.bsz,fun b _ _=>noA b,fun b z=>absurd z (noA b),e0.funs,e0.frf⟩,
  rfl,e0.bare,Un.kept kp,⟨_,hn,fun i y v h1 h2 h3=>?_⟩,fun y c h=>?_,e0.hok.fresh (Nat.le_refl _),fun y c h=>?_,fun p hp=>absurd (show p∈([]:List (Addr×Obj)) from hp) (by simp),e0.hok.kept kp,C.len⟩
 ·have hy:scope.names.lookup y=some .cell∨scope.names.lookup y=some .free:=hy
  rcases hy with hy | hy
  ·exact absurd rfl (S.nocell _ (PySem.mem_of_lookup hy))
  ·exact C.has y hy
 ·obtain⟨fr,u,c,rv,hc,hcell⟩:=C.val i y v h1 h2
  exact⟨u,rv,.inr ⟨.inr fr,c,hc,(bc hcell).1⟩⟩
 ·obtain⟨v,hv⟩:=C.cell y c h
  exact⟨v,(bc hv).1⟩
 ·obtain⟨v,hv⟩:=C.cell y c h
  exact(bc hv).2
theorem runs_lam {k:Nat}{name:Str}{params:Arguments}{body:Expr}{pm ctv:Value}{c':Addr}{oc:Obj}{vs:Array Value}{t:Nat}{te:TE}{Q:VK}(hf:H f=some (Fz f (PySem.W.kla_obj name qual params body scope cl pm c' ctv)))(hc:H c'=some (Fz c' oc))
 (hv:oc.data=.fields vs) (hq:vs[1]?=some (.str qual t)) (S:LamS scope) (C:Cap base scope cl N σ)
 (hb:bindArgs (PySem.W.kla_fn name qual params body scope cl pm (.ref c') ctv) ⟨[],[]⟩=pure [])
 (hbody:∀A outer s,Room k (A.deeper (PySem.W.envX qual scope s.heap.objs.size f (.ref c') cl))→PE (lamCx P w K mg base N qual scope cl f (.ref c') A outer s H E) body te) (q:te σ H Q):Runs P w K mg base (k+1) f H Q E:=by
 intro A outer s hr e0
 refine PySem.W.kla_callFunE hr.depth (fz_get e0.hok hf) rfl S.co S.gen rfl ⟨c',oc,vs,t,rfl,fz_get e0.hok hc,hv,hq⟩ ?_
 rw[hb]
 refine wpAny_pure (wpAny_newFunctionEnv S.nocell (by intro y hy;simp at hy) (fun h1 hns hsb=>?_) S.kind)
 have kp:∀b o,s.heap.get? b=some o→h1.get? b=some o:=fun b o e=>hsb.extBut b o (Nat.ne_of_lt (lt_size e)) (get?_push_of_some _ e)
 refine⟨(e0.mod.nolimit.keeps fun b o e=>(e0.bs b o e).1).keeps kp,?_⟩
 show codeAny _ _ (.expr body (PySem.W.envX qual scope s.heap.objs.size f (.ref c') cl)) _ _
 have I:=lam_start (P:=P) (w:=w) (K:=K) (mg:=mg) (N:=N) (qual:=qual) (f:=f) (cd:=.ref c') (E:=E) (tk:=s.toks+([]:List (Str×Value)).length) S C hr.hd e0 kp hns
 refine PySem.W.kla_codeExpr (wpAny_mono (hbody A outer s (hr.deeper _) [] _ σ H Q I q) (fun v s' ⟨x,H1,I1,r,q1⟩=>?_) fun e s' hs=>hs)
 exact⟨x,H1,I1.os,I1.bare,I1.base,I1.hok,r,q1⟩
end
theorem triples_ok:∀l:List (Pos×Addr),TriplesOk (triples l)
 |[]=>trivial
 |(_,_)::r=>triples_ok r
theorem among_some {pos:Pos}:∀{l:List (Pos×Addr)} {cv:Value},codeAmong pos (triples l)=some cv→∃x∈l,cv=.ref x.2
 |[],_,h=>by cases h
 |(p,c)::r,cv,h=>by
  simp only[triples,rawInt,codeAmong]at h
  split at h
  ·cases h
   exact⟨_,mem_cons_self,rfl⟩
  ·obtain⟨x,hx,e⟩:=among_some h
   exact⟨x,mem_cons_of_mem _ hx,e⟩
def Tab (q:Str)(H:Hp)(T:Addr):Prop:=∃l:List (Pos×Addr),H T=some (.tbl (triples l).toArray)∧∀x∈l,∃oc vs t,H x.2=some (Fz x.2 oc)∧oc.data=.fields vs∧vs[1]?=some (.str q t)
theorem Tab.same {q:Str}{H H':Hp}{T:Addr}(x:Tab q H T)(s:Same H H'):Tab q H' T:=
 let⟨l,e,h⟩:=x
 ⟨l,s _ _ e,fun y hy=>let⟨oc,vs,t,a,b⟩:=h y hy;⟨oc,vs,t,s _ _ a,b⟩⟩
theorem Tab.empty {q:Str}{H:Hp}{T:Addr}(e:H T=some (.tbl #[])):Tab q H T:=⟨[],e,fun _ h=>nomatch h⟩
abbrev lamQ (X:Cx):Str:=X.env.qual++"<lambda>"
structure LamAt (X:Cx)(T:Addr)(params:Arguments)(body:Expr)(scope:Scope)(H:Hp)(f:Addr)(H':Hp):Prop where
 new:H f=none
 grow:∀b u,b≠T→H b=some u→H' b=some u
 tab:Tab (lamQ X) H' T
 ob:∃cl pm c' ctv oc vs t,H' f=some (Fz f (PySem.W.kla_obj "<lambda>" (lamQ X) params body scope cl pm c' ctv))∧H' c'=some (Fz c' oc)∧oc.data=.fields vs∧vs[1]?=some (.str (lamQ X) t)∧
  (∀x c,cl.lookup x=some c→X.env.cells.lookup x=some c)∧∀x,(x,NameKind.free)∈scope.names→∃c,cl.lookup x=some c
def tLam (X:Cx)(T:Addr)(params:Arguments)(body:Expr)(scope:Scope):TE:=fun σ H Q=>Tab (lamQ X) H T∧∀f H',LamAt X T params body scope H f H'→Q (.ref f) H'
def BltAt (mg:Str→Option Value)(base:Heap):Prop:=∃bm o,mg "__builtins__" = some (.ref bm)∧bm≠builtinsNs∧bm≠mainGlobals∧base.get? bm=some o∧o.cls=.type "module"∧o.dict=some builtinsNs∧o.data=.plain
section
variable {X:Cx}{T c:Addr}{params:Arguments}{body:Expr}{scope:Scope}{pos:Pos}
theorem pe_lam (hcode:X.env.code=.ref c)(C:PySem.W.CodeHd X.base c T)(B:BltAt X.mg X.base)(hcap:∀y∈scope.names,y.2=.free→X.env.scope.names.lookup y.1=some .cell∨X.env.scope.names.lookup y.1=some .free)
 (hdef:defaultsOf params X.env=([],[]):=by rfl):PE X (.Lambda params body scope pos) (tLam X T params body scope):=by
 intro pins s σ H Q I ⟨⟨l,hT,hl⟩,h⟩
 obtain⟨cl,hcl,c1,c2⟩:=clos_of (env:=X.env) (scope:=scope) fun y hy hk=>I.ok.has y.1 (hcap y hy hk)
 obtain⟨bm,ob,b1,b2,b3,b4,b5⟩:=B
 have notT:∀{b:Addr} {o:Obj},X.base.get? b=some o→b≠T:=fun{b o} e z=>by
  have:=(I.bs b o e).2
  rw[z,hT]at this;cases this
 have hgT:mainGlobals≠T:=by
  obtain⟨o,_,_,ho,_⟩:=I.ok.mod.glob
  exact notT ho
 have bl:s.heap.BuiltinsAt X.mg T:=⟨bm,ob,b1,b2,b3,notT b4,I.bk _ _ b4,b5⟩
 have hP:s.heap.get? T=some (PySem.W.tabObj (triples l).toArray):=I.hok T _ hT
 have glob:=I.ok.mod.glob.keeps I.bk
 refine PySem.W.kla_eval hdef ?_
 cases am:codeAmong pos (triples l) with
 |some cv=>
  obtain⟨x,hx,rfl⟩:=among_some am
  obtain⟨oc,vs,t,o1,o2,o3⟩:=hl x hx
  refine PySem.W.kla_makeFunctionHit hcl I.ok.glob glob hcode (C.keeps I.bk) hP (by simpa using triples_ok l) (by simpa using am) bl fun ctv h' tk kp hs=>?_
  have fresh:H h'.objs.size=none:=I.hok.fresh hs
  have J:=I.laid (h':=h'.push (PySem.W.kla_obj "<lambda>" (lamQ X) params body scope cl ((X.mg "__name__").getD .none) x.2 ctv)) (t':=tk) (a:=h'.objs.size) (o:=Fz h'.objs.size (PySem.W.kla_obj "<lambda>" (lamQ X) params body scope cl ((X.mg "__name__").getD .none) x.2 ctv))
   (fun b u e=>get?_push_of_some _ (kp b u e)) hs (fz_ok (get?_push_size _ rfl))
  have same:Same H (upd H h'.objs.size (Fz h'.objs.size (PySem.W.kla_obj "<lambda>" (lamQ X) params body scope cl ((X.mg "__name__").getD .none) x.2 ctv))):=fun b u e=>by
   rw[upd_ne fun z=>by rw[z,fresh]at e;cases e];exact e
  exact⟨.ref h'.objs.size,_,J,rfl,h _ _ ⟨fresh,fun b u _ e=>same b u e,Tab.same ⟨l,hT,hl⟩ same,cl,_,x.2,ctv,oc,vs,t,upd_same,same _ _ o1,o2,o3,c1,c2⟩⟩
 |none=>
  refine PySem.W.kla_makeFunction hcl I.ok.glob glob hcode (C.keeps I.bk) hP (by simpa using triples_ok l) (by simpa using am) hgT bl fun c' ctv h' tk hx hge hlt hrec htb=>?_
  obtain⟨_,oc,vs,t,e2,hoc,hd,hv⟩:=hrec
  cases e2
  obtain⟨fo,hfo⟩:∃fo,fo=PySem.W.kla_obj "<lambda>" (lamQ X) params body scope cl ((X.mg "__name__").getD .none) c' ctv:=⟨_,rfl⟩
  have eT:(triples l).toArray++#[rawInt pos.line,rawInt pos.col,.ref c']=(triples (l++[(pos,c')])).toArray:=by rw[triples_append];simp
  rw[eT]at htb
  have lv:∀b u,H b=some u→b<s.heap.objs.size:=fun b u e=>(I.hok b u e).lt
  have hTs:T<s.heap.objs.size:=lv _ _ hT
  have cT:c'≠T:=Nat.ne_of_gt (Nat.lt_of_lt_of_le hTs hge)
  have hsf:s.heap.objs.size≤h'.objs.size:=Nat.le_trans hge (Nat.le_of_lt hlt)
  have fT:h'.objs.size≠T:=Nat.ne_of_gt (Nat.lt_of_lt_of_le hTs hsf)
  have cf:c'≠h'.objs.size:=Nat.ne_of_lt hlt
  obtain⟨H',hH'⟩:∃H',H'=upd (upd (upd H T (.tbl (triples (l++[(pos,c')])).toArray)) c' (Fz c' oc)) h'.objs.size (Fz h'.objs.size fo):=⟨_,rfl⟩
  have aF:H' h'.objs.size=some (Fz h'.objs.size fo):=by rw[hH',upd_same]
  have aC:H' c'=some (Fz c' oc):=by rw[hH',upd_ne cf,upd_same]
  have aT:H' T=some (.tbl (triples (l++[(pos,c')])).toArray):=by rw[hH',upd_ne fT.symm,upd_ne cT.symm,upd_same]
  have aO:∀b,b<s.heap.objs.size→b≠T→H' b=H b:=fun b hb n=>by rw[hH',upd_ne (Nat.ne_of_lt (Nat.lt_of_lt_of_le hb hsf)),upd_ne (Nat.ne_of_lt (Nat.lt_of_lt_of_le hb hge)),upd_ne n]
  have grow:∀b u,b≠T→H b=some u→H' b=some u:=fun b u n e=>(aO b (lv b u e) n).trans e
  have old:∀b o,b≠T→s.heap.get? b=some o→(h'.push fo).get? b=some o:=fun b o n e=>get?_push_of_some _ (hx b o n e)
  have un:∀fs,Un fs [] H H' s.heap (h'.push fo):=fun fs=>by
   have nT:∀{b:Addr},H b=none→b≠T:=fun{b} n z=>by rw[z,hT]at n;cases n
   refine⟨fun b o e n _ _=>old b o (nT n) e,fun b o e n _ _=>⟨o.slots,old b o (nT n) e⟩,fun b o e n _=>(aO b (lt_size e) (nT n)).trans n,fun b o e _=>?_,fun b xs e=>?_,fun b o u e=>?_,fun b ps e=>?_⟩
   ·by_cases z:b=T
    ·exact⟨_,z▸get?_push_of_some _ htb⟩
    ·exact⟨_,old b o z e⟩
   ·exact grow b _ (fun z=>by rw[z,hT]at e;cases e) e
   ·exact grow b _ (fun z=>by rw[z,hT]at e;cases e) e
   ·by_cases z:b=T
    ·subst z
     rw[hT]at e
     cases e
     exact⟨#[rawInt pos.line,rawInt pos.col,.ref c'],by rw[aT,eT]⟩
    ·exact⟨#[],by rw[grow b _ z e];simp⟩
  have hok:HOk X.prog X.w H' (h'.push fo):=fun b u e=>by
   by_cases z1:b=h'.objs.size
   ·subst z1
    rw[aF]at e
    cases e
    exact fz_ok (get?_push_size _ (by rw[hfo];rfl))
   ·by_cases z2:b=c'
    ·subst z2
     rw[aC]at e
     cases e
     exact fz_ok (get?_push_of_some _ hoc)
    ·by_cases z3:b=T
     ·subst z3
      rw[aT]at e
      cases e
      exact get?_push_of_some _ htb
     ·rw[hH',upd_ne z1,upd_ne z2,upd_ne z3]at e
      refine(I.hok b u e).stay (fun d v hd q=>old d v ?_ q) (fun d z=>grow d _ (fun q=>by rw[q,hT]at z;cases z) z) fun d xs z=>grow d _ (fun q=>by rw[q,hT]at z;cases z) z
      rcases hd with q | q
      ·rw[q];exact z3
      ·intro y
       rw[y,hT]at q;cases q
  have J:Inv X pins σ H' {s with heap:=h'.push fo,toks:=tk}:=I.un (un _) hok
  have tab:Tab (lamQ X) H' T:=⟨_,aT,fun x hx=>by
   rcases mem_append.mp hx with hx | hx
   ·obtain⟨oc2,vs2,t2,o1,o2⟩:=hl x hx
    exact⟨oc2,vs2,t2,grow _ _ (fun q=>by rw[q,hT]at o1;cases o1) o1,o2⟩
   ·obtain rfl:x=(pos,c'):=by simpa using hx
    exact⟨oc,vs,t,aC,hd,hv⟩⟩
  rw[←hfo]
  exact⟨.ref h'.objs.size,H',J,rfl,h _ _ ⟨I.hok.fresh hsf,grow,tab,cl,_,c',ctv,oc,vs,t,by rw[aF,hfo],aC,hd,hv,c1,c2⟩⟩
end
theorem less_size:∀(S:List Addr) (h:Heap),(lessOf S h).objs.size=h.objs.size
 |[],_=>rfl
 |a::S,h=>by
  show((lessOf S h).update a _).objs.size=_
  rw[Heap.size_update,less_size S h]
open Classical in
noncomputable def outOf (base:Heap)(cl:List (Str×Addr))(h:Heap):List Addr:=(List.range h.objs.size).filter fun a=>decide (base.get? a=none∧∀x,cl.lookup x≠some a)
noncomputable def baseOf (base:Heap)(cl:List (Str×Addr))(h:Heap):Heap:=lessOf (outOf base cl h) h
section
variable {base h:Heap}{cl:List (Str×Addr)}{b:Addr}{o:Obj}
theorem base_out (hb:base.get? b=none)(hc:∀x,cl.lookup x≠some b)(hs:b<h.objs.size):b∈outOf base cl h:=
 mem_filter.mpr ⟨mem_range.mpr hs,by simpa using⟨hb,hc⟩⟩
theorem base_some (e:(baseOf base cl h).get? b=some o):h.get? b=some o∧((∃u,base.get? b=some u)∨∃x,cl.lookup x=some b):=by
 obtain⟨n,e⟩:=less_some e
 refine⟨e,?_⟩
 cases q:base.get? b with
 |some u=>exact .inl ⟨u,rfl⟩
 |none=>
  refine .inr ?_
  apply Classical.byContradiction
  intro z
  exact n (base_out q (fun x y=>z ⟨x,y⟩) (lt_size e))
theorem base_in (e:h.get? b=some o)(hi:(∃u,base.get? b=some u)∨∃x,cl.lookup x=some b):(baseOf base cl h).get? b=some o:=by
 unfold baseOf
 rw[less_out]
 ·exact e
 ·intro z
  have z:=(mem_filter.mp z).2
  have z:base.get? b=none∧∀x,cl.lookup x≠some b:=by simpa using z
  rcases hi with⟨u,q⟩ | ⟨x,q⟩
  ·rw[z.1]at q;cases q
  ·exact z.2 x q
end
section
variable {X:Cx}{pins:List (Addr×Obj)}{σ:St}{H:Hp}{s:Shared}{cl:List (Str×Addr)}{N:List Str}{js:List Nat}{scope:Scope}
theorem Inv.env1 (I:Inv X pins σ H s)(hfn:∀x,X.fn x=true)(c1:∀x c,cl.lookup x=some c→X.env.cells.lookup x=some c):Env0 X.prog X.w X.K X.mg (baseOf X.base cl s.heap) X.A X.stack s H:=by
 have sub:∀b o,X.base.get? b=some o→(baseOf X.base cl s.heap).get? b=some o:=fun b o e=>base_in (I.bk b o e) (.inl ⟨o,e⟩)
 obtain⟨mb,m1,m2⟩:=I.ok.mod.blt
 refine⟨I.ok.frames,⟨I.ok.mod.kin.keeps sub,I.ok.mod.glob.keeps sub,⟨mb,m1.keeps sub,m2⟩,I.ok.mod.nolimit.keeps sub⟩,fun b o e=>?_,by unfold baseOf;rw[less_size];exact Nat.le_refl _,?_,I.stkFree,I.hok,I.bare⟩
 ·obtain⟨e1,z⟩:=base_some e
  refine⟨e1,?_⟩
  rcases z with⟨u,q⟩ | ⟨x,q⟩
  ·exact(I.bs b u q).2
  ·exact I.freeC x b (c1 x b q)
 ·refine less_frames (fun b hb=>?_) I.stack
  obtain⟨hn,o,ho,_⟩:=I.stack.mem hb
  refine base_out hn (fun x q=>?_) (lt_size ho)
  rcases mem_cons.mp (I.stkSub b hb) with e | e
  ·exact I.cne x b (c1 x b q) e
  ·obtain⟨_,o',ho',_⟩:=I.ok.funs.mem e
   exact absurd (Nat.lt_of_lt_of_le (lt_size ho') (I.ok.cab x b (hfn x) (c1 x b q))) (Nat.lt_irrefl _)
theorem Inv.cap (I:Inv X pins σ H s)(B:Blk X.env.scope X.N N 0 js scope)(c1:∀x c,cl.lookup x=some c→X.env.cells.lookup x=some c)(c2:∀x,(x,NameKind.free)∈scope.names→∃c,cl.lookup x=some c) :
 Cap (baseOf X.base cl s.heap) scope cl N (inner 0 js σ):=by
 have cell:∀{x:Str} {c:Addr} {v:Option Value},cl.lookup x=some c→s.heap.IsCell c v→(baseOf X.base cl s.heap).IsCell c v:=fun{x c v} e ⟨o,ho,hd⟩=>⟨o,base_in ho (.inr ⟨x,e⟩),hd⟩
 refine⟨fun x y c a b=>I.ok.inj x y c (c1 x c a) (c1 y c b),fun x hx=>c2 x (PySem.mem_of_lookup hx),fun x c e=>?_,fun i x v h1 h2=>?_,?_⟩
 ·obtain⟨v,hv⟩:=I.cell x c (c1 x c e)
  exact⟨v,cell e hv⟩
 ·obtain⟨k,j,rfl,hk,hv⟩:=inner_get h2
  have h1':(N.drop 0)[k]?=some x:=by rw[getElem?_drop];exact h1
  have hxm:x∈N.drop 0:=mem_of_getElem? h1'
  have hfree:scope.names.lookup x=some .free:=B.fr x hxm
  have hj:X.N[j]?=some x:=by
   rw[B.out,getElem?_map,hk]at h1'
   have hjl:j<X.N.length:=B.js j (mem_of_getElem? hk)
   rw[List.getElem?_eq_getElem hjl]
   have e:X.N.getD j "" = x:=by simpa using h1'
   rw[←e]
   simp[getD_eq_getElem?_getD,List.getElem?_eq_getElem hjl]
  have hcap:=B.cap _ (PySem.mem_of_lookup hfree) rfl
  obtain⟨m,hn,hl⟩:=I.loc
  obtain⟨u,ru,lk⟩:=hl j x v hj hv (hcap.elim (fun z=>.inr (.inl z)) fun z=>.inr (.inr z))
  refine⟨hfree,?_⟩
  rcases lk with⟨z,_⟩ | ⟨_,c,e,q⟩
  ·exact absurd (show X.env.scope.names.lookup x=some .local from z) (by rcases hcap with y | y<;>(rw[y];decide))
  ·obtain⟨c',e'⟩:=c2 x (PySem.mem_of_lookup hfree)
   have ec:=c1 x c' e'
   rw[e]at ec
   cases ec
   exact⟨u,c,ru,e',cell e' q⟩
 ·unfold inner
  rw[length_append,length_replicate,length_map,B.len]
end
def spRef (P:Program)(w:World)(K:W.Frag)(mg:Str→Option Value)(base:Heap)(k:Nat)(R:VK→VK)(Ec:VK→XK):Sp:=fun vs H Q _=>
 ∃f o fd,vs=[.ref f]∧H f=some (Fz f o)∧o.data=.func fd∧Runs P w K mg base k f H (R Q) (Ec Q)
def tRef (X:Cx)(T:Addr)(params:Arguments)(body:Expr)(scope:Scope)(js:List Nat)(R:VK→VK)(Ec:VK→XK)(te:XK→TE):TE:=fun σ H Q=>Tab (lamQ X) H T∧∀f H',LamAt X T params body scope H f H'→te (Ec Q) (inner 0 js σ) H' (R Q)
section
variable {X:Cx}{T c r:Addr}{params:Arguments}{body:Expr}{scope:Scope}{x:Str}{p lpos pos:Pos}{k kr:Nat}{fd:FuncData}{px:Str}{R:VK→VK}{Ec:VK→XK}{te:XK→TE}{N:List Str}{js:List Nat}{qn:Str}
theorem pe_refuse (F:∀base,FnOk X.prog X.w X.K X.mg base CX0 kr r fd [px] (spRef X.prog X.w X.K X.mg base (k+1) R Ec))(hr:Room kr X.A)(hg:Gl X x)(hm:X.mg x=some (.ref r))(hk:PySem.W.keepIn X.K (.ref r)=true)(hb:Binds X.K fd [px] [])
 (hfn:∀x,X.fn x=true) (hcode:X.env.code=.ref c) (C:PySem.W.CodeHd X.base c T) (Bl:BltAt X.mg X.base) (S:LamS scope) (B:Blk X.env.scope X.N N 0 js scope) (hqn:lamQ X=qn)
 (hbody:∀(base:Heap) (E:XK) (cl:List (Str×Addr)) (f:Addr) (cd:Value) (A:Around) (outer:List Env) (s:Shared) (H:Hp),Room k (A.deeper (PySem.W.envX qn scope s.heap.objs.size f cd cl))→
  PE (lamCx X.prog X.w X.K X.mg base N qn scope cl f cd A outer s H E) body (te E))
 (hbind:∀cl pm cd ctv,bindArgs (PySem.W.kla_fn "<lambda>" qn params body scope cl pm cd ctv) ⟨[],[]⟩=pure []:=by intros;rfl)
 (hdef:defaultsOf params X.env=([],[]):=by rfl) (hdb:(x==("__debug__" : Str))=false:=by decide):PE X (.Call (.Name x p) [.Lambda params body scope lpos] [] pos) (tRef X T params body scope js R Ec te):=by
 intro pins s σ H Q I h
 subst hqn
 refine wpAny_Call_Name_kw (ld_glob I hg hm ?_ hdb)
 have ha:PA X [.Lambda params body scope lpos] (tCons (tLam X T params body scope) tNil):=pa_cons (pe_lam hcode C Bl B.cap hdef) pa_nil rfl
 refine PySem.W.callWith_K (h₀:=X.base) I.ok.mod.kin hk (thn (ha pos pins s σ H (fun vs H1=>∃f,vs=[.ref f]∧LamAt X T params body scope H f H1) I ⟨h.1,fun f H1 L=>⟨f,rfl,L⟩⟩) fun us s1 ⟨vs,H1,I1,r,f,ev,L⟩=>⟨I1.kIn,?_⟩) rfl rfl
 subst ev
 have q:=h.2 f H1 L
 obtain⟨cl,pm,c',ctv,oc,vs,t,a1,a2,a3,a4,c1,c2⟩:=L.ob
 have run:Runs X.prog X.w X.K X.mg (baseOf X.base cl s1.heap) (k+1) f H1 (R Q) (Ec Q):=
  runs_lam a1 a2 a3 a4 S (I1.cap B c1 c2) (hbind _ _ _ _) (fun A outer s hr=>hbody _ _ _ _ _ _ _ _ _ hr) q
 have hl:us.length=[px].length:=r.length.symm
 refine wpAny_call (codeAny_mono ((F (baseOf X.base cl s1.heap)).run X.A X.stack s1 H1 ⟨us,[]⟩ us [.ref f] Q E0 hr (I1.env1 hfn c1) (by simpa using hb s1 us I1.kIn (by simpa using hl)) r ⟨f,_,_,rfl,a1,rfl,run⟩) fun rs s' hq=>?_)
 cases rs with
 |error e=>exact False.elim hq
 |ok fl=>
  cases fl with
  |ret u=>exact I1.after hq
  |next=>exact False.elim hq
  |brk=>exact False.elim hq
  |cont=>exact False.elim hq
end
end L2
namespace L2
theorem eq_bools (a b:Bool):MeetsSeq.EqGives (.bool a) (.bool b) (a==b):=fun prog w A E s Q h=>SeqAt.EqAt.bool_bool (A:=A) (s:=s) a b prog w E Q h
section
variable {X:Cx}
theorem call_sumI (hc:X.calm=true):CallR X (.builtin "sum") (fun xs H Q=>∃(p:Addr) (ns:List Int),xs=[.ref p]∧SqL X.K H p (ns.map V.int)∧Q (.int ns.sum) H):=by
 intro pins s σ H xs us Q I r h
 obtain⟨p,ns,rfl,hq,q⟩:=h
 obtain⟨u,rfl,rx⟩:=vals1 r
 cases(show u=Value.ref p from rx)
 obtain⟨its,r',pl,hz⟩:=I.list hq
 have all:∀(l:List Int) (vs:List Value),Vals (l.map V.int) vs→∃ps:List (Int×Tok),vs=ps.map (fun p=>Value.int p.1 p.2)∧ps.map (·.1)=l:=by
  intro l
  induction l with
  |nil=>intro vs v;cases v;exact⟨[],rfl,rfl⟩
  |cons n l ih=>
   intro vs v
   cases v with
   |cons a b=>
    obtain⟨t,rfl⟩:=a
    obtain⟨ps,rfl,e⟩:=ih _ b
    exact⟨(n,t)::ps,rfl,by rw[map_cons,e]⟩
 obtain⟨ps,e1,e2⟩:=all ns its r'
 have hl:s.heap.IsList p (intItems ps.toArray):=by
  have z:=pl.isList
  rw[e1]at z
  have e3:(ps.map fun p=>Value.int p.1 p.2).toArray=intItems ps.toArray:=by unfold intItems;simp
  rw[e3]at z
  exact z
 refine sum_intListG (I.ok.hd hc) hl fun h' tk t' hk=>?_
 rw[preSum_eq,List.take_of_length_le (by simp)]
 have e4:ps.toArray.toList.map (·.1)=ns:=e2
 rw[e4]
 exact⟨.int ns.sum,H,I.kept hk,⟨_,rfl⟩,q⟩
def rIndexT:V→List V→Hp→VK→Prop:=fun x vs H Q=>∃(l:Addr) (bs:List Bool) (j:Nat),x=.ref l∧vs=[.bl true]∧H l=some (.lst (bs.map V.bl))∧bs[j]?=some true∧(∀i,i<j→bs[i]?=some false)∧Q (.int (j:Nat)) H
theorem mt_indexT:MtM X "list.index" rIndexT:=by
 intro pins s σ H x vs v us Q I rx rv h
 obtain⟨l,bs,j,rfl,rfl,hH,hj,hn,q⟩:=h
 cases rx
 obtain⟨u,rfl,ru⟩:=rv.one
 cases ru
 obtain⟨z,its,n,r,hl,e⟩:=I.lstM hH
 have at_:∀(i:Nat) (b:Bool),bs[i]?=some b→its[i]?=some (Value.bool b):=fun i b hb=>by
  obtain⟨w',hw,rw'⟩:=r.get (show(bs.map V.bl)[i]?=some (V.bl b) by rw[getElem?_map,hb];rfl)
  rw[hw,show w'=Value.bool b from rw']
 have back:∀y∈its.toArray,∃b,y=Value.bool b:=fun y hy=>by
  obtain⟨i,hi,rfl⟩:=List.getElem_of_mem (List.mem_toArray.mp hy)
  have hb:i<bs.length:=by rw[←hl,length_map]at hi;exact hi
  have:=at_ i bs[i] (List.getElem?_eq_getElem hb)
  rw[List.getElem?_eq_getElem hi]at this
  exact⟨_,Option.some.inj this⟩
 have hji:j<its.length:=(List.getElem?_eq_some_iff.mp (at_ j true hj)).1
 have hzz:its.length≤sizeLine:=hl▸z
 rw[sizeLine_eq]at hzz
 refine call_meets F.slot_list_index ⟨_,e,rfl⟩ F.entry_list_index (F.args_list_index_2 _ _)
  (MeetsSeq.list_index l its.toArray n (.bool true) (fun y=>y==.bool true) (fun y hy=>?_) j (by simpa using hji) (by omega) ?_ fun m hm hlt=>?_) ⟨e,?_⟩
 ·obtain⟨b,rfl⟩:=back y hy
  have:=eq_bools b true
  cases b<;>exact this
 ·have:=at_ j true hj
  rw[List.getElem?_eq_getElem hji]at this
  have:=Option.some.inj this
  simp[this]
 ·have hm':m<its.length:=by simpa using hm
  have:=at_ m false (hn m hlt)
  rw[List.getElem?_eq_getElem hm']at this
  have:=Option.some.inj this
  simp[this]
 ·exact⟨.int (j:Nat),H,I.tok _,⟨_,rfl⟩,q⟩
end
def HasE (P:Program)(w:World)(K:W.Frag)(mg:Str→Option Value)(base:Heap)(k:Nat)(x:Str)(ps:List Str)(sp:Sp):Prop:=
 ∃(f:Addr) (fd:FuncData),FnOk P w K mg base (CXF P w) k f fd ps sp∧mg x=some (.ref f)∧PySem.W.keepIn K (.ref f)=true∧Binds K fd ps []
section
variable {X:Cx}{k k':Nat}{x:Str}{ps:List Str}{sp:Sp}{e:Expr}{es:List Expr}{t:TA}{p pos:Pos}{E:XK}
theorem pe_defE (h:HasE X.prog X.w X.K X.mg X.base k x ps sp)(L:Lvs X E)(hr:Room k' X.A)(ha:PA X (e::es) t)(hg:Gl X x:=by rfl)(hk:k≤k':=by decide)(hdb:(x==("__debug__" : Str))=false:=by decide)
 (he:starEach (e::es) X.env=(false,eval e X.env)::starEach es X.env:=by rfl) (hpl:(backTo pos (starEach es X.env)).any (·.1)=false:=by rfl):PE X (.Call (.Name x p) (e::es) [] pos) (tCall sp [] E t):=by
 obtain⟨f,fd,F,m,kp,b⟩:=h
 exact pe_call F (hr.mono hk) hg m kp b .nil (L.pass fun _ _ _ z=>z) ha hdb he hpl
end
section
variable {P:Program}{w:World}{K:W.Frag}{mg:Str→Option Value}{base:Heap}
theorem Fun.okE {x qual:Str}{st:Stmt}{f:Addr}{fd:FuncData}{N ps:List Str}{k:Nat}{sp:Sp}(F:Fun K x qual st f fd)(S:FnScope N ps (defScope st))(len:∀vs H Q E,sp vs H Q E→vs.length=ps.length)
 (hbody:∀(cdv:Value) (A:Around) (outer:List Env) (s:Shared) (H:Hp) (vs:List V) (Q:VK) (E:XK),Room k (A.deeper (envOfC qual (defScope st) s.heap.objs.size f cdv))→sp vs H Q E→
  ∃t,PSs (cxOf (CXF P w) P w K mg base N qual (defScope st) f cdv A outer s H E) (defBody st) t∧t {nx:=fun _ H'=>Q .non H',rt:=Q} (start N vs) H):FnOk P w K mg base (CXF P w) (k+1) f fd ps sp:=by
 obtain⟨oc,od,kV,doc,pm,an,cdv,ct,osl,rfl,lk,hcd⟩:=F.ex
 exact fn_of lk hcd S len fun A outer s H vs Q E hr hsp=>hbody cdv A outer s H vs Q E hr hsp
theorem Fun.okC {x qual:Str}{st:Stmt}{f:Addr}{fd:FuncData}{N ps:List Str}{k:Nat}{sp:Sp}(F:Fun K x qual st f fd)(S:FnScope N ps (defScope st))(len:∀vs H Q E,sp vs H Q E→vs.length=ps.length)
 (hbody:∀(A:Around) (outer:List Env) (s:Shared) (H:Hp) (vs:List V) (Q:VK) (E:XK),Room k (A.deeper (envOfC qual (defScope st) s.heap.objs.size f fd.code))→sp vs H Q E→
  ∃t,PSs (cxOf CX0 P w K mg base N qual (defScope st) f fd.code A outer s H E).nox (defBody st) t∧t {nx:=fun _ H'=>Q .non H',rt:=Q} (start N vs) H):FnOk P w K mg base CX0 (k+1) f fd ps sp:=by
 obtain⟨oc,od,kV,doc,pm,an,cdv,ct,osl,rfl,lk,hcd⟩:=F.ex
 refine fn_of lk hcd S len fun A outer s H vs Q E hr hsp=>?_
 obtain⟨t,h,q⟩:=hbody A outer s H vs Q E hr hsp
 exact⟨t,h.nox,q⟩
end
def HasR (P:Program)(w:World)(K:W.Frag)(mg:Str→Option Value)(kr k:Nat)(x px:Str)(R:VK→VK)(Ec:VK→XK):Prop:=
 ∃(f:Addr) (fd:FuncData),(∀base,FnOk P w K mg base CX0 kr f fd [px] (spRef P w K mg base k R Ec))∧mg x=some (.ref f)∧PySem.W.keepIn K (.ref f)=true∧Binds K fd [px] []
section
variable {X:Cx}{T c:Addr}{params:Arguments}{body:Expr}{scope sc:Scope}{x:Str}{p lpos pos:Pos}{k kr k':Nat}{px:Str}{R:VK→VK}{Ec:VK→XK}{te:XK→TE}{N N0:List Str}{js:List Nat}
theorem pe_lambda (h:HasR X.prog X.w X.K X.mg kr (k+1) x px R Ec)(hr:Room k' X.A)(hcode:X.env.code=.ref c)(C:PySem.W.CodeHd X.base c T)(Bl:BltAt X.mg X.base)(hsc:X.env.scope=sc)(hN:X.N=N0)(S:LamS scope)(B:Blk sc N0 N 0 js scope)
 (hbody:∀(base:Heap) (E:XK) (cl:List (Str×Addr)) (f:Addr) (cd:Value) (A:Around) (outer:List Env) (s:Shared) (H:Hp),Room k (A.deeper (PySem.W.envX (lamQ X) scope s.heap.objs.size f cd cl))→
  PE (lamCx X.prog X.w X.K X.mg base N (lamQ X) scope cl f cd A outer s H E) body (te E))
 (hfn:∀x,X.fn x=true:=by intro _;rfl) (hk:kr≤k':=by decide) (hg:Gl X x:=by rfl)
 (hbind:∀cl pm cd ctv,bindArgs (PySem.W.kla_fn "<lambda>" (lamQ X) params body scope cl pm cd ctv) ⟨[],[]⟩=pure []:=by intros;rfl)
 (hdef:defaultsOf params X.env=([],[]):=by rfl) (hdb:(x==("__debug__" : Str))=false:=by decide):PE X (.Call (.Name x p) [.Lambda params body scope lpos] [] pos) (tRef X T params body scope js R Ec te):=by
 subst hsc hN
 obtain⟨f,fd,F,m,kp,b⟩:=h
 exact pe_refuse F (hr.mono hk) hg m kp b hfn hcode C Bl S B rfl hbody hbind hdef hdb
end
theorem for_items {J:It}{g:TG}{tb:TS}{D:Ends}{σ:St}{H:Hp}(n:Nat)(itm:Nat→Hp→V→Prop)(Pv:Nat→St→Hp→Prop)(h0:Pv 0 σ H)
 (items:∀i σ H,i≤n→Pv i σ H→(i<n→J.go i H∧∀x H2,J.yld i H x H2→Same H H2∧itm i H2 x)∧(n≤i→J.stop i H))
 (hs:∀i x σ H H2,i<n→Pv i σ H→Same H H2→itm i H2 x→g x σ H2 fun σ2 H3=>tb {D with nx:=Pv (i+1),ct:=Pv (i+1),bk:=D.nx} σ2 H3) (hd:∀σ H,Pv n σ H→D.nx σ H) :
 ∃W:Nat→Nat→St→Hp→Prop,(∃m,W 0 m σ H)∧∀i m σ H,W i m σ H→
  (J.stop i H∧D.nx σ H)∨(J.go i H∧∃N:St→Hp→Prop,(∀σ' H',N σ' H'→∃m',m'<m∧W (i+1) m' σ' H')∧∀x H',J.yld i H x H'→g x σ H' fun σ2 H2=>tb {D with nx:=N,ct:=N,bk:=D.nx} σ2 H2):=by
 refine⟨fun i m σ H=>m+i=n∧Pv i σ H,⟨n,rfl,h0⟩,fun i m σ H hw=>?_⟩
 obtain⟨e,p⟩:=hw
 have it:=items i σ H (by omega) p
 cases m with
 |zero=>
  obtain rfl:i=n:=by omega
  exact .inl ⟨it.2 (Nat.le_refl _),hd σ H p⟩
 |succ m=>
  obtain⟨go,yl⟩:=it.1 (by omega)
  refine .inr ⟨go,Pv (i+1),fun σ' H' q=>⟨m,Nat.lt_succ_self _,by omega,q⟩,fun x H' y=>?_⟩
  obtain⟨sm,im⟩:=yl x H' y
  exact hs i x σ H H' (by omega) p sm im
section
variable {X:Cx}
def rEqNil (K:W.Frag):R2:=fun x y H Q=>∃(a b:Addr) (xs:List V),x=.ref a∧y=.ref b∧SqL K H a xs∧SqL K H b []∧Q (.bl xs.isEmpty) H
theorem op_eqNil (hu:X.A.units<cLine):OpR X (compareOp .Eq) (rEqNil X.K):=by
 intro pins s σ H x y v u Q I rx ry h
 obtain⟨a,b,xs,rfl,rfl,ha,hb,q⟩:=h
 cases rx
 cases ry
 obtain⟨its,r1,p1,_⟩:=I.list ha
 obtain⟨its2,r2,p2,_⟩:=I.list hb
 cases r2
 cases r1 with
 |nil=>exact SeqAt.eq_listAt (e:=fun _=>true) p1.isList p2.isList rfl hu (fun j h1=>absurd h1 (by simp)) ⟨.bl true,H,I,rfl,q⟩
 |cons h t=>exact SeqAt.eq_list_lengthsAt p1.isList p2.isList (by simp) hu ⟨.bl false,H,I,rfl,q⟩
end
theorem ps_calm {X:Cx}{st:Stmt}{t:TS}(h:PS X.nox st t):PS X st t:=fun pins s σ H D I hw=>
 wpAny_mono (h pins s σ H D (I.wish _) hw) (fun _ _ q=>SP.unwish q) (fun _ _=>False.elim)
def tMid (t:TS):TS:=fun D σ H=>∃mid:St→Hp→Prop,t {D with nx:=mid} σ H∧∀σ' H',mid σ' H'→D.nx σ' H'
theorem ps_mid {X:Cx}{st:Stmt}{t:TS}(h:PS X st t):PS X st (tMid t):=fun pins s σ H D I ⟨mid,h1,h2⟩=>
 wpAny_mono (h pins s σ H _ I h1) (fun f s' q=>by
  cases f with
  |next=>obtain⟨σ',H',I',q⟩:=q;exact⟨σ',H',I',h2 _ _ q⟩
  |brk=>exact q
  |cont=>exact q
  |ret v=>exact q) fun _ _ z=>z
theorem fresh2 {n c:Nat}(z:c=n+1∨c=n):n≤c:=by omega
abbrev enU (g:Heap)(e:Addr)(k:Int):Heap:=(g.update e (Obj.mapFields fun x=>x.setIfInBounds 3 (rawInt (k+1)))).update e (Obj.mapFields fun x=>x.setIfInBounds 4 Value.none)
abbrev enF (g:Heap)(e:Addr)(k:Int)(tk:Nat)(x:Value):Heap:=
 ((((enU g e k).push {cls:=.type "tuple",data:=.seq #[.int k tk,x]}).update e (Obj.mapFields fun y=>y.setIfInBounds 5 x)).update e (Obj.mapFields fun y=>y.setIfInBounds 0 (rawInt ((enU g e k).objs.size:Nat)))).update e (Obj.mapFields fun y=>y.setIfInBounds 1 (Value.bool false))
abbrev cell0:Obj:={cls:=.type "cell",data:=.cell none}
theorem relab_back1 {env:Env}{t:Str}:∀{ns:List (Str×NameKind)} {x:Str} {k:NameKind},(∀y∈ns,y.2=.cell→y.1=t)→(k=.cell∨k=.free)→
 (ns.map fun(n,k)=>if(k==NameKind.free&&env.scope.kind==.function&&env.kindOf n==some .cell) then(n,NameKind.cell) else(n,k)).lookup x=some k→x=t∨(x,NameKind.free)∈ns
 |[],_,_,_,_,h=>by simp at h
 |(n,k')::r,x,k,nc,hk,h=>by
  rw[map_cons]at h
  have ih:=relab_back1 (env:=env) (t:=t) (ns:=r) (x:=x) (k:=k) (fun y hy=>nc y (mem_cons_of_mem _ hy)) hk
  cases e:x==n with
  |true=>
   have ex:x=n:=by simpa using e
   subst ex
   cases k' with
   |free=>exact .inr mem_cons_self
   |cell=>exact .inl (nc (x,.cell) mem_cons_self rfl)
   |_=>
    dsimp only at h
    rw[if_neg (by simp),lookup_cons,e]at h
    rcases hk with z | z<;>(subst z;simp at h)
  |false=>
   dsimp only at h
   have h':(r.map fun(n,k)=>if(k==NameKind.free&&env.scope.kind==.function&&env.kindOf n==some .cell) then(n,NameKind.cell) else(n,k)).lookup x=some k:=by
    split at h<;>(rw[lookup_cons,e]at h;exact h)
   exact(ih h').elim .inl fun z=>.inr (mem_cons_of_mem _ z)
def blk1 (X:Cx)(t:Str)(N:List Str)(scope:Scope)(cl:List (Str×Addr))(C:Addr)(s:Shared)(H:Hp)(fp:List Addr):Cx:={blk X N scope cl C s H fp with fn:=fun x=>x==t}
structure Blk1 (t:Str)(sc:Scope)(N0:List Str)(N:List Str)(nt:Nat)(js:List Nat)(scope:Scope):Prop where
 kind:scope.kind=.function
 loc:∀y∈scope.names,y.2=.local→scope.names.lookup y.1=some .local
 one:∀n cl,cellsFrom n scope.names cl=(t,n)::cl
 lay:∀h,pushCells h scope.names=h.push cell0
 only:∀y∈scope.names,y.2=.cell→y.1=t
 cap:∀y∈scope.names,y.2=.free→sc.names.lookup y.1=some .cell∨sc.names.lookup y.1=some .free
 nf:∀y∈scope.names,y.2=.free→y.1≠t
 len:N.length=nt+js.length
 out:N.drop nt=js.map fun j=>N0.getD j ""
 js:∀j∈js,j<N0.length
 fr:∀x∈N.drop nt,scope.names.lookup x=some .free
 nd:N.Nodup
section
variable {M:Model}{A:Around}{E:Value→Shared→Prop}{s:Shared}
theorem env_cell {scope:Scope}{gl:Addr}{cl:List (Str×Addr)}{qual:Str}{env:Env}{t:Str}{Q:Env→Shared→Prop}(one:∀n cl,cellsFrom n scope.names cl=(t,n)::cl)(lay:∀h,pushCells h scope.names=h.push cell0)
 (q:Q (newEnv scope s.heap.objs.size gl ((t,s.heap.objs.size+1)::cl) qual none .none (some env) builtinsNs) {s with heap:=(s.heap.push {cls:=.type "dict",data:=.dict #[]}).push cell0}) :
 wpAny M A (newFunctionEnv scope gl cl [] qual none .none (some env)) Q E s:=by
 unfold newFunctionEnv
 refine wpAny_bind (wpAny_alloc (wpAny_bind (wpAny_layCells _ (fun _ _ _=>rfl) scope.names cl _ _ ?_)))
 rw[one,lay]
 have e:(s.heap.push {cls:=.type "dict",data:=.dict #[]}).objs.size=s.heap.objs.size+1:=size_push ..
 rw[←e]at q
 exact wpAny_bind (wpAny_pure (wpAny_pure q))
end
section
variable {X:Cx}{pins:List (Addr×Obj)}{σ:St}{H:Hp}{s:Shared}{t:Str}{N:List Str}{nt:Nat}{js:List Nat}{scope:Scope}{cl:List (Str×Addr)}{fp:List Addr}
theorem look_ne {t x:Str}{c:Addr}{cl:List (Str×Addr)}(h:x≠t):((t,c)::cl).lookup x=cl.lookup x:=by
 rw[lookup_cons,show(x==t)=false from beq_eq_false_iff_ne.mpr h]
theorem look_at {t:Str}{c:Addr}{cl:List (Str×Addr)}:((t,c)::cl).lookup t=some c:=by
 rw[lookup_cons,show(t==t)=true from beq_self_eq_true t]
theorem look_or {t x:Str}{c c':Addr}{cl:List (Str×Addr)}(h:((t,c)::cl).lookup x=some c'):(x=t∧c'=c)∨(x≠t∧cl.lookup x=some c'):=by
 by_cases e:x=t
 ·subst e;rw[look_at]at h;cases h;exact .inl ⟨rfl,rfl⟩
 ·rw[look_ne e]at h;exact .inr ⟨e,h⟩
theorem blk1_start {h':Heap}{tk:Nat}(I:Inv X pins σ H s)(B:Blk1 t X.env.scope X.N N nt js scope)
 (c1:∀x c,cl.lookup x=some c→X.env.cells.lookup x=some c) (c2:∀x,(x,NameKind.free)∈scope.names→∃c,cl.lookup x=some c)
 (hf:∀b∈fp,FpOk X pins H b) (hlt:∀b∈fp,b<s.heap.objs.size)
 (kp:∀b o,s.heap.get? b=some o→h'.get? b=some o) (hC:h'.Ns (s.heap.objs.size+1) fun _=>none) (hc:h'.IsCell (s.heap.objs.size+2) none)
 (hD:h'.get? s.heap.objs.size=some {cls:=.type "list",data:=.seq ([]:List Value).toArray 0}) :
 Inv (blk1 X t N scope ((t,s.heap.objs.size+2)::cl) (s.heap.objs.size+1) s H fp) [] (inner nt js σ) (upd H s.heap.objs.size (.lst [])) {s with heap:=h',toks:=tk}:=by
 have hfr:∀a,s.heap.objs.size≤a→H a=none:=fun a ha=>I.hok.fresh ha
 have cold:∀x c,X.env.cells.lookup x=some c→c<s.heap.objs.size:=fun x c e=>by
  obtain⟨v,q⟩:=I.cell x c e
  exact q.lt
 have two:s.heap.objs.size≤s.heap.objs.size+2:=Nat.le_add_right _ 2
 have far:∀{x c},cl.lookup x=some c→c≠s.heap.objs.size+2:=fun{x c} e z=>by
  have q:=cold x c (c1 x c e)
  rw[z]at q
  exact absurd (Nat.lt_of_lt_of_le q two) (Nat.lt_irrefl _)
 have inj:∀x y c,((t,s.heap.objs.size+2)::cl).lookup x=some c→((t,s.heap.objs.size+2)::cl).lookup y=some c→x=y:=fun x y c a b=>by
  rcases look_or a with⟨e1,e2⟩ | ⟨_,e2⟩<;>rcases look_or b with⟨e3,e4⟩ | ⟨_,e4⟩
  ·rw[e1,e3]
  ·exact absurd e2 (far e4)
  ·exact absurd e4 (far e2)
  ·exact I.ok.inj x y c (c1 x c e2) (c1 y c e4)
 refine⟨⟨I.ok.mod,B.kind,I.ok.glob,I.ok.blt,Nat.le_succ _,inj,fun x hx=>?_,fun x c z e=>?_,I.ok.hd,I.ok.frames,.inl rfl,fun b hb=>?_,I.bs,Nat.le_trans I.ok.bsz I.sz,fun b o e hb=>?_,fun b hb z=>?_,I.stack,I.stkFree⟩,
  rfl,I.bare,Un.laid kp (Nat.le_refl _) (hfr _ (Nat.le_refl _)),⟨_,hC,fun i x v h1 h2 h3=>?_⟩,fun x c e=>?_,?_,fun x c e=>?_,fun p hp=>absurd (show p∈([]:List (Addr×Obj)) from hp) (by simp),I.hok.laid kp (Nat.le_refl _) ⟨Nat.zero_le _,[],0,.nil,hD⟩,?_⟩
 ·have:x=t∨(x,NameKind.free)∈scope.names:=hx.elim (fun z=>relab_back1 B.only (.inl rfl) z) fun z=>relab_back1 B.only (.inr rfl) z
  rcases this with z | z
  ·rw[z];exact⟨s.heap.objs.size+2,look_at⟩
  ·obtain⟨c,e⟩:=c2 x z
   exact⟨c,(look_ne (B.nf _ z rfl)).trans e⟩
 ·have xt:x=t:=by simpa using(show(x==t)=true from z)
  rcases look_or (show((t,s.heap.objs.size+2)::cl).lookup x=some c from e) with⟨_,e⟩ | ⟨ne,_⟩
  ·rw[e];exact two
  ·exact absurd xt ne
 ·refine⟨Nat.ne_of_lt (Nat.lt_succ_of_lt (hlt b hb)),fun x c e=>?_⟩
  rcases look_or e with⟨_,e⟩ | ⟨_,e⟩
  ·rw[e];exact Nat.ne_of_gt (Nat.lt_of_lt_of_le (hlt b hb) two)
  ·exact(hf b hb).2.2.2.2.1 x c (c1 x c e)
 ·rcases(hf b hb).2.2.2.1 with z | z
  ·exact I.ok.noex b o e z
  ·exact absurd (Nat.lt_of_lt_of_le (lt_size (I.ok.bs b o e).1) z) (Nat.lt_irrefl _)
 ·rcases mem_cons.mp (I.stkSub b z) with q | q
  ·exact(hf b hb).2.1 q
  ·exact(hf b hb).2.2.1 q
 ·obtain⟨k,j,rfl,hk,hv⟩:=inner_get h2
  have h1':(N.drop nt)[k]?=some x:=by rw[getElem?_drop];exact h1
  have hxm:x∈N.drop nt:=mem_of_getElem? h1'
  have hfree:scope.names.lookup x=some .free:=B.fr x hxm
  have hj:X.N[j]?=some x:=by
   rw[B.out,getElem?_map,hk]at h1'
   have hjl:j<X.N.length:=B.js j (mem_of_getElem? hk)
   rw[List.getElem?_eq_getElem hjl]
   have e:X.N.getD j "" = x:=by simpa using h1'
   rw[←e]
   simp[getD_eq_getElem?_getD,List.getElem?_eq_getElem hjl]
  have hmem:=PySem.mem_of_lookup hfree
  have hcap:=B.cap _ hmem rfl
  obtain⟨m,hn,hl⟩:=I.loc
  obtain⟨u,ru,lk⟩:=hl j x v hj hv (hcap.elim (fun z=>.inr (.inl z)) fun z=>.inr (.inr z))
  refine⟨u,ru,.inr ⟨relab_free hfree,?_⟩⟩
  rcases lk with⟨z,_⟩ | ⟨_,c,e,q⟩
  ·exact absurd (show X.env.scope.names.lookup x=some .local from z) (by rcases hcap with y | y<;>(rw[y];decide))
  ·obtain⟨c',e'⟩:=c2 x hmem
   have ec:=c1 x c' e'
   rw[e]at ec
   cases ec
   obtain⟨o,ho,hd⟩:=q
   exact⟨c,(look_ne (B.nf _ hmem rfl)).trans e',o,kp c o ho,hd⟩
 ·rcases look_or e with⟨_,e⟩ | ⟨_,e⟩
  ·exact⟨none,e▸hc⟩
  ·obtain⟨v,o,ho,hd⟩:=I.cell x c (c1 x c e)
   exact⟨v,o,kp c o ho,hd⟩
 ·show upd H _ _ (s.heap.objs.size+1)=none
  rw[upd_ne (Nat.ne_of_gt (Nat.lt_succ_self _))]
  exact hfr _ (Nat.le_succ _)
 ·show upd H _ _ c=none
  rcases look_or e with⟨_,e⟩ | ⟨_,e⟩
  ·rw[e,upd_ne (Nat.ne_of_gt (Nat.lt_succ_of_lt (Nat.lt_succ_self _)))]
   exact hfr _ two
  ·rw[upd_ne (Nat.ne_of_lt (cold x c (c1 x c e)))]
   exact I.freeC x c (c1 x c e)
 ·show(inner nt js σ).length=N.length
  unfold inner
  rw[length_append,length_replicate,length_map,B.len]
end
theorem pe_compC {X:Cx}(t:Str){elt tg iter:Expr}{ifs:List Expr}{scope:Scope}{pos:Pos}{N:List Str}{nt:Nat}{js:List Nat}{sc:Scope}{N0:List Str}{wi:TI}{g:TG}{tt:TT}{te:TE}
 (hc:X.calm=true) (hsc:X.env.scope=sc) (hN:X.N=N0) (B:Blk1 t sc N0 N nt js scope) (hi:PI X tg iter wi)
 (hg:∀cl C s H fp,PG (blk1 X t N scope cl C s H fp) tg g) (ht:∀cl C s H fp,PTs (blk1 X t N scope cl C s H fp) ifs tt) (he:∀cl C s H fp,PE (blk1 X t N scope cl C s H fp) elt te)
 (hs:∀x,foldedSetIterable iter X.env x=pure x:=by intro _;rfl):PE X (.ListComp elt [⟨tg,iter,ifs,0⟩] scope pos) (tComp nt js wi g tt te):=by
 subst hsc hN
 intro pins s σ H Q I h
 obtain⟨cl,hcl,c1,c2⟩:=clos_of (env:=X.env) (scope:=scope) fun y hy hk=>I.ok.has y.1 (B.cap y hy hk)
 rw[eval_ListComp]
 refine wpAny_comprehension_free (use:=none) rfl hs hcl B.kind B.loc (thn (hi pins s σ H _ I h) fun v s1 q1=>thn q1 fun itv s2 q2=>?_)
 obtain⟨it,fp,tn,J,H2,e,I2,T,st2,f2,q2⟩:=q2
 subst e
 obtain⟨W,⟨m0,w0⟩,turn⟩:=q2 s2.heap.objs.size (I2.hok.fresh (Nat.le_refl _))
 have hlt:∀b∈fp,b<s2.heap.objs.size:=fun b hb=>by
  obtain⟨o,eo,_⟩:=T.obj _ _ st2 b hb
  exact lt_size eo
 refine wpAny_newObj_type (env_cell B.one B.lay ?_)
 have hsz:(s2.heap.push {cls:=.type "list",dict:=none,data:=.seq ([]:List Value).toArray}).objs.size=s2.heap.objs.size+1:=by rw[size_push]
 dsimp only
 generalize hh1:((s2.heap.push {cls:=.type "list",dict:=none,data:=.seq ([]:List Value).toArray}).push {cls:=.type "dict",data:=.dict #[]}).push cell0=h1
 have old:∀b o,s2.heap.get? b=some o→h1.get? b=some o:=fun b o eb=>by rw[←hh1];exact get?_push_of_some _ (get?_push_of_some _ (get?_push_of_some _ eb))
 have hD:h1.get? s2.heap.objs.size=some {cls:=.type "list",data:=.seq ([]:List Value).toArray 0}:=by rw[←hh1];exact get?_push_of_some _ (get?_push_of_some _ (get?_push_size _ rfl))
 have hns:h1.Ns (s2.heap.objs.size+1) fun _=>none:=by
  have e:=(Heap.Ns.new (s2.heap.push {cls:=.type "list",dict:=none,data:=.seq ([]:List Value).toArray}) (.type "dict")).keeps fun b o q=>get?_push_of_some cell0 q
  rw[hsz]at e
  rw[←hh1]
  exact e
 have hcl1:h1.IsCell (s2.heap.objs.size+2) none:=by
  rw[←hh1]
  exact⟨cell0,get?_push_at (by rw[size_push,hsz]) rfl,rfl⟩
 rw[hsz]
 have I3:=blk1_start (cl:=cl) (fp:=fp) (tk:=s2.toks) I2 B c1 c2 f2 hlt old hns hcl1 hD
 have stat:∀{H':Hp},(∀b∈fp,H' b=none)→∀b∈fp,FpOk (blk1 X t N scope ((t,s2.heap.objs.size+2)::cl) (s2.heap.objs.size+1) s2 H2 fp) [] H' b:=fun{H'} hn b hb=>
  ⟨hn b hb,Nat.ne_of_lt (Nat.lt_succ_of_lt (hlt b hb)),fun z=>(mem_cons.mp (I2.stkSub b z)).elim (f2 b hb).2.1 (f2 b hb).2.2.1,.inl hb,fun x c ec=>(look_or ec).elim (fun z=>z.2▸Nat.ne_of_gt (Nat.lt_of_lt_of_le (hlt b hb) (Nat.le_add_right _ 2))) (fun z=>(f2 b hb).2.2.2.2.1 x c (c1 x c z.2)),fun p hp=>absurd (show p∈([]:List (Addr×Obj)) from hp) (by simp)⟩
 have fin:∀{i:Nat} {σ':St} {H':Hp} {s':Shared},Inv (blk1 X t N scope ((t,s2.heap.objs.size+2)::cl) (s2.heap.objs.size+1) s2 H2 fp) [] σ' H' s'→Q (.ref s2.heap.objs.size) H'→
  compPost (model X.prog X.w) X.A X.xe none (EP X pins σ Q) (.ref s2.heap.objs.size) (s2.heap.objs.size+1) (.ok .next) s':=fun{i σ' H' s'} Ib q=>by
  obtain⟨m,hn,_⟩:=id Ib.loc
  refine⟨m,hn,fun h'' hs''=>?_⟩
  have I4:Inv X pins σ H' s':=I2.call' Ib.os Ib.base Ib.hok Ib.bare fun b hb=>⟨(f2 b hb).2.2.2.1,(f2 b hb).2.1,(f2 b hb).2.2.2.2.1,(f2 b hb).2.2.2.2.2⟩
  obtain⟨g0,g1,g2,g3,g4,g5⟩:=I2.fpOk (H':=H') (Nat.le_succ _) Ib.free
  exact⟨.ref s2.heap.objs.size,H',I4.turned (t':=s'.toks) (fun b o hb eb=>hs''.extBut b o hb eb) g0 g1 g3 g4 g5,rfl,q⟩
 have loop:codeAny (model X.prog X.w) X.A (.compLoop (.ListComp elt [⟨tg,iter,ifs,0⟩] scope pos) 0 (.ref it) (.ref s2.heap.objs.size) (compEnvC scope ((t,s2.heap.objs.size+2)::cl) (s2.heap.objs.size+1) X.env))
  (compPost (model X.prog X.w) X.A X.xe none (EP X pins σ Q) (.ref s2.heap.objs.size) (s2.heap.objs.size+1)) {s2 with heap:=h1}:=by
  refine comp_turns (fun n s'=>∃i σ' H',Inv (blk1 X t N scope ((t,s2.heap.objs.size+2)::cl) (s2.heap.objs.size+1) s2 H2 fp) [] σ' H' s'∧tn i s'.heap∧(∀b∈fp,H' b=none)∧W i n σ' H') ?_ m0
   ⟨0,_,_,I3,T.keep _ _ _ st2 fun b _ o eb=>old b o eb,fun b hb=>?_,w0⟩
  ·rintro n s3 ⟨i,σ3,H3,J3,st3,fr3,w3⟩
   rcases turn i n σ3 H3 w3 with⟨stop,qn⟩ | ⟨go,step⟩
   ·refine thn (T.done (blk1 X t N scope ((t,s2.heap.objs.size+2)::cl) (s2.heap.objs.size+1) s2 H2 fp) rfl rfl rfl hc i [] s3 σ3 H3 _ J3 (stat fr3) st3 stop) fun r s4 ⟨hr,I4⟩=>?_
    subst hr
    exact fin (i:=i) I4 qn
   ·refine thn (T.item (blk1 X t N scope ((t,s2.heap.objs.size+2)::cl) (s2.heap.objs.size+1) s2 H2 fp) rfl rfl rfl hc i [] s3 σ3 H3 _ J3 (stat fr3) st3 go) fun r s4 ⟨u,hr,h4⟩=>?_
    subst hr
    refine thn h4 fun _ s5 ⟨x,H5,I5,r5,y5,st5,fr5⟩=>?_
    have I5':=I5.pinned (stat fr5) (T.obj _ _ st5)
    refine thn (hg _ _ _ _ _ _ s5 σ3 H5 x u _ I5' r5 (step x H5 y5)) fun _ s6 ⟨σ6,H6,I6,q6⟩=>?_
    have again:∀{σ7:St} {H7:Hp} {s7:Shared} {k:Nat},Inv (blk1 X t N scope ((t,s2.heap.objs.size+2)::cl) (s2.heap.objs.size+1) s2 H2 fp) ([]++pinsAt fp s5.heap) σ7 H7 s7→k<n→W (i+1) k σ7 H7→
     ∃k,k<n∧∃i σ' H',Inv (blk1 X t N scope ((t,s2.heap.objs.size+2)::cl) (s2.heap.objs.size+1) s2 H2 fp) [] σ' H' s7∧tn i s7.heap∧(∀b∈fp,H' b=none)∧W i k σ' H':=fun{σ7 H7 s7 k} I7 hk w7=>by
     refine⟨k,hk,i+1,σ7,H7,I7.unpinned,T.keep _ _ _ st5 fun b hb o eb=>(I7.pin (b,o) (mem_append_right _ (mem_append_right _ (mem_pinsAt hb eb)))).1,fun b hb=>?_,w7⟩
     obtain⟨o,eb,_⟩:=T.obj _ _ st5 b hb
     exact(I7.pin (b,o) (mem_append_right _ (mem_append_right _ (mem_pinsAt hb eb)))).2.1
    refine thn (ht _ _ _ _ _ _ s6 σ6 H6 _ I6 q6) fun ok s7 ⟨H7,I7,q7⟩=>?_
    cases ok with
    |false=>
     rw[if_neg Bool.false_ne_true]at q7 ⊢
     obtain⟨k,hk,w7⟩:=q7
     exact again I7 hk w7
    |true=>
     rw[if_pos rfl]at q7 ⊢
     refine thn (he _ _ _ _ _ _ s7 σ6 H7 _ I7 q7) fun y s8 ⟨v8,H8,I8,r8,ys,e8,z8,k,hk,w8⟩=>?_
     refine thn (mt_append _ s8 σ6 H8 (.ref s2.heap.objs.size) [v8] _ [y] (fun _ H9=>W (i+1) k σ6 H9) I8 rfl (.cons r8 .nil) ⟨_,ys,v8,rfl,rfl,e8,z8,w8⟩) fun _ s9 ⟨_,H9,I9,_,w9⟩=>?_
     exact again I9 hk w9
  ·show upd H2 _ _ b=none
   rw[upd_ne (Nat.ne_of_lt (hlt b hb))]
   exact(f2 b hb).1
 exact codeAny_compStart_list loop (T.self _ 0 _ _ _ (T.keep _ _ _ st2 fun b _ o eb=>old b o eb) loop)
section
variable {X:Cx}{elt iter:Expr}{ifs:List Expr}{scope:Scope}{pos:Pos}{N:List Str}{js:List Nat}{sc:Scope}{N0:List Str}{wi:TI}{tt:TT}{te:TE}{x:Str}{px:Pos}
theorem relab_cell {env:Env}:∀{ns:List (Str×NameKind)} {x:Str},ns.lookup x=some .cell→
 (ns.map fun(n,k)=>if(k==NameKind.free&&env.scope.kind==.function&&env.kindOf n==some .cell) then(n,NameKind.cell) else(n,k)).lookup x=some .cell
 |[],_,h=>by simp at h
 |(n,k)::r,x,h=>by
  rw[lookup_cons]at h
  rw[map_cons]
  dsimp only
  cases e:x==n with
  |true=>
   rw[e]at h
   have:k=.cell:=by simpa using h
   subst this
   split<;>rw[lookup_cons,e]
  |false=>
   rw[e]at h
   split<;>(rw[lookup_cons,e];exact relab_cell h)
theorem blk1_cell {cl:List (Str×Addr)}{C:Addr}{s:Shared}{H:Hp}{fp:List Addr}{t:Str}(h:scope.names.lookup x=some .cell):(blk1 X t N scope cl C s H fp).env.scope.names.lookup x=some .cell:=relab_cell h
theorem pe_compC1 (hc:X.calm=true)(hsc:X.env.scope=sc)(hN:X.N=N0)(B:Blk1 x sc N0 (x::N) 1 js scope)(hx:scope.names.lookup x=some .cell)(hi:PI X (.Name x px) iter wi)
 (ht:∀cl C s H fp,PTs (blk1 X x (x::N) scope cl C s H fp) ifs tt) (he:∀cl C s H fp,PE (blk1 X x (x::N) scope cl C s H fp) elt te)
 (hs:∀x,foldedSetIterable iter X.env x=pure x:=by intro _;rfl):PE X (.ListComp elt [⟨.Name x px,iter,ifs,0⟩] scope pos) (tComp 1 js wi (gName 0) tt te):=
 pe_compC x hc hsc hN B hi (fun cl C s H fp=>pg_name (i:=0) B.nd rfl (.inr (blk1_cell hx)) (.inl (beq_self_eq_true x))) ht he hs
end
section
variable {X:Cx}{tg:Expr}
def rLenK (K:W.Frag):List V→Hp→VK→Prop:=fun xs H Q=>∃p ys,xs=[.ref p]∧(SqL K H p ys∨SqT K H p ys)∧Q (.int ys.length) H
theorem call_lenK (K:W.Frag)(h:X.K=K):CallR X (.builtin "len") (rLenK K):=by subst h;exact call_len_seq
theorem op_notInK (K:W.Frag)(h:X.K=K):OpR X (compareOp .NotIn) (rIn K true):=by subst h;exact op_notIn_seq
theorem op_inK (K:W.Frag)(h:X.K=K):OpR X (compareOp .In) (rIn K false):=by subst h;exact op_in_seq
theorem pi_listK (K:W.Frag)(h:X.K=K){l:Expr}{tl:TE}(hl:PE X l tl):PI X tg l (iList K tl):=by subst h;exact pi_list hl
end
def Its (x:Str):It where
 go:=fun i _=>i<x.cps.size
 yld:=fun i H v H'=>H'=H∧∃c,x.cps[i]?=some c∧v=.str ⟨#[c]⟩
 stop:=fun i _=>x.cps.size≤i
theorem turn_str {P:Program}{w:World}{K:W.Frag}{tg:Expr}(it:Addr)(x:Str)(t:Tok)(ty:String)(hty:ty="str_ascii_iterator"∨ty="str_iterator"):Turn P w K tg (Its x) [it] it (fun i h=>h.IsStrIter it ty x t i) where
 mem:=by simp
 obj:=fun i h st b hb=>by
  rw[mem_singleton]at hb
  subst hb
  obtain⟨o,e,c,d⟩:=st
  exact⟨o,e,fun v z=>by rw[d]at z;cases z⟩
 keep:=fun i h h' ⟨o,e,r⟩ k=>⟨o,k it (by simp) o e,r⟩
 item:=by
  intro X hP hw hK hc i pins s σ H E I hf st hg
  subst hP hw hK
  obtain⟨f0,f1,f2,f3,f4,f5⟩:=hf it (by simp)
  have W:Walks X.prog X.w X.A it [it] [it] x.cps.size (SignAt x) (fun i h=>h.IsStrIter it ty x t i):=by
   rcases hty with rfl | rfl
   ·exact Walks.strAscii (I.ok.hd hc) it x t
   ·exact Walks.strWide (I.ok.hd hc) it x t
  refine W.item i s _ E hg st fun u h' tk hp st' kp=>?_
  obtain⟨c,u',hx,rfl⟩:=hp
  have I1:Inv X pins σ H {s with heap:=h',toks:=tk}:=I.turned (t':=tk) (fun b o hb e=>kp b o (by simpa using hb) e) f0 f1 f3 f4 f5
  obtain⟨o,e,hcl,d⟩:=id st'
  refine⟨_,rfl,go_of (s:={s with heap:=h',toks:=tk}) e hcl d ?_ ⟨.str ⟨#[c]⟩,H,I1,⟨_,rfl⟩,⟨rfl,c,hx,rfl⟩,st',fun b hb=>(hf b hb).1⟩⟩
  rcases hty with rfl | rfl<;>decide
 done:=by
   intro X hP hw hK hc i pins s σ H E I hf st hg
   subst hP hw hK
   obtain⟨f0,f1,f2,f3,f4,f5⟩:=hf it (by simp)
   have hx:x.cps[i]?=none:=Array.getElem?_eq_none hg
   rcases hty with rfl | rfl
   ·exact wpAny_pyNext_ascii_end (I.ok.hd hc) st hx fun h' kp=>⟨rfl,I.turned (t':=s.toks) (fun b o hb e=>kp b o hb e) f0 f1 f3 f4 f5⟩
   ·exact wpAny_pyNext_wide_end (I.ok.hd hc) st hx fun h' kp=>⟨rfl,I.turned (t':=s.toks) (fun b o hb e=>kp b o hb e) f0 f1 f3 f4 f5⟩
 self:=fun A i s Q E st h=>by
  rcases hty with rfl | rfl
  ·exact wpAny_pyIter_striter_ascii st h
  ·exact wpAny_pyIter_striter_wide st h
theorem strIter_or (x:Str):strIterType x="str_ascii_iterator"∨strIterType x="str_iterator":=by
 unfold strIterType
 split
 ·exact .inl rfl
 ·exact .inr rfl
section
variable {X:Cx}{tg:Expr}
def iStr (te:TE):TI:=fun σ H R=>te σ H fun v H1=>∃x:Str,v=.str x∧R (Its x) H1
theorem pi_str {e:Expr}{te:TE}(he:PE X e te):PI X tg e (iStr te):=by
 intro pins s σ H R I h
 refine thn (he pins s σ H _ I h) fun v s1 ⟨y,H1,I1,r1,x,e1,q⟩=>?_
 subst e1
 obtain⟨t,rfl⟩:=(show ∃t,v=Value.str x t from r1)
 refine wpAny_pyIter_strU ?_
 refine⟨s1.heap.objs.size,[s1.heap.objs.size],_,_,H1,rfl,I1.kept (t':=s1.toks) fun b o e=>get?_push_of_some _ e,turn_str _ x t _ (strIter_or x),⟨_,get?_push_size _ rfl,rfl,rfl⟩,fun b hb=>?_,q⟩
 have e:b=s1.heap.objs.size:=by simpa using hb
 subst e
 exact I1.fpOk (Nat.le_refl _) (I1.hok.fresh (Nat.le_refl _))
theorem items_str {x:Str}{H1:Hp}(i:Nat)(H:Hp)(s:Same H1 H) :
 (i<x.cps.size→(Its x).go i H∧∀v H2,(Its x).yld i H v H2→Same H H2∧∃c,x.cps[i]?=some c∧v=.str ⟨#[c]⟩)∧(x.cps.size≤i→(Its x).stop i H):=
 ⟨fun hi=>⟨hi,fun v H2 ⟨e,y⟩=>by subst e;exact⟨Same.refl _,y⟩⟩,fun hi=>hi⟩
theorem kit_str {K:W.Frag}{H:Hp}{v:V}{T:String}(h:Kn H v T):PySem.W.kitOne K (.type T) (.type "str")=some (subT T "str"):=by
 cases h<;>rfl
theorem call_isiS:CallR X (.builtin "isinstance") (fun xs H Q=>∃x T,xs=[x,.ty "str"]∧Kn H x T∧Q (.bl (subT T "str")) H):=by
 intro pins s σ H xs us Q I r h
 obtain⟨x,T,rfl,hk,q⟩:=h
 obtain⟨u,c,rfl,rx,rc⟩:=vals2 r
 cases(show c=Value.type "str" from rc)
 exact isinst_ok I rx hk.ty (b:=subT T "str") (kit_str hk) fun tk=>⟨.bl (subT T "str"),H,I.tok tk,rfl,q⟩
def rStarts:V→List V→Hp→VK→Prop:=fun x vs H Q=>∃z y:Str,x=.str z∧vs=[.str y]∧Q (.bl (Txt.startswith z y)) H
theorem mt_starts:MtR X "str.startswith" rStarts:=by
 intro pins s σ H x xs v us Q I rx rv h
 obtain⟨z,y,rfl,rfl,q⟩:=h
 obtain⟨t,rfl⟩:=(show ∃t,v=Value.str z t from rx)
 obtain⟨u,rfl,ru⟩:=vals1 rv
 obtain⟨t',rfl⟩:=(show ∃t,u=Value.str y t from ru)
 exact SC.startswith ⟨.bl _,H,I,rfl,q⟩
def partV (z y:Str):List V:=match Builtin.Str.occurrences z y 0 z.length 1 with
 |i::_=>[.str (Builtin.Str.strSub z 0 i),.str y,.str (Builtin.Str.strSub z (i+y.length) z.length)]
 |[]=>[.str z,.str Str.empty,.str Str.empty]
def rPart:V→List V→Hp→VK→Prop:=fun x vs H Q=>∃z y:Str,x=.str z∧vs=[.str y]∧(y.length==0)=false∧z.length≤sizeLine∧∀p,H p=none→Q (.ref p) (upd H p (.tup (partV z y)))
theorem mt_part:MtR X "str.partition" rPart:=by
 intro pins s σ H x xs v us Q I rx rv h
 obtain⟨z,y,rfl,rfl,hy,hz,q⟩:=h
 obtain⟨t,rfl⟩:=(show ∃t,v=Value.str z t from rx)
 obtain⟨u,rfl,ru⟩:=vals1 rv
 obtain⟨t',rfl⟩:=(show ∃t,u=Value.str y t from ru)
 refine call_meets PySem.F.slot_str_partition (typeIs_str _ _ _) PySem.F.entry_str_partition (PySem.F.args_str_partition_2 _ _) (meets_str_partition z y t t' hy hz) ?_
 have q':=q s.heap.objs.size (I.hok.fresh (Nat.le_refl _))
 unfold partV at q'
 split
 ·rename_i i r e
  rw[e]at q'
  exact⟨.ref s.heap.objs.size,_,I.laid (a:=s.heap.objs.size) (t':=s.toks+1+1) (o:=.tup [.str (Builtin.Str.strSub z 0 i),.str y,.str (Builtin.Str.strSub z (i+y.length) z.length)]) (fun b o eb=>get?_push_of_some _ eb) (Nat.le_refl _) ⟨by show 3≤sizeLine;decide,_,.cons ⟨_,rfl⟩ (.cons ⟨_,rfl⟩ (.cons ⟨_,rfl⟩ .nil)),⟨_,get?_push_size _ rfl,rfl,_,rfl⟩⟩,rfl,q'⟩
 ·rename_i e
  rw[e]at q'
  exact⟨.ref s.heap.objs.size,_,I.laid (a:=s.heap.objs.size) (t':=s.toks+1) (o:=.tup [.str z,.str Str.empty,.str Str.empty]) (fun b o eb=>get?_push_of_some _ eb) (Nat.le_refl _) ⟨by show 3≤sizeLine;decide,_,.cons ⟨_,rfl⟩ (.cons ⟨_,rfl⟩ (.cons ⟨_,rfl⟩ .nil)),⟨_,get?_push_size _ rfl,rfl,_,rfl⟩⟩,rfl,q'⟩
def rJoin:V→List V→Hp→VK→Prop:=fun x vs H Q=>∃(z:Str) (l:Addr) (ts:List Str),x=.str z∧vs=[.ref l]∧H l=some (.lst (ts.map V.str))∧ts.toArray.foldl (fun a p=>a+p.length+z.length) 0≤sizeLine∧(Str.join z ts).length≤sizeLine∧Q (.str (Str.join z ts)) H
theorem strs_of:∀{ts:List Str} {us:List Value},Vals (ts.map V.str) us→∃l:List (Str×Tok),us=strValues l∧l.map (·.1)=ts
 |[],_,.nil=>⟨[],rfl,rfl⟩
 |z::ts,_,.cons r rs=>by
  obtain⟨l,rfl,e⟩:=strs_of rs
  obtain⟨t,rfl⟩:=(show ∃t,_=Value.str z t from r)
  exact⟨(z,t)::l,rfl,by rw[map_cons,e]⟩
theorem mt_join:MtR X "str.join" rJoin:=by
 intro pins s σ H x xs v us Q I rx rv h
 obtain⟨z,l,ts,rfl,rfl,hl,hz,hz2,q⟩:=h
 obtain⟨t,rfl⟩:=(show ∃t,v=Value.str z t from rx)
 obtain⟨u,rfl,ru⟩:=vals1 rv
 cases(show u=Value.ref l from ru)
 obtain⟨_,vs,n,rvs,ho⟩:_∧∃(its:List Value) (n:Nat),Vals (ts.map V.str) its∧s.heap.get? l=some {cls:=.type "list",data:=.seq its.toArray n}:=I.hok l _ hl
 obtain⟨ps,rfl,e⟩:=strs_of rvs
 refine call_meets PySem.F.slot_str_join (typeIs_str _ _ _) PySem.F.entry_str_join (PySem.F.args_str_join_2 _ _) (meets_str_join_list z t l ps ?_) ⟨⟨_,ho,rfl,_,rfl⟩,?_⟩
 ·rw[e]
  exact decide_eq_false (Nat.not_lt.mpr hz)
 ·rw[←e,←StrLaws.glued_eq_join]at q hz2
  match ps,q,hz2 with
  |[],q,hz2=>exact⟨hz2,.str _,H,I.tok _,⟨_,rfl⟩,q⟩
  |[p],q,hz2=>exact⟨.str p.1,H,I,⟨_,rfl⟩,by rw[StrLaws.glued_eq_join]at q;exact q⟩
  |p::p2::r,q,hz2=>exact⟨hz2,.str _,H,I.tok _,⟨_,rfl⟩,q⟩
theorem call_intS:CallR X (.type "int") (fun xs H Q=>∃(z:Str) (n:Int),xs=[.str z]∧PySem.intText? z=some n∧z.length≤640∧Q (.int n) H):=by
 intro pins s σ H xs us Q I r h
 obtain⟨z,n,rfl,hn,hl,q⟩:=h
 obtain⟨u,rfl,ru⟩:=vals1 r
 obtain⟨t,rfl⟩:=(show ∃t,u=Value.str z t from ru)
 exact PySem.W.KIN.call_text hn hl ⟨.int n,H,I.tok _,⟨_,rfl⟩,q⟩
def jTxt (te:TE)(t:TJ):TJ:=fun out σ H Q=>te σ H fun x H1=>∃z:Str,x=.str z∧z.length≤sizeLine∧(out++z).length≤sizeLine∧t (out++z) σ H1 Q
theorem pj_txt {e:Expr}{es:List Expr}{te:TE}{t:TJ}{pos:Pos}(he:PE X e te)(hr:PJ X es t):PJ X (.FormattedValue e (-1) none pos::es) (jTxt te t):=by
 intro out pins s σ H Q I h
 show wpAny _ _ (joinParts out (eval (.FormattedValue e (-1) none pos) X.env::evalEach es X.env)) _ _ _
 refine joinParts_cons (FormattedValue_plain (thn (he pins s σ H _ I h) fun u s1 ⟨x,H1,I1,rx,z,ex,hz0,hz,q⟩=>?_))
 subst ex
 obtain⟨tk,rfl⟩:=(show ∃t,u=Value.str z t from rx)
 refine formatField_str (fun t' tk'=>?_) hz0
 exact⟨hz,hr _ pins _ σ H1 Q (I1.tok _) q⟩
def tSlS (i:Int)(te:TE):TE:=fun σ H Q=>te σ H fun v H1=>∃z:Str,v=.str z∧z.length≤sizeLine∧Q (.str (Txt.slice z (some i) none)) H1
theorem pe_sliceS {e:Expr}{te:TE}{i:Int}{j:Nat}{p1 p2 pos:Pos}(he:PE X e te):PE X (.Subscript e (.Slice (some (.Constant (.int i) j p1)) none none p2) pos) (tSlS i te):=by
 intro pins s σ H Q I h
 refine Subscript_ (thn (he pins s σ H _ I h) fun v s1 ⟨x,H1,I1,r1,z,e1,hz,q⟩=>?_)
 subst e1
 obtain⟨t,rfl⟩:=(show ∃t,v=Value.str z t from r1)
 have one:=pe_int (X:=X) (i:=i) (j:=j) (pos:=p1) pins s1 σ H1 (fun v H2=>v=.int i∧H2=H1) I1 ⟨rfl,rfl⟩
 refine wpAny_Slice ?_
 rw[evalPart_some]
 refine thn one fun v2 s2 ⟨y,H2,I2,r2,e2,e3⟩=>?_
 subst e2 e3
 obtain⟨ti,rfl⟩:=(show ∃t,v2=Value.int i t from r2)
 rw[evalPart_none]
 refine wpAny_pure (wpAny_pure ?_)
 obtain⟨T,id,hT,ht,hg⟩:=SBH.sliceItem_sn (prog:=X.prog) (w:=X.w) (A:=X.A) (E:=X.xe) (x:=z) (t:=t) (s:=s2) (i:=i) (ui:=ti) (Q:=EP X pins σ Q) (P:=fun h'=>∀b o,s2.heap.get? b=some o→h'.get? b=some o) (fun h ob k b o e=>get?_push_of_some _ (k b o e)) (fun b o e=>e) (fun h' t' k kp=>⟨.str _,H2,I2.kept kp,⟨_,rfl⟩,q⟩) hz
 exact tail_any (ops:=[.ref s2.heap.objs.size,.str z t]) ht hT hg (by with_unfolding_all rfl)
end
section
variable {P:Program}{w:World}{A:Around}{E:Value→Shared→Prop}{s:Shared}{e i:Addr}{x:Str}{t:Tok}{ty:String}{k c:Nat}
theorem nx_sign (hty:ty="str_ascii_iterator"∨ty="str_iterator")(q:s.heap.IsStrIter i ty x t k)(hx:x.cps[k]?=some c){Q:Value→Shared→Prop}
 (hQ:∀h',h'.IsStrIter i ty x t (k+1)→Heap.SameBut i s.heap h'→Q (.str ⟨#[c]⟩ s.toks) {s with heap:=h',toks:=s.toks+1}):wpAny (model P w) A (Builtin.SmallTypes.nextOf (.ref i)) Q E s:=by
 rcases hty with rfl | rfl
 ·exact wpAny_nextOf_ascii_item q hx hQ
 ·exact wpAny_nextOf_wide_item q hx hQ
theorem en_walkS {old:Value}{Q:Option Value→Shared→Prop}(hty:ty="str_ascii_iterator"∨ty="str_iterator")(a1:e≠i)(he:IsEnum s.heap e i (k:Int) old)(q:s.heap.IsStrIter i ty x t k)(hx:x.cps[k]?=some c)
 (hQ:∀g2,g2.IsStrIter i ty x t (k+1)→Heap.SameBut i s.heap g2→IsEnum g2 e i (k:Int) old→Q (some (.ref (enU g2 e k).objs.size)) {s with heap:=enF g2 e k (s.toks+1) (.str ⟨#[c]⟩ s.toks),toks:=s.toks+1+1}) :
 wpAny (model P w) A (pyNext (.ref e)) Q E s:=by
 have hT:s.TypeIs (.ref e) "enumerate":=⟨_,he,rfl⟩
 unfold pyNext
 refine wpAny_bind (wpAny_attempt (wpAny_callSpecial?_slot (name:=Str.ofString "__next__") hT F.slot_enumerate_next (wpAny_call_entry F.slot_enumerate_next hT F.entry_enumerate_next ?_ (F.args_enumerate_next_1 _))))
 obtain⟨hp,g,d,tk,os⟩:=s
 show wpAny _ _ (field (.ref e) 2 >>= _) _ _ _
 refine wpAny_bind (wpAny_field he rfl (x:=.ref i) rfl (wpAny_bind (nx_sign hty q hx fun g2 r2 s2=>?_)))
 have e2:IsEnum g2 e i (k:Int) old:=s2.extBut _ _ a1 he
 have hQ':=hQ g2 r2 s2 e2
 unfold IsEnum at e2
 clear hQ r2 s2 q hx he hT
 wp_walk
 exact⟨_,rfl,wpAny_pure hQ'⟩
theorem en_itemS {old:Value}{Q:Option Value→Shared→Prop}(hty:ty="str_ascii_iterator"∨ty="str_iterator")(a1:e≠i)(he:IsEnum s.heap e i (k:Int) old)(q:s.heap.IsStrIter i ty x t k)(hx:x.cps[k]?=some c)
 (hQ:∀h',IsEnumOut h' e i ((k:Int)+1) (.str ⟨#[c]⟩ s.toks) s.heap.objs.size→h'.IsStrIter i ty x t (k+1)→h'.get? s.heap.objs.size=some {cls:=.type "tuple",data:=.seq #[.int k (s.toks+1),.str ⟨#[c]⟩ s.toks]}→
  (∀b o,b≠e→b≠i→s.heap.get? b=some o→h'.get? b=some o)→Q (some (.ref s.heap.objs.size)) {s with heap:=h',toks:=s.toks+1+1}) :
 wpAny (model P w) A (pyNext (.ref e)) Q E s:=by
 refine en_walkS hty a1 he q hx fun g2 r2 s2 e2=>?_
 have sz:(enU g2 e k).objs.size=s.heap.objs.size:=by
  show((g2.update e _).update e _).objs.size=_
  rw[size_after_update,size_after_update,s2.1]
 have el:e<s.heap.objs.size:=lt_size he
 have u1:=get?_update_self (Obj.mapFields fun x=>x.setIfInBounds 3 (rawInt ((k:Int)+1))) e2 rfl
 have u2:=get?_update_self (Obj.mapFields fun x=>x.setIfInBounds 4 Value.none) u1 rfl
 have u3:=get?_push_of_some {cls:=.type "tuple",data:=.seq #[.int k (s.toks+1),.str ⟨#[c]⟩ s.toks]} u2
 have u4:=get?_update_self (Obj.mapFields fun y=>y.setIfInBounds 5 (.str ⟨#[c]⟩ s.toks)) u3 rfl
 have u5:=get?_update_self (Obj.mapFields fun y=>y.setIfInBounds 0 (rawInt ((enU g2 e k).objs.size:Nat))) u4 rfl
 have u6:=get?_update_self (Obj.mapFields fun y=>y.setIfInBounds 1 (Value.bool false)) u5 rfl
 have out:∀{b:Addr} {o:Obj},b≠e→((enU g2 e k).push {cls:=.type "tuple",data:=.seq #[.int k (s.toks+1),.str ⟨#[c]⟩ s.toks]}).get? b=some o→(enF g2 e k (s.toks+1) (.str ⟨#[c]⟩ s.toks)).get? b=some o:=fun n z=>
  get?_update_of_ne _ (Ne.symm n) (get?_update_of_ne _ (Ne.symm n) (get?_update_of_ne _ (Ne.symm n) z))
 have inn:∀{b:Addr} {o:Obj},b≠e→g2.get? b=some o→(enF g2 e k (s.toks+1) (.str ⟨#[c]⟩ s.toks)).get? b=some o:=fun n z=>out n (get?_push_of_some _ (get?_update_of_ne _ (Ne.symm n) (get?_update_of_ne _ (Ne.symm n) z)))
 rw[sz]
 refine hQ _ ?_ (let⟨o,ho,r⟩:=r2;⟨o,inn (Ne.symm a1) ho,r⟩) (out (Nat.ne_of_gt el) (get?_push_at sz.symm rfl)) fun c o n1 n2 z=>inn n1 (s2.extBut _ _ n2 z)
 have u7:=u6
 unfold IsEnumOut
 rw[←sz]
 exact u7
theorem en_doneS {old:Value}{Q:Option Value→Shared→Prop}(hh:A.handled=none)(hty:ty="str_ascii_iterator"∨ty="str_iterator")(he:IsEnum s.heap e i (k:Int) old)(q:s.heap.IsStrIter i ty x t k)(hx:x.cps[k]?=none)
 (hQ:∀h',Heap.ExtBut i s.heap h'→Q none {s with heap:=h'}):wpAny (model P w) A (pyNext (.ref e)) Q E s:=by
 have hT:s.TypeIs (.ref e) "enumerate":=⟨_,he,rfl⟩
 unfold pyNext
 refine wpAny_bind (wpAny_attempt (wpAny_callSpecial?_slot (name:=Str.ofString "__next__") hT F.slot_enumerate_next (wpAny_call_entry F.slot_enumerate_next hT F.entry_enumerate_next ?_ (F.args_enumerate_next_1 _))))
 show wpAny _ _ (field (.ref e) 2 >>= _) _ _ _
 have done:∀{Q:Value→Shared→Prop} {E:Value→Shared→Prop},(∀h' e,Heap.ExtBut i s.heap h'→(∃o,h'.get? e=some o∧o.cls=.type "StopIteration")→E (.ref e) {s with heap:=h'})→wpAny (model P w) A.in1 (Builtin.SmallTypes.nextOf (.ref i)) Q E s:=fun hE=>by
  rcases hty with rfl | rfl
  ·exact wpAny_nextOf_ascii_end hh q hx hE
  ·exact wpAny_nextOf_wide_end hh q hx hE
 refine wpAny_bind (wpAny_field he rfl (x:=.ref i) rfl (wpAny_bind (done fun h' x xb ⟨o,ho,hc⟩=>?_)))
 exact wpAny_bind (wpAny_isInstance (T:="StopIteration") (b:=true) ⟨o,ho,hc⟩ isSubtype_stop (wpAny_pure (hQ _ xb)))
end
def IteS (x:Str):It where
 go:=fun i _=>i<x.cps.size
 yld:=fun i H v H'=>∃p c,v=.ref p∧H p=none∧H'=upd H p (.tup [.int i,.str ⟨#[c]⟩])∧x.cps[i]?=some c
 stop:=fun i _=>x.cps.size≤i
theorem turn_enumS {P:Program}{w:World}{K:W.Frag}{es:List Expr}{k0:Nat}{pos:Pos}{e i:Addr}{x:Str}{t:Tok}{ty:String}(hty:ty="str_ascii_iterator"∨ty="str_iterator")(a1:e≠i) :
 Turn P w K (.Tuple es k0 pos) (IteS x) [e,i] e (fun k h=>(∃old,IsEnum h e i (k:Int) old)∧h.IsStrIter i ty x t k) where
 mem:=by simp
 obj:=fun k h ⟨⟨old,he⟩,⟨o,e1,_,d1⟩⟩ c hc=>by
  simp only[mem_cons,not_mem_nil,or_false]at hc
  rcases hc with rfl | rfl
  ·exact⟨_,he,fun v q=>by cases q⟩
  ·exact⟨_,e1,fun v q=>by rw[d1]at q;cases q⟩
 keep:=fun k h h' ⟨⟨old,he⟩,h3⟩ kp=>⟨⟨old,kp e (by simp) _ he⟩,let⟨o,ho,r⟩:=h3;⟨o,kp i (by simp) o ho,r⟩⟩
 item:=by
  intro X hP hw hK hc k pins s σ H E I hf st hg
  subst hP hw hK
  have hx:x.cps[k]?=some (x.cps[k]'hg):=Array.getElem?_eq_getElem hg
  generalize x.cps[k]'hg=cc at hx
  obtain⟨⟨old,he⟩,hi⟩:=st
  refine en_itemS hty a1 he hi hx fun h' z1 z2 z3 kp=>?_
  refine⟨_,rfl,wpAny_letOwnedTupleGo_enum z1 fun h'' y1 sb=>?_⟩
  have fz:H s.heap.objs.size=none:=I.hok.fresh (Nat.le_refl _)
  have mine:∀c∈[e,i],c≠s.heap.objs.size:=fun c hc'=>by
   obtain⟨o1,e1,_⟩:=id hi
   simp only[mem_cons,not_mem_nil,or_false]at hc'
   rcases hc' with rfl | rfl
   ·exact Nat.ne_of_lt (lt_size he)
   ·exact Nat.ne_of_lt (lt_size e1)
  have kp2:∀c o,c∉[e,i]→s.heap.get? c=some o→h''.get? c=some o:=fun c o hc' z=>by
   simp only[mem_cons,not_mem_nil,or_false,not_or]at hc'
   exact sb.extBut _ _ hc'.1 (kp c o hc'.1 hc'.2 z)
  have tp:h''.get? s.heap.objs.size=some {cls:=.type "tuple",data:=.seq #[.int k (s.toks+1),.str ⟨#[cc]⟩ s.toks]}:=sb.extBut _ _ (mine e (by simp)).symm z3
  have notH:∀c∈[e,i],H c=none:=fun c hc'=>(hf c hc').1
  have I1:Inv X pins σ (upd H s.heap.objs.size (.tup [.int k,.str ⟨#[cc]⟩])) {s with heap:=h'',toks:=s.toks+1+1}:=by
   have un:Un X.fs [e,i] H (upd H s.heap.objs.size (.tup [.int k,.str ⟨#[cc]⟩])) s.heap h'':=
    ⟨fun c o z n nf hx=>kp2 c o hx z,fun c o z n nf hx=>⟨o.slots,kp2 c o hx z⟩,fun c o z n hx=>by rw[upd_ne (Nat.ne_of_lt (lt_size z))];exact n,
     fun c o z hx=>⟨o,kp2 c o hx z⟩,fun c xs z=>by rw[upd_ne (ne_of_none z fz)];exact z,fun c o xs z=>by rw[upd_ne (ne_of_none z fz)];exact z,fun c ps z=>⟨#[],by rw[upd_ne (ne_of_none z fz),z];simp⟩⟩
   have hok:HOk X.prog X.w (upd H s.heap.objs.size (.tup [.int k,.str ⟨#[cc]⟩])) h'':=fun c o z=>by
    by_cases hcs:c=s.heap.objs.size
    ·subst hcs
     rw[upd_same]at z
     cases z
     exact⟨by show 2≤sizeLine;decide,[.int k (s.toks+1),.str ⟨#[cc]⟩ s.toks],.cons ⟨_,rfl⟩ (.cons ⟨_,rfl⟩ .nil),⟨_,tp,rfl,_,rfl⟩⟩
    ·rw[upd_ne hcs]at z
     refine(I.hok c o z).stay (fun d w' hd q=>kp2 d w' (fun zz=>?_) q) (fun d q=>?_) fun d w' q=>?_
     ·have hn:=notH d zz
      rcases hd with rfl | hd
      ·rw[hn]at z;cases z
      ·rw[hn]at hd;cases hd
     ·rw[upd_ne (ne_of_none q fz)];exact q
     ·rw[upd_ne (ne_of_none q fz)];exact q
   have hch:∀b∈[e,i],(b∈X.ex∨X.s₀.heap.objs.size≤b)∧b≠X.env.locals∧(∀x c,X.env.cells.lookup x=some c→c≠b)∧∀p∈X.pn++pins,p.1≠b:=fun b hb=>⟨(hf b hb).2.2.2.1,(hf b hb).2.1,(hf b hb).2.2.2.2.1,(hf b hb).2.2.2.2.2⟩
   refine I.step (g':=s.gens) (d':=s.drawn) (t':=s.toks+1+1) (ch:=[e,i]) hch (fun c o _ _ hc' z _=>kp2 c o hc' z) (fun c o _ _ hc' z _=>⟨o.slots,kp2 c o hc' z⟩) (fun c o hc' z n=>un.free c o z n hc') (fun c o hc' z=>un.there c o z hc') un.tups un.frzs un.tbls (fun m' hm'=>?_) hok I.bare
   obtain⟨o,es',ep,ho,r⟩:=hm'
   exact⟨o,es',ep,kp2 _ o (fun zz=>(hf _ zz).2.1 rfl) ho,r⟩
  refine⟨.ref s.heap.objs.size,_,I1,rfl,⟨s.heap.objs.size,cc,rfl,fz,rfl,hx⟩,?_,fun c hc'=>?_⟩
  ·refine⟨⟨.str ⟨#[cc]⟩ s.toks,?_⟩,let⟨o,ho,r⟩:=z2;⟨o,sb.extBut _ _ (Ne.symm a1) ho,r⟩⟩
   rw[show((k+1:Nat):Int)=(k:Int)+1 by omega]
   exact y1
  ·rw[upd_ne (mine c hc')]
   exact notH c hc'
 done:=by
   intro X hP hw hK hc k pins s σ H E I hf st hg
   subst hP hw hK
   have hx:x.cps[k]?=none:=Array.getElem?_eq_none hg
   obtain⟨⟨old,he⟩,hi⟩:=st
   refine en_doneS (I.ok.hd hc) hty he hi hx fun h' kp=>⟨rfl,?_⟩
   have kp2:∀c o,c∉[e,i]→s.heap.get? c=some o→h'.get? c=some o:=fun c o hc' z=>by
    simp only[mem_cons,not_mem_nil,or_false,not_or]at hc'
    exact kp c o hc'.2 z
   have hch:∀b∈[e,i],(b∈X.ex∨X.s₀.heap.objs.size≤b)∧b≠X.env.locals∧(∀x c,X.env.cells.lookup x=some c→c≠b)∧∀p∈X.pn++pins,p.1≠b:=fun b hb=>⟨(hf b hb).2.2.2.1,(hf b hb).2.1,(hf b hb).2.2.2.2.1,(hf b hb).2.2.2.2.2⟩
   refine I.step (g':=s.gens) (d':=s.drawn) (t':=s.toks) (ch:=[e,i]) hch (fun c o _ _ hc' z _=>kp2 c o hc' z) (fun c o _ _ hc' z _=>⟨o.slots,kp2 c o hc' z⟩) (fun _ _ _ _ n=>n) (fun c o hc' z=>⟨o,kp2 c o hc' z⟩) (fun _ _ z=>z) (fun _ _ _ z=>z) (fun b ps z=>⟨#[],by rw[z];simp⟩) (fun m' hm'=>?_) (fun c o z=>?_) I.bare
   ·obtain⟨o,es',ep,ho,r⟩:=hm'
    exact⟨o,es',ep,kp2 _ o (fun zz=>(hf _ zz).2.1 rfl) ho,r⟩
   ·refine(I.hok c o z).stay (fun d w' hd q=>kp2 d w' (fun zz=>?_) q) (fun _ q=>q) fun _ _ q=>q
    have hn:=(hf d zz).1
    rcases hd with rfl | hd
    ·rw[hn]at z;cases z
    ·rw[hn]at hd;cases hd
 self:=fun A k s Q E st h=>by
  obtain⟨⟨old,he⟩,_⟩:=st
  exact wpAny_pyIter_enum he h
section
variable {X:Cx}
def iEnumS (ta:TA):TI:=fun σ H R=>ta σ H fun vs H1=>∃x:Str,vs=[.str x]∧R (IteS x) H1
theorem pi_enumS {es:List Expr}{k0:Nat}{tp:Pos}{a:Expr}{ta:TA}{p pos:Pos}(hg:Gl X "enumerate")(hm:X.mg "enumerate" = none)(ha:PA X [a] ta)(hs:starEach [a] X.env=[(false,eval a X.env)]:=by rfl) :
 PI X (.Tuple es k0 tp) (.Call (.Name "enumerate" p) [a] [] pos) (iEnumS ta):=by
 intro pins s σ H R I h
 refine Call_ (ld_blt I hg hm boot_enumerate (callWith_type1 (thn (ha pos pins s σ H _ I h) fun us s1 ⟨vs,H1,I1,r1,q1⟩=>?_) (by rw[hs];rfl) (by rfl)))
 obtain⟨x,e,q⟩:=q1
 subst e
 obtain⟨u,rfl,ru⟩:=vals1 r1
 obtain⟨t,rfl⟩:=(show ∃t,u=Value.str x t from ru)
 refine call_enumerate_str fun h' z1 z2 hz kp=>?_
 have I2:Inv X pins σ H1 {s1 with heap:=h'}:=I1.kept (t':=s1.toks) kp
 refine wpAny_pyIter_enum z1 ⟨s1.heap.objs.size+1,[s1.heap.objs.size+1,s1.heap.objs.size],_,_,H1,rfl,I2,turn_enumS (strIter_or x) (Nat.succ_ne_self _),⟨⟨_,z1⟩,z2⟩,fun c hc=>?_,q⟩
 have hcs:s1.heap.objs.size≤c:=by simp only[mem_cons,not_mem_nil,or_false]at hc;exact fresh2 hc
 exact I1.fpOk hcs (I1.hok.fresh hcs)
end
theorem items_enumS {x:Str}{H1:Hp}(i:Nat)(H:Hp)(s:Same H1 H) :
 (i<x.cps.size→(IteS x).go i H∧∀v H2,(IteS x).yld i H v H2→Same H H2∧∃p c,v=.ref p∧H2 p=some (.tup [.int i,.str ⟨#[c]⟩])∧x.cps[i]?=some c)∧(x.cps.size≤i→(IteS x).stop i H):=by
 refine⟨fun hi=>⟨hi,fun v H2 ⟨p,c,e1,e2,e3,e4⟩=>?_⟩,fun hi=>hi⟩
 subst e3
 exact⟨same_new e2 _,p,c,e1,upd_same,e4⟩
theorem str_ext {a b:Str}(h:a.cps.toList=b.cps.toList):a=b:=by
 cases a;cases b
 simp only[Str.mk.injEq]
 exact Array.toList_inj.mp h
theorem app_list (a b:Str):(a++b).cps.toList=a.cps.toList++b.cps.toList:=by rw[Str.cps_append,Array.toList_append]
theorem str_len (a:Str):a.length=a.cps.toList.length:=by rw[length_toList];rfl
abbrev numT (n:Int):Str:=Str.ofString (toString n)
def figs (m:Nat):List Nat:=(Nat.toDigits 10 m).map Char.toNat
theorem figs_ok (m:Nat):(∀c∈figs m,48≤c∧c≤57)∧figs m≠[]:=by
 constructor
 ·intro c hc
  obtain⟨ch,hch,rfl⟩:=mem_map.mp hc
  exact digit_range (Nat.isDigit_of_mem_toDigits (by decide) (by decide) hch)
 ·intro e
  have h:=toDigits_len_ge 10 m
  rw[List.map_eq_nil_iff.mp e]at h
  exact absurd h (by decide)
theorem numT_pos (m:Nat):(numT (m:Int)).cps.toList=figs m:=PySem.W.KIN.signs_num m
theorem numT_neg {n:Int}(h:n<0):(numT n).cps.toList=45::figs n.natAbs:=by
 rw[signs_ofString,toString_neg h,String.toList_append,map_append,show 0 - n=(n.natAbs:Int) by omega]
 have e:(toString (n.natAbs:Int)).toList.map Char.toNat=figs n.natAbs:=by rw[←signs_ofString];exact numT_pos _
 rw[e]
 rfl
theorem figs_len {m:Nat}(h:m<10^10):(figs m).length≤10:=by
 rw[←numT_pos,←str_len]
 exact PySem.W.KT.len_num (by omega) (by omega)
theorem num_len {n:Int}(h:n.natAbs<10^10):(numT n).length≤11:=by
 rw[str_len]
 by_cases c:n<0
 ·rw[numT_neg c,length_cons]
  have:=figs_len h
  omega
 ·obtain⟨m,rfl⟩:∃m:Nat,n=(m:Int):=⟨n.toNat,by omega⟩
  rw[numT_pos]
  have:=figs_len (m:=m) (by omega)
  omega
theorem num_read {n:Int}(h:n.natAbs<10^10):PySem.intText? (numT n)=some n:=by
 have l:=num_len h
 by_cases c:n<0
 ·obtain⟨h1,h2⟩:=figs_ok n.natAbs
  rw[PySem.intText_neg (numT_neg c) h1 h2 (by omega)]
  have v:=PySem.W.KIN.val_back n.natAbs
  unfold figs
  rw[v]
  congr 1
  omega
 ·exact PySem.W.KIN.num_reads (by omega) (by omega)
theorem num_starts (n:Int):Txt.startswith (numT n) (Str.ofString "-")=decide (n<0):=by
 have e1:(Str.ofString "-")=⟨#[45]⟩:=by decide +kernel
 rw[e1]
 have key:Txt.startswith (numT n) ⟨#[45]⟩=true↔(numT n).cps.toList[0]?=some 45:=by
  unfold Txt.startswith
  rw[and_eq_true,decide_eq_true_iff]
  exact StrLaws.subAt_one (numT n) 45 0
 by_cases c:n<0
 ·rw[decide_eq_true c,key,numT_neg c]
  rfl
 ·rw[decide_eq_false c,eq_false_iff,ne_eq,key]
  obtain⟨m,rfl⟩:∃m:Nat,n=(m:Int):=⟨n.toNat,by omega⟩
  rw[numT_pos]
  intro h
  have:=(figs_ok m).1 45 (mem_of_getElem? h)
  omega
theorem all_there (l:List Nat):(List.range l.length).filterMap (fun k=>l[k]?)=l:=by
 have:∀(k:Nat),k≤l.length→(List.range k).filterMap (fun k=>l[k]?)=l.take k:=by
  intro k
  induction k with
  |zero=>intro _;rfl
  |succ k ih=>
   intro h
   rw[range_succ,List.filterMap_append,ih (by omega),take_add_one]
   rfl
 rw[this _ (Nat.le_refl _),take_length]
theorem num_slice {n:Int}(h:n<0):Txt.slice (numT n) (some 1) none=⟨(figs n.natAbs).toArray⟩:=by
 have hl:(numT n).length=(figs n.natAbs).length+1:=by rw[str_len,numT_neg h,length_cons]
 have hix:Builtin.Str.strSliceIndices (some 1) none 1 (numT n).length=(List.range (figs n.natAbs).length).map fun k=>k+1:=by
  rw[hl]
  unfold Builtin.Str.strSliceIndices sliceRange
  have n0:0<(figs n.natAbs).length:=length_pos_iff.mpr (figs_ok _).2
  generalize(figs n.natAbs).length=q at n0
  simp only[show ¬((1:Int)<0) by decide,if_false,show(1:Int)>0 by decide,if_true]
  have e1:max (0:Int) (min 1 ((q+1:Nat):Int))=1:=by omega
  rw[e1]
  have e2:(1:Int)<((q+1:Nat):Int):=by omega
  rw[if_pos e2]
  have e3:((((q+1:Nat):Int) - 1+1 - 1) / 1).toNat=q:=by omega
  rw[e3]
  refine map_congr_left fun k _=>?_
  omega
 unfold Txt.slice
 rw[hix,if_neg (by rw[length_map,length_range,hl];simp)]
 apply str_ext
 show((List.range (figs n.natAbs).length).map fun k=>k+1).filterMap ((numT n).cps[·]?)=figs n.natAbs
 have e4:∀k,(numT n).cps[k]?=(45::figs n.natAbs)[k]?:=fun k=>by rw[←numT_neg h,getElem?_toList]
 rw[filterMap_map]
 have e5:((fun x=>(numT n).cps[x]?)∘fun k=>k+1)=fun k=>(figs n.natAbs)[k]?:=by
  funext k
  show(numT n).cps[k+1]?=_
  rw[e4,List.getElem?_cons_succ]
 show List.filterMap ((fun x=>(numT n).cps[x]?)∘fun k=>k+1) (List.range (figs n.natAbs).length)=figs n.natAbs
 rw[e5]
 exact all_there _
theorem part_at {a b:Str}{c:Nat}(h:c∉a.cps.toList):partV (a++⟨#[c]⟩++b) ⟨#[c]⟩=[.str a,.str ⟨#[c]⟩,.str b]:=by
 have lst:(a++⟨#[c]⟩++b).cps.toList=a.cps.toList++(c::b.cps.toList):=by
  rw[app_list,app_list,List.append_assoc]
  rfl
 have at_:∀i,StrLaws.At (a++⟨#[c]⟩++b) ⟨#[c]⟩ (a++⟨#[c]⟩++b).length i↔(a++⟨#[c]⟩++b).cps.toList[i]?=some c:=fun i=>StrLaws.subAt_one _ c i
 have here:(a++⟨#[c]⟩++b).cps.toList[a.cps.toList.length]?=some c:=by
  rw[lst,getElem?_append_right (Nat.le_refl _),Nat.sub_self]
  rfl
 have first:∀k,k<a.cps.toList.length→¬StrLaws.At (a++⟨#[c]⟩++b) ⟨#[c]⟩ (a++⟨#[c]⟩++b).length k:=fun k hk z=>by
  rw[at_,lst,getElem?_append_left hk]at z
  exact h (mem_of_getElem? z)
 rcases StrLaws.occ_head (a++⟨#[c]⟩++b) ⟨#[c]⟩ 1 (Nat.le_refl 1) with⟨h0,hn⟩ | ⟨i,r,h0,hi,hn⟩
 ·exact absurd ((at_ _).mpr here) (hn _)
 ·have ei:i=a.cps.toList.length:=by
   rcases Nat.lt_trichotomy i a.cps.toList.length with z | z | z
   ·exact absurd hi (first i z)
   ·exact z
   ·exact absurd ((at_ _).mpr here) (hn _ z)
  unfold partV
  rw[h0]
  subst ei
  have e1:Builtin.Str.strSub (a++⟨#[c]⟩++b) 0 a.cps.toList.length=a:=by
   apply str_ext
   show((a++⟨#[c]⟩++b).cps.extract 0 a.cps.toList.length).toList=_
   rw[Array.toList_extract,lst,List.extract_eq_drop_take,List.drop_zero,Nat.sub_zero,List.take_left]
  have e2:Builtin.Str.strSub (a++⟨#[c]⟩++b) (a.cps.toList.length+(⟨#[c]⟩:Str).length) (a++⟨#[c]⟩++b).length=b:=by
   apply str_ext
   show((a++⟨#[c]⟩++b).cps.extract (a.cps.toList.length+1) (a++⟨#[c]⟩++b).length).toList=_
   rw[Array.toList_extract,str_len,lst,List.extract_eq_drop_take,List.drop_append,length_append,length_cons,List.drop_eq_nil_of_le (by omega),nil_append,show a.cps.toList.length+1 - a.cps.toList.length=1 by omega]
   show List.take _ b.cps.toList=_
   exact List.take_of_length_le (by omega)
  show [V.str (Builtin.Str.strSub _ 0 a.cps.toList.length),V.str ⟨#[c]⟩,V.str (Builtin.Str.strSub _ (a.cps.toList.length+(⟨#[c]⟩:Str).length) _)]=_
  rw[e1,e2]
theorem join_signs:∀l:List Nat,Str.join (Str.ofString "") (l.map fun c=>(⟨#[c]⟩:Str))=⟨l.toArray⟩
 |[]=>rfl
 |[c]=>rfl
 |c::d::l=>by
  have ih:=join_signs (d::l)
  show(⟨#[c]⟩:Str)++Str.ofString ""++Str.join (Str.ofString "") ((d::l).map fun c=>(⟨#[c]⟩:Str))=_
  rw[ih]
  apply str_ext
  rw[app_list,app_list]
  rfl
theorem sum_signs (l:List Nat):(l.map fun c=>(⟨#[c]⟩:Str)).toArray.foldl (fun a p=>a+p.length+(Str.ofString "").length) 0=l.length:=by
 rw[List.foldl_toArray]
 have:∀(l:List Nat) (k:Nat),(l.map fun c=>(⟨#[c]⟩:Str)).foldl (fun a p=>a+p.length+(Str.ofString "").length) k=k+l.length:=by
  intro l
  induction l with
  |nil=>intro k;rfl
  |cons c l ih=>
   intro k
   rw[map_cons,List.foldl_cons,ih,length_cons]
   show k+1+0+l.length=_
   omega
 rw[this]
 omega
theorem sign_in (x:Str)(c:Nat):(!(Builtin.Str.occurrences x ⟨#[c]⟩ 0 x.length 1).isEmpty)=decide (c∈x.cps.toList):=StrLaws.found_one x c
section
variable {X:Cx}
def rSplit:V→List V→Hp→VK→Prop:=fun x vs H Q=>∃z y:Str,x=.str z∧vs=[.str y]∧(y.length==0)=false∧z.length≤sizeLine∧(Builtin.Str.partsBetween z (Builtin.Str.occurrences z y 0 z.length (z.length+1)) y.length).length≤sizeLine∧(Txt.split z y).length≤sizeLine∧
 ∀l,H l=none→Q (.ref l) (upd H l (.lst ((Txt.split z y).map V.str)))
theorem vals_strs:∀(l:List (Str×Tok)),Vals ((l.map (·.1)).map V.str) (strValues l)
 |[]=>.nil
 |p::l=>.cons ⟨_,rfl⟩ (vals_strs l)
theorem mt_split:MtR X "str.split" rSplit:=by
 intro pins s σ H x xs v us Q I rx rv h
 obtain⟨z,y,rfl,rfl,hy,hz,hz2,hz3,q⟩:=h
 obtain⟨t,rfl⟩:=(show ∃t,v=Value.str z t from rx)
 obtain⟨u,rfl,ru⟩:=vals1 rv
 obtain⟨t',rfl⟩:=(show ∃t,u=Value.str y t from ru)
 have new:∀(ps:List (Str×Tok)) (tk:Nat),ps.map (·.1)=Txt.split z y→EP X pins σ Q (.ref s.heap.objs.size) {s with toks:=tk,heap:=s.heap.push {cls:=.type "list",data:=.seq (strValues ps).toArray}}:=fun ps tk e=>by
  refine⟨.ref s.heap.objs.size,_,I.laid (a:=s.heap.objs.size) (t':=tk) (o:=.lst ((Txt.split z y).map V.str)) (fun b o eb=>get?_push_of_some _ eb) (Nat.le_refl _) ?_,rfl,q _ (I.hok.fresh (Nat.le_refl _))⟩
  refine⟨by rw[length_map];exact hz3,strValues ps,0,by rw[←e];exact vals_strs ps,get?_push_size _ rfl⟩
 have call:=fun{S:PySem.Spec} (g:Meets (Builtin.«str.split» ⟨[.str z t,.str y t'],[]⟩) S) (h:S X.A (wants (EP X pins σ Q) X.xe) s)=>call_meets PySem.F.slot_str_split (typeIs_str s z t) PySem.F.entry_str_split (PySem.F.args_str_split_2 _ _) (prog:=X.prog) (w:=X.w) g h
 by_cases c1:(decide (z.length<y.length)||decide (Builtin.Str.strKind z<Builtin.Str.strKind y))=true
 ·exact call (meets_str_split_cannot_occur z y t t' c1) (new [(z,t)] s.toks (by unfold Txt.split;rw[if_pos c1];rfl))
 ·have c1':=eq_false_iff.mpr c1
  by_cases c2:(Builtin.Str.occurrences z y 0 z.length (z.length+1)).isEmpty=true
  ·exact call (meets_str_split_not_found z y t t' c1' hy c2) (new [(z,t)] s.toks (by unfold Txt.split;rw[if_neg c1,if_pos c2];rfl))
  ·refine call (meets_str_split_sep z y t t' c1' hy (eq_false_iff.mpr c2) hz hz2) ?_
   have:=new (numbered s.toks (Builtin.Str.partsBetween z (Builtin.Str.occurrences z y 0 z.length (z.length+1)) y.length)) (s.toks+(Builtin.Str.partsBetween z (Builtin.Str.occurrences z y 0 z.length (z.length+1)) y.length).length) (by rw[numbered_texts];unfold Txt.split;rw[if_neg c1,if_neg c2])
   rw[←strsFrom_eq]at this
   exact this
end
theorem split_len (z y:Str):(Builtin.Str.partsBetween z (Builtin.Str.occurrences z y 0 z.length (z.length+1)) y.length).length≤z.length+2∧(Txt.split z y).length≤z.length+2:=by
 have a:(Builtin.Str.partsBetween z (Builtin.Str.occurrences z y 0 z.length (z.length+1)) y.length).length≤z.length+2:=by
  unfold Builtin.Str.partsBetween
  have:=StrLaws.occ_length_le z y 0 z.length (z.length+1)
  simp only[length_map,List.length_zip,length_cons,length_append,length_nil]
  omega
 refine⟨a,?_⟩
 unfold Txt.split
 split
 ·simp
 ·split
  ·simp
  ·exact a
theorem figs_len30 {m:Nat}(h:m<10^30):(figs m).length≤30:=by
 rw[←numT_pos,←str_len]
 exact toString_length_le (by omega) (by decide) (by omega)
theorem num_len30 {n:Int}(h:n.natAbs<10^30):(numT n).length≤31:=by
 rw[str_len]
 by_cases c:n<0
 ·rw[numT_neg c,length_cons]
  have:=figs_len30 h
  omega
 ·obtain⟨m,rfl⟩:∃m:Nat,n=(m:Int):=⟨n.toNat,by omega⟩
  rw[numT_pos]
  have:=figs_len30 (m:=m) (by omega)
  omega
theorem num_read30 {n:Int}(h:n.natAbs<10^30):PySem.intText? (numT n)=some n:=by
 have l:=num_len30 h
 obtain⟨h1,h2⟩:=figs_ok n.natAbs
 have v:=PySem.W.KIN.val_back n.natAbs
 by_cases c:n<0
 ·rw[PySem.intText_neg (numT_neg c) h1 h2 (by omega)]
  unfold figs
  rw[v]
  congr 1
  omega
 ·obtain⟨m,rfl⟩:∃m:Nat,n=(m:Int):=⟨n.toNat,by omega⟩
  have e:=numT_pos m
  rw[show((m:Nat):Int).natAbs=m by omega]at h1 h2 v
  rw[PySem.intText_digits (x:=numT (m:Int)) (by rw[e];exact h1) (by rw[e];exact h2) (by omega),e]
  unfold figs
  rw[v]
theorem num_log30 {n:Int}(h:n.natAbs<10^30):n.natAbs.log2<1920:=by
 by_cases z:n.natAbs=0
 ·rw[z];decide
 ·exact(Nat.log2_lt z).mpr (Nat.lt_of_lt_of_le h (by decide))
section
variable {prog:Program}{w:World}{A:Around}{E:Value→Shared→Prop}
theorem draw_lst {it l:Addr}{items:Array Value}(ne:l≠it):∀(n i:Nat) (s:Shared) (Q:List Value→Shared→Prop),s.heap.IsListIter it l i→s.heap.IsList l items→i+n≤items.size→
 (∀g,g.IsListIter it l (i+n)→Heap.SameBut it s.heap g→Q ((items.toList.drop i).take n) {s with heap:=g})→wpAny (model prog w) A (draw (.ref it) n) Q E s:=by
 intro n
 induction n with
 |zero=>intro i s Q a b c q;exact wpAny_pure (q s.heap a (Heap.SameBut.refl _ _))
 |succ n ih=>
  intro i s Q a b c q
  have lt:i<items.size:=Nat.lt_of_lt_of_le (Nat.lt_add_of_pos_right (Nat.succ_pos n)) c
  have one:items.toList.drop i=items[i]::items.toList.drop (i+1):=by
   rw[List.drop_eq_getElem_cons (by rw[length_toList];exact lt)]
   rfl
  show wpAny _ A (pyNext (.ref it) >>= _) _ _ s
  refine wpAny_bind (wpAny_pyNext_list_item a b (Array.getElem?_eq_getElem lt) fun g a1 sb=>?_)
  refine wpAny_bind (wpAny_holding (ih (i+1) _ _ a1 (b.extBut sb.extBut ne) (by omega) fun g2 a2 sb2=>wpAny_pure ?_))
  have z:=q g2 (by rw[show i+(n+1)=i+1+n by omega];exact a2) (sb.trans sb2)
  rw[one]at z
  exact z
end
section
variable {X:Cx}{elt iter:Expr}{ifs:List Expr}{scope:Scope}{px py tp pos pos' spos:Pos}{k ii:Nat}{x y nm:Str}{N N0:List Str}{js:List Nat}{sc:Scope}{wi:TI}{tt:TT}{te:TE}
theorem ps_comp2 (hNd:X.N.Nodup)(hii:X.N[ii]?=some nm)(hloc:Loc X.env.scope nm)(hc:X.calm=true)(hsc:X.env.scope=sc)(hN:X.N=N0)(B:Blk sc N0 (x::y::N) 2 js scope)(hx:scope.names.lookup x=some .local)(hy:scope.names.lookup y=some .local)(hi:PI X (.Tuple [.Name x px,.Name y py] k tp) iter wi)
 (ht:∀cl C s H fp,PTs (blk X (x::y::N) scope cl C s H fp) ifs tt) (he:∀cl C s H fp,PE (blk X (x::y::N) scope cl C s H fp) elt te)
 (hsw:swapsWith (.ListComp elt [⟨.Tuple [.Name x px,.Name y py] k tp,iter,ifs,0⟩] scope pos) (some (.Name nm pos')) spos.line X.env=pure true:=by rfl)
 (hf:X.fn nm=true∨X.env.scope.names.lookup nm=some .local:=by first | exact .inl rfl | exact .inr rfl | assumption)
 (hs:∀x,foldedSetIterable iter X.env x=pure x:=by intro _;rfl):PS X (.Assign [.Name nm pos'] (.ListComp elt [⟨.Tuple [.Name x px,.Name y py] k tp,iter,ifs,0⟩] scope pos) spos) (tSetC ii (tComp 2 js wi (gTup X.K 2 (gCons (gName 0) (gCons (gName 1) gNil))) tt te)):=
 ps_comp hNd hii hloc hc hsc hN B hi (fun cl C s H fp=>pg_tup (X:=blk X (x::y::N) scope cl C s H fp) hc (pgs_cons (pg_name (i:=0) B.nd rfl (.inl (blk_loc hx)) (.inr (blk_loc hx))) (pgs_cons (pg_name (i:=1) B.nd rfl (.inl (blk_loc hy)) (.inr (blk_loc hy))) pgs_nil))) ht he hsw hf hs
end
theorem comp_any {J:It}{g:TG}{tt:TT}{te:TE}{Q:VK}{D:Addr}{H1:Hp}{σ0:St}(n:Nat)(hn:n≤sizeLine)(Pv:Nat→St→Hp→List V→Prop)(itm:Nat→Hp→V→Prop)
 (h0:Pv 0 σ0 (upd H1 D (.lst [])) []) (hD:∀i σ H ys,Pv i σ H ys→H D=some (.lst ys)∧ys.length≤i)
 (items:∀i σ H ys,Pv i σ H ys→(i<n→J.go i H∧∀x H2,J.yld i H x H2→Same H H2∧itm i H2 x)∧(n≤i→J.stop i H))
 (step:∀i x σ H H2 ys,i<n→Pv i σ H ys→Same H H2→itm i H2 x→∀(A:St→V→Hp→Prop) (B:St→Hp→Prop),(∀σ3 y H5,H5 D=some (.lst ys)→Pv (i+1) σ3 (upd H5 D (.lst (ys++[y]))) (ys++[y])→A σ3 y H5)→
  (∀σ3 H4,Pv (i+1) σ3 H4 ys→B σ3 H4)→g x σ H2 fun σ3 H3=>tt σ3 H3 fun ok H4=>if ok=true then te σ3 H4 (A σ3) else B σ3 H4)
 (fin:∀σ H ys,Pv n σ H ys→Q (.ref D) H):cmpW J g tt te Q D σ0 H1:=by
 refine⟨fun i m σ H=>m=n - i∧i≤n∧∃ys,Pv i σ H ys,⟨n,by omega,Nat.zero_le _,[],h0⟩,?_⟩
 rintro i m σ H ⟨rfl,hi,ys,pv⟩
 by_cases hlt:i<n
 ·obtain⟨go,yl⟩:=(items i σ H ys pv).1 hlt
  refine .inr ⟨go,fun x H2 y=>?_⟩
  obtain⟨sm,im⟩:=yl x H2 y
  refine step i x σ H H2 ys hlt pv sm im (fun σ3 y H5=>∃ys,H5 D=some (.lst ys)∧ys.length<sizeLine∧∃m',m'<n - i∧(m'=n - (i+1)∧i+1≤n∧∃zs,Pv (i+1) σ3 (upd H5 D (.lst (ys++[y]))) zs)) (fun σ3 H4=>∃m',m'<n - i∧(m'=n - (i+1)∧i+1≤n∧∃zs,Pv (i+1) σ3 H4 zs)) (fun σ3 y H5 e p=>?_) (fun σ3 H4 p=>?_)
  ·have:=(hD _ _ _ _ pv).2
   exact⟨ys,e,by omega,n - (i+1),by omega,rfl,by omega,_,p⟩
  ·exact⟨n - (i+1),by omega,rfl,by omega,_,p⟩
 ·have e:i=n:=by omega
  subst e
  exact .inl ⟨(items i σ H ys pv).2 (Nat.le_refl _),fin σ H ys pv⟩
structure Air (base:Heap)(l:List Env)(e:Addr)(cls a0 fl:Value)(h:Heap):Prop where
 st:base.StaysIn h
 ne:base.get? e=none
 ff:h.FunFrames base l
 tr:h.TracedAtW base e cls a0 fl
section
variable {M:Model}{A:Around}{E:Value→Shared→Prop}{s:Shared}{base:Heap}{l outer:List Env}{env:Env}{e L:Addr}{cls a0 fl:Value}{Q:Unit→Shared→Prop}
theorem Air.mark {h:Heap}{T:Addr}{oe oT:Obj}{vs ts:Array Value}(x:Value)(st:base.StaysIn h)(ne:base.get? e=none)(ff:h.FunFrames base l)(he:h.get? e=some oe)(hc:oe.cls=cls∧vs[0]?=some a0)(hd:oe.data=.fields vs)(h1:vs[1]?=some (.ref T))(nT:base.get? T=none)(Te:T≠e)(hT:h.get? T=some oT)(dT:oT.data=.fields ts)(h3:3<ts.size) :
 Air base l e cls a0 x (h.update T (Obj.mapFields (·.setIfInBounds 3 x)))∧h.UpToSlots (h.update T (Obj.mapFields (·.setIfInBounds 3 x))):=by
 have off:∀b,b≠T→(h.update T (Obj.mapFields (·.setIfInBounds 3 x))).get? b=h.get? b:=fun b hb=>get?_update_other _ _ (Ne.symm hb)
 have rcd:∀b o,h.get? b=some o→(∀vs,o.data≠.fields vs)→b≠T:=fun b o hb n q=>by
  rw[q,hT]at hb
  cases hb
  exact n ts dT
 refine⟨⟨fun b o eb=>(off b fun q=>by rw[q,nT]at eb;cases eb).trans (st b o eb),ne,ff.of_keeps fun b o hb n=>⟨o,(off b (rcd b o hb n)).trans hb,rfl⟩,?_⟩,fun b o hb n=>⟨o.slots,(off b (rcd b o hb n)).trans hb⟩⟩
 exact⟨oe,vs,T,_,_,(off e (Ne.symm Te)).trans he,hc,hd,h1,nT,Te,get?_update_self _ hT (Obj.isFreed_of_fields (Obj.data_mapFields dT _)),Obj.data_mapFields dT _,by simp[h3]⟩
theorem air_pass {what:String}{cenv:Env}{α:Type}{R:α→Shared→Prop}(x:Air base l e cls a0 fl s.heap)(q:∀h' fl',Air base l e cls a0 fl' h'→s.heap.UpToSlots h'→E (.ref e) {s with heap:=h'}):wpAny M A (PySem.passOn what (.ref e) cenv:Sem α) R E s:=by
 obtain⟨st,ne,ff,oe,vs,T,oT,ts,he,hc,hd,h1,nT,Te,hT,dT,h3⟩:=x
 unfold PySem.passOn
 refine wpAny_bind (wpAny_field he hd h1 ?_)
 rw[if_neg (show ¬((Value.ref T==Value.none)=true) by simp)]
 refine wpAny_bind ?_
 unfold setFlight
 refine wpAny_bind (wpAny_field he hd h1 ?_)
 rw[if_pos (show(Value.ref T !=Value.none)=true by simp)]
 have l3:3<ts.size:=(Array.getElem?_eq_some_iff.mp h3).1
 obtain⟨a1,a2⟩:=Air.mark (cenv.frame.elim .none fun f=>rawInt f) st ne ff he hc hd h1 nT Te hT dT l3
 exact wpAny_setField hT dT l3 (wpAny_throw (q _ _ a1 a2))
theorem air_leave (hfr:A.frames=some (env::outer))(hf:env.frame=some L)(x:Air base (env::outer) e cls a0 fl s.heap)(q:∀h',Heap.FlyingW base (env::outer) e cls a0 h'→s.heap.UpToSlots h'→Q () {s with heap:=h'}):wpAny M A (leaving env (.ref e)) Q E s:=by
 unfold leaving
 by_cases c:fl=rawInt L
 ·subst c
  exact wpAny_bind (wpAny_noteFrame_againW hf x.tr (wpAny_landsW ⟨x.st,x.ne,x.ff,x.tr⟩ q))
 obtain⟨st,ne,ff,oe,vs,T,oT,ts,he,hc,hd,h1,nT,Te,hT,dT,h3⟩:=x
 have l3:3<ts.size:=(Array.getElem?_eq_some_iff.mp h3).1
 obtain⟨⟨b1,_,b3,_⟩,a2⟩:=Air.mark .none st ne ff he hc hd h1 nT Te hT dT l3
 have he2:(s.heap.update T (Obj.mapFields (·.setIfInBounds 3 Value.none))).get? e=some oe:=(get?_update_other _ _ Te).trans he
 refine wpAny_bind ?_
 unfold noteFrame
 simp only[hf]
 refine wpAny_bind (wpAny_field he hd h1 ?_)
 rw[if_pos (show(Value.ref T !=Value.none)=true by simp)]
 refine wpAny_bind (wpAny_field hT dT h3 ?_)
 rw[if_neg (show ¬((fl==rawInt L)=true) by simpa using c)]
 refine wpAny_bind (wpAny_setField hT dT l3 ?_)
 have cl:=hc.1
 subst cl
 exact wpAny_entryW hfr b3 hf he2 b1 ne hd (Array.getElem?_eq_some_iff.mp h1).1 hc.2 fun h' ⟨x1,x2,x3,x4⟩=>wpAny_landsW ⟨x1,ne,x2,x3⟩ fun h2 f2 u2=>q h2 f2 (a2.trans (Heap.UpToSlots.trans x4 u2))
end
theorem note_comp {scope:Scope}{cl:List (Str×Addr)}{C:Addr}{env:Env}{v:Value}:noteFrame v (compEnvC scope cl C env)=noteFrame v env:=by
 unfold noteFrame PySem.frameOf
 rfl
theorem frames_keep {h h' base:Heap}:∀{l:List Env},(∀b∈frs l,∀o,h.get? b=some o→h'.get? b=some o)→h.FunFrames base l→h'.FunFrames base l
 |[],_,_=>trivial
 |env::l,k,⟨a,⟨L,o,hf,hb,ho,hd⟩,r⟩=>by
  have hm:∀b,b=L∨b∈frs l→b∈frs (env::l):=fun b hb=>by
   unfold frs
   rw[filterMap_cons,hf]
   exact mem_cons.mpr hb
  exact⟨a,⟨L,o,hf,hb,k L (hm L (.inl rfl)) o ho,hd⟩,frames_keep (fun b hb=>k b (hm b (.inr hb))) r⟩
section
variable {X:Cx}{pins:List (Addr×Obj)}{σ:St}{H':Hp}{s':Shared}{e T C:Addr}{cls:Value}{E:XK}
theorem fly_of {S:List Addr}{h':Heap}(O:Own X)(I:Inv X pins σ H' s')(keep:∀b o,b∉S→s'.heap.get? b=some o→h'.get? b=some o)(slot:∀b o,b∈X.fs→s'.heap.get? b=some o→(∀vs,o.data≠.fields vs)→∃sl,h'.get? b=some {o with slots:=sl})
 (sub:∀b∈S,(X.s₀.heap.get? b=none∧H' b=none)∨b∈frs X.stack) (ne:X.s₀.heap.get? e=none) (fe:H' e=none) (tr:Trc h' e T cls) (nT:X.s₀.heap.get? T=none) (fT:H' T=none):Fly X.prog X.w X.outer X.H₀ X.s₀ H' e cls {s' with heap:=h'}:=by
 have fr:∀b∈S,H' b=none:=fun b hb=>(sub b hb).elim (fun z=>z.2) (I.stkFree b)
 have base:=O.ex▸I.base
 have outS:∀b o,X.s₀.heap.get? b=some o→b∉X.fs→b∉S:=fun b o eb nb hb=>by
  rcases sub b hb with z | z
  ·rw[z.1]at eb;cases eb
  ·rcases mem_cons.mp (I.stkSub b z) with q | q
   ·exact absurd (Nat.lt_of_lt_of_le (lt_size eb) I.ok.above) (by rw[q];exact Nat.lt_irrefl _)
   ·exact nb q
 have atF:∀b o,X.s₀.heap.get? b=some o→X.H₀ b=none→b∈X.fs→∃sl,h'.get? b=some {o with slots:=sl}:=fun b o eb n hb=>by
  obtain⟨sl,e1⟩:=base.slot b o eb n hb (by simp)
  obtain⟨_,o',eo,hd⟩:=I.ok.funs.mem hb
  rw[eb]at eo;cases eo
  obtain⟨sl',e2⟩:=slot b _ hb e1 hd
  exact⟨sl',e2⟩
 have hok:HOk X.prog X.w H' h':=fun b u eb=>by
  have nb:∀c u,H' c=some u→c∉S:=fun c u q z=>by rw[fr c z]at q;cases q
  refine(I.hok b u eb).stay (fun c v hc q=>keep c v ?_ q) (fun _ q=>q) fun _ _ q=>q
  rcases hc with rfl | hc
  ·exact nb _ _ eb
  ·exact nb _ _ hc
 refine⟨I.os,I.bare,⟨fun b o eb n hb _=>keep b o (outS b o eb hb) (base.keep b o eb n hb (by simp)),fun b o eb n hb _=>atF b o eb n hb,base.free,fun b o eb _=>?_,base.tups,base.frzs,base.tbls⟩,hok,ne,fe,T,tr,nT,fT⟩
 by_cases hb:b∈X.fs
 ·obtain⟨sl,z⟩:=atF b o eb (I.ok.frf b hb) hb
  exact⟨_,z⟩
 ·obtain⟨o1,e1⟩:=base.there b o eb (by simp)
  exact⟨o1,keep b o1 (outS b o eb hb) e1⟩
theorem comp_flown {m:Str→Option Value}{E':Value→Shared→Prop}(L:Lvs X E)(J:Inv X pins σ H' s')(tr:Trc s'.heap e T cls)(nT:X.s₀.heap.get? T=none)(fT:H' T=none)(ne:X.s₀.heap.get? e=none)(fe:H' e=none)
 (nC:X.s₀.heap.get? C=none) (fC:H' C=none) (nf:C∉frs X.stack) (ns:s'.heap.Ns C m) (q:E cls (some e) H') :
 wpAny (model X.prog X.w) X.A (noteFrame (.ref e) X.env) (fun _ s2=>∃m,s2.heap.Ns C m∧∀h',Heap.SameBut C s2.heap h'→∀cenv:Env,cenv.locals=C→wpAny (model X.prog X.w) X.A (PySem.passOn "comprehension.variables-let-go" (.ref e) cenv:Sem Value) (fun _ _=>False) X.xe {s2 with heap:=h'}) E' s':=by
 have O:=L.own
 obtain⟨oe,vs,oT,ts,a0,he,hc,h0,hd,h1,Te,hT,dT,h3⟩:=tr
 have hA:X.A.frames=some (X.env::X.outer):=O.stk▸J.ok.frames
 have fo:∀{h:Heap} {m:Str→Option Value},h.Ns C m→∀{b:Addr} {o:Obj} {ws:Array Value},h.get? b=some o→o.data=.fields ws→b≠C:=fun{h m} n {b o ws} e d z=>by
  obtain⟨oc,es,ep,ec,dc,_⟩:=n
  rw[z,ec]at e
  cases e
  rw[dc]at d
  cases d
 have fl:Heap.FlyingW (lessOf (C::e::T::frs X.stack) s'.heap) (X.env::X.outer) e cls a0 s'.heap:=
  ⟨less_stays _ _,less_in (by simp),O.stk▸less_frames (fun b hb=>mem_cons_of_mem _ (mem_cons_of_mem _ (mem_cons_of_mem _ hb))) J.stack,oe,vs,T,oT,ts,he,⟨hc,h0⟩,hd,h1,less_in (by simp),Te,hT,dT,h3⟩
 refine wpAny_looks_onW hA O.frm fl fun h4 held up1=>⟨m,up1.ns ns,fun h' sb cenv _=>?_⟩
 obtain⟨k1,k2,k3,oe4,vs4,T4,oT4,ts4,he4,hc4,hd4,h14,nT4,Te4,hT4,dT4,h34⟩:=held
 have off:∀b o,b≠C→h4.get? b=some o→h'.get? b=some o:=fun b o hb eb=>sb.extBut b o hb eb
 have air:Air (lessOf (C::e::T::frs X.stack) s'.heap) (X.env::X.outer) e cls a0 (rawInt X.env.locals) h':=by
  refine⟨fun b o eb=>off b o (fun z=>by rw[z,less_in (by simp)]at eb;cases eb) (k1 b o eb),k2,frames_keep (fun b hb o eb=>off b o (fun z=>nf (by rw[←z,O.stk];exact hb)) eb) k3,?_⟩
  exact⟨oe4,vs4,T4,oT4,ts4,off _ _ (fo (up1.ns ns) he4 hd4) he4,hc4,hd4,h14,nT4,Te4,off _ _ (fo (up1.ns ns) hT4 dT4) hT4,dT4,h34⟩
 refine air_pass (s:={s' with heap:=h'}) air fun h5 fl5 air5 up5=>L.xe _ _ (air_leave (s:={s' with heap:=h5}) hA O.frm air5 fun h6 fl6 up6=>⟨e,cls,H',rfl,?_,q⟩)
 obtain⟨st6,_,_,oe6,vs6,T6,oT6,ts6,he6,⟨hc6,h06⟩,hd6,h16,nb6,Te6,hT6,dT6,h36⟩:=fl6
 have up46:∀b o,b≠C→s'.heap.get? b=some o→(∀vs,o.data≠.fields vs)→∃sl,h6.get? b=some {o with slots:=sl}:=fun b o hb eb n=>by
  obtain⟨s1,e1⟩:=up1 b o eb n
  obtain⟨s2,e2⟩:=up5 b _ (off b _ hb e1) n
  obtain⟨s3,e3⟩:=up6 b _ e2 n
  exact⟨s3,e3⟩
 have notF:T6∉frs X.stack:=fun hb=>by
  obtain⟨_,o',eo,nd⟩:=J.stack.mem hb
  obtain⟨sl,e2⟩:=up46 T6 o' (fun z=>nf (by rw[←z];exact hb)) eo nd
  rw[hT6]at e2
  cases e2
  exact nd ts6 dT6
 have tw:T6=C∨T6=T∨s'.heap.get? T6=none:=by
  by_cases hm:T6∈C::e::T::frs X.stack
  ·rcases mem_cons.mp hm with z | hm
   ·exact .inl z
   rcases mem_cons.mp hm with z | hm
   ·exact absurd z Te6
   rcases mem_cons.mp hm with z | hm
   ·exact .inr (.inl z)
   ·exact absurd hm notF
  ·exact .inr (.inr ((less_out hm).symm.trans nb6))
 refine fly_of (s':=s') (S:=C::e::T::frs X.stack) (T:=T6) O J (fun b o hb eb=>st6 b o ((less_out hb).trans eb)) (fun b o hb eb n=>up46 b o (fun z=>?_) eb n) (fun b hb=>?_) ne fe ⟨oe6,vs6,oT6,ts6,a0,he6,hc6,h06,hd6,h16,Te6,hT6,dT6,h36⟩ ?_ ?_
 ·exact nf (by rw[←z,O.stk];unfold frs;rw[filterMap_cons];split<;>first | exact hb | exact mem_cons_of_mem _ hb)
 ·rcases mem_cons.mp hb with z | hb
  ·exact .inl (z▸⟨nC,fC⟩)
  rcases mem_cons.mp hb with z | hb
  ·exact .inl (z▸⟨ne,fe⟩)
  rcases mem_cons.mp hb with z | hb
  ·exact .inl (z▸⟨nT,fT⟩)
  ·exact .inr hb
 ·rcases tw with z | z | z
  ·exact z▸nC
  ·exact z▸nT
  ·cases q2:X.s₀.heap.get? T6 with
   |none=>rfl
   |some o=>
    obtain⟨o',e'⟩:=J.base.there T6 o q2 (by rw[O.ex];simp)
    rw[z]at e';cases e'
 ·rcases tw with z | z | z
  ·exact z▸fC
  ·exact z▸fT
  ·exact J.hok.gone z
end
section
variable {prog:Program}{w:World}{A:Around}{s:Shared}{R:Result→Shared→Prop}
theorem comp_turnsE {elt tg iter:Expr}{ifs:List Expr}{scope:Scope}{pos:Pos}{it acc:Value}{env:Env}(J:Nat→Shared→Prop)(Ex:Value→Shared→Prop)
 (hEx:∀v s',Ex v s'→wpAny (model prog w) A (noteFrame v env) (fun _ s2=>R (.error v) s2) (fun e s2=>R (.error e) s2) s')
 (turn:∀n s,J n s→wpAny (model prog w) A (pyNext it) (fun r s1=>match r with
  |none=>R (.ok .next) s1
  |some v=>wpAny (model prog w) A (letOwnedTupleGo tg it v) (fun _ s2=>wpAny (model prog w) A (assign tg env v) (fun _ s3=>
   wpAny (model prog w) A (forIn ifs true fun c r=>if r=true then do let ok ←isTrue c env (eval c env);pure (ForInStep.yield ok) else pure (ForInStep.yield r)) (fun ok s4=>
    if ok=true then wpAny (model prog w) A (eval elt env) (fun x s5=>wpAny (model prog w) A (call (.builtin "list.append") [acc,x]) (fun _ s6=>∃m,m<n∧J m s6) Ex s5) Ex s4
    else ∃m,m<n∧J m s4) Ex s3) Ex s2) Ex s1) Ex s)
 (n:Nat) (h:J n s):codeAny (model prog w) A (.compLoop (.ListComp elt [⟨tg,iter,ifs,0⟩] scope pos) 0 it acc env) R s:=by
 refine codeAny_loop rfl J (fun k s' hJ=>?_) n h
 show wpAny _ A ((compTurn (.ListComp elt [⟨tg,iter,ifs,0⟩] scope pos) 0 it acc env).onRaise (fun x=>do noteFrame x env;theTreesLotGoes x)) _ _ s'
 refine wpAny_noted (wpAny_mono (Q:=_) (E:=Ex) ?_ (fun _ _ z=>z) fun v s2 z=>hEx v s2 z)
 rw[compTurn_list]
 refine wpAny_bind (wpAny_standAt (wpAny_bind (wpAny_mono (turn k s' hJ) (fun r s1 q1=>?_) fun _ _ z=>z)))
 cases r with
 |none=>exact wpAny_pure q1
 |some v=>
  refine wpAny_bind (wpAny_mono q1 (fun _ s2 q2=>wpAny_bind (wpAny_mono q2 (fun _ s3 q3=>wpAny_bind (wpAny_mono q3 (fun ok s4 q4=>?_) fun _ _ z=>z)) fun _ _ z=>z)) fun _ _ z=>z)
  cases ok with
  |false=>exact wpAny_pure ⟨rfl,q4⟩
  |true=>exact wpAny_bind (wpAny_bind (wpAny_mono q4 (fun x s5 q5=>wpAny_bind (wpAny_mono q5 (fun _ s6 q6=>wpAny_pure (wpAny_pure ⟨rfl,q6⟩)) fun _ _ z=>z)) fun _ _ z=>z))
end
def blkE (X:Cx)(E:XK)(N:List Str)(scope:Scope)(cl:List (Str×Addr))(C:Addr)(s:Shared)(H:Hp)(fp:List Addr):Cx:=
 (blk X N scope cl C s H fp).wish fun v s'=>∃pins σ H1 s1,Inv (blk X N scope cl C s H fp) pins σ H1 s1∧CXF X.prog X.w X.stack H1 s1 E v s'
theorem passes_blk {X:Cx}{E:XK}{N:List Str}{scope:Scope}{cl:List (Str×Addr)}{C:Addr}{s:Shared}{H:Hp}{fp:List Addr}:Passes (CXF X.prog X.w) (blkE X E N scope cl C s H fp) E:=
 fun pins σ H1 s1 e s' I h=>⟨pins,σ,H1,s1,I.unwish,h⟩
theorem pe_compE {X:Cx}{E:XK}{elt tg iter:Expr}{ifs:List Expr}{scope:Scope}{pos:Pos}{N:List Str}{nt:Nat}{js:List Nat}{sc:Scope}{N0:List Str}{wi:TI}{g:TG}{tt:TT}{te:TE}(L:Lvs X E)
 (hc:X.calm=true) (hsc:X.env.scope=sc) (hN:X.N=N0) (B:Blk sc N0 N nt js scope) (hi:PI X tg iter wi)
 (hg:∀cl C s H fp,PG (blkE X E N scope cl C s H fp) tg g) (ht:∀cl C s H fp,PTs (blkE X E N scope cl C s H fp) ifs tt) (he:∀cl C s H fp,PE (blkE X E N scope cl C s H fp) elt te)
 (hs:∀x,foldedSetIterable iter X.env x=pure x:=by intro _;rfl):PE X (.ListComp elt [⟨tg,iter,ifs,0⟩] scope pos) (tComp nt js wi g tt te):=by
 subst hsc hN
 intro pins s σ H Q I h
 obtain⟨cl,hcl,c1,c2⟩:=clos_of (env:=X.env) (scope:=scope) fun y hy hk=>I.ok.has y.1 (B.cap y hy hk)
 rw[eval_ListComp]
 refine wpAny_comprehension_free (use:=none) rfl hs hcl B.kind B.loc (thn (hi pins s σ H _ I h) fun v s1 q1=>thn q1 fun itv s2 q2=>?_)
 obtain⟨it,fp,tn,J,H2,e,I2,T,st2,f2,q2⟩:=q2
 subst e
 obtain⟨W,⟨m0,w0⟩,turn⟩:=q2 s2.heap.objs.size (I2.hok.fresh (Nat.le_refl _))
 have hlt:∀b∈fp,b<s2.heap.objs.size:=fun b hb=>by
  obtain⟨o,eo,_⟩:=T.obj _ _ st2 b hb
  exact lt_size eo
 refine wpAny_newObj_type (wpAny_newFunctionEnv B.nocell (by intro y hy;simp at hy) (fun h1 hns hsb=>?_) B.kind)
 dsimp only at hns hsb ⊢
 have hsz:(s2.heap.push {cls:=.type "list",dict:=none,data:=.seq ([]:List Value).toArray}).objs.size=s2.heap.objs.size+1:=by rw[size_push]
 have old:∀b o,s2.heap.get? b=some o→h1.get? b=some o:=fun b o eb=>hsb.extBut b o (by rw[hsz];exact Nat.ne_of_lt (Nat.lt_succ_of_lt (lt_size eb))) (get?_push_of_some _ (get?_push_of_some _ eb))
 have hD:h1.get? s2.heap.objs.size=some {cls:=.type "list",data:=.seq ([]:List Value).toArray 0}:=hsb.extBut _ _ (by rw[hsz];exact Nat.ne_of_lt (Nat.lt_succ_self _)) (get?_push_of_some _ (get?_push_size _ rfl))
 rw[hsz]at hns
 have I3:=(blk_start (cl:=cl) (fp:=fp) (tk:=s2.toks+([]:List (Str×Value)).length) I2 B c1 c2 f2 hlt old (show h1.Ns (s2.heap.objs.size+1) fun _=>none from hns) hD)
 have stat:∀{H':Hp},(∀b∈fp,H' b=none)→∀b∈fp,FpOk (blkE X E N scope cl (s2.heap.objs.size+1) s2 H2 fp) [] H' b:=fun{H'} hn b hb=>
  ⟨hn b hb,Nat.ne_of_lt (Nat.lt_succ_of_lt (hlt b hb)),fun z=>(mem_cons.mp (I2.stkSub b z)).elim (f2 b hb).2.1 (f2 b hb).2.2.1,.inl hb,fun x c ec=>(f2 b hb).2.2.2.2.1 x c (c1 x c ec),fun p hp=>absurd (show p∈([]:List (Addr×Obj)) from hp) (by simp)⟩
 have outer:∀{σ':St} {H':Hp} {s':Shared} {pb:List (Addr×Obj)},Inv (blk X N scope cl (s2.heap.objs.size+1) s2 H2 fp) pb σ' H' s'→Inv X pins σ H' s':=fun{σ' H' s' pb} Ib=>
  I2.call' Ib.os Ib.base Ib.hok Ib.bare fun b hb=>⟨(f2 b hb).2.2.2.1,(f2 b hb).2.1,(f2 b hb).2.2.2.2.1,(f2 b hb).2.2.2.2.2⟩
 have fin:∀{i:Nat} {σ':St} {H':Hp} {s':Shared},Inv (blkE X E N scope cl (s2.heap.objs.size+1) s2 H2 fp) [] σ' H' s'→Q (.ref s2.heap.objs.size) H'→
  compPost (model X.prog X.w) X.A X.xe none (EP X pins σ Q) (.ref s2.heap.objs.size) (s2.heap.objs.size+1) (.ok .next) s':=fun{i σ' H' s'} Ib q=>by
  obtain⟨m,hn,_⟩:=id Ib.loc
  refine⟨m,hn,fun h'' hs''=>?_⟩
  have I4:Inv X pins σ H' s':=outer Ib.unwish
  obtain⟨g0,g1,g2,g3,g4,g5⟩:=I2.fpOk (H':=H') (Nat.le_succ _) Ib.free
  exact⟨.ref s2.heap.objs.size,H',I4.turned (t':=s'.toks) (fun b o hb eb=>hs''.extBut b o hb eb) g0 g1 g3 g4 g5,rfl,q⟩
 have bad:∀v s',(blkE X E N scope cl (s2.heap.objs.size+1) s2 H2 fp).xe v s'→wpAny (model X.prog X.w) X.A (noteFrame v (compEnvC scope cl (s2.heap.objs.size+1) X.env)) (fun _ s3=>compPost (model X.prog X.w) X.A X.xe none (EP X pins σ Q) (.ref s2.heap.objs.size) (s2.heap.objs.size+1) (.error v) s3) (fun e s3=>compPost (model X.prog X.w) X.A X.xe none (EP X pins σ Q) (.ref s2.heap.objs.size) (s2.heap.objs.size+1) (.error e) s3) s':=fun v s' hx=>by
  obtain⟨pb,σb,Hb,sb,Ib,e,cls,H',rfl,F,q⟩:=hx
  have Jb:Inv (blk X N scope cl (s2.heap.objs.size+1) s2 H2 fp) pb σb H' s':=Ib.flown F
  obtain⟨Tr,tr,nTr,fTr⟩:=F.tr
  have new:∀b,sb.heap.get? b=none→X.s₀.heap.get? b=none:=fun b z=>by
   cases q2:X.s₀.heap.get? b with
   |none=>rfl
   |some o=>
    obtain⟨o2,e2⟩:=I2.base.there b o q2 (by rw[L.own.ex];simp)
    by_cases hb:b∈fp
    ·rcases(f2 b hb).2.2.2.1 with y | y
     ·rw[L.own.ex]at y;simp at y
     ·exact absurd (Nat.lt_of_lt_of_le (lt_size q2) y) (Nat.lt_irrefl _)
    ·obtain⟨o3,e3⟩:=Ib.base.there b o2 e2 hb
     rw[z]at e3;cases e3
  have nC:X.s₀.heap.get? (s2.heap.objs.size+1)=none:=by
   cases q2:X.s₀.heap.get? (s2.heap.objs.size+1) with
   |none=>rfl
   |some o=>
    obtain⟨o2,e2⟩:=I2.base.there _ o q2 (by rw[L.own.ex];simp)
    exact absurd (lt_size e2) (Nat.not_lt.mpr (Nat.le_succ _))
  have nf:s2.heap.objs.size+1∉frs X.stack:=fun z=>by
   rcases mem_cons.mp (I2.stkSub _ z) with y | y
   ·have:=I2.lt
    rw[←y]at this
    exact absurd this (Nat.not_lt.mpr (Nat.le_succ _))
   ·exact I2.nofs (Nat.le_succ _) y
  obtain⟨m,hn,_⟩:=id Jb.loc
  rw[note_comp]
  exact comp_flown (E:=E) L (outer Jb) tr (new _ nTr) fTr (new _ F.new) F.free nC Jb.free nf hn q
 have loop:codeAny (model X.prog X.w) X.A (.compLoop (.ListComp elt [⟨tg,iter,ifs,0⟩] scope pos) 0 (.ref it) (.ref s2.heap.objs.size) (compEnvC scope cl (s2.heap.objs.size+1) X.env))
  (compPost (model X.prog X.w) X.A X.xe none (EP X pins σ Q) (.ref s2.heap.objs.size) (s2.heap.objs.size+1)) {s2 with heap:=h1,toks:=s2.toks+([]:List (Str×Value)).length}:=by
  refine comp_turnsE (fun n s'=>∃i σ' H',Inv (blkE X E N scope cl (s2.heap.objs.size+1) s2 H2 fp) [] σ' H' s'∧tn i s'.heap∧(∀b∈fp,H' b=none)∧W i n σ' H') _ bad ?_ m0
   ⟨0,_,_,I3.wish _,T.keep _ _ _ st2 fun b _ o eb=>old b o eb,fun b hb=>?_,w0⟩
  ·rintro n s3 ⟨i,σ3,H3,J3,st3,fr3,w3⟩
   rcases turn i n σ3 H3 w3 with⟨stop,qn⟩ | ⟨go,step⟩
   ·refine thn (T.done (blkE X E N scope cl (s2.heap.objs.size+1) s2 H2 fp) rfl rfl rfl hc i [] s3 σ3 H3 _ J3 (stat fr3) st3 stop) fun r s4 ⟨hr,I4⟩=>?_
    subst hr
    exact fin (i:=i) I4 qn
   ·refine thn (T.item (blkE X E N scope cl (s2.heap.objs.size+1) s2 H2 fp) rfl rfl rfl hc i [] s3 σ3 H3 _ J3 (stat fr3) st3 go) fun r s4 ⟨u,hr,h4⟩=>?_
    subst hr
    refine thn h4 fun _ s5 ⟨x,H5,I5,r5,y5,st5,fr5⟩=>?_
    have I5':=I5.pinned (stat fr5) (T.obj _ _ st5)
    refine thn (hg _ _ _ _ _ _ s5 σ3 H5 x u _ I5' r5 (step x H5 y5)) fun _ s6 ⟨σ6,H6,I6,q6⟩=>?_
    have again:∀{σ7:St} {H7:Hp} {s7:Shared} {k:Nat},Inv (blkE X E N scope cl (s2.heap.objs.size+1) s2 H2 fp) ([]++pinsAt fp s5.heap) σ7 H7 s7→k<n→W (i+1) k σ7 H7→
     ∃k,k<n∧∃i σ' H',Inv (blkE X E N scope cl (s2.heap.objs.size+1) s2 H2 fp) [] σ' H' s7∧tn i s7.heap∧(∀b∈fp,H' b=none)∧W i k σ' H':=fun{σ7 H7 s7 k} I7 hk w7=>by
     refine⟨k,hk,i+1,σ7,H7,I7.unpinned,T.keep _ _ _ st5 fun b hb o eb=>(I7.pin (b,o) (mem_append_right _ (mem_append_right _ (mem_pinsAt hb eb)))).1,fun b hb=>?_,w7⟩
     obtain⟨o,eb,_⟩:=T.obj _ _ st5 b hb
     exact(I7.pin (b,o) (mem_append_right _ (mem_append_right _ (mem_pinsAt hb eb)))).2.1
    refine thn (ht _ _ _ _ _ _ s6 σ6 H6 _ I6 q6) fun ok s7 ⟨H7,I7,q7⟩=>?_
    cases ok with
    |false=>
     rw[if_neg Bool.false_ne_true]at q7 ⊢
     obtain⟨k,hk,w7⟩:=q7
     exact again I7 hk w7
    |true=>
     rw[if_pos rfl]at q7 ⊢
     refine thn (he _ _ _ _ _ _ s7 σ6 H7 _ I7 q7) fun y s8 ⟨v8,H8,I8,r8,ys,e8,z8,k,hk,w8⟩=>?_
     refine thn (mt_append _ s8 σ6 H8 (.ref s2.heap.objs.size) [v8] _ [y] (fun _ H9=>W (i+1) k σ6 H9) I8 rfl (.cons r8 .nil) ⟨_,ys,v8,rfl,rfl,e8,z8,w8⟩) fun _ s9 ⟨_,H9,I9,_,w9⟩=>?_
     exact again I9 hk w9
  ·show upd H2 _ _ b=none
   rw[upd_ne (Nat.ne_of_lt (hlt b hb))]
   exact(f2 b hb).1
 rw[hsz]
 exact codeAny_compStart_list loop (T.self _ 0 _ _ _ (T.keep _ _ _ st2 fun b _ o eb=>old b o eb) loop)
def Itm (t t':Bool)(K:W.Frag)(l m:Addr):It where
 go:=fun i H=>∃xs ys x y,SqK t K H l xs∧SqK t' K H m ys∧xs[i]?=some x∧ys[i]?=some y
 yld:=fun i H v H'=>∃p x y,v=.ref p∧H p=none∧H'=upd H p (.tup [x,y])∧(∀xs,SqK t K H l xs→xs[i]?=some x)∧∀ys,SqK t' K H m ys→ys[i]?=some y
 stop:=fun i H=>∃xs ys,SqK t K H l xs∧SqK t' K H m ys∧(xs[i]?=none∨ys[i]?=none)
theorem turn_zipm {P:Program}{w:World}{K:W.Frag}{es:List Expr}{k0:Nat}{pos:Pos}{t t':Bool}{z TI TO i j l m:Addr}(a1:TI≠z)(a2:TO≠z)(a3:i≠z)(a4:j≠z)(a5:TI≠TO)(a6:TI≠i)(a7:TI≠j)(a8:TO≠i)(a9:TO≠j)(b1:i≠j)
 (c1:l∉[z,TI,TO,i,j]) (c2:m∉[z,TI,TO,i,j]) :
 Turn P w K (.Tuple es k0 pos) (Itm t t' K l m) [z,TI,TO,i,j] z (fun k h=>IsZip h z TI TO .none∧IsPair h TI (.ref i) (.ref j)∧(∃a b,IsPair h TO a b)∧ItAt t i l k h∧ItAt t' j m k h) where
 mem:=by simp
 obj:=fun k h ⟨hz,h1,⟨a,b,h2⟩,h3,h4⟩ c hc=>by
  obtain⟨o1,f1,_,e1,d1,_⟩:=h3.obj
  obtain⟨o2,f2,_,e2,d2,_⟩:=h4.obj
  simp only[mem_cons,not_mem_nil,or_false]at hc
  rcases hc with rfl | rfl | rfl | rfl | rfl
  ·exact⟨_,hz,fun v q=>by cases q⟩
  ·exact⟨_,h1,fun v q=>by cases q⟩
  ·exact⟨_,h2,fun v q=>by cases q⟩
  ·exact⟨_,e1,fun v q=>by rw[d1]at q;cases q⟩
  ·exact⟨_,e2,fun v q=>by rw[d2]at q;cases q⟩
 keep:=fun k h h' ⟨hz,h1,⟨a,b,h2⟩,h3,h4⟩ kp=>⟨kp z (by simp) _ hz,kp TI (by simp) _ h1,⟨a,b,kp TO (by simp) _ h2⟩,h3.at fun o e=>kp i (by simp) o e,h4.at fun o e=>kp j (by simp) o e⟩
 item:=by
  intro X hP hw hK hc k pins s σ H E I hf st hg
  subst hP hw hK
  obtain⟨xs,ys,x,y,hl,hm,hx,hy⟩:=hg
  obtain⟨hz,h1,⟨a,b,h2⟩,h3,h4⟩:=st
  have cl:=c1
  have cm:=c2
  simp only[mem_cons,not_mem_nil,or_false,not_or]at c1 c2
  obtain⟨its,r1,_,n1⟩:=I.sqk hl
  obtain⟨jts,r2,_,n2⟩:=I.sqk hm
  obtain⟨p1,N1,u1,v1⟩:=n1 i c1.2.2.2.1
  obtain⟨p2,N2,u2,v2⟩:=n2 j c2.2.2.2.2
  obtain⟨u,hu,ru⟩:=r1.get hx
  obtain⟨u',hu',ru'⟩:=r2.get hy
  have D:[z,TI,TO,i,j].Nodup:=by simp[a1,a2,a3,a4,a5,a6,a7,a8,a9,b1,Ne.symm a1,Ne.symm a2,Ne.symm a3,Ne.symm a4]
  refine zip_item D cl cm N1 N2 hz h1 h2 (u1 k h3) (u2 k h4) (x:=u) (y:=u') (by simpa using hu) (by simpa using hu') fun h' z1 z2 z3 z4 z5 z6 kp=>?_
  refine⟨_,rfl,wpAny_letOwnedTupleGo_zip z1 fun h'' y1 sb=>?_⟩
  have fz:H s.heap.objs.size=none:=I.hok.fresh (Nat.le_refl _)
  have zlt:z<s.heap.objs.size:=lt_size hz
  have mine:∀c∈[z,TI,TO,i,j],c≠s.heap.objs.size:=fun c hc'=>by
   obtain⟨o1,f1,_,e1,d1,_⟩:=h3.obj
   obtain⟨o2,f2,_,e2,d2,_⟩:=h4.obj
   simp only[mem_cons,not_mem_nil,or_false]at hc'
   rcases hc' with rfl | rfl | rfl | rfl | rfl
   ·exact Nat.ne_of_lt (lt_size hz)
   ·exact Nat.ne_of_lt (lt_size h1)
   ·exact Nat.ne_of_lt (lt_size h2)
   ·exact Nat.ne_of_lt (lt_size e1)
   ·exact Nat.ne_of_lt (lt_size e2)
  have kp2:∀c o,c∉[z,TI,TO,i,j]→s.heap.get? c=some o→h''.get? c=some o:=fun c o hc' e=>by
   simp only[mem_cons,not_mem_nil,or_false,not_or]at hc'
   exact sb.extBut _ _ hc'.1 (kp c o hc'.1 hc'.2.2.1 hc'.2.2.2.1 hc'.2.2.2.2 e)
  have tp:h''.get? s.heap.objs.size=some {cls:=.type "tuple",data:=.seq #[u,u']}:=sb.extBut _ _ (mine z (by simp)).symm z5
  have notH:∀c∈[z,TI,TO,i,j],H c=none:=fun c hc'=>(hf c hc').1
  have I1:Inv X pins σ (upd H s.heap.objs.size (.tup [x,y])) {s with heap:=h''}:=by
   have un:Un X.fs [z,TI,TO,i,j] H (upd H s.heap.objs.size (.tup [x,y])) s.heap h'':=
    ⟨fun c o e n nf hx=>kp2 c o hx e,fun c o e n nf hx=>⟨o.slots,kp2 c o hx e⟩,fun c o e n hx=>by rw[upd_ne (Nat.ne_of_lt (lt_size e))];exact n,
     fun c o e hx=>⟨o,kp2 c o hx e⟩,fun c xs e=>by rw[upd_ne (ne_of_none e fz)];exact e,fun c o xs e=>by rw[upd_ne (ne_of_none e fz)];exact e,fun c ps e=>⟨#[],by rw[upd_ne (ne_of_none e fz),e];simp⟩⟩
   have hok:HOk X.prog X.w (upd H s.heap.objs.size (.tup [x,y])) h'':=fun c o e=>by
    by_cases hcs:c=s.heap.objs.size
    ·subst hcs
     rw[upd_same]at e
     cases e
     exact⟨by show 2≤sizeLine;decide,[u,u'],.cons ru (.cons ru' .nil),⟨_,tp,rfl,_,rfl⟩⟩
    ·rw[upd_ne hcs]at e
     refine(I.hok c o e).stay (fun d w' hd q=>kp2 d w' (fun zz=>?_) q) (fun d q=>?_) fun d w' q=>?_
     ·have hn:=notH d zz
      rcases hd with rfl | hd
      ·rw[hn]at e;cases e
      ·rw[hn]at hd;cases hd
     ·rw[upd_ne (ne_of_none q fz)];exact q
     ·rw[upd_ne (ne_of_none q fz)];exact q
   have hch:∀b∈[z,TI,TO,i,j],(b∈X.ex∨X.s₀.heap.objs.size≤b)∧b≠X.env.locals∧(∀x c,X.env.cells.lookup x=some c→c≠b)∧∀p∈X.pn++pins,p.1≠b:=fun b hb=>⟨(hf b hb).2.2.2.1,(hf b hb).2.1,(hf b hb).2.2.2.2.1,(hf b hb).2.2.2.2.2⟩
   refine I.step (g':=s.gens) (d':=s.drawn) (t':=s.toks) (ch:=[z,TI,TO,i,j]) hch (fun c o _ _ hc' e _=>kp2 c o hc' e) (fun c o _ _ hc' e _=>⟨o.slots,kp2 c o hc' e⟩) (fun c o hc' e n=>un.free c o e n hc') (fun c o hc' e=>un.there c o e hc') un.tups un.frzs un.tbls (fun m' hm'=>?_) hok I.bare
   obtain⟨o,es',ep,ho,r⟩:=hm'
   exact⟨o,es',ep,kp2 _ o (fun zz=>(hf _ zz).2.1 rfl) ho,r⟩
  refine⟨.ref s.heap.objs.size,_,I1,rfl,⟨s.heap.objs.size,x,y,rfl,fz,rfl,fun xs' q=>by rw[I.sqk_inj q hl];exact hx,fun ys' q=>by rw[I.sqk_inj q hm];exact hy⟩,?_,fun c hc'=>?_⟩
  ·have up:∀c o,c≠z→h'.get? c=some o→h''.get? c=some o:=fun c o hc' e=>sb.extBut _ _ hc' e
   exact⟨y1,up _ _ a1 (kp _ _ a1 a5 a6 a7 h1),⟨_,_,up _ _ a2 z2⟩,(v1 _ _ z3).at fun o e=>up _ o a3 e,(v2 _ _ z4).at fun o e=>up _ o a4 e⟩
  ·rw[upd_ne (mine c hc')]
   exact notH c hc'
 done:=by
   intro X hP hw hK hc k pins s σ H E I hf st hg
   subst hP hw hK
   obtain⟨xs,ys,hl,hm,hend⟩:=hg
   obtain⟨hz,h1,⟨a,b,h2⟩,h3,h4⟩:=st
   have cl:=c1
   have cm:=c2
   simp only[mem_cons,not_mem_nil,or_false,not_or]at c1 c2
   obtain⟨its,r1,_,n1⟩:=I.sqk hl
   obtain⟨jts,r2,_,n2⟩:=I.sqk hm
   obtain⟨p1,N1,u1,v1⟩:=n1 i c1.2.2.2.1
   obtain⟨p2,N2,u2,v2⟩:=n2 j c2.2.2.2.2
   have D:[z,TI,TO,i,j].Nodup:=by simp[a1,a2,a3,a4,a5,a6,a7,a8,a9,b1,Ne.symm a1,Ne.symm a2,Ne.symm a3,Ne.symm a4]
   refine zip_done (I.ok.hd hc) D cl cm N1 N2 hz h1 h2 (u1 k h3) (u2 k h4) (hend.elim (fun q=>.inl (by simpa using r1.none_of q)) fun q=>.inr (by simpa using r2.none_of q)) fun h' kp=>⟨rfl,?_⟩
   have kp2:∀c o,c∉[z,TI,TO,i,j]→s.heap.get? c=some o→h'.get? c=some o:=fun c o hc' e=>by
    simp only[mem_cons,not_mem_nil,or_false,not_or]at hc'
    exact kp c o hc'.1 hc'.2.2.1 hc'.2.2.2.1 hc'.2.2.2.2 e
   have hch:∀b∈[z,TI,TO,i,j],(b∈X.ex∨X.s₀.heap.objs.size≤b)∧b≠X.env.locals∧(∀x c,X.env.cells.lookup x=some c→c≠b)∧∀p∈X.pn++pins,p.1≠b:=fun b hb=>⟨(hf b hb).2.2.2.1,(hf b hb).2.1,(hf b hb).2.2.2.2.1,(hf b hb).2.2.2.2.2⟩
   refine I.step (g':=s.gens) (d':=s.drawn) (t':=s.toks) (ch:=[z,TI,TO,i,j]) hch (fun c o _ _ hc' e _=>kp2 c o hc' e) (fun c o _ _ hc' e _=>⟨o.slots,kp2 c o hc' e⟩) (fun _ _ _ _ n=>n) (fun c o hc' e=>⟨o,kp2 c o hc' e⟩) (fun _ _ e=>e) (fun _ _ _ e=>e) (fun b ps e=>⟨#[],by rw[e];simp⟩) (fun m' hm'=>?_) (fun c o e=>?_) I.bare
   ·obtain⟨o,es',ep,ho,r⟩:=hm'
    exact⟨o,es',ep,kp2 _ o (fun zz=>(hf _ zz).2.1 rfl) ho,r⟩
   ·refine(I.hok c o e).stay (fun d w' hd q=>kp2 d w' (fun zz=>?_) q) (fun _ q=>q) fun _ _ q=>q
    have hn:=(hf d zz).1
    rcases hd with rfl | hd
    ·rw[hn]at e;cases e
    ·rw[hn]at hd;cases hd
 self:=fun A k s Q E st h=>wpAny_pyIter_zip st.1 h
theorem tl_new (l m:Addr)(xs ys:Array Value):Meets (Builtin.«zip.__new__» ⟨[.type "zip",.ref l,.ref m],[]⟩) (fun _ R s=>s.heap.IsTuple l xs∧s.heap.IsList m ys∧
 ∀h':Heap,IsZip h' (s.heap.objs.size+4) (s.heap.objs.size+2) (s.heap.objs.size+3) .none→IsPair h' (s.heap.objs.size+2) (.ref s.heap.objs.size) (.ref (s.heap.objs.size+1))→
  IsPair h' (s.heap.objs.size+3) .none .none→h'.IsTupleIter s.heap.objs.size l 0→h'.IsListIter (s.heap.objs.size+1) m 0→(∀c o,s.heap.get? c=some o→h'.get? c=some o)→
  R (.ok (.ret (.ref (s.heap.objs.size+4)))) {s with heap:=h'}):=
 .of_wp fun prog w A R s h=>by
  obtain⟨hp,g,d,tk,os⟩:=s
  obtain⟨h1,h2,h⟩:=h
  have hsub:=sub_zip
  wp_walk using wpAny_pyIter_tuple h1,wpAny_pyIter_list (Heap.IsList.push h2 _)
  simp only[size_push]
  refine⟨_,rfl,h _ (get?_push_at (by simp only[size_push]) rfl) ?_ ?_ ?_ ?_ fun c o x=>?_⟩
  ·exact get?_push_of_some _ (get?_push_of_some _ (get?_push_at (by simp only[size_push]) rfl))
  ·exact get?_push_of_some _ (get?_push_at (by simp only[size_push]) rfl)
  ·exact⟨_,get?_push_of_some _ (get?_push_of_some _ (get?_push_of_some _ (get?_push_of_some _ (get?_push_size _ rfl)))),rfl,rfl⟩
  ·exact⟨_,get?_push_of_some _ (get?_push_of_some _ (get?_push_of_some _ (get?_push_at (by simp only[size_push]) rfl))),rfl,rfl⟩
  repeat (first | exact x | refine get?_push_of_some _ ?_)
theorem zip_tl {prog:Program}{w:World}{A:Around}{E:Value→Shared→Prop}{s:Shared}{l m:Addr}{xs ys:Array Value}{Q:Value→Shared→Prop}(h1:s.heap.IsTuple l xs)(h2:s.heap.IsList m ys)
 (h:∀h',IsZip h' (s.heap.objs.size+4) (s.heap.objs.size+2) (s.heap.objs.size+3) .none→IsPair h' (s.heap.objs.size+2) (.ref s.heap.objs.size) (.ref (s.heap.objs.size+1))→
  IsPair h' (s.heap.objs.size+3) .none .none→h'.IsTupleIter s.heap.objs.size l 0→h'.IsListIter (s.heap.objs.size+1) m 0→
  (∀c o,s.heap.get? c=some o→h'.get? c=some o)→Q (.ref (s.heap.objs.size+4)) {s with heap:=h'}) :
 wpAny (model prog w) A (call (.type "zip") [.ref l,.ref m]) Q E s:=
 callType_new F.called_zip (by decide) (F.typeCall_zip_2 _ _) (F.newCall_zip_2 _ _) (fun obj=>F.args_object_init_3 obj _ _) F.entry_zip_new (tl_new l m xs ys)
  ⟨h1,h2,fun h' z p1 p2 i1 i2 kp=>⟨⟨_,z,rfl⟩,h h' z p1 p2 i1 i2 kp⟩⟩
section
variable {X:Cx}
def iZipm (K:W.Frag)(ta:TA):TI:=fun σ H R=>ta σ H fun vs H1=>∃l m xs ys,vs=[.ref l,.ref m]∧SqT K H1 l xs∧SqL K H1 m ys∧R (Itm true false K l m) H1
theorem pi_zipm {es:List Expr}{k0:Nat}{tp:Pos}{a b:Expr}{ta:TA}{p pos:Pos}(hg:Gl X "zip")(hm:X.mg "zip" = none)(ha:PA X [a,b] ta)(hs:starEach [a,b] X.env=[(false,eval a X.env),(false,eval b X.env)]:=by rfl)(hs2:starEach [b] X.env=[(false,eval b X.env)]:=by rfl) :
 PI X (.Tuple es k0 tp) (.Call (.Name "zip" p) [a,b] [] pos) (iZipm X.K ta):=by
 intro pins s σ H R I h
 refine Call_ (ld_blt I hg hm boot_zip (callWith_type1 (thn (ha pos pins s σ H _ I h) fun us s1 ⟨vs,H1,I1,r1,q1⟩=>?_) (by rw[hs,hs2]) (by rw[hs2];rfl)))
 obtain⟨l,m,xs,ys,e,hl,hm',q⟩:=q1
 subst e
 obtain⟨u,u',rfl,ru,ru'⟩:=vals2 r1
 cases(show u=Value.ref l from ru)
 cases(show u'=Value.ref m from ru')
 obtain⟨its,_,⟨ol,eol,_⟩,_⟩:=I1.sqk (t:=true) hl
 obtain⟨jts,_,⟨om,eom,_⟩,_⟩:=I1.sqk (t:=false) hm'
 have ll:l<s1.heap.objs.size:=lt_size eol
 have lm:m<s1.heap.objs.size:=lt_size eom
 have fin:∀h':Heap,IsZip h' (s1.heap.objs.size+4) (s1.heap.objs.size+2) (s1.heap.objs.size+3) .none→IsPair h' (s1.heap.objs.size+2) (.ref s1.heap.objs.size) (.ref (s1.heap.objs.size+1))→
  IsPair h' (s1.heap.objs.size+3) .none .none→ItAt true s1.heap.objs.size l 0 h'→ItAt false (s1.heap.objs.size+1) m 0 h'→(∀c o,s1.heap.get? c=some o→h'.get? c=some o)→
  wpAny (model X.prog X.w) X.A (pyIter (.ref (s1.heap.objs.size+4))) (PIE X pins σ (.Tuple es k0 tp) R) X.xe {s1 with heap:=h'}:=fun h' z1 z2 z3 z4 z5 kp=>by
  have I2:Inv X pins σ H1 {s1 with heap:=h'}:=I1.kept (t':=s1.toks) kp
  refine wpAny_pyIter_zip z1 ⟨s1.heap.objs.size+4,[s1.heap.objs.size+4,s1.heap.objs.size+2,s1.heap.objs.size+3,s1.heap.objs.size,s1.heap.objs.size+1],_,_,H1,rfl,I2,
   turn_zipm (t:=true) (t':=false) (l:=l) (m:=m) (apart_nat _ (a:=2) (b:=4) (by decide)) (apart_nat _ (a:=3) (b:=4) (by decide)) (apart_nat _ (a:=0) (b:=4) (by decide)) (apart_nat _ (a:=1) (b:=4) (by decide)) (apart_nat _ (a:=2) (b:=3) (by decide)) (apart_nat _ (a:=2) (b:=0) (by decide)) (apart_nat _ (a:=2) (b:=1) (by decide)) (apart_nat _ (a:=3) (b:=0) (by decide)) (apart_nat _ (a:=3) (b:=1) (by decide)) (apart_nat _ (a:=0) (b:=1) (by decide)) (fun z=>?_) (fun z=>?_),⟨z1,z2,⟨_,_,z3⟩,z4,z5⟩,fun c hc=>?_,q⟩
  ·simp only[mem_cons,not_mem_nil,or_false]at z;exact not_fresh5 ll z
  ·simp only[mem_cons,not_mem_nil,or_false]at z;exact not_fresh5 lm z
  ·have hcs:s1.heap.objs.size≤c:=by simp only[mem_cons,not_mem_nil,or_false]at hc;exact fresh5 hc
   exact I1.fpOk hcs (I1.hok.fresh hcs)
 obtain⟨its,_,pl,_⟩:=I1.tuple hl
 obtain⟨jts,_,pm,_⟩:=I1.list hm'
 exact zip_tl pl pm.isList fun h' z1 z2 z3 z4 z5 kp=>fin h' z1 z2 z3 z4 z5 kp
end
def orSp (a b:Sp):Sp:=fun vs H Q E=>a vs H Q E∨b vs H Q E
section
variable {P:Program}{w:World}{K:W.Frag}{mg:Str→Option Value}{base:Heap}{CX:CXT}{k:Nat}{f:Addr}{fd:FuncData}{ps:List Str}{sp sp':Sp}
theorem FnOk.up (F:FnOk P w K mg base CX0 k f fd ps sp):FnOk P w K mg base (CXF P w) k f fd ps sp:=
 ⟨F.len,fun A outer s H args us vs Q E hr he hb hv hs=>codeAny_mono (F.run A outer s H args us vs Q E hr he hb hv hs) fun r s' h=>by
  cases r with
  |error e=>exact False.elim h
  |ok fl=>cases fl<;>exact h⟩
theorem FnOk.or (F:FnOk P w K mg base CX k f fd ps sp)(G:FnOk P w K mg base CX k f fd ps sp'):FnOk P w K mg base CX k f fd ps (orSp sp sp'):=
 ⟨fun vs H Q E h=>h.elim (F.len vs H Q E) (G.len vs H Q E),fun A outer s H args us vs Q E hr he hb hv hs=>hs.elim (F.run A outer s H args us vs Q E hr he hb hv) (G.run A outer s H args us vs Q E hr he hb hv)⟩
end
section
variable {X:Cx}{k k':Nat}{x:Str}{ps:List Str}{sp:Sp}{e:Expr}{es:List Expr}{t:TA}{p pos:Pos}{E:XK}
theorem pe_defP (h:HasE X.prog X.w X.K X.mg X.base k x ps sp)(hx:Passes (CXF X.prog X.w) X E)(hr:Room k' X.A)(ha:PA X (e::es) t)(hg:Gl X x:=by rfl)(hk:k≤k':=by decide)(hdb:(x==("__debug__" : Str))=false:=by decide)
 (he:starEach (e::es) X.env=(false,eval e X.env)::starEach es X.env:=by rfl) (hpl:(backTo pos (starEach es X.env)).any (·.1)=false:=by rfl):PE X (.Call (.Name x p) (e::es) [] pos) (tCall sp [] E t):=by
 obtain⟨f,fd,F,m,kp,b⟩:=h
 exact pe_call F (hr.mono hk) hg m kp b .nil hx ha hdb he hpl
end
section
variable {X:Cx}{E:XK}{elt iter:Expr}{ifs:List Expr}{scope:Scope}{pos:Pos}{N:List Str}{js:List Nat}{sc:Scope}{N0:List Str}{wi:TI}{tt:TT}{te:TE}{x y:Str}{px py tp:Pos}{k:Nat}
theorem pe_compE2 (L:Lvs X E)(hc:X.calm=true)(hsc:X.env.scope=sc)(hN:X.N=N0)(B:Blk sc N0 (x::y::N) 2 js scope)(hx:scope.names.lookup x=some .local)(hy:scope.names.lookup y=some .local)(hi:PI X (.Tuple [.Name x px,.Name y py] k tp) iter wi)
 (ht:∀cl C s H fp,PTs (blkE X E (x::y::N) scope cl C s H fp) ifs tt) (he:∀cl C s H fp,PE (blkE X E (x::y::N) scope cl C s H fp) elt te)
 (hs:∀x,foldedSetIterable iter X.env x=pure x:=by intro _;rfl):PE X (.ListComp elt [⟨.Tuple [.Name x px,.Name y py] k tp,iter,ifs,0⟩] scope pos) (tComp 2 js wi (gTup X.K 2 (gCons (gName 0) (gCons (gName 1) gNil))) tt te):=
 pe_compE L hc hsc hN B hi (fun cl C s H fp=>pg_tup (X:=blkE X E (x::y::N) scope cl C s H fp) hc (pgs_cons (pg_name (i:=0) B.nd rfl (.inl (lookup_relabel_local hx)) (.inr (lookup_relabel_local hx))) (pgs_cons (pg_name (i:=1) B.nd rfl (.inl (lookup_relabel_local hy)) (.inr (lookup_relabel_local hy))) pgs_nil))) ht he hs
end
theorem items_zipm {K:W.Frag}{a b:Addr}{xs ys:List V}{H:Hp}(q:SqT K H a xs)(h':H b=some (.lst ys))(i:Nat) :
 (i<min xs.length ys.length→(Itm true false K a b).go i H∧∀v H2,(Itm true false K a b).yld i H v H2→Same H H2∧∃p x y,v=.ref p∧H2 p=some (.tup [x,y])∧xs[i]?=some x∧ys[i]?=some y)∧(min xs.length ys.length≤i→(Itm true false K a b).stop i H):=by
 have q':SqK false K H b ys:=SqL.of h'
 have q0:SqK true K H a xs:=q
 refine⟨fun hi=>⟨⟨xs,ys,xs[i]'(by omega),ys[i]'(by omega),q0,q',List.getElem?_eq_getElem (by omega),List.getElem?_eq_getElem (by omega)⟩,fun v H2 ⟨p,x,y,e1,e2,e3,e4,e5⟩=>?_⟩,fun hi=>⟨xs,ys,q0,q',?_⟩⟩
 ·subst e3
  exact⟨same_new e2 _,p,x,y,e1,upd_same,e4 xs q0,e5 ys q'⟩
 ·by_cases hx:xs.length≤i
  ·exact .inl (List.getElem?_eq_none hx)
  ·exact .inr (List.getElem?_eq_none (by omega))
theorem ps_compE {X:Cx}{E:XK}{elt tg iter:Expr}{ifs:List Expr}{scope:Scope}{pos pos' spos:Pos}{N:List Str}{nt:Nat}{js:List Nat}{sc:Scope}{N0:List Str}{wi:TI}{g:TG}{tt:TT}{te:TE}{ii:Nat}{nm:Str}(L:Lvs X E)
 (hNd:X.N.Nodup) (hii:X.N[ii]?=some nm) (hloc:Loc X.env.scope nm) (hc:X.calm=true) (hsc:X.env.scope=sc) (hN:X.N=N0) (B:Blk sc N0 N nt js scope) (hi:PI X tg iter wi)
 (hg:∀cl C s H fp,PG (blkE X E N scope cl C s H fp) tg g) (ht:∀cl C s H fp,PTs (blkE X E N scope cl C s H fp) ifs tt) (he:∀cl C s H fp,PE (blkE X E N scope cl C s H fp) elt te)
 (hsw:swapsWith (.ListComp elt [⟨tg,iter,ifs,0⟩] scope pos) (some (.Name nm pos')) spos.line X.env=pure true:=by rfl)
 (hf:X.fn nm=true∨X.env.scope.names.lookup nm=some .local:=by first | exact .inl rfl | exact .inr rfl | assumption)
 (hs:∀x,foldedSetIterable iter X.env x=pure x:=by intro _;rfl):PS X (.Assign [.Name nm pos'] (.ListComp elt [⟨tg,iter,ifs,0⟩] scope pos) spos) (tSetC ii (tComp nt js wi g tt te)):=by
 subst hsc hN
 intro pins s σ H D I h
 obtain⟨cl,hcl,c1,c2⟩:=clos_of (env:=X.env) (scope:=scope) fun y hy hk=>I.ok.has y.1 (B.cap y hy hk)
 rw[PySem.exec_Assign_Name_used _ _ _ _ hsw]
 refine wpAny_bind (wpAny_standAt (wpAny_bind ?_))
 show wpAny _ _ (comprehension _ scope X.env _ _ _ _ (some (assign (.Name nm pos') X.env)) >>= _) _ _ _
 refine wpAny_bind (thn (Q:=fun _ s'=>∃σ' H',Inv X pins σ' H' s'∧D.nx σ' H') ?_ fun _ s9 q9=>wpAny_pure (wpAny_pure q9))
 refine wpAny_comprehension_free (use:=some (assign (.Name nm pos') X.env)) rfl hs hcl B.kind B.loc (thn (hi pins s σ H _ I h) fun v s1 q1=>thn q1 fun itv s2 q2=>?_)
 obtain⟨it,fp,tn,J,H2,e,I2,T,st2,f2,q2⟩:=q2
 subst e
 obtain⟨W,⟨m0,w0⟩,turn⟩:=q2 s2.heap.objs.size (I2.hok.fresh (Nat.le_refl _))
 have hlt:∀b∈fp,b<s2.heap.objs.size:=fun b hb=>by
  obtain⟨o,eo,_⟩:=T.obj _ _ st2 b hb
  exact lt_size eo
 refine wpAny_newObj_type (wpAny_newFunctionEnv B.nocell (by intro y hy;simp at hy) (fun h1 hns hsb=>?_) B.kind)
 dsimp only at hns hsb ⊢
 have hsz:(s2.heap.push {cls:=.type "list",dict:=none,data:=.seq ([]:List Value).toArray}).objs.size=s2.heap.objs.size+1:=by rw[size_push]
 have old:∀b o,s2.heap.get? b=some o→h1.get? b=some o:=fun b o eb=>hsb.extBut b o (by rw[hsz];exact Nat.ne_of_lt (Nat.lt_succ_of_lt (lt_size eb))) (get?_push_of_some _ (get?_push_of_some _ eb))
 have hD:h1.get? s2.heap.objs.size=some {cls:=.type "list",data:=.seq ([]:List Value).toArray 0}:=hsb.extBut _ _ (by rw[hsz];exact Nat.ne_of_lt (Nat.lt_succ_self _)) (get?_push_of_some _ (get?_push_size _ rfl))
 rw[hsz]at hns
 have I3:=(blk_start (cl:=cl) (fp:=fp) (tk:=s2.toks+([]:List (Str×Value)).length) I2 B c1 c2 f2 hlt old (show h1.Ns (s2.heap.objs.size+1) fun _=>none from hns) hD)
 have stat:∀{H':Hp},(∀b∈fp,H' b=none)→∀b∈fp,FpOk (blkE X E N scope cl (s2.heap.objs.size+1) s2 H2 fp) [] H' b:=fun{H'} hn b hb=>
  ⟨hn b hb,Nat.ne_of_lt (Nat.lt_succ_of_lt (hlt b hb)),fun z=>(mem_cons.mp (I2.stkSub b z)).elim (f2 b hb).2.1 (f2 b hb).2.2.1,.inl hb,fun x c ec=>(f2 b hb).2.2.2.2.1 x c (c1 x c ec),fun p hp=>absurd (show p∈([]:List (Addr×Obj)) from hp) (by simp)⟩
 have outer:∀{σ':St} {H':Hp} {s':Shared} {pb:List (Addr×Obj)},Inv (blk X N scope cl (s2.heap.objs.size+1) s2 H2 fp) pb σ' H' s'→Inv X pins σ H' s':=fun{σ' H' s' pb} Ib=>
  I2.call' Ib.os Ib.base Ib.hok Ib.bare fun b hb=>⟨(f2 b hb).2.2.2.1,(f2 b hb).2.1,(f2 b hb).2.2.2.2.1,(f2 b hb).2.2.2.2.2⟩
 have fin:∀{i:Nat} {σ':St} {H':Hp} {s':Shared},Inv (blkE X E N scope cl (s2.heap.objs.size+1) s2 H2 fp) [] σ' H' s'→D.nx (σ.set ii (some (.ref s2.heap.objs.size))) H'→
  compPost (model X.prog X.w) X.A X.xe (some (assign (.Name nm pos') X.env)) (fun _ s'=>∃σ' H',Inv X pins σ' H' s'∧D.nx σ' H') (.ref s2.heap.objs.size) (s2.heap.objs.size+1) (.ok .next) s':=fun{i σ' H' s'} Ib q=>by
  obtain⟨m,hn,_⟩:=id Ib.loc
  have I4:Inv X pins σ H' s':=outer Ib.unwish
  obtain⟨g0,g1,g2,g3,g4,g5⟩:=I2.fpOk (H':=H') (Nat.le_succ _) Ib.free
  show wpAny _ _ (assign (.Name nm pos') X.env (.ref s2.heap.objs.size)) _ _ _
  refine wpAny_bind (wpAny_standAt (wpAny_bindName (store_ok2 I4 hNd hii hloc (v:=.ref s2.heap.objs.size) rfl (fun s5 I5 ⟨a,sb,ha⟩=>?_) hf)))
  have na:s2.heap.objs.size+1≠a:=by
   rcases ha with rfl | ha
   ·exact g1
   ·exact fun z=>g4 _ _ ha z.symm
  refine⟨m,hn.sameBut sb na,fun h'' hs''=>?_⟩
  exact⟨_,H',I5.turned (t':=s5.toks) (fun b o hb eb=>hs''.extBut b o hb eb) g0 g1 g3 g4 g5,q⟩
 have bad:∀v s',(blkE X E N scope cl (s2.heap.objs.size+1) s2 H2 fp).xe v s'→wpAny (model X.prog X.w) X.A (noteFrame v (compEnvC scope cl (s2.heap.objs.size+1) X.env)) (fun _ s3=>compPost (model X.prog X.w) X.A X.xe (some (assign (.Name nm pos') X.env)) (fun _ s'=>∃σ' H',Inv X pins σ' H' s'∧D.nx σ' H') (.ref s2.heap.objs.size) (s2.heap.objs.size+1) (.error v) s3) (fun e s3=>compPost (model X.prog X.w) X.A X.xe (some (assign (.Name nm pos') X.env)) (fun _ s'=>∃σ' H',Inv X pins σ' H' s'∧D.nx σ' H') (.ref s2.heap.objs.size) (s2.heap.objs.size+1) (.error e) s3) s':=fun v s' hx=>by
  obtain⟨pb,σb,Hb,sb,Ib,e,cls,H',rfl,F,q⟩:=hx
  have Jb:Inv (blk X N scope cl (s2.heap.objs.size+1) s2 H2 fp) pb σb H' s':=Ib.flown F
  obtain⟨Tr,tr,nTr,fTr⟩:=F.tr
  have new:∀b,sb.heap.get? b=none→X.s₀.heap.get? b=none:=fun b z=>by
   cases q2:X.s₀.heap.get? b with
   |none=>rfl
   |some o=>
    obtain⟨o2,e2⟩:=I2.base.there b o q2 (by rw[L.own.ex];simp)
    by_cases hb:b∈fp
    ·rcases(f2 b hb).2.2.2.1 with y | y
     ·rw[L.own.ex]at y;simp at y
     ·exact absurd (Nat.lt_of_lt_of_le (lt_size q2) y) (Nat.lt_irrefl _)
    ·obtain⟨o3,e3⟩:=Ib.base.there b o2 e2 hb
     rw[z]at e3;cases e3
  have nC:X.s₀.heap.get? (s2.heap.objs.size+1)=none:=by
   cases q2:X.s₀.heap.get? (s2.heap.objs.size+1) with
   |none=>rfl
   |some o=>
    obtain⟨o2,e2⟩:=I2.base.there _ o q2 (by rw[L.own.ex];simp)
    exact absurd (lt_size e2) (Nat.not_lt.mpr (Nat.le_succ _))
  have nf:s2.heap.objs.size+1∉frs X.stack:=fun z=>by
   rcases mem_cons.mp (I2.stkSub _ z) with y | y
   ·have:=I2.lt
    rw[←y]at this
    exact absurd this (Nat.not_lt.mpr (Nat.le_succ _))
   ·exact I2.nofs (Nat.le_succ _) y
  obtain⟨m,hn,_⟩:=id Jb.loc
  rw[note_comp]
  exact comp_flown (E:=E) L (outer Jb) tr (new _ nTr) fTr (new _ F.new) F.free nC Jb.free nf hn q
 have loop:codeAny (model X.prog X.w) X.A (.compLoop (.ListComp elt [⟨tg,iter,ifs,0⟩] scope pos) 0 (.ref it) (.ref s2.heap.objs.size) (compEnvC scope cl (s2.heap.objs.size+1) X.env))
  (compPost (model X.prog X.w) X.A X.xe (some (assign (.Name nm pos') X.env)) (fun _ s'=>∃σ' H',Inv X pins σ' H' s'∧D.nx σ' H') (.ref s2.heap.objs.size) (s2.heap.objs.size+1)) {s2 with heap:=h1,toks:=s2.toks+([]:List (Str×Value)).length}:=by
  refine comp_turnsE (fun n s'=>∃i σ' H',Inv (blkE X E N scope cl (s2.heap.objs.size+1) s2 H2 fp) [] σ' H' s'∧tn i s'.heap∧(∀b∈fp,H' b=none)∧W i n σ' H') _ bad ?_ m0
   ⟨0,_,_,I3.wish _,T.keep _ _ _ st2 fun b _ o eb=>old b o eb,fun b hb=>?_,w0⟩
  ·rintro n s3 ⟨i,σ3,H3,J3,st3,fr3,w3⟩
   rcases turn i n σ3 H3 w3 with⟨stop,qn⟩ | ⟨go,step⟩
   ·refine thn (T.done (blkE X E N scope cl (s2.heap.objs.size+1) s2 H2 fp) rfl rfl rfl hc i [] s3 σ3 H3 _ J3 (stat fr3) st3 stop) fun r s4 ⟨hr,I4⟩=>?_
    subst hr
    exact fin (i:=i) I4 qn
   ·refine thn (T.item (blkE X E N scope cl (s2.heap.objs.size+1) s2 H2 fp) rfl rfl rfl hc i [] s3 σ3 H3 _ J3 (stat fr3) st3 go) fun r s4 ⟨u,hr,h4⟩=>?_
    subst hr
    refine thn h4 fun _ s5 ⟨x,H5,I5,r5,y5,st5,fr5⟩=>?_
    have I5':=I5.pinned (stat fr5) (T.obj _ _ st5)
    refine thn (hg _ _ _ _ _ _ s5 σ3 H5 x u _ I5' r5 (step x H5 y5)) fun _ s6 ⟨σ6,H6,I6,q6⟩=>?_
    have again:∀{σ7:St} {H7:Hp} {s7:Shared} {k:Nat},Inv (blkE X E N scope cl (s2.heap.objs.size+1) s2 H2 fp) ([]++pinsAt fp s5.heap) σ7 H7 s7→k<n→W (i+1) k σ7 H7→
     ∃k,k<n∧∃i σ' H',Inv (blkE X E N scope cl (s2.heap.objs.size+1) s2 H2 fp) [] σ' H' s7∧tn i s7.heap∧(∀b∈fp,H' b=none)∧W i k σ' H':=fun{σ7 H7 s7 k} I7 hk w7=>by
     refine⟨k,hk,i+1,σ7,H7,I7.unpinned,T.keep _ _ _ st5 fun b hb o eb=>(I7.pin (b,o) (mem_append_right _ (mem_append_right _ (mem_pinsAt hb eb)))).1,fun b hb=>?_,w7⟩
     obtain⟨o,eb,_⟩:=T.obj _ _ st5 b hb
     exact(I7.pin (b,o) (mem_append_right _ (mem_append_right _ (mem_pinsAt hb eb)))).2.1
    refine thn (ht _ _ _ _ _ _ s6 σ6 H6 _ I6 q6) fun ok s7 ⟨H7,I7,q7⟩=>?_
    cases ok with
    |false=>
     rw[if_neg Bool.false_ne_true]at q7 ⊢
     obtain⟨k,hk,w7⟩:=q7
     exact again I7 hk w7
    |true=>
     rw[if_pos rfl]at q7 ⊢
     refine thn (he _ _ _ _ _ _ s7 σ6 H7 _ I7 q7) fun y s8 ⟨v8,H8,I8,r8,ys,e8,z8,k,hk,w8⟩=>?_
     refine thn (mt_append _ s8 σ6 H8 (.ref s2.heap.objs.size) [v8] _ [y] (fun _ H9=>W (i+1) k σ6 H9) I8 rfl (.cons r8 .nil) ⟨_,ys,v8,rfl,rfl,e8,z8,w8⟩) fun _ s9 ⟨_,H9,I9,_,w9⟩=>?_
     exact again I9 hk w9
  ·show upd H2 _ _ b=none
   rw[upd_ne (Nat.ne_of_lt (hlt b hb))]
   exact(f2 b hb).1
 rw[hsz]
 exact codeAny_compStart_list loop (T.self _ 0 _ _ _ (T.keep _ _ _ st2 fun b _ o eb=>old b o eb) loop)
section
variable {X:Cx}{E:XK}{elt iter:Expr}{ifs:List Expr}{scope:Scope}{pos pos' spos:Pos}{N:List Str}{js:List Nat}{sc:Scope}{N0:List Str}{wi:TI}{tt:TT}{te:TE}{x y nm:Str}{px py tp:Pos}{k ii:Nat}
theorem ps_compE2 (hNd:X.N.Nodup)(hii:X.N[ii]?=some nm)(hloc:Loc X.env.scope nm)(L:Lvs X E)(hc:X.calm=true)(hsc:X.env.scope=sc)(hN:X.N=N0)(B:Blk sc N0 (x::y::N) 2 js scope)(hx:scope.names.lookup x=some .local)(hy:scope.names.lookup y=some .local)(hi:PI X (.Tuple [.Name x px,.Name y py] k tp) iter wi)
 (ht:∀cl C s H fp,PTs (blkE X E (x::y::N) scope cl C s H fp) ifs tt) (he:∀cl C s H fp,PE (blkE X E (x::y::N) scope cl C s H fp) elt te)
 (hsw:swapsWith (.ListComp elt [⟨.Tuple [.Name x px,.Name y py] k tp,iter,ifs,0⟩] scope pos) (some (.Name nm pos')) spos.line X.env=pure true:=by rfl)
 (hf:X.fn nm=true∨X.env.scope.names.lookup nm=some .local:=by first | exact .inl rfl | exact .inr rfl | assumption)
 (hs:∀x,foldedSetIterable iter X.env x=pure x:=by intro _;rfl):PS X (.Assign [.Name nm pos'] (.ListComp elt [⟨.Tuple [.Name x px,.Name y py] k tp,iter,ifs,0⟩] scope pos) spos) (tSetC ii (tComp 2 js wi (gTup X.K 2 (gCons (gName 0) (gCons (gName 1) gNil))) tt te)):=
 ps_compE L hNd hii hloc hc hsc hN B hi (fun cl C s H fp=>pg_tup (X:=blkE X E (x::y::N) scope cl C s H fp) hc (pgs_cons (pg_name (i:=0) B.nd rfl (.inl (lookup_relabel_local hx)) (.inr (lookup_relabel_local hx))) (pgs_cons (pg_name (i:=1) B.nd rfl (.inl (lookup_relabel_local hy)) (.inr (lookup_relabel_local hy))) pgs_nil))) ht he hsw hf hs
end
section
variable {X:Cx}
def rSortDS:List V→Hp→VK→Prop:=fun xs H Q=>∃(a:Addr) (ks:List Str) (kvs:List (Key×V)),xs=[.ref a]∧H a=some (.dK kvs)∧kvs.map (·.1)=ks.map Sum.inr∧ks.length<64∧
 ∀(ns:List Str) (l:Addr),ns.Perm ks→sortedS ns=true→H l=none→Q (.ref l) (upd H l (.lst (ns.map V.str)))
theorem vals_strsAre:∀{vs:List Value} {ss:List Str},StrsAre vs ss→Vals (ss.map V.str) vs
 |_,_,.nil=>.nil
 |_,_,.cons x t r=>.cons ⟨t,rfl⟩ (vals_strsAre r)
theorem strsAre_vals:∀{ss:List Str} {vs:List Value},Vals (ss.map V.str) vs→StrsAre vs ss
 |[],_,.nil=>.nil
 |x::ss,_,.cons r rs=>by
  obtain⟨t,rfl⟩:=(show ∃t,_=Value.str x t from r)
  exact .cons x t (strsAre_vals rs)
theorem vals_ofS:∀(us:List Value) (ks:List Str),us.length=ks.length→(∀(j:Nat) (u:Value),us[j]?=some u→∃(t:Tok) (i:Str),ks[j]?=some i∧u=Value.str i t)→Vals (ks.map V.str) us
 |[],[],_,_=>.nil
 |u::us,k::ks,e,h=>by
  obtain⟨t,i,e1,e2⟩:=h 0 u rfl
  cases e1
  exact .cons ⟨t,e2⟩ (vals_ofS us ks (Nat.succ.inj e) fun j u hj=>h (j+1) u hj)
theorem call_sortDS (hc:X.calm=true):CallR X (.builtin "sorted") rSortDS:=by
 intro pins s σ H xs us Q I r h
 obtain⟨a,ks,kvs,rfl,ha,hk,h64,q⟩:=h
 obtain⟨u,rfl,rx⟩:=vals1 r
 cases(show u=Value.ref a from rx)
 obtain⟨hz,hS,vs,rkv,m⟩:kvs.length≤sizeLine∧(a==sysModules)=false∧∃vs,KV kvs vs∧s.heap.DictOf (mixKind X.prog X.w) a vs:=I.hok a _ ha
 obtain⟨ep,da⟩:=m.dictAt
 have hlen:kvs.length=vs.length:=KV.length rkv
 refine Calls.call_function_entry kind_sorted plain_sorted entry_sorted (args_sorted1 _) ?_
 unfold Builtin.«sorted»
 refine wpAny_bind (m:=checkCount "sorted" 1 1 _) (wpAny_pure ?_)
 refine wpAny_bind (PySem.W.kdu_collect (A:=X.A.in1) (PySem.W.kdl_dict (kvs:=vs) (ep:=ep) hS) (I.ok.hd hc) da (by omega) fun h' tk acc hk' hacc=>?_)
 have I0:Inv X pins σ H {s with heap:=h',toks:=tk}:=I.kept hk'
 have hl:acc.toList.length=vs.length:=by rw[length_toList];exact hacc.1
 have kk:vs.map (·.1)=ks.map Sum.inr:=by rw[←KV.keys rkv];exact hk
 have lk:vs.length=ks.length:=by have:=congrArg List.length kk;rw[length_map,length_map]at this;exact this
 have hI:StrsAre acc.toList ks:=by
  refine strsAre_vals (vals_ofS _ _ (by rw[hl];exact lk) fun j u hj=>?_)
  obtain⟨k,x,e1,e2⟩:=hacc.2 j u (by rw[←getElem?_toList];exact hj)
  have e3:(vs.map (·.1))[j]?=some k:=by rw[getElem?_map,e1];rfl
  rw[kk,getElem?_map]at e3
  cases e4:ks[j]? with
  |none=>rw[e4]at e3;cases e3
  |some i=>
   rw[e4]at e3
   have e5:k=Sum.inr i:=by injection e3 with e3;exact e3.symm
   subst e5
   cases u with
   |str z t=>
    have e6:(z==i)=true:=e2
    exact⟨t,i,rfl,by rw[eq_of_beq e6]⟩
   |_=>exact absurd e2 (by intro z;cases z)
 refine wpAny_bind (wpAny_newList ?_ (by rw[hl,←hlen];exact hz))
 have hoL:(h'.push (seqObj "list" acc.toList.toArray 0)).get? h'.objs.size=some (seqObj "list" acc.toList.toArray 0):=get?_push_size _ rfl
 refine wpAny_bind (wpAny_holding (wpAny_call_entry slot_list_sort ⟨_,hoL,rfl⟩ entry_list_sort (list_sort_treeK (κ:=strKind) strKind_oneLt (s:={s with heap:=h'.push (seqObj "list" acc.toList.toArray 0),toks:=tk}) hoL hI.keysOf (fun v₁ v₂ rest e=>keyKind_strs (by rw[←e];exact hI)) (by rw[hl,lk];exact h64) fun st' hp hs=>⟨_,rfl,?_⟩) (args_list_sort _)))
 obtain⟨ns',a1,a2,a3⟩:=sorted_out_str hI hp hs
 generalize(arrOf st').map (·.2)=out at a1 ⊢
 obtain⟨e,he⟩:=sortedHeap_at (out:=out) hoL
 have old:∀b o,h'.get? b=some o→(sortedHeap (h'.push (seqObj "list" acc.toList.toArray 0)) h'.objs.size acc.toList out).get? b=some o:=fun b o eb=>by
  have lt:=lt_size eb
  rw[sortedHeap_old (h:=h'.push (seqObj "list" acc.toList.toArray 0)) (b:=b) (Nat.ne_of_lt lt) (by rw[size_push];exact Nat.lt_succ_of_lt lt)]
  exact get?_push_of_some _ eb
 refine wpAny_pure ⟨_,rfl,.ref h'.objs.size,_,I0.laid (a:=h'.objs.size) (t':=tk) (o:=.lst (ns'.map V.str)) old (Nat.le_refl _) ?_,rfl,q ns' _ a2 a3 (I0.hok.fresh (Nat.le_refl _))⟩
 refine⟨by rw[length_map,a2.length_eq,sizeLine_eq];omega,out.toList,e,vals_strsAre a1,?_⟩
 have e9:out.toList.toArray=out:=by simp
 rw[e9]
 exact he
end
structure KDict (P:Program)(w:World)(K:W.Frag)(a:Addr)(kvs:List (Key×V)):Prop where
 nsm:(a==sysModules)=false
 at_:∃vs,KV kvs vs∧∀h:Heap,K.In h→h.DictOf (mixKind P w) a vs
section
variable {X:Cx}
def rKIn (P:Program)(w:World)(K:W.Frag)(neg:Bool):R2:=fun x y H Q=>∃(a:Addr) (kvs:List (Key×V)) (k:Key),y=.ref a∧KDict P w K a kvs∧x=kV k∧Q (.bl (if neg then !(valV kvs k).isSome else(valV kvs k).isSome)) H
theorem op_notInKD:OpR X (compareOp .NotIn) (rKIn X.prog X.w X.K true):=by
 intro pins s σ H x y v u Q I rx ry h
 obtain⟨a,kvs,k,rfl,⟨hd,vs,rel,dd⟩,rfl,q⟩:=h
 cases ry
 refine wpAny_notIn_of (kV_is rx) hd (dd _ I.kIn).mapOf ?_
 rw[←(rel.val k).isSome_eq]
 exact⟨.bl _,H,I.tok _,rfl,q⟩
def rKGet (P:Program)(w:World)(K:W.Frag):R2:=fun x y H Q=>∃(a:Addr) (kvs:List (Key×V)) (k:Key) (v:V),x=.ref a∧KDict P w K a kvs∧y=kV k∧valV kvs k=some v∧Q v H
theorem pe_kget {o i:Expr}{pos:Pos}{td ty:TE}(ho:PE X o td)(hi:PE X i ty)(hs:NoSl i):PE X (.Subscript o i pos) (tOp (rKGet X.prog X.w X.K) td ty):=by
 intro pins s σ H Q I h
 refine subD_of PySem.F.slot_dict_getitem.lookup hs (thn (ho pins s σ H _ I h) fun u s1 ⟨x,H1,I1,rx,q1⟩=>thn (hi pins s1 σ H1 _ I1 q1) fun iv s2 ⟨y,H2,I2,ry,a,kvs,k,v,ex,⟨hd,vs,rel,dd⟩,ey,l,q2⟩=>?_)
 subst ex
 subst ey
 obtain rfl:u=Value.ref a:=rx
 obtain⟨w',hw,rw'⟩:=RelO.some_of (v:=v) (o:=valueAt vs k) (by rw[←l];exact rel.val k)
 exact⟨(dd _ I2.kIn).typeIs,wpAny_getItem_of (kV_is ry) (dd _ I2.kIn).mapOf hw ⟨v,H2,I2.tok _,rw',q2⟩⟩
end
open PySem.W
section
variable {prog:Program}{w:World}{A:Around}{E:Value→Shared→Prop}
theorem unp_star {s:Shared}{l:Addr}{x:Value}{its:List Value}{Q:List Value→Shared→Prop}(hh:A.handled=none)(b:s.heap.IsList l (x::its).toArray)(hz:its.length+1≤16384)
 (q:∀(g:Heap) (tk:Nat),(∀c o,s.heap.get? c=some o→g.get? c=some o)→Q [x,.ref g.objs.size] {s with heap:=g.push {cls:=.type "list",data:=.seq its.toArray},toks:=tk}):wpAny (model prog w) A (unpackItems (.ref l) 2 (some 1)) Q E s:=by
 have lt:l≠s.heap.objs.size:=by obtain⟨o,ho,_⟩:=b;exact Nat.ne_of_lt (lt_size ho)
 unfold unpackItems notIterableAtAll
 refine wpAny_bind (wpAny_bind (wpAny_specialOf b.typeIs slot_list_iter.lookup (wpAny_pure ?_)))
 show wpAny _ _ (holding [Value.ref l] (pyIter (.ref l)) >>= _) _ _ s
 refine wpAny_bind (wpAny_holding (wpAny_pyIter_list b ?_))
 refine wpAny_bind (wpAny_holding (draw_lst lt 1 0 _ _ ⟨_,get?_push_size _ rfl,rfl,rfl⟩ (b.push _) (by simp) fun g a1 sb=>?_))
 have b1:g.IsList l (x::its).toArray:=(b.push _).extBut sb.extBut lt
 have a1':=a1
 obtain⟨oi,hoi,_⟩:=a1'
 have b1':=b1
 obtain⟨ol,hol,_⟩:=b1'
 show wpAny _ _ (if([x]:List Value).length<1 then _ else _) _ _ _
 rw[if_neg (show ¬([x]:List Value).length<1 from Nat.lt_irrefl 1)]
 refine wpAny_bind (wpAny_holding (kun_collect (s:={s with heap:=g}) (T:="list_iterator") (.inr (.inr (.inl rfl))) (Walks.list (A:=A.in1) hh s.heap.objs.size l lt (x::its).toArray) (fun j u st=>st.1.typeIs) (k:=1) (by simp) ⟨a1,b1⟩ (lt_size hoi) (lt_size hol) (fun g2 tk hk=>?_) (by rw[size_toArray,sizeLine_eq];simp;omega)))
 show wpAny _ _ (if its.length<0 then _ else _) _ _ _
 rw[if_neg (Nat.not_lt_zero _)]
 show wpAny _ _ (newList (its.take (its.length - 0)) >>= fun d=>pure ([x]++[d]++its.drop (its.length - 0))) _ _ _
 rw[Nat.sub_zero,take_length,List.drop_length]
 refine wpAny_bind (wpAny_newList ?_ (by rw[sizeLine_eq];omega))
 exact wpAny_pure (q g2 tk fun c o e=>hk c o (Nat.ne_of_lt (lt_size e)) (sb.extBut c o (Nat.ne_of_lt (lt_size e)) (get?_push_of_some _ e)))
end
section
variable {X:Cx}{pos:Pos}
def gStar (K:W.Frag)(t:TGs):TG:=fun v σ H Q=>∃(a:Addr) (x:V) (xs:List V),v=.ref a∧SqL K H a (x::xs)∧xs.length+1≤16384∧∀D,H D=none→t [x,.ref D] σ (upd H D (.lst xs)) Q
theorem pg_star {e z:Expr}{k:Nat}{sp:Pos}{t:TGs}(hc:X.calm=true)(h:PGs X [e,z] t)(he:assignEach [e,.Starred z sp] X.env=[(false,assign e X.env),(true,assign z X.env)]:=by rfl)
 (hz:(assignEach [e,z] X.env).map (·.2)=[assign e X.env,assign z X.env]:=by rfl):PG X (.Tuple [e,.Starred z sp] k pos) (gStar X.K t):=by
 intro pins s σ H v u Q I r hw
 obtain⟨a,x,xs,e1,hq,hl,hw⟩:=hw
 subst e1
 cases r
 obtain⟨its,rv,pl,_⟩:=I.list hq
 cases rv with
 |cons rx rv=>
  rename_i ux its
  rw[assign_Tuple]
  refine wpAny_bind (wpAny_standAt ?_)
  unfold unpack
  rw[he]
  have li:=rv.length
  refine wpAny_bind (wpAny_holding (unp_star (I.ok.hd hc) pl.isList (by omega) fun g tk old=>?_))
  have I1:Inv X pins σ H {s with heap:=g,toks:=tk}:=I.kept (t':=tk) old
  have hn:H g.objs.size=none:=I1.hok.fresh (Nat.le_refl _)
  have I2:Inv X pins σ (upd H g.objs.size (.lst xs)) {s with heap:=g.push {cls:=.type "list",data:=.seq its.toArray},toks:=tk}:=
   I1.laid (a:=g.objs.size) (t':=tk) (o:=.lst xs) (fun b o e=>get?_push_of_some _ e) (Nat.le_refl _) ⟨by rw[sizeLine_eq];omega,its,0,rv,get?_push_size _ rfl⟩
  have fin:=h pins _ σ _ [x,.ref g.objs.size] [ux,.ref g.objs.size] Q I2 (.cons rx (.cons rfl .nil)) (hw _ hn)
  rw[hz]at fin
  exact fin
end
end L2
namespace BB
def bare (row:List Int):List Int:=row.filter fun p=>decide (p+1∉row)
def closedUp (row out:List Int):List Int:=(row.filter fun p=>decide (p∉out)).map fun p=>p - ((out.filter fun g=>decide (g<p)).length:Int)
def peel (row:List Int):List Int:=closedUp row (bare row++(bare row).map (· + 1))
theorem top_mem:∀{l:List Int},l≠[]→∃m,m∈l∧∀x∈l,x≤m
 |[],h=>absurd rfl h
 |[a],_=>⟨a,mem_singleton.mpr rfl,fun x hx=>by rw[mem_singleton.mp hx];exact Int.le_refl _⟩
 |a::b::r,_=>by
  obtain⟨m,hm,hx⟩:=top_mem (l:=b::r) (by simp)
  by_cases h:a≤m
  ·refine⟨m,mem_cons_of_mem _ hm,fun x hx'=>?_⟩
   rcases mem_cons.mp hx' with e | e
   ·rw[e];exact h
   ·exact hx x e
  ·refine⟨a,mem_cons_self,fun x hx'=>?_⟩
   rcases mem_cons.mp hx' with e | e
   ·rw[e];exact Int.le_refl _
   ·exact Int.le_trans (hx x e) (by omega)
theorem peel_lt {row:List Int}(h:row≠[]):(peel row).length<row.length:=by
 obtain⟨m,hm,hx⟩:=top_mem h
 have hb:m∈bare row:=mem_filter.mpr ⟨hm,decide_eq_true fun z=>by have:=hx _ z;omega⟩
 unfold peel closedUp
 rw[length_map]
 have le:=length_filter_le (fun p=>decide (p∉bare row++(bare row).map (· + 1))) row
 refine Nat.lt_of_le_of_ne le fun e=>?_
 have all:=(List.length_filter_eq_length_iff.mp e) m hm
 exact of_decide_eq_true all (mem_append_left _ hb)
theorem peel_le (row:List Int):(peel row).length≤row.length:=by
 unfold peel closedUp
 rw[length_map]
 exact length_filter_le _ _
theorem bare_le (row:List Int):(bare row).length≤row.length:=length_filter_le _ _
theorem sel_list {α β:Type}(d:α)(l:List α)(q:α→Bool)(f:α→β):((List.range l.length).filter fun i=>q (l.getD i d)).map (fun i=>f (l.getD i d))=(l.filter q).map f:=by
 induction l with
 |nil=>rfl
 |cons a r ih=>
  rw[length_cons,List.range_succ_eq_map,filter_cons,List.filter_map,filter_cons]
  have e1:(a::r).getD 0 d=a:=rfl
  have e2:((fun i=>q ((a::r).getD i d))∘Nat.succ)=fun i=>q (r.getD i d):=rfl
  rw[e1,e2]
  cases hq:q a with
  |true=>
   simp only[if_true,map_cons,map_map]
   rw[show(List.map ((fun i=>f ((a::r).getD i d))∘Nat.succ) ((List.range r.length).filter fun i=>q (r.getD i d)))=((List.range r.length).filter fun i=>q (r.getD i d)).map fun i=>f (r.getD i d) from rfl,ih]
   rfl
  |false=>
   simp only[false_eq_true,if_false,map_map]
   rw[show(List.map ((fun i=>f ((a::r).getD i d))∘Nat.succ) ((List.range r.length).filter fun i=>q (r.getD i d)))=((List.range r.length).filter fun i=>q (r.getD i d)).map fun i=>f (r.getD i d) from rfl,ih]
theorem all_list {α β:Type}(d:α)(l:List α)(f:α→β):(List.range l.length).map (fun i=>f (l.getD i d))=l.map f:=by
 have h:=sel_list d l (fun _=>true) f
 rw[List.filter_eq_self.mpr fun _ _=>rfl,List.filter_eq_self.mpr fun _ _=>rfl]at h
 exact h
def blk:List Int→List (Int×Int)
 |[]=>[]
 |p::r=>match blk r with
  |[]=>[(p,1)]
  |(q,n)::t=>if q=p+1 then(p,n+1)::t else(p,1)::(q,n)::t
theorem blk_head {p:Int}{r:List Int}:∃n t,blk (p::r)=(p,n)::t:=by
 unfold blk
 split
 ·exact⟨1,[],rfl⟩
 ·split
  ·exact⟨_,_,rfl⟩
  ·exact⟨_,_,rfl⟩
theorem blk_firsts:∀{r:List Int},r.Pairwise (· < ·)→∀(b:Int),(∀x∈r,b<x)→((b::r).filter fun p=>decide (p - 1∉b::r))=(blk (b::r)).map (·.1)
 |[],_,b,_=>by
  simp[blk]
  omega
 |p::r,up,b,hb=>by
  have up':=pairwise_cons.mp up
  have ih:=blk_firsts up'.2 p up'.1
  obtain⟨n,t,e⟩:=blk_head (p:=p) (r:=r)
  have bp:=hb p mem_cons_self
  have e2:blk (b::p::r)=if p=b+1 then(b,n+1)::t else(b,1)::(p,n)::t:=by
   conv=>lhs;unfold blk
   rw[e]
  have b1:b - 1∉b::p::r:=fun z=>by
   rcases mem_cons.mp z with z | z
   ·omega
   ·have:=hb _ z;omega
  have same:((p::r).filter fun x=>decide (x - 1∉b::p::r))=if p=b+1 then r.filter (fun x=>decide (x - 1∉p::r)) else(p::r).filter fun x=>decide (x - 1∉p::r):=by
   have out:∀x∈r,(x - 1∉b::p::r↔x - 1∉p::r):=fun x hx=>by
    have:=up'.1 x hx
    simp only[mem_cons,not_or]
    constructor
    ·intro z;exact z.2
    ·intro z
     refine⟨by omega,z⟩
   have rest:(r.filter fun x=>decide (x - 1∉b::p::r))=r.filter fun x=>decide (x - 1∉p::r):=filter_congr fun x hx=>by rw[decide_eq_decide];exact out x hx
   split
   ·rename_i c
    rw[filter_cons_of_neg (by subst c;simp),rest]
   ·rename_i c
    have p1:p - 1∉b::p::r:=fun z=>by
     rcases mem_cons.mp z with z | z
     ·omega
     ·rcases mem_cons.mp z with z | z
      ·omega
      ·have:=up'.1 _ z;omega
    have p2:p - 1∉p::r:=fun z=>p1 (mem_cons_of_mem _ z)
    rw[filter_cons_of_pos (by simpa using p1),filter_cons_of_pos (by simpa using p2),rest]
  rw[filter_cons_of_pos (by simpa using b1),same,e2]
  rw[e,map_cons]at ih
  have p2:p - 1∉p::r:=fun z=>by
   rcases mem_cons.mp z with z | z
   ·omega
   ·have:=up'.1 _ z;omega
  rw[filter_cons_of_pos (by simpa using p2)]at ih
  injection ih with _ ih
  split
  ·rw[map_cons,ih]
  ·rw[filter_cons_of_pos (by simpa using p2),ih]
   rfl
theorem blk_lasts:∀{r:List Int},r.Pairwise (· < ·)→∀(b:Int),(∀x∈r,b<x)→((b::r).filter fun p=>decide (p+1∉b::r))=(blk (b::r)).map fun q=>q.1+q.2 - 1
 |[],_,b,_=>by
  simp[blk]
  omega
 |p::r,up,b,hb=>by
  have up':=pairwise_cons.mp up
  have ih:=blk_lasts up'.2 p up'.1
  obtain⟨n,t,e⟩:=blk_head (p:=p) (r:=r)
  have bp:=hb p mem_cons_self
  have e2:blk (b::p::r)=if p=b+1 then(b,n+1)::t else(b,1)::(p,n)::t:=by
   conv=>lhs;unfold blk
   rw[e]
  have rest:((p::r).filter fun x=>decide (x+1∉b::p::r))=(p::r).filter fun x=>decide (x+1∉p::r):=filter_congr fun x hx=>by
   have:=hb x hx
   rw[decide_eq_decide]
   constructor
   ·intro z y;exact z (mem_cons_of_mem _ y)
   ·intro z y
    rcases mem_cons.mp y with y | y
    ·omega
    ·exact z y
  rw[e2]
  rw[e,map_cons]at ih
  split
  ·rename_i c
   rw[filter_cons_of_neg (by subst c;simp),rest,ih,map_cons]
   congr 1
   show p+n - 1=b+(n+1) - 1
   omega
  ·rename_i c
   have b1:b+1∉b::p::r:=fun z=>by
    rcases mem_cons.mp z with z | z
    ·omega
    ·rcases mem_cons.mp z with z | z
     ·omega
     ·have:=up'.1 _ z;omega
   rw[filter_cons_of_pos (by simpa using b1),rest,ih]
   show b::_=(b+1 - 1)::_
   rw[show b+1 - 1=b by omega]
   rfl
def pos:Int→List Nat→List Int
 |_,[]=>[]
 |x,g::r=>x::pos (x+1+(g:Int)) r
def pT:List Nat→Nat×List Nat
 |[]=>(0,[])
 |0::r=>(0,(pT r).1::(pT r).2)
 |(g+1)::r=>(g+(pT r).1,(pT r).2)
theorem pos_ge:∀(gs:List Nat) (x y:Int),y∈pos x gs→x≤y
 |[],_,_,h=>absurd h not_mem_nil
 |g::r,x,y,h=>by
  rcases mem_cons.mp h with z | z
  ·omega
  ·have:=pos_ge r _ _ z;omega
theorem pos_up:∀(gs:List Nat) (x:Int),(pos x gs).Pairwise (· < ·)
 |[],_=>.nil
 |g::r,x=>pairwise_cons.mpr ⟨fun y hy=>by have:=pos_ge r _ _ hy;omega,pos_up r _⟩
theorem pos_shift:∀(gs:List Nat) (x d:Int),(pos x gs).map (· - d)=pos (x - d) gs
 |[],_,_=>rfl
 |g::r,x,d=>by
  show(x - d)::(pos (x+1+(g:Int)) r).map (· - d)=(x - d)::_
  rw[pos_shift r]
  congr 2
  omega
theorem bare_in {p:Int}{r:List Int}(up:∀y∈r,p<y)(h:p+1∈r):bare (p::r)=bare r:=by
 unfold bare
 rw[filter_cons,if_neg (by simp[h])]
 exact filter_congr fun y hy=>by
  have:=up y hy
  rw[decide_eq_decide]
  constructor
  ·exact fun z w=>z (mem_cons_of_mem _ w)
  ·exact fun z w=>(mem_cons.mp w).elim (fun e=>by omega) z
theorem bare_out {p:Int}{r:List Int}(up:∀y∈r,p<y)(h:p+1∉r):bare (p::r)=p::bare r:=by
 unfold bare
 rw[filter_cons,if_pos (by simp[h];omega)]
 congr 1
 exact filter_congr fun y hy=>by
  have:=up y hy
  rw[decide_eq_decide]
  constructor
  ·exact fun z w=>z (mem_cons_of_mem _ w)
  ·exact fun z w=>(mem_cons.mp w).elim (fun e=>by omega) z
theorem left_is (row:List Int){y:Int}(hy:y∈row):y∉bare row++(bare row).map (· + 1)↔y+1∈row:=by
 constructor
 ·intro h
  by_cases c:y+1∈row
  ·exact c
  ·exact absurd (mem_append_left _ (mem_filter.mpr ⟨hy,decide_eq_true c⟩)) h
 ·intro h z
  rcases mem_append.mp z with w | w
  ·exact of_decide_eq_true (mem_filter.mp w).2 h
  ·obtain⟨b,hb,e⟩:=mem_map.mp w
   exact of_decide_eq_true (mem_filter.mp hb).2 (by rw[e];exact hy)
theorem peel_is (row:List Int):peel row=(row.filter fun y=>decide (y+1∈row)).map fun y=>y - (((bare row++(bare row).map (· + 1)).filter fun g=>decide (g<y)).length:Int):=by
 unfold peel closedUp
 congr 1
 exact filter_congr fun y hy=>by rw[decide_eq_decide];exact left_is row hy
theorem peel_in {p:Int}{r:List Int}(up:(p::r).Pairwise (· < ·))(h:p+1∈r):peel (p::r)=p::peel r:=by
 have u:=(pairwise_cons.mp up).1
 rw[peel_is,peel_is,bare_in u h,filter_cons,if_pos (by simp[h]),map_cons]
 have z:((bare r++(bare r).map (· + 1)).filter fun g=>decide (g<p))=[]:=List.filter_eq_nil_iff.mpr fun g hg=>by
  rcases mem_append.mp hg with w | w
  ·have:=u g (mem_filter.mp w).1;simp;omega
  ·obtain⟨b,hb,e⟩:=mem_map.mp w
   have:=u b (mem_filter.mp hb).1
   simp;omega
 rw[z]
 congr 1
 ·simp
 ·congr 1
  exact filter_congr fun y hy=>by
   have:=u y hy
   rw[decide_eq_decide]
   constructor
   ·exact fun w=>(mem_cons.mp w).elim (fun e=>by omega) id
   ·exact fun w=>mem_cons_of_mem _ w
theorem peel_out {p:Int}{r:List Int}(up:(p::r).Pairwise (· < ·))(h:p+1∉r):peel (p::r)=(peel r).map (· - 2):=by
 have u:=(pairwise_cons.mp up).1
 rw[peel_is,peel_is,bare_out u h,filter_cons,if_neg (by simp[h];omega),map_map]
 have e:(r.filter fun y=>decide (y+1∈p::r))=r.filter fun y=>decide (y+1∈r):=filter_congr fun y hy=>by
  have:=u y hy
  rw[decide_eq_decide]
  constructor
  ·exact fun w=>(mem_cons.mp w).elim (fun e=>by omega) id
  ·exact fun w=>mem_cons_of_mem _ w
 rw[e]
 refine map_congr_left fun y hy=>?_
 have hy':=(mem_filter.mp hy).1
 have a:=u y hy'
 have ne:y≠p+1:=fun z=>h (z▸hy')
 show y - _=y - _ - 2
 have c:((p::bare r++(p::bare r).map (· + 1)).filter fun g=>decide (g<y)).length=((bare r++(bare r).map (· + 1)).filter fun g=>decide (g<y)).length+2:=by
  rw[map_cons,filter_append,filter_append,length_append,length_append,filter_cons,if_pos (by simpa using a),filter_cons,if_pos (by simp;omega)]
  simp only[length_cons]
  omega
 rw[c]
 omega
def Lst (n:Nat):List Nat→Prop
 |[]=>True
 |[g]=>n≤g
 |_::b::r=>Lst n (b::r)
theorem peel_pos:∀(gs:List Nat) (x:Int),Lst 1 gs→peel (pos x gs)=pos (x+((pT gs).1:Int)) (pT gs).2
 |[],x,_=>rfl
 |0::[],x,h=>absurd h (by show ¬(1≤0);omega)
 |0::b::r,x,h=>by
  have up:=pos_up (0::b::r) x
  have e:pos x (0::b::r)=x::pos (x+1+((0:Nat):Int)) (b::r):=rfl
  have hin:x+1∈pos (x+1+((0:Nat):Int)) (b::r):=by
   show x+1∈(x+1+((0:Nat):Int))::_
   rw[Int.natCast_zero,Int.add_zero]
   exact mem_cons_self
  rw[e]at up ⊢
  rw[peel_in up hin,peel_pos (b::r) _ h]
  show x::_=pos (x+((0:Nat):Int)) ((pT (b::r)).1::(pT (b::r)).2)
  show x::_=(x+((0:Nat):Int))::pos (x+((0:Nat):Int)+1+((pT (b::r)).1:Int)) (pT (b::r)).2
  rw[Int.natCast_zero,Int.add_zero,Int.add_zero]
 |(g+1)::r,x,h=>by
  have up:=pos_up ((g+1)::r) x
  have e:pos x ((g+1)::r)=x::pos (x+1+((g+1:Nat):Int)) r:=rfl
  have hout:x+1∉pos (x+1+((g+1:Nat):Int)) r:=fun z=>by
   have:=pos_ge r _ _ z
   omega
  have h':Lst 1 r:=by cases r with | nil=>trivial | cons b r=>exact h
  rw[e]at up ⊢
  rw[peel_out up hout,peel_pos r _ h',pos_shift]
  show pos _ _=pos (x+((g+(pT r).1:Nat):Int)) (pT r).2
  congr 1
  omega
theorem lst_one {n:Nat}(h:1≤n):∀{gs:List Nat},Lst n gs→Lst 1 gs
 |[],_=>trivial
 |[g],z=>Nat.le_trans h z
 |_::b::r,z=>lst_one (gs:=b::r) h z
def tk:List Int→List Nat
 |[]=>[]
 |[_]=>[]
 |p::q::r=>(q - p - 1).toNat::tk (q::r)
theorem tk_pos (T:Int):∀row:List Int,(row++[T]).Pairwise (· < ·)→row=pos (row.headD 0) (tk (row++[T]))
 |[],_=>rfl
 |[p],up=>rfl
 |p::q::r,up=>by
  have u:=pairwise_cons.mp up
  have ih:=tk_pos T (q::r) u.2
  have pq:=u.1 q (by simp)
  show p::q::r=p::pos (p+1+((q - p - 1).toNat:Int)) (tk (q::(r++[T])))
  rw[show p+1+((q - p - 1).toNat:Int)=q by omega]
  congr 1
theorem tk_len (T:Int):∀row:List Int,(tk (row++[T])).length=row.length
 |[]=>rfl
 |[p]=>rfl
 |p::q::r=>by
  have ih:=tk_len T (q::r)
  show(tk (q::(r++[T]))).length+1=_
  rw[show q::(r++[T])=(q::r)++[T] from rfl,ih]
  rfl
theorem tk_lst (T:Int)(n:Nat):∀row:List Int,(∀p∈row,(n:Int)≤T - p - 1)→Lst n (tk (row++[T]))
 |[],_=>trivial
 |[p],h=>by
  have:=h p mem_cons_self
  show n≤(T - p - 1).toNat
  omega
 |p::q::r,h=>by
  have ih:=tk_lst T n (q::r) fun x hx=>h x (mem_cons_of_mem _ hx)
  show Lst n ((q - p - 1).toNat::tk ((q::r)++[T]))
  have l:=tk_len T (q::r)
  generalize tk ((q::r)++[T])=t at ih l
  cases t with
  |nil=>simp at l
  |cons c t=>exact ih
def tg (s:Nat):Nat→List Nat→Nat
 |_,[]=>0
 |L,g::r=>if L<s then 1+tg s (L+1 - g) r else tg s (L - g) r
def rn:List Nat→Nat
 |[]=>0
 |0::r=>rn r
 |(_+1)::r=>1+rn r
theorem far_T:∀(row:List Int) (n:Int),∃T,∀p∈row,n≤T - p - 1∧p<T
 |[],n=>⟨0,fun p h=>by cases h⟩
 |q::r,n=>by
  obtain⟨T,h⟩:=far_T r n
  refine⟨max T (q+n.toNat+1),fun p hp=>?_⟩
  rcases mem_cons.mp hp with e | e
  ·subst e;omega
  ·have:=h p e;omega
theorem gaps_of {row:List Int}(up:row.Pairwise (· < ·)):∃(x:Int) (gs:List Nat),row=pos x gs∧gs.length=row.length∧Lst row.length gs:=by
 obtain⟨T,hT⟩:=far_T row row.length
 refine⟨row.headD 0,tk (row++[T]),tk_pos T row ?_,tk_len T row,tk_lst T row.length row fun p hp=>(hT p hp).1⟩
 refine pairwise_append.mpr ⟨up,List.pairwise_singleton _ _,fun a ha b hb=>?_⟩
 rw[mem_singleton]at hb
 subst hb
 exact(hT a ha).2
def outs:Nat→List Int→List Int
 |0,_=>[]
 |n+1,row=>if row=[] then [] else((row.length:Int) - ((peel row).length:Int))::outs n (peel row)
def lens (cs:List Int):List Int:=(List.range (cs.headD 0).toNat).map fun(j:Nat)=>((cs.filter fun c=>decide ((j:Int)<c)).length:Int)
def tk1 (z L:Nat)(b:Bool):Nat:=if b=true∧L<z then 1 else 0
def tb (z:Nat):Nat→List Bool→Nat
 |_,[]=>0
 |L,b::r=>tk1 z L b+tb z (stp z L b).1 r
def mx (l:List Nat):Nat:=l.foldr max 0
def dep:List (Int×Int)→(Int×Int)→Nat
 |[],_=>0
 |c::r,q=>if q=c then 1+mx ((r.filter fun e=>decide (e.2<c.2)).map (dep r)) else dep r q
def swp (q:Int×Int):Int×Int:=(q.2,q.1)
def nrm (z:Int×Int):Int×Int:=if z.1<z.2 then z else swp z
def left (bl ml:List (Int×Int))(n:Nat):List (Int×Int):=ml.filter fun z=>decide (n≤dep bl (nrm z))
theorem peel_up {row:List Int}(up:row.Pairwise (· < ·)):(peel row).Pairwise (· < ·):=by
 by_cases e:row=[]
 ·subst e;exact .nil
 obtain⟨x,gs,e1,l,h⟩:=gaps_of up
 have n1:1≤row.length:=length_pos_iff.mpr e
 rw[e1,peel_pos gs x (lst_one n1 h)]
 exact pos_up _ _
theorem peel_bd {row:List Int}{A B:Int}(l:row.length≤12)(bd:∀p∈row,A≤p∧p≤B):∀p∈peel row,A - 24≤p∧p≤B:=fun p hp=>by
 rw[peel_is]at hp
 obtain⟨y,hy,rfl⟩:=mem_map.mp hp
 have h1:=bd y (mem_filter.mp hy).1
 have h2:=length_filter_le (fun g=>decide (g<y)) (bare row++(bare row).map (· + 1))
 have h3:(bare row).length≤row.length:=length_filter_le _ _
 rw[length_append,length_map]at h2
 show A - 24≤y - _∧y - _≤B
 omega
end BB
namespace K93
open L2
def top (i:Nat):Stmt:=PySem.Challenge.pw_boxballs_k93_a_desk.main.body.getD i (.Pass ⟨0,0,0,0⟩)
abbrev s_is_number:Stmt:=top 8
theorem sc_is_number:FnScope ["thing","least","greatest"] ["thing","least","greatest"] (defScope s_is_number):=⟨rfl,rfl,rfl,by decide +kernel,rfl,by decide +kernel,by decide +kernel⟩
abbrev s_need_number:Stmt:=top 9
theorem sc_need_number:FnScope ["thing","least","greatest"] ["thing","least","greatest"] (defScope s_need_number):=⟨rfl,rfl,rfl,by decide +kernel,rfl,by decide +kernel,by decide +kernel⟩
abbrev s_is_rising:Stmt:=top 10
theorem sc_is_rising:FnScope ["numbers"] ["numbers"] (defScope s_is_rising):=⟨rfl,rfl,rfl,by decide +kernel,rfl,by decide +kernel,by decide +kernel⟩
abbrev s_carry:Stmt:=top 11
theorem sc_carry:FnScope ["row","size","behind","load","taken","box","place","laid"] ["row","size"] (defScope s_carry):=⟨rfl,rfl,rfl,by decide +kernel,rfl,by decide +kernel,by decide +kernel⟩
abbrev s_mirrored:Stmt:=top 12
theorem sc_mirrored:FnScope ["row"] ["row"] (defScope s_mirrored):=⟨rfl,rfl,rfl,by decide +kernel,rfl,by decide +kernel,by decide +kernel⟩
abbrev s_carry_back:Stmt:=top 13
theorem sc_carry_back:FnScope ["row","size","ahead","taken"] ["row","size"] (defScope s_carry_back):=⟨rfl,rfl,rfl,by decide +kernel,rfl,by decide +kernel,by decide +kernel⟩
abbrev s_blocks_in:Stmt:=top 14
theorem sc_blocks_in:FnScope ["row","firsts","lasts"] ["row"] (defScope s_blocks_in):=⟨rfl,rfl,rfl,by decide +kernel,rfl,by decide +kernel,by decide +kernel⟩
abbrev s_closed_up:Stmt:=top 15
theorem sc_closed_up:FnScope ["places","out","left"] ["places","out"] (defScope s_closed_up):=⟨rfl,rfl,rfl,by decide +kernel,rfl,by decide +kernel,by decide +kernel⟩
abbrev s_lengths_from:Stmt:=top 16
theorem sc_lengths_from:FnScope ["counts","first"] ["counts"] (defScope s_lengths_from):=⟨rfl,rfl,rfl,by decide +kernel,rfl,by decide +kernel,by decide +kernel⟩
abbrev s_carried_by:Stmt:=top 19
theorem sc_carried_by:FnScope ["row","size","behind","taken"] ["row","size"] (defScope s_carried_by):=⟨rfl,rfl,rfl,by decide +kernel,rfl,by decide +kernel,by decide +kernel⟩
abbrev s_takings:Stmt:=top 20
theorem sc_takings:FnScope ["row","told","size","behind","taken"] ["row"] (defScope s_takings):=⟨rfl,rfl,rfl,by decide +kernel,rfl,by decide +kernel,by decide +kernel⟩
abbrev s_is_row:Stmt:=top 25
theorem sc_is_row:FnScope ["thing"] ["thing"] (defScope s_is_row):=⟨rfl,rfl,rfl,by decide +kernel,rfl,by decide +kernel,by decide +kernel⟩
abbrev s_carried:Stmt:=top 26
theorem sc_carried:FnScope ["row","behind","taken"] ["row"] (defScope s_carried):=⟨rfl,rfl,rfl,by decide +kernel,rfl,by decide +kernel,by decide +kernel⟩
abbrev s_undone:Stmt:=top 27
theorem sc_undone:FnScope ["row"] ["row"] (defScope s_undone):=⟨rfl,rfl,rfl,by decide +kernel,rfl,by decide +kernel,by decide +kernel⟩
abbrev s_later:Stmt:=top 28
theorem sc_later:FnScope ["row","steps","there","turn"] ["row","steps"] (defScope s_later):=⟨rfl,rfl,rfl,by decide +kernel,rfl,by decide +kernel,by decide +kernel⟩
abbrev s_is_free:Stmt:=top 31
theorem sc_is_free:FnScope ["row","found","first","many","start","following"] ["row"] (defScope s_is_free):=⟨rfl,rfl,rfl,by decide +kernel,rfl,by decide +kernel,by decide +kernel⟩
abbrev s_until_free:Stmt:=top 32
theorem sc_until_free:FnScope ["row","there","steps"] ["row"] (defScope s_until_free):=⟨rfl,rfl,rfl,by decide +kernel,rfl,by decide +kernel,by decide +kernel⟩
abbrev s_steps_to_free:Stmt:=top 33
theorem sc_steps_to_free:FnScope ["row","steps","there"] ["row"] (defScope s_steps_to_free):=⟨rfl,rfl,rfl,by decide +kernel,rfl,by decide +kernel,by decide +kernel⟩
abbrev s_number_read:Stmt:=top 39
theorem sc_number_read:FnScope ["text","figures","number"] ["text"] (defScope s_number_read):=⟨rfl,rfl,rfl,by decide +kernel,rfl,by decide +kernel,by decide +kernel⟩
abbrev s_row_text:Stmt:=top 40
theorem sc_row_text:FnScope ["row","signs"] ["row"] (defScope s_row_text):=⟨rfl,rfl,rfl,by decide +kernel,rfl,by decide +kernel,by decide +kernel⟩
abbrev s_row_read:Stmt:=top 41
theorem sc_row_read:FnScope ["text","first","mark","signs","start","row"] ["text"] (defScope s_row_read):=⟨rfl,rfl,rfl,by decide +kernel,rfl,by decide +kernel,by decide +kernel⟩
abbrev s_peeled:Stmt:=top 43
theorem sc_peeled:FnScope ["row","balls"] ["row"] (defScope s_peeled):=⟨rfl,rfl,rfl,by decide +kernel,rfl,by decide +kernel,by decide +kernel⟩
abbrev s_lengths:Stmt:=top 45
theorem sc_lengths:FnScope ["row","counts","left","rest"] ["row"] (defScope s_lengths):=⟨rfl,rfl,rfl,by decide +kernel,rfl,by decide +kernel,by decide +kernel⟩
abbrev s_one_making:Stmt:=top 46
theorem sc_one_making:FnScope ["one","other"] ["one","other"] (defScope s_one_making):=⟨rfl,rfl,rfl,by decide +kernel,rfl,by decide +kernel,by decide +kernel⟩
abbrev s_need_name:Stmt:=top 51
theorem sc_need_name:FnScope ["word"] ["word"] (defScope s_need_name):=⟨rfl,rfl,rfl,by decide +kernel,rfl,by decide +kernel,by decide +kernel⟩
abbrev s_part_read:Stmt:=top 52
theorem sc_part_read:FnScope ["form","word"] ["form","word"] (defScope s_part_read):=⟨rfl,rfl,rfl,by decide +kernel,rfl,by decide +kernel,by decide +kernel⟩
abbrev s_line_read:Stmt:=top 53
theorem sc_line_read:FnScope ["line","word","rest"] ["line"] (defScope s_line_read):=⟨rfl,rfl,rfl,by decide +kernel,rfl,by decide +kernel,by decide +kernel⟩
abbrev s_numbers_text:Stmt:=top 54
theorem sc_numbers_text:FnScope ["numbers"] ["numbers"] (defScope s_numbers_text):=⟨rfl,rfl,rfl,by decide +kernel,rfl,by decide +kernel,by decide +kernel⟩
abbrev s_row_to_keep:Stmt:=top 55
theorem sc_row_to_keep:FnScope ["word","given"] ["word","given"] (defScope s_row_to_keep):=⟨rfl,rfl,rfl,by decide +kernel,rfl,by decide +kernel,by decide +kernel⟩
abbrev s_answer:Stmt:=top 56
theorem sc_answer:FnScope ["word","given","steps"] ["word","given"] (defScope s_answer):=⟨rfl,rfl,rfl,by decide +kernel,rfl,by decide +kernel,by decide +kernel⟩
abbrev s_L_cell_at:Stmt:=top 59
theorem sc_L_cell_at:FnScope ["_law_script","_law_k"] ["_law_script","_law_k"] (defScope s_L_cell_at):=⟨rfl,rfl,rfl,by decide +kernel,rfl,by decide +kernel,by decide +kernel⟩
abbrev s_L_state:Stmt:=top 60
theorem sc_L_state:FnScope ["_law_script","_law_k","_law_cell"] ["_law_script","_law_k"] (defScope s_L_state):=⟨rfl,rfl,rfl,by decide +kernel,rfl,by decide +kernel,by decide +kernel⟩
abbrev s_L_take:Stmt:=top 61
theorem sc_L_take:FnScope ["_law_state_here","_law_many","_law_found","_law_mixed"] ["_law_state_here","_law_many"] (defScope s_L_take):=⟨rfl,rfl,rfl,by decide +kernel,rfl,by decide +kernel,by decide +kernel⟩
abbrev s_L_refused:Stmt:=top 62
theorem sc_L_refused:FnScope ["_law_call","_law_error","e","_law_sorts"] ["_law_call"] (defScope s_L_refused):=⟨rfl,rfl,rfl,by decide +kernel,rfl,by decide +kernel,by decide +kernel⟩
abbrev s_L_row:Stmt:=top 63
theorem sc_L_row:FnScope ["_law_state_here","_law_gaps","_law_found","_law_place","_law_turn","_law_size","_law_ball"] ["_law_state_here","_law_gaps"] (defScope s_L_row):=⟨rfl,rfl,rfl,by decide +kernel,rfl,by decide +kernel,by decide +kernel⟩
abbrev s_L_row_text:Stmt:=top 65
theorem sc_L_row_text:FnScope ["_law_row_here","_law_signs"] ["_law_row_here"] (defScope s_L_row_text):=⟨rfl,rfl,rfl,by decide +kernel,rfl,by decide +kernel,by decide +kernel⟩
abbrev s_L_name:Stmt:=top 66
theorem sc_L_name:FnScope ["_law_state_here","_law_held","_law_kind","_law_letters"] ["_law_state_here","_law_held"] (defScope s_L_name):=⟨rfl,rfl,rfl,by decide +kernel,rfl,by decide +kernel,by decide +kernel⟩
abbrev s_L_made:Stmt:=top 67
theorem sc_L_made:FnScope ["_law_call","_law_number"] ["_law_call"] (defScope s_L_made):=⟨rfl,rfl,rfl,by decide +kernel,rfl,by decide +kernel,by decide +kernel⟩
abbrev s_L_line:Stmt:=top 68
theorem sc_L_line:FnScope ["_law_state_here","_law_kept","_law_held","_law_name_here","_law_kind","_law_row_here","_law_one","_law_steps","_law_size"] ["_law_state_here","_law_kept"] (defScope s_L_line):=⟨rfl,rfl,rfl,by decide +kernel,rfl,by decide +kernel,by decide +kernel⟩
abbrev s_L_numbers:Stmt:=top 69
theorem sc_L_numbers:FnScope ["_law_row_here"] ["_law_row_here"] (defScope s_L_numbers):=⟨rfl,rfl,rfl,by decide +kernel,rfl,by decide +kernel,by decide +kernel⟩
abbrev s_L_one_right:Stmt:=top 70
theorem sc_L_one_right:FnScope ["_law_desk","_law_name_here","_law_row_here","_law_steps"] ["_law_desk","_law_name_here","_law_row_here"] (defScope s_L_one_right):=⟨rfl,rfl,rfl,by decide +kernel,rfl,by decide +kernel,by decide +kernel⟩
abbrev s_law:Stmt:=top 71
theorem sc_law:FnScope ["_law_script","_law_desk","_law_beside","_law_kept","_law_k","_law_state_here","_law_line_here","_law_name_here","_law_row_here","_law_held","_law_one","_law_other","_law_due"] ["_law_script"] (defScope s_law):=⟨rfl,rfl,rfl,by decide +kernel,rfl,by decide +kernel,by decide +kernel⟩
def Dok (x:Int)(b:Bool):Prop:=0≤x∧(b=false→x<2147483647)
def StAt (H:Hp)(a:Addr)(x:Int)(b:Bool):Prop:=H a=some (.lst [.int x,.bl b])∧Dok x b
def Keep (a:Addr)(H H':Hp):Prop:=∀c o,c≠a→H c=some o→H' c=some o
theorem at_ints {ns:List Int}{k:Int}(h0:0≤k)(h1:k<(ns.length:Int)):∃v:Int,atI (ns.map V.int) k=some (.int v)∧ns[k.toNat]?=some v:=by
 have hk:k.toNat<ns.length:=by omega
 have ek:((k.toNat:Nat):Int)=k:=by omega
 refine⟨ns[k.toNat],?_,List.getElem?_eq_getElem hk⟩
 have q:atI (ns.map V.int) ((k.toNat:Nat):Int)=some (.int ns[k.toNat]):=atI_nat (by rw[getElem?_map,List.getElem?_eq_getElem hk]<;>rfl)
 rw[ek]at q
 exact q
def spCell (K:W.Frag):Sp:=fun vs H Q _=>∃(a:Addr) (ns:List Int) (k:Int),vs=[.ref a,.int k]∧SqL K H a (ns.map V.int)∧0≤k∧∀c:Int,Q (.int c) H
def spState (K:W.Frag):Sp:=fun vs H Q _=>∃(a:Addr) (ns:List Int) (k:Int),vs=[.ref a,.int k]∧SqL K H a (ns.map V.int)∧0≤k∧
 ∀(r:Addr) (x:Int) (b:Bool),H r=none→Dok x b→Q (.ref r) (upd H r (.lst [.int x,.bl b]))
def spTake (K:W.Frag):Sp:=fun vs H Q _=>∃(a:Addr) (x:Int) (b:Bool) (m:Int),vs=[.ref a,.int m]∧StAt H a x b∧0<m∧m<1073741824∧
 ∀(v x':Int),0≤v→v<m→Dok x' b→Q (.int v) (upd H a (.lst [.int x',.bl b]))
section
variable {P:Program}{w:World}{K:W.Frag}{mg:Str→Option Value}{base:Heap}
theorem ok_L_cell_at {f:Addr}{fd:FuncData}(F:Fun K "_law_cell_at" "_law_cell_at" s_L_cell_at f fd)(nb:Nb mg)   :
 FnOk P w K mg base CX0 1 f fd ["_law_script","_law_k"] (spCell K):=by
 have nd:=sc_L_cell_at.nd
 refine F.ok (k:=0) sc_L_cell_at (fun vs H Q E h=>?_) (fun cdv A outer s H vs Q E hr h=>?_)
 ·obtain⟨a,ns,k,rfl,_⟩:=h
  rfl
 obtain⟨a,ns,k,rfl,hS,h0,q⟩:=h
 refine⟨_,(pss_cons (ps_if (pt_cmpR op_lt (pv 1) (pe_callB call_len_seq rfl nb.len PySem.boot_len (pa_cons (pv 0) pa_nil)) (nomark _))
  (pss_one (ps_ret (pe_ix ix_list (pv 0) (pv 1) (fun _ _=>rfl))))
  pss_nil)
 (pss_one (ps_ret pe_int))),?_⟩
 refine⟨_,rfl,_,rfl,a,_,rfl,.inl hS,_,_,rfl,rfl,_,rfl,?_⟩
 refine ite2 (fun c=>?_) (fun c=>?_)
 ·have c':k<(((ns.map V.int).length:Nat):Int):=of_decide_eq_true c
  rw[length_map]at c'
  obtain⟨v,q1,_⟩:=at_ints h0 c'
  exact⟨_,rfl,_,rfl,a,_,_,_,rfl,rfl,hS,q1,q _⟩
 ·exact q 0
theorem ok_L_state {f:Addr}{fd:FuncData}(F:Fun K "_law_state" "_law_state" s_L_state f fd)(nb:Nb mg)(h_L_cell_at:Has P w K mg base 1 "_law_cell_at" ["_law_script","_law_k"] (spCell K))  :
 FnOk P w K mg base CX0 2 f fd ["_law_script","_law_k"] (spState K):=by
 have nd:=sc_L_state.nd
 refine F.ok (k:=1) sc_L_state (fun vs H Q E h=>?_) (fun cdv A outer s H vs Q E hr h=>?_)
 ·obtain⟨a,ns,k,rfl,_⟩:=h
  rfl
 obtain⟨a,ns,k,rfl,hS,h0,q⟩:=h
 refine⟨_,(pss_cons (ps_set (i:=2) nd rfl (Or.inl rfl) (pe_def h_L_cell_at hr (pa_cons (pv 0) (pa_cons (pv 1) pa_nil))))
 (pss_cons (ps_if (pt_cmpR op_ge (pv 2) (pe_op op_pow pe_int pe_int) (nomark _))
  (pss_one (ps_ret (pe_lst (pa_cons (pe_op op_sub (pv 2) (pe_op op_pow pe_int pe_int)) (pa_cons pe_bl pa_nil)))))
  pss_nil)
 (pss_one (ps_ret (pe_lst (pa_cons (pe_op op_mod (pv 2) pe_int) (pa_cons pe_bl pa_nil))))))),?_⟩
 refine⟨_,rfl,_,rfl,a,ns,k,rfl,hS,h0,fun c=>?_⟩
 refine⟨_,rfl,_,_,rfl,rfl,⟨by decide,by decide,by decide⟩,_,_,rfl,rfl,_,rfl,?_⟩
 refine ite2 (fun z=>?_) (fun z=>?_)
 ·have z':(10:Int)^18≤c:=of_decide_eq_true z
  refine⟨_,rfl,_,_,rfl,rfl,⟨by decide,by decide,by decide⟩,_,_,rfl,rfl,(by show 2≤sizeLine;decide),fun r hr'=>q r _ true hr' ⟨?_,fun e=>by cases e⟩⟩
  show(0:Int)≤c - 10^18
  omega
 ·refine⟨_,rfl,_,_,rfl,rfl,(by show(0:Int)<2147483647;decide),(by show 2≤sizeLine;decide),fun r hr'=>q r _ false hr' ⟨?_,fun _=>?_⟩⟩
  ·exact Int.emod_nonneg _ (by decide)
  ·exact Int.emod_lt_of_pos _ (by decide)
theorem ok_L_take {f:Addr}{fd:FuncData}(F:Fun K "_law_take" "_law_take" s_L_take f fd)(nb:Nb mg)   :
 FnOk P w K mg base CX0 1 f fd ["_law_state_here","_law_many"] (spTake K):=by
 have nd:=sc_L_take.nd
 refine F.ok (k:=0) sc_L_take (fun vs H Q E h=>?_) (fun cdv A outer s H vs Q E hr h=>?_)
 ·obtain⟨a,x,b,m,rfl,_⟩:=h
  rfl
 obtain⟨a,x,b,m,rfl,⟨hS,d0,d1⟩,m0,m1,q⟩:=h
 refine⟨_,(pss_cons (ps_if (pt_truth (pe_ix ix_list (pv 0) pe_int (fun _ _=>rfl)) (fun _=>rfl))
  (pss_cons (ps_set (i:=2) nd rfl (Or.inl rfl) (pe_op op_mod (pe_ix ix_list (pv 0) pe_int (fun _ _=>rfl)) (pv 1)))
 (pss_cons (ps_asg (pe_op op_fdiv (pe_ix ix_list (pv 0) pe_int (fun _ _=>rfl)) (pv 1)) (pg_sub (pv 0) pe_int set_list))
 (pss_one (ps_ret (pv 2)))))
  pss_nil)
 (pss_cons (ps_asg (pe_op op_mod (pe_op op_add (pe_op op_mul (pe_ix ix_list (pv 0) pe_int (fun _ _=>rfl)) pe_int) pe_int) pe_int) (pg_sub (pv 0) pe_int set_list))
 (pss_cons (ps_set (i:=3) nd rfl (Or.inl rfl) (pe_op op_mod (pe_op op_add (pe_op op_add (pe_op op_mul (pe_ix ix_list (pv 0) pe_int (fun _ _=>rfl)) (pe_ix ix_list (pv 0) pe_int (fun _ _=>rfl))) (pe_op op_mul pe_int (pe_ix ix_list (pv 0) pe_int (fun _ _=>rfl)))) pe_int) pe_int))
 (pss_cons (ps_set (i:=3) nd rfl (Or.inl rfl) (pe_op op_mod (pe_op op_add (pe_op op_mul (pv 3) (pv 3)) (pe_op op_mul pe_int (pv 3))) pe_int))
 (pss_one (ps_ret (pe_op op_mod (pe_op op_fdiv (pv 3) pe_int) (pv 1)))))))),?_⟩
 refine⟨_,rfl,a,_,_,_,rfl,rfl,SqL.of hS,rfl,b,rfl,?_⟩
 cases b with
 |true=>
  refine iteT ?_
  refine⟨_,rfl,a,_,_,_,rfl,rfl,SqL.of hS,rfl,_,rfl,_,_,rfl,rfl,m0,?_⟩
  refine⟨_,rfl,a,_,_,_,rfl,rfl,SqL.of hS,rfl,_,rfl,_,_,rfl,rfl,⟨m0,m1⟩,?_⟩
  refine⟨_,rfl,a,_,_,0,rfl,rfl,hS,rfl,?_⟩
  refine⟨_,rfl,?_⟩
  exact q _ _ (Int.emod_nonneg _ (by omega)) (Int.emod_lt_of_pos _ m0) ⟨Int.ediv_nonneg d0 (by omega),fun e=>by cases e⟩
 |false=>
  refine iteF ?_
  have d2:=d1 rfl
  refine⟨_,rfl,a,_,_,_,rfl,rfl,SqL.of hS,rfl,_,_,rfl,rfl,.inl ⟨by omega,by omega⟩,_,_,rfl,rfl,_,_,rfl,rfl,(by show(0:Int)<2147483647;decide),?_⟩
  refine⟨_,rfl,a,_,_,0,rfl,rfl,hS,rfl,?_⟩
  have e0:(0:Int)≤(x*48271+29) % 2147483647:=Int.emod_nonneg _ (by decide)
  have e1:(x*48271+29) % 2147483647<2147483647:=Int.emod_lt_of_pos _ (by decide)
  refine⟨_,rfl,a,_,_,_,rfl,rfl,SqL.of upd_same,rfl,_,rfl,a,_,_,_,rfl,rfl,SqL.of upd_same,rfl,_,_,rfl,rfl,.inl ⟨by omega,by omega⟩,_,rfl,a,_,_,_,rfl,rfl,SqL.of upd_same,rfl,_,_,rfl,rfl,.inl ⟨by decide,by decide⟩,_,_,rfl,rfl,_,_,rfl,rfl,_,_,rfl,rfl,(by show(0:Int)<2147483629;decide),?_⟩
  refine⟨_,rfl,_,rfl,_,_,rfl,rfl,.inl ⟨?_,?_⟩,_,rfl,_,_,rfl,rfl,.inl ⟨by decide,by decide⟩,_,_,rfl,rfl,_,_,rfl,rfl,(by show(0:Int)<2147483587;decide),?_⟩
  ·exact Int.lt_of_lt_of_le (by decide) (Int.emod_nonneg _ (by decide))
  ·exact Int.lt_trans (Int.emod_lt_of_pos _ (by decide)) (by decide)
  refine⟨_,rfl,_,_,rfl,rfl,⟨by decide,by decide⟩,_,rfl,_,_,rfl,rfl,m0,?_⟩
  exact q _ _ (Int.emod_nonneg _ (by omega)) (Int.emod_lt_of_pos _ m0) ⟨e0,fun _=>e1⟩
end
end K93
namespace K93
open L2
def numB (lo hi:Int):V→Bool
 | .int i=>decide (lo≤i)&&decide (i≤hi)
 |_=>false
theorem kn_cases {H:Hp}{v:V}{T:String}(h:Kn H v T):(T="bool"∧∃b,v=.bl b)∨(T="int"∧∃i,v=.int i)∨(subT T "bool" = false∧subT T "int" = false∧∀lo hi,numB lo hi v=false):=by
 cases h with
 |bl b=>exact .inl ⟨rfl,b,rfl⟩
 |int i=>exact .inr (.inl ⟨rfl,i,rfl⟩)
 |_=>exact .inr (.inr ⟨by decide,by decide,fun _ _=>rfl⟩)
def spNum:Sp:=fun vs H Q _=>∃(v:V) (T:String) (lo hi:Int),vs=[v,.int lo,.int hi]∧Kn H v T∧Q (.bl (numB lo hi v)) H
def lts (ns:List Int):Nat→V:=fun i=>.bl (decide (ns.getD i 0<ns.getD (i+1) 0))
def riseB (ns:List Int):Bool:=(List.range (ns.length - 1)).all fun i=>decide (ns.getD i 0<ns.getD (i+1) 0)
def spRise:Sp:=fun vs H Q _=>∃(a:Addr) (ns:List Int),vs=[.ref a]∧H a=some (.tup (ns.map V.int))∧ns.length≤1000∧∀H',Same H H'→Q (.bl (riseB ns)) H'
theorem cut_from (xs:List V)(k:Nat):cutV xs (some (k:Int)) none=xs.drop k:=by
 unfold cutV
 rw[HT.sIx_nat,HT.sIx_none]
 by_cases h:k≤xs.length
 ·rw[Nat.min_eq_left h,List.take_of_length_le (by rw[length_drop];exact Nat.le_refl _)]
 ·rw[Nat.min_eq_right (by omega),List.drop_eq_nil_of_le (Nat.le_refl _),List.drop_eq_nil_of_le (by omega),List.take_nil]
theorem rise_list (ns:List Int):(List.range (ns.length - 1)).map (lts ns)=((List.range (ns.length - 1)).map fun i=>decide (ns.getD i 0<ns.getD (i+1) 0)).map V.bl:=by
 rw[map_map]
 rfl
theorem rise_all (ns:List Int):((List.range (ns.length - 1)).map fun i=>decide (ns.getD i 0<ns.getD (i+1) 0)).all id=riseB ns:=by
 unfold riseB
 rw[all_map]
 rfl
theorem getD_of {ns:List Int}{i:Nat}{v:Int}(h:(ns.map V.int)[i]?=some (.int v)):ns.getD i 0=v:=by
 rw[getElem?_map]at h
 cases e:ns[i]? with
 |none=>rw[e]at h;cases h
 |some z=>
  rw[e]at h
  have:z=v:=by simpa using h
  rw[getD_eq_getElem?_getD,e,this]
  rfl
theorem int_at {ns:List Int}{i:Nat}{x:V}(h:(ns.map V.int)[i]?=some x):∃v,x=.int v∧ns.getD i 0=v:=by
 have h':=h
 rw[getElem?_map]at h
 cases e:ns[i]? with
 |none=>rw[e]at h;cases h
 |some z=>
  rw[e]at h
  have:x=.int z:=by simpa using h.symm
  subst this
  exact⟨z,rfl,getD_of h'⟩
section
variable {P:Program}{w:World}{K:W.Frag}{mg:Str→Option Value}{base:Heap}
theorem ok_is_number {f:Addr}{fd:FuncData}(F:Fun K "is_number" "is_number" s_is_number f fd)(nb:Nb mg)   :
 FnOk P w K mg base CX0 1 f fd ["thing","least","greatest"] spNum:=by
 have nd:=sc_is_number.nd
 refine F.ok (k:=0) sc_is_number (fun vs H Q E h=>?_) (fun cdv A outer s H vs Q E hr h=>?_)
 ·obtain⟨v,T,lo,hi,rfl,_⟩:=h
  rfl
 obtain⟨v,T,lo,hi,rfl,hk,q⟩:=h
 refine⟨_,(pss_cons (ps_if (PW.pt (pw_or (pt_truth (pe_callB call_isi rfl nb.isi boot_isinstance (pa_cons (pv 0) (pa_cons (pe_ty nb.bool boot_bool) pa_nil))) (fun _=>rfl)) (pw_or1 (pt_not (pt_truth (pe_callB call_isi rfl nb.isi boot_isinstance (pa_cons (pv 0) (pa_cons (pe_ty nb.int boot_int) pa_nil))) (fun _=>rfl))))))
  (pss_one (ps_ret pe_bl))
  pss_nil)
 (pss_one (ps_ret (pe_chain op_le op_le (pv 1) (pv 0) (pv 2))))),?_⟩
 refine⟨_,rfl,_,_,_,rfl,hk,.inr (.inl rfl),_,rfl,?_⟩
 rcases kn_cases hk with⟨rfl,b,rfl⟩ | ⟨rfl,i,rfl⟩ | ⟨e1,e2,e3⟩
 ·exact iteT (iteT q)
 ·refine iteF ⟨_,rfl,_,_,_,rfl,hk,.inl rfl,_,rfl,iteF ?_⟩
  refine⟨_,rfl,_,rfl,_,_,rfl,rfl,_,rfl,?_⟩
  by_cases c:lo≤i
  ·rw[if_pos (decide_eq_true c)]
   refine⟨_,rfl,_,_,rfl,rfl,?_⟩
   have e:numB lo hi (.int i)=decide (i≤hi):=by show(decide (lo≤i)&&decide (i≤hi))=_;rw[decide_eq_true c,Bool.true_and]
   rw[e]at q
   exact q
  ·rw[if_neg (by rw[decide_eq_false c];decide)]
   have e:numB lo hi (.int i)=false:=by show(decide (lo≤i)&&decide (i≤hi))=_;rw[decide_eq_false c,Bool.false_and]
   rw[e]at q
   exact q
 ·rw[e1]
  refine iteF ⟨_,rfl,_,_,_,rfl,hk,.inl rfl,_,rfl,?_⟩
  rw[e2]
  rw[e3]at q
  exact iteT q
theorem ok_is_rising {f:Addr}{fd:FuncData}(F:Fun K "is_rising" "is_rising" s_is_rising f fd)(nb:Nb mg)   :
 FnOk P w K mg base CX0 1 f fd ["numbers"] spRise:=by
 have nd:=sc_is_rising.nd
 refine F.ok (k:=0) sc_is_rising (fun vs H Q E h=>?_) (fun cdv A outer s H vs Q E hr h=>?_)
 ·obtain⟨a,ns,rfl,_⟩:=h
  rfl
 obtain⟨a,ns,rfl,ha,hz,q⟩:=h
 refine⟨_,(pss_one (ps_ret (pe_callB (call_allB rfl) rfl nb.all boot_all (pa_cons (pe_comp2 (sc:=defScope s_is_rising) (N0:=["numbers"]) (N:=[]) (js:=[]) rfl rfl rfl (by exact⟨rfl,by decide +kernel,by decide +kernel,by decide +kernel,rfl,rfl,by decide,by decide +kernel,by decide +kernel⟩) rfl rfl
  (pi_zip true rfl nb.zip (pa_cons (pv 0) (pa_cons (pe_slice sl_tupA (pv 0) (po_some pe_int) po_none) pa_nil)))
  (fun _ _ _ _ _=>by exact pts_nil)
  (fun _ _ _ _ _=>by exact(pe_cmpR op_lt (pv 0) (pv 1) (nomark _)))) pa_nil)))),?_⟩
 refine⟨_,rfl,_,rfl,_,rfl,a,_,rfl,ha,fun p H1 s1 hp=>?_⟩
 have hp':H1 p=some (.tup ((ns.drop 1).map V.int)):=by rw[hp,show((1:Int))=((1:Nat):Int) from rfl,cut_from,List.map_drop]
 have ha':=s1 _ _ ha
 refine⟨a,p,_,_,rfl,SqT.of ha',SqT.of hp',fun D hD=>?_⟩
 have hl:min (ns.map V.int).length ((ns.drop 1).map V.int).length=ns.length - 1:=by rw[length_map,length_map,length_drop];omega
 have im:=items_zip (K:=K) ha' hp'
 rw[hl]at im
 refine comp_go (ns.length - 1) (by rw[sizeLine_eq];omega) (lts ns) (fun σ=>∃o1 o2,σ=[o1,o2]) _ hD ⟨_,_,rfl⟩ im (fun i x σ' H2 hi s2 im' hσ R hR=>?_) (fun H' s' hD'=>?_)
 ·obtain⟨o1,o2,rfl⟩:=hσ
  obtain⟨r,y,z,rfl,hr',hy,hz'⟩:=im'
  obtain⟨v,rfl,ev⟩:=int_at hy
  rw[getElem?_map,getElem?_drop,←getElem?_map,Nat.add_comm]at hz'
  obtain⟨u,rfl,eu⟩:=int_at hz'
  refine⟨r,_,rfl,SqT.of hr',rfl,_,_,rfl,_,_,rfl,rfl,?_⟩
  refine⟨_,rfl,_,rfl,_,_,rfl,rfl,hR _ _ _ ⟨_,_,rfl⟩ (Same.refl _) ?_⟩
  show V.bl (decide (v<u))=lts ns i
  unfold lts
  rw[ev,eu]
 ·rw[rise_list]at hD'
  refine⟨D,_,rfl,SqL.of hD',?_⟩
  rw[rise_all]
  exact q H' (s1.trans s')
end
end K93
namespace K93
open L2
def toI:V→Int
 | .int i=>i
 |_=>0
def rowB (xs:List V):Bool:=decide (xs.length≤12)&&(xs.all (numB (-1000000000) 1000000000)&&riseB (xs.map toI))
def rowO:Option HO→Bool
 |some (.tup xs)=>rowB xs
 |_=>false
def rowV (H:Hp):V→Bool
 | .ref a=>rowO (H a)
 |_=>false
theorem rowV_tup {H:Hp}{a:Addr}{xs:List V}(h:H a=some (.tup xs)):rowV H (.ref a)=rowB xs:=by
 show rowO (H a)=_
 rw[h]
 rfl
def due:Int→List V→Bool
 |_,[]=>true
 |l,x::r=>numB (-1000000000) 1000000000 x&&(decide (l<toI x)&&due (toI x) r)
theorem rise_two (a b:Int)(r:List Int):riseB (a::b::r)=(decide (a<b)&&riseB (b::r)):=by
 unfold riseB
 have e:(a::b::r).length - 1=(b::r).length - 1+1:=by simp
 rw[e,List.range_succ_eq_map,all_cons,all_map]
 rfl
theorem num_int {lo hi:Int}{x:V}(h:numB lo hi x=true):x=.int (toI x)∧lo≤toI x∧toI x≤hi:=by
 cases x with
 |int i=>
  have h':(decide (lo≤i)&&decide (i≤hi))=true:=h
  rw[and_eq_true,decide_eq_true_eq,decide_eq_true_eq]at h'
  exact⟨rfl,h'⟩
 |_=>cases h
structure Thing (H:Hp)(v:V):Prop where
 kn:∃T,Kn H v T
 it:∀a xs,v=.ref a→H a=some (.tup xs)→xs.length≤1000∧∀x∈xs,∃T,Kn H x T
theorem kn_same {H H':Hp}{v:V}{T:String}(s:Same H H')(h:Kn H v T):Kn H' v T:=by
 cases h with
 |non=>exact .non
 |bl b=>exact .bl b
 |int i=>exact .int i
 |str x=>exact .str x
 |lst e=>exact .lst (s _ _ e)
 |tup e=>exact .tup (s _ _ e)
 |dK e=>exact .dK (s _ _ e)
theorem kn_tuple {H:Hp}{v:V}{T:String}(h:Kn H v T):(T="tuple"∧∃a xs,v=.ref a∧H a=some (.tup xs))∨(subT T "tuple" = false∧rowV H v=false):=by
 cases h with
 |tup e=>exact .inl ⟨rfl,_,_,rfl,e⟩
 |lst e=>exact .inr ⟨by decide,by show rowO (H _)=false;rw[e];rfl⟩
 |dK e=>exact .inr ⟨by decide,by show rowO (H _)=false;rw[e];rfl⟩
 |_=>exact .inr ⟨by decide,rfl⟩
def spIsRow:Sp:=fun vs H Q _=>∃v:V,vs=[v]∧Thing H v∧∀H',Same H H'→Q (.bl (rowV H v)) H'
theorem map_getD (xs:List V)(f:V→V):(List.range xs.length).map (fun i=>f (xs.getD i .non))=xs.map f:=by
 apply ext_getElem?
 intro i
 rw[getElem?_map,getElem?_map]
 by_cases h:i<xs.length
 ·rw[getElem?_range h,List.getElem?_eq_getElem h]
  show some (f (xs.getD i .non))=some (f xs[i])
  rw[getD_eq_getElem?_getD,List.getElem?_eq_getElem h]
  rfl
 ·rw[List.getElem?_eq_none (by simpa using h),List.getElem?_eq_none (by omega)]
  rfl
theorem getD_some {xs:List V}{i:Nat}{x:V}(h:xs[i]?=some x):xs.getD i .non=x:=by
 rw[getD_eq_getElem?_getD,h]
 rfl
section
variable {P:Program}{w:World}{K:W.Frag}{mg:Str→Option Value}{base:Heap}
theorem ok_is_row {f:Addr}{fd:FuncData}(F:Fun K "is_row" "is_row" s_is_row f fd)(nb:Nb mg)(h_is_number:Has P w K mg base 1 "is_number" ["thing","least","greatest"] spNum)(h_is_rising:Has P w K mg base 1 "is_rising" ["numbers"] spRise)(c_MOST_BALLS:∃u,mg "MOST_BALLS" = some u∧RelV (.int 12) u)(c_FARTHEST:∃u,mg "FARTHEST" = some u∧RelV (.int 1000000000) u) :
 FnOk P w K mg base CX0 2 f fd ["thing"] spIsRow:=by
 have nd:=sc_is_row.nd
 refine F.ok (k:=1) sc_is_row (fun vs H Q E h=>?_) (fun cdv A outer s H vs Q E hr h=>?_)
 ·obtain⟨v,rfl,_⟩:=h
  rfl
 obtain⟨v,rfl,⟨⟨T,hk⟩,hit⟩,q⟩:=h
 refine⟨_,(pss_cons (ps_if (PW.pt (pw_or (pt_not (pt_truth (pe_callB call_isi rfl nb.isi boot_isinstance (pa_cons (pv 0) (pa_cons (pe_ty nb.tuple boot_tuple) pa_nil))) (fun _=>rfl))) (pw_or1 (pt_cmpR op_gt (pe_callB call_len_seq rfl nb.len PySem.boot_len (pa_cons (pv 0) pa_nil)) (pe_const c_MOST_BALLS) (nomark _)))))
  (pss_one (ps_ret pe_bl))
  pss_nil)
 (pss_cons (ps_if (pt_not (pt_truth (pe_callB (call_allB rfl) rfl nb.all boot_all (pa_cons (pe_comp1 (sc:=defScope s_is_row) (N0:=["thing"]) (N:=[]) (js:=[]) rfl rfl rfl (by exact⟨rfl,by decide +kernel,by decide +kernel,by decide +kernel,rfl,rfl,by decide,by decide +kernel,by decide +kernel⟩) rfl
  (pi_tup (pv 0))
  (fun _ _ _ _ _=>by exact pts_nil)
  (fun _ _ _ _ _=>by exact(pe_def h_is_number hr (pa_cons (pv 0) (pa_cons (pe_un un_neg (pe_const c_FARTHEST)) (pa_cons (pe_const c_FARTHEST) pa_nil)))))) pa_nil)) (fun _=>rfl)))
  (pss_one (ps_ret pe_bl))
  pss_nil)
 (pss_one (ps_ret (pe_def h_is_rising hr (pa_cons (pv 0) pa_nil)))))),?_⟩
 refine⟨_,rfl,_,_,_,rfl,hk,.inr (.inr (.inl rfl)),_,rfl,?_⟩
 rcases kn_tuple hk with⟨rfl,a,xs,rfl,ha⟩ | ⟨e1,e2⟩
 ·obtain⟨hz,hx⟩:=hit a xs rfl ha
  have er:=rowV_tup ha
  rw[er]at q
  refine iteF ⟨_,rfl,a,xs,rfl,.inr (SqT.of ha),_,_,rfl,rfl,_,rfl,?_⟩
  refine ite2 (fun c=>?_) (fun c=>?_)
  ·have c':(12:Int)<((xs.length:Nat):Int):=of_decide_eq_true c
   have e:rowB xs=false:=by unfold rowB;rw[decide_eq_false (by omega),Bool.false_and]
   rw[e]at q
   exact q H (Same.refl H)
  ·have c':¬(12:Int)<((xs.length:Nat):Int):=of_decide_eq_false (eq_false_iff.mpr c)
   refine⟨_,rfl,a,rfl,⟨_,SqT.of ha⟩,fun D hD=>?_⟩
   refine comp_go xs.length (by rw[sizeLine_eq];omega) (fun i=>.bl (numB (-1000000000) 1000000000 (xs.getD i .non))) (fun σ=>∃o1,σ=[o1]) _ hD (by exact⟨_,rfl⟩) (items_tup ha) (fun i x σ' H2 hi s2 im hσ R hR=>?_) (fun H' s' hD'=>?_)
   ·obtain⟨o1,rfl⟩:=hσ
    obtain⟨T',kx⟩:=hx x (mem_of_getElem? im)
    refine⟨_,rfl,_,rfl,x,T',-1000000000,1000000000,rfl,kn_same s2 kx,hR _ _ _ ⟨_,rfl⟩ (Same.refl _) ?_⟩
    rw[getD_some im]
   ·rw[map_getD xs (fun x=>V.bl (numB (-1000000000) 1000000000 x)),show xs.map (fun x=>V.bl (numB (-1000000000) 1000000000 x))=(xs.map (numB (-1000000000) 1000000000)).map V.bl by rw[map_map];rfl]at hD'
    refine⟨D,_,rfl,SqL.of hD',_,rfl,?_⟩
    have ea:(xs.map (numB (-1000000000) 1000000000)).all id=xs.all (numB (-1000000000) 1000000000):=by rw[all_map];rfl
    rw[ea]
    by_cases d:xs.all (numB (-1000000000) 1000000000)=true
    ·rw[d]
     have ex:xs=(xs.map toI).map V.int:=by
      rw[map_map]
      refine(List.map_id xs).symm.trans (map_congr_left fun x hx'=>?_)
      exact(num_int (all_eq_true.mp d x hx')).1
     have e:rowB xs=riseB (xs.map toI):=by unfold rowB;rw[decide_eq_true (by omega),d];rfl
     rw[e]at q
     refine iteF ⟨_,rfl,a,xs.map toI,rfl,by rw[←ex];exact s' _ _ ha,by rw[length_map];exact hz,fun H3 s3=>q H3 (s'.trans s3)⟩
    ·have d':=eq_false_iff.mpr d
     rw[d']
     have e:rowB xs=false:=by unfold rowB;rw[d'];cases decide (xs.length≤12)<;>rfl
     rw[e]at q
     exact iteT (q H' s')
 ·rw[e1]
  rw[e2]at q
  exact iteT (iteT (q H (Same.refl H)))
end
end K93
namespace K93
open L2
theorem at_mem {xs:List V}{k:Int}(h0:0≤k)(h1:k<(xs.length:Int)):∃u,atI xs k=some u∧u∈xs∧xs[k.toNat]?=some u:=by
 have hk:k.toNat<xs.length:=by omega
 have ek:((k.toNat:Nat):Int)=k:=by omega
 have q:atI xs ((k.toNat:Nat):Int)=some xs[k.toNat]:=atI_nat (List.getElem?_eq_getElem hk)
 rw[ek]at q
 exact⟨xs[k.toNat],q,getElem_mem hk,List.getElem?_eq_getElem hk⟩
theorem Keep.refl (a:Addr)(H:Hp):Keep a H H:=fun _ _ _ h=>h
theorem Keep.trans {a:Addr}{H H1 H2:Hp}(k:Keep a H H1)(k':Keep a H1 H2):Keep a H H2:=fun c o n h=>k' c o n (k c o n h)
theorem Keep.same {a:Addr}{H H1 H2:Hp}(k:Keep a H H1)(s:Same H1 H2):Keep a H H2:=fun c o n h=>s c o (k c o n h)
theorem keep_upd (a:Addr)(H:Hp)(o:HO):Keep a H (upd H a o):=fun c u n h=>by rw[upd_ne n];exact h
theorem StAt.same {H H':Hp}{a:Addr}{x:Int}{b:Bool}(h:StAt H a x b)(s:Same H H'):StAt H' a x b:=⟨s _ _ h.1,h.2⟩
theorem StAt.upd {H:Hp}{a:Addr}{x':Int}{b:Bool}(d:Dok x' b):StAt (L2.upd H a (.lst [.int x',.bl b])) a x' b:=⟨upd_same,d⟩
theorem ints_ne {ns:List Int}{x:Int}{b:Bool}:HO.lst (ns.map V.int)≠HO.lst [.int x,.bl b]:=by
 intro e
 have e':ns.map V.int=[.int x,.bl b]:=by injection e
 cases ns with
 |nil=>cases e'
 |cons n r=>cases r with
  |nil=>cases e'
  |cons m r=>cases e'
structure RowOk (row:List Int):Prop where
 len:row.length≤12
 up:row.Pairwise (· < ·)
 bd:∀p∈row,-20≤p∧p≤105
structure RI (gs:List Int)(H0:Hp)(a g f:Addr)(b:Bool)(H:Hp)(place bd:Int):Prop where
 st:∃x,StAt H a x b
 kp:Keep a H0 H
 gg:H g=some (.lst (gs.map V.int))
 ff:∃row:List Int,H f=some (.lst (row.map V.int))∧row.length≤12∧row.Pairwise (· < ·)∧∀p∈row,-20≤p∧p<place
 lo:-20≤place
 hi:place≤bd
 fa:f≠a
 ga:g≠a
 f0:H0 f=none
 fg:g≠f
theorem RI.take {gs:List Int}{H0 H:Hp}{a g f:Addr}{b:Bool}{place bd x':Int}(r:RI gs H0 a g f b H place bd)(d:Dok x' b):RI gs H0 a g f b (upd H a (.lst [.int x',.bl b])) place bd:=by
 refine⟨⟨x',StAt.upd d⟩,r.kp.trans (keep_upd a H _),by rw[upd_ne r.ga];exact r.gg,?_,r.lo,r.hi,r.fa,r.ga,r.f0,r.fg⟩
 obtain⟨row,h,z⟩:=r.ff
 exact⟨row,by rw[upd_ne r.fa];exact h,z⟩
theorem RI.new {gs:List Int}{H0 H:Hp}{a g f p:Addr}{b:Bool}{place bd:Int}{o:HO}(r:RI gs H0 a g f b H place bd)(hp:H p=none):RI gs H0 a g f b (upd H p o) place bd:=by
 have s:=same_new hp o
 obtain⟨row,h,z⟩:=r.ff
 obtain⟨x,hx⟩:=r.st
 exact⟨⟨x,hx.same s⟩,r.kp.same s,s _ _ r.gg,⟨row,s _ _ h,z⟩,r.lo,r.hi,r.fa,r.ga,r.f0,r.fg⟩
theorem RI.go {gs:List Int}{H0 H:Hp}{a g f:Addr}{b:Bool}{place bd p' bd':Int}(r:RI gs H0 a g f b H place bd)(h1:place≤p')(h2:p'≤bd'):RI gs H0 a g f b H p' bd':=by
 obtain⟨row,h,z1,z2,z3⟩:=r.ff
 exact⟨r.st,r.kp,r.gg,⟨row,h,z1,z2,fun p hp=>⟨(z3 p hp).1,by have:=(z3 p hp).2;omega⟩⟩,by have:=r.lo;omega,h2,r.fa,r.ga,r.f0,r.fg⟩
theorem RI.app {gs:List Int}{H0 H:Hp}{a g f:Addr}{b:Bool}{place bd:Int}{row:List Int}(r:RI gs H0 a g f b H place bd)(h:H f=some (.lst (row.map V.int)))(z1:row.length<12)(z2:row.Pairwise (· < ·))(z3:∀p∈row,-20≤p∧p<place) :
 RI gs H0 a g f b (upd H f (.lst (row.map V.int++[.int place]))) (place+1) (bd+1):=by
 obtain⟨x,hx⟩:=r.st
 refine⟨⟨x,?_,hx.2⟩,fun c o n hc=>?_,by rw[upd_ne r.fg];exact r.gg,⟨row++[place],?_,?_,?_,?_⟩,by have:=r.lo;omega,by have:=r.hi;omega,r.fa,r.ga,r.f0,r.fg⟩
 ·rw[upd_ne (Ne.symm r.fa)];exact hx.1
 ·rw[upd_ne (ne_of_none hc r.f0)];exact r.kp c o n hc
 ·rw[upd_same,map_append];rfl
 ·rw[length_append,length_singleton];omega
 ·exact pairwise_append.mpr ⟨z2,List.pairwise_singleton _ _,fun p hp q hq=>by
   have:q=place:=by simpa using hq
   rw[this];exact(z3 p hp).2⟩
 ·intro p hp
  rcases mem_append.mp hp with h' | h'
  ·have:=z3 p h';omega
  ·have:p=place:=by simpa using h'
   have:=r.lo;omega
structure GOk (gs:List Int):Prop where
 l0:0<gs.length
 l1:gs.length≤12
 bd:∀z∈gs,2≤z∧z≤12
def spRow:Sp:=fun vs H Q _=>∃(a g:Addr) (x:Int) (b:Bool) (gs:List Int),vs=[.ref a,.ref g]∧StAt H a x b∧H g=some (.lst (gs.map V.int))∧GOk gs∧
 ∀(r:Addr) (row:List Int) (H':Hp) (x':Int),Keep a H H'→StAt H' a x' b→H' r=some (.tup (row.map V.int))→RowOk row→Q (.ref r) H'
section
variable {P:Program}{w:World}{K:W.Frag}{mg:Str→Option Value}{base:Heap}
theorem ok_L_row {f:Addr}{fd:FuncData}(F:Fun K "_law_row" "_law_row" s_L_row f fd)(nb:Nb mg)(h_L_take:Has P w K mg base 1 "_law_take" ["_law_state_here","_law_many"] (spTake K))  :
 FnOk P w K mg base CX0 2 f fd ["_law_state_here","_law_gaps"] spRow:=by
 have nd:=sc_L_row.nd
 refine F.ok (k:=1) sc_L_row (fun vs H Q E h=>?_) (fun cdv A outer s H vs Q E hr h=>?_)
 ·obtain⟨a,g,x,b,gs,rfl,_⟩:=h
  rfl
 obtain⟨a,g,x,b,gs,rfl,hS,hg,gk,q⟩:=h
 have gl0:=gk.l0
 have gl1:=gk.l1
 refine⟨_,(pss_cons (ps_set (i:=2) nd rfl (Or.inl rfl) (pe_lst pa_nil))
 (pss_cons (ps_set (i:=3) nd rfl (Or.inl rfl) (pe_ix ix_list (pe_lst (pa_cons pe_int (pa_cons (pe_un un_neg pe_int) (pa_cons (pe_op op_sub (pe_def h_L_take hr (pa_cons (pv 0) (pa_cons pe_int pa_nil))) pe_int) pa_nil)))) (pe_def h_L_take hr (pa_cons (pv 0) (pa_cons pe_int pa_nil))) (fun _ _=>rfl)))
 (pss_cons (ps_for PassesOwn.never rfl (pi_range1 rfl nb.range (pa_cons (pe_def h_L_take hr (pa_cons (pv 0) (pa_cons pe_int pa_nil))) pa_nil)) (pg_name (i:=4) nd rfl (Or.inl rfl))
  (pss_cons (ps_set (i:=5) nd rfl (Or.inl rfl) (pe_op op_add pe_int (pe_def h_L_take hr (pa_cons (pv 0) (pa_cons (pe_ix ix_list (pe_lst (pa_cons pe_int (pa_cons pe_int (pa_cons pe_int pa_nil)))) (pe_def h_L_take hr (pa_cons (pv 0) (pa_cons pe_int pa_nil))) (fun _ _=>rfl)) pa_nil)))))
 (pss_cons (ps_for PassesOwn.never rfl (pi_range1 rfl nb.range (pa_cons (pv 5) pa_nil)) (pg_name (i:=6) nd rfl (Or.inl rfl))
  (pss_cons (ps_if (pt_cmpR op_lt (pe_callB call_len_seq rfl nb.len PySem.boot_len (pa_cons (pv 2) pa_nil)) pe_int (nomark _))
  (pss_one (ps_expr (pe_bm PySem.F.plainAttrs_list PySem.F.slot_list_append PySem.F.type_list_append mt_append (pv 2) (pa_cons (pv 3) pa_nil))))
  pss_nil)
 (pss_one (ps_set (i:=3) nd rfl (Or.inl rfl) (pe_op op_add (pv 3) pe_int)))))
 (pss_one (ps_set (i:=3) nd rfl (Or.inl rfl) (pe_op op_add (pe_op op_add (pv 3) pe_int) (pe_def h_L_take hr (pa_cons (pv 0) (pa_cons (pe_ix ix_list (pv 1) (pe_def h_L_take hr (pa_cons (pv 0) (pa_cons (pe_callB call_len_seq rfl nb.len PySem.boot_len (pa_cons (pv 1) pa_nil)) pa_nil))) (fun _ _=>rfl)) pa_nil)))))))))
 (pss_one (ps_ret (pe_callTy call_tuple_of rfl nb.tuple boot_tuple (pa_cons (pv 2) pa_nil))))))),?_⟩
 refine⟨(by show 0≤sizeLine;decide),fun f hf=>?_⟩
 have fa:f≠a:=(ne_of_none hS.1 hf).symm
 have fg:g≠f:=ne_of_none hg hf
 have ga:g≠a:=ne_of hg hS.1 (ints_ne (ns:=gs))
 have r0:RI gs H a g f b (upd H f (.lst [])) (-20) 20:=⟨⟨x,hS.same (same_new hf _)⟩,(Keep.refl a H).same (same_new hf _),same_new hf _ _ _ hg,⟨[],upd_same,by simp,.nil,fun p hp=>absurd hp (by simp)⟩,by omega,by omega,fa,ga,hf,fg⟩
 obtain⟨x1,st1⟩:=r0.st
 refine⟨_,rfl,_,rfl,a,x1,b,41,rfl,st1,by decide,by decide,fun v1 x2 v10 v11 d2=>?_⟩
 have r1:=r0.take d2
 refine⟨_,_,rfl,rfl,(by show 3≤sizeLine;decide),fun p hp=>?_⟩
 have r2:=r1.new (o:=.lst [.int 0,.int (-7),.int (v1 - 20)]) hp
 obtain⟨x3,st3⟩:=r2.st
 refine⟨_,rfl,a,x3,b,3,rfl,st3,by decide,by decide,fun v2 x4 v20 v21 d4=>?_⟩
 have r3:=r2.take d4
 have pa:p≠a:=fun e=>by
  obtain⟨x5,st5⟩:=r1.st
  rw[e,st5.1]at hp;cases hp
 obtain⟨u,hu,um,_⟩:=at_mem (xs:=[.int 0,.int (-7),.int (v1 - 20)]) v20 (by simpa using v21)
 have hpl:∃pl:Int,u=.int pl∧-20≤pl∧pl≤20:=by
  simp only[mem_cons,not_mem_nil,or_false]at um
  rcases um with rfl | rfl | rfl
  ·exact⟨_,rfl,by omega,by omega⟩
  ·exact⟨_,rfl,by omega,by omega⟩
  ·exact⟨_,rfl,by omega,by omega⟩
 obtain⟨pl,rfl,pl0,pl1⟩:=hpl
 refine⟨p,_,_,_,rfl,rfl,SqL.of (by rw[upd_ne pa];exact upd_same),hu,?_⟩
 have r4:=r3.go (p':=pl) (bd':=20) pl0 pl1
 obtain⟨x6,st6⟩:=r4.st
 refine⟨_,rfl,a,x6,b,6,rfl,st6,by decide,by decide,fun v3 x7 v30 v31 d7=>?_⟩
 have r5:=r4.take d7
 refine⟨v3,rfl,by omega,by omega,?_⟩
 refine for_range (fun i σ H'=>∃(pl:Int) (o1 o2 o3:Option V),σ=[some (.ref a),some (.ref g),some (.ref f),some (.int pl),o1,o2,o3]∧RI gs H a g f b H' pl (20+17*(i:Int))) ⟨pl,none,none,none,rfl,by simpa using r5⟩ (fun i σ H' hi hp'=>?_) (fun σ H' hp'=>?_)
 ·obtain⟨pl,o1,o2,o3,rfl,r⟩:=hp'
  obtain⟨y1,s1⟩:=r.st
  refine⟨_,rfl,(by show 3≤sizeLine;decide),fun p2 hp2=>?_⟩
  have ra:=r.new (o:=.lst [.int 2,.int 3,.int 5]) hp2
  obtain⟨y2,s2⟩:=ra.st
  refine⟨_,rfl,a,y2,b,3,rfl,s2,by decide,by decide,fun w1 y3 w10 w11 e3=>?_⟩
  have rb:=ra.take e3
  have pa2:p2≠a:=fun e=>by rw[e,s1.1]at hp2;cases hp2
  obtain⟨u2,hu2,um2,_⟩:=at_mem (xs:=[.int 2,.int 3,.int 5]) w10 (by simpa using w11)
  have hsz:∃z:Int,u2=.int z∧2≤z∧z≤5:=by
   simp only[mem_cons,not_mem_nil,or_false]at um2
   rcases um2 with rfl | rfl | rfl<;>exact⟨_,rfl,by decide,by decide⟩
  obtain⟨z,rfl,z0,z1⟩:=hsz
  refine⟨p2,_,_,_,rfl,rfl,SqL.of (by rw[upd_ne pa2];exact upd_same),hu2,?_⟩
  obtain⟨y4,s4⟩:=rb.st
  refine⟨a,y4,b,z,rfl,s4,by omega,by omega,fun w2 y5 w20 w21 e5=>?_⟩
  have rc:=rb.take e5
  refine⟨_,_,rfl,rfl,?_⟩
  refine⟨_,rfl,_,rfl,by omega,by omega,?_⟩
  have en:((1+w2).toNat:Int)=1+w2:=by omega
  refine for_range (fun j σ H'=>∃(pl':Int) (o3:Option V),σ=[some (.ref a),some (.ref g),some (.ref f),some (.int pl'),some (.int (0+(i:Int))),some (.int (1+w2)),o3]∧RI gs H a g f b H' pl' (20+17*(i:Int)+(j:Int))) ⟨pl,o3,rfl,by simpa using rc⟩ (fun j σ H' hj hp'=>?_) (fun σ H' hp'=>?_)
  ·obtain⟨pl',o3,rfl,r⟩:=hp'
   obtain⟨row,hrow,z1',z2',z3'⟩:=r.ff
   refine⟨_,rfl,f,_,rfl,.inl (SqL.of hrow),_,_,rfl,rfl,_,rfl,?_⟩
   refine ite2 (fun c=>?_) (fun c=>?_)
   ·have c':(((row.map V.int).length:Nat):Int)<12:=of_decide_eq_true c
    rw[length_map]at c'
    refine⟨_,rfl,.inl ⟨rfl,_,SqL.of hrow⟩,_,rfl,f,_,_,rfl,rfl,hrow,by rw[length_map,sizeLine_eq];omega,?_⟩
    refine⟨_,rfl,_,_,rfl,rfl,pl'+1,_,rfl,?_⟩
    have:=r.app hrow (by omega) z2' z3'
    rw[Int.natCast_add,←Int.add_assoc]
    exact this
   ·refine⟨_,rfl,_,_,rfl,rfl,pl'+1,_,rfl,?_⟩
    refine r.go (by omega) ?_
    have:=r.hi
    rw[Int.natCast_add];omega
  ·obtain⟨pl',o3,rfl,r⟩:=hp'
   refine⟨_,rfl,_,_,rfl,rfl,_,rfl,_,rfl,_,rfl,_,rfl,g,_,rfl,.inl (SqL.of r.gg),?_⟩
   obtain⟨y6,s6⟩:=r.st
   refine⟨a,y6,b,_,rfl,s6,by show(0:Int)<((gs.map V.int).length:Int);rw[length_map];omega,by show((gs.map V.int).length:Int)<1073741824;rw[length_map];omega,fun w3 y7 w30 w31 e7=>?_⟩
   have rd:=r.take e7
   obtain⟨u3,hu3,um3,_⟩:=at_mem (xs:=gs.map V.int) w30 (by simpa using w31)
   have hgp:∃z:Int,u3=.int z∧2≤z∧z≤12:=by
    obtain⟨z,hz,rfl⟩:=mem_map.mp um3
    exact⟨z,rfl,gk.bd z hz⟩
   obtain⟨gp,rfl,g0,g1⟩:=hgp
   refine⟨g,_,_,_,rfl,rfl,SqL.of rd.gg,hu3,?_⟩
   obtain⟨y8,s8⟩:=rd.st
   refine⟨a,y8,b,gp,rfl,s8,by omega,by omega,fun w4 y9 w40 w41 e9=>?_⟩
   have re:=rd.take e9
   refine⟨_,_,rfl,rfl,_,_,_,_,rfl,re.go (by omega) ?_⟩
   have:=r.hi
   rw[en]at this
   rw[Int.natCast_add];omega
 ·obtain⟨pl,o1,o2,o3,rfl,r⟩:=hp'
  obtain⟨row,hrow,z1',z2',z3'⟩:=r.ff
  obtain⟨y1,s1⟩:=r.st
  refine⟨_,rfl,f,_,rfl,.inl ⟨SqL.of hrow,fun l hl=>?_⟩⟩
  refine q l row _ y1 (r.kp.same (same_new hl _)) (s1.same (same_new hl _)) upd_same ⟨z1',z2',fun p hp=>⟨(z3' p hp).1,?_⟩⟩
  have h1:=(z3' p hp).2
  have h2:=r.hi
  have h3:((v3.toNat:Nat):Int)≤5:=by omega
  omega
end
end K93
namespace K93
open L2
theorem map_ints (ns:List Int)(h:Int→Int):(List.range ns.length).map (fun i=>V.int (h (ns.getD i 0)))=(ns.map h).map V.int:=by
 apply ext_getElem?
 intro i
 rw[getElem?_map,getElem?_map,getElem?_map]
 by_cases c:i<ns.length
 ·rw[getElem?_range c,List.getElem?_eq_getElem c]
  show some (V.int (h (ns.getD i 0)))=some (V.int (h ns[i]))
  rw[getD_eq_getElem?_getD,List.getElem?_eq_getElem c]
  rfl
 ·rw[List.getElem?_eq_none (by simpa using c),List.getElem?_eq_none (by omega)]
  rfl
def spNeed:Sp:=fun vs H Q _=>∃v lo hi:Int,vs=[.int v,.int lo,.int hi]∧lo≤v∧v≤hi∧Q .non H
def spMir:Sp:=fun vs H Q _=>∃(a:Addr) (ns:List Int),vs=[.ref a]∧H a=some (.tup (ns.map V.int))∧ns.length≤1000∧∀(r:Addr) (H':Hp),Same H H'→H' r=some (.tup ((BB.mir ns).map V.int))→Q (.ref r) H'
abbrev Ok (ns:List Int)(k:Nat):Prop:=BB.Rw ns k (-4000000000) 4000000000∧k≤12
def spCarry:Sp:=fun vs H Q _=>∃(a:Addr) (ns:List Int) (k z:Nat),vs=[.ref a,.int (z:Int)]∧H a=some (.tup (ns.map V.int))∧Ok ns k∧
 ∀(r p:Addr) (H':Hp),Same H H'→H' r=some (.tup ((BB.step z ns).map V.int))→H' p=some (.tup [.ref r,.int ((BB.taken z ns:Nat):Int)])→Q (.ref p) H'
def spBack:Sp:=fun vs H Q _=>∃(a:Addr) (ns:List Int) (k z:Nat),vs=[.ref a,.int (z:Int)]∧H a=some (.tup (ns.map V.int))∧Ok ns k∧
 ∀(r:Addr) (H':Hp),Same H H'→H' r=some (.tup ((BB.unstep z ns).map V.int))→Q (.ref r) H'
def spCar:Sp:=fun vs H Q _=>∃(a:Addr) (ns:List Int) (k:Nat),vs=[.ref a]∧H a=some (.tup (ns.map V.int))∧Ok ns k∧
 ∀(r:Addr) (H':Hp),Same H H'→H' r=some (.tup ((BB.step k ns).map V.int))→Q (.ref r) H'
def spUnd:Sp:=fun vs H Q _=>∃(a:Addr) (ns:List Int) (k:Nat),vs=[.ref a]∧H a=some (.tup (ns.map V.int))∧Ok ns k∧
 ∀(r:Addr) (H':Hp),Same H H'→H' r=some (.tup ((BB.unstep k ns).map V.int))→Q (.ref r) H'
theorem num_true {lo hi v:Int}(h1:lo≤v)(h2:v≤hi):numB lo hi (.int v)=true:=by
 show(decide (lo≤v)&&decide (v≤hi))=true
 rw[decide_eq_true h1,decide_eq_true h2]
 rfl
theorem head_rd {K:W.Frag}{a:Addr}{ns:List Int}{H:Hp}{σ:L2.St}{Q:VK}(h0:σ[0]?=some (some (.ref a)))(ha:H a=some (.tup (ns.map V.int)))(q:Q (.int (ns.headD 0)) H) :
 tIf (fun σ H Q=>tVar 0 σ H fun x H'=>∃k,TruV K x H' k∧Q k H') (tOp (rIxT K) (tVar 0) (tC (.int 0))) (tC (.int 0)) σ H Q:=by
 refine⟨_,h0,!(ns.map V.int).isEmpty,.inr (.inl ⟨_,SqT.of ha,rfl⟩),?_⟩
 cases ns with
 |nil=>exact iteF q
 |cons p r=>exact iteT ⟨_,h0,a,_,_,_,rfl,rfl,SqT.of ha,(show atI ((p::r).map V.int) ((0:Nat):Int)=some (.int p) from atI_nat rfl),q⟩
section
variable {P:Program}{w:World}{K:W.Frag}{mg:Str→Option Value}{base:Heap}
theorem ok_need_number {f:Addr}{fd:FuncData}(F:Fun K "need_number" "need_number" s_need_number f fd)(nb:Nb2 mg)(h_is_number:Has P w K mg base 1 "is_number" ["thing","least","greatest"] spNum)  :
 FnOk P w K mg base CX0 2 f fd ["thing","least","greatest"] spNeed:=by
 have nd:=sc_need_number.nd
 refine F.ok (k:=1) sc_need_number (fun vs H Q E h=>?_) (fun cdv A outer s H vs Q E hr h=>?_)
 ·obtain⟨v,lo,hi,rfl,_⟩:=h
  rfl
 obtain⟨v,lo,hi,rfl,h1,h2,q⟩:=h
 refine⟨_,(pss_one (ps_if (pt_not (pt_truth (pe_def h_is_number hr (pa_cons (pv 0) (pa_cons (pv 1) (pa_cons (pv 2) pa_nil)))) (fun _=>rfl)))
(pss_one ps_never)
pss_nil)),?_⟩
 refine⟨_,rfl,_,rfl,_,rfl,.int v,"int",lo,hi,rfl,.int v,_,rfl,?_⟩
 rw[num_true h1 h2]
 exact iteF q
theorem ok_mirrored {f:Addr}{fd:FuncData}(F:Fun K "mirrored" "mirrored" s_mirrored f fd)(nb:Nb2 mg)   :
 FnOk P w K mg base CX0 1 f fd ["row"] spMir:=by
 have nd:=sc_mirrored.nd
 refine F.ok (k:=0) sc_mirrored (fun vs H Q E h=>?_) (fun cdv A outer s H vs Q E hr h=>?_)
 ·obtain⟨a,ns,rfl,_⟩:=h
  rfl
 obtain⟨a,ns,rfl,ha,hl,q⟩:=h
 refine⟨_,(pss_one (ps_ret (pe_callTy call_tuple_of rfl nb.tuple boot_tuple (pa_cons (pe_comp1 (sc:=defScope s_mirrored) (N0:=["row"]) (N:=[]) (js:=[]) rfl rfl rfl (by exact⟨rfl,by decide +kernel,by decide +kernel,by decide +kernel,rfl,rfl,by decide,by decide +kernel,by decide +kernel⟩) rfl
(pi_rev rfl nb.rev (pa_cons (pv 0) pa_nil))
(fun _ _ _ _ _=>by exact pts_nil)
(fun _ _ _ _ _=>by exact(pe_un un_neg (pv 0)))) pa_nil)))),?_⟩
 refine⟨_,rfl,a,_,rfl,SqT.of ha,fun D hD=>?_⟩
 refine comp_go (ns.map V.int).length (by rw[length_map,sizeLine_eq];omega) (fun i=>.int (-(ns.reverse.getD i 0))) (fun σ=>∃o1,σ=[o1]) _ hD (by exact⟨_,rfl⟩) (items_rev ha) (fun i x σ' H2 hi s2 im hσ R hR=>?_) (fun H' s' hD'=>?_)
 ·obtain⟨o1,rfl⟩:=hσ
  rw[←List.map_reverse]at im
  obtain⟨v,rfl,ev⟩:=int_at im
  exact⟨_,rfl,_,rfl,hR _ _ _ ⟨_,rfl⟩ (Same.refl _) (by rw[ev])⟩
 ·rw[length_map,←length_reverse,map_ints ns.reverse (fun z=>-z)]at hD'
  exact⟨D,_,rfl,.inl ⟨SqL.of hD',fun l hl=>q l _ (s'.trans (same_new hl _)) upd_same⟩⟩
theorem ok_carry {f:Addr}{fd:FuncData}(F:Fun K "carry" "carry" s_carry f fd)(nb:Nb2 mg)   :
 FnOk P w K mg base CX0 1 f fd ["row","size"] spCarry:=by
 have nd:=sc_carry.nd
 refine F.ok (k:=0) sc_carry (fun vs H Q E h=>?_) (fun cdv A outer s H vs Q E hr h=>?_)
 ·obtain⟨a,ns,k,z,rfl,_⟩:=h
  rfl
 obtain⟨a,ns,k,z,rfl,ha,ok,q⟩:=h
 refine⟨_,(pss_cons (ps_set (i:=2) nd rfl (Or.inl rfl) (pe_lst pa_nil))
(pss_cons (ps_set (i:=3) nd rfl (Or.inl rfl) pe_int)
(pss_cons (ps_set (i:=4) nd rfl (Or.inl rfl) pe_int)
(pss_cons (ps_set (i:=5) nd rfl (Or.inl rfl) (pe_ifExp (pt_truth (pv 0) (fun _=>rfl)) (pe_ix ix_tup (pv 0) pe_int (fun _ _=>rfl)) pe_int))
(pss_cons (ps_for PassesOwn.never rfl (pi_tup (pv 0)) (pg_name (i:=6) nd rfl (Or.inl rfl))
(pss_cons (ps_set (i:=7) nd rfl (Or.inl rfl) (pe_callB (call_min2 rfl) rfl nb.min boot_min (pa_cons (pv 3) (pa_cons (pe_op op_sub (pv 6) (pv 5)) pa_nil))))
(pss_cons (ps_expr (pe_bm PySem.F.plainAttrs_list PySem.F.slot_list_extend PySem.F.type_list_extend mt_extend (pv 2) (pa_cons (pe_callTy (call_list_rng rfl) rfl nb.list boot_list (pa_cons (pe_callTy call_rng2 rfl nb.range boot_range (pa_cons (pv 5) (pa_cons (pe_op op_add (pv 5) (pv 7)) pa_nil))) pa_nil)) pa_nil)))
(pss_cons (ps_aug (i:=3) nd rfl (Or.inl rfl) (pv 7) ip_sub)
(pss_cons (ps_if (pt_cmpR op_lt (pv 3) (pv 1) (nomark _))
(pss_cons (ps_aug (i:=3) nd rfl (Or.inl rfl) pe_int ip_add)
(pss_one (ps_aug (i:=4) nd rfl (Or.inl rfl) pe_int ip_add)))
(pss_one (ps_expr (pe_bm PySem.F.plainAttrs_list PySem.F.slot_list_append PySem.F.type_list_append mt_append (pv 2) (pa_cons (pv 6) pa_nil)))))
(pss_one (ps_set (i:=5) nd rfl (Or.inl rfl) (pe_op op_add (pv 6) pe_int))))))))
(pss_cons (ps_expr (pe_bm PySem.F.plainAttrs_list PySem.F.slot_list_extend PySem.F.type_list_extend mt_extend (pv 2) (pa_cons (pe_callTy (call_list_rng rfl) rfl nb.list boot_list (pa_cons (pe_callTy call_rng2 rfl nb.range boot_range (pa_cons (pv 5) (pa_cons (pe_op op_add (pv 5) (pv 3)) pa_nil))) pa_nil)) pa_nil)))
(pss_one (ps_ret (pe_tup (pa_cons (pe_callTy call_tuple_of rfl nb.tuple boot_tuple (pa_cons (pv 2) pa_nil)) (pa_cons (pv 4) pa_nil))))))))))),?_⟩
 obtain⟨rw_,k12⟩:=ok
 refine⟨(by show 0≤sizeLine;decide),fun f hf=>?_⟩
 have s1:=same_new hf (.lst [])
 refine head_rd (K:=K) rfl (s1 _ _ ha) ?_
 have hb0:-4000000000≤ns.headD 0∧ns.headD 0≤4000000000∧∀p∈ns,ns.headD 0≤p:=by
  cases ns with
  |nil=>exact⟨by decide,by decide,fun p hp=>by cases hp⟩
  |cons p r=>
   have:=rw_.bd p (mem_cons_self ..)
   refine⟨this.1,this.2,fun x hx=>?_⟩
   rcases mem_cons.mp hx with rfl | hx
   ·exact Int.le_refl _
   ·exact Int.le_of_lt ((pairwise_cons.mp rw_.up).1 x hx)
 refine⟨_,rfl,a,rfl,⟨_,SqT.of (s1 _ _ ha)⟩,?_⟩
 refine for_tup (xs:=ns.map V.int) (fun i σ H'=>∃(bh:List Int) (L:Nat) (l t box:Int) (o6 o7:Option V),σ=[some (.ref a),some (.int (z:Int)),some (.ref f),some (.int l),some (.int t),some (.int box),o6,o7]∧l=(L:Int)∧Same H H'∧H' f=some (.lst (bh.map V.int))∧
  bh++BB.sp z L box (ns.drop i)=BB.step z ns∧(∃tn:Nat,t=(tn:Int)∧tn+BB.tkn z L box (ns.drop i)=BB.taken z ns)∧bh.length+L=i∧(∀p∈ns.drop i,box≤p)∧-4000000000≤box∧box≤4000000001) ?_ (fun i σ H' _ hp=>?_) (fun i x σ H' hxi hp=>?_) (fun σ H' hp=>?_)
 ·exact⟨[],0,_,_,_,_,_,rfl,rfl,s1,upd_same,rfl,⟨0,rfl,Nat.zero_add _⟩,rfl,hb0.2.2,hb0.1,by omega⟩
 ·obtain⟨bh,L,l,t,box,o6,o7,rfl,el,sm,hfh,_⟩:=hp
  exact SqT.of (sm _ _ ha)
 ·obtain⟨bh,L,l,t,box,o6,o7,rfl,el,sm,hfh,eq,⟨tn,et,tq⟩,cnt,ge,b1,b2⟩:=hp
  have hil:i<ns.length:=by
   have:=(List.getElem?_eq_some_iff.mp hxi).1
   simpa using this
  have k1:=rw_.len
  obtain⟨p,rfl,ep⟩:=int_at hxi
  have edr:ns.drop i=p::ns.drop (i+1):=by
   rw[List.drop_eq_getElem_cons hil]
   have:ns[i]=p:=by rw[←ep,getD_eq_getElem?_getD,List.getElem?_eq_getElem hil];rfl
   rw[this]
  have hbp:box≤p:=ge p (by rw[edr];exact mem_cons_self ..)
  have pb:=rw_.bd p (List.mem_of_mem_drop (by rw[edr];exact mem_cons_self .. : p∈ns.drop i))
  rw[edr]at eq tq
  unfold BB.sp at eq
  unfold BB.tkn at tq
  have em:(if p - box<l then p - box else l)=((min L (p - box).toNat:Nat):Int):=by
   rw[el]
   exact BB.load_gap (Int.sub_nonneg_of_le hbp)
  generalize hm:min L (p - box).toNat=m at eq em tq
  refine⟨_,rfl,_,rfl,_,rfl,_,_,rfl,rfl,_,_,rfl,?_⟩
  refine⟨_,rfl,.inl ⟨rfl,_,SqL.of hfh⟩,_,rfl,_,rfl,_,rfl,_,_,rfl,rfl,_,_,rfl,fun p1 hp1=>?_⟩
  refine⟨p1,_,_,rfl,upd_same,⟨by omega,by omega,by omega,by omega⟩,by rw[sizeLine_eq];omega,fun l1 hl1=>?_⟩
  rw[em]at hl1 ⊢
  have en:(box+(m:Int) - box).toNat=m:=by omega
  rw[en]
  have s3:=(same_new hp1 (.rng box (box+(m:Int)))).trans (same_new hl1 (.lst ((ups box m).map V.int)))
  have hl1':(upd (upd H' p1 (.rng box (box+(m:Int)))) l1 (.lst ((ups box m).map V.int))) l1=some (.lst ((ups box m).map V.int)):=upd_same
  have hf1:=s3 _ _ hfh
  have sm3:=sm.trans s3
  generalize upd (upd H' p1 (.rng box (box+(m:Int)))) l1 (.lst ((ups box m).map V.int))=H3 at s3 hl1' hf1 sm3 ⊢
  have lup:(ups box m).length=m:=ups_length ..
  have mle:m≤L:=by omega
  refine⟨f,l1,_,_,rfl,rfl,hf1,hl1',by rw[length_map,length_map,lup,sizeLine_eq];omega,?_⟩
  have hf4:(upd H3 f (.lst (bh.map V.int++(ups box m).map V.int))) f=some (.lst ((bh++ups box m).map V.int)):=by rw[upd_same,map_append]
  have sm4:Same H (upd H3 f (.lst (bh.map V.int++(ups box m).map V.int))):=fun b o hb=>by rw[upd_ne (ne_of_none hb hf)];exact sm3 b o hb
  generalize upd H3 f (.lst (bh.map V.int++(ups box m).map V.int))=H4 at hf4 sm4 ⊢
  refine⟨_,rfl,_,rfl,_,_,rfl,rfl,?_⟩
  have ll:l - (m:Int)=((L - m:Nat):Int):=by omega
  refine⟨_,rfl,_,rfl,_,_,rfl,rfl,_,rfl,?_⟩
  have nge:∀x∈ns.drop (i+1),p+1≤x:=fun x hx=>by
   have up2:(p::ns.drop (i+1)).Pairwise (· < ·):=by rw[←edr];exact rw_.up.sublist (List.drop_sublist ..)
   have:=(pairwise_cons.mp up2).1 x hx
   omega
  refine ite2 (fun c=>?_) (fun c=>?_)
  ·have c':l - (m:Int)<(z:Int):=of_decide_eq_true c
   rw[if_pos (by omega),←List.append_assoc]at eq
   rw[if_pos (by omega)]at tq
   refine⟨_,rfl,_,_,rfl,rfl,_,rfl,_,_,rfl,rfl,_,rfl,_,_,rfl,rfl,?_⟩
   exact⟨bh++ups box m,L - m+1,_,_,_,_,_,rfl,(by show l - (m:Int)+1=_;omega),sm4,hf4,eq,⟨tn+1,(by show t+1=_;omega),by omega⟩,by rw[length_append,lup];omega,nge,(by show _≤p+1;omega),(by show p+1≤_;omega)⟩
  ·have c':¬l - (m:Int)<(z:Int):=of_decide_eq_false (eq_false_iff.mpr c)
   rw[if_neg (by omega),←List.append_assoc]at eq
   rw[if_neg (by omega)]at tq
   refine⟨_,rfl,.inl ⟨rfl,_,SqL.of hf4⟩,_,rfl,f,_,_,rfl,rfl,hf4,by rw[length_map,length_append,lup,sizeLine_eq];omega,?_⟩
   have hf5:(upd H4 f (.lst ((bh++ups box m).map V.int++[.int p]))) f=some (.lst ((bh++ups box m++[p]).map V.int)):=by rw[upd_same,map_append (l₂:=[p])];rfl
   have sm5:Same H (upd H4 f (.lst ((bh++ups box m).map V.int++[.int p]))):=fun b o hb=>by rw[upd_ne (ne_of_none hb hf)];exact sm4 b o hb
   refine⟨_,rfl,_,_,rfl,rfl,?_⟩
   exact⟨bh++ups box m++[p],L - m,_,_,_,_,_,rfl,ll,sm5,hf5,by rw[List.append_assoc];exact eq,⟨tn,et,tq⟩,by rw[length_append,length_append,lup,length_singleton];omega,nge,(by show _≤p+1;omega),(by show p+1≤_;omega)⟩
 ·obtain⟨bh,L,l,t,box,o6,o7,rfl,el,sm,hfh,eq,⟨tn,et,tq⟩,cnt,ge,b1,b2⟩:=hp
  rw[length_map]at cnt eq tq
  rw[List.drop_length]at eq tq
  have tq':tn=BB.taken z ns:=tq
  have et':t=((BB.taken z ns:Nat):Int):=by rw[et,tq']
  subst et'
  have k1:=rw_.len
  have eq':bh++ups box L=BB.step z ns:=eq
  refine⟨_,rfl,.inl ⟨rfl,_,SqL.of hfh⟩,_,rfl,_,rfl,_,rfl,_,_,rfl,rfl,_,_,rfl,fun p1 hp1=>?_⟩
  refine⟨p1,_,_,rfl,upd_same,⟨by omega,by omega,by omega,by omega⟩,by rw[sizeLine_eq];omega,fun l1 hl1=>?_⟩
  have en:(box+l - box).toNat=L:=by omega
  rw[en]
  have s3:=(same_new hp1 (.rng box (box+l))).trans (same_new hl1 (.lst ((ups box L).map V.int)))
  have hl1':(upd (upd H' p1 (.rng box (box+l))) l1 (.lst ((ups box L).map V.int))) l1=some (.lst ((ups box L).map V.int)):=upd_same
  have hf1:=s3 _ _ hfh
  have sm3:=sm.trans s3
  generalize upd (upd H' p1 (.rng box (box+l))) l1 (.lst ((ups box L).map V.int))=H3 at s3 hl1' hf1 sm3 ⊢
  have lup:(ups box L).length=L:=ups_length ..
  refine⟨f,l1,_,_,rfl,rfl,hf1,hl1',by rw[length_map,length_map,lup,sizeLine_eq];omega,?_⟩
  have hf4:(upd H3 f (.lst (bh.map V.int++(ups box L).map V.int))) f=some (.lst ((BB.step z ns).map V.int)):=by rw[upd_same,←eq',map_append]
  have sm4:Same H (upd H3 f (.lst (bh.map V.int++(ups box L).map V.int))):=fun b o hb=>by rw[upd_ne (ne_of_none hb hf)];exact sm3 b o hb
  generalize upd H3 f (.lst (bh.map V.int++(ups box L).map V.int))=H4 at hf4 sm4 ⊢
  refine⟨_,rfl,f,_,rfl,.inl ⟨SqL.of hf4,fun l2 hl2=>?_⟩⟩
  refine⟨_,rfl,(by show 2≤sizeLine;decide),fun p2 hp2=>?_⟩
  have s5:=same_new hl2 (.tup ((BB.step z ns).map V.int))
  have s6:=same_new hp2 (.tup [.ref l2,.int ((BB.taken z ns:Nat):Int)])
  exact q l2 p2 _ (sm4.trans (s5.trans s6)) (s6 _ _ upd_same) upd_same
end
end K93
namespace K93
open L2
def spCb:Sp:=fun vs H Q _=>∃(a:Addr) (ns:List Int) (k z:Nat),vs=[.ref a,.int (z:Int)]∧H a=some (.tup (ns.map V.int))∧Ok ns k∧1≤z∧z≤12∧
 ∀(r:Addr) (H':Hp),Same H H'→H' r=some (.tup ((BB.step z ns).map V.int))→Q (.ref r) H'
section
variable {P:Program}{w:World}{K:W.Frag}{mg:Str→Option Value}{base:Heap}
theorem ok_carried_by {f:Addr}{fd:FuncData}(F:Fun K "carried_by" "carried_by" s_carried_by f fd)(nb:Nb2 mg)(h_need_number:Has P w K mg base 2 "need_number" ["thing","least","greatest"] spNeed)(h_carry:Has P w K mg base 1 "carry" ["row","size"] spCarry)(c_GREATEST_SIZE:∃u,mg "GREATEST_SIZE" = some u∧RelV (.int 12) u) :
 FnOk P w K mg base CX0 3 f fd ["row","size"] spCb:=by
 have nd:=sc_carried_by.nd
 refine F.ok (k:=2) sc_carried_by (fun vs H Q E h=>?_) (fun cdv A outer s H vs Q E hr h=>?_)
 ·obtain⟨a,ns,k,z,rfl,_⟩:=h
  rfl
 obtain⟨a,ns,k,z,rfl,ha,ok,z1,z2,q⟩:=h
 refine⟨_,(pss_cons (ps_expr (pe_def h_need_number hr (pa_cons (pv 1) (pa_cons pe_int (pa_cons (pe_const c_GREATEST_SIZE) pa_nil)))))
(pss_cons (ps_asg (pe_def h_carry hr (pa_cons (pv 0) (pa_cons (pv 1) pa_nil))) (pg_tup rfl (pgs_cons (pg_name (i:=2) nd rfl (Or.inl rfl)) (pgs_cons (pg_name (i:=3) nd rfl (Or.inl rfl)) pgs_nil))))
(pss_one (ps_ret (pv 2))))),?_⟩
 refine⟨_,rfl,_,1,12,rfl,by omega,by omega,?_⟩
 refine⟨_,rfl,_,rfl,a,ns,k,z,rfl,ha,ok,fun r2 p2 H2 s2 h2 h2'=>?_⟩
 refine⟨p2,_,rfl,SqT.of h2',rfl,_,_,rfl,_,_,rfl,rfl,?_⟩
 exact⟨_,rfl,q r2 H2 s2 h2⟩
theorem ok_carry_back {f:Addr}{fd:FuncData}(F:Fun K "carry_back" "carry_back" s_carry_back f fd)(nb:Nb2 mg)(h_carry:Has P w K mg base 1 "carry" ["row","size"] spCarry)(h_mirrored:Has P w K mg base 1 "mirrored" ["row"] spMir)  :
 FnOk P w K mg base CX0 2 f fd ["row","size"] spBack:=by
 have nd:=sc_carry_back.nd
 refine F.ok (k:=1) sc_carry_back (fun vs H Q E h=>?_) (fun cdv A outer s H vs Q E hr h=>?_)
 ·obtain⟨a,ns,k,z,rfl,_⟩:=h
  rfl
 obtain⟨a,ns,k,z,rfl,ha,ok,q⟩:=h
 refine⟨_,(pss_cons (ps_asg (pe_def h_carry hr (pa_cons (pe_def h_mirrored hr (pa_cons (pv 0) pa_nil)) (pa_cons (pv 1) pa_nil))) (pg_tup rfl (pgs_cons (pg_name (i:=2) nd rfl (Or.inl rfl)) (pgs_cons (pg_name (i:=3) nd rfl (Or.inl rfl)) pgs_nil))))
(pss_one (ps_ret (pe_def h_mirrored hr (pa_cons (pv 2) pa_nil))))),?_⟩
 obtain⟨rw_,k12⟩:=ok
 have hl:=rw_.len
 refine⟨_,rfl,a,ns,rfl,ha,by omega,fun r1 H1 s1 h1=>?_⟩
 have rm:BB.Rw (BB.mir ns) k (-4000000000) 4000000000:=by have:=rw_.mir;rw[Int.neg_neg]at this;exact this
 refine⟨_,rfl,r1,BB.mir ns,k,z,rfl,h1,⟨rm,k12⟩,fun r2 p2 H2 s2 h2 h2'=>?_⟩
 refine⟨p2,_,rfl,SqT.of h2',rfl,_,_,rfl,_,_,rfl,rfl,?_⟩
 have hl2:=(rm.step z).len
 refine⟨_,rfl,r2,_,rfl,h2,by omega,fun r3 H3 s3 h3=>?_⟩
 exact q r3 H3 (s1.trans (s2.trans s3)) h3
theorem ok_carried {f:Addr}{fd:FuncData}(F:Fun K "carried" "carried" s_carried f fd)(nb:Nb2 mg)(h_carry:Has P w K mg base 1 "carry" ["row","size"] spCarry)  :
 FnOk P w K mg base CX0 2 f fd ["row"] spCar:=by
 have nd:=sc_carried.nd
 refine F.ok (k:=1) sc_carried (fun vs H Q E h=>?_) (fun cdv A outer s H vs Q E hr h=>?_)
 ·obtain⟨a,ns,k,rfl,_⟩:=h
  rfl
 obtain⟨a,ns,k,rfl,ha,ok,q⟩:=h
 refine⟨_,(pss_cons (ps_asg (pe_def h_carry hr (pa_cons (pv 0) (pa_cons (pe_callB call_len_seq rfl nb.len PySem.boot_len (pa_cons (pv 0) pa_nil)) pa_nil))) (pg_tup rfl (pgs_cons (pg_name (i:=1) nd rfl (Or.inl rfl)) (pgs_cons (pg_name (i:=2) nd rfl (Or.inl rfl)) pgs_nil))))
(pss_one (ps_ret (pv 1)))),?_⟩
 have hl:(ns.map V.int).length=k:=by rw[length_map];exact ok.1.len
 refine⟨_,rfl,_,rfl,a,_,rfl,.inr (SqT.of ha),a,ns,k,k,?_,ha,ok,fun r2 p2 H2 s2 h2 h2'=>?_⟩
 ·rw[hl];rfl
 refine⟨p2,_,rfl,SqT.of h2',rfl,_,_,rfl,_,_,rfl,rfl,?_⟩
 exact⟨_,rfl,q r2 H2 s2 h2⟩
theorem ok_undone {f:Addr}{fd:FuncData}(F:Fun K "undone" "undone" s_undone f fd)(nb:Nb2 mg)(h_carry_back:Has P w K mg base 2 "carry_back" ["row","size"] spBack)  :
 FnOk P w K mg base CX0 3 f fd ["row"] spUnd:=by
 have nd:=sc_undone.nd
 refine F.ok (k:=2) sc_undone (fun vs H Q E h=>?_) (fun cdv A outer s H vs Q E hr h=>?_)
 ·obtain⟨a,ns,k,rfl,_⟩:=h
  rfl
 obtain⟨a,ns,k,rfl,ha,ok,q⟩:=h
 refine⟨_,(pss_one (ps_ret (pe_def h_carry_back hr (pa_cons (pv 0) (pa_cons (pe_callB call_len_seq rfl nb.len PySem.boot_len (pa_cons (pv 0) pa_nil)) pa_nil))))),?_⟩
 have hl:(ns.map V.int).length=k:=by rw[length_map];exact ok.1.len
 refine⟨_,rfl,_,rfl,a,_,rfl,.inr (SqT.of ha),a,ns,k,k,?_,ha,ok,fun r2 H2 s2 h2=>?_⟩
 ·rw[hl];rfl
 exact q r2 H2 s2 h2
end
end K93
namespace K93
open L2
def spLater:Sp:=fun vs H Q _=>∃(a:Addr) (ns:List Int) (k:Nat) (s:Int),vs=[.ref a,.int s]∧H a=some (.tup (ns.map V.int))∧BB.Rw ns k (-2000000000) 2000000000∧k≤12∧-60≤s∧s≤60∧
 ∀(r:Addr) (H':Hp),Same H H'→H' r=some (.tup ((BB.lat k s ns).map V.int))→Q (.ref r) H'
theorem ok_bound {ns:List Int}{k:Nat}{A B:Int}(h:BB.Rw ns k A B)(k12:k≤12)(n:Nat)(hn:n≤60)(hA:-2000000000≤A)(hB:B≤2000000000)(z:Nat):Ok (BB.it (BB.step z) n ns) k∧Ok (BB.it (BB.unstep z) n ns) k:=by
 have hm:(n:Int)*(k:Int)≤60*12:=by
  have:=Nat.mul_le_mul hn k12
  have e:((n*k:Nat):Int)=(n:Int)*(k:Int):=Int.natCast_mul n k
  omega
 have h0:0≤(n:Int)*(k:Int):=Int.mul_nonneg (by omega) (by omega)
 exact⟨⟨(h.its n).mono (by omega) (by omega),k12⟩,⟨(h.itu n).mono (by omega) (by omega),k12⟩⟩
section
variable {P:Program}{w:World}{K:W.Frag}{mg:Str→Option Value}{base:Heap}
theorem ok_later {f:Addr}{fd:FuncData}(F:Fun K "later" "later" s_later f fd)(nb:Nb2 mg)(h_need_number:Has P w K mg base 2 "need_number" ["thing","least","greatest"] spNeed)(h_carried:Has P w K mg base 2 "carried" ["row"] spCar)(h_undone:Has P w K mg base 3 "undone" ["row"] spUnd)(c_MOST_STEPS:∃u,mg "MOST_STEPS" = some u∧RelV (.int 60) u) :
 FnOk P w K mg base CX0 4 f fd ["row","steps"] spLater:=by
 have nd:=sc_later.nd
 refine F.ok (k:=3) sc_later (fun vs H Q E h=>?_) (fun cdv A outer s H vs Q E hr h=>?_)
 ·obtain⟨a,ns,k,s,rfl,_⟩:=h
  rfl
 obtain⟨a,ns,k,s,rfl,ha,rw_,k12,l1,l2,q⟩:=h
 refine⟨_,(pss_cons (ps_expr (pe_def h_need_number hr (pa_cons (pv 1) (pa_cons (pe_un un_neg (pe_const c_MOST_STEPS)) (pa_cons (pe_const c_MOST_STEPS) pa_nil)))))
(pss_cons (ps_set (i:=2) nd rfl (Or.inl rfl) (pe_callTy call_tuple_of rfl nb.tuple boot_tuple (pa_cons (pv 0) pa_nil)))
(pss_cons (ps_for PassesOwn.never rfl (pi_range1 rfl nb.range (pa_cons (pe_callB call_abs rfl nb.abs boot_abs (pa_cons (pv 1) pa_nil)) pa_nil)) (pg_name (i:=3) nd rfl (Or.inl rfl))
(pss_one (ps_set (i:=2) nd rfl (Or.inl rfl) (pe_ifExp (pt_cmpR op_gt (pv 1) pe_int (nomark _)) (pe_def h_carried hr (pa_cons (pv 2) pa_nil)) (pe_def h_undone hr (pa_cons (pv 2) pa_nil))))))
(pss_one (ps_ret (pv 2)))))),?_⟩
 refine⟨_,rfl,_,rfl,s,-60,60,rfl,l1,l2,?_⟩
 refine⟨_,rfl,a,_,rfl,.inr ⟨SqT.of ha,?_⟩⟩
 refine⟨_,rfl,_,rfl,_,rfl,?_,?_,?_⟩
 ·split<;>omega
 ·split<;>omega
 have en:(if s<0 then -s else s).toNat≤60:=by split<;>omega
 refine for_range (fun i σ H'=>Same H H'∧∃r o3,σ=[some (.ref a),some (.int s),some (.ref r),o3]∧H' r=some (.tup ((BB.it (if 0<s then BB.step k else BB.unstep k) i ns).map V.int))) ⟨Same.refl H,a,_,rfl,ha⟩ (fun i σ H' hi hp=>?_) (fun σ H' hp=>?_)
 ·obtain⟨sm,r,o3,rfl,hr1⟩:=hp
  obtain⟨ob1,ob2⟩:=ok_bound rw_ k12 i (by omega) (by omega) (by omega) k
  refine⟨_,rfl,_,_,rfl,rfl,_,rfl,?_⟩
  refine ite2 (fun c=>?_) (fun c=>?_)
  ·have c':0<s:=of_decide_eq_true c
   rw[if_pos c']at hr1 ⊢
   refine⟨_,rfl,r,_,k,rfl,hr1,ob1,fun r2 H2 s2 h2=>?_⟩
   exact⟨sm.trans s2,r2,_,rfl,h2⟩
  ·have c':¬0<s:=of_decide_eq_false (eq_false_iff.mpr c)
   rw[if_neg c']at hr1 ⊢
   refine⟨_,rfl,r,_,k,rfl,hr1,ob2,fun r2 H2 s2 h2=>?_⟩
   exact⟨sm.trans s2,r2,_,rfl,h2⟩
 ·obtain⟨sm,r,o3,rfl,hr1⟩:=hp
  refine⟨_,rfl,q r H' sm ?_⟩
  rw[hr1]
  congr 3
  unfold BB.lat
  by_cases c:0<s
  ·rw[if_pos c,if_pos c,if_neg (by omega)]
  ·rw[if_neg c,if_neg c]
   congr 1
   split<;>omega
end
end K93
namespace K93
open L2
abbrev scIn:Scope:={kind:=.function,names:=[(Str.ofString ".0",.local),(Str.ofString "place",.cell),(Str.ofString "len",.globalImplicit),(Str.ofString "out",.cell)],isGenerator:=false,isCoroutine:=false,more:=[]}
theorem in_nums (b:Int)(ns:List Int):inV (.int b) (ns.map V.int)=decide (b∈ns):=by
 unfold inV
 rw[List.any_map,Bool.eq_iff_iff,List.any_eq_true,decide_eq_true_iff]
 constructor
 ·rintro⟨x,hx,e⟩
  have e':x=b:=of_decide_eq_true e
  exact e'▸hx
 ·intro h
  exact⟨b,h,decide_eq_true (rfl:b=b)⟩
theorem flat_nums (ns:List Int):(ns.map V.int).all flatV=true:=by
 rw[all_map,all_eq_true]
 intro x _
 rfl
theorem num_at {ns:List Int}{i:Nat}{x:V}(h:(ns.map V.int)[i]?=some x):x=.int (ns.getD i 0):=by
 rw[getElem?_map]at h
 cases e:ns[i]? with
 |none=>rw[e]at h;cases h
 |some n=>
  rw[e]at h
  cases h
  rw[getD_eq_getElem?_getD,e]
  rfl
def spClosed:Sp:=fun vs H Q _=>∃(a b:Addr) (row out:List Int),vs=[.ref a,.ref b]∧H a=some (.tup (row.map V.int))∧H b=some (.lst (out.map V.int))∧row.length≤12∧out.length≤24∧
 ∀(r:Addr) (H':Hp),Same H H'→H' r=some (.tup ((BB.closedUp row out).map V.int))→Q (.ref r) H'
def spPeel:Sp:=fun vs H Q _=>∃(a:Addr) (row:List Int),vs=[.ref a]∧H a=some (.tup (row.map V.int))∧row.length≤12∧
 ∀(r:Addr) (H':Hp),Same H H'→H' r=some (.tup ((BB.peel row).map V.int))→Q (.ref r) H'
section
variable {P:Program}{w:World}{K:W.Frag}{mg:Str→Option Value}{base:Heap}
theorem ok_closed_up {f:Addr}{fd:FuncData}(F:Fun K "closed_up" "closed_up" s_closed_up f fd)(nb:Nb mg)   :
 FnOk P w K mg base CX0 1 f fd ["places","out"] spClosed:=by
 have nd:=sc_closed_up.nd
 refine F.ok (k:=0) sc_closed_up (fun vs H Q E h=>?_) (fun cdv A outer s H vs Q E hr h=>?_)
 ·obtain⟨a,b,row,out,rfl,_⟩:=h
  rfl
 obtain⟨a,b,row,out,rfl,ha,hb,r12,o24,q⟩:=h
 refine⟨_,(pss_cons (ps_comp1 (ii:=2) nd rfl (Or.inl rfl) (sc:=defScope s_closed_up) (N0:=["places","out","left"]) (N:=["out"]) (js:=[1]) rfl rfl rfl (by exact⟨rfl,by decide +kernel,by decide +kernel,by decide +kernel,rfl,rfl,by decide,by decide +kernel,by decide +kernel⟩) rfl
(pi_tup (pv 0))
(fun _ _ _ _ _=>by exact(pts_one (pt_cmpR (op_notInK K rfl) (pv 0) (pv 1) rfl)))
(fun _ _ _ _ _=>by exact(pv 0)))
(pss_one (ps_ret (pe_callTy call_tuple_of rfl nb.tuple boot_tuple (pa_cons (pe_compC1 (sc:=defScope s_closed_up) (N0:=["places","out","left"]) (N:=["out"]) (js:=[1]) rfl rfl rfl (by exact⟨rfl,by decide +kernel,fun _ _=>rfl,fun _=>rfl,by decide +kernel,by decide +kernel,by decide +kernel,rfl,rfl,by decide,by decide +kernel,by decide +kernel⟩) rfl
(pi_list (pv 2))
(fun _ _ _ _ _=>by exact pts_nil)
(fun _ _ _ _ _=>by exact(pe_op op_sub (pv 0) (pe_callB (call_lenK K rfl) rfl nb.len PySem.boot_len (pa_cons
(pe_comp1 (sc:=scIn) (N0:=["place","out"]) (N:=["place"]) (js:=[0]) rfl rfl rfl (by exact⟨rfl,by decide +kernel,by decide +kernel,by decide +kernel,rfl,rfl,by decide,by decide +kernel,by decide +kernel⟩) rfl
(pi_listK K rfl (pv 1))
(fun _ _ _ _ _=>by exact(pts_one (pt_cmpR op_lt (pv 0) (pv 1) (nomark _))))
(fun _ _ _ _ _=>by exact(pv 0))) pa_nil))))) pa_nil))))),?_⟩
 refine⟨_,rfl,a,rfl,⟨_,SqT.of ha⟩,fun D hD=>?_⟩
 refine comp_sel (row.map V.int).length (by rw[length_map,sizeLine_eq];omega) (fun i=>decide (row.getD i 0∉out)) (fun i=>.int (row.getD i 0)) (fun σ=>∃o1,σ=[o1,some (.ref b)]) _ hD (by exact⟨_,rfl⟩) (items_tup ha) (fun i x σ' H2 hi s2 im hσ R S hR hS=>?_) (fun H1 s1 hD1=>?_)
 ·obtain⟨o1,rfl⟩:=hσ
  obtain rfl:=num_at im
  refine⟨_,rfl,_,rfl,b,_,rfl,.inl (SqL.of (s2 _ _ hb)),rfl,flat_nums out,_,rfl,?_⟩
  rw[in_nums,if_pos rfl]
  by_cases m:row.getD i 0∈out
  ·rw[decide_eq_true m]
   exact iteF (hS (decide_eq_false fun z=>z m) _ _ ⟨_,rfl⟩ (Same.refl _))
  ·rw[decide_eq_false m]
   exact iteT ⟨_,rfl,hR (decide_eq_true m) _ _ _ ⟨_,rfl⟩ (Same.refl _) rfl⟩
 rw[length_map,BB.sel_list 0 row (fun p=>decide (p∉out)) V.int]at hD1
 have hb1:=s1 _ _ hb
 have ll:(row.filter fun p=>decide (p∉out)).length≤12:=Nat.le_trans (length_filter_le _ _) r12
 have qq:∀(r:Addr) (H':Hp),Same H1 H'→H' r=some (.tup (((row.filter fun p=>decide (p∉out)).map fun p=>p - ((out.filter fun g=>decide (g<p)).length:Int)).map V.int))→Q (.ref r) H':=fun r H' s h=>q r H' (s1.trans s) h
 generalize(row.filter fun p=>decide (p∉out))=left at hD1 ll qq
 refine⟨_,rfl,D,rfl,⟨_,SqL.of hD1⟩,fun D2 hD2=>?_⟩
 refine comp_go (left.map V.int).length (by rw[length_map,sizeLine_eq];omega) (fun i=>.int (left.getD i 0 - ((out.filter fun g=>decide (g<left.getD i 0)).length:Int))) (fun σ=>∃o1,σ=[o1,some (.ref b)]) _ hD2 (by exact⟨_,rfl⟩) (items_lst hD1) (fun i x σ' H2 hi s2 im hσ R hR=>?_) (fun H3 s3 hD3=>?_)
 ·obtain⟨o1,rfl⟩:=hσ
  obtain rfl:=num_at im
  have hb2:=s2 _ _ hb1
  refine⟨_,rfl,_,rfl,b,rfl,⟨_,SqL.of hb2⟩,fun D3 hD3=>?_⟩
  refine comp_sel (out.map V.int).length (by rw[length_map,sizeLine_eq];omega) (fun j=>decide (out.getD j 0<left.getD i 0)) (fun j=>.int (out.getD j 0)) (fun σ=>∃o2,σ=[o2,some (.int (left.getD i 0))]) _ hD3 (by exact⟨_,rfl⟩) (items_lst hb2) (fun j y σ2 H4 hj s4 im4 hσ4 R4 S4 hR4 hS4=>?_) (fun H5 s5 hD5=>?_)
  ·obtain⟨o2,rfl⟩:=hσ4
   obtain rfl:=num_at im4
   refine⟨_,rfl,_,rfl,_,_,rfl,rfl,_,rfl,?_⟩
   by_cases c:out.getD j 0<left.getD i 0
   ·rw[decide_eq_true c]
    exact iteT ⟨_,rfl,hR4 (decide_eq_true c) _ _ _ ⟨_,rfl⟩ (Same.refl _) rfl⟩
   ·rw[decide_eq_false c]
    exact iteF (hS4 (decide_eq_false c) _ _ ⟨_,rfl⟩ (Same.refl _))
  ·rw[length_map,BB.sel_list 0 out (fun g=>decide (g<left.getD i 0)) V.int]at hD5
   refine⟨D3,_,rfl,.inl (SqL.of hD5),_,_,rfl,rfl,hR _ _ _ ⟨_,rfl⟩ s5 ?_⟩
   rw[length_map]
 ·rw[length_map,BB.all_list 0 left (fun p=>V.int (p - ((out.filter fun g=>decide (g<p)).length:Int)))]at hD3
  refine⟨D2,_,rfl,.inl ⟨SqL.of hD3,fun l hl=>?_⟩⟩
  refine qq l _ (s3.trans (same_new hl _)) ?_
  rw[upd_same,map_map]
  rfl
theorem ok_peeled {f:Addr}{fd:FuncData}(F:Fun K "peeled" "peeled" s_peeled f fd)(nb:Nb mg)(h_closed_up:Has P w K mg base 1 "closed_up" ["places","out"] spClosed)  :
 FnOk P w K mg base CX0 2 f fd ["row"] spPeel:=by
 have nd:=sc_peeled.nd
 refine F.ok (k:=1) sc_peeled (fun vs H Q E h=>?_) (fun cdv A outer s H vs Q E hr h=>?_)
 ·obtain⟨a,row,rfl,_⟩:=h
  rfl
 obtain⟨a,row,rfl,ha,r12,q⟩:=h
 refine⟨_,(pss_cons (ps_comp1 (ii:=1) nd rfl (Or.inl rfl) (sc:=defScope s_peeled) (N0:=["row","balls"]) (N:=["row"]) (js:=[0]) rfl rfl rfl (by exact⟨rfl,by decide +kernel,by decide +kernel,by decide +kernel,rfl,rfl,by decide,by decide +kernel,by decide +kernel⟩) rfl
(pi_tup (pv 0))
(fun _ _ _ _ _=>by exact(pts_one (pt_cmpR (op_notInK K rfl) (pe_op op_add (pv 0) pe_int) (pv 1) rfl)))
(fun _ _ _ _ _=>by exact(pv 0)))
(pss_one (ps_ret (pe_def h_closed_up hr (pa_cons (pv 0) (pa_cons (pe_op op_cat (pv 1) (pe_comp1 (sc:=defScope s_peeled) (N0:=["row","balls"]) (N:=[]) (js:=[]) rfl rfl rfl (by exact⟨rfl,by decide +kernel,by decide +kernel,by decide +kernel,rfl,rfl,by decide,by decide +kernel,by decide +kernel⟩) rfl
(pi_list (pv 1))
(fun _ _ _ _ _=>by exact pts_nil)
(fun _ _ _ _ _=>by exact(pe_op op_add (pv 0) pe_int)))) pa_nil)))))),?_⟩
 refine⟨_,rfl,a,rfl,⟨_,SqT.of ha⟩,fun D hD=>?_⟩
 refine comp_sel (row.map V.int).length (by rw[length_map,sizeLine_eq];omega) (fun i=>decide (row.getD i 0+1∉row)) (fun i=>.int (row.getD i 0)) (fun σ=>∃o1,σ=[o1,some (.ref a)]) _ hD (by exact⟨_,rfl⟩) (items_tup ha) (fun i x σ' H2 hi s2 im hσ R S hR hS=>?_) (fun H1 s1 hD1=>?_)
 ·obtain⟨o1,rfl⟩:=hσ
  obtain rfl:=num_at im
  refine⟨_,rfl,_,_,rfl,rfl,_,rfl,a,_,rfl,.inr (SqT.of (s2 _ _ ha)),rfl,flat_nums row,_,rfl,?_⟩
  rw[in_nums,if_pos rfl]
  by_cases m:row.getD i 0+1∈row
  ·rw[decide_eq_true m]
   exact iteF (hS (decide_eq_false fun z=>z m) _ _ ⟨_,rfl⟩ (Same.refl _))
  ·rw[decide_eq_false m]
   exact iteT ⟨_,rfl,hR (decide_eq_true m) _ _ _ ⟨_,rfl⟩ (Same.refl _) rfl⟩
 rw[length_map,BB.sel_list 0 row (fun p=>decide (p+1∉row)) V.int]at hD1
 have hb:H1 D=some (.lst ((BB.bare row).map V.int)):=hD1
 have bl:=BB.bare_le row
 refine⟨_,rfl,_,rfl,_,rfl,D,rfl,⟨_,SqL.of hb⟩,fun D2 hD2=>?_⟩
 refine comp_go ((BB.bare row).map V.int).length (by rw[length_map,sizeLine_eq];omega) (fun i=>.int ((BB.bare row).getD i 0+1)) (fun σ=>∃o1,σ=[o1]) _ hD2 (by exact⟨_,rfl⟩) (items_lst hb) (fun i x σ' H2 hi s2 im hσ R hR=>?_) (fun H3 s3 hD3=>?_)
 ·obtain⟨o1,rfl⟩:=hσ
  obtain rfl:=num_at im
  exact⟨_,rfl,_,_,rfl,rfl,hR _ _ _ ⟨_,rfl⟩ (Same.refl _) rfl⟩
 ·rw[length_map,BB.all_list 0 (BB.bare row) (fun p=>V.int (p+1))]at hD3
  refine⟨D,D2,_,_,rfl,rfl,s3 _ _ hb,hD3,by rw[length_map,length_map,sizeLine_eq];omega,fun p hp=>?_⟩
  have s4:=s3.trans (same_new hp (.lst ((BB.bare row).map V.int++(BB.bare row).map fun p=>V.int (p+1))))
  refine⟨a,p,row,BB.bare row++(BB.bare row).map (· + 1),rfl,s4 _ _ (s1 _ _ ha),?_,r12,by rw[length_append,length_map];omega,fun r H' s h=>q r H' ((s1.trans s4).trans s) h⟩
  rw[upd_same,map_append,map_map]
  rfl
end
end K93
namespace K93
open L2
abbrev scLf:Scope:={kind:=.function,names:=[(Str.ofString ".0",.local),(Str.ofString "ball",.cell),(Str.ofString "len",.globalImplicit),(Str.ofString "counts",.cell)],isGenerator:=false,isCoroutine:=false,more:=[]}
open BB (lens outs)
def spLf:Sp:=fun vs H Q _=>∃(a:Addr) (cs:List Int),vs=[.ref a]∧H a=some (.lst (cs.map V.int))∧cs.length≤12∧(∀c∈cs,0≤c∧c≤12)∧∀(r:Addr) (H':Hp),Same H H'→H' r=some (.tup ((lens cs).map V.int))→Q (.ref r) H'
theorem head_rdL {K:W.Frag}{a:Addr}{ns:List Int}{H:Hp}{σ:L2.St}{Q:VK}(h0:σ[0]?=some (some (.ref a)))(ha:H a=some (.lst (ns.map V.int)))(q:Q (.int (ns.headD 0)) H) :
 tIf (fun σ H Q=>tVar 0 σ H fun x H'=>∃k,TruV K x H' k∧Q k H') (tOp (rIxL K) (tVar 0) (tC (.int 0))) (tC (.int 0)) σ H Q:=by
 refine⟨_,h0,!(ns.map V.int).isEmpty,.inl ⟨_,SqL.of ha,rfl⟩,?_⟩
 cases ns with
 |nil=>exact iteF q
 |cons p r=>exact iteT ⟨_,h0,a,_,_,_,rfl,rfl,SqL.of ha,(show atI ((p::r).map V.int) ((0:Nat):Int)=some (.int p) from atI_nat rfl),q⟩
def spLen:Sp:=fun vs H Q _=>∃(a:Addr) (row:List Int),vs=[.ref a]∧H a=some (.tup (row.map V.int))∧row.length≤12∧∀(r:Addr) (H':Hp),Same H H'→H' r=some (.tup ((lens (outs row.length row)).map V.int))→Q (.ref r) H'
theorem outs_fuel:∀(n m:Nat) (row:List Int),row.length≤n→row.length≤m→outs n row=outs m row
 |0,0,_,_,_=>rfl
 |0,m+1,row,h,_=>by
  have e:row=[]:=List.length_eq_zero_iff.mp (by omega)
  subst e
  unfold outs
  rw[if_pos rfl]
 |n+1,0,row,_,h=>by
  have e:row=[]:=List.length_eq_zero_iff.mp (by omega)
  subst e
  unfold outs
  rw[if_pos rfl]
 |n+1,m+1,row,h1,h2=>by
  unfold outs
  by_cases e:row=[]
  ·rw[if_pos e,if_pos e]
  ·rw[if_neg e,if_neg e]
   have:=BB.peel_lt e
   rw[outs_fuel n m _ (by omega) (by omega)]
theorem outs_step {ms:List Int}(h:ms≠[]):outs ms.length ms=((ms.length:Int) - ((BB.peel ms).length:Int))::outs (BB.peel ms).length (BB.peel ms):=by
 have lt:=BB.peel_lt h
 obtain⟨k,e⟩:∃k,ms.length=k+1:=⟨ms.length - 1,by omega⟩
 rw[outs_fuel ms.length (k+1) ms (Nat.le_refl _) (by omega)]
 show(if ms=[] then _ else _)=_
 rw[if_neg h,outs_fuel k (BB.peel ms).length _ (by omega) (Nat.le_refl _)]
theorem seq_while {c:TT}{tb u:TS}{D:Ends}{σ:L2.St}{H:Hp}(h:tWhile c tb {D with nx:=u D} σ H):tSeq (tWhile c tb) u D σ H:=h
def many (σ:L2.St)(H:Hp):Nat:=match σ with
 |[_,_,some (V.ref p),_]=>(match H p with | some (.tup xs)=>xs.length | _=>0)
 |_=>0
theorem many_at {H:Hp}{o1 o2 o3:Option V}{p:Addr}{ms:List Int}(h:H p=some (.tup (ms.map V.int))):many [o1,o2,some (.ref p),o3] H=ms.length:=by
 show(match H p with | some (.tup xs)=>xs.length | _=>0)=_
 rw[h]
 exact length_map ..
section
variable {P:Program}{w:World}{K:W.Frag}{mg:Str→Option Value}{base:Heap}
theorem ok_lengths_from {f:Addr}{fd:FuncData}(F:Fun K "lengths_from" "lengths_from" s_lengths_from f fd)(nb:Nb2 mg)   :
 FnOk P w K mg base CX0 1 f fd ["counts"] spLf:=by
 have nd:=sc_lengths_from.nd
 refine F.ok (k:=0) sc_lengths_from (fun vs H Q E h=>?_) (fun cdv A outer s H vs Q E hr h=>?_)
 ·obtain⟨a,cs,rfl,_⟩:=h
  rfl
 obtain⟨a,cs,rfl,ha,c12,cb,q⟩:=h
 refine⟨_,(pss_cons (ps_set (i:=1) nd rfl (Or.inl rfl) (pe_ifExp (pt_truth (pv 0) (fun _=>rfl)) (pe_ix ix_list (pv 0) pe_int (fun _ _=>rfl)) pe_int))
(pss_one (ps_ret (pe_callTy call_tuple_of rfl nb.tuple boot_tuple (pa_cons (pe_compC1 (sc:=defScope s_lengths_from) (N0:=["counts","first"]) (N:=["counts"]) (js:=[0]) rfl rfl rfl (by exact⟨rfl,by decide +kernel,fun _ _=>rfl,fun _=>rfl,by decide +kernel,by decide +kernel,by decide +kernel,rfl,rfl,by decide,by decide +kernel,by decide +kernel⟩) rfl
(pi_range2 rfl nb.range (pa_cons pe_int (pa_cons (pe_op op_add (pv 1) pe_int) pa_nil)))
(fun _ _ _ _ _=>by exact pts_nil)
(fun _ _ _ _ _=>by exact(pe_callB (call_lenK K rfl) rfl nb.len PySem.boot_len (pa_cons
(pe_comp1 (sc:=scLf) (N0:=["ball","counts"]) (N:=["ball"]) (js:=[0]) rfl rfl rfl (by exact⟨rfl,by decide +kernel,by decide +kernel,by decide +kernel,rfl,rfl,by decide,by decide +kernel,by decide +kernel⟩) rfl
(pi_listK K rfl (pv 1))
(fun _ _ _ _ _=>by exact(pts_one (pt_cmpR op_ge (pv 0) (pv 1) (nomark _))))
(fun _ _ _ _ _=>by exact(pv 0))) pa_nil)))) pa_nil))))),?_⟩
 refine head_rdL (K:=K) rfl ha ?_
 have hb:0≤cs.headD 0∧cs.headD 0≤12:=by
  cases cs with
  |nil=>exact⟨by decide,by decide⟩
  |cons c r=>exact cb c mem_cons_self
 refine⟨_,rfl,_,_,rfl,rfl,1,cs.headD 0+1,rfl,⟨by decide,by decide,by omega,by omega⟩,fun D hD=>?_⟩
 rw[show(cs.headD 0+1 - 1).toNat=(cs.headD 0).toNat by congr 1;omega]
 refine comp_go (cs.headD 0).toNat (by rw[sizeLine_eq];omega) (fun j=>.int ((cs.filter fun c=>decide ((j:Int)<c)).length:Int)) (fun σ=>∃o1,σ=[o1,some (.ref a)]) (fun j H' x=>x=.int (1+(j:Int))) hD (by exact⟨_,rfl⟩) (fun j H2 _=>items_rng 1 _ j H2 (Same.refl _)) (fun j x σ' H2 hj s2 im hσ R hR=>?_) (fun H3 s3 hD3=>?_)
 ·obtain⟨o1,rfl⟩:=hσ
  subst im
  have ha2:=s2 _ _ ha
  refine⟨_,rfl,a,rfl,⟨_,SqL.of ha2⟩,fun D3 hD3=>?_⟩
  refine comp_sel (cs.map V.int).length (by rw[length_map,sizeLine_eq];omega) (fun k=>decide ((j:Int)<cs.getD k 0)) (fun k=>.int (cs.getD k 0)) (fun σ=>∃o2,σ=[o2,some (.int (1+(j:Int)))]) _ hD3 (by exact⟨_,rfl⟩) (items_lst ha2) (fun k y σ2 H4 hk s4 im4 hσ4 R4 S4 hR4 hS4=>?_) (fun H5 s5 hD5=>?_)
  ·obtain⟨o2,rfl⟩:=hσ4
   obtain rfl:=num_at im4
   refine⟨_,rfl,_,rfl,_,_,rfl,rfl,_,rfl,?_⟩
   by_cases c:(j:Int)<cs.getD k 0
   ·rw[decide_eq_true (by omega)]
    exact iteT ⟨_,rfl,hR4 (decide_eq_true c) _ _ _ ⟨_,rfl⟩ (Same.refl _) rfl⟩
   ·rw[decide_eq_false (by omega)]
    exact iteF (hS4 (decide_eq_false c) _ _ ⟨_,rfl⟩ (Same.refl _))
  ·rw[length_map,BB.sel_list 0 cs (fun c=>decide ((j:Int)<c)) V.int]at hD5
   refine⟨D3,_,rfl,.inl (SqL.of hD5),hR _ _ _ ⟨_,rfl⟩ s5 ?_⟩
   rw[length_map]
 ·refine⟨D,_,rfl,.inl ⟨SqL.of hD3,fun l hl=>?_⟩⟩
  refine q l _ (s3.trans (same_new hl _)) ?_
  rw[upd_same]
  unfold lens
  rw[map_map]
  rfl
theorem ok_lengths {f:Addr}{fd:FuncData}(F:Fun K "lengths" "lengths" s_lengths f fd)(nb:Nb2 mg)(h_peeled:Has P w K mg base 2 "peeled" ["row"] spPeel)(h_lengths_from:Has P w K mg base 1 "lengths_from" ["counts"] spLf)  :
 FnOk P w K mg base CX0 3 f fd ["row"] spLen:=by
 have nd:=sc_lengths.nd
 refine F.ok (k:=2) sc_lengths (fun vs H Q E h=>?_) (fun cdv A outer s H vs Q E hr h=>?_)
 ·obtain⟨a,row,rfl,_⟩:=h
  rfl
 obtain⟨a,row,rfl,ha,r12,q⟩:=h
 refine⟨_,(pss_cons (ps_set (i:=1) nd rfl (Or.inl rfl) (pe_lst pa_nil))
(pss_cons (ps_set (i:=2) nd rfl (Or.inl rfl) (pv 0))
(pss_cons (ps_while PassesOwn.never (pt_truth (pv 2) (fun _=>rfl))
(pss_cons (ps_set (i:=3) nd rfl (Or.inl rfl) (pe_def h_peeled hr (pa_cons (pv 2) pa_nil)))
(pss_cons (ps_expr (pe_bm PySem.F.plainAttrs_list PySem.F.slot_list_append PySem.F.type_list_append mt_append (pv 1) (pa_cons (pe_op op_sub (pe_callB call_len_seq rfl nb.len PySem.boot_len (pa_cons (pv 2) pa_nil)) (pe_callB call_len_seq rfl nb.len PySem.boot_len (pa_cons (pv 3) pa_nil))) pa_nil)))
(pss_one (ps_set (i:=2) nd rfl (Or.inl rfl) (pv 3))))))
(pss_one (ps_ret (pe_def h_lengths_from hr (pa_cons (pv 1) pa_nil))))))),?_⟩
 refine⟨(by show 0≤sizeLine;decide),fun c hc=>?_⟩
 have s1:=same_new hc (.lst [])
 refine⟨_,rfl,?_⟩
 unfold gName
 dsimp only
 refine seq_while ?_
 refine while_by (fun σ H'=>Same H H'∧∃(p:Addr) (ms done:List Int) (o3:Option V),σ=[some (.ref a),some (.ref c),some (.ref p),o3]∧H' p=some (.tup (ms.map V.int))∧H' c=some (.lst (done.map V.int))∧done++outs ms.length ms=outs row.length row∧done.length+ms.length≤row.length∧∀z∈done,0≤z∧z≤12) many
  ⟨s1,a,row,[],_,rfl,s1 _ _ ha,upd_same,rfl,by simp,fun z hz=>absurd hz not_mem_nil⟩ (fun σ H' hp=>?_) (fun σ H Q Q' hq h=>?_)
 ·obtain⟨sm,p,ms,done,o3,rfl,hms,hcd,eo,ln,bd⟩:=hp
  have mm:=many_at (o1:=some (V.ref a)) (o2:=some (V.ref c)) (o3:=o3) hms
  by_cases em:ms=[]
  ·subst em
   refine⟨_,rfl,false,.inr (.inl ⟨_,SqT.of hms,rfl⟩),iteF ?_⟩
   have ed:done=outs row.length row:=by rw[←eo];simp[outs]
   refine⟨_,rfl,c,done,rfl,hcd,by omega,bd,fun r H2 s2 h2=>?_⟩
   rw[ed]at h2
   exact q r H2 (sm.trans s2) h2
  ·have lt:=BB.peel_lt em
   refine⟨_,rfl,true,.inr (.inl ⟨_,SqT.of hms,by simp[em]⟩),iteT ?_⟩
   refine⟨_,rfl,p,ms,rfl,hms,by omega,fun r2 H2 s2 h2=>?_⟩
   refine⟨_,rfl,.inl ⟨rfl,_,SqL.of (s2 _ _ hcd)⟩,_,rfl,p,_,rfl,.inr (SqT.of (s2 _ _ hms)),_,rfl,r2,_,rfl,.inr (SqT.of h2),_,_,rfl,rfl,?_⟩
   refine⟨c,_,_,rfl,rfl,s2 _ _ hcd,by rw[length_map,sizeLine_eq];omega,?_⟩
   have r2c:r2≠c:=fun z=>by rw[z,s2 _ _ hcd]at h2;cases h2
   rw[length_map,length_map]
   have h3:(upd H2 c (.lst (done.map V.int++[.int ((ms.length:Int) - ((BB.peel ms).length:Int))]))) r2=some (.tup ((BB.peel ms).map V.int)):=by rw[upd_ne r2c];exact h2
   refine⟨_,rfl,⟨fun b o hb=>by rw[upd_ne (ne_of_none hb hc)];exact s2 _ _ (sm _ _ hb),r2,BB.peel ms,done++[(ms.length:Int) - ((BB.peel ms).length:Int)],_,rfl,h3,by rw[upd_same,map_append];rfl,?_,?_,fun z hz=>?_⟩,?_⟩
   ·rw[←eo,outs_step em,List.append_assoc]
    rfl
   ·rw[length_append,length_singleton]
    omega
   ·rcases mem_append.mp hz with w | w
    ·exact bd z w
    ·rw[mem_singleton]at w
     omega
   ·show many [_,_,some (V.ref r2),_] _<_
    rw[many_at h3,mm]
    exact lt
 ·obtain⟨v,e,k,tv,q1⟩:=h
  exact⟨v,e,k,tv,hq _ _ q1⟩
end
end K93
namespace K93
open L2
open BB (lens outs)
def tks (k:Nat)(ns:List Int):List Int:=(List.range k).map fun(i:Nat)=>((BB.taken (i+1) ns:Nat):Int)
def spTks:Sp:=fun vs H Q _=>∃(a:Addr) (ns:List Int) (k:Nat),vs=[.ref a]∧H a=some (.tup (ns.map V.int))∧Ok ns k∧
 ∀(r:Addr) (H':Hp),Same H H'→H' r=some (.lst ((tks k ns).map V.int))→Q (.ref r) H'
def spOm:Sp:=fun vs H Q _=>∃(a b:Addr) (r1 r2:List Int),vs=[.ref a,.ref b]∧H a=some (.tup (r1.map V.int))∧H b=some (.tup (r2.map V.int))∧r1.length≤12∧r2.length≤12∧
 ∀(H':Hp),Same H H'→Q (.bl (decide (lens (outs r1.length r1)=lens (outs r2.length r2)))) H'
section
variable {P:Program}{w:World}{K:W.Frag}{mg:Str→Option Value}{base:Heap}
theorem ok_takings {f:Addr}{fd:FuncData}(F:Fun K "takings" "takings" s_takings f fd)(nb:Nb3 mg)(h_carry:Has P w K mg base 1 "carry" ["row","size"] spCarry)  :
 FnOk P w K mg base CX0 2 f fd ["row"] spTks:=by
 have nd:=sc_takings.nd
 refine F.ok (k:=1) sc_takings (fun vs H Q E h=>?_) (fun cdv A outer s H vs Q E hr h=>?_)
 ·obtain⟨a,ns,k,rfl,_⟩:=h
  rfl
 obtain⟨a,ns,k,rfl,ha,ok,q⟩:=h
 refine⟨_,(pss_cons (ps_set (i:=1) nd rfl (Or.inl rfl) (pe_lst pa_nil))
(pss_cons (ps_for PassesOwn.never rfl (pi_range2 rfl nb.range (pa_cons pe_int (pa_cons (pe_op op_add (pe_callB call_len_seq rfl nb.len PySem.boot_len (pa_cons (pv 0) pa_nil)) pe_int) pa_nil))) (pg_name (i:=2) nd rfl (Or.inl rfl))
(pss_cons (ps_asg (pe_def h_carry hr (pa_cons (pv 0) (pa_cons (pv 2) pa_nil))) (pg_tup rfl (pgs_cons (pg_name (i:=3) nd rfl (Or.inl rfl)) (pgs_cons (pg_name (i:=4) nd rfl (Or.inl rfl)) pgs_nil))))
(pss_one (ps_expr (pe_bm PySem.F.plainAttrs_list PySem.F.slot_list_append PySem.F.type_list_append mt_append (pv 1) (pa_cons (pv 4) pa_nil))))))
(pss_one (ps_ret (pv 1))))),?_⟩
 obtain⟨rw_,k12⟩:=ok
 have kl:=rw_.len
 refine⟨(by show 0≤sizeLine;decide),fun D hD=>?_⟩
 have s1:=same_new hD (.lst [])
 refine⟨_,rfl,a,_,rfl,.inr (SqT.of (s1 _ _ ha)),_,_,rfl,rfl,1,_,rfl,⟨by decide,by decide,by rw[length_map];omega,by rw[length_map];omega⟩,?_⟩
 rw[show((((ns.map V.int).length:Int)+1 - 1).toNat)=k by rw[length_map];omega]
 refine for_range (fun i σ H'=>∃o2 o3 o4,σ=[some (.ref a),some (.ref D),o2,o3,o4]∧Same H H'∧H' D=some (.lst ((tks i ns).map V.int))) ⟨_,_,_,rfl,s1,upd_same⟩ (fun i σ H' hi hp=>?_) (fun σ H' hp=>?_)
 ·obtain⟨o2,o3,o4,rfl,sm,hd⟩:=hp
  refine⟨_,rfl,_,rfl,a,ns,k,i+1,?_,sm _ _ ha,⟨rw_,k12⟩,fun r2 p2 H2 s2 h2 h2'=>?_⟩
  ·rw[show((i+1:Nat):Int)=1+(i:Int) by omega];rfl
  refine⟨p2,_,rfl,SqT.of h2',rfl,_,_,rfl,_,_,rfl,rfl,?_⟩
  have hd2:=s2 _ _ hd
  refine⟨_,rfl,.inl ⟨rfl,_,SqL.of hd2⟩,_,rfl,D,_,_,rfl,rfl,hd2,by unfold tks;rw[length_map,length_map,length_range,sizeLine_eq];omega,?_⟩
  refine⟨_,_,_,rfl,fun c o hc=>by rw[upd_ne (ne_of_none hc hD)];exact s2 _ _ (sm c o hc),?_⟩
  rw[upd_same]
  unfold tks
  rw[range_succ,map_append,map_append]
  rfl
 ·obtain⟨o2,o3,o4,rfl,sm,hd⟩:=hp
  exact⟨_,rfl,q D H' sm hd⟩
theorem ok_one_making {f:Addr}{fd:FuncData}(F:Fun K "one_making" "one_making" s_one_making f fd)(nb:Nb3 mg)(h_lengths:Has P w K mg base 3 "lengths" ["row"] spLen)  :
 FnOk P w K mg base CX0 4 f fd ["one","other"] spOm:=by
 have nd:=sc_one_making.nd
 refine F.ok (k:=3) sc_one_making (fun vs H Q E h=>?_) (fun cdv A outer s H vs Q E hr h=>?_)
 ·obtain⟨a,b,r1,r2,rfl,_⟩:=h
  rfl
 obtain⟨a,b,r1,r2,rfl,ha,hb,l1,l2,q⟩:=h
 refine⟨_,(pss_one (ps_ret (pe_cmpR (op_eqT hr.units0) (pe_def h_lengths hr (pa_cons (pv 0) pa_nil)) (pe_def h_lengths hr (pa_cons (pv 1) pa_nil)) (nomark _)))),?_⟩
 refine⟨_,rfl,a,r1,rfl,ha,l1,fun x1 H1 s1 h1=>?_⟩
 refine⟨_,rfl,b,r2,rfl,s1 _ _ hb,l2,fun x2 H2 s2 h2=>?_⟩
 exact⟨x1,x2,_,_,rfl,rfl,SqT.of (s2 _ _ h1),SqT.of h2,q H2 (s1.trans s2)⟩
end
end K93
namespace K93
open L2
structure NbX (mg:Str→Option Value):Prop extends Nb3 mg where
 str:mg "str" = none
 enum:mg "enumerate" = none
theorem at_last {ns:List Int}{q:Int}(h:ns.getLast?=some q):atI (ns.map V.int) (-1)=some (.int q):=by
 have ne:ns≠[]:=fun z=>by rw[z]at h;cases h
 have l0:0<ns.length:=length_pos_iff.mpr ne
 have e:ixN (ns.map V.int).length (-1)=some (ns.length - 1):=by
  unfold ixN
  rw[length_map,if_neg (by decide),if_pos (by omega)]
  congr 1
  omega
 unfold atI
 rw[e]
 show(ns.map V.int)[ns.length - 1]?=_
 rw[getElem?_map]
 rw[List.getLast?_eq_getElem?]at h
 rw[h]
 rfl
abbrev FIG:Str:=Str.ofString "0123456789"
abbrev NOB:Str:=Str.ofString "none"
def signsOf (row:List Int):List Nat:=(List.range (row.getLastD 0+1 - row.headD 0).toNat).map fun(j:Nat)=>if row.headD 0+(j:Int)∈row then 111 else 46
def rowTxt (row:List Int):Str:=if row=[] then NOB else numT (row.headD 0)++Str.ofString ":"++⟨(signsOf row).toArray⟩
structure Wd (row:List Int):Prop where
 up:row.Pairwise (· < ·)
 bd:∀p∈row,-1000000000≤p∧p≤1000000000
 wide:row.getLastD 0 - row.headD 0≤199
def spNumRead:Sp:=fun vs H Q _=>∃n:Int,vs=[.str (numT n)]∧n.natAbs<10^30∧∀H',Same H H'→Q (.int n) H'
structure Wr (row:List Int):Prop where
 up:row.Pairwise (· < ·)
 bd:∀p∈row,-1000000000≤p∧p≤1000000000
 wide:row.getLastD 0 - row.headD 0≤1500
theorem Wd.wr {row:List Int}(h:Wd row):Wr row:=⟨h.up,h.bd,by have:=h.wide;omega⟩
def spRowTextW:Sp:=fun vs H Q _=>∃(a:Addr) (row:List Int),vs=[.ref a]∧H a=some (.tup (row.map V.int))∧Wr row∧∀H',Same H H'→Q (.str (rowTxt row)) H'
def spRowText:Sp:=fun vs H Q _=>∃(a:Addr) (row:List Int),vs=[.ref a]∧H a=some (.tup (row.map V.int))∧Wd row∧∀H',Same H H'→Q (.str (rowTxt row)) H'
def spRowRead:Sp:=fun vs H Q _=>∃(row:List Int),vs=[.str (rowTxt row)]∧Wd row∧row.length≤12∧True∧∀(r:Addr) (H':Hp),Same H H'→H' r=some (.tup (row.map V.int))→Q (.ref r) H'
theorem fig_in {c:Nat}(h:48≤c∧c≤57):c∈FIG.cps.toList:=by
 have e:FIG.cps.toList=[48,49,50,51,52,53,54,55,56,57]:=by decide +kernel
 rw[e]
 simp only[mem_cons,not_mem_nil,or_false]
 omega
theorem num_log {n:Int}(h:n.natAbs<10^10):n.natAbs.log2<1920:=by
 by_cases z:n.natAbs=0
 ·rw[z];decide
 ·exact(Nat.log2_lt z).mpr (Nat.lt_of_lt_of_le h (by decide))
theorem o_is:Str.ofString "o" = ⟨#[111]⟩:=by decide +kernel
theorem dot_is:Str.ofString "." = ⟨#[46]⟩:=by decide +kernel
theorem colon_is:Str.ofString ":" = ⟨#[58]⟩:=by decide +kernel
theorem signs_are (row:List Int):(List.range (row.getLastD 0+1 - row.headD 0).toNat).map (fun(j:Nat)=>V.str (if row.headD 0+(j:Int)∈row then Str.ofString "o" else Str.ofString "."))=((signsOf row).map fun c=>(⟨#[c]⟩:Str)).map V.str:=by
 unfold signsOf
 rw[map_map,map_map]
 refine map_congr_left fun j _=>?_
 show V.str _=V.str ⟨#[if _ then 111 else 46]⟩
 by_cases c:row.headD 0+(j:Int)∈row
 ·rw[if_pos c,if_pos c,o_is]
 ·rw[if_neg c,if_neg c,dot_is]
theorem signs_len (row:List Int):(signsOf row).length=(row.getLastD 0+1 - row.headD 0).toNat:=by
 unfold signsOf
 rw[length_map,length_range]
theorem up_last {p0:Int}{rest:List Int}(h:(p0::rest).Pairwise (· < ·)):(p0::rest).getLast?=some ((p0::rest).getLastD 0)∧p0≤(p0::rest).getLastD 0∧(p0::rest).getLastD 0∈p0::rest:=by
 have e:(p0::rest).getLast?=some ((p0::rest).getLastD 0):=by
  rw[List.getLastD_eq_getLast?]
  cases z:(p0::rest).getLast? with
  |none=>exact absurd (List.getLast?_eq_none_iff.mp z) (by simp)
  |some x=>rfl
 have m:(p0::rest).getLastD 0∈p0::rest:=List.mem_of_getLast? e
 refine⟨e,?_,m⟩
 rcases mem_cons.mp m with z | z
 ·omega
 ·have:=(pairwise_cons.mp h).1 _ z
  omega
theorem wd_last {p0:Int}{rest:List Int}(h:Wd (p0::rest)):(p0::rest).getLast?=some ((p0::rest).getLastD 0)∧p0≤(p0::rest).getLastD 0∧(p0::rest).getLastD 0∈p0::rest:=up_last h.up
theorem txt_len (l:List Nat):(⟨l.toArray⟩:Str).length=l.length:=by rw[str_len]
theorem txt_cons (p0:Int)(rest:List Int):rowTxt (p0::rest)=numT p0++Str.ofString ":"++⟨(signsOf (p0::rest)).toArray⟩:=by
 unfold rowTxt
 rw[if_neg (by simp)]
 rfl
theorem txt_ne (p0:Int)(rest:List Int):rowTxt (p0::rest)≠NOB:=fun e=>by
 have m:58∈(rowTxt (p0::rest)).cps.toList:=by
  rw[txt_cons,colon_is,app_list,app_list]
  exact mem_append_left _ (mem_append_right _ (by simp))
 rw[e]at m
 have z:NOB.cps.toList=[110,111,110,101]:=by decide +kernel
 rw[z]at m
 simp at m
theorem txt_part (p0:Int)(rest:List Int):partV (rowTxt (p0::rest)) (Str.ofString ":")=[.str (numT p0),.str (Str.ofString ":"),.str ⟨(signsOf (p0::rest)).toArray⟩]:=by
 rw[txt_cons,colon_is]
 exact part_at (int_text_free' 58 ⟨by decide,by decide⟩ p0)
theorem last_max {l:List Int}(h:l.Pairwise (· < ·)){m:Int}(e:l.getLast?=some m):∀x∈l,x≤m:=fun x hx=>by
 obtain⟨pre,rfl⟩:=List.getLast?_eq_some_iff.mp e
 rcases mem_append.mp hx with z | z
 ·have:=(pairwise_append.mp h).2.2 x z m (by simp)
  omega
 ·rw[mem_singleton]at z
  omega
theorem read_back {p0:Int}{rest:List Int}(h:Wd (p0::rest)):((List.range (signsOf (p0::rest)).length).filter fun j=>decide ((signsOf (p0::rest)).getD j 0=111)).map (fun(j:Nat)=>p0+(j:Int))=p0::rest:=by
 obtain⟨el,ge,ml⟩:=wd_last h
 have sl:=signs_len (p0::rest)
 rw[show(p0::rest).headD 0=p0 from rfl]at sl
 have at_:∀j:Nat,j<(signsOf (p0::rest)).length→((signsOf (p0::rest)).getD j 0=111↔p0+(j:Int)∈p0::rest):=fun j hj=>by
  have e:(signsOf (p0::rest)).getD j 0=if p0+(j:Int)∈p0::rest then 111 else 46:=by
   rw[getD_eq_getElem?_getD]
   unfold signsOf at hj ⊢
   rw[length_map,length_range]at hj
   rw[getElem?_map,getElem?_range hj]
   rfl
  rw[e]
  by_cases c:p0+(j:Int)∈p0::rest
  ·rw[if_pos c];exact⟨fun _=>c,fun _=>rfl⟩
  ·rw[if_neg c];exact⟨fun z=>absurd z (by decide),fun z=>absurd z c⟩
 refine BB.rise_ext ?_ h.up fun x=>?_
 ·refine List.pairwise_map.mpr ((List.Pairwise.filter _ List.pairwise_lt_range).imp fun h=>by omega)
 ·rw[mem_map]
  constructor
  ·rintro⟨j,hj,rfl⟩
   obtain⟨h1,h2⟩:=mem_filter.mp hj
   exact(at_ j (mem_range.mp h1)).mp (of_decide_eq_true h2)
  ·intro hx
   have x0:p0≤x:=by
    rcases mem_cons.mp hx with z | z
    ·omega
    ·have:=(pairwise_cons.mp h.up).1 x z
     omega
   have x1:x≤(p0::rest).getLastD 0:=last_max h.up el x hx
   refine⟨(x - p0).toNat,mem_filter.mpr ⟨mem_range.mpr (by omega),decide_eq_true ((at_ _ (by omega)).mpr ?_)⟩,by omega⟩
   rw[show p0+((x - p0).toNat:Int)=x by omega]
   exact hx
theorem rise_of {ns:List Int}(h:ns.Pairwise (· < ·)):riseB ns=true:=by
 unfold riseB
 refine all_eq_true.mpr fun i hi=>decide_eq_true ?_
 have hi':=mem_range.mp hi
 rw[getD_eq_getElem?_getD,getD_eq_getElem?_getD,List.getElem?_eq_getElem (by omega),List.getElem?_eq_getElem (by omega)]
 exact List.pairwise_iff_getElem.mp h i (i+1) (by omega) (by omega) (by omega)
theorem row_true {H:Hp}{a:Addr}{row:List Int}(h:H a=some (.tup (row.map V.int)))(wd:Wd row)(l:row.length≤12):rowV H (.ref a)=true∧Thing H (.ref a):=by
 constructor
 ·show rowO (H a)=true
  rw[h]
  show rowB (row.map V.int)=true
  have e3:(row.map V.int).map toI=row:=by
   rw[map_map]
   exact(map_congr_left fun b _=>rfl).trans (List.map_id row)
  have e2:(row.map V.int).all (numB (-1000000000) 1000000000)=true:=by
   rw[all_map]
   refine all_eq_true.mpr fun b hb=>?_
   have:=wd.bd b hb
   show(decide (-1000000000≤b)&&decide (b≤1000000000))=true
   rw[decide_eq_true (by omega),decide_eq_true (by omega)]
   rfl
  unfold rowB
  rw[e2,e3,rise_of wd.up,length_map,decide_eq_true l]
  rfl
 ·refine⟨⟨_,.tup h⟩,fun b xs e hb=>?_⟩
  cases e
  rw[h]at hb
  cases hb
  refine⟨by rw[length_map];omega,fun x hx=>?_⟩
  obtain⟨i,_,rfl⟩:=mem_map.mp hx
  exact⟨_,.int i⟩
section
variable {P:Program}{w:World}{K:W.Frag}{mg:Str→Option Value}{base:Heap}
theorem ok_number_read {f:Addr}{fd:FuncData}(F:Fun K "number_read" "number_read" s_number_read f fd)(nb:NbX mg)(c_FIGURES:∃u,mg "FIGURES" = some u∧RelV (.str FIG) u)(c_MOST_FIGURES:∃u,mg "MOST_FIGURES" = some u∧RelV (.int 30) u) :
 FnOk P w K mg base CX0 1 f fd ["text"] spNumRead:=by
 have nd:=sc_number_read.nd
 refine F.ok (k:=0) sc_number_read (fun vs H Q E h=>?_) (fun cdv A outer s H vs Q E hr h=>?_)
 ·obtain⟨n,rfl,_⟩:=h
  rfl
 obtain⟨n,rfl,hn,q⟩:=h
 refine⟨_,(pss_cons (ps_mid (ps_set (i:=1) nd rfl (Or.inl rfl) (pe_ifExp (pt_truth (pe_bm PySem.F.plainAttrs_str PySem.F.slot_str_startswith PySem.F.type_str_startswith mt_starts (pv 0) (pa_cons pe_str pa_nil)) (fun _=>rfl)) (pe_sliceS (pv 0)) (pv 0))))
(pss_cons (ps_if (PW.pt (pw_or (pt_not (pt_chain op_le op_le pe_int (pe_callB call_len_str rfl nb.len PySem.boot_len (pa_cons (pv 1) pa_nil)) (pe_const c_MOST_FIGURES))) (pw_or1 (pt_not (pt_truth (pe_callB (call_allB rfl) rfl nb.all boot_all (pa_cons (pe_comp1 (sc:=defScope s_number_read) (N0:=["text","figures","number"]) (N:=[]) (js:=[]) rfl rfl rfl (by exact⟨rfl,by decide +kernel,by decide +kernel,by decide +kernel,rfl,rfl,by decide,by decide +kernel,by decide +kernel⟩) rfl
(pi_str (pv 1))
(fun _ _ _ _ _=>by exact pts_nil)
(fun _ _ _ _ _=>by exact(pe_cmpR op_in_str (pv 0) (pe_const c_FIGURES) rfl))) pa_nil)) (fun _=>rfl))))))
(pss_one ps_never)
pss_nil)
(pss_cons (ps_set (i:=2) nd rfl (Or.inl rfl) (pe_callTy call_intS rfl nb.int boot_int (pa_cons (pv 0) pa_nil)))
(pss_cons (ps_if (pt_cmpR op_ne (pe_callTy call_str_int rfl nb.str boot_str (pa_cons (pv 2) pa_nil)) (pv 0) (nomark _))
(pss_one ps_never)
pss_nil)
(pss_one (ps_ret (pv 2))))))),?_⟩
 have nl:=num_len30 hn
 obtain⟨dg,ne⟩:=figs_ok n.natAbs
 have fl:=figs_len30 hn
 have f1:0<(figs n.natAbs).length:=length_pos_iff.mpr ne
 refine⟨fun σ H'=>H'=H∧∃fg:Str,σ=[some (.str (numT n)),some (.str fg),none]∧fg.cps.toList=figs n.natAbs,⟨_,rfl,rfl,_,_,rfl,rfl,?_⟩,fun σ' H' hp=>?_⟩
 ·rw[num_starts]
  refine⟨_,rfl,?_⟩
  by_cases c:n<0
  ·rw[decide_eq_true c]
   refine iteT ⟨_,rfl,_,rfl,by rw[sizeLine_eq];omega,rfl,_,rfl,?_⟩
   rw[num_slice c]
  ·rw[decide_eq_false c]
   refine iteF ⟨_,rfl,rfl,_,rfl,?_⟩
   obtain⟨m,rfl⟩:∃m:Nat,n=(m:Int):=⟨n.toNat,by omega⟩
   rw[numT_pos]
   rfl
 ·obtain⟨rfl,fg,rfl,efg⟩:=hp
  have lf:fg.length=(figs n.natAbs).length:=by rw[str_len,efg]
  refine⟨_,rfl,fg,rfl,by rw[sizeLine_eq,lf];omega,?_⟩
  refine⟨_,_,rfl,rfl,_,rfl,?_⟩
  rw[decide_eq_true (show(1:Int)≤(fg.length:Int) by omega)]
  refine iteT ⟨_,_,rfl,rfl,_,rfl,?_⟩
  rw[decide_eq_true (show(fg.length:Int)≤30 by omega)]
  have sz:fg.cps.size=(figs n.natAbs).length:=by rw[←efg,length_toList]
  refine iteF ⟨_,rfl,fg,rfl,fun D hD=>?_⟩
  refine comp_go fg.cps.size (by rw[sizeLine_eq];omega) (fun i=>.bl true) (fun σ=>∃o1,σ=[o1]) _ hD ⟨_,rfl⟩ items_str (fun i x σ' H2 hi s2 im hσ R hR=>?_) (fun H1 s1 hD1=>?_)
  ·obtain⟨o1,rfl⟩:=hσ
   obtain⟨c,hc,rfl⟩:=im
   have cm:c∈figs n.natAbs:=by
    rw[←efg]
    exact mem_of_getElem? (i:=i) (by rw[getElem?_toList];exact hc)
   have cr:=dg c cm
   refine⟨_,rfl,_,_,rfl,rfl,hR _ _ _ ⟨_,rfl⟩ (Same.refl _) ?_⟩
   rw[sign_in,decide_eq_true (fig_in cr)]
  rw[show(List.range fg.cps.size).map (fun _=>V.bl true)=((List.range fg.cps.size).map fun _=>true).map V.bl by rw[map_map];rfl]at hD1
  refine⟨D,_,rfl,SqL.of hD1,_,rfl,?_⟩
  have al:((List.range fg.cps.size).map fun _=>true).all id=true:=by
   rw[all_map]
   exact all_eq_true.mpr fun _ _=>rfl
  rw[al]
  refine iteF ⟨_,rfl,_,n,rfl,num_read30 hn,by omega,?_⟩
  refine⟨_,rfl,n,rfl,num_log30 hn,_,rfl,rfl,_,rfl,?_⟩
  rw[decide_eq_true rfl]
  exact iteF ⟨_,rfl,q H1 s1⟩
end
end K93
namespace K93
open L2
section
variable {P:Program}{w:World}{K:W.Frag}{mg:Str→Option Value}{base:Heap}
theorem ok_row_read {f:Addr}{fd:FuncData}(F:Fun K "row_read" "row_read" s_row_read f fd)(nb:NbX mg)(h_number_read:Has P w K mg base 1 "number_read" ["text"] spNumRead)(h_is_row:Has P w K mg base 2 "is_row" ["thing"] spIsRow)(h_row_text:Has P w K mg base 1 "row_text" ["row"] spRowText)(c_NO_BALLS:∃u,mg "NO_BALLS" = some u∧RelV (.str NOB) u)(c_MOST_BOXES:∃u,mg "MOST_BOXES" = some u∧RelV (.int 200) u) :
 FnOk P w K mg base CX0 3 f fd ["text"] spRowRead:=by
 have nd:=sc_row_read.nd
 refine F.ok (k:=2) sc_row_read (fun vs H Q E h=>?_) (fun cdv A outer s H vs Q E hr h=>?_)
 ·obtain⟨row,rfl,_⟩:=h
  rfl
 obtain⟨row,rfl,wd,len,bd,q⟩:=h
 refine⟨_,(pss_cons (ps_if (pt_not (pt_truth (pe_callB call_isiS rfl nb.isi boot_isinstance (pa_cons (pv 0) (pa_cons (pe_ty nb.str boot_str) pa_nil))) (fun _=>rfl)))
(pss_one ps_never)
pss_nil)
(pss_cons (ps_if (pt_cmpR op_eq (pv 0) (pe_const c_NO_BALLS) (nomark _))
(pss_one (ps_ret (pe_tup pa_nil)))
pss_nil)
(pss_cons (ps_asg (pe_bm PySem.F.plainAttrs_str PySem.F.slot_str_partition PySem.F.type_str_partition mt_part (pv 0) (pa_cons pe_str pa_nil)) (pg_tup rfl (pgs_cons (pg_name (i:=1) nd rfl (Or.inl rfl)) (pgs_cons (pg_name (i:=2) nd rfl (Or.inl rfl)) (pgs_cons (pg_name (i:=3) nd rfl (Or.inl rfl)) pgs_nil)))))
(pss_cons (ps_if (pt_cmpR op_gt (pe_callB call_len_str rfl nb.len PySem.boot_len (pa_cons (pv 3) pa_nil)) (pe_const c_MOST_BOXES) (nomark _))
(pss_one ps_never)
pss_nil)
(pss_cons (ps_set (i:=4) nd rfl (Or.inr rfl) (pe_def h_number_read hr (pa_cons (pv 1) pa_nil)))
(pss_cons (ps_set (i:=5) nd rfl (Or.inl rfl) (pe_callTy call_tuple_of rfl nb.tuple boot_tuple (pa_cons (pe_comp2 (sc:=defScope s_row_read) (N0:=["text","first","mark","signs","start","row"]) (N:=["start"]) (js:=[4]) rfl rfl rfl (by exact⟨rfl,by decide +kernel,by decide +kernel,by decide +kernel,rfl,rfl,by decide,by decide +kernel,by decide +kernel⟩) rfl rfl
(pi_enumS rfl nb.enum (pa_cons (pv 3) pa_nil))
(fun _ _ _ _ _=>by exact(pts_one (pt_cmpR op_eq (pv 1) pe_str (nomark _))))
(fun _ _ _ _ _=>by exact(pe_op op_add (pv 2) (pv 0)))) pa_nil)))
(pss_cons (ps_if (PW.pt (pw_or (pt_not (pt_truth (pe_def h_is_row hr (pa_cons (pv 5) pa_nil)) (fun _=>rfl))) (pw_or1 (pt_cmpR op_ne (pe_def h_row_text hr (pa_cons (pv 5) pa_nil)) (pv 0) (nomark _)))))
(pss_one ps_never)
pss_nil)
(pss_one (ps_ret (pv 5)))))))))),?_⟩
 refine⟨_,rfl,_,_,rfl,.str _,_,rfl,iteF ?_⟩
 refine⟨_,rfl,rfl,_,rfl,?_⟩
 cases row with
 |nil=>
  rw[decide_eq_true (show V.str (rowTxt [])=V.str NOB by unfold rowTxt;rw[if_pos rfl])]
  exact iteT ⟨(by show 0≤sizeLine;decide),fun p hp=>q p _ (same_new hp _) upd_same⟩
 |cons p0 rest=>
  rw[decide_eq_false (fun z=>txt_ne p0 rest (by injection z))]
  obtain⟨el,ge,ml⟩:=wd_last wd
  have bl:=wd.bd _ ml
  have b0:=wd.bd p0 mem_cons_self
  have wi:=wd.wide
  rw[show(p0::rest).headD 0=p0 from rfl]at wi
  have sl:=signs_len (p0::rest)
  rw[show(p0::rest).headD 0=p0 from rfl]at sl
  have n0:p0.natAbs<10^10:=by omega
  have nl:=num_len n0
  have tl:(rowTxt (p0::rest)).length≤300:=by
   rw[txt_cons,Str.length_append,Str.length_append,txt_len]
   show(numT p0).length+1+(signsOf (p0::rest)).length≤300
   omega
  have rb:=read_back wd
  refine iteF ⟨_,rfl,rfl,_,_,rfl,rfl,by decide +kernel,by rw[sizeLine_eq];omega,fun p hp=>?_⟩
  rw[txt_part]
  have s1:=same_new hp (.tup [.str (numT p0),.str (Str.ofString ":"),.str ⟨(signsOf (p0::rest)).toArray⟩])
  have h1:(upd H p (.tup [.str (numT p0),.str (Str.ofString ":"),.str ⟨(signsOf (p0::rest)).toArray⟩])) p=some (.tup [.str (numT p0),.str (Str.ofString ":"),.str ⟨(signsOf (p0::rest)).toArray⟩]):=upd_same
  generalize upd H p (.tup [.str (numT p0),.str (Str.ofString ":"),.str ⟨(signsOf (p0::rest)).toArray⟩])=H1 at s1 h1 ⊢
  refine⟨p,_,rfl,SqT.of h1,rfl,_,_,rfl,_,_,rfl,_,_,rfl,rfl,?_⟩
  have ls:(⟨(signsOf (p0::rest)).toArray⟩:Str).length=(signsOf (p0::rest)).length:=txt_len _
  refine⟨_,rfl,_,rfl,by rw[sizeLine_eq];omega,_,_,rfl,rfl,_,rfl,?_⟩
  rw[decide_eq_false (by omega)]
  refine iteF ⟨_,rfl,p0,rfl,Nat.lt_of_lt_of_le n0 (by decide),fun H2 s2=>?_⟩
  generalize hG:signsOf (p0::rest)=sg at *
  have S2:=s1.trans s2
  refine⟨_,rfl,_,rfl,fun D hD=>?_⟩
  refine comp_sel sg.length (by rw[sizeLine_eq];omega) (fun j=>decide (sg.getD j 0=111)) (fun(j:Nat)=>.int (p0+(j:Int))) (fun σ=>∃o1 o2,σ=[o1,o2,some (.int p0)]) _ hD ⟨_,_,rfl⟩ (fun i H5 s5=>items_enumS (x:=⟨sg.toArray⟩) i H5 s5) (fun i x σ' H5 hi s5 im hσ R S hR hS=>?_) (fun H3 s3 hD3=>?_)
  ·obtain⟨o1,o2,rfl⟩:=hσ
   obtain⟨p2,c,rfl,hp2,hc⟩:=im
   have gc:sg.getD i 0=c:=by
    rw[getD_eq_getElem?_getD]
    have:sg[i]?=some c:=by rw[←hc];simp
    rw[this]
    rfl
   refine⟨p2,_,rfl,SqT.of hp2,rfl,_,_,rfl,_,_,rfl,rfl,?_⟩
   refine⟨_,rfl,rfl,_,rfl,?_⟩
   rw[o_is]
   by_cases e:c=111
   ·rw[decide_eq_true (by rw[e])]
    exact iteT ⟨_,rfl,_,rfl,_,_,rfl,rfl,hR (by rw[gc];exact decide_eq_true e) _ _ _ ⟨_,_,rfl⟩ (Same.refl _) rfl⟩
   ·rw[decide_eq_false (fun z=>e (by injection z with z;injection z with z;injection z with z;injection z))]
    exact iteF (hS (by rw[gc];exact decide_eq_false e) _ _ ⟨_,_,rfl⟩ (Same.refl _))
  have eD:((List.range sg.length).filter fun j=>decide (sg.getD j 0=111)).map (fun(j:Nat)=>V.int (p0+(j:Int)))=(p0::rest).map V.int:=by
   rw[←rb,map_map]
   rfl
  rw[eD]at hD3
  refine⟨D,_,rfl,.inl ⟨SqL.of hD3,fun l hl=>?_⟩⟩
  have s4:=same_new hl (.tup ((p0::rest).map V.int))
  have h4:(upd H3 l (.tup ((p0::rest).map V.int))) l=some (.tup ((p0::rest).map V.int)):=upd_same
  generalize upd H3 l (.tup ((p0::rest).map V.int))=H4 at s4 h4 ⊢
  have S4:=S2.trans (s3.trans s4)
  obtain⟨rt,th⟩:=row_true h4 wd len
  refine⟨_,rfl,_,rfl,th,fun H5 s5=>?_⟩
  rw[rt]
  refine⟨_,rfl,iteF ?_⟩
  refine⟨_,rfl,l,_,rfl,s5 _ _ h4,wd,fun H6 s6=>⟨_,rfl,rfl,_,rfl,?_⟩⟩
  rw[decide_eq_true rfl]
  exact iteF ⟨_,rfl,q l H6 (S4.trans (s5.trans s6)) (s6 _ _ (s5 _ _ h4))⟩
end
end K93
namespace K93
open L2
section
variable {P:Program}{w:World}{K:W.Frag}{mg:Str→Option Value}{base:Heap}
theorem ok_row_textW {f:Addr}{fd:FuncData}(F:Fun K "row_text" "row_text" s_row_text f fd)(nb:NbX mg)(c_NO_BALLS:∃u,mg "NO_BALLS" = some u∧RelV (.str NOB) u) :
 FnOk P w K mg base CX0 1 f fd ["row"] spRowTextW:=by
 have nd:=sc_row_text.nd
 refine F.ok (k:=0) sc_row_text (fun vs H Q E h=>?_) (fun cdv A outer s H vs Q E hr h=>?_)
 ·obtain⟨a,row,rfl,_⟩:=h
  rfl
 obtain⟨a,row,rfl,ha,wd,q⟩:=h
 refine⟨_,(pss_cons (ps_if (pt_not (pt_truth (pv 0) (fun _=>rfl)))
(pss_one (ps_ret (pe_const c_NO_BALLS)))
pss_nil)
(pss_cons (ps_set (i:=1) nd rfl (Or.inl rfl) (pe_bm PySem.F.plainAttrs_str PySem.F.slot_str_join PySem.F.type_str_join mt_join pe_str (pa_cons (pe_comp1 (sc:=defScope s_row_text) (N0:=["row","signs"]) (N:=["row"]) (js:=[0]) rfl rfl rfl (by exact⟨rfl,by decide +kernel,by decide +kernel,by decide +kernel,rfl,rfl,by decide,by decide +kernel,by decide +kernel⟩) rfl
(pi_range2 rfl nb.range (pa_cons (pe_ix ix_tup (pv 0) pe_int (fun _ _=>rfl)) (pa_cons (pe_op op_add (pe_ix ix_tup (pv 0) (pe_un un_neg pe_int) (fun _ _=>rfl)) pe_int) pa_nil)))
(fun _ _ _ _ _=>by exact pts_nil)
(fun _ _ _ _ _=>by exact(pe_ifExp (pt_cmpR (op_inK K rfl) (pv 0) (pv 1) rfl) pe_str pe_str))) pa_nil)))
(pss_one (ps_ret (pe_fstr (pj_int (pe_ix ix_tup (pv 0) pe_int (fun _ _=>rfl)) (pj_str (pj_txt (pv 1) pj_nil)))))))),?_⟩
 cases row with
 |nil=>
  exact⟨_,rfl,false,.inr (.inl ⟨_,SqT.of ha,rfl⟩),iteT (q H (Same.refl H))⟩
 |cons p0 rest=>
  refine⟨_,rfl,true,.inr (.inl ⟨_,SqT.of ha,rfl⟩),iteF ?_⟩
  obtain⟨el,ge,ml⟩:=up_last wd.up
  have bl:=wd.bd _ ml
  have b0:=wd.bd p0 mem_cons_self
  have wi:=wd.wide
  have hd0:(p0::rest).headD 0=p0:=rfl
  rw[hd0]at wi
  have sl:=signs_len (p0::rest)
  rw[hd0]at sl
  have sa:=signs_are (p0::rest)
  rw[hd0]at sa
  have ih:atI ((p0::rest).map V.int) ((0:Nat):Int)=some (.int p0):=atI_nat rfl
  have il:=at_last el
  have js:=join_signs (signsOf (p0::rest))
  have ss:=sum_signs (signsOf (p0::rest))
  have n0:p0.natAbs<10^10:=by omega
  have nl:=num_len n0
  have tx:rowTxt (p0::rest)=numT p0++Str.ofString ":"++⟨(signsOf (p0::rest)).toArray⟩:=by
   unfold rowTxt
   rw[if_neg (by simp)]
   rfl
  rw[tx]at q
  generalize hL:(p0::rest).getLastD 0=last at *
  generalize hG:signsOf (p0::rest)=sg at *
  refine⟨rfl,_,rfl,a,_,_,_,rfl,rfl,SqT.of ha,ih,_,rfl,_,rfl,a,_,_,_,rfl,rfl,SqT.of ha,il,_,_,rfl,rfl,_,_,rfl,⟨by omega,by omega,by omega,by omega⟩,fun D hD=>?_⟩
  refine comp_go (last+1 - p0).toNat (by rw[sizeLine_eq];omega) (fun(j:Nat)=>.str (if p0+(j:Int)∈(p0::rest) then Str.ofString "o" else Str.ofString ".")) (fun σ=>∃o1,σ=[o1,some (.ref a)]) (fun i H' x=>x=.int (p0+(i:Int))) hD ⟨_,rfl⟩ (fun i H' _=>items_rng p0 _ i H' (Same.refl _)) (fun i x σ' H2 hi s2 im hσ R hR=>?_) (fun H1 s1 hD1=>?_)
  ·obtain⟨o1,rfl⟩:=hσ
   subst im
   refine⟨_,rfl,_,rfl,a,_,rfl,.inr (SqT.of (s2 _ _ ha)),rfl,flat_nums _,_,rfl,?_⟩
   rw[in_nums]
   by_cases m:p0+(i:Int)∈p0::rest
   ·rw[decide_eq_true m]
    exact iteT (hR _ _ _ ⟨_,rfl⟩ (Same.refl _) (by rw[if_pos m]))
   ·rw[decide_eq_false m]
    exact iteF (hR _ _ _ ⟨_,rfl⟩ (Same.refl _) (by rw[if_neg m]))
  rw[sa]at hD1
  refine⟨_,D,_,rfl,rfl,hD1,by rw[ss,sizeLine_eq];omega,by rw[js,txt_len,sizeLine_eq];omega,?_⟩
  rw[js]
  refine⟨_,rfl,a,_,_,_,rfl,rfl,SqT.of (s1 _ _ ha),ih,_,rfl,num_log n0,?_,?_,_,rfl,_,rfl,by rw[txt_len,sizeLine_eq];omega,?_,?_,?_⟩
  ·rw[Str.empty_append,sizeLine_eq]
   show(numT p0).length≤_
   omega
  ·rw[Str.empty_append,Str.length_append,sizeLine_eq]
   show(numT p0).length+1≤_
   omega
  ·rw[Str.empty_append,Str.length_append,Str.length_append,txt_len,sizeLine_eq]
   show(numT p0).length+1+sg.length≤_
   omega
  ·rw[Str.empty_append,Str.length_append,Str.length_append,txt_len,sizeLine_eq]
   show(numT p0).length+1+sg.length≤_
   omega
  ·rw[Str.empty_append]
   exact q H1 s1
theorem text_imp {vs:List V}{H:Hp}{Q:VK}{E:XK}(h:spRowText vs H Q E):spRowTextW vs H Q E:=by
 obtain⟨a,row,e,ha,wd,q⟩:=h
 exact⟨a,row,e,ha,wd.wr,q⟩
end
end K93
namespace K93
open L2
def NumOk (z:Str):Prop:=∃n:Int,n.natAbs<10^30∧z=numT n
def spNumE (c4:Addr):Sp:=fun vs H Q E=>∃z:Str,vs=[.str z]∧z.length≤2000∧¬NumOk z∧∀e H',Same H H'→H' e=none→E (.ref c4) (some e) H'
theorem starts_minus (z:Str):Txt.startswith z (Str.ofString "-")=decide (z.cps.toList[0]?=some 45):=by
 have e1:(Str.ofString "-")=⟨#[45]⟩:=by decide +kernel
 rw[e1,Bool.eq_iff_iff,decide_eq_true_iff]
 unfold Txt.startswith
 rw[and_eq_true,decide_eq_true_iff]
 exact StrLaws.subAt_one z 45 0
theorem slice_from {z:Str}{c:Nat}{cs:List Nat}(h:z.cps.toList=c::cs):(Txt.slice z (some 1) none).cps.toList=cs:=by
 have hl:z.length=cs.length+1:=by rw[str_len,h,length_cons]
 have hix:Builtin.Str.strSliceIndices (some 1) none 1 z.length=(List.range cs.length).map fun k=>k+1:=by
  rw[hl]
  unfold Builtin.Str.strSliceIndices sliceRange
  generalize cs.length=q
  simp only[show ¬((1:Int)<0) by decide,if_false,show(1:Int)>0 by decide,if_true]
  have e1:max (0:Int) (min 1 ((q+1:Nat):Int))=1:=by omega
  rw[e1]
  have e3:(if(1:Int)<((q+1:Nat):Int) then(((q+1:Nat):Int) - 1+1 - 1) / 1 else 0).toNat=q:=by
   split<;>omega
  rw[e3]
  refine map_congr_left fun k _=>?_
  omega
 unfold Txt.slice
 rw[hix,if_neg (by rw[length_map,length_range,hl];simp)]
 show((List.range cs.length).map fun k=>k+1).filterMap (z.cps[·]?)=cs
 have e4:∀k,z.cps[k]?=(c::cs)[k]?:=fun k=>by rw[←h,getElem?_toList]
 rw[filterMap_map]
 have e5:((fun x=>z.cps[x]?)∘fun k=>k+1)=fun k=>cs[k]?:=by
  funext k
  show z.cps[k+1]?=_
  rw[e4,List.getElem?_cons_succ]
 show List.filterMap ((fun x=>z.cps[x]?)∘fun k=>k+1) (List.range cs.length)=cs
 rw[e5]
 exact all_there _
def fgs (z:Str):List Nat:=if z.cps.toList[0]?=some 45 then z.cps.toList.drop 1 else z.cps.toList
theorem fgs_minus {z:Str}(h:z.cps.toList[0]?=some 45):z.cps.toList=45::fgs z:=by
 unfold fgs
 rw[if_pos h]
 cases e:z.cps.toList with
 |nil=>rw[e]at h;cases h
 |cons c cs=>
  rw[e]at h
  cases h
  rfl
theorem val_lt:∀(cs:List Nat) (a:Nat),(∀c∈cs,c≤57)→cs.foldl (fun acc c=>acc*10+(c - 48)) a<(a+1)*10^cs.length
 |[],a,_=>by simp
 |c::cs,a,h=>by
  have:=val_lt cs (a*10+(c - 48)) fun x hx=>h x (mem_cons_of_mem _ hx)
  have c9:=h c mem_cons_self
  rw[List.foldl_cons,length_cons,Nat.pow_succ]
  refine Nat.lt_of_lt_of_le this ?_
  have:a*10+(c - 48)+1≤(a+1)*10:=by omega
  calc(a*10+(c - 48)+1)*10^cs.length≤((a+1)*10)*10^cs.length:=Nat.mul_le_mul_right _ this
   _=(a+1)*(10^cs.length*10):=by rw[Nat.mul_assoc,Nat.mul_comm 10]
theorem fgs_read {z:Str}(dg:∀c∈fgs z,48≤c∧c≤57)(l1:1≤(fgs z).length)(l2:(fgs z).length≤30)(zl:z.length≤2000):∃n:Int,PySem.intText? z=some n∧n.natAbs<10^30:=by
 have ne:fgs z≠[]:=fun e=>by rw[e]at l1;simp at l1
 have lt:NumText.digitsVal (fgs z)<10^30:=by
  have:=val_lt (fgs z) 0 fun c hc=>(dg c hc).2
  rw[Nat.zero_add,Nat.one_mul]at this
  exact Nat.lt_of_lt_of_le this (Nat.pow_le_pow_right (by decide) l2)
 by_cases c:z.cps.toList[0]?=some 45
 ·exact⟨-((NumText.digitsVal (fgs z):Nat):Int),PySem.intText_neg (fgs_minus c) dg ne (by omega),by omega⟩
 ·have e:fgs z=z.cps.toList:=by unfold fgs;rw[if_neg c]
  rw[e]at dg ne lt
  exact⟨((NumText.digitsVal z.cps.toList:Nat):Int),PySem.intText_digits dg ne (by omega),by omega⟩
theorem big_log {n:Int}(h:n.natAbs<10^30):n.natAbs.log2<1920:=by
 by_cases z:n.natAbs=0
 ·rw[z];decide
 ·exact(Nat.log2_lt z).mpr (Nat.lt_of_lt_of_le h (by decide))
theorem fig_iff {c:Nat}:c∈FIG.cps.toList↔48≤c∧c≤57:=by
 constructor
 ·intro h
  have e:FIG.cps.toList=[48,49,50,51,52,53,54,55,56,57]:=by decide +kernel
  rw[e]at h
  simp only[mem_cons,not_mem_nil,or_false]at h
  omega
 ·exact fig_in
theorem by_sign (l:List Nat)(f:Nat→V):(List.range l.length).map (fun i=>f (l.getD i 0))=l.map f:=by
 apply ext_getElem?
 intro i
 rw[getElem?_map,getElem?_map]
 by_cases h:i<l.length
 ·rw[getElem?_range h,List.getElem?_eq_getElem h]
  show some (f (l.getD i 0))=some (f l[i])
  rw[getD_eq_getElem?_getD,List.getElem?_eq_getElem h]
  rfl
 ·rw[List.getElem?_eq_none (by simpa using h),List.getElem?_eq_none (by omega)]
  rfl
def NoteOk (z:Str):Prop:=∃row:List Int,Wd row∧row.length≤12∧z=rowTxt row
def spReadE (c4:Addr):Sp:=fun vs H Q E=>∃v:V,vs=[v]∧((∃T,Kn H v T∧subT T "str" = false)∨∃z:Str,v=.str z∧z.length≤1900∧¬NoteOk z)∧∀e H',Same H H'→H' e=none→E (.ref c4) (some e) H'
theorem part_any (z:Str):∃f m s:Str,partV z (Str.ofString ":")=[.str f,.str m,.str s]∧f.length≤z.length∧s.length≤z.length:=by
 unfold partV
 split
 ·refine⟨_,_,_,rfl,?_,?_⟩
  ·rw[str_len,str_len]
   show(z.cps.extract _ _).toList.length≤_
   rw[length_toList,Array.size_extract,length_toList]
   omega
  ·rw[str_len,str_len]
   show(z.cps.extract _ _).toList.length≤_
   rw[length_toList,Array.size_extract,length_toList]
   omega
 ·exact⟨_,_,_,rfl,Nat.le_refl _,Nat.zero_le _⟩
def balls (n:Int)(sg:List Nat):List Int:=((List.range sg.length).filter fun j=>decide (sg.getD j 0=111)).map fun(j:Nat)=>n+(j:Int)
theorem balls_bd {n:Int}{sg:List Nat}:∀p∈balls n sg,n≤p∧p<n+(sg.length:Int):=fun p hp=>by
 obtain⟨j,hj,rfl⟩:=mem_map.mp hp
 have:=mem_range.mp (mem_filter.mp hj).1
 omega
theorem balls_wide {n:Int}{sg:List Nat}(h:sg.length≤200):(balls n sg).getLastD 0 - (balls n sg).headD 0≤199:=by
 cases e:balls n sg with
 |nil=>decide
 |cons x r=>
  have m1:(x::r).getLastD 0∈x::r:=by
   rw[List.getLastD_eq_getLast?]
   cases q:(x::r).getLast? with
   |none=>exact absurd (List.getLast?_eq_none_iff.mp q) (by simp)
   |some y=>exact List.mem_of_getLast? q
  have a:=balls_bd (n:=n) (sg:=sg) _ (by rw[e];exact m1)
  have b:=balls_bd (n:=n) (sg:=sg) x (by rw[e];exact mem_cons_self)
  show(x::r).getLastD 0 - x≤199
  omega
theorem rise_iff:∀ns:List Int,riseB ns=true↔ns.Pairwise (· < ·)
 |[]=>⟨fun _=>.nil,fun _=>rfl⟩
 |[a]=>⟨fun _=>by simp,fun _=>rfl⟩
 |a::b::r=>by
  rw[rise_two,and_eq_true,decide_eq_true_eq,rise_iff (b::r)]
  constructor
  ·rintro⟨h1,h2⟩
   refine pairwise_cons.mpr ⟨fun x hx=>?_,h2⟩
   rcases mem_cons.mp hx with e | e
   ·omega
   ·have:=(pairwise_cons.mp h2).1 x e
    omega
  ·intro h
   obtain⟨h1,h2⟩:=pairwise_cons.mp h
   exact⟨h1 b mem_cons_self,h2⟩
theorem rise_up {ns:List Int}(h:riseB ns=true):ns.Pairwise (· < ·):=(rise_iff ns).mp h
theorem row_looked {row:List Int}(h:rowB (row.map V.int)=true)(w:row.getLastD 0 - row.headD 0≤199):Wd row∧row.length≤12:=by
 unfold rowB at h
 rw[and_eq_true,and_eq_true,decide_eq_true_iff,length_map]at h
 obtain⟨h1,h2,h3⟩:=h
 have e3:(row.map V.int).map toI=row:=by
  rw[map_map]
  exact(map_congr_left fun b _=>rfl).trans (List.map_id row)
 rw[e3]at h3
 refine⟨⟨rise_up h3,fun p hp=>?_,w⟩,h1⟩
 have:=all_eq_true.mp h2 (.int p) (mem_map.mpr ⟨p,hp,rfl⟩)
 have h':(decide (-1000000000≤p)&&decide (p≤1000000000))=true:=this
 rw[and_eq_true,decide_eq_true_eq,decide_eq_true_eq]at h'
 exact h'
theorem int_thing {H:Hp}{a:Addr}{ns:List Int}(h:H a=some (.tup (ns.map V.int)))(l:ns.length≤1000):Thing H (.ref a):=by
 refine⟨⟨_,.tup h⟩,fun b xs e hb=>?_⟩
 cases e
 rw[h]at hb
 cases hb
 refine⟨by rw[length_map];omega,fun x hx=>?_⟩
 obtain⟨i,_,rfl⟩:=mem_map.mp hx
 exact⟨_,.int i⟩
section
variable {P:Program}{w:World}{K:W.Frag}{mg:Str→Option Value}{base:Heap}{c4:Addr}{bm4:List Value}
theorem ok_number_readE {f:Addr}{fd:FuncData}(F:Fun K "number_read" "number_read" s_number_read f fd)(nb:NbX mg)(c_FIGURES:∃u,mg "FIGURES" = some u∧RelV (.str FIG) u)(c_MOST_FIGURES:∃u,mg "MOST_FIGURES" = some u∧RelV (.int 30) u)(hm:mg "BadNote" = some (.ref c4))(ex:Exc K c4 bm4) :
 FnOk P w K mg base (CXF P w) 1 f fd ["text"] (spNumE c4):=by
 have nd:=sc_number_read.nd
 refine F.okE (k:=0) sc_number_read (fun vs H Q E h=>?_) (fun cdv A outer s H vs Q E hr h=>?_)
 ·obtain⟨z,rfl,_⟩:=h
  rfl
 obtain⟨z,rfl,zl,no,q⟩:=h
 refine⟨_,(pss_cons (ps_mid (ps_set (i:=1) nd rfl (Or.inl rfl) (pe_ifExp (pt_truth (pe_bm PySem.F.plainAttrs_str PySem.F.slot_str_startswith PySem.F.type_str_startswith mt_starts (pv 0) (pa_cons pe_str pa_nil)) (fun _=>rfl)) (pe_sliceS (pv 0)) (pv 0))))
(pss_cons (ps_if (PW.pt (pw_or (pt_not (pt_chain op_le op_le pe_int (pe_callB call_len_str rfl nb.len PySem.boot_len (pa_cons (pv 1) pa_nil)) (pe_const c_MOST_FIGURES))) (pw_or1 (pt_not (pt_truth (pe_callB (call_allB rfl) rfl nb.all boot_all (pa_cons (pe_comp1 (sc:=defScope s_number_read) (N0:=["text","figures","number"]) (N:=[]) (js:=[]) rfl rfl rfl (by exact⟨rfl,by decide +kernel,by decide +kernel,by decide +kernel,rfl,rfl,by decide,by decide +kernel,by decide +kernel⟩) rfl
(pi_str (pv 1))
(fun _ _ _ _ _=>by exact pts_nil)
(fun _ _ _ _ _=>by exact(pe_cmpR op_in_str (pv 0) (pe_const c_FIGURES) rfl))) pa_nil)) (fun _=>rfl))))))
(pss_one (ps_raise lvs_cx rfl rfl hm ex (pa_cons (pe_fstr (pj_str (pj_int (pe_const c_MOST_FIGURES) (pj_str pj_nil)))) pa_nil)))
pss_nil)
(pss_cons (ps_set (i:=2) nd rfl (Or.inl rfl) (pe_callTy call_intS rfl nb.int boot_int (pa_cons (pv 0) pa_nil)))
(pss_cons (ps_if (pt_cmpR op_ne (pe_callTy call_str_int rfl nb.str boot_str (pa_cons (pv 2) pa_nil)) (pv 0) (nomark _))
(pss_one (ps_raise lvs_cx rfl rfl hm ex (pa_cons pe_str pa_nil)))
pss_nil)
(pss_one (ps_ret (pv 2))))))),?_⟩
 refine⟨fun σ H'=>H'=H∧∃fg:Str,σ=[some (.str z),some (.str fg),none]∧fg.cps.toList=fgs z,⟨_,rfl,rfl,_,_,rfl,rfl,?_⟩,fun σ' H' hp=>?_⟩
 ·rw[starts_minus]
  refine⟨_,rfl,?_⟩
  by_cases c:z.cps.toList[0]?=some 45
  ·rw[decide_eq_true c]
   exact iteT ⟨_,rfl,_,rfl,by rw[sizeLine_eq];omega,rfl,_,rfl,slice_from (fgs_minus c)⟩
  ·rw[decide_eq_false c]
   refine iteF ⟨_,rfl,rfl,_,rfl,?_⟩
   unfold fgs
   rw[if_neg c]
 ·obtain⟨rfl,fg,rfl,efg⟩:=hp
  have lf:fg.length=(fgs z).length:=by rw[str_len,efg]
  have lz:(fgs z).length≤z.length:=by
   rw[str_len]
   unfold fgs
   split
   ·rw[length_drop];omega
   ·omega
  have rs:∀(H2:Hp),Same H' H2→tRaise E c4 (tCons (tJoin (jStr (Str.ofString "a number of at most ") (jInt (tC (V.int 30)) (jStr (Str.ofString " figures is due") jNil)))) tNil) ⟨fun _ _=>False,fun _ _=>False,fun _ _=>False,fun _ _=>False⟩ [] H2:=fun H2 s2=>
   ⟨by decide +kernel,30,rfl,by decide,by decide +kernel,by decide +kernel,by decide +kernel,by show 1≤sizeLine;decide,fun e he=>q e H2 s2 he⟩
  refine⟨_,rfl,fg,rfl,by rw[sizeLine_eq,lf];omega,?_⟩
  refine⟨_,_,rfl,rfl,_,rfl,?_⟩
  by_cases c1:1≤(fgs z).length
  ·rw[decide_eq_true (show(1:Int)≤(fg.length:Int) by omega)]
   refine iteT ⟨_,_,rfl,rfl,_,rfl,?_⟩
   by_cases c2:(fgs z).length≤30
   ·rw[decide_eq_true (show(fg.length:Int)≤30 by omega)]
    have sz:fg.cps.size=(fgs z).length:=by rw[←efg,length_toList]
    refine iteF ⟨_,rfl,fg,rfl,fun D hD=>?_⟩
    refine comp_go fg.cps.size (by rw[sizeLine_eq];omega) (fun i=>.bl (decide ((fgs z).getD i 0∈FIG.cps.toList))) (fun σ=>∃o1,σ=[o1]) _ hD ⟨_,rfl⟩ items_str (fun i x σ' H2 hi s2 im hσ R hR=>?_) (fun H1 s1 hD1=>?_)
    ·obtain⟨o1,rfl⟩:=hσ
     obtain⟨c,hc,rfl⟩:=im
     refine⟨_,rfl,_,_,rfl,rfl,hR _ _ _ ⟨_,rfl⟩ (Same.refl _) ?_⟩
     have ec:(fgs z).getD i 0=c:=by
      rw[←efg,getD_eq_getElem?_getD,getElem?_toList,hc]
      rfl
     rw[sign_in,ec]
    rw[sz,by_sign (fgs z) (fun c=>V.bl (decide (c∈FIG.cps.toList))),show(fgs z).map (fun c=>V.bl (decide (c∈FIG.cps.toList)))=((fgs z).map fun c=>decide (c∈FIG.cps.toList)).map V.bl by rw[map_map];rfl]at hD1
    refine⟨D,_,rfl,SqL.of hD1,_,rfl,?_⟩
    by_cases c3:((fgs z).map fun c=>decide (c∈FIG.cps.toList)).all id=true
    ·rw[c3]
     have dg:∀c∈fgs z,48≤c∧c≤57:=fun c hc=>by
      rw[all_map]at c3
      exact fig_iff.mp (of_decide_eq_true (all_eq_true.mp c3 c hc))
     obtain⟨n,rn,nb30⟩:=fgs_read dg c1 c2 zl
     refine iteF ⟨_,rfl,_,n,rfl,rn,?_,?_⟩
     ·have:z.length≤(fgs z).length+1:=by
       rw[str_len]
       unfold fgs
       split
       ·rw[length_drop];omega
       ·omega
      omega
     refine⟨_,rfl,n,rfl,big_log nb30,_,rfl,rfl,_,rfl,?_⟩
     rw[decide_eq_false (fun e=>no ⟨n,nb30,by injection e with e;exact e.symm⟩)]
     exact iteT ⟨by show 1≤sizeLine;decide,fun e he=>q e H1 s1 he⟩
    ·rw[eq_false_iff.mpr c3]
     exact iteT (rs H1 s1)
   ·rw[decide_eq_false (show ¬(fg.length:Int)≤30 by omega)]
    exact iteT (iteT (rs H' (Same.refl _)))
  ·rw[decide_eq_false (show ¬(1:Int)≤(fg.length:Int) by omega)]
   exact iteF ⟨_,rfl,iteT (iteT (rs H' (Same.refl _)))⟩
theorem ok_row_readE {f:Addr}{fd:FuncData}(F:Fun K "row_read" "row_read" s_row_read f fd)(nb:NbX mg)(h_number_read:Has P w K mg base 1 "number_read" ["text"] spNumRead)(h_is_row:Has P w K mg base 2 "is_row" ["thing"] spIsRow)(h_row_text:Has P w K mg base 1 "row_text" ["row"] spRowText)(hE_number_read:HasE P w K mg base 1 "number_read" ["text"] (spNumE c4))(c_NO_BALLS:∃u,mg "NO_BALLS" = some u∧RelV (.str NOB) u)(c_MOST_BOXES:∃u,mg "MOST_BOXES" = some u∧RelV (.int 200) u)(hm:mg "BadNote" = some (.ref c4))(ex:Exc K c4 bm4) :
 FnOk P w K mg base (CXF P w) 3 f fd ["text"] (spReadE c4):=by
 have nd:=sc_row_read.nd
 refine F.okE (k:=2) sc_row_read (fun vs H Q E h=>?_) (fun cdv A outer s H vs Q E hr h=>?_)
 ·obtain⟨v,rfl,_⟩:=h
  rfl
 obtain⟨v,rfl,bad,q⟩:=h
 rcases bad with⟨T,kn,ns⟩ | ⟨z,rfl,zl,no⟩
 ·refine⟨_,(pss_cons (ps_if (pt_not (pt_truth (pe_callB call_isiS rfl nb.isi boot_isinstance (pa_cons (pv 0) (pa_cons (pe_ty nb.str boot_str) pa_nil))) (fun _=>rfl)))
(pss_one (ps_raise lvs_cx rfl rfl hm ex (pa_cons pe_str pa_nil)))
pss_nil)
(pss_cons (ps_if (pt_cmpR op_eq (pv 0) (pe_const c_NO_BALLS) (nomark _))
(pss_one (ps_ret (pe_tup pa_nil)))
pss_nil)
(pss_cons (ps_asg (pe_bm PySem.F.plainAttrs_str PySem.F.slot_str_partition PySem.F.type_str_partition mt_part (pv 0) (pa_cons pe_str pa_nil)) (pg_tup rfl (pgs_cons (pg_name (i:=1) nd rfl (Or.inl rfl)) (pgs_cons (pg_name (i:=2) nd rfl (Or.inl rfl)) (pgs_cons (pg_name (i:=3) nd rfl (Or.inl rfl)) pgs_nil)))))
(pss_cons (ps_if (pt_cmpR op_gt (pe_callB call_len_str rfl nb.len PySem.boot_len (pa_cons (pv 3) pa_nil)) (pe_const c_MOST_BOXES) (nomark _))
(pss_one (ps_raise lvs_cx rfl rfl hm ex (pa_cons (pe_fstr (pj_str (pj_int (pe_const c_MOST_BOXES) (pj_str pj_nil)))) pa_nil)))
pss_nil)
(pss_cons (ps_set (i:=4) nd rfl (Or.inr rfl) (pe_def h_number_read hr (pa_cons (pv 1) pa_nil)))
(pss_cons (ps_set (i:=5) nd rfl (Or.inl rfl) (pe_callTy call_tuple_of rfl nb.tuple boot_tuple (pa_cons (pe_comp2 (sc:=defScope s_row_read) (N0:=["text","first","mark","signs","start","row"]) (N:=["start"]) (js:=[4]) rfl rfl rfl (by exact⟨rfl,by decide +kernel,by decide +kernel,by decide +kernel,rfl,rfl,by decide,by decide +kernel,by decide +kernel⟩) rfl rfl
(pi_enumS rfl nb.enum (pa_cons (pv 3) pa_nil))
(fun _ _ _ _ _=>by exact(pts_one (pt_cmpR op_eq (pv 1) pe_str (nomark _))))
(fun _ _ _ _ _=>by exact(pe_op op_add (pv 2) (pv 0)))) pa_nil)))
(pss_cons (ps_if (PW.pt (pw_or (pt_not (pt_truth (pe_def h_is_row hr (pa_cons (pv 5) pa_nil)) (fun _=>rfl))) (pw_or1 (pt_cmpR op_ne (pe_def h_row_text hr (pa_cons (pv 5) pa_nil)) (pv 0) (nomark _)))))
(pss_one (ps_raise lvs_cx rfl rfl hm ex (pa_cons pe_str pa_nil)))
pss_nil)
(pss_one (ps_ret (pv 5)))))))))),?_⟩
  refine⟨_,rfl,_,_,rfl,kn,_,rfl,?_⟩
  rw[ns]
  exact iteT ⟨by show 1≤sizeLine;decide,fun e he=>q e H (Same.refl H) he⟩
 have nn:z≠NOB:=fun e=>no ⟨[],⟨.nil,fun p hp=>absurd hp not_mem_nil,by decide⟩,by decide,by rw[e];unfold rowTxt;rw[if_pos rfl]⟩
 obtain⟨f1,m1,s1,ep,lf,ls⟩:=part_any z
 by_cases nk:NumOk f1
 ·refine⟨_,(pss_cons (ps_if (pt_not (pt_truth (pe_callB call_isiS rfl nb.isi boot_isinstance (pa_cons (pv 0) (pa_cons (pe_ty nb.str boot_str) pa_nil))) (fun _=>rfl)))
(pss_one (ps_raise lvs_cx rfl rfl hm ex (pa_cons pe_str pa_nil)))
pss_nil)
(pss_cons (ps_if (pt_cmpR op_eq (pv 0) (pe_const c_NO_BALLS) (nomark _))
(pss_one (ps_ret (pe_tup pa_nil)))
pss_nil)
(pss_cons (ps_asg (pe_bm PySem.F.plainAttrs_str PySem.F.slot_str_partition PySem.F.type_str_partition mt_part (pv 0) (pa_cons pe_str pa_nil)) (pg_tup rfl (pgs_cons (pg_name (i:=1) nd rfl (Or.inl rfl)) (pgs_cons (pg_name (i:=2) nd rfl (Or.inl rfl)) (pgs_cons (pg_name (i:=3) nd rfl (Or.inl rfl)) pgs_nil)))))
(pss_cons (ps_if (pt_cmpR op_gt (pe_callB call_len_str rfl nb.len PySem.boot_len (pa_cons (pv 3) pa_nil)) (pe_const c_MOST_BOXES) (nomark _))
(pss_one (ps_raise lvs_cx rfl rfl hm ex (pa_cons (pe_fstr (pj_str (pj_int (pe_const c_MOST_BOXES) (pj_str pj_nil)))) pa_nil)))
pss_nil)
(pss_cons (ps_set (i:=4) nd rfl (Or.inr rfl) (pe_def h_number_read hr (pa_cons (pv 1) pa_nil)))
(pss_cons (ps_set (i:=5) nd rfl (Or.inl rfl) (pe_callTy call_tuple_of rfl nb.tuple boot_tuple (pa_cons (pe_comp2 (sc:=defScope s_row_read) (N0:=["text","first","mark","signs","start","row"]) (N:=["start"]) (js:=[4]) rfl rfl rfl (by exact⟨rfl,by decide +kernel,by decide +kernel,by decide +kernel,rfl,rfl,by decide,by decide +kernel,by decide +kernel⟩) rfl rfl
(pi_enumS rfl nb.enum (pa_cons (pv 3) pa_nil))
(fun _ _ _ _ _=>by exact(pts_one (pt_cmpR op_eq (pv 1) pe_str (nomark _))))
(fun _ _ _ _ _=>by exact(pe_op op_add (pv 2) (pv 0)))) pa_nil)))
(pss_cons (ps_if (PW.pt (pw_or (pt_not (pt_truth (pe_def h_is_row hr (pa_cons (pv 5) pa_nil)) (fun _=>rfl))) (pw_or1 (pt_cmpR op_ne (pe_def h_row_text hr (pa_cons (pv 5) pa_nil)) (pv 0) (nomark _)))))
(pss_one (ps_raise lvs_cx rfl rfl hm ex (pa_cons pe_str pa_nil)))
pss_nil)
(pss_one (ps_ret (pv 5)))))))))),?_⟩
  refine⟨_,rfl,_,_,rfl,.str _,_,rfl,iteF ?_⟩
  refine⟨_,rfl,rfl,_,rfl,?_⟩
  rw[decide_eq_false (fun e=>nn (by injection e))]
  refine iteF ⟨_,rfl,rfl,_,_,rfl,rfl,by decide +kernel,by rw[sizeLine_eq];omega,fun p hp=>?_⟩
  rw[ep]
  have s2:=same_new hp (.tup [.str f1,.str m1,.str s1])
  have h2:(upd H p (.tup [.str f1,.str m1,.str s1])) p=some (.tup [.str f1,.str m1,.str s1]):=upd_same
  generalize upd H p (.tup [.str f1,.str m1,.str s1])=H2 at s2 h2 ⊢
  refine⟨p,_,rfl,SqT.of h2,rfl,_,_,rfl,_,_,rfl,_,_,rfl,rfl,?_⟩
  refine⟨_,rfl,_,rfl,by rw[sizeLine_eq];omega,_,_,rfl,rfl,_,rfl,?_⟩
  by_cases c1:200<s1.length
  ·rw[decide_eq_true (by omega)]
   exact iteT ⟨by decide +kernel,200,rfl,by decide,by decide +kernel,by decide +kernel,by decide +kernel,by show 1≤sizeLine;decide,fun e he=>q e H2 s2 he⟩
  ·rw[decide_eq_false (by omega)]
   obtain⟨n,n30,en⟩:=nk
   refine iteF ⟨_,rfl,n,by rw[en];rfl,n30,fun H3 s3=>?_⟩
   have S3:=s2.trans s3
   obtain⟨sg,esg⟩:∃sg:List Nat,s1.cps.toList=sg:=⟨_,rfl⟩
   have lsg:s1.length=sg.length:=by rw[str_len,esg]
   have szs:s1.cps.size=sg.length:=by rw[←esg,length_toList]
   refine⟨_,rfl,s1,rfl,fun D hD=>?_⟩
   refine comp_sel s1.cps.size (by rw[sizeLine_eq];omega) (fun j=>decide (sg.getD j 0=111)) (fun(j:Nat)=>.int (n+(j:Int))) (fun σ=>∃o1 o2,σ=[o1,o2,some (.int n)]) _ hD ⟨_,_,rfl⟩ (fun i H5 s5=>items_enumS (x:=s1) i H5 s5) (fun i x σ' H5 hi s5 im hσ R S hR hS=>?_) (fun H4 s4 hD4=>?_)
   ·obtain⟨o1,o2,rfl⟩:=hσ
    obtain⟨p2,c,rfl,hp2,hc⟩:=im
    have gc:sg.getD i 0=c:=by
     rw[←esg,getD_eq_getElem?_getD,getElem?_toList,hc]
     rfl
    refine⟨p2,_,rfl,SqT.of hp2,rfl,_,_,rfl,_,_,rfl,rfl,?_⟩
    refine⟨_,rfl,rfl,_,rfl,?_⟩
    rw[o_is]
    by_cases e:c=111
    ·rw[decide_eq_true (by rw[e])]
     exact iteT ⟨_,rfl,_,rfl,_,_,rfl,rfl,hR (by rw[gc];exact decide_eq_true e) _ _ _ ⟨_,_,rfl⟩ (Same.refl _) rfl⟩
    ·rw[decide_eq_false (fun z=>e (by injection z with z;injection z with z;injection z with z;injection z))]
     exact iteF (hS (by rw[gc];exact decide_eq_false e) _ _ ⟨_,_,rfl⟩ (Same.refl _))
   have eD:((List.range s1.cps.size).filter fun j=>decide (sg.getD j 0=111)).map (fun(j:Nat)=>V.int (n+(j:Int)))=(balls n sg).map V.int:=by
    rw[szs]
    unfold balls
    rw[map_map]
    rfl
   rw[eD]at hD4
   refine⟨D,_,rfl,.inl ⟨SqL.of hD4,fun l hl=>?_⟩⟩
   have s5:=same_new hl (.tup ((balls n sg).map V.int))
   have h5:(upd H4 l (.tup ((balls n sg).map V.int))) l=some (.tup ((balls n sg).map V.int)):=upd_same
   generalize upd H4 l (.tup ((balls n sg).map V.int))=H5 at s5 h5 ⊢
   have S5:=S3.trans (s4.trans s5)
   have bl:(balls n sg).length≤200:=by
    unfold balls
    rw[length_map]
    have:=length_filter_le (fun j=>decide (sg.getD j 0=111)) (List.range sg.length)
    rw[length_range]at this
    omega
   refine⟨_,rfl,_,rfl,int_thing h5 (by omega),fun H6 s6=>?_⟩
   rw[rowV_tup h5]
   refine⟨_,rfl,?_⟩
   by_cases c2:rowB ((balls n sg).map V.int)=true
   ·rw[c2]
    obtain⟨wd,l12⟩:=row_looked c2 (balls_wide (by omega))
    refine iteF ⟨_,rfl,l,_,rfl,s6 _ _ h5,wd,fun H7 s7=>⟨_,rfl,rfl,_,rfl,?_⟩⟩
    rw[decide_eq_false (fun e=>no ⟨_,wd,l12,by injection e with e;exact e.symm⟩)]
    exact iteT ⟨by show 1≤sizeLine;decide,fun e he=>q e H7 (S5.trans (s6.trans s7)) he⟩
   ·rw[eq_false_iff.mpr c2]
    exact iteT (iteT ⟨by show 1≤sizeLine;decide,fun e he=>q e H6 (S5.trans s6) he⟩)
 ·refine⟨_,(pss_cons (ps_if (pt_not (pt_truth (pe_callB call_isiS rfl nb.isi boot_isinstance (pa_cons (pv 0) (pa_cons (pe_ty nb.str boot_str) pa_nil))) (fun _=>rfl)))
(pss_one (ps_raise lvs_cx rfl rfl hm ex (pa_cons pe_str pa_nil)))
pss_nil)
(pss_cons (ps_if (pt_cmpR op_eq (pv 0) (pe_const c_NO_BALLS) (nomark _))
(pss_one (ps_ret (pe_tup pa_nil)))
pss_nil)
(pss_cons (ps_asg (pe_bm PySem.F.plainAttrs_str PySem.F.slot_str_partition PySem.F.type_str_partition mt_part (pv 0) (pa_cons pe_str pa_nil)) (pg_tup rfl (pgs_cons (pg_name (i:=1) nd rfl (Or.inl rfl)) (pgs_cons (pg_name (i:=2) nd rfl (Or.inl rfl)) (pgs_cons (pg_name (i:=3) nd rfl (Or.inl rfl)) pgs_nil)))))
(pss_cons (ps_if (pt_cmpR op_gt (pe_callB call_len_str rfl nb.len PySem.boot_len (pa_cons (pv 3) pa_nil)) (pe_const c_MOST_BOXES) (nomark _))
(pss_one (ps_raise lvs_cx rfl rfl hm ex (pa_cons (pe_fstr (pj_str (pj_int (pe_const c_MOST_BOXES) (pj_str pj_nil)))) pa_nil)))
pss_nil)
(pss_cons (ps_set (i:=4) nd rfl (Or.inr rfl) (pe_defE hE_number_read lvs_cx hr (pa_cons (pv 1) pa_nil))) pss_never))))),?_⟩
  refine⟨_,rfl,_,_,rfl,.str _,_,rfl,iteF ?_⟩
  refine⟨_,rfl,rfl,_,rfl,?_⟩
  rw[decide_eq_false (fun e=>nn (by injection e))]
  refine iteF ⟨_,rfl,rfl,_,_,rfl,rfl,by decide +kernel,by rw[sizeLine_eq];omega,fun p hp=>?_⟩
  rw[ep]
  have s2:=same_new hp (.tup [.str f1,.str m1,.str s1])
  have h2:(upd H p (.tup [.str f1,.str m1,.str s1])) p=some (.tup [.str f1,.str m1,.str s1]):=upd_same
  generalize upd H p (.tup [.str f1,.str m1,.str s1])=H2 at s2 h2 ⊢
  refine⟨p,_,rfl,SqT.of h2,rfl,_,_,rfl,_,_,rfl,_,_,rfl,rfl,?_⟩
  refine⟨_,rfl,_,rfl,by rw[sizeLine_eq];omega,_,_,rfl,rfl,_,rfl,?_⟩
  by_cases c1:200<s1.length
  ·rw[decide_eq_true (by omega)]
   exact iteT ⟨by decide +kernel,200,rfl,by decide,by decide +kernel,by decide +kernel,by decide +kernel,by show 1≤sizeLine;decide,fun e he=>q e H2 s2 he⟩
  ·rw[decide_eq_false (by omega)]
   exact iteF ⟨_,rfl,f1,rfl,by omega,nk,fun e H' s3 he=>q e H' (s2.trans s3) he⟩
end
end K93
namespace K93
open L2
abbrev LET:Str:=Str.ofString "abcdefghijklmnopqrstuvwxyz"
def nameB (z:Str):Bool:=decide (1≤z.cps.toList.length)&&decide (z.cps.toList.length≤8)&&z.cps.toList.all fun c=>decide (c∈LET.cps.toList)
def spName (c4:Addr):Sp:=fun vs H Q E=>∃z:Str,vs=[.str z]∧z.length≤2000∧(nameB z=true→∀H',Same H H'→Q .non H')∧(nameB z=false→∀e H',Same H H'→H' e=none→E (.ref c4) (some e) H')
def PartR (c4:Addr)(f z:Str)(H:Hp)(Q:VK)(E:XK):Prop:=
 if f=Str.ofString "TEXT" then orSp spRowRead (spReadE c4) [.str z] H Q E else if f=Str.ofString "K" then orSp spNumRead (spNumE c4) [.str z] H Q E
 else(nameB z=true→∀H',Same H H'→Q (.str z) H')∧(nameB z=false→∀e H',Same H H'→H' e=none→E (.ref c4) (some e) H')
def spPart (c4:Addr):Sp:=fun vs H Q E=>∃f z:Str,vs=[.str f,.str z]∧z.length≤1900∧PartR c4 f z H Q E
section
variable {P:Program}{w:World}{K:W.Frag}{mg:Str→Option Value}{base:Heap}{c4:Addr}{bm4:List Value}
theorem ok_need_name {f:Addr}{fd:FuncData}(F:Fun K "need_name" "need_name" s_need_name f fd)(nb:NbX mg)(c_LETTERS:∃u,mg "LETTERS" = some u∧RelV (.str LET) u)(c_LONGEST_NAME:∃u,mg "LONGEST_NAME" = some u∧RelV (.int 8) u)(hm:mg "BadNote" = some (.ref c4))(ex:Exc K c4 bm4) :
 FnOk P w K mg base (CXF P w) 1 f fd ["word"] (spName c4):=by
 have nd:=sc_need_name.nd
 refine F.okE (k:=0) sc_need_name (fun vs H Q E h=>?_) (fun cdv A outer s H vs Q E hr h=>?_)
 ·obtain⟨z,rfl,_⟩:=h
  rfl
 obtain⟨z,rfl,zl,q1,q2⟩:=h
 refine⟨_,(pss_one (ps_if (PW.pt (pw_or (pt_not (pt_chain op_le op_le pe_int (pe_callB call_len_str rfl nb.len PySem.boot_len (pa_cons (pv 0) pa_nil)) (pe_const c_LONGEST_NAME))) (pw_or1 (pt_not (pt_truth (pe_callB (call_allB rfl) rfl nb.all boot_all (pa_cons (pe_comp1 (sc:=defScope s_need_name) (N0:=["word"]) (N:=[]) (js:=[]) rfl rfl rfl (by exact⟨rfl,by decide +kernel,by decide +kernel,by decide +kernel,rfl,rfl,by decide,by decide +kernel,by decide +kernel⟩) rfl
(pi_str (pv 0))
(fun _ _ _ _ _=>by exact pts_nil)
(fun _ _ _ _ _=>by exact(pe_cmpR op_in_str (pv 0) (pe_const c_LETTERS) rfl))) pa_nil)) (fun _=>rfl))))))
(pss_one (ps_raise lvs_cx rfl rfl hm ex (pa_cons (pe_fstr (pj_str (pj_int (pe_const c_LONGEST_NAME) (pj_str pj_nil)))) pa_nil)))
pss_nil)),?_⟩
 have lz:=str_len z
 have sz:z.cps.size=z.cps.toList.length:=by rw[length_toList]
 have rs:nameB z=false→∀(D:Ends) (σ:L2.St) (H2:Hp),Same H H2→tRaise E c4 (tCons (tJoin (jStr (Str.ofString "a name of 1 to ") (jInt (tC (V.int 8)) (jStr (Str.ofString " small letters is due") jNil)))) tNil) D σ H2:=fun no D σ H2 s2=>
  ⟨by decide +kernel,8,rfl,by decide,by decide +kernel,by decide +kernel,by decide +kernel,by show 1≤sizeLine;decide,fun e he=>q2 no e H2 s2 he⟩
 refine⟨_,rfl,z,rfl,by rw[sizeLine_eq];omega,?_⟩
 refine⟨_,_,rfl,rfl,_,rfl,?_⟩
 by_cases c1:1≤z.cps.toList.length
 ·rw[decide_eq_true (show(1:Int)≤(z.length:Int) by omega)]
  refine iteT ⟨_,_,rfl,rfl,_,rfl,?_⟩
  by_cases c2:z.cps.toList.length≤8
  ·rw[decide_eq_true (show(z.length:Int)≤8 by omega)]
   refine iteF ⟨_,rfl,z,rfl,fun D hD=>?_⟩
   refine comp_go z.cps.size (by rw[sizeLine_eq];omega) (fun i=>.bl (decide (z.cps.toList.getD i 0∈LET.cps.toList))) (fun σ=>∃o1,σ=[o1]) _ hD ⟨_,rfl⟩ items_str (fun i x σ' H2 hi s2 im hσ R hR=>?_) (fun H1 s1 hD1=>?_)
   ·obtain⟨o1,rfl⟩:=hσ
    obtain⟨c,hc,rfl⟩:=im
    refine⟨_,rfl,_,_,rfl,rfl,hR _ _ _ ⟨_,rfl⟩ (Same.refl _) ?_⟩
    have ec:z.cps.toList.getD i 0=c:=by
     rw[getD_eq_getElem?_getD,getElem?_toList,hc]
     rfl
    rw[sign_in,ec]
   rw[sz,by_sign z.cps.toList (fun c=>V.bl (decide (c∈LET.cps.toList))),show z.cps.toList.map (fun c=>V.bl (decide (c∈LET.cps.toList)))=(z.cps.toList.map fun c=>decide (c∈LET.cps.toList)).map V.bl by rw[map_map];rfl]at hD1
   refine⟨D,_,rfl,SqL.of hD1,_,rfl,?_⟩
   have en:nameB z=(z.cps.toList.map fun c=>decide (c∈LET.cps.toList)).all id:=by
    unfold nameB
    rw[decide_eq_true c1,decide_eq_true c2,all_map]
    rfl
   cases c3:(z.cps.toList.map fun c=>decide (c∈LET.cps.toList)).all id with
   |true=>exact iteF (q1 (en.trans c3) H1 s1)
   |false=>exact iteT (rs (en.trans c3) _ _ H1 s1)
  ·rw[decide_eq_false (show ¬(z.length:Int)≤8 by omega)]
   exact iteT (iteT (rs (by unfold nameB;rw[decide_eq_false c2,Bool.and_false];rfl) _ _ H (Same.refl _)))
 ·rw[decide_eq_false (show ¬(1:Int)≤(z.length:Int) by omega)]
  exact iteF ⟨_,rfl,iteT (iteT (rs (by unfold nameB;rw[decide_eq_false c1];rfl) _ _ H (Same.refl _)))⟩
theorem ok_part_read {f:Addr}{fd:FuncData}(F:Fun K "part_read" "part_read" s_part_read f fd)(nb:NbX mg)(hE_row_read:HasE P w K mg base 3 "row_read" ["text"] (orSp spRowRead (spReadE c4)))(hE_number_read:HasE P w K mg base 1 "number_read" ["text"] (orSp spNumRead (spNumE c4)))(hE_need_name:HasE P w K mg base 1 "need_name" ["word"] (spName c4))(hm:mg "BadNote" = some (.ref c4))(ex:Exc K c4 bm4) :
 FnOk P w K mg base (CXF P w) 4 f fd ["form","word"] (spPart c4):=by
 have nd:=sc_part_read.nd
 refine F.okE (k:=3) sc_part_read (fun vs H Q E h=>?_) (fun cdv A outer s H vs Q E hr h=>?_)
 ·obtain⟨f,z,rfl,_⟩:=h
  rfl
 obtain⟨fo,z,rfl,zl,pr⟩:=h
 refine⟨_,(pss_cons (ps_if (pt_cmpR op_eq (pv 0) pe_str (nomark _))
(pss_one (ps_ret (pe_defE hE_row_read lvs_cx hr (pa_cons (pv 1) pa_nil))))
pss_nil)
(pss_cons (ps_if (pt_cmpR op_eq (pv 0) pe_str (nomark _))
(pss_one (ps_ret (pe_defE hE_number_read lvs_cx hr (pa_cons (pv 1) pa_nil))))
pss_nil)
(pss_cons (ps_expr (pe_defE hE_need_name lvs_cx hr (pa_cons (pv 1) pa_nil)))
(pss_one (ps_ret (pv 1)))))),?_⟩
 unfold PartR at pr
 refine⟨_,rfl,rfl,_,rfl,?_⟩
 by_cases c1:fo=Str.ofString "TEXT"
 ·rw[if_pos c1]at pr
  rw[decide_eq_true (by rw[c1])]
  exact iteT ⟨_,rfl,pr⟩
 rw[if_neg c1]at pr
 rw[decide_eq_false (fun e=>c1 (by injection e))]
 refine iteF ⟨_,rfl,rfl,_,rfl,?_⟩
 by_cases c2:fo=Str.ofString "K"
 ·rw[if_pos c2]at pr
  rw[decide_eq_true (by rw[c2])]
  exact iteT ⟨_,rfl,pr⟩
 rw[if_neg c2]at pr
 rw[decide_eq_false (fun e=>c2 (by injection e))]
 exact iteF ⟨_,rfl,z,rfl,by omega,fun h H' s'=>⟨_,rfl,pr.1 h H' s'⟩,pr.2⟩
end
end K93
namespace K93
open L2
def formsL:List (Str×List Str):=[("row",["N","TEXT"]),("kept",[]),("show",["A"]),("later",["A","K","N"]),("small",["A","K","N"]),("peel",["A","N"]),("lengths",["A"]),("takings",["A"]),("free",["A"]),("alike",["A","A"])]
def formsOf (x:Str):Option (List Str):=(formsL.find? fun p=>decide (p.1=x)).map (·.2)
def FormsAt (P:Program)(w:World)(K:W.Frag)(fm:Addr):Prop:=∃kvs,KDict P w K fm kvs∧∀x:Str,(formsOf x=none→valV kvs (Sum.inr x)=none)∧∀fs,formsOf x=some fs→∃t:Addr,valV kvs (Sum.inr x)=some (.ref t)∧∀H:Hp,SqT K H t (fs.map V.str)
def Val (H:Hp)(f z:Str)(v:V):Prop:=
 if f=Str.ofString "TEXT" then ∃(r:Addr) (row:List Int),v=.ref r∧H r=some (.tup (row.map V.int))∧Wd row∧row.length≤12∧z=rowTxt row
 else if f=Str.ofString "K" then ∃n:Int,v=.int n∧n.natAbs<10^30∧z=numT n else v=.str z∧nameB z=true
theorem Val.same {H H':Hp}{f z:Str}{v:V}(h:Val H f z v)(s:Same H H'):Val H' f z v:=by
 unfold Val at h ⊢
 split
 ·rename_i c
  rw[if_pos c]at h
  obtain⟨r,row,a,b,c⟩:=h
  exact⟨r,row,a,s _ _ b,c⟩
 ·rename_i c
  rw[if_neg c]at h
  exact h
def Good (f z:Str):Prop:=if f=Str.ofString "TEXT" then NoteOk z else if f=Str.ofString "K" then NumOk z else nameB z=true
def Refuse (H:Hp)(E:XK)(c:Addr):Prop:=∀e H',Same H H'→H' e=none→E (.ref c) (some e) H'
theorem Refuse.same {H H':Hp}{E:XK}{c:Addr}(h:Refuse H E c)(s:Same H H'):Refuse H' E c:=fun e H2 s2 he=>h e H2 (s.trans s2) he
theorem part_good {c4:Addr}{f z:Str}{H:Hp}{Q:VK}{E:XK}(g:Good f z)(q:∀v H',Same H H'→Val H' f z v→Q v H'):PartR c4 f z H Q E:=by
 unfold PartR
 unfold Good at g
 by_cases c1:f=Str.ofString "TEXT"
 ·rw[if_pos c1]at g ⊢
  obtain⟨row,wd,l12,rfl⟩:=g
  exact .inl ⟨row,rfl,wd,l12,trivial,fun r H' s hr=>q _ H' s (by unfold Val;rw[if_pos c1];exact⟨r,row,rfl,hr,wd,l12,rfl⟩)⟩
 rw[if_neg c1]at g ⊢
 by_cases c2:f=Str.ofString "K"
 ·rw[if_pos c2]at g ⊢
  obtain⟨n,n30,rfl⟩:=g
  exact .inl ⟨n,rfl,n30,fun H' s=>q _ H' s (by unfold Val;rw[if_neg c1,if_pos c2];exact⟨n,rfl,n30,rfl⟩)⟩
 rw[if_neg c2]at g ⊢
 exact⟨fun _ H' s=>q _ H' s (by unfold Val;rw[if_neg c1,if_neg c2];exact⟨rfl,g⟩),fun z=>absurd (g.symm.trans z) (by decide)⟩
theorem part_bad {c4:Addr}{f z:Str}{H:Hp}{Q:VK}{E:XK}(g:¬Good f z)(zl:z.length≤1900)(q:Refuse H E c4):PartR c4 f z H Q E:=by
 unfold PartR
 unfold Good at g
 by_cases c1:f=Str.ofString "TEXT"
 ·rw[if_pos c1]at g ⊢
  exact .inr ⟨.str z,rfl,.inr ⟨z,rfl,zl,g⟩,q⟩
 rw[if_neg c1]at g ⊢
 by_cases c2:f=Str.ofString "K"
 ·rw[if_pos c2]at g ⊢
  exact .inr ⟨z,rfl,by omega,g,q⟩
 rw[if_neg c2]at g ⊢
 exact⟨fun y=>absurd y g,fun _=>q⟩
abbrev BLK:Str:=Str.ofString " "
def LineR (c4:Addr)(z:Str)(H:Hp)(Q:VK)(E:XK):Prop:=∃(x:Str) (rest:List Str),Txt.split z BLK=x::rest∧(∀y∈rest,y.length≤1900)∧
 match formsOf x with
 |none=>Refuse H E c4
 |some fs=>if fs.length=rest.length then
  ((∃(j:Nat) (f y:Str),fs[j]?=some f∧rest[j]?=some y∧¬Good f y)→Refuse H E c4)∧
  ∀(tp L:Addr) (ys:List V) (H':Hp),Same H H'→H' tp=some (.tup [.str x,.ref L])→H' L=some (.lst ys)→ys.length=fs.length→
   (∀(j:Nat) (f y:Str),fs[j]?=some f→rest[j]?=some y→∃(p:Addr) (v:V),ys[j]?=some (.ref p)∧H' p=some (.tup [.str f,v])∧Val H' f y v)→Q (.ref tp) H'
  else Refuse H E c4
def spLine (c4:Addr):Sp:=fun vs H Q E=>∃v:V,vs=[v]∧((∃T,Kn H v T∧subT T "str" = false∧Refuse H E c4)∨∃z:Str,v=.str z∧z.length≤1900∧LineR c4 z H Q E)
section
variable {P:Program}{w:World}{K:W.Frag}{mg:Str→Option Value}{base:Heap}{c4:Addr}{bm4:List Value}{fm:Addr}
theorem ok_line_read {f:Addr}{fd:FuncData}(F:Fun K "line_read" "line_read" s_line_read f fd)(nb:NbX mg)(hE_part_read:HasE P w K mg base 4 "part_read" ["form","word"] (spPart c4))(c_FORMS:∃u,mg "FORMS" = some u∧RelV (.ref fm) u)(hm:mg "BadNote" = some (.ref c4))(ex:Exc K c4 bm4)(fms:FormsAt P w K fm) :
 FnOk P w K mg base (CXF P w) 5 f fd ["line"] (spLine c4):=by
 have nd:=sc_line_read.nd
 refine F.okE (k:=4) sc_line_read (fun vs H Q E h=>?_) (fun cdv A outer s H vs Q E hr h=>?_)
 ·obtain⟨v,rfl,_⟩:=h
  rfl
 obtain⟨v,rfl,lr⟩:=h
 refine⟨_,(pss_cons (ps_if (pt_not (pt_truth (pe_callB call_isiS rfl nb.isi boot_isinstance (pa_cons (pv 0) (pa_cons (pe_ty nb.str boot_str) pa_nil))) (fun _=>rfl)))
(pss_one (ps_raise lvs_cx rfl rfl hm ex (pa_cons pe_str pa_nil)))
pss_nil)
(pss_cons (ps_asg (pe_bm PySem.F.plainAttrs_str PySem.F.slot_str_split PySem.F.type_str_split mt_split (pv 0) (pa_cons pe_str pa_nil)) (pg_star rfl (pgs_cons (pg_name (i:=1) nd rfl (Or.inl rfl)) (pgs_cons (pg_name (i:=2) nd rfl (Or.inl rfl)) pgs_nil))))
(pss_cons (ps_if (PW.pt (pw_or (pt_cmpR op_notInKD (pv 1) (pe_const c_FORMS) rfl) (pw_or1 (pt_cmpR op_ne (pe_callB call_len_seq rfl nb.len PySem.boot_len (pa_cons (pv 2) pa_nil)) (pe_callB call_len_seq rfl nb.len PySem.boot_len (pa_cons (pe_kget (pe_const c_FORMS) (pv 1) (fun _ _=>rfl)) pa_nil)) (nomark _)))))
(pss_one (ps_raise lvs_cx rfl rfl hm ex (pa_cons pe_str pa_nil)))
pss_nil)
(pss_one (ps_ret (pe_tup (pa_cons (pv 1) (pa_cons (pe_compE2 (sc:=defScope s_line_read) (N0:=["line","word","rest"]) (N:=[]) (js:=[]) lvs_cx rfl rfl rfl (by exact⟨rfl,by decide +kernel,by decide +kernel,by decide +kernel,rfl,rfl,by decide,by decide +kernel,by decide +kernel⟩) rfl rfl
(pi_zipm rfl nb.zip (pa_cons (pe_kget (pe_const c_FORMS) (pv 1) (fun _ _=>rfl)) (pa_cons (pv 2) pa_nil)))
(fun _ _ _ _ _=>by exact pts_nil)
(fun _ _ _ _ _=>by exact(pe_tup (pa_cons (pv 0) (pa_cons (pe_defP hE_part_read passes_blk hr (pa_cons (pv 0) (pa_cons (pv 1) pa_nil))) pa_nil))))) pa_nil)))))))),?_⟩
 rcases lr with⟨T,kn,ns,rf⟩ | ⟨z,rfl,zl,x,rest,es,ry,lr⟩
 ·refine⟨_,rfl,_,T,rfl,kn,_,rfl,?_⟩
  rw[ns]
  exact iteT ⟨by show 1≤sizeLine;decide,fun e he=>rf e H (Same.refl _) he⟩
 have raise:∀{t:Str},∀(D:Ends) (σ:L2.St) (H2:Hp),Refuse H2 E c4→tRaise E c4 (tCons (tC (V.str t)) tNil) D σ H2:=fun{t} D σ H2 rf=>⟨by show 1≤sizeLine;decide,fun e he=>rf e H2 (Same.refl _) he⟩
 obtain⟨kvs,kd,fk⟩:=fms
 have sl:=split_len z BLK
 refine⟨_,rfl,_,"str",rfl,.str _,_,rfl,iteF ?_⟩
 refine⟨_,rfl,rfl,z,BLK,rfl,rfl,by decide +kernel,by rw[sizeLine_eq];omega,by rw[sizeLine_eq];omega,by rw[sizeLine_eq];omega,fun l hl=>?_⟩
 rw[es]
 have l2:=sl.2
 rw[es,length_cons]at l2
 have s1:=same_new hl (.lst ((x::rest).map V.str))
 have h1:(upd H l (.lst ((x::rest).map V.str))) l=some (.lst (.str x::rest.map V.str)):=upd_same
 generalize upd H l (.lst ((x::rest).map V.str))=H1 at s1 h1 ⊢
 refine⟨l,.str x,rest.map V.str,rfl,SqL.of h1,by rw[length_map];omega,fun D hD=>?_⟩
 have s2:=s1.trans (same_new hD (.lst (rest.map V.str)))
 have h2:(upd H1 D (.lst (rest.map V.str))) D=some (.lst (rest.map V.str)):=upd_same
 generalize upd H1 D (.lst (rest.map V.str))=H2 at s2 h2 ⊢
 refine⟨_,_,rfl,_,_,rfl,rfl,?_⟩
 refine⟨_,rfl,fm,kvs,Sum.inr x,rfl,kd,rfl,_,rfl,?_⟩
 cases ef:formsOf x with
 |none=>
  rw[ef]at lr
  rw[(fk x).1 ef]
  exact iteT (iteT (raise _ _ _ (lr.same s2)))
 |some fs=>
  rw[ef]at lr
  obtain⟨t,ev,ht⟩:=(fk x).2 fs ef
  rw[ev]
  refine iteF ⟨_,rfl,D,_,rfl,.inl (SqL.of h2),_,rfl,fm,kvs,Sum.inr x,.ref t,rfl,kd,rfl,ev,t,_,rfl,.inr (ht H2),rfl,_,rfl,?_⟩
  rw[length_map,length_map]
  dsimp only at lr
  by_cases c:fs.length=rest.length
  ·rw[if_pos c]at lr
   rw[decide_eq_true (by rw[c])]
   obtain⟨bad,good⟩:=lr
   refine iteF ⟨_,rfl,_,rfl,fm,kvs,Sum.inr x,.ref t,rfl,kd,rfl,ev,_,rfl,t,D,_,_,rfl,ht H2,SqL.of h2,fun L hL=>?_⟩
   refine comp_any fs.length (by rw[sizeLine_eq];omega) (fun i σ H' ys=>(∃o1 o2,σ=[o1,o2])∧Same H2 H'∧H' L=some (.lst ys)∧ys.length=i∧(∀(j:Nat) (f y:Str),j<i→fs[j]?=some f→rest[j]?=some y→∃(p:Addr) (v:V),ys[j]?=some (.ref p)∧H' p=some (.tup [.str f,v])∧Val H' f y v)) (fun i H' v=>∃(p:Addr) (f y:Str),v=.ref p∧H' p=some (.tup [.str f,.str y])∧fs[i]?=some f∧rest[i]?=some y)
    ⟨⟨_,_,rfl⟩,same_new hL _,upd_same,rfl,fun j f y hj=>by omega⟩ (fun i σ H' ys pv=>⟨pv.2.2.1,by rw[pv.2.2.2.1];exact Nat.le_refl _⟩) (fun i σ H' ys pv=>?_) (fun i v σ H3 H4 ys hi pv s34 im R B hR hB=>?_) (fun σ H' ys pv=>?_)
   ·obtain⟨_,s3,_⟩:=pv
    have im:=items_zipm (K:=K) (ht H') (s3 _ _ h2) i
    rw[length_map,length_map,←c,Nat.min_self]at im
    refine⟨fun hi=>⟨(im.1 hi).1,fun v H5 y=>?_⟩,im.2⟩
    obtain⟨sm,p,u,u',e1,e2,e3,e4⟩:=(im.1 hi).2 v H5 y
    refine⟨sm,p,fs[i],rest[i]'(by omega),e1,?_,List.getElem?_eq_getElem hi,List.getElem?_eq_getElem (by omega)⟩
    rw[getElem?_map,List.getElem?_eq_getElem hi]at e3
    rw[getElem?_map,List.getElem?_eq_getElem (by omega)]at e4
    cases e3
    cases e4
    exact e2
   ·obtain⟨⟨o1,o2,rfl⟩,s3,hL3,ly,all⟩:=pv
    obtain⟨p,f,y,rfl,hp,ff,fy⟩:=im
    refine⟨p,_,rfl,SqT.of hp,rfl,_,_,rfl,_,_,rfl,rfl,?_⟩
    unfold tYes
    dsimp only
    rw[if_pos rfl]
    refine⟨_,rfl,_,rfl,_,rfl,f,y,rfl,ry y (mem_of_getElem? fy),?_⟩
    by_cases gd:Good f y
    ·refine part_good gd fun v H5 s5 va=>⟨by show 2≤sizeLine;decide,fun q hq=>?_⟩
     have s45:=s34.trans s5
     have s6:=same_new hq (.tup [.str f,v])
     have hq6:(upd H5 q (.tup [.str f,v])) q=some (.tup [.str f,v]):=upd_same
     generalize upd H5 q (.tup [.str f,v])=H6 at s6 hq6 ⊢
     have s36:=s45.trans s6
     have qL:q≠L:=fun e=>by rw[e,s36 _ _ hL3]at hq6;cases hq6
     have keepL:∀{b:Addr} {o:HO},b≠L→H6 b=some o→(upd H6 L (.lst (ys++[.ref q]))) b=some o:=fun n e=>by rw[upd_ne n];exact e
     have notL:∀{b:Addr} {xs:List V},H6 b=some (.tup xs)→b≠L:=fun e n=>by rw[n,s36 _ _ hL3]at e;cases e
     have valL:∀{f y:Str} {v:V},Val H6 f y v→Val (upd H6 L (.lst (ys++[.ref q]))) f y v:=fun{f y v} h=>by
      unfold Val at h ⊢
      split
      ·rename_i c;rw[if_pos c]at h
       obtain⟨r,row,a1,a2,a3⟩:=h
       exact⟨r,row,a1,keepL (notL a2) a2,a3⟩
      ·rename_i c;rw[if_neg c]at h
       exact h
     refine hR _ _ _ (s36 _ _ hL3) ⟨⟨_,_,rfl⟩,?_,upd_same,by rw[length_append,ly];rfl,fun j f' y' hj e1 e2=>?_⟩
     ·intro b o e
      have nb:b≠L:=ne_of_none e hL
      exact keepL nb (s36 _ _ (s3 _ _ e))
     ·by_cases ji:j<i
      ·obtain⟨p',v',a1,a2,a3⟩:=all j f' y' ji e1 e2
       refine⟨p',v',by rw[getElem?_append_left (by omega)];exact a1,keepL (notL (s36 _ _ a2)) (s36 _ _ a2),valL (a3.same s36)⟩
      ·have ej:j=i:=by omega
       subst ej
       rw[ff]at e1
       rw[fy]at e2
       cases e1
       cases e2
       exact⟨q,v,by rw[getElem?_append_right (by omega),ly,Nat.sub_self];rfl,keepL qL hq6,valL (va.same s6)⟩
    ·exact part_bad gd (ry y (mem_of_getElem? fy)) ((bad ⟨i,f,y,ff,fy,gd⟩).same (s2.trans (s3.trans s34)))
   ·obtain⟨_,s3,hL3,ly,all⟩:=pv
    refine⟨by show 2≤sizeLine;decide,fun tp htp=>?_⟩
    have s4:=same_new htp (.tup [.str x,.ref L])
    have h4:(upd H' tp (.tup [.str x,.ref L])) tp=some (.tup [.str x,.ref L]):=upd_same
    generalize upd H' tp (.tup [.str x,.ref L])=H4 at s4 h4 ⊢
    refine good tp L ys H4 (s2.trans (s3.trans s4)) h4 (s4 _ _ hL3) ly fun j f y e1 e2=>?_
    obtain⟨p,v,a1,a2,a3⟩:=all j f y (List.getElem?_eq_some_iff.mp e1).1 e1 e2
    exact⟨p,v,a1,s4 _ _ a2,a3.same s4⟩
  ·rw[if_neg c]at lr
   rw[decide_eq_false (fun e=>c (by injection e with e;omega))]
   exact iteT (raise _ _ _ (lr.same s2))
end
end K93
namespace K93
open L2
theorem firsts_of {row:List Int}(up:row.Pairwise (· < ·)):(row.filter fun p=>decide (p - 1∉row))=(BB.blk row).map (·.1):=by
 cases row with
 |nil=>rfl
 |cons b r=>
  have u:=pairwise_cons.mp up
  exact BB.blk_firsts u.2 b u.1
theorem lasts_of {row:List Int}(up:row.Pairwise (· < ·)):(row.filter fun p=>decide (p+1∉row))=(BB.blk row).map fun q=>q.1+q.2 - 1:=by
 cases row with
 |nil=>rfl
 |cons b r=>
  have u:=pairwise_cons.mp up
  exact BB.blk_lasts u.2 b u.1
theorem blk_len:∀row:List Int,(BB.blk row).length≤row.length
 |[]=>Nat.le_refl _
 |p::r=>by
  have ih:=blk_len r
  unfold BB.blk
  split
  ·simp
  ·rename_i e
   rw[e]at ih
   split<;>simp only[length_cons]at ih ⊢<;>omega
def Tps (H:Hp)(ys:List V)(bl:List (Int×Int)):Prop:=ys.length=bl.length∧∀(j:Nat) (b:Int×Int),bl[j]?=some b→∃p,ys[j]?=some (.ref p)∧H p=some (.tup [.int b.1,.int b.2])
theorem Tps.same {H H':Hp}{ys:List V}{bl:List (Int×Int)}(t:Tps H ys bl)(s:Same H H'):Tps H' ys bl:=⟨t.1,fun j b e=>let⟨p,a,c⟩:=t.2 j b e;⟨p,a,s _ _ c⟩⟩
def spBin:Sp:=fun vs H Q _=>∃(a:Addr) (row:List Int),vs=[.ref a]∧H a=some (.tup (row.map V.int))∧row.Pairwise (· < ·)∧row.length≤12∧
 ∀(r:Addr) (ys:List V) (H':Hp),Same H H'→H' r=some (.lst ys)→Tps H' ys (BB.blk row)→Q (.ref r) H'
section
variable {P:Program}{w:World}{K:W.Frag}{mg:Str→Option Value}{base:Heap}
theorem ok_blocks_in {f:Addr}{fd:FuncData}(F:Fun K "blocks_in" "blocks_in" s_blocks_in f fd)(nb:Nb2 mg)   :
 FnOk P w K mg base CX0 1 f fd ["row"] spBin:=by
 have nd:=sc_blocks_in.nd
 refine F.ok (k:=0) sc_blocks_in (fun vs H Q E h=>?_) (fun cdv A outer s H vs Q E hr h=>?_)
 ·obtain⟨a,row,rfl,_⟩:=h
  rfl
 obtain⟨a,row,rfl,ha,up,r12,q⟩:=h
 refine⟨_,(pss_cons (ps_comp1 (ii:=1) nd rfl (Or.inl rfl) (sc:=defScope s_blocks_in) (N0:=["row","firsts","lasts"]) (N:=["row"]) (js:=[0]) rfl rfl rfl (by exact⟨rfl,by decide +kernel,by decide +kernel,by decide +kernel,rfl,rfl,by decide,by decide +kernel,by decide +kernel⟩) rfl
(pi_tup (pv 0))
(fun _ _ _ _ _=>by exact(pts_one (pt_cmpR (op_notInK K rfl) (pe_op op_sub (pv 0) pe_int) (pv 1) rfl)))
(fun _ _ _ _ _=>by exact(pv 0)))
(pss_cons (ps_comp1 (ii:=2) nd rfl (Or.inl rfl) (sc:=defScope s_blocks_in) (N0:=["row","firsts","lasts"]) (N:=["row"]) (js:=[0]) rfl rfl rfl (by exact⟨rfl,by decide +kernel,by decide +kernel,by decide +kernel,rfl,rfl,by decide,by decide +kernel,by decide +kernel⟩) rfl
(pi_tup (pv 0))
(fun _ _ _ _ _=>by exact(pts_one (pt_cmpR (op_notInK K rfl) (pe_op op_add (pv 0) pe_int) (pv 1) rfl)))
(fun _ _ _ _ _=>by exact(pv 0)))
(pss_one (ps_ret (pe_comp2 (sc:=defScope s_blocks_in) (N0:=["row","firsts","lasts"]) (N:=[]) (js:=[]) rfl rfl rfl (by exact⟨rfl,by decide +kernel,by decide +kernel,by decide +kernel,rfl,rfl,by decide,by decide +kernel,by decide +kernel⟩) rfl rfl
(pi_zip false rfl nb.zip (pa_cons (pv 1) (pa_cons (pv 2) pa_nil)))
(fun _ _ _ _ _=>by exact pts_nil)
(fun _ _ _ _ _=>by exact(pe_tup (pa_cons (pv 0) (pa_cons (pe_op op_add (pe_op op_sub (pv 1) (pv 0)) pe_int) pa_nil))))))))),?_⟩
 refine⟨_,rfl,a,rfl,⟨_,SqT.of (ha)⟩,fun D1 hD1=>?_⟩
 refine comp_sel (row.map V.int).length (by rw[length_map,sizeLine_eq];omega) (fun i=>decide (row.getD i 0 - 1∉row)) (fun i=>.int (row.getD i 0)) (fun σ=>∃o1,σ=[o1,some (.ref a)]) _ hD1 (by exact⟨_,rfl⟩) (items_tup (ha)) (fun i x σ' H2 hi s2 im hσ R S hR hS=>?_) (fun H1 s1 hD1=>?_)
 ·obtain⟨o1,rfl⟩:=hσ
  obtain rfl:=num_at im
  refine⟨_,rfl,_,_,rfl,rfl,_,rfl,a,_,rfl,.inr (SqT.of (s2 _ _ (ha))),rfl,flat_nums row,_,rfl,?_⟩
  rw[in_nums,if_pos rfl]
  by_cases m:row.getD i 0 - 1∈row
  ·rw[decide_eq_true m]
   exact iteF (hS (decide_eq_false fun z=>z m) _ _ ⟨_,rfl⟩ (Same.refl _))
  ·rw[decide_eq_false m]
   exact iteT ⟨_,rfl,hR (decide_eq_true m) _ _ _ ⟨_,rfl⟩ (Same.refl _) rfl⟩
 rw[length_map,BB.sel_list 0 row (fun p=>decide (p - 1∉row)) V.int]at hD1
 have hF:H1 D1=some (.lst (((BB.blk row).map (·.1)).map V.int)):=by rw[←firsts_of up];exact hD1
 refine⟨_,rfl,a,rfl,⟨_,SqT.of (s1 _ _ ha)⟩,fun D2 hD2=>?_⟩
 refine comp_sel (row.map V.int).length (by rw[length_map,sizeLine_eq];omega) (fun i=>decide (row.getD i 0+1∉row)) (fun i=>.int (row.getD i 0)) (fun σ=>∃o1,σ=[o1,some (.ref a)]) _ hD2 (by exact⟨_,rfl⟩) (items_tup (s1 _ _ ha)) (fun i x σ' H2 hi s2 im hσ R S hR hS=>?_) (fun H3 s3 hD3=>?_)
 ·obtain⟨o1,rfl⟩:=hσ
  obtain rfl:=num_at im
  refine⟨_,rfl,_,_,rfl,rfl,_,rfl,a,_,rfl,.inr (SqT.of (s2 _ _ (s1 _ _ ha))),rfl,flat_nums row,_,rfl,?_⟩
  rw[in_nums,if_pos rfl]
  by_cases m:row.getD i 0+1∈row
  ·rw[decide_eq_true m]
   exact iteF (hS (decide_eq_false fun z=>z m) _ _ ⟨_,rfl⟩ (Same.refl _))
  ·rw[decide_eq_false m]
   exact iteT ⟨_,rfl,hR (decide_eq_true m) _ _ _ ⟨_,rfl⟩ (Same.refl _) rfl⟩
 rw[length_map,BB.sel_list 0 row (fun p=>decide (p+1∉row)) V.int]at hD3
 have hL:H3 D2=some (.lst (((BB.blk row).map fun q=>q.1+q.2 - 1).map V.int)):=by rw[←lasts_of up];exact hD3
 have hF3:=s3 _ _ hF
 have bl:=blk_len row
 refine⟨_,rfl,_,rfl,D1,D2,_,_,rfl,SqL.of hF3,SqL.of hL,fun D hD=>?_⟩
 have im:=items_zipL (K:=K) hF3 hL
 have hn:min (((BB.blk row).map (·.1)).map V.int).length (((BB.blk row).map fun q=>q.1+q.2 - 1).map V.int).length=(BB.blk row).length:=by simp
 rw[hn]at im
 refine comp_tups (BB.blk row).length (by rw[sizeLine_eq];omega) (fun i=>[.int ((BB.blk row).getD i (0,0)).1,.int ((BB.blk row).getD i (0,0)).2]) (fun σ=>∃o1 o2,σ=[o1,o2]) _ hD ⟨_,_,rfl⟩ im (fun i x σ' H4 hi s4 im' hσ R hR=>?_) (fun H' ys s' hD' ly hy=>?_)
 ·obtain⟨o1,o2,rfl⟩:=hσ
  obtain⟨r,y,z,rfl,hr',hy,hz'⟩:=im'
  rw[getElem?_map,getElem?_map,List.getElem?_eq_getElem hi]at hy hz'
  obtain rfl:V.int (BB.blk row)[i].1=y:=Option.some.inj hy
  obtain rfl:V.int ((BB.blk row)[i].1+(BB.blk row)[i].2 - 1)=z:=Option.some.inj hz'
  refine⟨r,_,rfl,SqT.of hr',rfl,_,_,rfl,_,_,rfl,rfl,?_⟩
  refine⟨_,rfl,_,rfl,_,rfl,_,_,rfl,rfl,_,_,rfl,rfl,(by show 2≤sizeLine;decide),fun p hp=>?_⟩
  refine hR _ p _ ⟨_,_,rfl⟩ (same_new hp _) ?_
  rw[upd_same,getD_eq_getElem?_getD,List.getElem?_eq_getElem hi]
  show some (HO.tup [V.int (BB.blk row)[i].1,V.int ((BB.blk row)[i].1+(BB.blk row)[i].2 - 1 - (BB.blk row)[i].1+1)])=some (HO.tup [V.int (BB.blk row)[i].1,V.int (BB.blk row)[i].2])
  rw[show(BB.blk row)[i].1+(BB.blk row)[i].2 - 1 - (BB.blk row)[i].1+1=(BB.blk row)[i].2 by omega]
 ·refine q D ys H' (s1.trans (s3.trans s')) hD' ⟨ly,fun j b e=>?_⟩
  have jl:j<ys.length:=by rw[ly];exact(List.getElem?_eq_some_iff.mp e).1
  obtain⟨p,e1,e2⟩:=hy j _ (List.getElem?_eq_getElem jl)
  refine⟨p,by rw[List.getElem?_eq_getElem jl,e1],?_⟩
  rw[getD_eq_getElem?_getD,e]at e2
  exact e2
end
end K93
namespace K93
open L2
def okP (b c:Int×Int):Bool:=!(decide (c.2<b.2)||decide (c.1 - b.1 - b.2<b.2))
def frB (bl:List (Int×Int)):Bool:=(List.range (bl.length - 1)).all fun i=>okP (bl.getD i (0,0)) (bl.getD (i+1) (0,0))
theorem frB_no {bl:List (Int×Int)}{i:Nat}(hi:i<bl.length - 1)(h:okP (bl.getD i (0,0)) (bl.getD (i+1) (0,0))=false):frB bl=false:=by
 unfold frB
 rw[eq_false_iff]
 intro z
 rw[all_eq_true]at z
 rw[z i (mem_range.mpr hi)]at h
 cases h
theorem frB_yes {bl:List (Int×Int)}(h:∀i,i<bl.length - 1→okP (bl.getD i (0,0)) (bl.getD (i+1) (0,0))=true):frB bl=true:=by
 unfold frB
 rw[all_eq_true]
 exact fun i hi=>h i (mem_range.mp hi)
def spFree:Sp:=fun vs H Q _=>∃(a:Addr) (row:List Int),vs=[.ref a]∧H a=some (.tup (row.map V.int))∧row.Pairwise (· < ·)∧row.length≤12∧∀H',Same H H'→Q (.bl (frB (BB.blk row))) H'
section
variable {P:Program}{w:World}{K:W.Frag}{mg:Str→Option Value}{base:Heap}
theorem ok_is_free {f:Addr}{fd:FuncData}(F:Fun K "is_free" "is_free" s_is_free f fd)(nb:Nb2 mg)(h_blocks_in:Has P w K mg base 1 "blocks_in" ["row"] spBin)  :
 FnOk P w K mg base CX0 2 f fd ["row"] spFree:=by
 have nd:=sc_is_free.nd
 refine F.ok (k:=1) sc_is_free (fun vs H Q E h=>?_) (fun cdv A outer s H vs Q E hr h=>?_)
 ·obtain⟨a,row,rfl,_⟩:=h
  rfl
 obtain⟨a,row,rfl,ha,up,r12,q⟩:=h
 refine⟨_,(pss_cons (ps_set (i:=1) nd rfl (Or.inl rfl) (pe_def h_blocks_in hr (pa_cons (pv 0) pa_nil)))
(pss_cons (ps_for PassesOwn.never rfl (pi_zip false rfl nb.zip (pa_cons (pv 1) (pa_cons (pe_slice sl_list (pv 1) (po_some pe_int) po_none) pa_nil))) (pg_tup rfl (pgs_cons (pg_tup rfl (pgs_cons (pg_name (i:=2) nd rfl (Or.inl rfl)) (pgs_cons (pg_name (i:=3) nd rfl (Or.inl rfl)) pgs_nil))) (pgs_cons (pg_tup rfl (pgs_cons (pg_name (i:=4) nd rfl (Or.inl rfl)) (pgs_cons (pg_name (i:=5) nd rfl (Or.inl rfl)) pgs_nil))) pgs_nil)))
(pss_one (ps_if (PW.pt (pw_or (pt_cmpR op_lt (pv 5) (pv 3) (nomark _)) (pw_or1 (pt_cmpR op_lt (pe_op op_sub (pe_op op_sub (pv 4) (pv 2)) (pv 3)) (pv 3) (nomark _)))))
(pss_one (ps_ret pe_bl))
pss_nil)))
(pss_one (ps_ret pe_bl)))),?_⟩
 refine⟨_,rfl,a,row,rfl,ha,up,r12,fun r ys H1 s1 hr1 tp=>?_⟩
 have bl:=blk_len row
 refine⟨_,rfl,_,rfl,_,rfl,r,ys,rfl,SqL.of hr1,fun p hp=>?_⟩
 have s2:=same_new hp (.lst (cutV ys (some 1) none))
 have hp2:(upd H1 p (.lst (cutV ys (some 1) none))) p=some (.lst (ys.drop 1)):=by rw[upd_same,show((1:Int))=((1:Nat):Int) from rfl,cut_from]
 have hr2:=s2 _ _ hr1
 have tp2:=tp.same s2
 have S2:=s1.trans s2
 refine⟨r,p,_,_,rfl,SqL.of hr2,SqL.of hp2,?_⟩
 generalize upd H1 p (.lst (cutV ys (some 1) none))=H2 at hp2 hr2 tp2 S2 ⊢
 have hn:min ys.length (ys.drop 1).length=(BB.blk row).length - 1:=by rw[length_drop,tp.1];omega
 refine for_items ((BB.blk row).length - 1) (fun i H' x=>∃p x' y',x=.ref p∧H' p=some (.tup [x',y'])∧ys[i]?=some x'∧(ys.drop 1)[i]?=some y')
  (fun i σ H'=>Same H2 H'∧(∀j,j<i→okP ((BB.blk row).getD j (0,0)) ((BB.blk row).getD (j+1) (0,0))=true)∧∃o2 o3 o4 o5,σ=[some (.ref a),some (.ref r),o2,o3,o4,o5])
  ⟨Same.refl _,fun j hj=>by omega,_,_,_,_,rfl⟩ (fun i σ H' hi hp=>?_) (fun i x σ H' H3 hi hp s3 im=>?_) (fun σ H' hp=>?_)
 ·have z:=items_zipL (K:=K) (hp.1 _ _ hr2) (hp.1 _ _ hp2) i H' (Same.refl _)
  rw[hn]at z
  exact z
 ·obtain⟨sm,al,o2,o3,o4,o5,rfl⟩:=hp
  obtain⟨q0,x',y',rfl,hq,hx,hy⟩:=im
  have sm3:=sm.trans s3
  have gb:=List.getElem?_eq_getElem (show i<(BB.blk row).length by omega)
  have gc:=List.getElem?_eq_getElem (show i+1<(BB.blk row).length by omega)
  obtain⟨p1,e1,h1⟩:=tp2.2 i _ gb
  obtain⟨p2,e2,h2⟩:=tp2.2 (i+1) _ gc
  rw[e1]at hx
  cases hx
  rw[getElem?_drop,Nat.add_comm,e2]at hy
  cases hy
  have db:(BB.blk row).getD i (0,0)=(BB.blk row)[i]'(by omega):=by rw[getD_eq_getElem?_getD,gb];rfl
  have dc:(BB.blk row).getD (i+1) (0,0)=(BB.blk row)[i+1]'(by omega):=by rw[getD_eq_getElem?_getD,gc];rfl
  generalize(BB.blk row)[i]'(by omega)=b at h1 db
  generalize(BB.blk row)[i+1]'(by omega)=c at h2 dc
  have bad:okP b c=false→Q (.bl false) H3:=fun z=>by
   have y:=q H3 (S2.trans sm3)
   rw[frB_no (i:=i) hi (by rw[db,dc];exact z)]at y
   exact y
  refine⟨q0,_,rfl,SqT.of hq,rfl,_,_,rfl,p1,_,rfl,SqT.of (sm3 _ _ h1),rfl,_,_,rfl,_,_,rfl,rfl,_,_,rfl,p2,_,rfl,SqT.of (sm3 _ _ h2),rfl,_,_,rfl,_,_,rfl,rfl,rfl,?_⟩
  refine⟨_,rfl,_,rfl,_,_,rfl,rfl,_,rfl,?_⟩
  refine ite2 (fun d1=>?_) (fun d1=>?_)
  ·exact iteT (bad (by unfold okP;rw[d1];rfl))
  ·refine⟨_,rfl,_,rfl,_,_,rfl,rfl,_,rfl,_,_,rfl,rfl,_,rfl,_,_,rfl,rfl,_,rfl,?_⟩
   refine ite2 (fun d2=>?_) (fun d2=>?_)
   ·exact bad (by unfold okP;rw[d2,Bool.or_true];rfl)
   ·refine⟨sm3,fun j hj=>?_,_,_,_,_,rfl⟩
    by_cases z:j=i
    ·subst z
     rw[db,dc]
     unfold okP
     rw[eq_false_iff.mpr d1,eq_false_iff.mpr d2]
     rfl
    ·exact al j (by omega)
 ·obtain⟨sm,al,o2,o3,o4,o5,rfl⟩:=hp
  have y:=q H' (S2.trans sm)
  rw[frB_yes al]at y
  exact y
end
end K93
namespace K93
open L2
structure Far (row:List Int):Prop where
 len:row.length≤12
 up:row.Pairwise (· < ·)
 bd:∀p∈row,-1000000000≤p∧p≤1000000000
def frAt (row:List Int)(j:Nat):Bool:=frB (BB.blk (BB.it (BB.step row.length) j row))
def ftF (row:List Int):Option Nat:=(List.range 61).find? (frAt row)
theorem ft_none {row:List Int}(h:∀j,j<61→frAt row j=false):ftF row=none:=by
 unfold ftF
 rw[find?_eq_none]
 intro j hj
 rw[h j (mem_range.mp hj)]
 exact Bool.false_ne_true
theorem ft_some {row:List Int}{i:Nat}(hi:i<61)(h:∀j,j<i→frAt row j=false)(e:frAt row i=true):ftF row=some i:=by
 unfold ftF
 rw[List.find?_range_eq_some]
 refine⟨e,mem_range.mpr hi,fun j hj=>?_⟩
 rw[h j hj]
 rfl
theorem ft_out {row:List Int}(h:ftF row=none){j:Nat}(hj:j<61):frAt row j=false:=by
 unfold ftF at h
 rw[find?_eq_none]at h
 exact eq_false_iff.mpr (h j (mem_range.mpr hj))
theorem Far.rw2 {row:List Int}(h:Far row):BB.Rw row row.length (-2000000000) 2000000000:=⟨h.up,rfl,fun p hp=>by have:=h.bd p hp;omega⟩
theorem far_ok {row:List Int}(h:Far row){i:Nat}(hi:i<61):Ok (BB.it (BB.step row.length) i row) row.length:=(ok_bound h.rw2 h.len i (by omega) (by omega) (by omega) row.length).1
def spUntil:Sp:=fun vs H Q _=>∃(a:Addr) (row:List Int) (m:Nat),vs=[.ref a]∧H a=some (.tup (row.map V.int))∧Far row∧ftF row=some m∧
 ∀(r p:Addr) (H':Hp),Same H H'→H' r=some (.tup ((BB.it (BB.step row.length) m row).map V.int))→H' p=some (.tup [.int (m:Int),.ref r])→Q (.ref p) H'
def spUntilE (c2:Addr):Sp:=fun vs H Q E=>∃(a:Addr) (row:List Int),vs=[.ref a]∧H a=some (.tup (row.map V.int))∧Far row∧ftF row=none∧∀e H',Same H H'→H' e=none→E (.ref c2) (some e) H'
def spSteps:Sp:=fun vs H Q _=>∃(a:Addr) (row:List Int) (m:Nat),vs=[.ref a]∧H a=some (.tup (row.map V.int))∧Far row∧ftF row=some m∧∀H',Same H H'→Q (.int (m:Int)) H'
section
variable {P:Program}{w:World}{K:W.Frag}{mg:Str→Option Value}{base:Heap}{c2:Addr}{bm2:List Value}
theorem ok_until_free {f:Addr}{fd:FuncData}(F:Fun K "until_free" "until_free" s_until_free f fd)(nb:Nb2 mg)(h_is_free:Has P w K mg base 2 "is_free" ["row"] spFree)(h_carried:Has P w K mg base 2 "carried" ["row"] spCar)(c_MOST_TO_FREE:∃u,mg "MOST_TO_FREE" = some u∧RelV (.int 60) u) :
 FnOk P w K mg base CX0 3 f fd ["row"] spUntil:=by
 have nd:=sc_until_free.nd
 refine F.ok (k:=2) sc_until_free (fun vs H Q E h=>?_) (fun cdv A outer s H vs Q E hr h=>?_)
 ·obtain⟨a,row,m,rfl,_⟩:=h
  rfl
 obtain⟨a,row,m,rfl,ha,fa,ft,q⟩:=h
 refine⟨_,(pss_cons (ps_set (i:=1) nd rfl (Or.inl rfl) (pv 0))
(pss_cons (ps_for PassesOwn.never rfl (pi_range1 rfl nb.range (pa_cons (pe_op op_add (pe_const c_MOST_TO_FREE) pe_int) pa_nil)) (pg_name (i:=2) nd rfl (Or.inl rfl))
(pss_cons (ps_if (pt_truth (pe_def h_is_free hr (pa_cons (pv 1) pa_nil)) (fun _=>rfl))
(pss_one (ps_ret (pe_tup (pa_cons (pv 2) (pa_cons (pv 1) pa_nil)))))
pss_nil)
(pss_one (ps_set (i:=1) nd rfl (Or.inl rfl) (pe_def h_carried hr (pa_cons (pv 1) pa_nil))))))
(pss_one ps_never))),?_⟩
 refine⟨_,rfl,?_⟩
 refine⟨_,_,rfl,rfl,_,rfl,by decide,by decide,?_⟩
 refine for_range (fun i σ H'=>Same H H'∧(∀j,j<i→frAt row j=false)∧∃r o2,σ=[some (.ref a),some (.ref r),o2]∧H' r=some (.tup ((BB.it (BB.step row.length) i row).map V.int))) ⟨Same.refl H,fun j hj=>by omega,a,_,rfl,ha⟩ (fun i σ H' hi hp=>?_) (fun σ H' hp=>?_)
 ·obtain⟨sm,al,r,o2,rfl,hr1⟩:=hp
  have i61:i<61:=hi
  have ok:=far_ok fa i61
  refine⟨_,rfl,r,_,rfl,hr1,ok.1.up,by have:=ok.1.len;have:=fa.len;omega,fun H1 s1=>?_⟩
  generalize hf:frB (BB.blk (BB.it (BB.step row.length) i row))=fb
  have hf':frAt row i=fb:=hf
  cases fb with
  |true=>
   refine⟨_,rfl,iteT ?_⟩
   have em:m=i:=by
    have:=ft_some i61 al hf'
    rw[ft]at this
    exact Option.some.inj this
   subst em
   refine⟨_,rfl,_,rfl,(by show 2≤sizeLine;decide),fun p hp=>?_⟩
   have s2:=same_new hp (.tup [.int (0+(m:Int)),.ref r])
   exact q r p _ (sm.trans (s1.trans s2)) (s2 _ _ (s1 _ _ hr1)) (by rw[upd_same,Int.zero_add])
  |false=>
   refine⟨_,rfl,iteF ?_⟩
   refine⟨_,rfl,r,_,row.length,rfl,s1 _ _ hr1,ok,fun r2 H2 s2 h2=>?_⟩
   refine⟨sm.trans (s1.trans s2),fun j hj=>?_,r2,_,rfl,h2⟩
   by_cases z:j=i
   ·rw[z];exact hf'
   ·exact al j (by omega)
 ·obtain⟨sm,al,r,o2,rfl,hr1⟩:=hp
  have z:=ft_none (row:=row) fun j hj=>al j hj
  rw[ft]at z
  cases z
theorem ok_until_freeE {f:Addr}{fd:FuncData}(F:Fun K "until_free" "until_free" s_until_free f fd)(nb:Nb2 mg)(h_is_free:Has P w K mg base 2 "is_free" ["row"] spFree)(h_carried:Has P w K mg base 2 "carried" ["row"] spCar)(c_MOST_TO_FREE:∃u,mg "MOST_TO_FREE" = some u∧RelV (.int 60) u)(hm:mg "TooLong" = some (.ref c2))(ex:Exc K c2 bm2) :
 FnOk P w K mg base (CXF P w) 3 f fd ["row"] (spUntilE c2):=by
 have nd:=sc_until_free.nd
 refine F.okE (k:=2) sc_until_free (fun vs H Q E h=>?_) (fun cdv A outer s H vs Q E hr h=>?_)
 ·obtain⟨a,row,rfl,_⟩:=h
  rfl
 obtain⟨a,row,rfl,ha,fa,ft,q⟩:=h
 refine⟨_,(pss_cons (ps_set (i:=1) nd rfl (Or.inl rfl) (pv 0))
(pss_cons (ps_calm (ps_for PassesOwn.never rfl (pi_range1 rfl nb.range (pa_cons (pe_op op_add (pe_const c_MOST_TO_FREE) pe_int) pa_nil)) (pg_name (i:=2) nd rfl (Or.inl rfl))
(pss_cons (ps_if (pt_truth (pe_def h_is_free hr (pa_cons (pv 1) pa_nil)) (fun _=>rfl))
(pss_one (ps_ret (pe_tup (pa_cons (pv 2) (pa_cons (pv 1) pa_nil)))))
pss_nil)
(pss_one (ps_set (i:=1) nd rfl (Or.inl rfl) (pe_def h_carried hr (pa_cons (pv 1) pa_nil)))))))
(pss_one (ps_raise lvs_cx rfl rfl hm ex (pa_cons (pe_fstr (pj_str (pj_int (pe_const c_MOST_TO_FREE) (pj_str pj_nil)))) pa_nil))))),?_⟩
 refine⟨_,rfl,?_⟩
 refine⟨_,_,rfl,rfl,_,rfl,by decide,by decide,?_⟩
 refine for_range (fun i σ H'=>Same H H'∧(∀j,j<i→frAt row j=false)∧∃r o2,σ=[some (.ref a),some (.ref r),o2]∧H' r=some (.tup ((BB.it (BB.step row.length) i row).map V.int))) ⟨Same.refl H,fun j hj=>by omega,a,_,rfl,ha⟩ (fun i σ H' hi hp=>?_) (fun σ H' hp=>?_)
 ·obtain⟨sm,al,r,o2,rfl,hr1⟩:=hp
  have i61:i<61:=hi
  have ok:=far_ok fa i61
  refine⟨_,rfl,r,_,rfl,hr1,ok.1.up,by have:=ok.1.len;have:=fa.len;omega,fun H1 s1=>?_⟩
  generalize hf:frB (BB.blk (BB.it (BB.step row.length) i row))=fb
  have hf':frAt row i=fb:=hf
  cases fb with
  |true=>
   rw[ft_out ft i61]at hf'
   cases hf'
  |false=>
   refine⟨_,rfl,iteF ?_⟩
   refine⟨_,rfl,r,_,row.length,rfl,s1 _ _ hr1,ok,fun r2 H2 s2 h2=>?_⟩
   refine⟨sm.trans (s1.trans s2),fun j hj=>?_,r2,_,rfl,h2⟩
   by_cases z:j=i
   ·rw[z];exact hf'
   ·exact al j (by omega)
 ·obtain⟨sm,al,r,o2,rfl,hr1⟩:=hp
  refine⟨by decide +kernel,60,rfl,by decide +kernel,by decide +kernel,by decide +kernel,by decide +kernel,by decide +kernel,?_⟩
  exact fun e he=>q e H' sm he
theorem ok_steps_to_free {f:Addr}{fd:FuncData}(F:Fun K "steps_to_free" "steps_to_free" s_steps_to_free f fd)(nb:Nb2 mg)(h_until_free:Has P w K mg base 3 "until_free" ["row"] spUntil)  :
 FnOk P w K mg base CX0 4 f fd ["row"] spSteps:=by
 have nd:=sc_steps_to_free.nd
 refine F.ok (k:=3) sc_steps_to_free (fun vs H Q E h=>?_) (fun cdv A outer s H vs Q E hr h=>?_)
 ·obtain⟨a,row,m,rfl,_⟩:=h
  rfl
 obtain⟨a,row,m,rfl,ha,fa,ft,q⟩:=h
 refine⟨_,(pss_cons (ps_asg (pe_def h_until_free hr (pa_cons (pv 0) pa_nil)) (pg_tup rfl (pgs_cons (pg_name (i:=1) nd rfl (Or.inl rfl)) (pgs_cons (pg_name (i:=2) nd rfl (Or.inl rfl)) pgs_nil))))
(pss_one (ps_ret (pv 1)))),?_⟩
 refine⟨_,rfl,a,row,m,rfl,ha,fa,ft,fun r p H1 s1 h1 h2=>?_⟩
 refine⟨p,_,rfl,SqT.of h2,rfl,_,_,rfl,_,_,rfl,rfl,?_⟩
 exact⟨_,rfl,q H1 s1⟩
theorem ok_steps_to_freeE {f:Addr}{fd:FuncData}(F:Fun K "steps_to_free" "steps_to_free" s_steps_to_free f fd)(hE_until:HasE P w K mg base 3 "until_free" ["row"] (spUntilE c2)) :
 FnOk P w K mg base (CXF P w) 4 f fd ["row"] (spUntilE c2):=by
 have nd:=sc_steps_to_free.nd
 refine F.okE (k:=3) sc_steps_to_free (fun vs H Q E h=>?_) (fun cdv A outer s H vs Q E hr h=>?_)
 ·obtain⟨a,row,rfl,_⟩:=h
  rfl
 obtain⟨a,row,rfl,ha,fa,ft,q⟩:=h
 refine⟨_,(pss_cons (ps_asg (pe_defE hE_until lvs_cx hr (pa_cons (pv 0) pa_nil)) (pg_tup rfl (pgs_cons (pg_name (i:=1) nd rfl (Or.inl rfl)) (pgs_cons (pg_name (i:=2) nd rfl (Or.inl rfl)) pgs_nil)))) pss_never),?_⟩
 exact⟨_,rfl,a,row,rfl,ha,fa,ft,q⟩
end
end K93
namespace K93
open L2
def spNeedE (c0:Addr):Sp:=fun vs H Q E=>∃(v lo hi:Int),vs=[.int v,.int lo,.int hi]∧(lo=-60∧hi=60∨lo=1∧hi=12)∧numB lo hi (.int v)=false∧∀e,H e=none→E (.ref c0) (some e) H
def spOddE (c0:Addr)(lo hi:Int):Sp:=fun vs H Q E=>∃(a:Addr) (v:Int),vs=[.ref a,.int v]∧numB lo hi (.int v)=false∧∀e,H e=none→E (.ref c0) (some e) H
section
variable {P:Program}{w:World}{K:W.Frag}{mg:Str→Option Value}{base:Heap}{c0:Addr}{bm0:List Value}
theorem ok_need_numberE {f:Addr}{fd:FuncData}(F:Fun K "need_number" "need_number" s_need_number f fd)(h_is_number:Has P w K mg base 1 "is_number" ["thing","least","greatest"] spNum)(hm:mg "NoNumber" = some (.ref c0))(ex:Exc K c0 bm0) :
 FnOk P w K mg base (CXF P w) 2 f fd ["thing","least","greatest"] (spNeedE c0):=by
 have nd:=sc_need_number.nd
 refine F.okE (k:=1) sc_need_number (fun vs H Q E h=>?_) (fun cdv A outer s H vs Q E hr h=>?_)
 ·obtain⟨v,lo,hi,rfl,_⟩:=h
  rfl
 obtain⟨v,lo,hi,rfl,lh,nm,q⟩:=h
 refine⟨_,(pss_one (ps_if (pt_not (pt_truth (pe_def h_is_number hr (pa_cons (pv 0) (pa_cons (pv 1) (pa_cons (pv 2) pa_nil)))) (fun _=>rfl)))
  (pss_one (ps_raise lvs_cx rfl rfl hm ex (pa_cons (pe_fstr (pj_str (pj_int (pv 1) (pj_str (pj_int (pv 2) (pj_str pj_nil)))))) pa_nil)))
  pss_nil)),?_⟩
 refine⟨_,rfl,_,rfl,_,rfl,.int v,"int",lo,hi,rfl,.int v,_,rfl,?_⟩
 rw[nm]
 refine iteT ?_
 clear nm
 rcases lh with⟨rfl,rfl⟩ | ⟨rfl,rfl⟩
 all_goals
  refine⟨by decide +kernel,_,rfl,_,rfl,by decide +kernel,by decide +kernel,by decide +kernel,_,rfl,_,rfl,by decide +kernel,by decide +kernel,by decide +kernel,by decide +kernel,by decide +kernel,?_⟩
  exact q
theorem ok_laterE {f:Addr}{fd:FuncData}(F:Fun K "later" "later" s_later f fd)(h_need_number:HasE P w K mg base 2 "need_number" ["thing","least","greatest"] (spNeedE c0))(c_MOST_STEPS:∃u,mg "MOST_STEPS" = some u∧RelV (.int 60) u) :
 FnOk P w K mg base (CXF P w) 3 f fd ["row","steps"] (spOddE c0 (-60) 60):=by
 have nd:=sc_later.nd
 refine F.okE (k:=2) sc_later (fun vs H Q E h=>?_) (fun cdv A outer s H vs Q E hr h=>?_)
 ·obtain⟨a,v,rfl,_⟩:=h
  rfl
 obtain⟨a,v,rfl,nm,q⟩:=h
 refine⟨_,(pss_cons (ps_expr (pe_defE h_need_number lvs_cx hr (pa_cons (pv 1) (pa_cons (pe_un un_neg (pe_const c_MOST_STEPS)) (pa_cons (pe_const c_MOST_STEPS) pa_nil))))) pss_never),?_⟩
 exact⟨_,rfl,_,rfl,v,-60,60,rfl,.inl ⟨rfl,rfl⟩,nm,q⟩
theorem ok_carried_byE {f:Addr}{fd:FuncData}(F:Fun K "carried_by" "carried_by" s_carried_by f fd)(h_need_number:HasE P w K mg base 2 "need_number" ["thing","least","greatest"] (spNeedE c0))(c_GREATEST_SIZE:∃u,mg "GREATEST_SIZE" = some u∧RelV (.int 12) u) :
 FnOk P w K mg base (CXF P w) 3 f fd ["row","size"] (spOddE c0 1 12):=by
 have nd:=sc_carried_by.nd
 refine F.okE (k:=2) sc_carried_by (fun vs H Q E h=>?_) (fun cdv A outer s H vs Q E hr h=>?_)
 ·obtain⟨a,v,rfl,_⟩:=h
  rfl
 obtain⟨a,v,rfl,nm,q⟩:=h
 refine⟨_,(pss_cons (ps_expr (pe_defE h_need_number lvs_cx hr (pa_cons (pv 1) (pa_cons pe_int (pa_cons (pe_const c_GREATEST_SIZE) pa_nil))))) pss_never),?_⟩
 exact⟨_,rfl,v,1,12,rfl,.inr ⟨rfl,rfl⟩,nm,q⟩
end
end K93
namespace K93
open L2
open BB (lens outs)
def wordsT (ns:List Int):Str:=if ns=[] then NOB else Str.join (Str.ofString " ") (ns.map numT)
def Few (ns:List Int):Prop:=ns.length≤12∧∀n∈ns,0≤n∧n≤1000
def spNtT:Sp:=fun vs H Q _=>∃(a:Addr) (ns:List Int),vs=[.ref a]∧H a=some (.tup (ns.map V.int))∧Few ns∧∀H',Same H H'→Q (.str (wordsT ns)) H'
def spNtL:Sp:=fun vs H Q _=>∃(a:Addr) (ns:List Int),vs=[.ref a]∧H a=some (.lst (ns.map V.int))∧Few ns∧∀H',Same H H'→Q (.str (wordsT ns)) H'
theorem few_fit {ns:List Int}(h:Few ns):(ns.map numT).toArray.foldl (fun a p=>a+p.length+(Str.ofString " ").length) 0≤1000∧(Str.join (Str.ofString " ") (ns.map numT)).length≤1000:=by
 have sm:∀(l:List Int),(∀n∈l,0≤n∧n≤1000)→((l.map numT).map (·.length)).sum≤11*l.length:=by
  intro l
  induction l with
  |nil=>intro _;simp
  |cons n l ih=>
   intro h
   have b:=h n mem_cons_self
   have:=num_len (n:=n) (by omega)
   have:=ih fun m hm=>h m (mem_cons_of_mem _ hm)
   simp only[map_cons,sum_cons,length_cons]
   omega
 have s:=sm ns h.2
 have l1:(Str.ofString " ").length=1:=by decide +kernel
 have l12:=h.1
 have jl:=StrLaws.join_length_le (Str.ofString " ") (ns.map numT)
 rw[l1,length_map]at jl
 refine⟨?_,by omega⟩
 rw[StrLaws.joinTotal,l1,length_map]
 omega
theorem range_words (ns:List Int):((List.range ns.length).map fun i=>V.str (numT (ns.getD i 0)))=(ns.map numT).map V.str:=by
 refine List.ext_getElem (by simp) fun i h1 h2=>?_
 simp only[length_map,length_range]at h1
 simp[getD_eq_getElem?_getD,List.getElem?_eq_getElem h1]
def freeT (m:Nat):Str:=if m=0 then Str.ofString "yes" else numT (m:Int)
def yesT (b:Bool):Str:=if b then Str.ofString "yes" else Str.ofString "no"
def AnsR (c2:Addr)(x:Str)(rs:List V)(H:Hp)(Q:VK)(E:XK):Prop:=
 (∃(r:Addr) (row:List Int),rs=[.ref r]∧H r=some (.tup (row.map V.int))∧
  ((x=Str.ofString "lengths"∧row.length≤12∧∀H',Same H H'→Q (.str (wordsT (lens (outs row.length row)))) H')∨
   (x=Str.ofString "takings"∧Ok row row.length∧∀H',Same H H'→Q (.str (wordsT (tks row.length row))) H')∨
   (x=Str.ofString "free"∧Far row∧(∀m,ftF row=some m→∀H',Same H H'→Q (.str (freeT m)) H')∧(ftF row=none→Refuse H E c2))∨
   (x=Str.ofString "show"∧Wr row∧∀H',Same H H'→Q (.str (rowTxt row)) H')))∨
 (x=Str.ofString "alike"∧∃(r1 r2:Addr) (row1 row2:List Int),rs=[.ref r1,.ref r2]∧H r1=some (.tup (row1.map V.int))∧H r2=some (.tup (row2.map V.int))∧row1.length≤12∧row2.length≤12∧
  ∀H',Same H H'→Q (.str (yesT (decide (lens (outs row1.length row1)=lens (outs row2.length row2))))) H')
def spAns (c2:Addr):Sp:=fun vs H Q E=>∃(x:Str) (g:Addr) (rs:List V),vs=[.str x,.ref g]∧H g=some (.lst rs)∧AnsR c2 x rs H Q E
def KeepR (c0:Addr)(x:Str)(gs:List V)(H:Hp)(Q:VK)(E:XK):Prop:=
 (x=Str.ofString "row"∧∃r:V,gs=[r]∧Q r H)∨
 (x=Str.ofString "peel"∧∃(r:Addr) (row:List Int),gs=[.ref r]∧H r=some (.tup (row.map V.int))∧row.length≤12∧∀(r':Addr) (H':Hp),Same H H'→H' r'=some (.tup ((BB.peel row).map V.int))→Q (.ref r') H')∨
 (∃(r:Addr) (row:List Int) (v:Int),gs=[.ref r,.int v]∧H r=some (.tup (row.map V.int))∧Far row∧
  ((x=Str.ofString "later"∧(numB (-60) 60 (.int v)=true→∀(r':Addr) (H':Hp),Same H H'→H' r'=some (.tup ((BB.lat row.length v row).map V.int))→Q (.ref r') H')∧(numB (-60) 60 (.int v)=false→Refuse H E c0))∨
   (x=Str.ofString "small"∧(numB 1 12 (.int v)=true→∀(r':Addr) (H':Hp),Same H H'→H' r'=some (.tup ((BB.step v.toNat row).map V.int))→Q (.ref r') H')∧(numB 1 12 (.int v)=false→Refuse H E c0))))
def spKeep (c0:Addr):Sp:=fun vs H Q E=>∃(x:Str) (g:Addr) (gs:List V),vs=[.str x,.ref g]∧H g=some (.lst gs)∧KeepR c0 x gs H Q E
theorem numB_int {lo hi v:Int}:numB lo hi (.int v)=true↔lo≤v∧v≤hi:=by
 unfold numB
 simp
theorem Far.ok {row:List Int}(h:Far row):Ok row row.length:=far_ok h (i:=0) (by decide)
theorem lens_few {row:List Int}(h:row.length≤12):Few (lens (outs row.length row)):=by
 have ol:∀(n:Nat) (r:List Int),(outs n r).length≤n∧∀c∈(outs n r).head?,c≤(r.length:Int):=by
  intro n
  induction n with
  |zero=>intro r;exact⟨Nat.le_refl _,fun c h=>by cases h⟩
  |succ n ih=>
   intro r
   unfold outs
   by_cases e:r=[]
   ·rw[if_pos e];exact⟨Nat.zero_le _,fun c h=>by cases h⟩
   ·rw[if_neg e]
    refine⟨Nat.succ_le_succ (ih _).1,fun c h=>?_⟩
    cases h
    omega
 obtain⟨o1,o2⟩:=ol row.length row
 have hd:((outs row.length row).headD 0).toNat≤12:=by
  cases e:outs row.length row with
  |nil=>show(0:Int).toNat≤12;decide
  |cons c cs=>
   have:=o2 c (by rw[e];rfl)
   show c.toNat≤12
   omega
 refine⟨by unfold lens;rw[length_map,length_range];exact hd,fun n hn=>?_⟩
 unfold lens at hn
 obtain⟨j,_,rfl⟩:=mem_map.mp hn
 have:=length_filter_le (fun c=>decide ((j:Int)<c)) (outs row.length row)
 omega
theorem tks_few {row:List Int}(h:row.length≤12):Few (tks row.length row):=by
 refine⟨by unfold tks;rw[length_map,length_range];exact h,fun n hn=>?_⟩
 unfold tks at hn
 obtain⟨i,_,rfl⟩:=mem_map.mp hn
 have:=BB.tkn_le (i+1) row 0 (row.headD 0)
 have e:BB.taken (i+1) row≤row.length:=by unfold BB.taken;exact BB.tkn_le _ _ _ _
 omega
section
variable {P:Program}{w:World}{K:W.Frag}{mg:Str→Option Value}{base:Heap}{c0 c2 c4:Addr}{bm4:List Value}
theorem ok_numbers_textL {f:Addr}{fd:FuncData}(F:Fun K "numbers_text" "numbers_text" s_numbers_text f fd)(nb:NbX mg)(c_NO_BALLS:∃u,mg "NO_BALLS" = some u∧RelV (.str NOB) u) :
 FnOk P w K mg base CX0 1 f fd ["numbers"] spNtL:=by
 have nd:=sc_numbers_text.nd
 refine F.ok (k:=0) sc_numbers_text (fun vs H Q E h=>?_) (fun cdv A outer s H vs Q E hr h=>?_)
 ·obtain⟨a,ns,rfl,_⟩:=h
  rfl
 obtain⟨a,ns,rfl,ha,fw,q⟩:=h
 refine⟨_,(pss_one (ps_ret (pe_ifExp (pt_truth (pv 0) (fun _=>rfl)) (pe_bm PySem.F.plainAttrs_str PySem.F.slot_str_join PySem.F.type_str_join mt_join pe_str (pa_cons (pe_comp1 (sc:=defScope s_numbers_text) (N0:=["numbers"]) (N:=[]) (js:=[]) rfl rfl rfl (by exact⟨rfl,by decide +kernel,by decide +kernel,by decide +kernel,rfl,rfl,by decide,by decide +kernel,by decide +kernel⟩) rfl
(pi_list (pv 0))
(fun _ _ _ _ _=>by exact pts_nil)
(fun _ _ _ _ _=>by exact(pe_callTy call_str_int rfl nb.str boot_str (pa_cons (pv 0) pa_nil)))) pa_nil)) (pe_const c_NO_BALLS)))),?_⟩
 cases ns with
 |nil=>exact⟨_,rfl,false,.inl ⟨_,SqL.of ha,rfl⟩,iteF (q H (Same.refl H))⟩
 |cons n0 rest=>
  refine⟨_,rfl,true,.inl ⟨_,SqL.of ha,rfl⟩,iteT ?_⟩
  refine⟨rfl,_,rfl,a,rfl,⟨_,SqL.of ha⟩,fun D hD=>?_⟩
  have few:=fw.1
  have ff:=few_fit fw
  refine comp_go (n0::rest).length (by rw[sizeLine_eq];omega) (fun i=>.str (numT ((n0::rest).getD i 0))) (fun σ=>∃o1,σ=[o1]) _ hD ⟨_,rfl⟩ (by have:=items_lst (K:=K) ha;rw[length_map]at this;exact this) (fun i x σ' H2 hi s2 im hσ R hR=>?_) (fun H1 s1 hD1=>?_)
  ·obtain⟨o1,rfl⟩:=hσ
   obtain rfl:=num_at im
   refine⟨_,rfl,_,rfl,?_,hR _ _ _ ⟨_,rfl⟩ (Same.refl _) rfl⟩
   have b:=fw.2 ((n0::rest).getD i 0) (by rw[getD_eq_getElem?_getD,List.getElem?_eq_getElem hi];exact getElem_mem hi)
   exact num_log (by omega)
  ·rw[range_words]at hD1
   refine⟨_,D,_,rfl,rfl,hD1,by rw[sizeLine_eq];omega,by rw[sizeLine_eq];omega,?_⟩
   have:=q H1 s1
   unfold wordsT at this
   rw[if_neg (by simp)]at this
   exact this
theorem ok_numbers_textT {f:Addr}{fd:FuncData}(F:Fun K "numbers_text" "numbers_text" s_numbers_text f fd)(nb:NbX mg)(c_NO_BALLS:∃u,mg "NO_BALLS" = some u∧RelV (.str NOB) u) :
 FnOk P w K mg base CX0 1 f fd ["numbers"] spNtT:=by
 have nd:=sc_numbers_text.nd
 refine F.ok (k:=0) sc_numbers_text (fun vs H Q E h=>?_) (fun cdv A outer s H vs Q E hr h=>?_)
 ·obtain⟨a,ns,rfl,_⟩:=h
  rfl
 obtain⟨a,ns,rfl,ha,fw,q⟩:=h
 refine⟨_,(pss_one (ps_ret (pe_ifExp (pt_truth (pv 0) (fun _=>rfl)) (pe_bm PySem.F.plainAttrs_str PySem.F.slot_str_join PySem.F.type_str_join mt_join pe_str (pa_cons (pe_comp1 (sc:=defScope s_numbers_text) (N0:=["numbers"]) (N:=[]) (js:=[]) rfl rfl rfl (by exact⟨rfl,by decide +kernel,by decide +kernel,by decide +kernel,rfl,rfl,by decide,by decide +kernel,by decide +kernel⟩) rfl
(pi_tup (pv 0))
(fun _ _ _ _ _=>by exact pts_nil)
(fun _ _ _ _ _=>by exact(pe_callTy call_str_int rfl nb.str boot_str (pa_cons (pv 0) pa_nil)))) pa_nil)) (pe_const c_NO_BALLS)))),?_⟩
 cases ns with
 |nil=>exact⟨_,rfl,false,.inr (.inl ⟨_,SqT.of ha,rfl⟩),iteF (q H (Same.refl H))⟩
 |cons n0 rest=>
  refine⟨_,rfl,true,.inr (.inl ⟨_,SqT.of ha,rfl⟩),iteT ?_⟩
  refine⟨rfl,_,rfl,a,rfl,⟨_,SqT.of ha⟩,fun D hD=>?_⟩
  have few:=fw.1
  have ff:=few_fit fw
  refine comp_go (n0::rest).length (by rw[sizeLine_eq];omega) (fun i=>.str (numT ((n0::rest).getD i 0))) (fun σ=>∃o1,σ=[o1]) _ hD ⟨_,rfl⟩ (by have:=items_tup (K:=K) ha;rw[length_map]at this;exact this) (fun i x σ' H2 hi s2 im hσ R hR=>?_) (fun H1 s1 hD1=>?_)
  ·obtain⟨o1,rfl⟩:=hσ
   obtain rfl:=num_at im
   refine⟨_,rfl,_,rfl,?_,hR _ _ _ ⟨_,rfl⟩ (Same.refl _) rfl⟩
   have b:=fw.2 ((n0::rest).getD i 0) (by rw[getD_eq_getElem?_getD,List.getElem?_eq_getElem hi];exact getElem_mem hi)
   exact num_log (by omega)
  ·rw[range_words]at hD1
   refine⟨_,D,_,rfl,rfl,hD1,by rw[sizeLine_eq];omega,by rw[sizeLine_eq];omega,?_⟩
   have:=q H1 s1
   unfold wordsT at this
   rw[if_neg (by simp)]at this
   exact this
theorem ok_answer {f:Addr}{fd:FuncData}(F:Fun K "answer" "answer" s_answer f fd)(nb:NbX mg)(h_lengths:Has P w K mg base 3 "lengths" ["row"] spLen)(h_takings:Has P w K mg base 2 "takings" ["row"] spTks)(h_numbers_text:Has P w K mg base 1 "numbers_text" ["numbers"] (orSp spNtL spNtT))(h_one_making:Has P w K mg base 4 "one_making" ["one","other"] spOm)(h_row_text:Has P w K mg base 1 "row_text" ["row"] spRowTextW)(hE_steps_to_free:HasE P w K mg base 4 "steps_to_free" ["row"] (orSp spSteps (spUntilE c2)))   :
 FnOk P w K mg base (CXF P w) 5 f fd ["word","given"] (spAns c2):=by
 have nd:=sc_answer.nd
 refine F.okE (k:=4) sc_answer (fun vs H Q E h=>?_) (fun cdv A outer s H vs Q E hr h=>?_)
 ·obtain⟨x,g,rs,rfl,_⟩:=h
  rfl
 obtain⟨x,g,rs,rfl,hg,h⟩:=h
 refine⟨_,(pss_cons (ps_if (pt_cmpR op_eq (pv 0) pe_str (nomark _))
(pss_one (ps_ret (pe_def h_numbers_text hr (pa_cons (pe_def h_lengths hr (pa_cons (pe_ix ix_list (pv 1) pe_int (fun _ _=>rfl)) pa_nil)) pa_nil))))
pss_nil)
(pss_cons (ps_if (pt_cmpR op_eq (pv 0) pe_str (nomark _))
(pss_one (ps_ret (pe_def h_numbers_text hr (pa_cons (pe_def h_takings hr (pa_cons (pe_ix ix_list (pv 1) pe_int (fun _ _=>rfl)) pa_nil)) pa_nil))))
pss_nil)
(pss_cons (ps_if (pt_cmpR op_eq (pv 0) pe_str (nomark _))
(pss_cons (ps_set (i:=2) nd rfl (Or.inl rfl) (pe_defE hE_steps_to_free lvs_cx hr (pa_cons (pe_ix ix_list (pv 1) pe_int (fun _ _=>rfl)) pa_nil)))
(pss_one (ps_ret (pe_ifExp (pt_truth (pv 2) (fun _=>rfl)) (pe_callTy call_str_int rfl nb.str boot_str (pa_cons (pv 2) pa_nil)) pe_str))))
pss_nil)
(pss_cons (ps_if (pt_cmpR op_eq (pv 0) pe_str (nomark _))
(pss_one (ps_ret (pe_ifExp (pt_truth (pe_def h_one_making hr (pa_cons (pe_ix ix_list (pv 1) pe_int (fun _ _=>rfl)) (pa_cons (pe_ix ix_list (pv 1) pe_int (fun _ _=>rfl)) pa_nil))) (fun _=>rfl)) pe_str pe_str)))
pss_nil)
(pss_one (ps_ret (pe_def h_row_text hr (pa_cons (pe_ix ix_list (pv 1) pe_int (fun _ _=>rfl)) pa_nil)))))))),?_⟩
 have no:∀{y z:Str},y≠z→decide (V.str y=V.str z)=false:=fun n=>decide_eq_false fun e=>n (V.str.inj e)
 refine⟨_,rfl,rfl,_,rfl,?_⟩
 rcases h with⟨r,row,rfl,hr0,⟨rfl,l12,q⟩ | ⟨rfl,ok,q⟩ | ⟨rfl,far,q1,q2⟩ | ⟨rfl,wd,q⟩⟩ | ⟨rfl,r1,r2,row1,row2,rfl,h1,h2,l1,l2,q⟩
 ·have i0:atI [V.ref r] ((0:Nat):Int)=some (V.ref r):=atI_nat rfl
  rw[decide_eq_true rfl]
  exact iteT ⟨_,rfl,g,_,_,_,rfl,rfl,SqL.of hg,i0,r,row,rfl,hr0,l12,fun r2 H2 s2 h2=>.inr ⟨r2,_,rfl,h2,lens_few l12,fun H3 s3=>q H3 (s2.trans s3)⟩⟩
 ·have i0:atI [V.ref r] ((0:Nat):Int)=some (V.ref r):=atI_nat rfl
  rw[no (by decide +kernel)]
  refine iteF ⟨_,rfl,rfl,_,rfl,?_⟩
  rw[decide_eq_true rfl]
  exact iteT ⟨_,rfl,g,_,_,_,rfl,rfl,SqL.of hg,i0,r,row,row.length,rfl,hr0,ok,fun r2 H2 s2 h2=>.inl ⟨r2,_,rfl,h2,tks_few ok.2,fun H3 s3=>q H3 (s2.trans s3)⟩⟩
 ·have i0:atI [V.ref r] ((0:Nat):Int)=some (V.ref r):=atI_nat rfl
  rw[no (by decide +kernel)]
  refine iteF ⟨_,rfl,rfl,_,rfl,?_⟩
  rw[no (by decide +kernel)]
  refine iteF ⟨_,rfl,rfl,_,rfl,?_⟩
  rw[decide_eq_true rfl]
  refine iteT ⟨_,rfl,g,_,_,_,rfl,rfl,SqL.of hg,i0,?_⟩
  cases e:ftF row with
  |none=>exact .inr ⟨r,row,rfl,hr0,far,e,q2 e⟩
  |some m=>
   refine .inl ⟨r,row,m,rfl,hr0,far,e,fun H2 s2=>⟨_,rfl,!decide (m=0),?_,?_⟩⟩
   ·show(!decide (m=0))=((m:Int) !=0)
    by_cases z:m=0
    ·rw[z];rfl
    ·rw[decide_eq_false z];exact(bne_iff_ne.mpr (by omega:(m:Int)≠0)).symm
   ·have qq:=q1 m e H2 s2
    unfold freeT at qq
    by_cases z:m=0
    ·rw[if_pos z]at qq
     rw[decide_eq_true z]
     exact iteF qq
    ·rw[if_neg z]at qq
     rw[decide_eq_false z]
     have:m<61:=by
      unfold ftF at e
      exact mem_range.mp (List.mem_of_find?_eq_some e)
     exact iteT ⟨_,rfl,_,rfl,num_log (by omega),qq⟩
 ·have i0:atI [V.ref r] ((0:Nat):Int)=some (V.ref r):=atI_nat rfl
  rw[no (by decide +kernel)]
  refine iteF ⟨_,rfl,rfl,_,rfl,?_⟩
  rw[no (by decide +kernel)]
  refine iteF ⟨_,rfl,rfl,_,rfl,?_⟩
  rw[no (by decide +kernel)]
  refine iteF ⟨_,rfl,rfl,_,rfl,?_⟩
  rw[no (by decide +kernel)]
  exact iteF ⟨_,rfl,g,_,_,_,rfl,rfl,SqL.of hg,i0,r,row,rfl,hr0,wd,q⟩
 ·have i0:atI [V.ref r1,V.ref r2] ((0:Nat):Int)=some (V.ref r1):=atI_nat rfl
  have i1:atI [V.ref r1,V.ref r2] ((1:Nat):Int)=some (V.ref r2):=atI_nat rfl
  rw[no (by decide +kernel)]
  refine iteF ⟨_,rfl,rfl,_,rfl,?_⟩
  rw[no (by decide +kernel)]
  refine iteF ⟨_,rfl,rfl,_,rfl,?_⟩
  rw[no (by decide +kernel)]
  refine iteF ⟨_,rfl,rfl,_,rfl,?_⟩
  rw[decide_eq_true rfl]
  refine iteT ⟨_,rfl,g,_,_,_,rfl,rfl,SqL.of hg,i0,_,rfl,g,_,_,_,rfl,rfl,SqL.of hg,i1,r1,r2,row1,row2,rfl,h1,h2,l1,l2,fun H2 s2=>?_⟩
  have qq:=q H2 s2
  unfold yesT at qq
  refine⟨_,rfl,?_⟩
  cases e:decide (lens (outs row1.length row1)=lens (outs row2.length row2)) with
  |true=>rw[e]at qq;exact iteT qq
  |false=>rw[e]at qq;exact iteF qq
theorem ok_row_to_keep {f:Addr}{fd:FuncData}(F:Fun K "row_to_keep" "row_to_keep" s_row_to_keep f fd)(nb:NbX mg)(h_peeled:Has P w K mg base 2 "peeled" ["row"] spPeel)(hE_later:HasE P w K mg base 4 "later" ["row","steps"] (orSp spLater (spOddE c0 (-60) 60)))(hE_carried_by:HasE P w K mg base 3 "carried_by" ["row","size"] (orSp spCb (spOddE c0 1 12)))   :
 FnOk P w K mg base (CXF P w) 5 f fd ["word","given"] (spKeep c0):=by
 have nd:=sc_row_to_keep.nd
 refine F.okE (k:=4) sc_row_to_keep (fun vs H Q E h=>?_) (fun cdv A outer s H vs Q E hr h=>?_)
 ·obtain⟨x,g,gs,rfl,_⟩:=h
  rfl
 obtain⟨x,g,gs,rfl,hg,h⟩:=h
 refine⟨_,(pss_cons (ps_if (pt_cmpR op_eq (pv 0) pe_str (nomark _))
(pss_one (ps_ret (pe_defE hE_later lvs_cx hr (pa_cons (pe_ix ix_list (pv 1) pe_int (fun _ _=>rfl)) (pa_cons (pe_ix ix_list (pv 1) pe_int (fun _ _=>rfl)) pa_nil)))))
pss_nil)
(pss_cons (ps_if (pt_cmpR op_eq (pv 0) pe_str (nomark _))
(pss_one (ps_ret (pe_defE hE_carried_by lvs_cx hr (pa_cons (pe_ix ix_list (pv 1) pe_int (fun _ _=>rfl)) (pa_cons (pe_ix ix_list (pv 1) pe_int (fun _ _=>rfl)) pa_nil)))))
pss_nil)
(pss_cons (ps_if (pt_cmpR op_eq (pv 0) pe_str (nomark _))
(pss_one (ps_ret (pe_def h_peeled hr (pa_cons (pe_ix ix_list (pv 1) pe_int (fun _ _=>rfl)) pa_nil))))
pss_nil)
(pss_one (ps_ret (pe_ix ix_list (pv 1) pe_int (fun _ _=>rfl))))))),?_⟩
 have no:∀{y z:Str},y≠z→decide (V.str y=V.str z)=false:=fun n=>decide_eq_false fun e=>n (V.str.inj e)
 refine⟨_,rfl,rfl,_,rfl,?_⟩
 rcases h with⟨rfl,r,rfl,q⟩ | ⟨rfl,r,row,rfl,hr0,l12,q⟩ | ⟨r,row,v,rfl,hr0,far,⟨rfl,q1,q2⟩ | ⟨rfl,q1,q2⟩⟩
 ·have i0:atI [r] ((0:Nat):Int)=some r:=atI_nat rfl
  rw[no (by decide +kernel)]
  refine iteF ⟨_,rfl,rfl,_,rfl,?_⟩
  rw[no (by decide +kernel)]
  refine iteF ⟨_,rfl,rfl,_,rfl,?_⟩
  rw[no (by decide +kernel)]
  exact iteF ⟨_,rfl,g,_,_,_,rfl,rfl,SqL.of hg,i0,q⟩
 ·have i0:atI [V.ref r] ((0:Nat):Int)=some (V.ref r):=atI_nat rfl
  rw[no (by decide +kernel)]
  refine iteF ⟨_,rfl,rfl,_,rfl,?_⟩
  rw[no (by decide +kernel)]
  refine iteF ⟨_,rfl,rfl,_,rfl,?_⟩
  rw[decide_eq_true rfl]
  exact iteT ⟨_,rfl,g,_,_,_,rfl,rfl,SqL.of hg,i0,r,row,rfl,hr0,l12,q⟩
 ·have i0:atI [V.ref r,V.int v] ((0:Nat):Int)=some (V.ref r):=atI_nat rfl
  have i1:atI [V.ref r,V.int v] ((1:Nat):Int)=some (V.int v):=atI_nat rfl
  rw[decide_eq_true rfl]
  refine iteT ⟨_,rfl,g,_,_,_,rfl,rfl,SqL.of hg,i0,_,rfl,g,_,_,_,rfl,rfl,SqL.of hg,i1,?_⟩
  cases e:numB (-60) 60 (.int v) with
  |true=>
   have b:=numB_int.mp e
   exact .inl ⟨r,row,row.length,v,rfl,hr0,far.rw2,far.len,b.1,b.2,q1 e⟩
  |false=>exact .inr ⟨r,v,rfl,e,fun e' he=>q2 e e' H (Same.refl H) he⟩
 ·have i0:atI [V.ref r,V.int v] ((0:Nat):Int)=some (V.ref r):=atI_nat rfl
  have i1:atI [V.ref r,V.int v] ((1:Nat):Int)=some (V.int v):=atI_nat rfl
  rw[no (by decide +kernel)]
  refine iteF ⟨_,rfl,rfl,_,rfl,?_⟩
  rw[decide_eq_true rfl]
  refine iteT ⟨_,rfl,g,_,_,_,rfl,rfl,SqL.of hg,i0,_,rfl,g,_,_,_,rfl,rfl,SqL.of hg,i1,?_⟩
  cases e:numB 1 12 (.int v) with
  |true=>
   have b:=numB_int.mp e
   have ev:V.int ((v.toNat:Nat):Int)=V.int v:=by rw[Int.toNat_of_nonneg (by omega)]
   exact .inl ⟨r,row,row.length,v.toNat,by rw[ev];rfl,hr0,far.ok,by omega,by omega,q1 e⟩
  |false=>exact .inr ⟨r,v,rfl,e,fun e' he=>q2 e e' H (Same.refl H) he⟩
end
end K93
namespace K93
open L2
def mth (i:Nat):Stmt:=match top 57 with
 | .ClassDef _ _ _ body _ _ _ _ _ _ _=>body.getD i (.Pass ⟨0,0,0,0⟩)
 |s=>s
abbrev s___init__:Stmt:=mth 0
theorem sc___init__:FnScope ["self"] ["self"] (defScope s___init__):=⟨rfl,rfl,rfl,by decide +kernel,rfl,by decide +kernel,by decide +kernel⟩
abbrev s_row_of:Stmt:=mth 1
theorem sc_row_of:FnScope ["self","name"] ["self","name"] (defScope s_row_of):=⟨rfl,rfl,rfl,by decide +kernel,rfl,by decide +kernel,by decide +kernel⟩
abbrev s_say:Stmt:=mth 2
theorem sc_say:FnScope ["self","line","word","parts","given","names"] ["self","line"] (defScope s_say):=⟨rfl,rfl,rfl,by decide +kernel,rfl,by decide +kernel,by decide +kernel⟩
def DeskAt (C a d:Addr)(kvs:List (Key×V))(H:Hp):Prop:=∃dx,H a=some (.ins C dx [(Str.ofString "rows",.ref d)])∧H d=some (.dK kvs)
theorem DeskAt.same {C a d:Addr}{kvs:List (Key×V)}{H H':Hp}(h:DeskAt C a d kvs H)(s:Same H H'):DeskAt C a d kvs H':=by
 obtain⟨dx,h1,h2⟩:=h
 exact⟨dx,s _ _ h1,s _ _ h2⟩
theorem rows_fl {d:Addr}:([(Str.ofString "rows",V.ref d)]:List (Str×V)).lookup (Str.ofString "rows")=some (V.ref d):=by
 show(match(Str.ofString "rows"==Str.ofString "rows") with | true=>some (V.ref d) | false=>none)=_
 rw[show(Str.ofString "rows"==Str.ofString "rows")=true by decide +kernel]
theorem rows_no {d:Addr}:([(Str.ofString "rows",V.ref d)]:List (Str×V)).lookup (Str.ofString "row_of")=none:=by
 show(match(Str.ofString "row_of"==Str.ofString "rows") with | true=>some (V.ref d) | false=>none)=_
 rw[show(Str.ofString "row_of"==Str.ofString "rows")=false by decide +kernel]
theorem Val.good {H:Hp}{f z:Str}{v:V}(h:Val H f z v):Good f z:=by
 unfold Val at h
 unfold Good
 by_cases c1:f=Str.ofString "TEXT"
 ·rw[if_pos c1]at h ⊢
  obtain⟨r,row,_,_,wd,l12,e⟩:=h
  exact⟨row,wd,l12,e⟩
 rw[if_neg c1]at h ⊢
 by_cases c2:f=Str.ofString "K"
 ·rw[if_pos c2]at h ⊢
  obtain⟨n,_,n30,e⟩:=h
  exact⟨n,n30,e⟩
 rw[if_neg c2]at h ⊢
 exact h.2
def spInit (C:Addr):Sp:=fun vs H Q _=>∃a dx:Addr,vs=[.ref a]∧H a=some (.ins C dx [])∧∀(d:Addr),H d=none→Q .non (upd (upd H d (.dK [])) a (.ins C dx [(Str.ofString "rows",.ref d)]))
def spOf (C c3:Addr):Sp:=fun vs H Q E=>∃(a:Addr) (z:Str) (d:Addr) (kvs:List (Key×V)),vs=[.ref a,.str z]∧DeskAt C a d kvs H∧(∀v,valV kvs (Sum.inr z)=some v→Q v H)∧(valV kvs (Sum.inr z)=none→∀e,H e=none→E (.ref c3) (some e) H)
def BadLine (z:Str):Prop:=∃(x:Str) (rest:List Str),Txt.split z BLK=x::rest∧(∀y∈rest,y.length≤1900)∧
 match formsOf x with
 |none=>True
 |some fs=>fs.length≠rest.length∨∃(j:Nat) (f y:Str),fs[j]?=some f∧rest[j]?=some y∧¬Good f y
theorem bad_line {c4:Addr}{z:Str}{H:Hp}{Q:VK}{E:XK}(b:BadLine z)(rf:Refuse H E c4):LineR c4 z H Q E:=by
 obtain⟨x,rest,sp,r19,m⟩:=b
 refine⟨x,rest,sp,r19,?_⟩
 cases fo:formsOf x with
 |none=>exact rf
 |some fs=>
  rw[fo]at m
  dsimp only at m ⊢
  by_cases le:fs.length=rest.length
  ·rw[if_pos le]
   refine⟨fun _=>rf,fun tp L ys H' s' h1 h2 h3 all=>?_⟩
   rcases m with n | ⟨j,f,y,e1,e2,ng⟩
   ·exact absurd le n
   ·obtain⟨p,v,_,_,va⟩:=all j f y e1 e2
    exact absurd va.good ng
  ·rw[if_neg le]
   exact rf
def Gvn (H:Hp)(kvs:List (Key×V))(p:Str×Str)(v:V):Prop:=if p.1=Str.ofString "A" then valV kvs (Sum.inr p.2)=some v else Val H p.1 p.2 v
theorem Val.keep {H H':Hp}{f z:Str}{v:V}(k:∀r xs,H r=some (.tup xs)→H' r=some (.tup xs))(h:Val H f z v):Val H' f z v:=by
 unfold Val at h ⊢
 split
 ·rename_i c
  rw[if_pos c]at h
  obtain⟨r,row,a,b,c⟩:=h
  exact⟨r,row,a,k _ _ b,c⟩
 ·rename_i c
  rw[if_neg c]at h
  exact h
theorem Gvn.keep {H H':Hp}{kvs:List (Key×V)}{p:Str×Str}{v:V}(k:∀r xs,H r=some (.tup xs)→H' r=some (.tup xs))(h:Gvn H kvs p v):Gvn H' kvs p v:=by
 unfold Gvn at h ⊢
 split
 ·rename_i c
  rw[if_pos c]at h
  exact h
 ·rename_i c
  rw[if_neg c]at h
  exact h.keep k
theorem forms_few {x:Str}{fs:List Str}(h:formsOf x=some fs):fs.length≤3:=by
 unfold formsOf at h
 obtain⟨p,hp,rfl⟩:=Option.map_eq_some_iff.mp h
 exact(show ∀p∈formsL,p.2.length≤3 by decide +kernel) p (List.mem_of_find?_eq_some hp)
theorem paired_snoc {α β:Type}{F:α→β→Prop}:∀{l:List α} {m:List β} {x:α} {y:β},Paired F l m→F x y→Paired F (l++[x]) (m++[y])
 |_,_,_,_,.nil,h=>.cons h .nil
 |_,_,_,_,.cons a b,h=>.cons a (paired_snoc b h)
abbrev nN (p:Str×Str):Bool:=!decide (p.1=Str.ofString "N")
abbrev yN (p:Str×Str):Bool:=decide (p.1=Str.ofString "N")
theorem n_row {n t:Str}:List.filter nN [(Str.ofString "N",n),(Str.ofString "TEXT",t)]=[(Str.ofString "TEXT",t)]:=by
 rw[filter_cons_of_neg (by show ¬(!decide (Str.ofString "N" = Str.ofString "N"))=true;decide +kernel),filter_cons_of_pos (by show(!decide (Str.ofString "TEXT" = Str.ofString "N"))=true;decide +kernel),filter_nil]
theorem y_row {n t:Str}:List.filter yN [(Str.ofString "N",n),(Str.ofString "TEXT",t)]=[(Str.ofString "N",n)]:=by
 rw[filter_cons_of_pos (by show decide (Str.ofString "N" = Str.ofString "N")=true;decide +kernel),filter_cons_of_neg (by show ¬decide (Str.ofString "TEXT" = Str.ofString "N")=true;decide +kernel),filter_nil]
theorem n_one {n:Str}:List.filter nN [(Str.ofString "A",n)]=[(Str.ofString "A",n)]:=by
 rw[filter_cons_of_pos (by show(!decide (Str.ofString "A" = Str.ofString "N"))=true;decide +kernel),filter_nil]
theorem y_one {n:Str}:List.filter yN [(Str.ofString "A",n)]=[]:=by
 rw[filter_cons_of_neg (by show ¬decide (Str.ofString "A" = Str.ofString "N")=true;decide +kernel),filter_nil]
theorem n_num {n t m:Str}:List.filter nN [(Str.ofString "A",n),(Str.ofString "K",t),(Str.ofString "N",m)]=[(Str.ofString "A",n),(Str.ofString "K",t)]:=by
 rw[filter_cons_of_pos (by show(!decide (Str.ofString "A" = Str.ofString "N"))=true;decide +kernel),filter_cons_of_pos (by show(!decide (Str.ofString "K" = Str.ofString "N"))=true;decide +kernel),filter_cons_of_neg (by show ¬(!decide (Str.ofString "N" = Str.ofString "N"))=true;decide +kernel),filter_nil]
theorem y_num {n t m:Str}:List.filter yN [(Str.ofString "A",n),(Str.ofString "K",t),(Str.ofString "N",m)]=[(Str.ofString "N",m)]:=by
 rw[filter_cons_of_neg (by show ¬decide (Str.ofString "A" = Str.ofString "N")=true;decide +kernel),filter_cons_of_neg (by show ¬decide (Str.ofString "K" = Str.ofString "N")=true;decide +kernel),filter_cons_of_pos (by show decide (Str.ofString "N" = Str.ofString "N")=true;decide +kernel),filter_nil]
theorem n_two {n m:Str}:List.filter nN [(Str.ofString "A",n),(Str.ofString "A",m)]=[(Str.ofString "A",n),(Str.ofString "A",m)]:=by
 rw[filter_cons_of_pos (by show(!decide (Str.ofString "A" = Str.ofString "N"))=true;decide +kernel),filter_cons_of_pos (by show(!decide (Str.ofString "A" = Str.ofString "N"))=true;decide +kernel),filter_nil]
theorem y_two {n m:Str}:List.filter yN [(Str.ofString "A",n),(Str.ofString "A",m)]=[]:=by
 rw[filter_cons_of_neg (by show ¬decide (Str.ofString "A" = Str.ofString "N")=true;decide +kernel),filter_cons_of_neg (by show ¬decide (Str.ofString "A" = Str.ofString "N")=true;decide +kernel),filter_nil]
theorem n_peel {n m:Str}:List.filter nN [(Str.ofString "A",n),(Str.ofString "N",m)]=[(Str.ofString "A",n)]:=by
 rw[filter_cons_of_pos (by show(!decide (Str.ofString "A" = Str.ofString "N"))=true;decide +kernel),filter_cons_of_neg (by show ¬(!decide (Str.ofString "N" = Str.ofString "N"))=true;decide +kernel),filter_nil]
theorem y_peel {n m:Str}:List.filter yN [(Str.ofString "A",n),(Str.ofString "N",m)]=[(Str.ofString "N",m)]:=by
 rw[filter_cons_of_neg (by show ¬decide (Str.ofString "A" = Str.ofString "N")=true;decide +kernel),filter_cons_of_pos (by show decide (Str.ofString "N" = Str.ofString "N")=true;decide +kernel),filter_nil]
theorem KeepR.imp {c0:Addr}{x:Str}{gs:List V}{H:Hp}{Q Q':VK}{E:XK}(h:KeepR c0 x gs H Q E)(m:∀v H',Same H H'→Q v H'→Q' v H'):KeepR c0 x gs H Q' E:=by
 rcases h with⟨e,r,e2,q⟩ | ⟨e,r,row,e2,h1,l,q⟩ | ⟨r,row,v,e,h1,f,⟨e2,q1,q2⟩ | ⟨e2,q1,q2⟩⟩
 ·exact .inl ⟨e,r,e2,m _ _ (Same.refl H) q⟩
 ·exact .inr (.inl ⟨e,r,row,e2,h1,l,fun r' H' s h=>m _ _ s (q r' H' s h)⟩)
 ·exact .inr (.inr ⟨r,row,v,e,h1,f,.inl ⟨e2,fun b r' H' s h=>m _ _ s (q1 b r' H' s h),q2⟩⟩)
 ·exact .inr (.inr ⟨r,row,v,e,h1,f,.inr ⟨e2,fun b r' H' s h=>m _ _ s (q1 b r' H' s h),q2⟩⟩)
theorem names_fit {ms:List Str}(h:ms.length≤100)(h8:∀z∈ms,z.length≤8):ms.toArray.foldl (fun a p=>a+p.length+(Str.ofString " ").length) 0≤1000∧(Str.join (Str.ofString " ") ms).length≤1000:=by
 have sm:∀(l:List Str),(∀z∈l,z.length≤8)→(l.map (·.length)).sum≤8*l.length:=by
  intro l
  induction l with
  |nil=>intro _;simp
  |cons n l ih=>
   intro h
   have:=h n mem_cons_self
   have:=ih fun m hm=>h m (mem_cons_of_mem _ hm)
   simp only[map_cons,sum_cons,length_cons]
   omega
 have s:=sm ms h8
 have l1:(Str.ofString " ").length=1:=by decide +kernel
 have jl:=StrLaws.join_length_le (Str.ofString " ") ms
 rw[l1]at jl
 refine⟨?_,by omega⟩
 rw[StrLaws.joinTotal,l1]
 omega
def SayR (C c0 c2 c3 d:Addr)(kvs:List (Key×V))(x:Str)(rest fs:List Str)(H:Hp)(Q:VK)(E:XK):Prop:=
 (x=Str.ofString "row"∧∃n t:Str,rest=[n,t]∧kvs.length<100∧∀(H1:Hp) (r:Addr) (row:List Int),Same H H1→H1 r=some (.tup (row.map V.int))→t=rowTxt row→Wd row→row.length≤12→Q (.str "ok") (upd H1 d (.dK (putK kvs (Sum.inr n) (.ref r)))))∨
 (x=Str.ofString "kept"∧∃ns:List Str,kvs.map (·.1)=ns.map Sum.inr∧ns.length≤60∧(∀z∈ns,z.length≤8)∧∀(ms:List Str) (H':Hp),ms.Perm ns→sortedS ms=true→Same H H'→Q (.str (Str.join (Str.ofString " ") ms)) H')∨
 (x≠Str.ofString "kept"∧(∃(j:Nat) (n:Str),fs[j]?=some (Str.ofString "A")∧rest[j]?=some n∧valV kvs (Sum.inr n)=none)∧Refuse H E c3)∨
 (x≠Str.ofString "kept"∧fs=[Str.ofString "A"]∧∃(n:Str) (r:V),rest=[n]∧valV kvs (Sum.inr n)=some r∧∀H1:Hp,Same H H1→AnsR c2 x [r] H1 Q E)∨
 (x≠Str.ofString "kept"∧fs=[Str.ofString "A",Str.ofString "K",Str.ofString "N"]∧∃(n t n2:Str) (r:V),rest=[n,t,n2]∧kvs.length<100∧valV kvs (Sum.inr n)=some r∧
  ∀(H1:Hp) (v:Int),Same H H1→v.natAbs<10^30→t=numT v→KeepR c0 x [r,.int v] H1 (fun u H2=>Q (.str "ok") (upd H2 d (.dK (putK kvs (Sum.inr n2) u)))) E)∨
 (x≠Str.ofString "kept"∧fs=[Str.ofString "A",Str.ofString "A"]∧∃(n m:Str) (r r':V),rest=[n,m]∧valV kvs (Sum.inr n)=some r∧valV kvs (Sum.inr m)=some r'∧∀H1:Hp,Same H H1→AnsR c2 x [r,r'] H1 Q E)∨
 (x≠Str.ofString "kept"∧fs=[Str.ofString "A",Str.ofString "N"]∧∃(n n2:Str) (r:V),rest=[n,n2]∧kvs.length<100∧valV kvs (Sum.inr n)=some r∧
  ∀H1:Hp,Same H H1→KeepR c0 x [r] H1 (fun u H2=>Q (.str "ok") (upd H2 d (.dK (putK kvs (Sum.inr n2) u)))) E)
def spSay (C c0 c2 c3 c4:Addr):Sp:=fun vs H Q E=>∃(a:Addr) (v:V) (d:Addr) (kvs:List (Key×V)),vs=[.ref a,v]∧DeskAt C a d kvs H∧
 ((∃T,Kn H v T∧subT T "str" = false∧Refuse H E c4)∨∃z:Str,v=.str z∧z.length≤1900∧((BadLine z∧Refuse H E c4)∨
   ∃(x:Str) (rest fs:List Str),Txt.split z BLK=x::rest∧(∀y∈rest,y.length≤1900)∧formsOf x=some fs∧fs.length=rest.length∧(∀(j:Nat) (f y:Str),fs[j]?=some f→rest[j]?=some y→Good f y)∧SayR C c0 c2 c3 d kvs x rest fs H Q E))
section
variable {P:Program}{w:World}{K:W.Frag}{mg:Str→Option Value}{base:Heap}{C c0 c2 c3 c4:Addr}{bm3 bm4:List Value}
theorem ok___init__ {f:Addr}{fd:FuncData}(F:Fun K "__init__" "Desk.__init__" s___init__ f fd)(cl:Cls K C)(nr:NoAttr K C "rows")   :
 FnOk P w K mg base CX0 1 f fd ["self"] (spInit C):=by
 have nd:=sc___init__.nd
 refine F.ok (k:=0) sc___init__ (fun vs H Q E h=>?_) (fun cdv A outer s H vs Q E hr h=>?_)
 ·obtain⟨a,dx,rfl,_⟩:=h
  rfl
 obtain⟨a,dx,rfl,ha,q⟩:=h
 refine⟨_,(pss_one (ps_fld (pv 0) pe_dnewK rfl)),?_⟩
 intro d hd
 have ne:a≠d:=ne_of_none ha hd
 exact⟨_,rfl,a,C,dx,[],rfl,by rw[upd_ne ne];exact ha,cl,nr,by decide,q d hd⟩
theorem ok_row_of {f:Addr}{fd:FuncData}(F:Fun K "row_of" "Desk.row_of" s_row_of f fd)(nb:NbX mg)(hm:mg "NoRow" = some (.ref c3))(ex:Exc K c3 bm3)(cl:Cls K C)(nr:NoAttr K C "rows") :
 FnOk P w K mg base (CXF P w) 1 f fd ["self","name"] (spOf C c3):=by
 have nd:=sc_row_of.nd
 refine F.okE (k:=0) sc_row_of (fun vs H Q E h=>?_) (fun cdv A outer s H vs Q E hr h=>?_)
 ·obtain⟨a,z,d,kvs,rfl,_⟩:=h
  rfl
 obtain⟨a,z,d,kvs,rfl,de,h1,h2⟩:=h
 refine⟨_,(pss_cons (ps_if (pt_cmp (pc_dnotin (hu1 hr) (pv 1) (pe_fld (pv 0) rfl)))
(pss_one (ps_raise lvs_cx rfl rfl hm ex (pa_cons pe_str pa_nil)))
pss_nil)
(pss_one (ps_ret (pe_dget (hu1 hr) (pe_fld (pv 0) rfl) (pv 1) (fun _ _=>rfl))))),?_⟩
 obtain⟨dx,ha,hd⟩:=de
 refine⟨_,rfl,_,rfl,a,C,dx,_,_,rfl,ha,cl,nr,rows_fl,d,_,rfl,DGet.k (k:=Sum.inr z) hd,?_⟩
 cases e:valV kvs (Sum.inr z) with
 |none=>exact⟨_,rfl,iteT ⟨by show 1≤sizeLine;decide,fun x hx=>h2 e x hx⟩⟩
 |some v=>exact⟨_,rfl,iteF ⟨_,rfl,a,C,dx,_,_,rfl,ha,cl,nr,rows_fl,_,rfl,d,v,rfl,by rw[←e];exact DGet.k (k:=Sum.inr z) hd,h1 v e⟩⟩
theorem ok_say {f:Addr}{fd:FuncData}(F:Fun K "say" "Desk.say" s_say f fd)(nb:NbX mg)(hE_line_read:HasE P w K mg base 5 "line_read" ["line"] (spLine c4))(hE_answer:HasE P w K mg base 5 "answer" ["word","given"] (spAns c2))(hE_row_to_keep:HasE P w K mg base 5 "row_to_keep" ["word","given"] (spKeep c0))(cl:Cls K C)(nr:NoAttr K C "rows"){fo:Addr}{fdo:FuncData}(hmt:Meth K C "row_of" fo)(hF:FnOk P w K mg base (CXF P w) 1 fo fdo ["self","name"] (spOf C c3))(hbd:Binds K fdo ["self","name"] []) :
 FnOk P w K mg base (CXF P w) 6 f fd ["self","line"] (spSay C c0 c2 c3 c4):=by
 have nd:=sc_say.nd
 refine F.okE (k:=5) sc_say (fun vs H Q E h=>?_) (fun cdv A outer s H vs Q E hr h=>?_)
 ·obtain⟨a,v,d,kvs,rfl,_⟩:=h
  rfl
 obtain⟨a,v,d,kvs,rfl,de,h⟩:=h
 refine⟨_,(pss_cons (ps_asg (pe_defE hE_line_read lvs_cx hr (pa_cons (pv 1) pa_nil)) (pg_tup rfl (pgs_cons (pg_name (i:=2) nd rfl (Or.inl rfl)) (pgs_cons (pg_name (i:=3) nd rfl (Or.inl rfl)) pgs_nil))))
(pss_cons (ps_if (pt_cmpR op_eq (pv 2) pe_str (nomark _))
(pss_one (ps_ret (pe_bm PySem.F.plainAttrs_str PySem.F.slot_str_join PySem.F.type_str_join mt_join pe_str (pa_cons (pe_callB (call_sortDS rfl) rfl nb.sorted boot_sorted (pa_cons (pe_fld (pv 0) rfl) pa_nil)) pa_nil))))
pss_nil)
(pss_cons (ps_compE2 (ii:=4) nd rfl (Or.inl rfl) (sc:=defScope s_say) (N0:=["self","line","word","parts","given","names"]) (N:=["self"]) (js:=[0]) lvs_cx rfl rfl rfl (by exact⟨rfl,by decide +kernel,by decide +kernel,by decide +kernel,rfl,rfl,by decide,by decide +kernel,by decide +kernel⟩) rfl rfl
(pi_list (pv 3))
(fun _ _ _ _ _=>by exact(pts_one (pt_cmpR op_ne (pv 0) pe_str (nomark _))))
(fun _ _ _ _ _=>by exact(pe_ifExp (pt_cmpR op_eq (pv 0) pe_str (nomark _)) (pe_meth (pv 2) cl hmt hF (hr.mono (by decide)) hbd .nil passes_blk (pa_cons (pv 1) pa_nil)) (pv 1))))
(pss_cons (ps_comp2 (ii:=5) nd rfl (Or.inl rfl) (sc:=defScope s_say) (N0:=["self","line","word","parts","given","names"]) (N:=[]) (js:=[]) rfl rfl rfl (by exact⟨rfl,by decide +kernel,by decide +kernel,by decide +kernel,rfl,rfl,by decide,by decide +kernel,by decide +kernel⟩) rfl rfl
(pi_list (pv 3))
(fun _ _ _ _ _=>by exact(pts_one (pt_cmpR op_eq (pv 0) pe_str (nomark _))))
(fun _ _ _ _ _=>by exact(pv 1)))
(pss_cons (ps_if (pt_not (pt_truth (pv 5) (fun _=>rfl)))
(pss_one (ps_ret (pe_defE hE_answer lvs_cx hr (pa_cons (pv 2) (pa_cons (pv 4) pa_nil)))))
pss_nil)
(pss_cons (ps_dput (hu1 hr) (pe_fld (pv 0) rfl) (pe_ix ix_list (pv 5) pe_int (fun _ _=>rfl)) (pe_defE hE_row_to_keep lvs_cx hr (pa_cons (pv 2) (pa_cons (pv 4) pa_nil))) rfl)
(pss_one (ps_ret pe_str)))))))),?_⟩
 have no:∀{y z:Str},y≠z→decide (V.str y=V.str z)=false:=fun n=>decide_eq_false fun e=>n (V.str.inj e)
 refine⟨_,rfl,v,rfl,?_⟩
 rcases h with⟨T,kn,nt,rf⟩ | ⟨z,rfl,z19,⟨bad,rf⟩ | ⟨x,rest,fs,sp,r19,fo,le,gd,sr⟩⟩
 ·exact .inl ⟨T,kn,nt,rf⟩
 ·exact .inr ⟨z,rfl,z19,bad_line bad rf⟩
 refine .inr ⟨z,rfl,z19,x,rest,sp,r19,?_⟩
 rw[fo]
 dsimp only
 rw[if_pos le]
 refine⟨fun⟨j,f,y,e1,e2,ng⟩=>absurd (gd j f y e1 e2) ng,fun tp L ys H1 s1 htp hL ly all=>?_⟩
 refine⟨tp,_,rfl,SqT.of htp,rfl,_,_,rfl,_,_,rfl,rfl,?_⟩
 refine⟨_,rfl,rfl,_,rfl,?_⟩
 have de1:=de.same s1
 obtain⟨dx,ha1,hd1⟩:=de1
 by_cases ck:x=Str.ofString "kept"
 ·rw[decide_eq_true (by rw[ck])]
  refine iteT ?_
  rcases sr with⟨e,_⟩ | ⟨_,ns,kk,l100,n8,q⟩ | ⟨n,_⟩ | ⟨n,_⟩ | ⟨n,_⟩ | ⟨n,_⟩ | ⟨n,_⟩
  ·exact absurd (e.symm.trans ck) (by decide +kernel)
  ·refine⟨rfl,_,rfl,a,C,dx,_,_,rfl,ha1,cl,nr,rows_fl,d,ns,kvs,rfl,hd1,kk,by omega,fun ms l pm st hl=>?_⟩
   obtain⟨f1,f2⟩:=names_fit (by rw[pm.length_eq];omega) fun z hz=>n8 z (pm.mem_iff.mp hz)
   exact⟨_,l,_,rfl,rfl,upd_same,by rw[sizeLine_eq];omega,by rw[sizeLine_eq];omega,q _ _ pm st (s1.trans (same_new hl _))⟩
  ·exact absurd ck n
  ·exact absurd ck n
  ·exact absurd ck n
  ·exact absurd ck n
  ·exact absurd ck n
 rw[no ck]
 refine iteF ?_
 have mis:∀(j:Nat) (n:Str),fs[j]?=some (Str.ofString "A")→rest[j]?=some n→valV kvs (Sum.inr n)=none→Refuse H E c3:=by
  intro j n e1 e2 nn
  rcases sr with⟨rfl,n1,t,rfl,_⟩ | ⟨e,_⟩ | ⟨_,_,rf⟩ | ⟨_,rfl,n1,r,rfl,hv,_⟩ | ⟨_,rfl,n1,t,n2,r,rfl,_,hv,_⟩ | ⟨_,rfl,n1,n2,r,r',rfl,hv,hv',_⟩ | ⟨_,rfl,n1,n2,r,rfl,_,hv,_⟩
  ·rw[show formsOf (Str.ofString "row")=some [Str.ofString "N",Str.ofString "TEXT"] by decide +kernel]at fo
   cases fo
   match j,e1 with
   |0,e1=>exact absurd (Option.some.inj e1) (by decide +kernel)
   |1,e1=>exact absurd (Option.some.inj e1) (by decide +kernel)
  ·exact absurd e ck
  ·exact rf
  ·match j,e1,e2 with
   |0,_,e2=>cases e2;rw[hv]at nn;cases nn
  ·match j,e1,e2 with
   |0,_,e2=>cases e2;rw[hv]at nn;cases nn
   |1,e1,_=>exact absurd (Option.some.inj e1) (by decide +kernel)
   |2,e1,_=>exact absurd (Option.some.inj e1) (by decide +kernel)
  ·match j,e1,e2 with
   |0,_,e2=>cases e2;rw[hv]at nn;cases nn
   |1,_,e2=>cases e2;rw[hv']at nn;cases nn
  ·match j,e1,e2 with
   |0,_,e2=>cases e2;rw[hv]at nn;cases nn
   |1,e1,_=>exact absurd (Option.some.inj e1) (by decide +kernel)
 have pr:∀i,i<fs.length→∃f y,fs[i]?=some f∧rest[i]?=some y∧(fs.zip rest)[i]?=some (f,y):=fun i hi=>
  ⟨fs[i],rest[i]'(by omega),List.getElem?_eq_getElem hi,List.getElem?_eq_getElem (by omega),by rw[List.getElem?_zip_eq_some];exact⟨List.getElem?_eq_getElem hi,List.getElem?_eq_getElem (by omega)⟩⟩
 have f3:=forms_few fo
 refine⟨_,rfl,L,rfl,⟨_,SqL.of hL⟩,fun D hD=>?_⟩
 refine comp_any ys.length (by rw[sizeLine_eq];omega)
  (fun i σ' H' gs=>(∃o1 o2,σ'=[o1,o2,some (.ref a)])∧Same H1 H'∧H' D=some (.lst gs)∧gs.length≤i∧(∀j n,j<i→fs[j]?=some (Str.ofString "A")→rest[j]?=some n→valV kvs (Sum.inr n)≠none)∧Paired (Gvn H' kvs) (((fs.zip rest).take i).filter nN) gs)
  (fun i _ x=>ys[i]?=some x) ⟨⟨_,_,rfl⟩,same_new hD _,upd_same,Nat.le_refl _,fun j n h=>absurd h (Nat.not_lt_zero _),.nil⟩ (fun i σ' H' gs pv=>⟨pv.2.2.1,pv.2.2.2.1⟩) (fun i σ' H' gs pv=>items_lst hL i H' pv.2.1) (fun i x' σ' H2 H3 gs hi pv s23 im R S hR hS=>?_) (fun σ' H2 gs pv=>?_)
 ·obtain⟨⟨o1,o2,rfl⟩,s12,hgD,gl,fnd,pa⟩:=pv
  obtain⟨f,y,ff,fy,fz⟩:=pr i (by omega)
  obtain⟨p,u,yp,hp1,va⟩:=all i f y ff fy
  rw[im]at yp
  cases yp
  have s13:=s12.trans s23
  refine⟨p,_,rfl,SqT.of (s13 _ _ hp1),rfl,_,_,rfl,_,_,rfl,rfl,?_⟩
  refine⟨_,rfl,rfl,_,rfl,?_⟩
  have fnd2:(f=Str.ofString "A"→valV kvs (Sum.inr y)≠none)→∀j n,j<i+1→fs[j]?=some (Str.ofString "A")→rest[j]?=some n→valV kvs (Sum.inr n)≠none:=fun g j n hj e1 e2=>by
   by_cases ji:j<i
   ·exact fnd j n ji e1 e2
   ·obtain rfl:j=i:=by omega
    rw[ff]at e1
    rw[fy]at e2
    cases e2
    exact g (Option.some.inj e1)
  by_cases cN:f=Str.ofString "N"
  ·rw[decide_eq_true (by rw[cN])]
   refine iteF (hS _ _ ⟨⟨_,_,rfl⟩,s13,s23 _ _ hgD,by omega,fnd2 fun z=>absurd (cN.symm.trans z) (by decide +kernel),?_⟩)
   rw[take_add_one,fz,filter_append,show List.filter nN (some (f,y)).toList=[] by subst cN;exact filter_cons_of_neg (by show ¬(!decide (Str.ofString "N" = Str.ofString "N"))=true;decide +kernel),append_nil]
   exact L2.Paired.imp' (fun _ _ g=>g.keep fun r xs e=>s23 _ _ e) pa
  ·rw[no cN]
   have kp:∀o r xs,H2 r=some (.tup xs)→(upd H3 D o) r=some (.tup xs):=fun o r xs e=>by
    have e3:=s23 _ _ e
    rw[upd_ne (fun n=>by rw[n,s23 _ _ hgD]at e3;cases e3)]
    exact e3
   have nx:∀(w:V),Gvn H3 kvs (f,y) w→(f=Str.ofString "A"→valV kvs (Sum.inr y)≠none)→∀σ3,(∃o1 o2,σ3=[o1,o2,some (.ref a)])→R σ3 w H3:=fun w gw nn σ3 hσ=>by
    refine hR _ _ _ (s23 _ _ hgD) ⟨hσ,fun b o e=>by rw[upd_ne (ne_of_none e hD)];exact s13 _ _ e,upd_same,by rw[length_append,length_singleton];omega,fnd2 nn,?_⟩
    rw[take_add_one,fz,filter_append,show List.filter nN (some (f,y)).toList=[(f,y)] from filter_cons_of_pos (by show(!decide (f=Str.ofString "N"))=true;rw[decide_eq_false cN];rfl)]
    refine paired_snoc (L2.Paired.imp' (fun _ _ g=>g.keep (kp _)) pa) (gw.keep fun r xs e=>?_)
    rw[upd_ne (fun n=>by rw[n,s23 _ _ hgD]at e;cases e)]
    exact e
   refine iteT ⟨_,rfl,rfl,_,rfl,?_⟩
   by_cases cA:f=Str.ofString "A"
   ·rw[decide_eq_true (by rw[cA])]
    unfold Val at va
    rw[if_neg (by rw[cA];decide +kernel),if_neg (by rw[cA];decide +kernel)]at va
    obtain⟨rfl,_⟩:=va
    refine iteT ⟨_,rfl,a,dx,_,rfl,s13 _ _ ha1,rows_no,_,rfl,a,y,d,kvs,rfl,⟨dx,s13 _ _ ha1,s13 _ _ hd1⟩,fun w hw=>?_,fun nn e he=>?_⟩
    ·exact nx w (by unfold Gvn;rw[if_pos cA];exact hw) (fun _ z=>by rw[hw]at z;cases z) _ ⟨_,_,rfl⟩
    ·exact mis i y (cA▸ff) fy nn e H3 (s1.trans s13) he
   ·rw[no cA]
    exact iteF ⟨_,rfl,nx u (by unfold Gvn;rw[if_neg cA];exact va.keep fun r xs e=>s13 _ _ e) (fun z=>absurd z cA) _ ⟨_,_,rfl⟩⟩
 obtain⟨_,s12,hgD,gl,fnd,pa⟩:=pv
 have zl:(fs.zip rest).length=ys.length:=by rw[List.length_zip,ly,le,Nat.min_self]
 rw[←zl,take_length]at pa
 refine⟨_,rfl,L,rfl,⟨_,SqL.of (s12 _ _ hL)⟩,fun D2 hD2=>?_⟩
 refine comp_any ys.length (by rw[sizeLine_eq];omega)
  (fun i σ' H' gs=>(∃o1 o2,σ'=[o1,o2])∧Same H2 H'∧H' D2=some (.lst gs)∧gs.length≤i∧gs=(((fs.zip rest).take i).filter yN).map fun p=>V.str p.2)
  (fun i _ x=>ys[i]?=some x) ⟨⟨_,_,rfl⟩,same_new hD2 _,upd_same,Nat.le_refl _,rfl⟩ (fun i σ' H' gs pv=>⟨pv.2.2.1,pv.2.2.2.1⟩) (fun i σ' H' gs pv=>items_lst (s12 _ _ hL) i H' pv.2.1) (fun i x' σ' H3 H4 gs hi pv s34 im R S hR hS=>?_) (fun σ' H3 gs' pv=>?_)
 ·obtain⟨⟨o1,o2,rfl⟩,s23,hgD2,gl2,eg⟩:=pv
  obtain⟨f,y,ff,fy,fz⟩:=pr i (by omega)
  obtain⟨p,u,yp,hp1,va⟩:=all i f y ff fy
  rw[im]at yp
  cases yp
  have s24:=s23.trans s34
  refine⟨p,_,rfl,SqT.of (s24 _ _ (s12 _ _ hp1)),rfl,_,_,rfl,_,_,rfl,rfl,?_⟩
  refine⟨_,rfl,rfl,_,rfl,?_⟩
  by_cases cN:f=Str.ofString "N"
  ·rw[decide_eq_true (by rw[cN])]
   unfold Val at va
   rw[if_neg (by rw[cN];decide +kernel),if_neg (by rw[cN];decide +kernel)]at va
   obtain⟨rfl,_⟩:=va
   refine iteT ⟨_,rfl,hR _ _ _ (s34 _ _ hgD2) ⟨⟨_,_,rfl⟩,fun b o e=>by rw[upd_ne (ne_of_none e hD2)];exact s24 _ _ e,upd_same,by rw[length_append,length_singleton];omega,?_⟩⟩
   rw[take_add_one,fz,filter_append,show List.filter yN (some (f,y)).toList=[(f,y)] from filter_cons_of_pos (by show decide (f=Str.ofString "N")=true;rw[decide_eq_true cN]),map_append,←eg]
   rfl
  ·rw[no cN]
   refine iteF (hS _ _ ⟨⟨_,_,rfl⟩,s24,s34 _ _ hgD2,by omega,?_⟩)
   rw[take_add_one,fz,filter_append,show List.filter yN (some (f,y)).toList=[] from filter_cons_of_neg (by show ¬decide (f=Str.ofString "N")=true;rw[decide_eq_false cN];decide),append_nil]
   exact eg
 obtain⟨_,s23,hgD2,gl2,eg⟩:=pv
 rw[←zl,take_length]at eg
 have s13:=s12.trans s23
 have hg3:=s23 _ _ hgD
 rcases sr with⟨rfl,n1,t,rfl,k100,q⟩ | ⟨e,_⟩ | ⟨_,⟨j,n,e1,e2,nn⟩,_⟩ | ⟨_,rfl,n1,r,rfl,hv,q⟩ | ⟨_,rfl,n1,t,n2,r,rfl,k100,hv,q⟩ | ⟨_,rfl,n1,n2,r,r',rfl,hv,hv',q⟩ | ⟨_,rfl,n1,n2,r,rfl,k100,hv,q⟩
 ·rw[show formsOf (Str.ofString "row")=some [Str.ofString "N",Str.ofString "TEXT"] by decide +kernel]at fo
  cases fo
  rw[show List.zip [Str.ofString "N",Str.ofString "TEXT"] [n1,t]=[(Str.ofString "N",n1),(Str.ofString "TEXT",t)] from rfl]at pa eg
  rw[n_row]at pa
  rw[y_row]at eg
  cases pa with
  |cons g t'=>
   cases t'
   unfold Gvn Val at g
   dsimp only at g
   rw[if_neg (show ¬Str.ofString "TEXT" = Str.ofString "A" by decide +kernel),if_pos rfl]at g
   obtain⟨r,row,rfl,hr2,wd,l12,et⟩:=g
   subst eg
   refine⟨_,rfl,true,.inl ⟨_,SqL.of hgD2,rfl⟩,iteF ?_⟩
   refine⟨_,rfl,_,rfl,_,D,_,rfl,hg3,.inl ⟨rfl,_,rfl,?_⟩⟩
   refine⟨_,rfl,a,C,dx,_,_,rfl,s13 _ _ ha1,cl,nr,rows_fl,_,rfl,D2,_,_,_,rfl,rfl,SqL.of hgD2,(show atI [V.str n1] ((0:Nat):Int)=some (V.str n1) from atI_nat rfl),d,_,rfl,DPut.k (k:=Sum.inr n1) (s13 _ _ hd1) (by rw[sizeLine_eq];omega),?_⟩
   exact q H3 r row (s1.trans s13) (s23 _ _ hr2) et wd l12
 ·exact absurd e ck
 ·exact absurd nn (fnd j n (by rw[ly];exact(List.getElem?_eq_some_iff.mp e1).1) e1 e2)
 ·rw[show List.zip [Str.ofString "A"] [n1]=[(Str.ofString "A",n1)] from rfl]at pa eg
  rw[n_one]at pa
  rw[y_one]at eg
  cases pa with
  |cons g t'=>
   cases t'
   unfold Gvn at g
   rw[if_pos rfl]at g
   rw[hv]at g
   cases g
   subst eg
   exact⟨_,rfl,false,.inl ⟨_,SqL.of hgD2,rfl⟩,iteT ⟨_,rfl,_,rfl,_,D,_,rfl,hg3,q H3 (s1.trans s13)⟩⟩
 ·rw[show List.zip [Str.ofString "A",Str.ofString "K",Str.ofString "N"] [n1,t,n2]=[(Str.ofString "A",n1),(Str.ofString "K",t),(Str.ofString "N",n2)] from rfl]at pa eg
  rw[n_num]at pa
  rw[y_num]at eg
  cases pa with
  |cons g t'=>
   cases t' with
   |cons g' t''=>
    cases t''
    unfold Gvn at g g'
    rw[if_pos rfl,hv]at g
    cases g
    unfold Val at g'
    dsimp only at g'
    rw[if_neg (show ¬Str.ofString "K" = Str.ofString "A" by decide +kernel),if_neg (show ¬Str.ofString "K" = Str.ofString "TEXT" by decide +kernel),if_pos rfl]at g'
    obtain⟨m,rfl,n30,et⟩:=g'
    subst eg
    refine⟨_,rfl,true,.inl ⟨_,SqL.of hgD2,rfl⟩,iteF ⟨_,rfl,_,rfl,_,D,_,rfl,hg3,(q H3 m (s1.trans s13) n30 et).imp fun u H4 s4 qq=>?_⟩⟩
    exact⟨_,rfl,a,C,dx,_,_,rfl,s4 _ _ (s13 _ _ ha1),cl,nr,rows_fl,_,rfl,D2,_,_,_,rfl,rfl,SqL.of (s4 _ _ hgD2),(show atI [V.str n2] ((0:Nat):Int)=some (V.str n2) from atI_nat rfl),d,_,rfl,DPut.k (k:=Sum.inr n2) (s4 _ _ (s13 _ _ hd1)) (by rw[sizeLine_eq];omega),qq⟩
 ·rw[show List.zip [Str.ofString "A",Str.ofString "A"] [n1,n2]=[(Str.ofString "A",n1),(Str.ofString "A",n2)] from rfl]at pa eg
  rw[n_two]at pa
  rw[y_two]at eg
  cases pa with
  |cons g t'=>
   cases t' with
   |cons g' t''=>
    cases t''
    unfold Gvn at g g'
    rw[if_pos rfl,hv]at g
    rw[if_pos rfl,hv']at g'
    cases g
    cases g'
    subst eg
    exact⟨_,rfl,false,.inl ⟨_,SqL.of hgD2,rfl⟩,iteT ⟨_,rfl,_,rfl,_,D,_,rfl,hg3,q H3 (s1.trans s13)⟩⟩
 ·rw[show List.zip [Str.ofString "A",Str.ofString "N"] [n1,n2]=[(Str.ofString "A",n1),(Str.ofString "N",n2)] from rfl]at pa eg
  rw[n_peel]at pa
  rw[y_peel]at eg
  cases pa with
  |cons g t'=>
   cases t'
   unfold Gvn at g
   rw[if_pos rfl,hv]at g
   cases g
   subst eg
   refine⟨_,rfl,true,.inl ⟨_,SqL.of hgD2,rfl⟩,iteF ⟨_,rfl,_,rfl,_,D,_,rfl,hg3,(q H3 (s1.trans s13)).imp fun u H4 s4 qq=>?_⟩⟩
   exact⟨_,rfl,a,C,dx,_,_,rfl,s4 _ _ (s13 _ _ ha1),cl,nr,rows_fl,_,rfl,D2,_,_,_,rfl,rfl,SqL.of (s4 _ _ hgD2),(show atI [V.str n2] ((0:Nat):Int)=some (V.str n2) from atI_nat rfl),d,_,rfl,DPut.k (k:=Sum.inr n2) (s4 _ _ (s13 _ _ hd1)) (by rw[sizeLine_eq];omega),qq⟩
end
end K93
namespace L2
def spl (c:Nat):List Nat→List (List Nat)
 |[]=>[[]]
 |x::r=>if x=c then []::spl c r else((x::(spl c r).headD [])::(spl c r).tail)
theorem spl_ne (c:Nat):∀l,spl c l≠[]
 |[]=>by unfold spl;simp
 |x::r=>by unfold spl;split<;>simp
theorem spl_free {c:Nat}:∀{w:List Nat},c∉w→spl c w=[w]
 |[],_=>rfl
 |x::r,h=>by
  unfold spl
  rw[if_neg (fun e=>h (by rw[e];exact mem_cons_self)),spl_free (fun z=>h (mem_cons_of_mem _ z))]
  rfl
theorem spl_cons (c x:Nat)(l:List Nat):spl c (x::l)=if x=c then []::spl c l else((x::(spl c l).headD [])::(spl c l).tail):=rfl
theorem spl_app {c:Nat}:∀(a b:List Nat),spl c (a++c::b)=spl c a++spl c b
 |[],b=>by
  show spl c (c::b)=[[]]++spl c b
  rw[spl_cons,if_pos rfl]
  rfl
 |x::r,b=>by
  show spl c (x::(r++c::b))=spl c (x::r)++spl c b
  rw[spl_cons,spl_cons,spl_app r b]
  split
  ·rfl
  ·have ne:=spl_ne c r
   cases e:spl c r with
   |nil=>exact absurd e ne
   |cons w ws=>rfl
theorem join_lists (c:Nat):∀(ps:List Str),ps≠[]→(∀p∈ps,c∉p.cps.toList)→spl c (Str.join ⟨#[c]⟩ ps).cps.toList=ps.map (·.cps.toList)
 |[],h,_=>absurd rfl h
 |[p],_,h=>spl_free (h p mem_cons_self)
 |p::q::r,_,h=>by
  have ih:=join_lists c (q::r) (by simp) fun x hx=>h x (mem_cons_of_mem _ hx)
  show spl c (p++⟨#[c]⟩++Str.join ⟨#[c]⟩ (q::r)).cps.toList=_
  rw[app_list,app_list,List.append_assoc]
  show spl c (p.cps.toList++c::(Str.join ⟨#[c]⟩ (q::r)).cps.toList)=_
  rw[spl_app,ih,spl_free (h p mem_cons_self)]
  rfl
theorem split_ne (x y:Str):Txt.split x y≠[]:=by
 unfold Txt.split
 split
 ·simp
 ·split
  ·simp
  ·unfold Builtin.Str.partsBetween
   intro e
   have:=congrArg List.length e
   simp at this
theorem split_spl (x:Str)(c:Nat):(Txt.split x ⟨#[c]⟩).map (·.cps.toList)=spl c x.cps.toList:=by
 have:=join_lists c (Txt.split x ⟨#[c]⟩) (split_ne x _) (StrLaws.split_free x c)
 rw[StrLaws.join_split]at this
 exact this.symm
theorem lists_inj {a b:List Str}(h:a.map (·.cps.toList)=b.map (·.cps.toList)):a=b:=by
 induction a generalizing b with
 |nil=>cases b with
  |nil=>rfl
  |cons _ _=>cases h
 |cons x a ih=>cases b with
  |nil=>cases h
  |cons y b=>
   rw[map_cons,map_cons]at h
   injection h with h1 h2
   rw[str_ext h1,ih h2]
theorem split_app (a b:Str)(c:Nat):Txt.split (a++⟨#[c]⟩++b) ⟨#[c]⟩=Txt.split a ⟨#[c]⟩++Txt.split b ⟨#[c]⟩:=by
 apply lists_inj
 rw[split_spl,map_append,split_spl,split_spl,app_list,app_list,List.append_assoc]
 exact spl_app _ _
theorem split_one {a:Str}{c:Nat}(h:c∉a.cps.toList):Txt.split a ⟨#[c]⟩=[a]:=by
 apply lists_inj
 rw[split_spl,spl_free h]
 rfl
theorem split_join (c:Nat){ps:List Str}(ne:ps≠[])(h:∀p∈ps,c∉p.cps.toList):Txt.split (Str.join ⟨#[c]⟩ ps) ⟨#[c]⟩=ps:=by
 apply lists_inj
 rw[split_spl,join_lists c ps ne h]
end L2
namespace K93
open L2
open BB (lens outs)
theorem passes_none {X:Cx}:Passes (CXF X.prog X.w) X (fun _ _ _=>False):=fun _ _ _ _ _ _ _ ⟨_,_,_,_,_,q⟩=>q.elim
abbrev Dk:=List (Str×List Int)
def Ent (H:Hp)(p:Str×List Int)(e:Key×V):Prop:=e.1=Sum.inr p.1∧∃r,e.2=.ref r∧H r=some (.tup (p.2.map V.int))
def DkAt (C a d:Addr)(D:Dk)(H:Hp):Prop:=∃kvs,DeskAt C a d kvs H∧Paired (Ent H) D kvs
def rowOf (D:Dk)(n:Str):Option (List Int):=(D.find? fun p=>decide (p.1=n)).map (·.2)
def putD (D:Dk)(n:Str)(row:List Int):Dk:=if(D.any fun p=>decide (p.1=n))=true then D.map (fun p=>if p.1=n then(p.1,row) else p) else D++[(n,row)]
def KeepD (d:Addr)(H H':Hp):Prop:=∀b o,b≠d→H b=some o→H' b=some o
theorem Ent.keep {H H':Hp}(k:∀r xs,H r=some (.tup xs)→H' r=some (.tup xs)){p:Str×List Int}{e:Key×V}(h:Ent H p e):Ent H' p e:=by
 obtain⟨h1,r,h2,h3⟩:=h
 exact⟨h1,r,h2,k _ _ h3⟩
section
variable {C a d c0 c2 c3 c4:Addr}{D:Dk}{H H':Hp}{Q:VK}{E:XK}{kvs:List (Key×V)}{n m t z:Str}{row:List Int}
theorem DkAt.same (h:DkAt C a d D H)(s:Same H H'):DkAt C a d D H':=by
 obtain⟨kvs,h1,h2⟩:=h
 exact⟨kvs,h1.same s,L2.Paired.imp' (fun _ _ g=>g.keep fun _ _ e=>s _ _ e) h2⟩
theorem dk_names:∀{D:Dk} {kvs:List (Key×V)},Paired (Ent H) D kvs→kvs.map (·.1)=(D.map (·.1)).map Sum.inr
 |_,_,.nil=>rfl
 |_,_,.cons h r=>by rw[map_cons,map_cons,map_cons,dk_names r,h.1]
theorem dk_len:∀{D:Dk} {kvs:List (Key×V)},Paired (Ent H) D kvs→kvs.length=D.length
 |_,_,.nil=>rfl
 |_,_,.cons h r=>by rw[length_cons,length_cons,dk_len r]
theorem dk_some:∀{D:Dk} {kvs:List (Key×V)},Paired (Ent H) D kvs→rowOf D n=some row→∃r,valV kvs (Sum.inr n)=some (.ref r)∧H r=some (.tup (row.map V.int))
 |_,_,.nil,q=>by cases q
 |_,_,@Paired.cons _ _ _ p e D kvs h r,q=>by
  unfold rowOf at q
  by_cases c:p.1=n
  ·rw[List.find?_cons_of_pos (by exact decide_eq_true c)]at q
   cases q
   obtain⟨h1,r,h2,h3⟩:=h
   exact⟨r,by rw[valV_pos (by rw[h1,c]),h2],h3⟩
  ·rw[List.find?_cons_of_neg (by rw[decide_eq_false c];exact Bool.false_ne_true)]at q
   rw[valV_neg (by rw[h.1];exact fun z=>c (Sum.inr.inj z))]
   exact dk_some r q
theorem dk_any:∀{D:Dk} {kvs:List (Key×V)},Paired (Ent H) D kvs→(kvs.any fun kv=>decide (kv.1=Sum.inr n))=D.any fun p=>decide (p.1=n)
 |_,_,.nil=>rfl
 |_,_,@Paired.cons _ _ _ p e D kvs h r=>by
  rw[any_cons,any_cons,dk_any r,h.1,key_rr]
theorem dk_map {r0:Addr}(hr:H r0=some (.tup (row.map V.int))):∀{D:Dk} {kvs:List (Key×V)},Paired (Ent H) D kvs→Paired (Ent H) (D.map fun p=>if p.1=n then(p.1,row) else p) (kvs.map fun kv=>if kv.1=Sum.inr n then(kv.1,V.ref r0) else kv)
 |_,_,.nil=>.nil
 |_,_,@Paired.cons _ _ _ p e D kvs h r=>by
  refine .cons ?_ (dk_map hr r)
  dsimp only
  by_cases c:p.1=n
  ·rw[if_pos c,if_pos (by rw[h.1,c])]
   exact⟨h.1,r0,rfl,hr⟩
  ·rw[if_neg c,if_neg (by rw[h.1];exact fun z=>c (Sum.inr.inj z))]
   exact h
theorem dk_put {r0:Addr}(hr:H r0=some (.tup (row.map V.int)))(p:Paired (Ent H) D kvs):Paired (Ent H) (putD D n row) (putK kvs (Sum.inr n) (.ref r0)):=by
 unfold putD putK
 rw[dk_any p]
 split
 ·exact dk_map hr p
 ·exact paired_snoc p ⟨rfl,r0,rfl,hr⟩
theorem put_len (D:Dk)(n:Str)(row:List Int):(putD D n row).length≤D.length+1:=by
 unfold putD
 split
 ·rw[length_map];omega
 ·rw[length_append,length_singleton];exact Nat.le_refl _
theorem dk_upd {r0:Addr}(h:DeskAt C a d kvs H)(p:Paired (Ent H) D kvs)(hr:H r0=some (.tup (row.map V.int))):DkAt C a d (putD D n row) (upd H d (.dK (putK kvs (Sum.inr n) (.ref r0))))∧KeepD d H (upd H d (.dK (putK kvs (Sum.inr n) (.ref r0)))):=by
 obtain⟨dx,h1,h2⟩:=h
 refine⟨⟨_,⟨dx,by rw[upd_ne (fun z=>by rw[z,h2]at h1;cases h1)];exact h1,upd_same⟩,L2.Paired.imp' (fun _ _ g=>g.keep fun r xs e=>?_) (dk_put hr p)⟩,fun b o ne e=>by rw[upd_ne ne];exact e⟩
 rw[upd_ne (fun z=>by rw[z,h2]at e;cases e)]
 exact e
theorem KeepD.same (s:Same H H'){H2:Hp}(k:KeepD d H' H2):KeepD d H H2:=fun b o n e=>k b o n (s b o e)
theorem spl_le (c:Nat):∀(l:List Nat),∀w∈spl c l,w.length≤l.length
 |[],w,h=>by
  have:w=[]:=by simpa[spl]using h
  rw[this];exact Nat.le_refl _
 |x::r,w,h=>by
  rw[spl_cons]at h
  have ne:=spl_ne c r
  cases e:spl c r with
  |nil=>exact absurd e ne
  |cons w0 ws=>
   have h0:=spl_le c r w0 (by rw[e];exact mem_cons_self)
   have h1:=fun v hv=>spl_le c r v (by rw[e];exact hv)
   split at h
   ·rcases mem_cons.mp h with rfl | h
    ·exact Nat.zero_le _
    ·have:=spl_le c r w h
     rw[length_cons];omega
   ·rw[e]at h
    rcases mem_cons.mp h with rfl | h
    ·show(x::w0).length≤_
     rw[length_cons,length_cons];omega
    ·have:=h1 w (mem_cons_of_mem _ h)
     rw[length_cons];omega
theorem blk_is:BLK=⟨#[32]⟩:=by decide +kernel
theorem split_le {z y:Str}(h:y∈Txt.split z BLK):y.length≤z.length:=by
 rw[blk_is]at h
 have:=spl_le 32 z.cps.toList y.cps.toList (by rw[←split_spl];exact List.mem_map_of_mem h)
 rw[str_len,str_len]
 exact this
structure Line (z x:Str)(rest fs:List Str):Prop where
 sp:Txt.split z BLK=x::rest
 len:z.length≤1900
 fo:formsOf x=some fs
 le:fs.length=rest.length
 gd:∀(j:Nat) (f y:Str),fs[j]?=some f→rest[j]?=some y→Good f y
theorem say_line {x:Str}{rest fs:List Str}(L:Line z x rest fs)(de:DeskAt C a d kvs H)(r:SayR C c0 c2 c3 d kvs x rest fs H Q E):spSay C c0 c2 c3 c4 [.ref a,.str z] H Q E:=
 ⟨a,_,d,kvs,rfl,de,.inr ⟨z,rfl,L.len,.inr ⟨x,rest,fs,L.sp,fun y hy=>Nat.le_trans (split_le (by rw[L.sp];exact mem_cons_of_mem _ hy)) L.len,L.fo,L.le,L.gd,r⟩⟩⟩
theorem good_text {row:List Int}(wd:Wd row)(l:row.length≤12):Good (Str.ofString "TEXT") (rowTxt row):=by
 unfold Good
 rw[if_pos rfl]
 exact⟨row,wd,l,rfl⟩
theorem good_num {v:Int}(h:v.natAbs<10^30):Good (Str.ofString "K") (numT v):=by
 unfold Good
 rw[if_neg (by decide +kernel),if_pos rfl]
 exact⟨v,h,rfl⟩
theorem good_name {f n:Str}(h1:f≠Str.ofString "TEXT")(h2:f≠Str.ofString "K")(h:nameB n=true):Good f n:=by
 unfold Good
 rw[if_neg h1,if_neg h2]
 exact h
theorem good_A {n:Str}(h:nameB n=true):Good (Str.ofString "A") n:=good_name (by decide +kernel) (by decide +kernel) h
theorem good_N {n:Str}(h:nameB n=true):Good (Str.ofString "N") n:=good_name (by decide +kernel) (by decide +kernel) h
theorem gd1 {f y:Str}(h:Good f y):∀(j:Nat) (f' y':Str),[f][j]?=some f'→[y][j]?=some y'→Good f' y'
 |0,_,_,e1,e2=>by cases e1;cases e2;exact h
 |j+1,_,_,e1,_=>by cases e1
theorem gdc {f y:Str}{fs ys:List Str}(h:Good f y)(r:∀(j:Nat) (f' y':Str),fs[j]?=some f'→ys[j]?=some y'→Good f' y'):∀(j:Nat) (f' y':Str),(f::fs)[j]?=some f'→(y::ys)[j]?=some y'→Good f' y'
 |0,_,_,e1,e2=>by cases e1;cases e2;exact h
 |j+1,_,_,e1,e2=>r j _ _ e1 e2
theorem line_row (sp:Txt.split z BLK=[Str.ofString "row",n,rowTxt row])(l:z.length≤1900)(hn:nameB n=true)(wd:Wd row)(l12:row.length≤12):Line z (Str.ofString "row") [n,rowTxt row] [Str.ofString "N",Str.ofString "TEXT"]:=
 ⟨sp,l,by decide +kernel,rfl,gdc (good_N hn) (gd1 (good_text wd l12))⟩
theorem line_one {x:Str}(sp:Txt.split z BLK=[x,n])(l:z.length≤1900)(hn:nameB n=true)(fo:formsOf x=some [Str.ofString "A"]):Line z x [n] [Str.ofString "A"]:=
 ⟨sp,l,fo,rfl,gd1 (good_A hn)⟩
theorem line_two {x:Str}(sp:Txt.split z BLK=[x,n,m])(l:z.length≤1900)(hn:nameB n=true)(hm:nameB m=true)(fo:formsOf x=some [Str.ofString "A",Str.ofString "A"]):Line z x [n,m] [Str.ofString "A",Str.ofString "A"]:=
 ⟨sp,l,fo,rfl,gdc (good_A hn) (gd1 (good_A hm))⟩
theorem line_peel {x:Str}(sp:Txt.split z BLK=[x,n,m])(l:z.length≤1900)(hn:nameB n=true)(hm:nameB m=true)(fo:formsOf x=some [Str.ofString "A",Str.ofString "N"]):Line z x [n,m] [Str.ofString "A",Str.ofString "N"]:=
 ⟨sp,l,fo,rfl,gdc (good_A hn) (gd1 (good_N hm))⟩
theorem line_num {x:Str}{v:Int}(sp:Txt.split z BLK=[x,n,numT v,m])(l:z.length≤1900)(hn:nameB n=true)(hm:nameB m=true)(hv:v.natAbs<10^30)(fo:formsOf x=some [Str.ofString "A",Str.ofString "K",Str.ofString "N"]):Line z x [n,numT v,m] [Str.ofString "A",Str.ofString "K",Str.ofString "N"]:=
 ⟨sp,l,fo,rfl,gdc (good_A hn) (gdc (good_num hv) (gd1 (good_N hm)))⟩
theorem sayG_row (L:Line z (Str.ofString "row") [n,rowTxt row] [Str.ofString "N",Str.ofString "TEXT"])(dk:DkAt C a d D H)(few:D.length<60)(q:∀H',KeepD d H H'→DkAt C a d (putD D n row) H'→Q (.str "ok") H')
 (inj:∀row',Wd row'→row'.length≤12→rowTxt row=rowTxt row'→row'=row):spSay C c0 c2 c3 c4 [.ref a,.str z] H Q E:=by
 obtain⟨kvs,de,pa⟩:=dk
 refine say_line L de (.inl ⟨rfl,n,_,rfl,by rw[dk_len pa];omega,fun H1 r row' s hr et wd l12=>?_⟩)
 obtain rfl:=inj row' wd l12 et
 have pa1:Paired (Ent H1) D kvs:=L2.Paired.imp' (fun _ _ g=>g.keep fun _ _ e=>s _ _ e) pa
 obtain⟨u1,u2⟩:=dk_upd (n:=n) (de.same s) pa1 hr
 exact q _ (u2.same s) u1
theorem sayG_kept (dk:DkAt C a d D H)(few:D.length≤60)(h8:∀p∈D,p.1.length≤8)(q:∀(ms:List Str) (H':Hp),ms.Perm (D.map (·.1))→sortedS ms=true→Same H H'→Q (.str (Str.join BLK ms)) H'):spSay C c0 c2 c3 c4 [.ref a,.str (Str.ofString "kept")] H Q E:=by
 obtain⟨kvs,de,pa⟩:=dk
 refine say_line (x:=Str.ofString "kept") (rest:=[]) (fs:=[]) ⟨by decide +kernel,by decide +kernel,by decide +kernel,rfl,fun j f y e=>by cases e⟩ de (.inr (.inl ⟨rfl,_,dk_names pa,by rw[length_map];exact few,fun z hz=>?_,q⟩))
 obtain⟨p,hp,rfl⟩:=mem_map.mp hz
 exact h8 p hp
theorem sayG_ask {x:Str}(L:Line z x [n] [Str.ofString "A"])(hk:x≠Str.ofString "kept")(dk:DkAt C a d D H)(ro:rowOf D n=some row)
 (q:∀(H1:Hp) (r:Addr),Same H H1→H1 r=some (.tup (row.map V.int))→AnsR c2 x [.ref r] H1 Q E):spSay C c0 c2 c3 c4 [.ref a,.str z] H Q E:=by
 obtain⟨kvs,de,pa⟩:=dk
 obtain⟨r,hv,hr⟩:=dk_some pa ro
 exact say_line L de (.inr (.inr (.inr (.inl ⟨hk,rfl,n,_,rfl,hv,fun H1 s=>q H1 r s (s _ _ hr)⟩))))
theorem sayG_show (L:Line z (Str.ofString "show") [n] [Str.ofString "A"])(dk:DkAt C a d D H)(ro:rowOf D n=some row)(wr:Wr row)(q:∀H',Same H H'→Q (.str (rowTxt row)) H'):spSay C c0 c2 c3 c4 [.ref a,.str z] H Q E:=
 sayG_ask L (by decide +kernel) dk ro fun H1 r s hr=>.inl ⟨r,row,rfl,hr,.inr (.inr (.inr ⟨rfl,wr,fun H2 s2=>q H2 (s.trans s2)⟩))⟩
theorem sayG_lengths (L:Line z (Str.ofString "lengths") [n] [Str.ofString "A"])(dk:DkAt C a d D H)(ro:rowOf D n=some row)(l12:row.length≤12)(q:∀H',Same H H'→Q (.str (wordsT (lens (outs row.length row)))) H'):spSay C c0 c2 c3 c4 [.ref a,.str z] H Q E:=
 sayG_ask L (by decide +kernel) dk ro fun H1 r s hr=>.inl ⟨r,row,rfl,hr,.inl ⟨rfl,l12,fun H2 s2=>q H2 (s.trans s2)⟩⟩
theorem sayG_takings (L:Line z (Str.ofString "takings") [n] [Str.ofString "A"])(dk:DkAt C a d D H)(ro:rowOf D n=some row)(ok:Ok row row.length)(q:∀H',Same H H'→Q (.str (wordsT (tks row.length row))) H'):spSay C c0 c2 c3 c4 [.ref a,.str z] H Q E:=
 sayG_ask L (by decide +kernel) dk ro fun H1 r s hr=>.inl ⟨r,row,rfl,hr,.inr (.inl ⟨rfl,ok,fun H2 s2=>q H2 (s.trans s2)⟩)⟩
theorem sayG_free (L:Line z (Str.ofString "free") [n] [Str.ofString "A"])(dk:DkAt C a d D H)(ro:rowOf D n=some row)(far:Far row)(q1:∀m,ftF row=some m→∀H',Same H H'→Q (.str (freeT m)) H')(q2:ftF row=none→Refuse H E c2):spSay C c0 c2 c3 c4 [.ref a,.str z] H Q E:=
 sayG_ask L (by decide +kernel) dk ro fun H1 r s hr=>.inl ⟨r,row,rfl,hr,.inr (.inr (.inl ⟨rfl,far,fun m e H2 s2=>q1 m e H2 (s.trans s2),fun e=>(q2 e).same s⟩))⟩
theorem sayG_alike {row2:List Int}(L:Line z (Str.ofString "alike") [n,m] [Str.ofString "A",Str.ofString "A"])(dk:DkAt C a d D H)(ro:rowOf D n=some row)(ro2:rowOf D m=some row2)(l12:row.length≤12)(l12':row2.length≤12)
 (q:∀H',Same H H'→Q (.str (yesT (decide (lens (outs row.length row)=lens (outs row2.length row2))))) H'):spSay C c0 c2 c3 c4 [.ref a,.str z] H Q E:=by
 obtain⟨kvs,de,pa⟩:=dk
 obtain⟨r,hv,hr⟩:=dk_some pa ro
 obtain⟨r',hv',hr'⟩:=dk_some pa ro2
 exact say_line L de (.inr (.inr (.inr (.inr (.inr (.inl ⟨by decide +kernel,rfl,n,m,_,_,rfl,hv,hv',fun H1 s=>.inr ⟨rfl,r,r',row,row2,rfl,s _ _ hr,s _ _ hr',l12,l12',fun H2 s2=>q H2 (s.trans s2)⟩⟩))))))
theorem sayG_peel (L:Line z (Str.ofString "peel") [n,m] [Str.ofString "A",Str.ofString "N"])(dk:DkAt C a d D H)(few:D.length<60)(ro:rowOf D n=some row)(l12:row.length≤12)
 (q:∀H',KeepD d H H'→DkAt C a d (putD D m (BB.peel row)) H'→Q (.str "ok") H'):spSay C c0 c2 c3 c4 [.ref a,.str z] H Q E:=by
 obtain⟨kvs,de,pa⟩:=dk
 obtain⟨r,hv,hr⟩:=dk_some pa ro
 refine say_line L de (.inr (.inr (.inr (.inr (.inr (.inr ⟨by decide +kernel,rfl,n,m,_,rfl,by rw[dk_len pa];omega,hv,fun H1 s=>.inr (.inl ⟨rfl,r,row,rfl,s _ _ hr,l12,fun r' H2 s2 h2=>?_⟩)⟩))))))
 have s12:=s.trans s2
 obtain⟨u1,u2⟩:=dk_upd (n:=m) (de.same s12) (L2.Paired.imp' (fun _ _ g=>g.keep fun _ _ e=>s12 _ _ e) pa) h2
 exact q _ (u2.same s12) u1
theorem sayG_num {x:Str}{v:Int}(L:Line z x [n,numT v,m] [Str.ofString "A",Str.ofString "K",Str.ofString "N"])(hk:x≠Str.ofString "kept")(hv:v.natAbs<10^30)(dk:DkAt C a d D H)(few:D.length<60)(ro:rowOf D n=some row)(far:Far row)
 (q:(x=Str.ofString "later"∧(numB (-60) 60 (.int v)=true→∀H',KeepD d H H'→DkAt C a d (putD D m (BB.lat row.length v row)) H'→Q (.str "ok") H')∧(numB (-60) 60 (.int v)=false→Refuse H E c0))∨
  (x=Str.ofString "small"∧(numB 1 12 (.int v)=true→∀H',KeepD d H H'→DkAt C a d (putD D m (BB.step v.toNat row)) H'→Q (.str "ok") H')∧(numB 1 12 (.int v)=false→Refuse H E c0))):spSay C c0 c2 c3 c4 [.ref a,.str z] H Q E:=by
 obtain⟨kvs,de,pa⟩:=dk
 obtain⟨r,hv',hr⟩:=dk_some pa ro
 refine say_line L de (.inr (.inr (.inr (.inr (.inl ⟨hk,rfl,n,_,m,_,rfl,by rw[dk_len pa];omega,hv',fun H1 v' s n30 et=>?_⟩)))))
 have ev:v'=v:=by
  have:=num_read30 n30
  rw[←et,num_read30 hv]at this
  exact(Option.some.inj this).symm
 subst ev
 have put:∀{row2:List Int} {r':Addr} {H2:Hp},Same H1 H2→H2 r'=some (.tup (row2.map V.int))→(∀H',KeepD d H H'→DkAt C a d (putD D m row2) H'→Q (.str "ok") H')→Q (.str "ok") (upd H2 d (.dK (putK kvs (Sum.inr m) (.ref r')))):=fun s2 h2 qq=>by
  have s12:=s.trans s2
  obtain⟨u1,u2⟩:=dk_upd (n:=m) (de.same s12) (L2.Paired.imp' (fun _ _ g=>g.keep fun _ _ e=>s12 _ _ e) pa) h2
  exact qq _ (u2.same s12) u1
 refine .inr (.inr ⟨r,row,_,rfl,s _ _ hr,far,?_⟩)
 rcases q with⟨rfl,q1,q2⟩ | ⟨rfl,q1,q2⟩
 ·exact .inl ⟨rfl,fun b r' H2 s2 h2=>put s2 h2 (q1 b),fun b=>(q2 b).same s⟩
 ·exact .inr ⟨rfl,fun b r' H2 s2 h2=>put s2 h2 (q1 b),fun b=>(q2 b).same s⟩
end
theorem rows_ns {d:Addr}:([(Str.ofString "rows",V.ref d)]:List (Str×V)).lookup (Str.ofString "say")=none:=by
 show(match(Str.ofString "say"==Str.ofString "rows") with | true=>some (V.ref d) | false=>none)=_
 rw[show(Str.ofString "say"==Str.ofString "rows")=false by decide +kernel]
theorem desk_new {C x dx d:Addr}{H:Hp}(hx:H x=none)(hdx:H dx=none)(hd:(upd (upd H dx (.own x)) x (.ins C dx [])) d=none):∃G:Hp,G=upd (upd (upd (upd H dx (.own x)) x (.ins C dx [])) d (.dK [])) x (.ins C dx [(Str.ofString "rows",.ref d)])∧Same H G∧DkAt C x d [] G∧H d=none:=by
 have dx':d≠x:=fun z=>by rw[z,upd_same]at hd;cases hd
 have hd1:upd H dx (.own x) d=none:=(upd_ne dx').symm.trans hd
 have dn:d≠dx:=fun z=>by rw[z,upd_same]at hd1;cases hd1
 have hd0:H d=none:=(upd_ne dn).symm.trans hd1
 refine⟨_,rfl,fun b o e=>?_,⟨[],⟨dx,upd_same,by rw[upd_ne dx'];exact upd_same⟩,.nil⟩,hd0⟩
 rw[upd_ne (ne_of_none e hx),upd_ne (ne_of_none e hd0),upd_ne (ne_of_none e hx),upd_ne (ne_of_none e hdx)]
 exact e
end K93
namespace K93
open L2
open BB (lens outs)
theorem RowOk.rw {row:List Int}(h:RowOk row):BB.Rw row row.length (-20) 105:=⟨h.up,rfl,h.bd⟩
theorem rw_wd {r:List Int}{k:Nat}{A B:Int}(h:BB.Rw r k A B)(a:-1000000000≤A)(b:B≤1000000000)(w:B - A≤199)(w0:0≤B - A):Wd r:=by
 refine⟨h.up,fun p hp=>by have:=h.bd p hp;omega,?_⟩
 cases r with
 |nil=>show(0:Int) - 0≤199;decide
 |cons p0 rest=>
  obtain⟨_,_,ml⟩:=up_last h.up
  have b1:=h.bd _ ml
  have b2:=h.bd p0 mem_cons_self
  show(p0::rest).getLastD 0 - p0≤199
  omega
theorem RowOk.wd {row:List Int}(h:RowOk row):Wd row:=rw_wd h.rw (by decide) (by decide) (by decide) (by decide)
theorem no_blank (n:Int):32∉(numT n).cps.toList:=int_text_free' 32 ⟨by decide,by decide⟩ n
theorem txt_blank (row:List Int):32∉(rowTxt row).cps.toList:=by
 cases row with
 |nil=>exact(show 32∉NOB.cps.toList by decide +kernel)
 |cons p0 rest=>
  rw[txt_cons,colon_is,app_list,app_list]
  intro m
  rcases mem_append.mp m with m | m
  ·rcases mem_append.mp m with m | m
   ·exact no_blank _ m
   ·simp at m
  ·unfold signsOf at m
   obtain⟨j,_,e⟩:=mem_map.mp m
   split at e<;>cases e
theorem txt_short {row:List Int}(h:Wd row):(rowTxt row).length≤300:=by
 cases row with
 |nil=>exact(show NOB.length≤300 by decide +kernel)
 |cons p0 rest=>
  have b:=h.bd p0 mem_cons_self
  have nl:=num_len (n:=p0) (by omega)
  have sl:=signs_len (p0::rest)
  have wi:=h.wide
  have tl:=txt_len (signsOf (p0::rest))
  rw[txt_cons,Str.length_append,Str.length_append,tl,sl,show(Str.ofString ":").length=1 by decide +kernel]
  have hd:(p0::rest).headD 0=p0:=rfl
  omega
theorem txt_inj {r r':List Int}(h:Wd r)(h':Wd r')(e:rowTxt r=rowTxt r'):r=r':=by
 cases r with
 |nil=>cases r' with
  |nil=>rfl
  |cons p' t'=>exact absurd e.symm (txt_ne p' t')
 |cons p t=>cases r' with
  |nil=>exact absurd e (txt_ne p t)
  |cons p' t'=>
   have b:=h.bd p mem_cons_self
   have b':=h'.bd p' mem_cons_self
   have q:=(txt_part p t).symm.trans ((congrArg (fun z=>partV z (Str.ofString ":")) e).trans (txt_part p' t'))
   injection q with q1 q2
   injection q1 with q1
   injection q2 with _ q3
   injection q3 with q3 _
   injection q3 with q3
   have ep:p=p':=by
    have a1:=num_read (n:=p) (by omega)
    rw[q1,num_read (n:=p') (by omega)]at a1
    exact(Option.some.inj a1).symm
   have es:signsOf (p::t)=signsOf (p'::t'):=by
    have:=congrArg (fun z:Str=>z.cps.toList) q3
    simpa using this
   rw[←read_back h,←read_back h',es,ep]
theorem line_pre {z t:Str}{ws:List Str}{u:Str}(h:z=u++⟨#[32]⟩++t)(hu:Txt.split u BLK=ws)(ht:32∉t.cps.toList):Txt.split z BLK=ws++[t]:=by
 rw[h,blk_is,split_app,split_one ht,←blk_is,hu]
end K93
namespace K93
open L2
structure Nb4 (mg:Str→Option Value):Prop extends Nb3 mg where
 sum:mg "sum" = none
 verr:mg "ValueError" = none
theorem boot_VErr:bootBuiltins "ValueError" = some (.type "ValueError"):=by decide +kernel
structure Errs (K:W.Frag)(mg:Str→Option Value)(b c0 c1 c2 c3 c4:Addr):Prop where
 mb:mg "BallError" = some (.ref b)
 m0:mg "NoNumber" = some (.ref c0)
 m1:mg "NotFree" = some (.ref c1)
 m2:mg "TooLong" = some (.ref c2)
 m3:mg "NoRow" = some (.ref c3)
 m4:mg "BadNote" = some (.ref c4)
 eb:∃bm,Exc K b bm
structure Kind5 (K:W.Frag)(c0 c1 c2 c3 c4 C:Addr)(i:Nat):Prop where
 k0:PySem.W.kitOne K (.ref C) (.ref c0)=some (decide (0=i))
 k1:PySem.W.kitOne K (.ref C) (.ref c1)=some (decide (1=i))
 k2:PySem.W.kitOne K (.ref C) (.ref c2)=some (decide (2=i))
 k3:PySem.W.kitOne K (.ref C) (.ref c3)=some (decide (3=i))
 k4:PySem.W.kitOne K (.ref C) (.ref c4)=some (decide (4=i))
 kv:PySem.W.kitOne K (.ref C) (.type "ValueError")=some true
 lt:i<5
abbrev Rn:VK→VK:=fun Q _ H1=>Q .non H1
def Ec (K:W.Frag)(b c0 c1 c2 c3 c4:Addr):VK→XK:=fun Q c ea H1=>∃C bm e i,c=.ref C∧ea=some e∧H1 e=none∧ExcF K C bm∧(Value.ref C::bm).contains (.ref b)=true∧Kind5 K c0 c1 c2 c3 c4 C i∧
 ∀H2,Same (upd H1 e (ExcO e C)) H2→Q (.int (i:Nat)) H2
theorem runs_imp {P:Program}{w:World}{K:W.Frag}{mg:Str→Option Value}{base:Heap}{k:Nat}{f:Addr}{H:Hp}{Q Q':VK}{E E':XK}(r:Runs P w K mg base k f H Q E)(hq:∀v H1,Q v H1→Q' v H1)(he:∀c a H1,E c a H1→E' c a H1) :
 Runs P w K mg base k f H Q' E':=fun A outer s hr e0=>codeAny_mono (r A outer s hr e0) fun rs s' h=>by
 cases rs with
 |error e=>obtain⟨a,c,H1,e1,F,q⟩:=h;exact⟨a,c,H1,e1,F,he _ _ _ q⟩
 |ok fl=>
  cases fl with
  |ret u=>obtain⟨v,H1,a,b,c,d,e,q⟩:=h;exact⟨v,H1,a,b,c,d,e,hq _ _ q⟩
  |next=>exact h
  |brk=>exact h
  |cont=>exact h
section
variable {P:Program}{w:World}{K:W.Frag}{mg:Str→Option Value}{base:Heap}{b c0 c1 c2 c3 c4:Addr}
theorem ok_L_refused {f:Addr}{fd:FuncData}(F:Fun K "_law_refused" "_law_refused" s_L_refused f fd)(nb:Nb4 mg)(er:Errs K mg b c0 c1 c2 c3 c4) :
 FnOk P w K mg base CX0 8 f fd ["_law_call"] (spRef P w K mg base 7 Rn (Ec K b c0 c1 c2 c3 c4)):=by
 have nd:=sc_L_refused.nd
 refine F.ok (k:=7) sc_L_refused (fun vs H Q E h=>?_) (fun cdv A outer s H vs Q E hr h=>?_)
 ·obtain⟨f,o,fd,rfl,_⟩:=h
  rfl
 obtain⟨f0,o,fd0,rfl,hf,hd,run⟩:=h
 obtain⟨bm,eb⟩:=er.eb
 have c_NoNumber:∃u,mg "NoNumber" = some u∧RelV (.ref c0) u:=⟨_,er.m0,rfl⟩
 have c_NotFree:∃u,mg "NotFree" = some u∧RelV (.ref c1) u:=⟨_,er.m1,rfl⟩
 have c_TooLong:∃u,mg "TooLong" = some u∧RelV (.ref c2) u:=⟨_,er.m2,rfl⟩
 have c_NoRow:∃u,mg "NoRow" = some u∧RelV (.ref c3) u:=⟨_,er.m3,rfl⟩
 have c_BadNote:∃u,mg "BadNote" = some u∧RelV (.ref c4) u:=⟨_,er.m4,rfl⟩
 refine⟨_,(pss_cons (ps_set (i:=1) nd rfl (Or.inl rfl) pe_non)
(pss_cons (ps_try (k:=2) ⟨rfl,rfl,rfl⟩ nd rfl rfl rfl er.mb eb (pb_call (i:=0) hr rfl rfl) (fun A E=>by exact(pss_one (ps_set (i:=1) nd rfl (Or.inl rfl) (pv 2)))))
(pss_cons (ps_if (pt_cmpR op_isN (pv 1) pe_non (nomark _))
(pss_one (ps_ret pe_non))
pss_nil)
(pss_cons (ps_set (i:=3) nd rfl (Or.inl rfl) (pe_lst (pa_cons (pe_callB call_isiE rfl nb.isi boot_isinstance (pa_cons (pv 1) (pa_cons (pe_const c_NoNumber) pa_nil))) (pa_cons (pe_callB call_isiE rfl nb.isi boot_isinstance (pa_cons (pv 1) (pa_cons (pe_const c_NotFree) pa_nil))) (pa_cons (pe_callB call_isiE rfl nb.isi boot_isinstance (pa_cons (pv 1) (pa_cons (pe_const c_TooLong) pa_nil))) pa_nil)))))
(pss_cons (ps_set (i:=3) nd rfl (Or.inl rfl) (pe_op op_cat (pv 3) (pe_lst (pa_cons (pe_callB call_isiE rfl nb.isi boot_isinstance (pa_cons (pv 1) (pa_cons (pe_const c_NoRow) pa_nil))) (pa_cons (pe_callB call_isiE rfl nb.isi boot_isinstance (pa_cons (pv 1) (pa_cons (pe_const c_BadNote) pa_nil))) pa_nil)))))
(pss_cons (ps_if (PW.pt (pw_or (pt_not (pt_truth (pe_callB call_isiE rfl nb.isi boot_isinstance (pa_cons (pv 1) (pa_cons (pe_ty nb.verr boot_VErr) pa_nil))) (fun _=>rfl))) (pw_or1 (pt_cmpR op_ne (pe_callB (call_sumI rfl) rfl nb.sum boot_sum (pa_cons (pe_comp1 (sc:=defScope s_L_refused) (N0:=["_law_call","_law_error","e","_law_sorts"]) (N:=[]) (js:=[]) rfl rfl rfl (by exact⟨rfl,by decide +kernel,by decide +kernel,by decide +kernel,rfl,rfl,by decide,by decide +kernel,by decide +kernel⟩) rfl
(pi_list (pv 3))
(fun _ _ _ _ _=>by exact pts_nil)
(fun _ _ _ _ _=>by exact(pe_callTy call_int1 rfl nb.int boot_int (pa_cons (pv 0) pa_nil)))) pa_nil)) pe_int (nomark _)))))
(pss_one (ps_ret (pe_un un_neg pe_int)))
pss_nil)
(pss_one (ps_ret (pe_bm PySem.F.plainAttrs_list PySem.F.slot_list_index PySem.F.type_list_index mt_indexT (pv 3) (pa_cons pe_bl pa_nil)))))))))),?_⟩
 refine⟨f0,o,fd0,rfl,hf,hd,runs_imp run (fun v H1 q=>?_) (fun c ea H1 q=>?_)⟩
 ·exact⟨_,rfl,rfl,_,rfl,iteT q⟩
 obtain⟨C,bm2,e,i,rfl,rfl,he,ex,hin,kd,q⟩:=q
 refine⟨C,bm2,e,rfl,rfl,ex,hin,_,rfl,?_⟩
 have hE:(upd H1 e (ExcO e C)) e=some (ExcO e C):=upd_same
 generalize upd H1 e (ExcO e C)=G at hE q ⊢
 refine⟨_,rfl,rfl,_,rfl,iteF ?_⟩
 refine⟨_,rfl,e,C,bm2,_,_,rfl,hE,ex,.inl ⟨c0,rfl,kd.k0⟩,_,rfl,e,C,bm2,_,_,rfl,hE,ex,.inl ⟨c1,rfl,kd.k1⟩,_,rfl,e,C,bm2,_,_,rfl,hE,ex,.inl ⟨c2,rfl,kd.k2⟩,(by show 3≤sizeLine;decide),fun p1 hp1=>?_⟩
 have s1:=same_new hp1 (.lst [.bl (decide (0=i)),.bl (decide (1=i)),.bl (decide (2=i))])
 refine⟨_,rfl,_,rfl,e,C,bm2,_,_,rfl,(s1 _ _ hE),ex,.inl ⟨c3,rfl,kd.k3⟩,_,rfl,e,C,bm2,_,_,rfl,(s1 _ _ hE),ex,.inl ⟨c4,rfl,kd.k4⟩,(by show 2≤sizeLine;decide),fun p2 hp2=>?_⟩
 have s2:=same_new hp2 (.lst [.bl (decide (3=i)),.bl (decide (4=i))])
 refine⟨p1,p2,_,_,rfl,rfl,s2 _ _ upd_same,upd_same,(by show 5≤sizeLine;decide),fun p3 hp3=>?_⟩
 have s3:=same_new hp3 (.lst ([.bl (decide (0=i)),.bl (decide (1=i)),.bl (decide (2=i))]++[.bl (decide (3=i)),.bl (decide (4=i))]))
 have h3:(upd (upd (upd G p1 (.lst [.bl (decide (0=i)),.bl (decide (1=i)),.bl (decide (2=i))])) p2 (.lst [.bl (decide (3=i)),.bl (decide (4=i))])) p3 (.lst ([.bl (decide (0=i)),.bl (decide (1=i)),.bl (decide (2=i))]++[.bl (decide (3=i)),.bl (decide (4=i))]))) p3=some (.lst ([decide (0=i),decide (1=i),decide (2=i),decide (3=i),decide (4=i)].map V.bl)):=upd_same
 have s123:=s1.trans (s2.trans s3)
 generalize(upd (upd (upd G p1 (.lst [.bl (decide (0=i)),.bl (decide (1=i)),.bl (decide (2=i))])) p2 (.lst [.bl (decide (3=i)),.bl (decide (4=i))])) p3 (.lst ([.bl (decide (0=i)),.bl (decide (1=i)),.bl (decide (2=i))]++[.bl (decide (3=i)),.bl (decide (4=i))])))=G3 at h3 s123 ⊢
 have hE3:=s123 _ _ hE
 refine⟨_,rfl,e,C,bm2,_,_,rfl,hE3,ex,.inr ⟨"ValueError",rfl,kd.kv⟩,_,rfl,iteF ?_⟩
 generalize hbs:[decide (0=i),decide (1=i),decide (2=i),decide (3=i),decide (4=i)]=bs at h3
 have l5:bs.length=5:=by rw[←hbs];rfl
 refine⟨_,rfl,p3,rfl,⟨_,SqL.of h3⟩,fun D hD=>?_⟩
 refine comp_go 5 (by decide) (fun j=>.int (if bs.getD j false then 1 else 0)) (fun σ=>∃o1,σ=[o1]) _ hD (by exact⟨_,rfl⟩) (by have:=items_lst (K:=K) h3;rw[length_map,l5]at this;exact this) (fun j x σ' H2 hi s4 im hσ R hR=>?_) (fun H' s' hD'=>?_)
 ·obtain⟨o1,rfl⟩:=hσ
  rw[getElem?_map,List.getElem?_eq_getElem (show j<bs.length by omega)]at im
  have ev:x=.bl (bs.getD j false):=by
   have z:=Option.some.inj im
   rw[←z]
   simp[getD_eq_getElem?_getD,List.getElem?_eq_getElem (show j<bs.length by omega)]
  subst ev
  exact⟨_,rfl,.inr ⟨_,rfl,hR _ _ _ ⟨_,rfl⟩ (Same.refl _) rfl⟩⟩
 ·have h3':=s' _ _ h3
  have sm:=s123.trans s'
  have e1:((List.range 5).map fun j=>V.int (if bs.getD j false then 1 else 0))=((List.range 5).map fun j=>if bs.getD j false then(1:Int) else 0).map V.int:=by rw[map_map];rfl
  have i5:i=0∨i=1∨i=2∨i=3∨i=4:=by have:=kd.lt;omega
  have e2:((List.range 5).map fun j=>if bs.getD j false then(1:Int) else 0).sum=1:=by
   rw[←hbs]
   rcases i5 with rfl | rfl | rfl | rfl | rfl<;>decide
  have e3:bs[i]?=some true∧∀j,j<i→bs[j]?=some false:=by
   rw[←hbs]
   rcases i5 with rfl | rfl | rfl | rfl | rfl<;>decide
  refine⟨D,_,rfl,SqL.of (hD'.trans (by rw[e1])),?_⟩
  refine⟨rfl,_,rfl,iteNS (congrArg V.int e2) ?_⟩
  exact⟨_,rfl,.inl ⟨rfl,_,SqL.of h3'⟩,p3,bs,i,rfl,rfl,h3',e3.1,e3.2,q _ sm⟩
end
end K93
namespace L2
theorem runs_mono {P:Program}{w:World}{K:W.Frag}{mg:Str→Option Value}{base:Heap}{k:Nat}{f:Addr}{H:Hp}{Q Q':VK}{E:XK}(r:Runs P w K mg base k f H Q E)(hq:∀v H1,Q v H1→Q' v H1):Runs P w K mg base k f H Q' E:=
 fun A outer s hr e0=>codeAny_mono (r A outer s hr e0) fun rs s' h=>by
  cases rs with
  |error e=>exact h
  |ok fl=>
   cases fl with
   |ret u=>obtain⟨v,H1,a,b,c,d,e,q⟩:=h;exact⟨v,H1,a,b,c,d,e,hq _ _ q⟩
   |next=>exact h
   |brk=>exact h
   |cont=>exact h
abbrev EN:XK:=fun _ _ _=>False
def tCallV (X:Cx)(k i:Nat):TE:=fun σ H Q=>∃f o fd,σ[i]?=some (some (.ref f))∧H f=some (Fz f o)∧o.data=.func fd∧Runs X.prog X.w X.K X.mg X.base k f H Q EN
theorem pe_callV {X:Cx}{k i:Nat}{x:Str}{p cpos:Pos}(hr:Room k X.A)(hN:X.N[i]?=some x)(hv:X.env.scope.names.lookup x=some .local)(hd:(x==("__debug__" : Str))=false:=by decide) :
 PE X (.Call (.Name x p) [] [] cpos) (tCallV X k i):=by
 intro pins s σ H Q I h
 obtain⟨f,o,fd,e1,e2,e3,run⟩:=h
 obtain⟨m,hn,hl⟩:=id I.loc
 obtain⟨u,r,l⟩:=hl i x _ hN e1 (.inl hv)
 obtain rfl:u=.ref f:=r
 have hm:m x=some (.ref f):=by
  rcases l with⟨_,z⟩ | ⟨z,_⟩
  ·exact z
  ·have z:X.env.scope.names.lookup x=some .cell∨X.env.scope.names.lookup x=some .free:=z
   rw[hv]at z
   rcases z with z | z<;>cases z
 refine wpAny_Call_Name_kw (wpAny_Name (wpAny_loadName_local I.ok.kind hv hn hm ?_) hd)
 refine PySem.W.callWith_of (P:=fun h=>h.get? f=some o) rfl (keeps_F e3) (evalArgs_nil3 ⟨fz_get I.hok e2,?_⟩)
 refine wpAny_call (codeAny_mono (run X.A X.stack s hr I.env0) fun rs s' hq=>?_)
 cases rs with
 |error e=>
  obtain⟨_,_,_,_,_,q⟩:=hq
  exact q.elim
 |ok fl=>
  cases fl with
  |ret u=>exact I.after hq
  |next=>exact False.elim hq
  |brk=>exact False.elim hq
  |cont=>exact False.elim hq
def spMade (P:Program)(w:World)(K:W.Frag)(mg:Str→Option Value)(base:Heap)(k:Nat)(Ec:VK→XK):Sp:=fun vs H Q _=>
 ∃f o fd,vs=[.ref f]∧H f=some (Fz f o)∧o.data=.func fd∧Runs P w K mg base k f H (fun _ H1=>H1 f=some (Fz f o)∧Runs P w K mg base k f H1 Q EN) (Ec Q)
def HasM (P:Program)(w:World)(K:W.Frag)(mg:Str→Option Value)(kr k:Nat)(x px:Str)(Ec:VK→XK):Prop:=
 ∃(f:Addr) (fd:FuncData),(∀base,FnOk P w K mg base CX0 kr f fd [px] (spMade P w K mg base k Ec))∧mg x=some (.ref f)∧PySem.W.keepIn K (.ref f)=true∧Binds K fd [px] []
def tMade (X:Cx)(T:Addr)(params:Arguments)(body:Expr)(scope:Scope)(js:List Nat)(Ec:VK→XK)(te:XK→TE):TE:=fun σ H Q=>Tab (lamQ X) H T∧∀f H',LamAt X T params body scope H f H'→
 te (Ec Q) (inner 0 js σ) H' fun _ H1=>Same H' H1∧te EN (inner 0 js σ) H1 Q
section
variable {X:Cx}{T c:Addr}{params:Arguments}{body:Expr}{scope sc:Scope}{x:Str}{p lpos pos:Pos}{k kr k':Nat}{px:Str}{Ec:VK→XK}{te:XK→TE}{N N0:List Str}{js:List Nat}
theorem pe_lambdaM (h:HasM X.prog X.w X.K X.mg kr (k+1) x px Ec)(hr:Room k' X.A)(hcode:X.env.code=.ref c)(C:PySem.W.CodeHd X.base c T)(Bl:BltAt X.mg X.base)(hsc:X.env.scope=sc)(hN:X.N=N0)(S:LamS scope)(B:Blk sc N0 N 0 js scope)
 (hbody:∀(base:Heap) (E:XK) (cl:List (Str×Addr)) (f:Addr) (cd:Value) (A:Around) (outer:List Env) (s:Shared) (H:Hp),Room k (A.deeper (PySem.W.envX (lamQ X) scope s.heap.objs.size f cd cl))→
  PE (lamCx X.prog X.w X.K X.mg base N (lamQ X) scope cl f cd A outer s H E) body (te E))
 (hfn:∀x,X.fn x=true:=by intro _;rfl) (hk:kr≤k':=by decide) (hg:Gl X x:=by rfl)
 (hbind:∀cl pm cd ctv,bindArgs (PySem.W.kla_fn "<lambda>" (lamQ X) params body scope cl pm cd ctv) ⟨[],[]⟩=pure []:=by intros;rfl)
 (hdef:defaultsOf params X.env=([],[]):=by rfl) (hdb:(x==("__debug__" : Str))=false:=by decide):PE X (.Call (.Name x p) [.Lambda params body scope lpos] [] pos) (tMade X T params body scope js Ec te):=by
 subst hsc hN
 obtain⟨r0,fd,F,hm,kp,hb⟩:=h
 intro pins s σ H Q I h
 refine wpAny_Call_Name_kw (ld_glob I hg hm ?_ hdb)
 have ha:PA X [.Lambda params body scope lpos] (tCons (tLam X T params body scope) tNil):=pa_cons (pe_lam hcode C Bl B.cap hdef) pa_nil rfl
 refine PySem.W.callWith_K (h₀:=X.base) I.ok.mod.kin kp (thn (ha pos pins s σ H (fun vs H1=>∃f,vs=[.ref f]∧LamAt X T params body scope H f H1) I ⟨h.1,fun f H1 L=>⟨f,rfl,L⟩⟩) fun us s1 ⟨vs,H1,I1,r,f,ev,L⟩=>⟨I1.kIn,?_⟩) rfl rfl
 subst ev
 have q:=h.2 f H1 L
 obtain⟨cl,pm,c',ctv,oc,vs,t,a1,a2,a3,a4,c1,c2⟩:=L.ob
 have cap:=I1.cap B c1 c2
 have run:=runs_mono (runs_lam (k:=k) a1 a2 a3 a4 S cap (hbind _ _ _ _) (fun A outer s hr=>hbody _ _ _ _ _ _ _ _ _ hr) q) (Q':=fun _ H2=>H2 f=some (Fz f (PySem.W.kla_obj "<lambda>" (lamQ X) params body scope cl pm c' ctv))∧Runs X.prog X.w X.K X.mg (baseOf X.base cl s1.heap) (k+1) f H2 Q EN)
  fun v H2 ⟨sm,q2⟩=>⟨sm _ _ a1,runs_lam (k:=k) (sm _ _ a1) (sm _ _ a2) a3 a4 S cap (hbind _ _ _ _) (fun A outer s hr=>hbody _ _ _ _ _ _ _ _ _ hr) q2⟩
 have hl:us.length=[px].length:=r.length.symm
 refine wpAny_call (codeAny_mono ((F (baseOf X.base cl s1.heap)).run X.A X.stack s1 H1 ⟨us,[]⟩ us [.ref f] Q E0 (hr.mono hk) (I1.env1 hfn c1) (by simpa using hb s1 us I1.kIn (by simpa using hl)) r ⟨f,_,_,rfl,a1,rfl,run⟩) fun rs s' hq=>?_)
 cases rs with
 |error e=>exact False.elim hq
 |ok fl=>
  cases fl with
  |ret u=>exact I1.after hq
  |next=>exact False.elim hq
  |brk=>exact False.elim hq
  |cont=>exact False.elim hq
end
end L2
namespace K93
open L2
section
variable {P:Program}{w:World}{K:W.Frag}{mg:Str→Option Value}{base:Heap}{b c0 c1 c2 c3 c4:Addr}
theorem ok_L_made {f:Addr}{fd:FuncData}(F:Fun K "_law_made" "_law_made" s_L_made f fd)(nb:Nb4 mg)(h_L_refused:Has P w K mg base 8 "_law_refused" ["_law_call"] (spRef P w K mg base 7 Rn (Ec K b c0 c1 c2 c3 c4)))  :
 FnOk P w K mg base CX0 9 f fd ["_law_call"] (spMade P w K mg base 7 (Ec K b c0 c1 c2 c3 c4)):=by
 have nd:=sc_L_made.nd
 refine F.ok (k:=8) sc_L_made (fun vs H Q E h=>?_) (fun cdv A outer s H vs Q E hr h=>?_)
 ·obtain⟨f,o,fd,rfl,_⟩:=h
  rfl
 obtain⟨f0,o,fd0,rfl,hf,hd,run⟩:=h
 refine⟨_,(pss_cons (ps_set (i:=1) nd rfl (Or.inl rfl) (pe_def h_L_refused hr (pa_cons (pv 0) pa_nil)))
(pss_cons (ps_if (pt_cmpR op_isN (pv 1) pe_non (nomark _))
(pss_one (ps_ret (pe_callV (i:=0) (hr.mono (by decide:7≤8)) rfl rfl)))
pss_nil)
(pss_one (ps_ret (pv 1))))),?_⟩
 refine⟨_,rfl,f0,o,fd0,rfl,hf,hd,runs_imp run (fun v H1 q=>?_) (fun c ea H1 q=>?_)⟩
 ·obtain⟨h1,run2⟩:=q
  exact⟨_,rfl,rfl,_,rfl,iteT ⟨f0,o,fd0,rfl,h1,hd,run2⟩⟩
 obtain⟨C,bm,e,i,e1,e2,he,ex,hin,kd,q⟩:=q
 exact⟨C,bm,e,i,e1,e2,he,ex,hin,kd,fun H2 s2=>⟨_,rfl,rfl,_,rfl,iteF ⟨_,rfl,q H2 s2⟩⟩⟩
end
end K93
namespace L2
theorem comp_inv {J:It}{g:TG}{te:TE}{Q:VK}{D:Addr}{H1:Hp}{σ0:St}(n:Nat)(hn:n≤sizeLine)(Pv:Nat→St→Hp→List V→Prop)(itm:Nat→V→Prop)
 (h0:Pv 0 σ0 (upd H1 D (.lst [])) []) (hD:∀i σ H ys,Pv i σ H ys→H D=some (.lst ys)∧ys.length=i)
 (items:∀i σ H ys,Pv i σ H ys→(i<n→J.go i H∧∀x H2,J.yld i H x H2→H2=H∧itm i x)∧(n≤i→J.stop i H))
 (step:∀i x σ H ys,i<n→Pv i σ H ys→itm i x→∀R:St→V→Hp→Prop,(∀σ3 y H5,H5 D=some (.lst ys)→Pv (i+1) σ3 (upd H5 D (.lst (ys++[y]))) (ys++[y])→R σ3 y H5)→g x σ H fun σ3 H3=>te σ3 H3 (R σ3))
 (fin:∀σ H ys,Pv n σ H ys→Q (.ref D) H):cmpW J g tYes te Q D σ0 H1:=by
 refine⟨fun i m σ H=>m=n - i∧i≤n∧∃ys,Pv i σ H ys,⟨n,by omega,Nat.zero_le _,[],h0⟩,?_⟩
 rintro i m σ H ⟨rfl,hi,ys,pv⟩
 by_cases hlt:i<n
 ·obtain⟨go,yl⟩:=(items i σ H ys pv).1 hlt
  refine .inr ⟨go,fun x H2 y=>?_⟩
  obtain⟨rfl,im⟩:=yl x H2 y
  have key:=step i x σ H2 ys hlt pv im (fun σ3 y H5=>∃ys,H5 D=some (.lst ys)∧ys.length<sizeLine∧∃m',m'<n - i∧(m'=n - (i+1)∧i+1≤n∧∃zs,Pv (i+1) σ3 (upd H5 D (.lst (ys++[y]))) zs)) fun σ3 y H5 e p=>by
   have:=(hD _ _ _ _ pv).2
   exact⟨ys,e,by omega,n - (i+1),by omega,rfl,by omega,_,p⟩
  have e:(fun(σ3:St) (H3:Hp)=>te σ3 H3 fun y H5=>∃ys,H5 D=some (.lst ys)∧ys.length<sizeLine∧∃m',m'<n - i∧(m'=n - (i+1)∧i+1≤n∧∃zs,Pv (i+1) σ3 (upd H5 D (.lst (ys++[y]))) zs)) =
   fun(σ3:St) (H3:Hp)=>tYes σ3 H3 fun ok H4=>if ok=true then te σ3 H4 fun y H5=>∃ys,H5 D=some (.lst ys)∧ys.length<sizeLine∧∃m',m'<n - i∧(m'=n - (i+1)∧i+1≤n∧∃zs,Pv (i+1) σ3 (upd H5 D (.lst (ys++[y]))) zs)
    else ∃m',m'<n - i∧(m'=n - (i+1)∧i+1≤n∧∃zs,Pv (i+1) σ3 H4 zs):=by
   funext σ3 H3
   unfold tYes
   dsimp only
   rw[if_pos rfl]
  rw[←e]
  exact key
 ·have e:i=n:=by omega
  subst e
  exact .inl ⟨(items i σ H ys pv).2 (Nat.le_refl _),fin σ H ys pv⟩
end L2
namespace K93
open L2
def spNm:Sp:=fun vs H Q _=>∃(a l:Addr) (x:Int) (b:Bool) (ns:List Str),vs=[.ref a,.ref l]∧StAt H a x b∧H l=some (.lst (ns.map V.str))∧(∀n∈ns,nameB n=true)∧ns.length≤60∧
 ∀(n:Str) (H':Hp) (x':Int),Keep a H H'→StAt H' a x' b→nameB n=true→Q (.str n) H'
theorem name_join {cs:List Nat}(h1:1≤cs.length)(h8:cs.length≤8)(hl:∀c∈cs,c∈LET.cps.toList):nameB (Str.join (Str.ofString "") (cs.map fun c=>(⟨#[c]⟩:Str)))=true:=by
 rw[join_signs]
 unfold nameB
 show(decide (1≤cs.length)&&decide (cs.length≤8)&&cs.all _)=true
 rw[decide_eq_true h1,decide_eq_true h8,all_eq_true.mpr fun c hc=>decide_eq_true (hl c hc)]
 rfl
theorem words_ok:∀n∈[Str.ofString "row",Str.ofString "kept",Str.ofString "show",Str.ofString "none",Str.ofString "later",Str.ofString "zzzzzzzz"],nameB n=true:=by decide +kernel
section
variable {P:Program}{w:World}{K:W.Frag}{mg:Str→Option Value}{base:Heap}
theorem ok_L_name {f:Addr}{fd:FuncData}(F:Fun K "_law_name" "_law_name" s_L_name f fd)(nb:Nb4 mg)(h_L_take:Has P w K mg base 1 "_law_take" ["_law_state_here","_law_many"] (spTake K))  :
 FnOk P w K mg base CX0 2 f fd ["_law_state_here","_law_held"] spNm:=by
 have nd:=sc_L_name.nd
 refine F.ok (k:=1) sc_L_name (fun vs H Q E h=>?_) (fun cdv A outer s H vs Q E hr h=>?_)
 ·obtain⟨a,l,x,b,ns,rfl,_⟩:=h
  rfl
 obtain⟨a,l,x,b,ns,rfl,hS,hl,hn,h60,q⟩:=h
 refine⟨_,(@pss_cons _ _ _ _ _ (ps_set (i:=2) nd rfl (Or.inl rfl) (pe_def h_L_take hr (pa_cons (pv 0) (pa_cons pe_int pa_nil)))) (@pss_cons _ _ _ _ _ (ps_mid (ps_if (PW.pt (pw_and (pt_cmpR op_eq (pv 2) pe_int (nomark _)) (pw_and1 (pt_cmpR (op_neNil hr.units0) (pv 1) (pe_lst pa_nil) (nomark _)))))
(pss_one (ps_ret (pe_ix ix_list (pv 1) (pe_def h_L_take hr (pa_cons (pv 0) (pa_cons (pe_callB call_len_seq rfl nb.len PySem.boot_len (pa_cons (pv 1) pa_nil)) pa_nil))) (fun _ _=>rfl))))
pss_nil)) (@pss_cons _ _ _ _ _ (@ps_if _ _ _ _ _ _ _ _ (pt_cmpR op_eq (pv 2) pe_int (nomark _)) (@pss_one _ _ _ (@ps_ret _ _ _ _ (@pe_ix _ _ _ _ _ _ _ ix_list (@pe_lst _ _ _ _ (@pa_cons _ _ _ _ _ pe_str (pa_cons pe_str (pa_cons pe_str (pa_cons pe_str (pa_cons pe_str (pa_cons pe_str pa_nil))))) rfl)) (pe_def h_L_take hr (pa_cons (pv 0) (pa_cons pe_int pa_nil))) (fun _ _=>rfl)))) pss_nil) (pss_cons (ps_set (i:=3) nd rfl (Or.inr rfl) pe_str)
(pss_one (ps_ret (pe_bm PySem.F.plainAttrs_str PySem.F.slot_str_join PySem.F.type_str_join mt_join pe_str (pa_cons (pe_comp1 (sc:=defScope s_L_name) (N0:=["_law_state_here","_law_held","_law_kind","_law_letters"]) (N:=["_law_state_here","_law_letters"]) (js:=[0,3]) rfl rfl rfl (by exact⟨rfl,by decide +kernel,by decide +kernel,by decide +kernel,rfl,rfl,by decide,by decide +kernel,by decide +kernel⟩) rfl
(pi_range1 rfl nb.range (pa_cons (pe_op op_add pe_int (pe_def h_L_take hr (pa_cons (pv 0) (pa_cons pe_int pa_nil)))) pa_nil))
(fun _ _ _ _ _=>by exact pts_nil)
(fun _ _ _ _ _=>by exact(pe_item_str (pv 2) (pe_def h_L_take hr (pa_cons (pv 1) (pa_cons pe_int pa_nil))) (fun _ _=>rfl)))) pa_nil)))))))),?_⟩
 have la:l≠a:=fun z=>by
  rw[z,hS.1]at hl
  cases ns with
  |nil=>cases hl
  |cons n r=>cases hl
 refine⟨_,rfl,a,x,b,4,rfl,hS,by decide,by decide,fun v1 x1 v10 v11 d1=>?_⟩
 have k1:=keep_upd a H (.lst [.int x1,.bl b])
 have st1:StAt (upd H a (.lst [.int x1,.bl b])) a x1 b:=StAt.upd d1
 have l1:=k1 _ _ la hl
 generalize upd H a (.lst [.int x1,.bl b])=H1 at k1 st1 l1 ⊢
 refine⟨fun σ H2=>∃x2,σ=[some (.ref a),some (.ref l),some (.int v1),none]∧Keep a H H2∧StAt H2 a x2 b,?_,fun σ H2 hm=>?_⟩
 ·refine⟨_,rfl,rfl,_,rfl,?_⟩
  by_cases c:v1=0
  ·rw[c,decide_eq_true rfl]
   refine iteT ⟨_,rfl,(by show 0≤sizeLine;decide),fun e he=>?_⟩
   have s2:=same_new he (.lst [])
   have l2:=s2 _ _ l1
   have st2:=st1.same s2
   have k2:=k1.same s2
   refine⟨l,e,_,rfl,rfl,SqL.of l2,SqL.of upd_same,_,rfl,?_⟩
   generalize upd H1 e (.lst [])=H2 at l2 st2 k2 ⊢
   cases ns with
   |nil=>exact⟨x1,rfl,k2,st2⟩
   |cons n0 r=>
    refine iteT ⟨_,rfl,_,rfl,_,rfl,l,_,rfl,.inl (SqL.of l2),a,x1,b,_,rfl,st2,?_,?_,fun v x3 v0 v1' d3=>?_⟩
    ·rw[length_map,length_cons];omega
    ·rw[length_map];omega
    have k3:=k2.trans (keep_upd a H2 (.lst [.int x3,.bl b]))
    have st3:StAt (upd H2 a (.lst [.int x3,.bl b])) a x3 b:=StAt.upd d3
    have l3:=keep_upd a H2 (.lst [.int x3,.bl b]) _ _ la l2
    obtain⟨m,rfl⟩:=Int.eq_ofNat_of_zero_le v0
    rw[length_map]at v1'
    have ml:m<(n0::r).length:=by omega
    refine⟨l,_,_,.str (n0::r)[m],rfl,rfl,SqL.of l3,atI_nat (by rw[getElem?_map,List.getElem?_eq_getElem ml];rfl),q _ _ _ k3 st3 (hn _ (getElem_mem ml))⟩
  ·rw[decide_eq_false (fun z=>c (by cases z;rfl))]
   exact iteF ⟨x1,rfl,k1,st1⟩
 obtain⟨x2,rfl,k2,st2⟩:=hm
 refine⟨_,rfl,rfl,_,rfl,?_⟩
 by_cases c:v1=1
 ·rw[c,decide_eq_true rfl]
  refine iteT ⟨(by show 6≤sizeLine;decide),fun e he=>?_⟩
  have s3:=same_new he (.lst [.str (Str.ofString "row"),.str (Str.ofString "kept"),.str (Str.ofString "show"),.str (Str.ofString "none"),.str (Str.ofString "later"),.str (Str.ofString "zzzzzzzz")])
  have ea:e≠a:=fun z=>by rw[z,st2.1]at he;cases he
  have st3:=st2.same s3
  have k3:=k2.same s3
  have e3:(upd H2 e (.lst [.str (Str.ofString "row"),.str (Str.ofString "kept"),.str (Str.ofString "show"),.str (Str.ofString "none"),.str (Str.ofString "later"),.str (Str.ofString "zzzzzzzz")])) e=_:=upd_same
  generalize upd H2 e (.lst [.str (Str.ofString "row"),.str (Str.ofString "kept"),.str (Str.ofString "show"),.str (Str.ofString "none"),.str (Str.ofString "later"),.str (Str.ofString "zzzzzzzz")])=H3 at st3 k3 e3 ⊢
  refine⟨_,rfl,a,x2,b,6,rfl,st3,by decide,by decide,fun v x4 v0 v1' d4=>?_⟩
  have k4:=k3.trans (keep_upd a H3 (.lst [.int x4,.bl b]))
  have st4:StAt (upd H3 a (.lst [.int x4,.bl b])) a x4 b:=StAt.upd d4
  have e4:=keep_upd a H3 (.lst [.int x4,.bl b]) _ _ ea e3
  obtain⟨m,rfl⟩:=Int.eq_ofNat_of_zero_le v0
  have ml:m<[Str.ofString "row",Str.ofString "kept",Str.ofString "show",Str.ofString "none",Str.ofString "later",Str.ofString "zzzzzzzz"].length:=by show m<6;omega
  exact⟨e,_,_,.str [Str.ofString "row",Str.ofString "kept",Str.ofString "show",Str.ofString "none",Str.ofString "later",Str.ofString "zzzzzzzz"][m],rfl,rfl,SqL.of e4,atI_nat (by
   have:=congrArg (Option.map V.str) (List.getElem?_eq_getElem ml)
   rw[←getElem?_map]at this
   exact this),q _ _ _ k4 st4 (words_ok _ (getElem_mem ml))⟩
 rw[decide_eq_false (fun z=>c (by cases z;rfl))]
 refine iteF ?_
 -- letters
 refine⟨rfl,_,rfl,a,x2,b,8,rfl,st2,by decide,by decide,fun v x3 v0 v1' d3=>?_⟩
 have k3:=k2.trans (keep_upd a H2 (.lst [.int x3,.bl b]))
 have st3:StAt (upd H2 a (.lst [.int x3,.bl b])) a x3 b:=StAt.upd d3
 generalize upd H2 a (.lst [.int x3,.bl b])=H3 at k3 st3 ⊢
 refine⟨_,_,rfl,rfl,_,rfl,by omega,by omega,fun D hD=>?_⟩
 have Da:D≠a:=fun z=>by rw[z,st3.1]at hD;cases hD
 refine comp_inv (1+v).toNat (by rw[sizeLine_eq];omega) (fun i σ H' ys=>∃(o1:Option V) (cs:List Nat) (x':Int),σ=[o1,some (.ref a),some (.str LET)]∧Keep a H3 H'∧StAt H' a x' b∧H' D=some (.lst ys)∧ys=(cs.map fun c=>(⟨#[c]⟩:Str)).map V.str∧cs.length=i∧∀y∈cs,y∈LET.cps.toList) (fun i x=>x=.int (0+(i:Int))) ?_ (fun i σ H' ys h=>?_) (fun i σ H' ys _=>?_) (fun i x σ H' ys hi h im R hR=>?_) (fun σ H4 ys h=>?_)
 ·exact⟨_,[],x3,rfl,fun c o nc e=>(same_new hD _) c o e,st3.same (same_new hD _),upd_same,rfl,rfl,fun y hy=>absurd hy not_mem_nil⟩
 ·obtain⟨o1,cs,x',rfl,kp,st,hd,rfl,lk,bk⟩:=h
  exact⟨hd,by rw[length_map,length_map];exact lk⟩
 ·exact⟨fun hi=>⟨hi,fun x H2 ⟨e,y⟩=>⟨e,y⟩⟩,fun hi=>hi⟩
 ·obtain⟨o1,cs,x',rfl,kp,st,hd,rfl,lk,bk⟩:=h
  refine⟨_,rfl,_,rfl,a,x',b,26,rfl,st,by decide,by decide,fun v7 y7 v70 v71 d7=>?_⟩
  have k7:=keep_upd a H' (.lst [.int y7,.bl b])
  have st7:StAt (upd H' a (.lst [.int y7,.bl b])) a y7 b:=StAt.upd d7
  have hd7:=k7 _ _ Da hd
  have kp7:=kp.trans k7
  generalize upd H' a (.lst [.int y7,.bl b])=H7 at k7 st7 hd7 kp7 ⊢
  obtain⟨m,rfl⟩:=Int.eq_ofNat_of_zero_le v70
  have sz:LET.cps.size=26:=by decide +kernel
  have ml:m<LET.cps.size:=by omega
  refine⟨LET,_,LET.cps[m],rfl,rfl,v70,by omega,(by show(m:Int)<((LET.cps.size:Nat):Int);omega),(by rw[Int.toNat_natCast];exact Array.getElem?_eq_getElem ml),hR _ _ _ hd7 ⟨_,cs++[LET.cps[m]],y7,rfl,fun c o nc e=>?_,⟨by rw[upd_ne Da.symm];exact st7.1,st7.2⟩,upd_same,by rw[map_append,map_append];rfl,by rw[length_append,length_singleton,lk],fun y hy=>?_⟩⟩
  ·rw[upd_ne (ne_of_none e hD)]
   exact kp7 c o nc e
  ·rcases mem_append.mp hy with z | z
   ·exact bk y z
   ·rw[mem_singleton.mp z]
    exact Array.getElem_mem_toList ml
 obtain⟨o1,cs,x4,rfl,kp,st,hd,rfl,lk,bk⟩:=h
 have l1:1≤cs.length:=by omega
 have l8:cs.length≤8:=by omega
 refine⟨_,D,_,rfl,rfl,hd,by rw[sum_signs,sizeLine_eq];omega,?_,q _ _ _ (k3.trans kp) st (name_join l1 l8 bk)⟩
 rw[join_signs,sizeLine_eq]
 show cs.length≤_
 omega
end
end K93
namespace K93
open L2
def spLText:Sp:=fun vs H Q _=>∃(a:Addr) (row:List Int),vs=[.ref a]∧H a=some (.tup (row.map V.int))∧Wr row∧∀H',Same H H'→Q (.str (rowTxt row)) H'
section
variable {P:Program}{w:World}{K:W.Frag}{mg:Str→Option Value}{base:Heap}
theorem ok_L_row_text {f:Addr}{fd:FuncData}(F:Fun K "_law_row_text" "_law_row_text" s_L_row_text f fd)(nb:NbX mg)   :
 FnOk P w K mg base CX0 1 f fd ["_law_row_here"] spLText:=by
 have nd:=sc_L_row_text.nd
 refine F.ok (k:=0) sc_L_row_text (fun vs H Q E h=>?_) (fun cdv A outer s H vs Q E hr h=>?_)
 ·obtain⟨a,row,rfl,_⟩:=h
  rfl
 obtain⟨a,row,rfl,ha,wd,q⟩:=h
 refine⟨_,(pss_cons (ps_if (pt_cmpR (op_eqT hr.units0) (pv 0) (pe_tup pa_nil) (nomark _))
(pss_one (ps_ret pe_str))
pss_nil)
(pss_cons (ps_comp1 (ii:=1) nd rfl (Or.inl rfl) (sc:=defScope s_L_row_text) (N0:=["_law_row_here","_law_signs"]) (N:=["_law_row_here"]) (js:=[0]) rfl rfl rfl (by exact⟨rfl,by decide +kernel,by decide +kernel,by decide +kernel,rfl,rfl,by decide,by decide +kernel,by decide +kernel⟩) rfl
(pi_range2 rfl nb.range (pa_cons (pe_ix ix_tup (pv 0) pe_int (fun _ _=>rfl)) (pa_cons (pe_op op_add (pe_ix ix_tup (pv 0) (pe_un un_neg pe_int) (fun _ _=>rfl)) pe_int) pa_nil)))
(fun _ _ _ _ _=>by exact pts_nil)
(fun _ _ _ _ _=>by exact(pe_ifExp (pt_cmpR (op_inK K rfl) (pv 0) (pv 1) rfl) pe_str pe_str)))
(pss_one (ps_ret (pe_op op_add_str (pe_op op_add_str (pe_callTy call_str_int rfl nb.str boot_str (pa_cons (pe_ix ix_tup (pv 0) pe_int (fun _ _=>rfl)) pa_nil)) pe_str) (pe_bm PySem.F.plainAttrs_str PySem.F.slot_str_join PySem.F.type_str_join mt_join pe_str (pa_cons (pv 1) pa_nil))))))),?_⟩
 refine⟨_,rfl,(by show 0≤sizeLine;decide),fun e0 he0=>?_⟩
 have s0:=same_new he0 (.tup [])
 have hE:(upd H e0 (.tup [])) e0=some (.tup (([]:List Int).map V.int)):=upd_same
 generalize upd H e0 (.tup [])=H0 at s0 hE ⊢
 refine⟨a,e0,_,_,rfl,rfl,SqT.of (s0 _ _ ha),SqT.of hE,_,rfl,?_⟩
 cases row with
 |nil=>
  rw[decide_eq_true rfl]
  exact iteT (q H0 s0)
 |cons p0 rest=>
  rw[decide_eq_false (by simp)]
  refine iteF ?_
  obtain⟨el,ge,ml⟩:=up_last wd.up
  have bl:=wd.bd _ ml
  have b0:=wd.bd p0 mem_cons_self
  have wi:=wd.wide
  have hd0:(p0::rest).headD 0=p0:=rfl
  rw[hd0]at wi
  have sl:=signs_len (p0::rest)
  rw[hd0]at sl
  have sa:=signs_are (p0::rest)
  rw[hd0]at sa
  have ih:atI ((p0::rest).map V.int) ((0:Nat):Int)=some (.int p0):=atI_nat rfl
  have il:=at_last el
  have js:=join_signs (signsOf (p0::rest))
  have ss:=sum_signs (signsOf (p0::rest))
  have n0:p0.natAbs<10^10:=by omega
  have nl:=num_len n0
  have tx:rowTxt (p0::rest)=numT p0++Str.ofString ":"++⟨(signsOf (p0::rest)).toArray⟩:=by
   unfold rowTxt
   rw[if_neg (by simp)]
   rfl
  rw[tx]at q
  generalize hL:(p0::rest).getLastD 0=last at *
  generalize hG:signsOf (p0::rest)=sg at *
  refine⟨_,rfl,a,_,_,_,rfl,rfl,SqT.of (s0 _ _ ha),ih,_,rfl,_,rfl,a,_,_,_,rfl,rfl,SqT.of (s0 _ _ ha),il,_,_,rfl,rfl,_,_,rfl,⟨by omega,by omega,by omega,by omega⟩,fun D hD=>?_⟩
  refine comp_go (last+1 - p0).toNat (by rw[sizeLine_eq];omega) (fun(j:Nat)=>.str (if p0+(j:Int)∈(p0::rest) then Str.ofString "o" else Str.ofString ".")) (fun σ=>∃o1,σ=[o1,some (.ref a)]) (fun i H' x=>x=.int (p0+(i:Int))) hD ⟨_,rfl⟩ (fun i H' _=>items_rng p0 _ i H' (Same.refl _)) (fun i x σ' H2 hi s2 im hσ R hR=>?_) (fun H1 s1 hD1=>?_)
  ·obtain⟨o1,rfl⟩:=hσ
   subst im
   refine⟨_,rfl,_,rfl,a,_,rfl,.inr (SqT.of (s2 _ _ (s0 _ _ ha))),rfl,flat_nums _,_,rfl,?_⟩
   rw[in_nums]
   by_cases m:p0+(i:Int)∈p0::rest
   ·rw[decide_eq_true m]
    exact iteT (hR _ _ _ ⟨_,rfl⟩ (Same.refl _) (by rw[if_pos m]))
   ·rw[decide_eq_false m]
    exact iteF (hR _ _ _ ⟨_,rfl⟩ (Same.refl _) (by rw[if_neg m]))
  rw[sa]at hD1
  refine⟨_,rfl,a,_,_,_,rfl,rfl,SqT.of (s1 _ _ (s0 _ _ ha)),ih,_,rfl,num_log n0,_,_,rfl,rfl,?_,?_⟩
  ·rw[sizeLine_eq]
   show(numT p0).length+1≤_
   omega
  ·refine⟨rfl,_,rfl,_,D,_,rfl,rfl,hD1,by rw[ss,sizeLine_eq];omega,by rw[js,txt_len,sizeLine_eq];omega,?_⟩
   rw[js]
   refine⟨_,_,rfl,rfl,?_,q H1 (s0.trans s1)⟩
   rw[Str.length_append,txt_len,sizeLine_eq]
   show(numT p0).length+1+sg.length≤_
   omega
end
end K93
namespace K93
open L2
section
variable {P:Program}{w:World}{K:W.Frag}{mg:Str→Option Value}{base:Heap}
theorem ok_L_numbersL {f:Addr}{fd:FuncData}(F:Fun K "_law_numbers" "_law_numbers" s_L_numbers f fd)(nb:NbX mg)   :
 FnOk P w K mg base CX0 1 f fd ["_law_row_here"] spNtL:=by
 have nd:=sc_L_numbers.nd
 refine F.ok (k:=0) sc_L_numbers (fun vs H Q E h=>?_) (fun cdv A outer s H vs Q E hr h=>?_)
 ·obtain⟨a,ns,rfl,_⟩:=h
  rfl
 obtain⟨a,ns,rfl,ha,fw,q⟩:=h
 refine⟨_,(pss_cons (ps_if (pt_cmpR op_eq (pe_callB call_len_seq rfl nb.len PySem.boot_len (pa_cons (pv 0) pa_nil)) pe_int (nomark _))
(pss_one (ps_ret pe_str))
pss_nil)
(pss_one (ps_ret (pe_bm PySem.F.plainAttrs_str PySem.F.slot_str_join PySem.F.type_str_join mt_join pe_str (pa_cons (pe_comp1 (sc:=defScope s_L_numbers) (N0:=["_law_row_here"]) (N:=[]) (js:=[]) rfl rfl rfl (by exact⟨rfl,by decide +kernel,by decide +kernel,by decide +kernel,rfl,rfl,by decide,by decide +kernel,by decide +kernel⟩) rfl
(pi_list (pv 0))
(fun _ _ _ _ _=>by exact pts_nil)
(fun _ _ _ _ _=>by exact(pe_callTy call_str_int rfl nb.str boot_str (pa_cons (pv 0) pa_nil)))) pa_nil))))),?_⟩
 refine⟨_,rfl,a,_,rfl,.inl (SqL.of ha),rfl,_,rfl,?_⟩
 cases ns with
 |nil=>
  rw[show decide (V.int (((([]:List Int).map V.int).length:Nat):Int)=V.int 0)=true from decide_eq_true rfl]
  exact iteT (q H (Same.refl H))
 |cons n0 rest=>
  rw[decide_eq_false (fun z=>by cases z)]
  refine iteF ?_
  refine⟨rfl,_,rfl,a,rfl,⟨_,SqL.of ha⟩,fun D hD=>?_⟩
  have few:=fw.1
  have ff:=few_fit fw
  refine comp_go (n0::rest).length (by rw[sizeLine_eq];omega) (fun i=>.str (numT ((n0::rest).getD i 0))) (fun σ=>∃o1,σ=[o1]) _ hD ⟨_,rfl⟩ (by have:=items_lst (K:=K) ha;rw[length_map]at this;exact this) (fun i x σ' H2 hi s2 im hσ R hR=>?_) (fun H1 s1 hD1=>?_)
  ·obtain⟨o1,rfl⟩:=hσ
   obtain rfl:=num_at im
   refine⟨_,rfl,_,rfl,?_,hR _ _ _ ⟨_,rfl⟩ (Same.refl _) rfl⟩
   have b:=fw.2 ((n0::rest).getD i 0) (by rw[getD_eq_getElem?_getD,List.getElem?_eq_getElem hi];exact getElem_mem hi)
   exact num_log (by omega)
  ·rw[range_words]at hD1
   refine⟨_,D,_,rfl,rfl,hD1,by rw[sizeLine_eq];omega,by rw[sizeLine_eq];omega,?_⟩
   have:=q H1 s1
   unfold wordsT at this
   rw[if_neg (by simp)]at this
   exact this
theorem ok_L_numbersT {f:Addr}{fd:FuncData}(F:Fun K "_law_numbers" "_law_numbers" s_L_numbers f fd)(nb:NbX mg)   :
 FnOk P w K mg base CX0 1 f fd ["_law_row_here"] spNtT:=by
 have nd:=sc_L_numbers.nd
 refine F.ok (k:=0) sc_L_numbers (fun vs H Q E h=>?_) (fun cdv A outer s H vs Q E hr h=>?_)
 ·obtain⟨a,ns,rfl,_⟩:=h
  rfl
 obtain⟨a,ns,rfl,ha,fw,q⟩:=h
 refine⟨_,(pss_cons (ps_if (pt_cmpR op_eq (pe_callB call_len_seq rfl nb.len PySem.boot_len (pa_cons (pv 0) pa_nil)) pe_int (nomark _))
(pss_one (ps_ret pe_str))
pss_nil)
(pss_one (ps_ret (pe_bm PySem.F.plainAttrs_str PySem.F.slot_str_join PySem.F.type_str_join mt_join pe_str (pa_cons (pe_comp1 (sc:=defScope s_L_numbers) (N0:=["_law_row_here"]) (N:=[]) (js:=[]) rfl rfl rfl (by exact⟨rfl,by decide +kernel,by decide +kernel,by decide +kernel,rfl,rfl,by decide,by decide +kernel,by decide +kernel⟩) rfl
(pi_tup (pv 0))
(fun _ _ _ _ _=>by exact pts_nil)
(fun _ _ _ _ _=>by exact(pe_callTy call_str_int rfl nb.str boot_str (pa_cons (pv 0) pa_nil)))) pa_nil))))),?_⟩
 refine⟨_,rfl,a,_,rfl,.inr (SqT.of ha),rfl,_,rfl,?_⟩
 cases ns with
 |nil=>
  rw[show decide (V.int (((([]:List Int).map V.int).length:Nat):Int)=V.int 0)=true from decide_eq_true rfl]
  exact iteT (q H (Same.refl H))
 |cons n0 rest=>
  rw[decide_eq_false (fun z=>by cases z)]
  refine iteF ?_
  refine⟨rfl,_,rfl,a,rfl,⟨_,SqT.of ha⟩,fun D hD=>?_⟩
  have few:=fw.1
  have ff:=few_fit fw
  refine comp_go (n0::rest).length (by rw[sizeLine_eq];omega) (fun i=>.str (numT ((n0::rest).getD i 0))) (fun σ=>∃o1,σ=[o1]) _ hD ⟨_,rfl⟩ (by have:=items_tup (K:=K) ha;rw[length_map]at this;exact this) (fun i x σ' H2 hi s2 im hσ R hR=>?_) (fun H1 s1 hD1=>?_)
  ·obtain⟨o1,rfl⟩:=hσ
   obtain rfl:=num_at im
   refine⟨_,rfl,_,rfl,?_,hR _ _ _ ⟨_,rfl⟩ (Same.refl _) rfl⟩
   have b:=fw.2 ((n0::rest).getD i 0) (by rw[getD_eq_getElem?_getD,List.getElem?_eq_getElem hi];exact getElem_mem hi)
   exact num_log (by omega)
  ·rw[range_words]at hD1
   refine⟨_,D,_,rfl,rfl,hD1,by rw[sizeLine_eq];omega,by rw[sizeLine_eq];omega,?_⟩
   have:=q H1 s1
   unfold wordsT at this
   rw[if_neg (by simp)]at this
   exact this
end
end K93
namespace K93
open L2
open BB (lens outs)
structure Nr (i:Nat)(row:List Int):Prop where
 len:row.length≤12
 up:row.Pairwise (· < ·)
 bd:∀p∈row,-(200+40*(i:Int))≤p∧p≤200+40*(i:Int)
theorem Nr.mono {i j:Nat}{row:List Int}(h:Nr i row)(le:i≤j):Nr j row:=⟨h.len,h.up,fun p hp=>by have:=h.bd p hp;omega⟩
theorem Nr.far {i:Nat}{row:List Int}(h:Nr i row)(hi:i≤6):Far row:=⟨h.len,h.up,fun p hp=>by have:=h.bd p hp;omega⟩
theorem Nr.wr {i:Nat}{row:List Int}(h:Nr i row)(hi:i≤6):Wr row:=by
 refine⟨h.up,fun p hp=>by have:=h.bd p hp;omega,?_⟩
 cases row with
 |nil=>decide
 |cons p0 rest=>
  obtain⟨_,_,m⟩:=up_last h.up
  have b1:=h.bd _ m
  have b2:=h.bd p0 mem_cons_self
  show(p0::rest).getLastD 0 - p0≤1500
  omega
theorem RowOk.nr {row:List Int}(h:RowOk row):Nr 0 row:=⟨h.len,h.up,fun p hp=>by have:=h.bd p hp;omega⟩
theorem Nr.rw {i:Nat}{row:List Int}(h:Nr i row):BB.Rw row row.length (-(200+40*(i:Int))) (200+40*(i:Int)):=⟨h.up,rfl,h.bd⟩
theorem nr_of {r:List Int}{k i:Nat}{A B:Int}(h:BB.Rw r k A B)(k12:k≤12)(a:-(200+40*(i:Int))≤A)(b:B≤200+40*(i:Int)):Nr i r:=
 ⟨by rw[h.len];exact k12,h.up,fun p hp=>by have:=h.bd p hp;omega⟩
theorem Nr.small {i:Nat}{row:List Int}(h:Nr i row)(z:Nat):Nr (i+1) (BB.step z row):=nr_of (h.rw.step z) h.len (by omega) (by have:=h.len;omega)
theorem Nr.peel {i:Nat}{row:List Int}(h:Nr i row):Nr (i+1) (BB.peel row):=
 ⟨Nat.le_trans (BB.peel_le row) h.len,BB.peel_up h.up,fun p hp=>by have:=BB.peel_bd h.len h.bd p hp;omega⟩
theorem lat_near {r:List Int}{k:Nat}{A B:Int}(h:BB.Rw r k A B){s:Int}(h1:-2≤s)(h3:s≤3):BB.Rw (BB.lat k s r) k (A - 3*(k:Int)) (B+3*(k:Int)):=by
 have l0:BB.Rw (BB.lat k 0 r) k A B:=h
 have l1:BB.Rw (BB.lat k 1 r) k A (B+(k:Int)):=by have:=l0.step k;rw[←BB.lat_succ h 0]at this;exact this
 have l2:BB.Rw (BB.lat k 2 r) k A (B+(k:Int)+(k:Int)):=by have:=l1.step k;rw[←BB.lat_succ h 1]at this;exact this
 have l3:BB.Rw (BB.lat k 3 r) k A (B+(k:Int)+(k:Int)+(k:Int)):=by have:=l2.step k;rw[←BB.lat_succ h 2]at this;exact this
 have m1:BB.Rw (BB.lat k (-1) r) k (A - (k:Int)) B:=by have:=l0.unstep k;rw[←BB.lat_pred h 0]at this;exact this
 have m2:BB.Rw (BB.lat k (-2) r) k (A - (k:Int) - (k:Int)) B:=by have:=m1.unstep k;rw[←BB.lat_pred h (-1)]at this;exact this
 have c:s=-2∨s=-1∨s=0∨s=1∨s=2∨s=3:=by omega
 rcases c with rfl | rfl | rfl | rfl | rfl | rfl
 ·exact m2.mono (by omega) (by omega)
 ·exact m1.mono (by omega) (by omega)
 ·exact l0.mono (by omega) (by omega)
 ·exact l1.mono (by omega) (by omega)
 ·exact l2.mono (by omega) (by omega)
 ·exact l3.mono (by omega) (by omega)
theorem Nr.later {i:Nat}{row:List Int}(h:Nr i row){s:Int}(h1:-2≤s)(h3:s≤3):Nr (i+1) (BB.lat row.length s row):=
 nr_of (lat_near h.rw h1 h3) h.len (by have:=h.len;omega) (by have:=h.len;omega)
structure DOk (i:Nat)(D:Dk):Prop where
 len:D.length≤i
 nm:∀p∈D,nameB p.1=true
 rw:∀p∈D,Nr i p.2
theorem DOk.nil:DOk 0 []:=⟨Nat.le_refl _,fun p hp=>absurd hp not_mem_nil,fun p hp=>absurd hp not_mem_nil⟩
theorem DOk.next {i:Nat}{D:Dk}(h:DOk i D):DOk (i+1) D:=⟨by have:=h.len;omega,h.nm,fun p hp=>(h.rw p hp).mono (by omega)⟩
theorem DOk.put {i:Nat}{D:Dk}{n:Str}{row:List Int}(h:DOk i D)(hn:nameB n=true)(hr:Nr (i+1) row):DOk (i+1) (putD D n row):=by
 have m:∀p∈putD D n row,p=(n,row)∨p∈D:=fun p hp=>by
  unfold putD at hp
  split at hp
  ·obtain⟨q,hq,e⟩:=mem_map.mp hp
   by_cases c:q.1=n
   ·rw[if_pos c]at e;left;rw[←e,c]
   ·rw[if_neg c]at e;right;rw[←e];exact hq
  ·rcases mem_append.mp hp with z | z
   ·exact .inr z
   ·exact .inl (mem_singleton.mp z)
 refine⟨by have:=put_len D n row;have:=h.len;omega,fun p hp=>?_,fun p hp=>?_⟩
 ·rcases m p hp with rfl | z
  ·exact hn
  ·exact h.nm p z
 ·rcases m p hp with rfl | z
  ·exact hr
  ·exact(h.rw p z).mono (by omega)
theorem row_mem {D:Dk}{n:Str}{row:List Int}(h:rowOf D n=some row):(n,row)∈D:=by
 unfold rowOf at h
 cases e:D.find? fun p=>decide (p.1=n) with
 |none=>rw[e]at h;cases h
 |some p=>
  rw[e]at h
  cases h
  have h1:=List.find?_some e
  have this:p.1=n:=of_decide_eq_true h1
  have m:=List.mem_of_find?_eq_some e
  rw[←this]
  exact m
theorem row_some {D:Dk}{n:Str}(h:n∈D.map (·.1)):∃row,rowOf D n=some row:=by
 obtain⟨p,hp,rfl⟩:=mem_map.mp h
 unfold rowOf
 cases e:D.find? fun q=>decide (q.1=p.1) with
 |none=>have:=find?_eq_none.mp e p hp;simp at this
 |some q=>exact⟨q.2,rfl⟩
theorem DOk.row {i:Nat}{D:Dk}{n:Str}{row:List Int}(h:DOk i D)(ro:rowOf D n=some row):Nr i row∧nameB n=true:=⟨h.rw _ (row_mem ro),h.nm _ (row_mem ro)⟩
def KpAt (kd:Addr)(D:Dk)(H:Hp):Prop:=∃kvs,H kd=some (.dK kvs)∧Paired (Ent H) D kvs
theorem KpAt.same {kd:Addr}{D:Dk}{H H':Hp}(h:KpAt kd D H)(s:Same H H'):KpAt kd D H':=by
 obtain⟨kvs,h1,h2⟩:=h
 exact⟨kvs,s _ _ h1,L2.Paired.imp' (fun _ _ g=>g.keep fun _ _ e=>s _ _ e) h2⟩
theorem KpAt.keep {kd a:Addr}{D:Dk}{H H':Hp}{o:HO}(h:KpAt kd D H)(k:Keep a H H')(ha:H a=some o)(n1:∀kvs,o≠.dK kvs)(n2:∀xs,o≠.tup xs):KpAt kd D H':=by
 obtain⟨kvs,h1,h2⟩:=h
 exact⟨kvs,k _ _ (fun z=>by rw[z,ha]at h1;exact n1 _ (Option.some.inj h1)) h1,L2.Paired.imp' (fun _ _ g=>g.keep fun r xs e=>k _ _ (fun z=>by rw[z,ha]at e;exact n2 _ (Option.some.inj e)) e) h2⟩
theorem KpAt.get {kd:Addr}{D:Dk}{H:Hp}{n:Str}{row:List Int}(h:KpAt kd D H)(ro:rowOf D n=some row):∃r,DGet H kd (.str n) (some (.ref r))∧H r=some (.tup (row.map V.int)):=by
 obtain⟨kvs,h1,h2⟩:=h
 obtain⟨r,e1,e2⟩:=dk_some h2 ro
 refine⟨r,?_,e2⟩
 have:=DGet.k (k:=Sum.inr n) h1
 rw[e1]at this
 exact this
def SayA (z:Str)(D:Dk)(n:Str)(row:List Int):Prop:=∀{C a d c0 c2 c3 c4:Addr} {H:Hp} {Q:VK} {E:XK},DkAt C a d D H→(∀H',KeepD d H H'→DkAt C a d (putD D n row) H'→Q (.str "ok") H')→spSay C c0 c2 c3 c4 [.ref a,.str z] H Q E
def SayB (z:Str)(D:Dk):Prop:=∀{C a d c0 c2 c3 c4:Addr} {H:Hp} {Q:VK} {E:XK},DkAt C a d D H→Refuse H E c0→spSay C c0 c2 c3 c4 [.ref a,.str z] H Q E
theorem name_len {n:Str}(h:nameB n=true):1≤n.length∧n.length≤8:=by
 unfold nameB at h
 simp only[and_eq_true,decide_eq_true_eq]at h
 have e:n.length=n.cps.toList.length:=(length_toList ..).symm
 omega
theorem name_blank {n:Str}(h:nameB n=true):32∉n.cps.toList:=fun m=>by
 unfold nameB at h
 simp only[and_eq_true,decide_eq_true_eq,all_eq_true]at h
 exact absurd (h.2 32 m) (by decide +kernel)
theorem say_row {D:Dk}{n:Str}{row:List Int}(hn:nameB n=true)(hr:RowOk row)(few:D.length<60):SayA (Str.ofString "row "++n++Str.ofString " "++rowTxt row) D n row:=by
 intro C a d c0 c2 c3 c4 H Q E dk q
 have sp:Txt.split (Str.ofString "row "++n++Str.ofString " "++rowTxt row) BLK=[Str.ofString "row",n,rowTxt row]:=by
  refine(line_pre (u:=Str.ofString "row "++n) (ws:=[Str.ofString "row",n]) (by rw[show Str.ofString " " = (⟨#[32]⟩:Str) by decide +kernel]) ?_ (txt_blank row))
  exact line_pre (u:=Str.ofString "row") (ws:=[Str.ofString "row"]) (by rw[show Str.ofString "row " = Str.ofString "row"++(⟨#[32]⟩:Str) by decide +kernel]) (by decide +kernel) (name_blank hn)
 refine sayG_row (line_row sp ?_ hn hr.wd hr.len) dk few q fun row' wd' _ e=>(txt_inj hr.wd wd' e).symm
 have:=txt_short hr.wd
 have:=(name_len hn).2
 rw[Str.length_append,Str.length_append,Str.length_append,show(Str.ofString "row ").length=4 by decide +kernel,show(Str.ofString " ").length=1 by decide +kernel]
 omega
theorem join_len {ps:List Str}{m:Nat}(h:∀p∈ps,p.length≤m):(Str.join BLK ps).length≤ps.length*(m+1):=by
 have jl:=StrLaws.join_length_le BLK ps
 rw[show BLK.length=1 by decide +kernel]at jl
 have:(ps.map (·.length)).sum≤ps.length*m:=by
  clear jl
  induction ps with
  |nil=>simp
  |cons p r ih=>
   have:=h p mem_cons_self
   have:=ih fun q hq=>h q (mem_cons_of_mem _ hq)
   simp only[map_cons,sum_cons,length_cons,Nat.succ_mul]
   omega
 rw[Nat.mul_succ]
 omega
theorem num_8 {s:Int}(h1:-61≤s)(h2:s≤61):(numT s).length≤11:=num_len (by omega)
theorem line4 {x n m:Str}{s:Int}(hx:x=Str.ofString "later"∨x=Str.ofString "small")(hn:nameB n=true)(hm:nameB m=true)(h1:-61≤s)(h2:s≤61):Line (Str.join BLK [x,n,numT s,m]) x [n,numT s,m] [Str.ofString "A",Str.ofString "K",Str.ofString "N"]:=by
 have lx:x.length≤11∧32∉x.cps.toList∧formsOf x=some [Str.ofString "A",Str.ofString "K",Str.ofString "N"]:=by
  rcases hx with rfl | rfl<;>decide +kernel
 have ln:=name_len hn
 have lm:=name_len hm
 have l4:=num_8 h1 h2
 refine line_num ?_ ?_ hn hm (by omega) lx.2.2
 ·rw[blk_is]
  refine split_join 32 (by simp) fun p hp=>?_
  simp only[mem_cons,not_mem_nil,or_false]at hp
  rcases hp with rfl | rfl | rfl | rfl
  ·exact lx.2.1
  ·exact name_blank hn
  ·exact no_blank s
  ·exact name_blank hm
 ·refine Nat.le_trans (join_len (m:=11) fun p hp=>?_) (by show 4*12≤1900;decide)
  simp only[mem_cons,not_mem_nil,or_false]at hp
  rcases hp with rfl | rfl | rfl | rfl
  ·exact lx.1
  ·omega
  ·exact l4
  ·omega
section
variable {D:Dk}{n m:Str}{row:List Int}{s:Int}
theorem say_later (hn:nameB n=true)(hm:nameB m=true)(h1:-61≤s)(h2:s≤61)(ro:rowOf D n=some row)(far:Far row)(few:D.length<60) :
 (-60≤s∧s≤60→SayA (Str.join BLK [Str.ofString "later",n,numT s,m]) D m (BB.lat row.length s row))∧(¬(-60≤s∧s≤60)→SayB (Str.join BLK [Str.ofString "later",n,numT s,m]) D):=by
 have L:=line4 (.inl rfl) hn hm h1 h2
 refine⟨fun h C a d c0 c2 c3 c4 H Q E dk q=>?_,fun h C a d c0 c2 c3 c4 H Q E dk q=>?_⟩
 ·exact sayG_num L (by decide +kernel) (by omega) dk few ro far (.inl ⟨rfl,fun _=>q,fun z=>absurd (numB_int.mpr h) (by rw[z];exact Bool.false_ne_true)⟩)
 ·exact sayG_num L (by decide +kernel) (by omega) dk few ro far (.inl ⟨rfl,fun z=>absurd (numB_int.mp z) h,fun _=>q⟩)
theorem say_small (hn:nameB n=true)(hm:nameB m=true)(h1:0≤s)(h2:s≤13)(ro:rowOf D n=some row)(far:Far row)(few:D.length<60) :
 (1≤s∧s≤12→SayA (Str.join BLK [Str.ofString "small",n,numT s,m]) D m (BB.step s.toNat row))∧(¬(1≤s∧s≤12)→SayB (Str.join BLK [Str.ofString "small",n,numT s,m]) D):=by
 have L:=line4 (s:=s) (.inr rfl) hn hm (by omega) (by omega)
 refine⟨fun h C a d c0 c2 c3 c4 H Q E dk q=>?_,fun h C a d c0 c2 c3 c4 H Q E dk q=>?_⟩
 ·exact sayG_num L (by decide +kernel) (by omega) dk few ro far (.inr ⟨rfl,fun _=>q,fun z=>absurd (numB_int.mpr h) (by rw[z];exact Bool.false_ne_true)⟩)
 ·exact sayG_num L (by decide +kernel) (by omega) dk few ro far (.inr ⟨rfl,fun z=>absurd (numB_int.mp z) h,fun _=>q⟩)
theorem say_peel (hn:nameB n=true)(hm:nameB m=true)(ro:rowOf D n=some row)(l12:row.length≤12)(few:D.length<60):SayA (Str.join BLK [Str.ofString "peel",n,m]) D m (BB.peel row):=by
 intro C a d c0 c2 c3 c4 H Q E dk q
 have ln:=name_len hn
 have lm:=name_len hm
 refine sayG_peel (line_peel ?_ ?_ hn hm (by decide +kernel)) dk few ro l12 q
 ·rw[blk_is]
  refine split_join 32 (by simp) fun p hp=>?_
  simp only[mem_cons,not_mem_nil,or_false]at hp
  rcases hp with rfl | rfl | rfl
  ·decide +kernel
  ·exact name_blank hn
  ·exact name_blank hm
 ·refine Nat.le_trans (join_len (m:=11) fun p hp=>?_) (by show 3*12≤1900;decide)
  simp only[mem_cons,not_mem_nil,or_false]at hp
  rcases hp with rfl | rfl | rfl
  ·decide +kernel
  ·omega
  ·omega
end
end K93
namespace L2
theorem law_callTs {P:Program}{w:World}{K:W.Frag}{mg mb:Str→Option Value}{k:Nat}{fa a:Addr}{Ts:List Addr}{fd:FuncData}{x:Str}{sp:Sp}{s₁:Shared}{vs:List Value}{ns:List Int}{R:Result→Shared→Prop}
 (KX:K.In s₁.heap) (hns:s₁.heap.Ns mainGlobals mg) (hb:s₁.heap.Ns builtinsNs mb) (hbb:∀x:Str,x≠"__name__"→mb x=bootBuiltins x) (hlim:s₁.heap.NoLimit) (hg:s₁.gens=#[]) (B:BltAt mg s₁.heap)
 (hKT:∀T∈Ts,K.lookup T=none) (hT:∀T∈Ts,s₁.heap.get? T=some (PySem.W.tabObj #[])) (C:∀T∈Ts,∃c,PySem.W.codeHdIn K c T=true)
 (ha:s₁.heap.get? a=some {cls:=.type "list",data:=.seq vs.toArray}) (hi:IntsAre vs ns) (hl:ns.length≤sizeLine) (hr:Room k callerA)
 (F:∀base:Heap,K.In base→base.Ns mainGlobals mg→BltAt mg base→FnOk P w K mg base CX0 k fa fd [x] sp) (hbind:BindsTo s₁ fd ⟨[.ref a],[]⟩ [(x,.ref a)])
 (hsp:∀H:Hp,(∀T∈Ts,H T=some (.tbl #[]))→SqL K H a (ns.map V.int)→sp [.ref a] H (fun v _=>v=.bl true) E0)
 (hR:∀s',OldK s₁.heap s'.heap→s'.os=s₁.os→AllBare s'.gens→R (.ok (.ret (.bool true))) s'):codeAny (model P w) callerA (.call (.ref fa) ⟨[.ref a],[]⟩) R s₁:=by
 have aT:a∉Ts:=fun z=>by rw[hT a z]at ha;cases ha
 obtain⟨S,H,hS,tT,sq,hok,only⟩:∃(S:List Addr) (H:Hp),(∀b,H b=none↔b∉S)∧(∀T∈Ts,H T=some (.tbl #[]))∧SqL K H a (ns.map V.int)∧HOk P w H s₁.heap∧∀b∈S,K.lookup b=none∧(b∈Ts∨b=a∧∃o u,H a=some (.frz o u)):=by
  have okT:∀T∈Ts,∀H,ObjOk P w H s₁.heap T (.tbl #[]):=fun T h _=>hT T h
  cases hk:K.lookup a with
  |some o=>
   have e:=KX a o hk
   rw[ha]at e
   cases e
   refine⟨Ts,fun b=>if b∈Ts then some (.tbl #[]) else none,fun b=>?_,fun T h=>if_pos h,.inr ⟨_,vs.toArray,_,hk,rfl,rfl,rfl,by rw[size_toArray,hi.length];exact hl,by simpa using vals_ints hi⟩,fun b u z=>?_,fun b hb=>⟨hKT b hb,.inl hb⟩⟩
   ·by_cases z:b∈Ts
    ·simp[z]
    ·simp[z]
   ·by_cases q:b∈Ts
    ·have z':(if b∈Ts then some (HO.tbl #[]) else none)=some u:=z
     rw[if_pos q]at z'
     cases z'
     exact okT b q _
    ·have z':(if b∈Ts then some (HO.tbl #[]) else none)=some u:=z
     rw[if_neg q]at z'
     cases z'
  |none=>
   obtain⟨H,hH⟩:∃H:Hp,H=fun b=>if b∈Ts then some (.tbl #[]) else if b=a then some (.frz {cls:=.type "list",data:=.seq vs.toArray} (.lst (ns.map V.int))) else none:=⟨_,rfl⟩
   have hHT:∀T∈Ts,H T=some (.tbl #[]):=fun T h=>by rw[hH];exact if_pos h
   have hHa:H a=some (.frz {cls:=.type "list",data:=.seq vs.toArray} (.lst (ns.map V.int))):=by rw[hH];exact(if_neg aT).trans (if_pos rfl)
   have hHn:∀b,b∉Ts→b≠a→H b=none:=fun b h1 h2=>by rw[hH];exact(if_neg h1).trans (if_neg h2)
   refine⟨a::Ts,H,fun b=>?_,hHT,.inl (.inr ⟨_,hHa⟩),fun b u z=>?_,fun b hb=>?_⟩
   ·by_cases z:b∈Ts
    ·rw[hHT b z];simp[z]
    ·by_cases z2:b=a
     ·subst z2;simp[hHa]
     ·rw[hHn b z z2];simp[z,z2]
   ·by_cases q:b∈Ts
    ·rw[hHT b q]at z;cases z;exact okT b q _
    ·by_cases q2:b=a
     ·subst q2
      rw[hHa]at z
      cases z
      exact⟨ha,by rw[length_map];exact hl,vs,_,vals_ints hi,ha⟩
     ·rw[hHn b q q2]at z;cases z
   ·rcases mem_cons.mp hb with rfl | hb
    ·exact⟨hk,.inr ⟨rfl,_,_,hHa⟩⟩
    ·exact⟨hKT b hb,.inl hb⟩
 have inB:∀{b:Addr} {o:Obj},s₁.heap.get? b=some o→(∀ps,o≠PySem.W.tabObj ps)→(∀its n,o.data≠.seq its n)→(lessOf S s₁.heap).get? b=some o:=fun{b o} e h1 h2=>by
  rw[less_out]
  ·exact e
  ·intro z
   rcases(only b z).2 with q | ⟨q,_⟩
   ·rw[hT b q]at e;exact h1 _ (Option.some.inj e).symm
   ·rw[q,ha]at e;cases e;exact h2 _ _ rfl
 have nsB:∀{b:Addr} {m:Str→Option Value},s₁.heap.Ns b m→(lessOf S s₁.heap).Ns b m:=fun{b m} ⟨o,es,ep,e,d,r⟩=>
  ⟨o,es,ep,inB e (fun ps z=>by rw[z]at d;cases d) (fun _ _ z=>by rw[d]at z;cases z),d,r⟩
 have kB:K.In (lessOf S s₁.heap):=fun b o e=>by
  rw[less_out]
  ·exact KX b o e
  ·intro z
   rw[(only b z).1]at e;cases e
 have bB:BltAt mg (lessOf S s₁.heap):=let⟨bm,o,b1,b2,b3,b4,b5,b6,b7⟩:=B
  ⟨bm,o,b1,b2,b3,inB b4 (fun ps z=>by rw[z]at b7;cases b7) (fun _ _ z=>by rw[b7]at z;cases z),b5,b6,b7⟩
 have e0:Env0 P w K mg (lessOf S s₁.heap) callerA [] s₁ H:=
  ⟨rfl,⟨kB,nsB hns,⟨mb,nsB hb,hbb⟩,let⟨mc,h1,h2⟩:=hlim;⟨mc,nsB h1,h2⟩⟩,fun b o e=>⟨(less_some e).2,(hS b).mpr (less_some e).1⟩,Nat.le_of_eq (less_size _ _),trivial,fun b z=>(nomatch z),hok,.of_eq hg⟩
 refine codeAny_mono ((F _ kB (nsB hns) bB).run callerA [] s₁ H ⟨[.ref a],[]⟩ [.ref a] [.ref a] _ _ hr e0 hbind (.cons rfl .nil) (hsp H tT sq)) fun r s' h=>?_
 cases r with
 |error e=>exact False.elim h
 |ok fl=>
  cases fl with
  |next=>exact False.elim h
  |brk=>exact False.elim h
  |cont=>exact False.elim h
  |ret u=>
   obtain⟨v,H',os,bare,un,hok',r',q⟩:=h
   obtain rfl:v=.bl true:=q
   obtain rfl:u=Value.bool true:=r'
   refine hR s' ⟨fun b o e=>?_,fun b o e=>un.there b o e (by simp)⟩ os bare
   by_cases z:b∈S
   ·rcases(only b z).2 with y | ⟨y,o2,u2,y2⟩
    ·rw[hT b y]at e
     cases e
     obtain⟨more,m1⟩:=un.tbls _ _ (tT b y)
     obtain⟨c,hc⟩:=C b y
     exact .inr (.inl ⟨((PySem.W.codeHd_of_K KX hc).tab (hT b y)).isCodeTable,rfl,#[],more,rfl,hok' _ _ m1⟩)
    ·subst y
     have e1:=(hok _ _ y2).1
     rw[e]at e1
     cases e1
     exact .inl (hok' _ _ (un.frzs _ _ _ y2)).1
   ·exact .inl (un.keep b o e ((hS b).mpr z) (fun y=>nomatch y) (by simp))
theorem walk_ofTs {l:PySem.W.OpenLaw}{n k:Nat}{q:Program}{loose:List Str}{XP:(Str→Option Value)→Heap→Prop}{YP:World→Heap→Prop}{d:DefRec}{K:Params→W.Frag}{sp:World→Sp}{x:Str}{Ts:List Addr}
 (hn:l.most=some n) (hn2:n≤sizeLine) (hdf:d.params.defaults=[]) (hr:Room k callerA) (hY:∀(w:World) (h:Heap),YP w h→(K w.params).In h∧∀T∈Ts,h.get? T=some (PySem.W.tabObj #[]))
 (F:∀(w:World) (mg:Str→Option Value) (fa:Addr) (h:Heap),(K w.params).In h→h.Ns mainGlobals mg→mg d.name=some (.ref fa)→
  ∃(fd:FuncData),(∀(s:Shared) (u:Value),BindsTo s fd ⟨[u],[]⟩ [(x,u)])∧(∀T∈Ts,(K w.params).lookup T=none)∧(∀T∈Ts,∃c,PySem.W.codeHdIn (K w.params) c T=true)∧
   ∀base:Heap,(K w.params).In base→base.Ns mainGlobals mg→BltAt mg base→FnOk l.prog w (K w.params) mg base CX0 k fa fd [x] (sp w))
 (hsp:∀(w:World) (H:Hp) (a:Addr) (ns:List Int),ns.length≤n→(∀T∈Ts,H T=some (.tbl #[]))→SqL (K w.params) H a (ns.map V.int)→sp w [.ref a] H (fun v _=>v=.bl true) E0) :
 PySem.W.WalkO q loose XP YP l.row.toRowW d [] (fun f vs=>PySem.call f vs):=by
 refine Att.attach_call hn hdf fun w s₀ s₁ mg mb fa o pm cd doc a vs ns G Y ho hd hcd hmg hobj hints hlen hg=>?_
 obtain⟨KX,hT⟩:=hY w _ Y
 obtain⟨fd,hb,k1,k2,hF⟩:=F w mg fa _ KX G.T.g hmg
 obtain⟨bm,ob,b1,b2,b3,b4,b5,b6⟩:=G.T.bmain
 have b7:bm≠mainGlobals:=fun z=>by
  obtain⟨u,es,ep,e,hd,_⟩:=G.T.g
  rw[z,e]at b3
  cases b3
  rw[hd]at b6
  cases b6
 exact law_callTs KX G.T.g G.T.b G.T.builtins G.T.nolimit hg ⟨bm,ob,b1,b2,b7,b3,b4,b5,b6⟩ k1 hT k2 hobj hints (Nat.le_trans hlen hn2) hr hF (hb _ _) (fun H h1 h2=>hsp w H a ns hlen h1 h2) fun s' h1 h2 h3=>⟨rfl,h1,h2,h3⟩
end L2
namespace K93
open L2
open BB (lens outs)
abbrev LnQ:Str:=(("_law_line" : Str)++".<locals>.")++"<lambda>"
theorem tab_keep {q:Str}{H H':Hp}{T r:Addr}{xs:List V}(t:Tab q H T)(hr:H r=some (.lst xs))(k:Keep r H H'):Tab q H' T:=by
 obtain⟨l,e,h⟩:=t
 refine⟨l,k _ _ (fun z=>by rw[z,hr]at e;cases e) e,fun x hx=>?_⟩
 obtain⟨oc,vs,t,a,b⟩:=h x hx
 exact⟨oc,vs,t,k _ _ (fun z=>by rw[z,hr]at a;cases a) a,b⟩
abbrev LQ:Str:=(("law" : Str)++".<locals>.")++"<lambda>"
theorem not_tabQ {q:Str}{H:Hp}{T p:Addr}{o:HO}(tb:Tab q H T)(h:H p=some o)(n:∀ps,o≠.tbl ps):p≠T:=fun z=>by
 obtain⟨l,e,_⟩:=tb
 rw[z,e]at h
 exact n _ (Option.some.inj h).symm
def LineV (i:Nat)(D:Dk)(z n:Str)(v:V)(H:Hp):Prop:=nameB n=true∧z.length≤1900∧((∃r row,v=.ref r∧H r=some (.tup (row.map V.int))∧Nr (i+1) row∧SayA z D n row)∨(v=.int 0∧SayB z D))
structure Li (qn:Str)(a T kd:Addr)(b:Bool)(D:Dk)(H0 H:Hp):Prop where
 st:∃x,StAt H a x b
 kp:∀c o,c≠a→c≠T→H0 c=some o→H c=some o
 tb:Tab qn H T
 kd:KpAt kd D H
section
variable {qn:Str}{a T kd:Addr}{b:Bool}{D:Dk}{H0 H H':Hp}
theorem Li.same (l:Li qn a T kd b D H0 H)(s:Same H H'):Li qn a T kd b D H0 H':=by
 obtain⟨x,hx⟩:=l.st
 exact⟨⟨x,hx.same s⟩,fun c o n1 n2 e=>s _ _ (l.kp c o n1 n2 e),l.tb.same s,l.kd.same s⟩
theorem Li.keep (l:Li qn a T kd b D H0 H){x':Int}(k:Keep a H H')(st:StAt H' a x' b):Li qn a T kd b D H0 H':=by
 obtain⟨x,hx⟩:=l.st
 exact⟨⟨x',st⟩,fun c o n1 n2 e=>k c o n1 (l.kp c o n1 n2 e),tab_keep l.tb hx.1 k,l.kd.keep k hx.1 (fun _ z=>nomatch z) fun _ z=>nomatch z⟩
theorem Li.take (l:Li qn a T kd b D H0 H){x':Int}(d:Dok x' b):Li qn a T kd b D H0 (upd H a (.lst [.int x',.bl b])):=l.keep (keep_upd a H _) (StAt.upd d)
theorem Li.lam (l:Li qn a T kd b D H0 H)(k:∀c u,c≠T→H c=some u→H' c=some u)(t:Tab qn H' T):Li qn a T kd b D H0 H':=by
 obtain⟨x,hx⟩:=l.st
 obtain⟨ps,hT,_⟩:=l.tb
 have aT:a≠T:=fun z=>by have h1:=hx.1;rw[z,hT]at h1;cases h1
 exact⟨⟨x,k _ _ aT hx.1,hx.2⟩,fun c o n1 n2 e=>k c o n2 (l.kp c o n1 n2 e),t,l.kd.keep (a:=T) (fun c o n e=>k c o n e) hT (fun _ z=>nomatch z) fun _ z=>nomatch z⟩
end
def spLn (T:Addr):Sp:=fun vs H Q _=>∃(a kd:Addr) (b:Bool) (i:Nat) (D:Dk),vs=[.ref a,.ref kd]∧Li LnQ a T kd b D H H∧DOk i D∧i≤5∧
 ∀(p:Addr) (z n:Str) (v:V) (H':Hp),Li LnQ a T kd b D H H'→H' p=some (.tup [.str z,.str n,v])→LineV i D z n v H'→Q (.ref p) H'
theorem test_or {K:W.Frag}{σ:L2.St}{H:Hp}{Q:Bool→Hp→Prop}{v:Int}{l:Addr}{ms:List Str}(h4:σ[4]?=some (some (.int v)))(h2:σ[2]?=some (some (.ref l)))(hl:H l=some (.lst (ms.map V.str)))(qt:∀H',Same H H'→Q true H')(qf:2≤v→ms≠[]→∀H',Same H H'→Q false H') :
 tOr (tTest (tOp (rI0 fun i j=>V.bl (decide (i<j))) (tVar 4) (tC (V.int 2)))) (tTest (tOp (rEqNil K) (tVar 2) (tLst tNil))) σ H Q:=by
 refine⟨_,h4,_,_,rfl,rfl,_,rfl,?_⟩
 by_cases c:v<2
 ·rw[decide_eq_true c]
  exact iteT (qt H (Same.refl H))
 ·rw[decide_eq_false c]
  refine iteF ⟨_,h2,(by show 0≤sizeLine;decide),fun e he=>?_⟩
  have s2:=same_new he (.lst [])
  refine⟨l,e,_,rfl,rfl,SqL.of (s2 _ _ hl),SqL.of upd_same,_,rfl,?_⟩
  cases ms with
  |nil=>exact qt _ s2
  |cons n r=>exact qf (by omega) (by simp) _ s2
theorem steps_at (m:Nat)(h:m<8):∃s:Int,[V.int 0,V.int 1,V.int (-1),V.int 2,V.int (-2),V.int 3,V.int 61,V.int (-61)][m]?=some (V.int s)∧((-2≤s∧s≤3)∨s=61∨s=-61):=by
 match m,h with
 |0,_=>exact⟨0,rfl,by omega⟩
 |1,_=>exact⟨1,rfl,by omega⟩
 |2,_=>exact⟨-1,rfl,by omega⟩
 |3,_=>exact⟨2,rfl,by omega⟩
 |4,_=>exact⟨-2,rfl,by omega⟩
 |5,_=>exact⟨3,rfl,by omega⟩
 |6,_=>exact⟨61,rfl,by omega⟩
 |7,_=>exact⟨-61,rfl,by omega⟩
theorem join_fold {ps:List Str}{m:Nat}(h:∀p∈ps,p.length≤m):ps.toArray.foldl (fun a p=>a+p.length+BLK.length) 0≤ps.length*(m+1):=by
 rw[StrLaws.joinTotal,show BLK.length=1 by decide +kernel]
 have:(ps.map (·.length)).sum≤ps.length*m:=by
  induction ps with
  |nil=>simp
  |cons p r ih=>
   have:=h p mem_cons_self
   have:=ih fun q hq=>h q (mem_cons_of_mem _ hq)
   simp only[map_cons,sum_cons,length_cons,Nat.succ_mul]
   omega
 rw[Nat.mul_one,Nat.mul_add,Nat.mul_one]
 omega
theorem Nr.odd_or {s:Int}(h:(-2≤s∧s≤3)∨s=61∨s=-61):-61≤s∧s≤61:=by omega
theorem four_le {x n m:Str}{s:Int}(lx:x.length≤11)(hn:nameB n=true)(hm:nameB m=true)(h1:-61≤s)(h2:s≤61):∀p∈[x,n,numT s,m],p.length≤11:=fun p hp=>by
 have ln:=name_len hn
 have lm:=name_len hm
 have l4:=num_8 h1 h2
 simp only[mem_cons,not_mem_nil,or_false]at hp
 rcases hp with rfl | rfl | rfl | rfl<;>omega
theorem three_le {x n m:Str}(lx:x.length≤11)(hn:nameB n=true)(hm:nameB m=true):∀p∈[x,n,m],p.length≤11:=fun p hp=>by
 have ln:=name_len hn
 have lm:=name_len hm
 simp only[mem_cons,not_mem_nil,or_false]at hp
 rcases hp with rfl | rfl | rfl<;>omega
section
variable {P:Program}{w:World}{K:W.Frag}{mg:Str→Option Value}{base:Heap}{b c0 c1 c2 c3 c4 c T:Addr}{bm0:List Value}
theorem ok_L_line {f:Addr}{fd:FuncData}(F:Fun K "_law_line" "_law_line" s_L_line f fd)(nb:NbX mg)(h_L_name:Has P w K mg base 2 "_law_name" ["_law_state_here","_law_held"] spNm)(h_L_take:Has P w K mg base 1 "_law_take" ["_law_state_here","_law_many"] (spTake K))(h_L_row:Has P w K mg base 2 "_law_row" ["_law_state_here","_law_gaps"] spRow)(h_L_row_text:Has P w K mg base 1 "_law_row_text" ["_law_row_here"] spLText)(h_peeled:Has P w K mg base 2 "peeled" ["row"] spPeel)(h_made:HasM P w K mg 9 7 "_law_made" "_law_call" (Ec K b c0 c1 c2 c3 c4))(hE_later:∀base,HasE P w K mg base 4 "later" ["row","steps"] (orSp spLater (spOddE c0 (-60) 60)))(hE_carried_by:∀base,HasE P w K mg base 3 "carried_by" ["row","size"] (orSp spCb (spOddE c0 1 12)))
 (hcd:fd.code=.ref c) (C:PySem.W.CodeHd base c T) (Bl:BltAt mg base) (e0:ExcF K c0 bm0) (hin:(Value.ref c0::bm0).contains (.ref b)=true) (kd0:Kind5 K c0 c1 c2 c3 c4 c0 0) :
 FnOk P w K mg base CX0 10 f fd ["_law_state_here","_law_kept"] (spLn T):=by
 have nd:=sc_L_line.nd
 refine F.okC (k:=9) sc_L_line (fun vs H Q E h=>?_) (fun A outer s H vs Q E hr h=>?_)
 ·obtain⟨a,kd,b,i,D,rfl,_⟩:=h
  rfl
 obtain⟨a,kd,b,i,D,rfl,li,dok,i5,q⟩:=h
 refine⟨_,(@pss_cons _ _ _ _ _ (@ps_set _ _ (2) _ _ _ _ nd rfl (Or.inl rfl) (pe_callB (call_sortDS rfl) rfl nb.sorted boot_sorted (@pa_cons _ _ _ _ _ (pv 1) pa_nil rfl)) rfl (by first | exact .inl rfl | exact .inr rfl)) (@pss_cons _ _ _ _ _ (@ps_set _ _ (3) _ _ _ _ nd rfl (Or.inl rfl) (pe_def h_L_name hr (@pa_cons _ _ _ _ _ (pv 0) (@pa_cons _ _ _ _ _ (pv 2) pa_nil rfl) rfl)) rfl (by first | exact .inl rfl | exact .inr rfl)) (@pss_cons _ _ _ _ _ (@ps_set _ _ (4) _ _ _ _ nd rfl (Or.inl rfl) (pe_def h_L_take hr (@pa_cons _ _ _ _ _ (pv 0) (@pa_cons _ _ _ _ _ pe_int pa_nil rfl) rfl)) rfl (by first | exact .inl rfl | exact .inr rfl)) (@pss_cons _ _ _ _ _ (@ps_if _ _ _ _ _ _ _ _ (PW.pt (pw_or (pt_cmpR op_lt (pv 4) pe_int (nomark _)) (pw_or1 (pt_cmpR (op_eqNil hr.units0) (pv 2) (@pe_lst _ _ _ _ pa_nil) (nomark _))))) (@pss_cons _ _ _ _ _ (@ps_set _ _ (5) _ _ _ _ nd rfl (Or.inl rfl) (pe_def h_L_row hr (@pa_cons _ _ _ _ _ (pv 0) (@pa_cons _ _ _ _ _ (@pe_lst _ _ _ _ (@pa_cons _ _ _ _ _ pe_int (@pa_cons _ _ _ _ _ pe_int pa_nil rfl) rfl)) pa_nil rfl) rfl)) rfl (by first | exact .inl rfl | exact .inr rfl)) (@pss_one _ _ _ (@ps_ret _ _ _ _ (@pe_tup _ _ _ _ _ (@pa_cons _ _ _ _ _ (@pe_op _ _ _ _ _ _ _ _ op_add_str (@pe_op _ _ _ _ _ _ _ _ op_add_str (@pe_op _ _ _ _ _ _ _ _ op_add_str pe_str (pv 3)) pe_str) (pe_def h_L_row_text hr (@pa_cons _ _ _ _ _ (pv 5) pa_nil rfl))) (@pa_cons _ _ _ _ _ (pv 3) (@pa_cons _ _ _ _ _ (pv 5) pa_nil rfl) rfl) rfl))))) pss_nil) (@pss_cons _ _ _ _ _ (@ps_set _ _ (6) _ _ _ _ nd rfl (Or.inr rfl) (@pe_ix _ _ _ _ _ _ _ ix_list (pv 2) (pe_def h_L_take hr (@pa_cons _ _ _ _ _ (pv 0) (@pa_cons _ _ _ _ _ (pe_callB call_len_seq rfl nb.len PySem.boot_len (@pa_cons _ _ _ _ _ (pv 2) pa_nil rfl)) pa_nil rfl) rfl)) (fun _ _=>rfl)) rfl (by first | exact .inl rfl | exact .inr rfl)) (@pss_cons _ _ _ _ _ (@ps_if _ _ _ _ _ _ _ _ (pt_cmpR op_lt (pv 4) pe_int (nomark _)) (@pss_cons _ _ _ _ _ (@ps_set _ _ (7) _ _ _ _ nd rfl (Or.inr rfl) (@pe_ix _ _ _ _ _ _ _ ix_list (@pe_lst _ _ _ _ (@pa_cons _ _ _ _ _ pe_int (@pa_cons _ _ _ _ _ pe_int (@pa_cons _ _ _ _ _ (pe_un un_neg pe_int) (@pa_cons _ _ _ _ _ pe_int (@pa_cons _ _ _ _ _ (pe_un un_neg pe_int) (@pa_cons _ _ _ _ _ pe_int (@pa_cons _ _ _ _ _ pe_int (@pa_cons _ _ _ _ _ (pe_un un_neg pe_int) pa_nil rfl) rfl) rfl) rfl) rfl) rfl) rfl) rfl)) (pe_def h_L_take hr (@pa_cons _ _ _ _ _ (pv 0) (@pa_cons _ _ _ _ _ pe_int pa_nil rfl) rfl)) (fun _ _=>rfl)) rfl (by first | exact .inl rfl | exact .inr rfl)) (@pss_one _ _ _ (@ps_ret _ _ _ _ (@pe_tup _ _ _ _ _ (@pa_cons _ _ _ _ _ (pe_bm PySem.F.plainAttrs_str PySem.F.slot_str_join PySem.F.type_str_join mt_join pe_str (@pa_cons _ _ _ _ _ (@pe_lst _ _ _ _ (@pa_cons _ _ _ _ _ pe_str (@pa_cons _ _ _ _ _ (pv 6) (@pa_cons _ _ _ _ _ (pe_callTy call_str_int rfl nb.str boot_str (@pa_cons _ _ _ _ _ (pv 7) pa_nil rfl)) (@pa_cons _ _ _ _ _ (pv 3) pa_nil rfl) rfl) rfl) rfl)) pa_nil rfl)) (@pa_cons _ _ _ _ _ (pv 3) (@pa_cons _ _ _ _ _ (pe_lambdaM (sc:=defScope s_L_line) (N0:=["_law_state_here","_law_kept","_law_held","_law_name_here","_law_kind","_law_row_here","_law_one","_law_steps","_law_size"]) (N:=["_law_kept","_law_one","_law_steps"]) (js:=[1,6,7]) h_made hr hcd C Bl rfl rfl (by exact⟨rfl,rfl,rfl,by decide +kernel⟩) (by exact⟨rfl,by decide +kernel,by decide +kernel,by decide +kernel,rfl,rfl,by decide,by decide +kernel,by decide +kernel⟩) (fun base E cl f cd A outer s H hr=>by exact(pe_defE (hE_later base) lvs_lam hr (@pa_cons _ _ _ _ _ (pe_dget (hu1 hr) (pv 0) (pv 1) (fun _ _=>rfl)) (@pa_cons _ _ _ _ _ (pv 2) pa_nil rfl) rfl)))) pa_nil rfl) rfl) rfl))))) pss_nil) (@pss_cons _ _ _ _ _ (@ps_if _ _ _ _ _ _ _ _ (pt_cmpR op_eq (pv 4) pe_int (nomark _)) (@pss_cons _ _ _ _ _ (@ps_set _ _ (8) _ _ _ _ nd rfl (Or.inr rfl) (pe_def h_L_take hr (@pa_cons _ _ _ _ _ (pv 0) (@pa_cons _ _ _ _ _ pe_int pa_nil rfl) rfl)) rfl (by first | exact .inl rfl | exact .inr rfl)) (@pss_one _ _ _ (@ps_ret _ _ _ _ (@pe_tup _ _ _ _ _ (@pa_cons _ _ _ _ _ (pe_bm PySem.F.plainAttrs_str PySem.F.slot_str_join PySem.F.type_str_join mt_join pe_str (@pa_cons _ _ _ _ _ (@pe_lst _ _ _ _ (@pa_cons _ _ _ _ _ pe_str (@pa_cons _ _ _ _ _ (pv 6) (@pa_cons _ _ _ _ _ (pe_callTy call_str_int rfl nb.str boot_str (@pa_cons _ _ _ _ _ (pv 8) pa_nil rfl)) (@pa_cons _ _ _ _ _ (pv 3) pa_nil rfl) rfl) rfl) rfl)) pa_nil rfl)) (@pa_cons _ _ _ _ _ (pv 3) (@pa_cons _ _ _ _ _ (pe_lambdaM (sc:=defScope s_L_line) (N0:=["_law_state_here","_law_kept","_law_held","_law_name_here","_law_kind","_law_row_here","_law_one","_law_steps","_law_size"]) (N:=["_law_kept","_law_one","_law_size"]) (js:=[1,6,8]) h_made hr hcd C Bl rfl rfl (by exact⟨rfl,rfl,rfl,by decide +kernel⟩) (by exact⟨rfl,by decide +kernel,by decide +kernel,by decide +kernel,rfl,rfl,by decide,by decide +kernel,by decide +kernel⟩) (fun base E cl f cd A outer s H hr=>by exact(pe_defE (hE_carried_by base) lvs_lam hr (@pa_cons _ _ _ _ _ (pe_dget (hu1 hr) (pv 0) (pv 1) (fun _ _=>rfl)) (@pa_cons _ _ _ _ _ (pv 2) pa_nil rfl) rfl)))) pa_nil rfl) rfl) rfl))))) pss_nil) (@pss_one _ _ _ (@ps_ret _ _ _ _ (@pe_tup _ _ _ _ _ (@pa_cons _ _ _ _ _ (pe_bm PySem.F.plainAttrs_str PySem.F.slot_str_join PySem.F.type_str_join mt_join pe_str (@pa_cons _ _ _ _ _ (@pe_lst _ _ _ _ (@pa_cons _ _ _ _ _ pe_str (@pa_cons _ _ _ _ _ (pv 6) (@pa_cons _ _ _ _ _ (pv 3) pa_nil rfl) rfl) rfl)) pa_nil rfl)) (@pa_cons _ _ _ _ _ (pv 3) (@pa_cons _ _ _ _ _ (pe_def h_peeled hr (@pa_cons _ _ _ _ _ (pe_dget (hu1 hr) (pv 1) (pv 6) (fun _ _=>rfl)) pa_nil rfl)) pa_nil rfl) rfl) rfl))))))))))),?_⟩
 have li0:=li
 obtain⟨x,hS⟩:=li.st
 obtain⟨kvs,hk,pk⟩:=id li.kd
 have nk:∀n∈D.map (·.1),nameB n=true:=fun n hn=>by
  obtain⟨p,hp,rfl⟩:=mem_map.mp hn
  exact dok.nm p hp
 have d5:D.length≤5:=by have:=dok.len;omega
 refine⟨_,rfl,kd,D.map (·.1),kvs,rfl,hk,dk_names pk,by rw[length_map];omega,fun ms l pm so hl=>?_⟩
 have mn:∀n∈ms,nameB n=true:=fun n hn=>nk n (pm.mem_iff.mp hn)
 have ml:ms.length≤5:=by rw[pm.length_eq,length_map];exact d5
 have s1:=same_new hl (.lst (ms.map V.str))
 have li1:=li.same s1
 have hl1:(upd H l (.lst (ms.map V.str))) l=some (.lst (ms.map V.str)):=upd_same
 generalize upd H l (.lst (ms.map V.str))=H1 at li1 hl1 ⊢
 obtain⟨x1,st1⟩:=li1.st
 have la:l≠a:=fun z=>by
  rw[z,st1.1]at hl1
  cases ms with
  |nil=>cases hl1
  |cons n r=>cases hl1
 have lT:l≠T:=not_tabQ li1.tb hl1 fun _ z=>nomatch z
 refine⟨_,rfl,_,rfl,a,l,x1,b,ms,rfl,st1,hl1,mn,by omega,fun n H2 x2 k2 st2 hn=>?_⟩
 have li2:=li1.keep k2 st2
 have hl2:=k2 _ _ la hl1
 refine⟨_,rfl,a,x2,b,6,rfl,st2,by decide,by decide,fun v x3 v0 v6 d3=>?_⟩
 have li3:=li2.take d3
 have hl3:=keep_upd a H2 (.lst [.int x3,.bl b]) _ _ la hl2
 have st3:StAt (upd H2 a (.lst [.int x3,.bl b])) a x3 b:=StAt.upd d3
 generalize upd H2 a (.lst [.int x3,.bl b])=H3 at li3 hl3 st3 ⊢
 refine test_or rfl rfl hl3 (fun H4 s4=>?_) fun v2 ne H4 s4=>?_
 ·-- a row
  have li4:=li3.same s4
  have st4:=st3.same s4
  refine iteT ⟨_,rfl,(by show 2≤sizeLine;decide),fun g hg=>?_⟩
  have s5:=same_new hg (.lst [.int 2,.int 5])
  have li5:=li4.same s5
  have st5:=st4.same s5
  have g5:(upd H4 g (.lst [.int 2,.int 5])) g=some (.lst (([2,5]:List Int).map V.int)):=upd_same
  generalize upd H4 g (.lst [.int 2,.int 5])=H5 at li5 st5 g5 ⊢
  refine⟨a,g,x3,b,[2,5],rfl,st5,g5,⟨by decide,by decide,by decide⟩,fun r row H6 x6 k6 st6 hr6 ok=>?_⟩
  have li6:=li5.keep k6 st6
  have tl:=txt_short ok.wd
  have nl:=name_len hn
  have l4:(Str.ofString "row ").length=4:=by decide +kernel
  have l1:(Str.ofString " ").length=1:=by decide +kernel
  refine⟨_,rfl,_,_,rfl,rfl,by rw[sizeLine_eq,l4];omega,_,_,rfl,rfl,by rw[sizeLine_eq,Str.length_append,l4,l1];omega,_,rfl,r,row,rfl,hr6,ok.wd.wr,fun H7 s7=>?_⟩
  refine⟨_,_,rfl,rfl,by rw[sizeLine_eq,Str.length_append,Str.length_append,l4,l1];omega,_,rfl,_,rfl,(by show 3≤sizeLine;decide),fun p hp=>?_⟩
  have s8:=s7.trans (same_new hp (.tup [.str (Str.ofString "row "++n++Str.ofString " "++rowTxt row),.str n,.ref r]))
  refine q p _ n (.ref r) _ (li6.same s8) upd_same ⟨hn,?_,.inl ⟨r,row,rfl,s8 _ _ hr6,ok.nr.mono (by omega),say_row hn ok (by omega)⟩⟩
  rw[Str.length_append,Str.length_append,Str.length_append,l4,l1]
  omega
 -- one that is kept
 have li4:=li3.same s4
 have st4:=st3.same s4
 have hl4:=s4 _ _ hl3
 have mp:0<ms.length:=length_pos_iff.mpr ne
 refine iteF ⟨_,rfl,_,rfl,_,rfl,l,_,rfl,.inl (SqL.of hl4),a,x3,b,_,rfl,st4,by rw[length_map];omega,by rw[length_map];omega,fun u x5 u0 u1 d5'=>?_⟩
 have li5:=li4.take d5'
 have st5:StAt (upd H4 a (.lst [.int x5,.bl b])) a x5 b:=StAt.upd d5'
 have hl5:=keep_upd a H4 (.lst [.int x5,.bl b]) _ _ la hl4
 generalize upd H4 a (.lst [.int x5,.bl b])=H5 at li5 st5 hl5 ⊢
 obtain⟨m,rfl⟩:=Int.eq_ofNat_of_zero_le u0
 rw[length_map]at u1
 have mm:m<ms.length:=by omega
 have hm:=mn _ (getElem_mem mm)
 obtain⟨row,ro⟩:=row_some (D:=D) (pm.mem_iff.mp (getElem_mem mm))
 have nr:=(dok.row ro).1
 have far:=nr.far (by omega)
 refine⟨l,_,_,.str ms[m],rfl,rfl,SqL.of hl5,atI_nat (by rw[getElem?_map,List.getElem?_eq_getElem mm];rfl),?_⟩
 generalize ms[m]=n1 at hm ro ⊢
 have bl1:Str.ofString " " = BLK:=rfl
 refine⟨_,rfl,_,_,rfl,rfl,_,rfl,?_⟩
 by_cases c4:v<4
 ·-- later
  rw[decide_eq_true c4]
  refine iteT ⟨_,rfl,_,rfl,_,rfl,(by show 8≤sizeLine;decide),fun g hg=>?_⟩
  have s6:=same_new hg (.lst [.int 0,.int 1,.int (-1),.int 2,.int (-2),.int 3,.int 61,.int (-61)])
  have ga:g≠a:=fun z=>by rw[z,st5.1]at hg;cases hg
  have li6:=li5.same s6
  have st6:=st5.same s6
  have g6:(upd H5 g (.lst [.int 0,.int 1,.int (-1),.int 2,.int (-2),.int 3,.int 61,.int (-61)])) g=_:=upd_same
  generalize upd H5 g (.lst [.int 0,.int 1,.int (-1),.int 2,.int (-2),.int 3,.int 61,.int (-61)])=H6 at li6 st6 g6 ⊢
  refine⟨_,rfl,a,x5,b,8,rfl,st6,by decide,by decide,fun y x7 y0 y8 d7=>?_⟩
  have li7:=li6.take d7
  have g7:=keep_upd a H6 (.lst [.int x7,.bl b]) _ _ ga g6
  generalize upd H6 a (.lst [.int x7,.bl b])=H7 at li7 g7 ⊢
  obtain⟨j,rfl⟩:=Int.eq_ofNat_of_zero_le y0
  obtain⟨s,es,hs⟩:=steps_at j (by omega)
  have hs2:=Nr.odd_or hs
  refine⟨g,_,_,.int s,rfl,rfl,SqL.of g7,atI_nat es,?_⟩
  refine⟨rfl,_,rfl,_,rfl,s,rfl,num_log (by omega),_,rfl,(by show 4≤sizeLine;decide),fun g2 hg2=>?_⟩
  have s8:=same_new hg2 (.lst [.str (Str.ofString "later"),.str n1,.str (Str.ofString (toString s)),.str n])
  have le4:=four_le (x:=Str.ofString "later") (by decide +kernel) hm hn hs2.1 hs2.2
  have jf:=join_fold le4
  have jl:=join_len le4
  have li8:=li7.same s8
  refine⟨_,g2,[Str.ofString "later",n1,numT s,n],rfl,rfl,upd_same,Nat.le_trans jf (by rw[sizeLine_eq];show 4*12≤_;omega),Nat.le_trans jl (by rw[sizeLine_eq];show 4*12≤_;omega),_,rfl,?_⟩
  generalize upd H7 g2 (.lst [.str (Str.ofString "later"),.str n1,.str (Str.ofString (toString s)),.str n])=H8 at li8 ⊢
  refine⟨li8.tb,fun f9 H9 LA=>?_⟩
  have li9:=li8.lam LA.grow LA.tab
  obtain⟨r9,dg9,hr9⟩:=li9.kd.get ro
  refine⟨_,rfl,_,rfl,kd,_,rfl,dg9,_,rfl,?_⟩
  obtain⟨sg,sb⟩:=say_later (D:=D) hm hn hs2.1 hs2.2 ro far (by omega)
  rcases hs with hs | hs
  ·refine .inl ⟨r9,row,row.length,s,rfl,hr9,nr.rw.mono (by omega) (by omega),nr.len,by omega,by omega,fun rA HA sA hA=>⟨sA,?_⟩⟩
   have liA:=li9.same sA
   obtain⟨r',dg',hr'⟩:=liA.kd.get ro
   refine⟨_,rfl,_,rfl,kd,_,rfl,dg',_,rfl,.inl ⟨r',row,row.length,s,rfl,hr',nr.rw.mono (by omega) (by omega),nr.len,by omega,by omega,fun rB HB sB hB=>⟨(by show 3≤sizeLine;decide),fun p hp=>?_⟩⟩⟩
   have sC:=same_new hp (.tup [.str (Str.join (Str.ofString " ") [Str.ofString "later",n1,numT s,n]),.str n,.ref rB])
   exact q p _ n (.ref rB) _ ((liA.same sB).same sC) upd_same ⟨hn,Nat.le_trans jl (by show 4*12≤1900;decide),.inl ⟨rB,_,rfl,sC _ _ hB,nr.later hs.1 hs.2,sg ⟨by omega,by omega⟩⟩⟩
  ·have nb:numB (-60) 60 (.int s)=false:=by
    cases z:numB (-60) 60 (.int s) with
    |false=>rfl
    |true=>have:=numB_int.mp z;omega
   refine .inr ⟨r9,s,rfl,nb,fun e he=>⟨c0,bm0,e,0,rfl,rfl,he,e0,hin,kd0,fun HA sA=>⟨(by show 3≤sizeLine;decide),fun p hp=>?_⟩⟩⟩
   have sC:=same_new hp (.tup [.str (Str.join (Str.ofString " ") [Str.ofString "later",n1,numT s,n]),.str n,.int 0])
   exact q p _ n (.int 0) _ (((li9.same (same_new he _)).same sA).same sC) upd_same ⟨hn,Nat.le_trans jl (by show 4*12≤1900;decide),.inr ⟨rfl,sb (by omega)⟩⟩
 rw[decide_eq_false c4]
 refine iteF ?_
 refine⟨_,rfl,rfl,_,rfl,?_⟩
 by_cases c5:v=4
 ·-- small
  rw[c5,decide_eq_true rfl]
  refine iteT ⟨_,rfl,a,x5,b,14,rfl,st5,by decide,by decide,fun s x7 s0 s14 d7=>?_⟩
  have li7:=li5.take d7
  generalize upd H5 a (.lst [.int x7,.bl b])=H7 at li7 ⊢
  refine⟨rfl,_,rfl,_,rfl,s,rfl,num_log (by omega),_,rfl,(by show 4≤sizeLine;decide),fun g2 hg2=>?_⟩
  have s8:=same_new hg2 (.lst [.str (Str.ofString "small"),.str n1,.str (Str.ofString (toString s)),.str n])
  have le4:=four_le (x:=Str.ofString "small") (s:=s) (by decide +kernel) hm hn (by omega) (by omega)
  have jf:=join_fold le4
  have jl:=join_len le4
  have li8:=li7.same s8
  refine⟨_,g2,[Str.ofString "small",n1,numT s,n],rfl,rfl,upd_same,Nat.le_trans jf (by rw[sizeLine_eq];show 4*12≤_;omega),Nat.le_trans jl (by rw[sizeLine_eq];show 4*12≤_;omega),_,rfl,?_⟩
  generalize upd H7 g2 (.lst [.str (Str.ofString "small"),.str n1,.str (Str.ofString (toString s)),.str n])=H8 at li8 ⊢
  refine⟨li8.tb,fun f9 H9 LA=>?_⟩
  have li9:=li8.lam LA.grow LA.tab
  obtain⟨r9,dg9,hr9⟩:=li9.kd.get ro
  refine⟨_,rfl,_,rfl,kd,_,rfl,dg9,_,rfl,?_⟩
  obtain⟨sg,sb⟩:=say_small (D:=D) (s:=s) hm hn s0 (by omega) ro far (by omega)
  by_cases hs:1≤s∧s≤12
  ·obtain⟨z,rfl⟩:=Int.eq_ofNat_of_zero_le s0
   refine .inl ⟨r9,row,row.length,z,rfl,hr9,far.ok,by omega,by omega,fun rA HA sA hA=>⟨sA,?_⟩⟩
   have liA:=li9.same sA
   obtain⟨r',dg',hr'⟩:=liA.kd.get ro
   refine⟨_,rfl,_,rfl,kd,_,rfl,dg',_,rfl,.inl ⟨r',row,row.length,z,rfl,hr',far.ok,by omega,by omega,fun rB HB sB hB=>⟨(by show 3≤sizeLine;decide),fun p hp=>?_⟩⟩⟩
   have sC:=same_new hp (.tup [.str (Str.join (Str.ofString " ") [Str.ofString "small",n1,numT (z:Int),n]),.str n,.ref rB])
   exact q p _ n (.ref rB) _ ((liA.same sB).same sC) upd_same ⟨hn,Nat.le_trans jl (by show 4*12≤1900;decide),.inl ⟨rB,_,rfl,sC _ _ hB,nr.small z,sg hs⟩⟩
  ·have nb:numB 1 12 (.int s)=false:=by
    cases z:numB 1 12 (.int s) with
    |false=>rfl
    |true=>exact absurd (numB_int.mp z) hs
   refine .inr ⟨r9,s,rfl,nb,fun e he=>⟨c0,bm0,e,0,rfl,rfl,he,e0,hin,kd0,fun HA sA=>⟨(by show 3≤sizeLine;decide),fun p hp=>?_⟩⟩⟩
   have sC:=same_new hp (.tup [.str (Str.join (Str.ofString " ") [Str.ofString "small",n1,numT s,n]),.str n,.int 0])
   exact q p _ n (.int 0) _ (((li9.same (same_new he _)).same sA).same sC) upd_same ⟨hn,Nat.le_trans jl (by show 4*12≤1900;decide),.inr ⟨rfl,sb hs⟩⟩
 -- peel
 rw[decide_eq_false (fun z=>c5 (by cases z;rfl))]
 refine iteF ⟨rfl,_,rfl,_,rfl,(by show 3≤sizeLine;decide),fun g2 hg2=>?_⟩
 have s8:=same_new hg2 (.lst [.str (Str.ofString "peel"),.str n1,.str n])
 have le3:=three_le (x:=Str.ofString "peel") (by decide +kernel) hm hn
 have jf:=join_fold le3
 have jl:=join_len le3
 have li8:=li5.same s8
 refine⟨_,g2,[Str.ofString "peel",n1,n],rfl,rfl,upd_same,Nat.le_trans jf (by rw[sizeLine_eq];show 3*12≤_;omega),Nat.le_trans jl (by rw[sizeLine_eq];show 3*12≤_;omega),_,rfl,?_⟩
 generalize upd H5 g2 (.lst [.str (Str.ofString "peel"),.str n1,.str n])=H8 at li8 ⊢
 obtain⟨r8,dg8,hr8⟩:=li8.kd.get ro
 refine⟨_,rfl,_,rfl,kd,_,rfl,dg8,r8,row,rfl,hr8,nr.len,fun rB HB sB hB=>⟨(by show 3≤sizeLine;decide),fun p hp=>?_⟩⟩
 have sC:=same_new hp (.tup [.str (Str.join (Str.ofString " ") [Str.ofString "peel",n1,n]),.str n,.ref rB])
 exact q p _ n (.ref rB) _ ((li8.same sB).same sC) upd_same ⟨hn,Nat.le_trans jl (by show 3*12≤1900;decide),.inl ⟨rB,_,rfl,sC _ _ hB,nr.peel,say_peel hm hn ro nr.len (by omega)⟩⟩
end
end K93
namespace K93
open L2
open BB (lens outs)
abbrev OnQ:Str:=(("_law_one_right" : Str)++".<locals>.")++"<lambda>"
section
variable {C x d:Addr}{H H':Hp}{D:Dk}
theorem meth_sayC {c0 c2 c3 c4:Addr}{σ:L2.St}{Q:VK}{E:XK}{i:Nat}{t:TE}(e:σ[i]?=some (some (.ref x)))(dk:DkAt C x d D H)(ht:t σ H fun v H2=>spSay C c0 c2 c3 c4 [.ref x,v] H2 Q E) :
 tMeth C "say" (spSay C c0 c2 c3 c4) [] E (tVar i) (tCons t tNil) σ H Q:=by
 obtain⟨kvs,⟨dx,ha,hd⟩,_⟩:=dk
 exact⟨_,e,x,dx,_,rfl,ha,rows_ns,ht⟩
theorem DkAt.lam {T:Addr}{ps:Array Value}(h:DkAt C x d D H)(hT:H T=some (.tbl ps))(k:∀c u,c≠T→H c=some u→H' c=some u):DkAt C x d D H':=by
 obtain⟨kvs,⟨dx,e1,e2⟩,p⟩:=h
 have n:∀{b:Addr} {o:HO},H b=some o→(∀ps,o≠.tbl ps)→b≠T:=fun{b o} e z y=>by rw[y,hT]at e;exact z _ (Option.some.inj e).symm
 exact⟨kvs,⟨dx,k _ _ (n e1 fun _ z=>nomatch z) e1,k _ _ (n e2 fun _ z=>nomatch z) e2⟩,L2.Paired.imp' (fun _ _ g=>g.keep fun r xs e=>k _ _ (n e fun _ z=>nomatch z) e) p⟩
end
structure On (C x d r T:Addr)(D:Dk)(row:List Int)(H0 H:Hp):Prop where
 kp:∀c o,c≠T→H0 c=some o→H c=some o
 tb:Tab OnQ H T
 dk:DkAt C x d D H
 at_:H r=some (.tup (row.map V.int))
section
variable {C x d r T:Addr}{D:Dk}{row:List Int}{H0 H H':Hp}
theorem On.same (o:On C x d r T D row H0 H)(s:Same H H'):On C x d r T D row H0 H':=⟨fun c u n e=>s _ _ (o.kp c u n e),o.tb.same s,o.dk.same s,s _ _ o.at_⟩
theorem On.lam (o:On C x d r T D row H0 H)(k:∀c u,c≠T→H c=some u→H' c=some u)(t:Tab OnQ H' T):On C x d r T D row H0 H':=by
 obtain⟨ps,hT,_⟩:=o.tb
 exact⟨fun c u n e=>k c u n (o.kp c u n e),t,o.dk.lam hT k,k _ _ (not_tabQ o.tb o.at_ fun _ z=>nomatch z) o.at_⟩
end
theorem line_ask {x y n:Str}(hy:y=x++⟨#[32]⟩)(sx:Txt.split x BLK=[x])(ly:y.length≤20)(fo:formsOf x=some [Str.ofString "A"])(hn:nameB n=true):Line (y++n) x [n] [Str.ofString "A"]:=by
 refine line_one (line_pre (u:=x) (ws:=[x]) (by rw[hy]) sx (name_blank hn)) ?_ hn fo
 have:=name_len hn
 rw[Str.length_append]
 omega
theorem l_show {n:Str}(hn:nameB n=true):Line (Str.ofString "show "++n) (Str.ofString "show") [n] [Str.ofString "A"]:=line_ask (by decide +kernel) (by decide +kernel) (by decide +kernel) (by decide +kernel) hn
theorem l_lengths {n:Str}(hn:nameB n=true):Line (Str.ofString "lengths "++n) (Str.ofString "lengths") [n] [Str.ofString "A"]:=line_ask (by decide +kernel) (by decide +kernel) (by decide +kernel) (by decide +kernel) hn
theorem l_takings {n:Str}(hn:nameB n=true):Line (Str.ofString "takings "++n) (Str.ofString "takings") [n] [Str.ofString "A"]:=line_ask (by decide +kernel) (by decide +kernel) (by decide +kernel) (by decide +kernel) hn
theorem l_free {n:Str}(hn:nameB n=true):Line (Str.ofString "free "++n) (Str.ofString "free") [n] [Str.ofString "A"]:=line_ask (by decide +kernel) (by decide +kernel) (by decide +kernel) (by decide +kernel) hn
theorem ne_no {α:Type}[DecidableEq α]{x y:α}(e:x=y):V.bl (!decide (x=y))=.bl false:=by rw[decide_eq_true e];rfl
theorem eq_yes {α:Type}[DecidableEq α]{x y:α}(e:x=y):V.bl (decide (x=y))=.bl true:=by rw[decide_eq_true e]
theorem word_fit {y n:Str}(hn:nameB n=true)(ly:y.length≤20):y.length+n.length≤sizeLine:=by have:=name_len hn;rw[sizeLine_eq];omega
def spOne (C c0 c2 c3 c4 T:Addr):Sp:=fun vs H Q _=>∃(x r d:Addr) (n:Str) (D:Dk) (row:List Int),vs=[.ref x,.str n,.ref r]∧On C x d r T D row H H∧rowOf D n=some row∧nameB n=true∧Nr 6 row∧
 ∀H',On C x d r T D row H H'→Q (.bl true) H'
theorem ft_lt {row:List Int}{m:Nat}(h:ftF row=some m):m<61:=by
 unfold ftF at h
 exact mem_range.mp (List.mem_of_find?_eq_some h)
section
variable {P:Program}{w:World}{K:W.Frag}{mg:Str→Option Value}{base:Heap}{b c0 c1 c2 c3 c4 c T CD fs:Addr}{fds:FuncData}{bm2:List Value}
theorem ok_L_one_right {f:Addr}{fd:FuncData}(F:Fun K "_law_one_right" "_law_one_right" s_L_one_right f fd)(nb:NbX mg)(h_L_row_text:Has P w K mg base 1 "_law_row_text" ["_law_row_here"] spLText)(h_L_numbers:Has P w K mg base 1 "_law_numbers" ["_law_row_here"] (orSp spNtL spNtT))(h_lengths:Has P w K mg base 3 "lengths" ["row"] spLen)(h_takings:Has P w K mg base 2 "takings" ["row"] spTks)(h_made:HasM P w K mg 9 7 "_law_made" "_law_call" (Ec K b c0 c1 c2 c3 c4))(h_ref:HasR P w K mg 8 7 "_law_refused" "_law_call" Rn (Ec K b c0 c1 c2 c3 c4))(hE_steps_to_free:∀base,HasE P w K mg base 4 "steps_to_free" ["row"] (orSp spSteps (spUntilE c2)))
 (clD:Cls K CD) (hms:Meth K CD "say" fs) (hFs:∀base,FnOk P w K mg base (CXF P w) 6 fs fds ["self","line"] (spSay CD c0 c2 c3 c4)) (hbs:Binds K fds ["self","line"] [])
 (hcd:fd.code=.ref c) (C:PySem.W.CodeHd base c T) (Bl:BltAt mg base) (e2:ExcF K c2 bm2) (hin:(Value.ref c2::bm2).contains (.ref b)=true) (kd2:Kind5 K c0 c1 c2 c3 c4 c2 2) :
 FnOk P w K mg base CX0 10 f fd ["_law_desk","_law_name_here","_law_row_here"] (spOne CD c0 c2 c3 c4 T):=by
 have nd:=sc_L_one_right.nd
 refine F.okC (k:=9) sc_L_one_right (fun vs H Q E h=>?_) (fun A outer s H vs Q E hr h=>?_)
 ·obtain⟨x,r,d,n,D,row,rfl,_⟩:=h
  rfl
 obtain⟨x,r,d,n,D,row,rfl,on,ro,hn,nr,q⟩:=h
 refine⟨_,(@pss_cons _ _ _ _ _ (@ps_if _ _ _ _ _ _ _ _ (PW.pt (pw_or (pt_cmpR op_ne (pe_meth (pv 0) clD hms (hFs base) (hr.mono (by decide)) hbs .nil passes_none (@pa_cons _ _ _ _ _ (@pe_op _ _ _ _ _ _ _ _ op_add_str pe_str (pv 1)) pa_nil rfl)) (pe_def h_L_row_text hr (@pa_cons _ _ _ _ _ (pv 2) pa_nil rfl)) (nomark _)) (pw_or1 (pt_cmpR op_ne (pe_meth (pv 0) clD hms (hFs base) (hr.mono (by decide)) hbs .nil passes_none (@pa_cons _ _ _ _ _ (@pe_op _ _ _ _ _ _ _ _ op_add_str pe_str (pv 1)) pa_nil rfl)) (pe_def h_L_numbers hr (@pa_cons _ _ _ _ _ (pe_def h_lengths hr (@pa_cons _ _ _ _ _ (pv 2) pa_nil rfl)) pa_nil rfl)) (nomark _))))) (@pss_one _ _ _ (@ps_ret _ _ _ _ pe_bl)) pss_nil) (@pss_cons _ _ _ _ _ (@ps_if _ _ _ _ _ _ _ _ (pt_cmpR op_ne (pe_meth (pv 0) clD hms (hFs base) (hr.mono (by decide)) hbs .nil passes_none (@pa_cons _ _ _ _ _ (@pe_op _ _ _ _ _ _ _ _ op_add_str pe_str (pv 1)) pa_nil rfl)) (pe_def h_L_numbers hr (@pa_cons _ _ _ _ _ (pe_def h_takings hr (@pa_cons _ _ _ _ _ (pv 2) pa_nil rfl)) pa_nil rfl)) (nomark _)) (@pss_one _ _ _ (@ps_ret _ _ _ _ pe_bl)) pss_nil) (@pss_cons _ _ _ _ _ (@ps_set _ _ (3) _ _ _ _ nd rfl (Or.inl rfl) (pe_lambdaM (sc:=defScope s_L_one_right) (N0:=["_law_desk","_law_name_here","_law_row_here","_law_steps"]) (N:=["_law_row_here"]) (js:=[2]) h_made hr hcd C Bl rfl rfl (by exact⟨rfl,rfl,rfl,by decide +kernel⟩) (by exact⟨rfl,by decide +kernel,by decide +kernel,by decide +kernel,rfl,rfl,by decide,by decide +kernel,by decide +kernel⟩) (fun base E cl f cd A outer s H hr=>by exact(pe_defE (hE_steps_to_free base) lvs_lam hr (@pa_cons _ _ _ _ _ (pv 0) pa_nil rfl)))) rfl (by first | exact .inl rfl | exact .inr rfl)) (@pss_cons _ _ _ _ _ (@ps_if _ _ _ _ _ _ _ _ (pt_cmpR op_notN (pe_lambda (sc:=defScope s_L_one_right) (N0:=["_law_desk","_law_name_here","_law_row_here","_law_steps"]) (N:=["_law_row_here"]) (js:=[2]) h_ref hr hcd C Bl rfl rfl (by exact⟨rfl,rfl,rfl,by decide +kernel⟩) (by exact⟨rfl,by decide +kernel,by decide +kernel,by decide +kernel,rfl,rfl,by decide,by decide +kernel,by decide +kernel⟩) (fun base E cl f cd A outer s H hr=>by exact(pe_defE (hE_steps_to_free base) lvs_lam hr (@pa_cons _ _ _ _ _ (pv 0) pa_nil rfl)))) pe_non (nomark _)) (@pss_one _ _ _ (@ps_ret _ _ _ _ (pe_cmpR op_eq (pe_lambda (sc:=defScope s_L_one_right) (N0:=["_law_desk","_law_name_here","_law_row_here","_law_steps"]) (N:=["_law_desk","_law_name_here"]) (js:=[0,1]) h_ref hr hcd C Bl rfl rfl (by exact⟨rfl,rfl,rfl,by decide +kernel⟩) (by exact⟨rfl,by decide +kernel,by decide +kernel,by decide +kernel,rfl,rfl,by decide,by decide +kernel,by decide +kernel⟩) (fun base E cl f cd A outer s H hr=>by exact(pe_meth (pv 0) clD hms (hFs base) (hr.mono (by decide)) hbs .nil (lvs_lam.pass fun _ _ _ z=>z) (@pa_cons _ _ _ _ _ (@pe_op _ _ _ _ _ _ _ _ op_add_str pe_str (pv 1)) pa_nil rfl)))) (pv 3) (nomark _)))) pss_nil) (@pss_one _ _ _ (@ps_ret _ _ _ _ (pe_cmpR op_eq (pe_meth (pv 0) clD hms (hFs base) (hr.mono (by decide)) hbs .nil passes_none (@pa_cons _ _ _ _ _ (@pe_op _ _ _ _ _ _ _ _ op_add_str pe_str (pv 1)) pa_nil rfl)) (@pe_ix _ _ _ _ _ _ _ ix_list (@pe_lst _ _ _ _ (@pa_cons _ _ _ _ _ pe_str (@pa_cons _ _ _ _ _ (pe_callTy call_str_int rfl nb.str boot_str (@pa_cons _ _ _ _ _ (pv 3) pa_nil rfl)) pa_nil rfl) rfl)) (pe_callTy call_int1 rfl nb.int boot_int (@pa_cons _ _ _ _ _ (pe_cmpR op_gt (pv 3) pe_int (nomark _)) pa_nil rfl)) (fun _ _=>rfl)) (nomark _)))))))),?_⟩
 have far:=nr.far (by omega)
 have q0:=q
 -- show
 refine meth_sayC rfl on.dk ⟨_,rfl,_,_,rfl,rfl,word_fit hn (by decide +kernel),sayG_show (l_show hn) on.dk ro (nr.wr (by omega)) fun H1 s1=>?_⟩
 have on1:=on.same s1
 refine⟨_,rfl,r,row,rfl,on1.at_,nr.wr (by omega),fun H2 s2=>⟨rfl,false,ne_no rfl,iteF ?_⟩⟩
 have on2:=on1.same s2
 -- lengths
 refine meth_sayC rfl on2.dk ⟨_,rfl,_,_,rfl,rfl,word_fit hn (by decide +kernel),sayG_lengths (l_lengths hn) on2.dk ro nr.len fun H3 s3=>?_⟩
 have on3:=on2.same s3
 refine⟨_,rfl,r,row,rfl,on3.at_,nr.len,fun t4 H4 s4 h4=>.inr ⟨t4,_,rfl,h4,lens_few nr.len,fun H5 s5=>⟨rfl,false,ne_no rfl,iteF ?_⟩⟩⟩
 have on5:=(on3.same s4).same s5
 clear on1 on2 on3 s1 s2 s3 s4 s5 h4
 -- takings
 refine meth_sayC rfl on5.dk ⟨_,rfl,_,_,rfl,rfl,word_fit hn (by decide +kernel),sayG_takings (l_takings hn) on5.dk ro far.ok fun H6 s6=>?_⟩
 have on6:=on5.same s6
 refine⟨_,rfl,r,row,row.length,rfl,on6.at_,far.ok,fun t7 H7 s7 h7=>.inl ⟨t7,_,rfl,h7,tks_few nr.len,fun H8 s8=>⟨rfl,false,ne_no rfl,iteF ?_⟩⟩⟩
 have on8:=(on6.same s7).same s8
 clear on5 on6 s6 s7 s8 h7
 -- how many steps
 refine⟨on8.tb,fun f9 H9 LA=>?_⟩
 have on9:=on8.lam LA.grow LA.tab
 refine⟨_,rfl,?_⟩
 cases e:ftF row with
 |some m=>
  refine .inl ⟨r,row,m,rfl,on9.at_,far,e,fun HA sA=>⟨sA,_,rfl,.inl ⟨r,row,m,rfl,sA _ _ on9.at_,far,e,fun HB sB=>?_⟩⟩⟩
  have onB:=(on9.same sA).same sB
  refine⟨onB.tb,fun f2 HC LC=>?_⟩
  have onC:=onB.lam LC.grow LC.tab
  refine⟨_,rfl,.inl ⟨r,row,m,rfl,onC.at_,far,e,fun HD sD=>⟨rfl,false,ne_no rfl,iteF ?_⟩⟩⟩
  have onD:=onC.same sD
  have m61:=ft_lt e
  refine meth_sayC rfl onD.dk ⟨_,rfl,_,_,rfl,rfl,word_fit hn (by decide +kernel),sayG_free (l_free hn) onD.dk ro far (fun m' em HE sE=>?_) (fun z=>by rw[e]at z;cases z)⟩
  rw[e]at em
  cases em
  have onE:=onD.same sE
  refine⟨_,rfl,(m:Int),rfl,num_log (by omega),(by show 2≤sizeLine;decide),fun g hg=>?_⟩
  have onF:=onE.same (same_new hg (.lst [.str (Str.ofString "yes"),.str (Str.ofString (toString (m:Int)))]))
  refine⟨_,rfl,_,_,rfl,rfl,.inr ⟨_,rfl,?_⟩⟩
  by_cases c:m=0
  ·subst c
   refine⟨g,_,_,.str (Str.ofString "yes"),rfl,rfl,SqL.of upd_same,(show atI _ ((0:Nat):Int)=_ from atI_nat rfl),rfl,?_⟩
   rw[show V.bl (decide (V.str (freeT 0)=V.str (Str.ofString "yes")))=.bl true from eq_yes rfl]
   exact q _ onF
  ·refine⟨g,_,_,.str (numT (m:Int)),rfl,rfl,SqL.of upd_same,?_,rfl,?_⟩
   ·rw[decide_eq_true (by omega),if_pos rfl]
    exact(show atI _ ((1:Nat):Int)=_ from atI_nat rfl)
   ·rw[eq_yes (by unfold freeT;rw[if_neg c])]
    exact q _ onF
 |none=>
  refine .inr ⟨r,row,rfl,on9.at_,far,e,fun ea HA sA he=>⟨c2,bm2,ea,2,rfl,rfl,he,e2,hin,kd2,fun HB sB=>?_⟩⟩
  have onB:=((on9.same sA).same (same_new he (ExcO ea c2))).same sB
  refine⟨onB.tb,fun f2 HC LC=>?_⟩
  have onC:=onB.lam LC.grow LC.tab
  refine⟨_,rfl,.inr ⟨r,row,rfl,onC.at_,far,e,fun ea2 HD sD he2=>⟨c2,bm2,ea2,2,rfl,rfl,he2,e2,hin,kd2,fun HE sE=>⟨rfl,true,(by rw[decide_eq_false (fun z=>by cases z)];rfl),iteT ?_⟩⟩⟩⟩
  have onE:=((onC.same sD).same (same_new he2 (ExcO ea2 c2))).same sE
  refine⟨onE.tb,fun f3 HF LF=>?_⟩
  have onF:=onE.lam LF.grow LF.tab
  refine meth_sayC rfl onF.dk ⟨_,rfl,_,_,rfl,rfl,word_fit hn (by decide +kernel),sayG_free (l_free hn) onF.dk ro far (fun m em=>by rw[e]at em;cases em) (fun _ ea3 HG sG he3=>⟨c2,bm2,ea3,2,rfl,rfl,he3,e2,hin,kd2,fun HI sI=>⟨_,rfl,rfl,?_⟩⟩)⟩
  rw[eq_yes rfl]
  exact q _ (((onF.same sG).same (same_new he3 (ExcO ea3 c2))).same sI)
end
end K93
namespace K93
open L2
theorem rising_pw:∀(p:Str) (l:List Str),risingS p l=true→(p::l).Pairwise (fun a b=>a.cps.toList≤b.cps.toList)
 |p,[],_=>List.pairwise_singleton _ _
 |p,x::r,h=>by
  obtain⟨h1,h2⟩:=(and_eq_true _ _).mp (show(!ltCps x.cps.toList p.cps.toList&&risingS x r)=true from h)
  have ih:=rising_pw x r h2
  have le:p.cps.toList≤x.cps.toList:=by
   rw[ltCps_eq]at h1
   have:¬x.cps.toList<p.cps.toList:=fun z=>by rw[decide_eq_true z]at h1;cases h1
   exact this
  refine pairwise_cons.mpr ⟨fun y hy=>?_,ih⟩
  rcases mem_cons.mp hy with z | z
  ·rw[z];exact le
  ·exact List.le_trans le ((pairwise_cons.mp ih).1 y z)
theorem sorted_pw {l:List Str}(h:sortedS l=true):l.Pairwise (fun a b=>a.cps.toList≤b.cps.toList):=by
 cases l with
 |nil=>exact .nil
 |cons x r=>exact rising_pw x r h
theorem sorted_one {l m:List Str}(p:l.Perm m)(h:sortedS l=true)(h':sortedS m=true):l=m:=
 List.Perm.eq_of_pairwise (fun a b _ _ h1 h2=>str_ext (List.le_antisymm h1 h2)) (sorted_pw h) (sorted_pw h') p
def KS (S:List Addr)(H H':Hp):Prop:=∀c o,c∉S→H c=some o→H' c=some o
def Soft:HO→Prop
 | .lst _=>True
 | .dK _=>True
 | .tbl _=>True
 |_=>False
def Sof (S:List Addr)(H:Hp):Prop:=∀x∈S,∃o,H x=some o∧Soft o
section
variable {S:List Addr}{H H':Hp}
theorem KS.hard (k:KS S H H')(sf:Sof S H){c:Addr}{o:HO}(e:H c=some o)(n:¬Soft o):H' c=some o:=k c o (fun m=>by
 obtain⟨u,hu,s⟩:=sf c m
 rw[hu]at e
 cases e
 exact n s) e
theorem tab_ks {q:Str}{T:Addr}(t:Tab q H T)(n:T∉S)(sf:Sof S H)(k:KS S H H'):Tab q H' T:=by
 obtain⟨l,e,h⟩:=t
 refine⟨l,k _ _ n e,fun x hx=>?_⟩
 obtain⟨oc,vs,t,a,b⟩:=h x hx
 exact⟨oc,vs,t,k.hard sf a (fun z=>z),b⟩
theorem dk_ks {C a d:Addr}{D:Dk}(h:DkAt C a d D H)(n:d∉S)(sf:Sof S H)(k:KS S H H'):DkAt C a d D H':=by
 obtain⟨kvs,⟨dx,e1,e2⟩,p⟩:=h
 exact⟨kvs,⟨dx,k.hard sf e1 (fun z=>z),k _ _ n e2⟩,L2.Paired.imp' (fun _ _ g=>g.keep fun r xs e=>k.hard sf e (fun z=>z)) p⟩
theorem kp_ks {kd:Addr}{D:Dk}(h:KpAt kd D H)(n:kd∉S)(sf:Sof S H)(k:KS S H H'):KpAt kd D H':=by
 obtain⟨kvs,h1,h2⟩:=h
 exact⟨kvs,k _ _ n h1,L2.Paired.imp' (fun _ _ g=>g.keep fun r xs e=>k.hard sf e (fun z=>z)) h2⟩
end
structure Pl where
 T:Addr
 TL:Addr
 TO:Addr
 x:Addr
 d:Addr
 x2:Addr
 d2:Addr
 kd:Addr
structure Pl.Ok (p:Pl):Prop where
 t1:p.T≠p.TL
 t2:p.T≠p.TO
 t3:p.TL≠p.TO
 d1:p.d≠p.d2
 d3:p.d≠p.kd
 d4:p.d2≠p.kd
structure Al (C:Addr)(p:Pl)(D:Dk)(H:Hp):Prop where
 tt:Tab LQ H p.T
 tl:Tab LnQ H p.TL
 to:Tab OnQ H p.TO
 dk:DkAt C p.x p.d D H
 bs:DkAt C p.x2 p.d2 [] H
 kp:KpAt p.kd D H
section
variable {C:Addr}{p:Pl}{D D':Dk}{H H':Hp}{r:Addr}{xs:List V}
theorem Al.same (w:Al C p D H)(s:Same H H'):Al C p D H':=⟨w.tt.same s,w.tl.same s,w.to.same s,w.dk.same s,w.bs.same s,w.kp.same s⟩
theorem tab_at {q:Str}{T:Addr}(t:Tab q H T):∃ps,H T=some (.tbl ps):=let⟨_,e,_⟩:=t;⟨_,e⟩
theorem dk_at {x d:Addr}(h:DkAt C x d D H):∃kvs,H d=some (.dK kvs):=let⟨_,⟨_,_,e⟩,_⟩:=h;⟨_,e⟩
theorem kp_at {kd:Addr}(h:KpAt kd D H):∃kvs,H kd=some (.dK kvs):=let⟨_,e,_⟩:=h;⟨_,e⟩
theorem ne_tab {q:Str}{T b:Addr}{o:HO}(t:Tab q H T)(e:H b=some o)(n:∀ps,o≠.tbl ps):T≠b:=fun z=>by
 obtain⟨ps,h⟩:=tab_at t
 rw[z,e]at h
 exact n _ (Option.some.inj h)
theorem ne_dict {d b:Addr}{kvs:List (Key×V)}{o:HO}(h:H d=some (.dK kvs))(e:H b=some o)(n:∀z,o≠.dK z):d≠b:=fun z=>by
 rw[z,e]at h
 exact n _ (Option.some.inj h)
theorem Al.lst (w:Al C p D H)(hr:H r=some (.lst xs))(k:Keep r H H'):Al C p D H':=by
 have sf:Sof [r] H:=fun x hx=>by rw[mem_singleton.mp hx];exact⟨_,hr,trivial⟩
 have ks:KS [r] H H':=fun c o n e=>k c o (fun z=>n (by rw[z];exact mem_singleton.mpr rfl)) e
 obtain⟨k1,h1⟩:=dk_at w.dk
 obtain⟨k2,h2⟩:=dk_at w.bs
 obtain⟨k3,h3⟩:=kp_at w.kp
 have n:∀{T:Addr},T≠r→T∉[r]:=fun h m=>h (mem_singleton.mp m)
 exact⟨tab_ks w.tt (n (ne_tab w.tt hr fun _ z=>nomatch z)) sf ks,tab_ks w.tl (n (ne_tab w.tl hr fun _ z=>nomatch z)) sf ks,tab_ks w.to (n (ne_tab w.to hr fun _ z=>nomatch z)) sf ks,
  dk_ks w.dk (n (ne_dict h1 hr fun _ z=>nomatch z)) sf ks,dk_ks w.bs (n (ne_dict h2 hr fun _ z=>nomatch z)) sf ks,kp_ks w.kp (n (ne_dict h3 hr fun _ z=>nomatch z)) sf ks⟩
theorem Al.line {b:Bool}(ok:p.Ok)(w:Al C p D H)(hr:H r=some (.lst xs))(l:Li LnQ r p.TL p.kd b D H H'):Al C p D H':=by
 obtain⟨ps,hT⟩:=tab_at w.tl
 have sf:Sof [r,p.TL] H:=fun x hx=>by
  simp only[mem_cons,not_mem_nil,or_false]at hx
  rcases hx with rfl | rfl
  ·exact⟨_,hr,trivial⟩
  ·exact⟨_,hT,trivial⟩
 have ks:KS [r,p.TL] H H':=fun c o n e=>by
  simp only[mem_cons,not_mem_nil,or_false,not_or]at n
  exact l.kp c o n.1 n.2 e
 obtain⟨k1,h1⟩:=dk_at w.dk
 obtain⟨k2,h2⟩:=dk_at w.bs
 have n:∀{T:Addr},T≠r→T≠p.TL→T∉[r,p.TL]:=fun h h' m=>by
  simp only[mem_cons,not_mem_nil,or_false]at m
  exact m.elim h h'
 exact⟨tab_ks w.tt (n (ne_tab w.tt hr fun _ z=>nomatch z) ok.t1) sf ks,l.tb,tab_ks w.to (n (ne_tab w.to hr fun _ z=>nomatch z) ok.t3.symm) sf ks,
  dk_ks w.dk (n (ne_dict h1 hr fun _ z=>nomatch z) (ne_tab w.tl h1 fun _ z=>nomatch z).symm) sf ks,dk_ks w.bs (n (ne_dict h2 hr fun _ z=>nomatch z) (ne_tab w.tl h2 fun _ z=>nomatch z).symm) sf ks,l.kd⟩
theorem one_soft {x:Addr}{o:HO}(hx:H x=some o)(s:Soft o):Sof [x] H:=fun y hy=>by rw[mem_singleton.mp hy];exact⟨_,hx,s⟩
theorem one_ks {x:Addr}(k:∀c o,c≠x→H c=some o→H' c=some o):KS [x] H H':=fun c o n e=>k c o (fun z=>n (by rw[z];exact mem_singleton.mpr rfl)) e
theorem not1 {x y:Addr}(h:x≠y):x∉[y]:=fun m=>h (mem_singleton.mp m)
theorem Al.one {x2 r0:Addr}{row:List Int}(ok:p.Ok)(w:Al C p D H)(o:On C p.x p.d r0 p.TO D row H H'):Al C p D H':=by
 obtain⟨ps,hT⟩:=tab_at w.to
 have sf:=one_soft hT trivial
 have ks:=one_ks o.kp
 obtain⟨k2,h2⟩:=dk_at w.bs
 obtain⟨k3,h3⟩:=kp_at w.kp
 exact⟨tab_ks w.tt (not1 ok.t2) sf ks,tab_ks w.tl (not1 ok.t3) sf ks,o.tb,o.dk,dk_ks w.bs (not1 (ne_tab w.to h2 fun _ z=>nomatch z).symm) sf ks,kp_ks w.kp (not1 (ne_tab w.to h3 fun _ z=>nomatch z).symm) sf ks⟩
theorem Al.lam (ok:p.Ok)(w:Al C p D H)(k:∀c u,c≠p.T→H c=some u→H' c=some u)(t:Tab LQ H' p.T):Al C p D H':=by
 obtain⟨ps,hT⟩:=tab_at w.tt
 have sf:=one_soft hT trivial
 have ks:=one_ks k
 obtain⟨k1,h1⟩:=dk_at w.dk
 obtain⟨k2,h2⟩:=dk_at w.bs
 obtain⟨k3,h3⟩:=kp_at w.kp
 exact⟨t,tab_ks w.tl (not1 ok.t1.symm) sf ks,tab_ks w.to (not1 ok.t2.symm) sf ks,dk_ks w.dk (not1 (ne_tab w.tt h1 fun _ z=>nomatch z).symm) sf ks,dk_ks w.bs (not1 (ne_tab w.tt h2 fun _ z=>nomatch z).symm) sf ks,kp_ks w.kp (not1 (ne_tab w.tt h3 fun _ z=>nomatch z).symm) sf ks⟩
theorem Al.put {n:Str}{row:List Int}{r0:Addr}{kvs:List (Key×V)}(ok:p.Ok)(w:Al C p D H)(k:KeepD p.d H H')(dk:DkAt C p.x p.d (putD D n row) H')(hr:H' r0=some (.tup (row.map V.int)))(hk:H p.kd=some (.dK kvs))(pk:Paired (Ent H) D kvs) :
 H' p.kd=some (.dK kvs)∧Al C p (putD D n row) (upd H' p.kd (.dK (putK kvs (Sum.inr n) (.ref r0)))):=by
 obtain⟨k1,h1⟩:=dk_at w.dk
 obtain⟨k2,h2⟩:=dk_at w.bs
 have sf:=one_soft h1 trivial
 have ks:=one_ks k
 have hk':=k _ _ ok.d3.symm hk
 have tt:=tab_ks w.tt (not1 (ne_tab w.tt h1 fun _ z=>nomatch z)) sf ks
 have tl:=tab_ks w.tl (not1 (ne_tab w.tl h1 fun _ z=>nomatch z)) sf ks
 have to:=tab_ks w.to (not1 (ne_tab w.to h1 fun _ z=>nomatch z)) sf ks
 have bs:=dk_ks w.bs (not1 ok.d1.symm) sf ks
 have pk':Paired (Ent H') D kvs:=L2.Paired.imp' (fun _ _ g=>g.keep fun r xs e=>ks.hard sf e (fun z=>z)) pk
 have sf2:=one_soft hk' trivial
 have k2':KS [p.kd] H' (upd H' p.kd (.dK (putK kvs (Sum.inr n) (.ref r0)))):=one_ks fun c o nc e=>by rw[upd_ne nc];exact e
 refine⟨hk',tab_ks tt (not1 (ne_tab tt hk' fun _ z=>nomatch z)) sf2 k2',tab_ks tl (not1 (ne_tab tl hk' fun _ z=>nomatch z)) sf2 k2',tab_ks to (not1 (ne_tab to hk' fun _ z=>nomatch z)) sf2 k2',dk_ks dk (not1 ok.d3) sf2 k2',dk_ks bs (not1 ok.d4) sf2 k2',?_⟩
 refine⟨_,upd_same,L2.Paired.imp' (fun _ _ g=>g.keep fun r xs e=>k2'.hard sf2 e (fun z=>z)) (dk_put hr pk')⟩
end
end K93
namespace L2
def Din (K:W.Frag)(x:Str)(st:Stmt):Prop:=∃(f:Addr) (fd:FuncData),PySem.W.nsIn K mainGlobals x=some (some (.ref f))∧Fun K x x st f fd
theorem din {K:W.Frag}{x:Str}{st:Stmt}{f:Addr}{oc kV doc pm cdv ct:Value}{od an:Option Addr}{osl:Array (Option Value)}(a:PySem.W.nsIn K mainGlobals x=some (some (.ref f)))(l:K.lookup f=some ⟨oc,od,.func (PySem.W.fnOf x x (defArgs st) (defBody st) (defScope st) .none kV doc pm an cdv ct),osl⟩)
 (c:PySem.W.codeIn K cdv x=true) (k:PySem.W.keepIn K (.ref f)=true):Din K x st:=⟨f,_,a,fun_mk l c k⟩
theorem Din.has {P:Program}{w:World}{K:W.Frag}{mg:Str→Option Value}{base h:Heap}{x:Str}{st:Stmt}{ps:List Str}{sp:Sp}{lv:Nat}(d:Din K x st)(X:K.In h)(G:h.Ns mainGlobals mg)(ok:∀{f:Addr} {fd:FuncData},Fun K x x st f fd→FnOk P w K mg base CX0 lv f fd ps sp)
 (hb:∀(kV doc pm:Value) (an:Option Addr) (cdv ct:Value) (us:List Value),us.length=ps.length→bindArgs (PySem.W.fnOf x x (defArgs st) (defBody st) (defScope st) .none kV doc pm an cdv ct) ⟨us,[]⟩=pure (ps.zip us):=by
  intro _ _ _ _ _ _ us hl
  first
   |exact(match us,hl with | [_],_=>rfl)
   |exact(match us,hl with | [_,_],_=>rfl)
   |exact(match us,hl with | [_,_,_],_=>rfl)
   |exact(match us,hl with | [_,_,_,_],_=>rfl)):Has P w K mg base lv x ps sp:=by
 obtain⟨f,fd,a,F⟩:=d
 exact⟨f,fd,ok F,PySem.W.mg_of X G a,F.kp,F.binds hb⟩
section
variable {P:Program}{w:World}{K:W.Frag}{mg:Str→Option Value}{base h:Heap}{x px:Str}{st:Stmt}{ps:List Str}{sp:Sp}{lv k c:Nat}{R:VK→VK}{Ec:VK→XK}
theorem Din.hasE (d:Din K x st)(X:K.In h)(G:h.Ns mainGlobals mg)(ok:∀{f:Addr} {fd:FuncData},Fun K x x st f fd→FnOk P w K mg base (CXF P w) lv f fd ps sp)
 (hb:∀(kV doc pm:Value) (an:Option Addr) (cdv ct:Value) (us:List Value),us.length=ps.length→bindArgs (PySem.W.fnOf x x (defArgs st) (defBody st) (defScope st) .none kV doc pm an cdv ct) ⟨us,[]⟩=pure (ps.zip us):=by
  intro _ _ _ _ _ _ us hl
  first
   |exact(match us,hl with | [_],_=>rfl)
   |exact(match us,hl with | [_,_],_=>rfl)
   |exact(match us,hl with | [_,_,_],_=>rfl)):HasE P w K mg base lv x ps sp:=by
 obtain⟨f,fd,a,F⟩:=d
 exact⟨f,fd,ok F,PySem.W.mg_of X G a,F.kp,F.binds hb⟩
theorem Din.hasR (d:Din K x st)(X:K.In h)(G:h.Ns mainGlobals mg)(ok:∀{f:Addr} {fd:FuncData},Fun K x x st f fd→∀base,FnOk P w K mg base CX0 lv f fd [px] (spRef P w K mg base k R Ec))
 (hb:∀(kV doc pm:Value) (an:Option Addr) (cdv ct:Value) (us:List Value),us.length=[px].length→bindArgs (PySem.W.fnOf x x (defArgs st) (defBody st) (defScope st) .none kV doc pm an cdv ct) ⟨us,[]⟩=pure ([px].zip us):=by
  intro _ _ _ _ _ _ us hl
  exact(match us,hl with | [_],_=>rfl)):HasR P w K mg lv k x px R Ec:=by
 obtain⟨f,fd,a,F⟩:=d
 exact⟨f,fd,ok F,PySem.W.mg_of X G a,F.kp,F.binds hb⟩
theorem Din.hasM (d:Din K x st)(X:K.In h)(G:h.Ns mainGlobals mg)(ok:∀{f:Addr} {fd:FuncData},Fun K x x st f fd→∀base,FnOk P w K mg base CX0 lv f fd [px] (spMade P w K mg base k Ec))
 (hb:∀(kV doc pm:Value) (an:Option Addr) (cdv ct:Value) (us:List Value),us.length=[px].length→bindArgs (PySem.W.fnOf x x (defArgs st) (defBody st) (defScope st) .none kV doc pm an cdv ct) ⟨us,[]⟩=pure ([px].zip us):=by
  intro _ _ _ _ _ _ us hl
  exact(match us,hl with | [_],_=>rfl)):HasM P w K mg lv k x px Ec:=by
 obtain⟨f,fd,a,F⟩:=d
 exact⟨f,fd,ok F,PySem.W.mg_of X G a,F.kp,F.binds hb⟩
def DinC (K:W.Frag)(x:Str)(st:Stmt)(c:Addr):Prop:=∃(f:Addr) (fd:FuncData),PySem.W.nsIn K mainGlobals x=some (some (.ref f))∧Fun K x x st f fd∧fd.code=.ref c
theorem dinC {c f:Addr}{oc kV doc pm ct:Value}{od an:Option Addr}{osl:Array (Option Value)}(a:PySem.W.nsIn K mainGlobals x=some (some (.ref f)))(l:K.lookup f=some ⟨oc,od,.func (PySem.W.fnOf x x (defArgs st) (defBody st) (defScope st) .none kV doc pm an (.ref c) ct),osl⟩)
 (cc:PySem.W.codeIn K (.ref c) x=true) (k:PySem.W.keepIn K (.ref f)=true):DinC K x st c:=⟨f,_,a,fun_mk l cc k,rfl⟩
theorem DinC.has {c:Addr}(d:DinC K x st c)(X:K.In h)(G:h.Ns mainGlobals mg)(ok:∀{f:Addr} {fd:FuncData},Fun K x x st f fd→fd.code=.ref c→FnOk P w K mg base CX0 lv f fd ps sp)
 (hb:∀(kV doc pm:Value) (an:Option Addr) (cdv ct:Value) (us:List Value),us.length=ps.length→bindArgs (PySem.W.fnOf x x (defArgs st) (defBody st) (defScope st) .none kV doc pm an cdv ct) ⟨us,[]⟩=pure (ps.zip us):=by
  intro _ _ _ _ _ _ us hl
  first
   |exact(match us,hl with | [_],_=>rfl)
   |exact(match us,hl with | [_,_],_=>rfl)
   |exact(match us,hl with | [_,_,_],_=>rfl)):Has P w K mg base lv x ps sp:=by
 obtain⟨f,fd,a,F,hc⟩:=d
 exact⟨f,fd,ok F hc,PySem.W.mg_of X G a,F.kp,F.binds hb⟩
def XIn (K:W.Frag)(x:Str)(k:Addr)(bm:List Value):Prop:=PySem.W.nsIn K mainGlobals x=some (some (.ref k))∧Exc K k bm
theorem xin {k N:Addr}{nm qq:Str}{bs bm sb:List Value}{hd ab:Bool}{sn:List Str}{co:Option Bool}{dd:Option Addr}{w0 w1 w2 w3 w5:Option Value}(a:PySem.W.nsIn K mainGlobals x=some (some (.ref k)))(lk:K.lookup k=some (excClassObj nm qq k N bs bm hd sn sb ab co dd w0 w1 w2 w3 w5 "ValueError.__new__"))
 (no:PySem.W.nsOkIn K N=true) (ni:PySem.W.nsIn K N "__init__" = some none) (tl:PySem.W.tailIn K mroV bm=true) (cb:bm.contains (.type "BaseException")=true) (cv:bm.contains (.type "ValueError")=true):XIn K x k bm:=
 ⟨a,⟨⟨_,_,_,_,_,_,_,_,_,_,_,_,_,_,_,lk,no,ni⟩,tl,cb,cv⟩⟩
end
end L2
namespace K93
open L2
open BB (lens outs)
def spLaw (K:W.Frag)(T TL TO:Addr):Sp:=fun vs H Q _=>∃(a:Addr) (ns:List Int),vs=[.ref a]∧SqL K H a (ns.map V.int)∧ns.length≤63∧H T=some (.tbl #[])∧H TL=some (.tbl #[])∧H TO=some (.tbl #[])∧T≠TL∧T≠TO∧TL≠TO∧∀H',Q (.bl true) H'
structure It (C:Addr)(p:Pl)(r:Addr)(b:Bool)(D:Dk)(H0 H:Hp):Prop where
 al:Al C p D H
 st:∃x,StAt H r x b
 kp:KS [p.T,p.TL,p.TO,p.d,p.kd] H0 H
 rn:H0 r=none
section
variable {C:Addr}{p:Pl}{r:Addr}{b:Bool}{D:Dk}{H0 H H':Hp}
theorem It.same (w:It C p r b D H0 H)(s:Same H H'):It C p r b D H0 H':=by
 obtain⟨x,hx⟩:=w.st
 exact⟨w.al.same s,⟨x,hx.same s⟩,fun c o n e=>s _ _ (w.kp c o n e),w.rn⟩
theorem It.take (w:It C p r b D H0 H){x':Int}(d:Dok x' b):It C p r b D H0 (upd H r (.lst [.int x',.bl b])):=by
 obtain⟨x,hx⟩:=w.st
 exact⟨w.al.lst hx.1 (keep_upd r H _),⟨x',StAt.upd d⟩,fun c o n e=>by rw[upd_ne (ne_of_none e w.rn)];exact w.kp c o n e,w.rn⟩
theorem five {c:Addr}(h:c∉[p.T,p.TL,p.TO,p.d,p.kd]):c≠p.T∧c≠p.TL∧c≠p.TO∧c≠p.d∧c≠p.kd:=by
 simp only[mem_cons,not_mem_nil,or_false,not_or]at h
 exact h
theorem It.line (ok:p.Ok)(w:It C p r b D H0 H)(l:Li LnQ r p.TL p.kd b D H H'):It C p r b D H0 H':=by
 obtain⟨x,hx⟩:=w.st
 exact⟨w.al.line ok hx.1 l,l.st,fun c o n e=>l.kp c o (ne_of_none e w.rn) (five n).2.1 (w.kp c o n e),w.rn⟩
theorem It.one {r0:Addr}{row:List Int}(ok:p.Ok)(w:It C p r b D H0 H)(o:On C p.x p.d r0 p.TO D row H H'):It C p r b D H0 H':=by
 obtain⟨x,hx⟩:=w.st
 exact⟨w.al.one (x2:=0) ok o,⟨x,o.kp _ _ (ne_tab w.al.to hx.1 fun _ z=>nomatch z).symm hx.1,hx.2⟩,fun c u n e=>o.kp c u (five n).2.2.1 (w.kp c u n e),w.rn⟩
theorem It.lam (ok:p.Ok)(w:It C p r b D H0 H)(k:∀c u,c≠p.T→H c=some u→H' c=some u)(t:Tab LQ H' p.T):It C p r b D H0 H':=by
 obtain⟨x,hx⟩:=w.st
 exact⟨w.al.lam ok k t,⟨x,k _ _ (ne_tab w.al.tt hx.1 fun _ z=>nomatch z).symm hx.1,hx.2⟩,fun c u n e=>k c u (five n).1 (w.kp c u n e),w.rn⟩
theorem It.put {n:Str}{row:List Int}{r0:Addr}{kvs:List (Key×V)}(ok:p.Ok)(w:It C p r b D H0 H)(k:KeepD p.d H H')(dk:DkAt C p.x p.d (putD D n row) H')(hr:H' r0=some (.tup (row.map V.int)))(hk:H p.kd=some (.dK kvs))(pk:Paired (Ent H) D kvs) :
 H' p.kd=some (.dK kvs)∧It C p r b (putD D n row) H0 (upd H' p.kd (.dK (putK kvs (Sum.inr n) (.ref r0)))):=by
 obtain⟨x,hx⟩:=w.st
 obtain⟨k1,h1⟩:=dk_at w.al.dk
 obtain⟨a1,a2⟩:=w.al.put ok k dk hr hk pk
 refine⟨a1,a2,⟨x,?_,hx.2⟩,fun c o n' e=>?_,w.rn⟩
 ·rw[upd_ne (ne_dict hk hx.1 fun _ z=>nomatch z).symm]
  exact k _ _ (ne_dict h1 hx.1 fun _ z=>nomatch z).symm hx.1
 ·rw[upd_ne (five n').2.2.2.2]
  exact k c o (five n').2.2.2.1 (w.kp c o n' e)
theorem sq_ks {K:W.Frag}{a:Addr}{xs:List V}{S:List Addr}(sq:SqL K H a xs)(hs:∀x∈S,(∃ps,H x=some (.tbl ps))∨∃kvs,H x=some (.dK kvs))(k:KS S H H'):SqL K H' a xs:=by
 rcases sq with(h | ⟨o,h⟩) | h
 ·refine .inl (.inl (k _ _ (fun m=>?_) h))
  rcases hs a m with⟨ps,e⟩ | ⟨kvs,e⟩<;>(rw[h]at e;cases e)
 ·refine .inl (.inr ⟨o,k _ _ (fun m=>?_) h⟩)
  rcases hs a m with⟨ps,e⟩ | ⟨kvs,e⟩<;>(rw[h]at e;cases e)
 ·exact .inr h
theorem Al.five (w:Al C p D H):∀x∈[p.T,p.TL,p.TO,p.d,p.kd],(∃ps,H x=some (.tbl ps))∨∃kvs,H x=some (.dK kvs):=fun x hx=>by
 simp only[mem_cons,not_mem_nil,or_false]at hx
 rcases hx with rfl | rfl | rfl | rfl | rfl
 ·exact .inl (tab_at w.tt)
 ·exact .inl (tab_at w.tl)
 ·exact .inl (tab_at w.to)
 ·exact .inr (dk_at w.dk)
 ·exact .inr (kp_at w.kp)
end
theorem line_alike {n m:Str}(hn:nameB n=true)(hm:nameB m=true):Line (Str.ofString "alike "++n++Str.ofString " "++m) (Str.ofString "alike") [n,m] [Str.ofString "A",Str.ofString "A"]:=by
 refine line_two ?_ ?_ hn hm (by decide +kernel)
 ·refine line_pre (u:=Str.ofString "alike "++n) (ws:=[Str.ofString "alike",n]) (by rw[show Str.ofString " " = (⟨#[32]⟩:Str) by decide +kernel]) ?_ (name_blank hm)
  exact line_pre (u:=Str.ofString "alike") (ws:=[Str.ofString "alike"]) (by rw[show Str.ofString "alike " = Str.ofString "alike"++(⟨#[32]⟩:Str) by decide +kernel]) (by decide +kernel) (name_blank hn)
 ·have:=name_len hn
  have:=name_len hm
  rw[Str.length_append,Str.length_append,Str.length_append,show(Str.ofString "alike ").length=6 by decide +kernel,show(Str.ofString " ").length=1 by decide +kernel]
  omega
theorem at_yes (c:Bool):atI [V.str (Str.ofString "no"),V.str (Str.ofString "yes")] (if c=true then 1 else 0)=some (.str (yesT c)):=by
 cases c with
 |true=>exact(show atI _ ((1:Nat):Int)=_ from atI_nat rfl)
 |false=>exact(show atI _ ((0:Nat):Int)=_ from atI_nat rfl)
section
variable {P:Program}{w:World}{K:W.Frag}{mg:Str→Option Value}{base:Heap}{b c0 c1 c2 c3 c4 c T TL TO CD fi fs:Addr}{fdi fds:FuncData}{bm0:List Value}
theorem ok_law {f:Addr}{fd:FuncData}(F:Fun K "law" "law" s_law f fd)(nb:NbX mg)(h_L_state:Has P w K mg base 2 "_law_state" ["_law_script","_law_k"] (spState K))(h_L_line:Has P w K mg base 10 "_law_line" ["_law_state_here","_law_kept"] (spLn TL))(h_L_take:Has P w K mg base 1 "_law_take" ["_law_state_here","_law_many"] (spTake K))(h_one_making:Has P w K mg base 4 "one_making" ["one","other"] spOm)(h_L_one_right:Has P w K mg base 10 "_law_one_right" ["_law_desk","_law_name_here","_law_row_here"] (spOne CD c0 c2 c3 c4 TO))(h_ref:HasR P w K mg 8 7 "_law_refused" "_law_call" Rn (Ec K b c0 c1 c2 c3 c4))
 (clD:Cls K CD) (mk:Mk K CD fi) (hFi:FnOk P w K mg base CX0 1 fi fdi ["self"] (spInit CD)) (hmD:mg "Desk" = some (.ref CD)) (hbi:Binds K fdi ["self"] []) (hms:Meth K CD "say" fs) (hFs:∀base,FnOk P w K mg base (CXF P w) 6 fs fds ["self","line"] (spSay CD c0 c2 c3 c4)) (hbs:Binds K fds ["self","line"] [])
 (hcd:fd.code=.ref c) (C:PySem.W.CodeHd base c T) (Bl:BltAt mg base) (e0:ExcF K c0 bm0) (hin:(Value.ref c0::bm0).contains (.ref b)=true) (kd0:Kind5 K c0 c1 c2 c3 c4 c0 0) :
 FnOk P w K mg base CX0 11 f fd ["_law_script"] (spLaw K T TL TO):=by
 have nd:=sc_law.nd
 refine F.okC (k:=10) sc_law (fun vs H Q E h=>?_) (fun A outer s H vs Q E hr h=>?_)
 ·obtain⟨a,ns,rfl,_⟩:=h
  rfl
 obtain⟨a,ns,rfl,hS,h63,hT,hTL,hTO,t1,t2,t3,q⟩:=h
 refine⟨_,(@pss_cons _ _ _ _ _ (@ps_set _ _ (1) _ _ _ _ nd rfl (Or.inr rfl) (pe_make0 mk hFi (hr.mono (by decide)) rfl hmD hbi .nil pass0) rfl (by first | exact .inl rfl | exact .inr rfl)) (@pss_cons _ _ _ _ _ (@ps_set _ _ (2) _ _ _ _ nd rfl (Or.inl rfl) (pe_make0 mk hFi (hr.mono (by decide)) rfl hmD hbi .nil pass0) rfl (by first | exact .inl rfl | exact .inr rfl)) (@pss_cons _ _ _ _ _ (@ps_set _ _ (3) _ _ _ _ nd rfl (Or.inl rfl) pe_dnewK rfl (by first | exact .inl rfl | exact .inr rfl)) (@pss_cons _ _ _ _ _ (@ps_for _ _ _ _ _ _ _ _ PassesOwn.never rfl (pi_range1 rfl nb.range (@pa_cons _ _ _ _ _ (pe_callB (call_max2 rfl) rfl nb.max boot_max (@pa_cons _ _ _ _ _ pe_int (@pa_cons _ _ _ _ _ (pe_callB (call_min2 rfl) rfl nb.min boot_min (@pa_cons _ _ _ _ _ (pe_callB call_len_seq rfl nb.len PySem.boot_len (@pa_cons _ _ _ _ _ (pv 0) pa_nil rfl)) (@pa_cons _ _ _ _ _ pe_int pa_nil rfl) rfl)) pa_nil rfl) rfl)) pa_nil rfl)) (pg_name (i:=4) nd rfl (Or.inl rfl)) (@pss_cons _ _ _ _ _ (@ps_set _ _ (5) _ _ _ _ nd rfl (Or.inl rfl) (pe_def h_L_state hr (@pa_cons _ _ _ _ _ (pv 0) (@pa_cons _ _ _ _ _ (pv 4) pa_nil rfl) rfl)) rfl (by first | exact .inl rfl | exact .inr rfl)) (@pss_cons _ _ _ _ _ (ps_asg (pe_def h_L_line hr (@pa_cons _ _ _ _ _ (pv 5) (@pa_cons _ _ _ _ _ (pv 3) pa_nil rfl) rfl)) (pg_tup rfl (pgs_cons (pg_name (i:=6) nd rfl (Or.inr rfl)) (pgs_cons (pg_name (i:=7) nd rfl (Or.inl rfl)) (pgs_cons (pg_name (i:=8) nd rfl (Or.inl rfl)) pgs_nil))))) (@pss_cons _ _ _ _ _ (ps_mid (@ps_if _ _ _ _ _ _ _ _ (pt_truth (pe_callB call_isi rfl nb.isi boot_isinstance (@pa_cons _ _ _ _ _ (pv 8) (@pa_cons _ _ _ _ _ (pe_ty nb.int boot_int) pa_nil rfl) rfl)) (fun _=>rfl)) (@pss_one _ _ _ (@ps_if _ _ _ _ _ _ _ _ (pt_cmpR op_ne (pe_lambda (sc:=defScope s_law) (N0:=["_law_script","_law_desk","_law_beside","_law_kept","_law_k","_law_state_here","_law_line_here","_law_name_here","_law_row_here","_law_held","_law_one","_law_other","_law_due"]) (N:=["_law_desk","_law_line_here"]) (js:=[1,6]) h_ref hr hcd C Bl rfl rfl (by exact⟨rfl,rfl,rfl,by decide +kernel⟩) (by exact⟨rfl,by decide +kernel,by decide +kernel,by decide +kernel,rfl,rfl,by decide,by decide +kernel,by decide +kernel⟩) (fun base E cl f cd A outer s H hr=>by exact(pe_meth (pv 0) clD hms (hFs base) (hr.mono (by decide)) hbs .nil (lvs_lam.pass fun _ _ _ z=>z) (@pa_cons _ _ _ _ _ (pv 1) pa_nil rfl)))) (pv 8) (nomark _)) (@pss_one _ _ _ (@ps_ret _ _ _ _ pe_bl)) pss_nil)) (@pss_one _ _ _ (@ps_if _ _ _ _ _ _ _ _ (pt_cmpR op_ne (pe_meth (pv 1) clD hms (hFs base) (hr.mono (by decide)) hbs .nil passes_none (@pa_cons _ _ _ _ _ (pv 6) pa_nil rfl)) pe_str (nomark _)) (@pss_one _ _ _ (@ps_ret _ _ _ _ pe_bl)) (@pss_one _ _ _ (ps_dput (hu1 hr) (pv 3) (pv 7) (pv 8) rfl)))))) (@pss_cons _ _ _ _ _ (@ps_set _ _ (9) _ _ _ _ nd rfl (Or.inl rfl) (pe_callB (call_sortDS rfl) rfl nb.sorted boot_sorted (@pa_cons _ _ _ _ _ (pv 3) pa_nil rfl)) rfl (by first | exact .inl rfl | exact .inr rfl)) (@pss_cons _ _ _ _ _ (@ps_if _ _ _ _ _ _ _ _ (pt_cmpR op_ne (pe_meth (pv 1) clD hms (hFs base) (hr.mono (by decide)) hbs .nil passes_none (@pa_cons _ _ _ _ _ pe_str pa_nil rfl)) (pe_bm PySem.F.plainAttrs_str PySem.F.slot_str_join PySem.F.type_str_join mt_join pe_str (@pa_cons _ _ _ _ _ (pv 9) pa_nil rfl)) (nomark _)) (@pss_one _ _ _ (@ps_ret _ _ _ _ pe_bl)) pss_nil) (@pss_one _ _ _ (@ps_if _ _ _ _ _ _ _ _ (pt_cmpR (op_neNil hr.units0) (pv 9) (@pe_lst _ _ _ _ pa_nil) (nomark _)) (@pss_cons _ _ _ _ _ (@ps_set _ _ (10) _ _ _ _ nd rfl (Or.inl rfl) (@pe_ix _ _ _ _ _ _ _ ix_list (pv 9) (pe_def h_L_take hr (@pa_cons _ _ _ _ _ (pv 5) (@pa_cons _ _ _ _ _ (pe_callB call_len_seq rfl nb.len PySem.boot_len (@pa_cons _ _ _ _ _ (pv 9) pa_nil rfl)) pa_nil rfl) rfl)) (fun _ _=>rfl)) rfl (by first | exact .inl rfl | exact .inr rfl)) (@pss_cons _ _ _ _ _ (@ps_set _ _ (11) _ _ _ _ nd rfl (Or.inl rfl) (@pe_ix _ _ _ _ _ _ _ ix_list (pv 9) (pe_def h_L_take hr (@pa_cons _ _ _ _ _ (pv 5) (@pa_cons _ _ _ _ _ (pe_callB call_len_seq rfl nb.len PySem.boot_len (@pa_cons _ _ _ _ _ (pv 9) pa_nil rfl)) pa_nil rfl) rfl)) (fun _ _=>rfl)) rfl (by first | exact .inl rfl | exact .inr rfl)) (@pss_cons _ _ _ _ _ (@ps_set _ _ (12) _ _ _ _ nd rfl (Or.inl rfl) (@pe_ix _ _ _ _ _ _ _ ix_list (@pe_lst _ _ _ _ (@pa_cons _ _ _ _ _ pe_str (@pa_cons _ _ _ _ _ pe_str pa_nil rfl) rfl)) (pe_callTy call_int1 rfl nb.int boot_int (@pa_cons _ _ _ _ _ (pe_def h_one_making hr (@pa_cons _ _ _ _ _ (pe_dget (hu1 hr) (pv 3) (pv 10) (fun _ _=>rfl)) (@pa_cons _ _ _ _ _ (pe_dget (hu1 hr) (pv 3) (pv 11) (fun _ _=>rfl)) pa_nil rfl) rfl)) pa_nil rfl)) (fun _ _=>rfl)) rfl (by first | exact .inl rfl | exact .inr rfl)) (@pss_one _ _ _ (@ps_if _ _ _ _ _ _ _ _ (PW.pt (pw_or (pt_not (pt_truth (pe_def h_L_one_right hr (@pa_cons _ _ _ _ _ (pv 1) (@pa_cons _ _ _ _ _ (pv 10) (@pa_cons _ _ _ _ _ (pe_dget (hu1 hr) (pv 3) (pv 10) (fun _ _=>rfl)) pa_nil rfl) rfl) rfl)) (fun _=>rfl))) (pw_or1 (pt_cmpR op_ne (pe_meth (pv 1) clD hms (hFs base) (hr.mono (by decide)) hbs .nil passes_none (@pa_cons _ _ _ _ _ (@pe_op _ _ _ _ _ _ _ _ op_add_str (@pe_op _ _ _ _ _ _ _ _ op_add_str (@pe_op _ _ _ _ _ _ _ _ op_add_str pe_str (pv 10)) pe_str) (pv 11)) pa_nil rfl)) (pv 12) (nomark _))))) (@pss_one _ _ _ (@ps_ret _ _ _ _ pe_bl)) pss_nil))))) pss_nil))))))) (by intro _;rfl)) (@pss_one _ _ _ (@ps_ret _ _ _ _ (pe_cmpR op_eq (pe_meth (pv 2) clD hms (hFs base) (hr.mono (by decide)) hbs .nil passes_none (@pa_cons _ _ _ _ _ pe_str pa_nil rfl)) pe_str (nomark _)))))))),?_⟩
 intro x dx hx hdx nx
 refine⟨x,dx,rfl,upd_same,fun d hd=>⟨rfl,?_⟩⟩
 obtain⟨G1,eG,s1,dk1,hd1⟩:=desk_new hx hdx hd
 rw[←eG]
 clear eG hd
 intro x2 dx2 hx2 hdx2 nx2
 refine⟨x2,dx2,rfl,upd_same,fun d2 hd2=>⟨rfl,?_⟩⟩
 obtain⟨G2,eG,s2,dk2,hd2'⟩:=desk_new hx2 hdx2 hd2
 rw[←eG]
 clear eG hd2
 intro kd hkd
 have s3:=same_new hkd (.dK [])
 have k3:KpAt kd [] (upd G2 kd (.dK [])):=⟨[],upd_same,.nil⟩
 have dk1':=(dk1.same s2).same s3
 have dk2':=dk2.same s3
 have dd:d≠d2:=fun z=>by
  obtain⟨kvs,e⟩:=dk_at dk1
  rw[z,hd2']at e;cases e
 have dk':d≠kd:=fun z=>by
  obtain⟨kvs,e⟩:=dk_at (dk1.same s2)
  rw[z,hkd]at e;cases e
 have dk'':d2≠kd:=fun z=>by
  obtain⟨kvs,e⟩:=dk_at dk2
  rw[z,hkd]at e;cases e
 have S3:=(s1.trans s2).trans s3
 generalize upd G2 kd (.dK [])=G3 at s3 k3 dk1' dk2' S3 ⊢
 obtain⟨p,hp⟩:∃p:Pl,p=⟨T,TL,TO,x,d,x2,d2,kd⟩:=⟨_,rfl⟩
 have ok:p.Ok:=by rw[hp];exact⟨t1,t2,t3,dd,dk',dk''⟩
 have al0:Al CD p [] G3:=by rw[hp];exact⟨(Tab.empty hT).same S3,(Tab.empty hTL).same S3,(Tab.empty hTO).same S3,dk1',dk2',k3⟩
 have sq0:=S3.seq hS
 have eT:p.T=T:=by rw[hp]
 have eL:p.TL=TL:=by rw[hp]
 have eO:p.TO=TO:=by rw[hp]
 have ex:p.x=x:=by rw[hp]
 have ex2:p.x2=x2:=by rw[hp]
 have ek:p.kd=kd:=by rw[hp]
 clear hp dk1 dk2 dk1' dk2' k3 s3 s2 s1 S3 hd1 hd2' hkd hx hdx hx2 hdx2
 refine⟨_,rfl,a,_,rfl,.inl sq0,_,_,rfl,_,_,rfl,_,rfl,?_,?_,?_⟩
 ·split<;>split<;>omega
 ·split<;>split<;>omega
 refine for_range (fun i σ H'=>i≤6∧∃D:Dk,Al CD p D H'∧DOk i D∧SqL K H' a (ns.map V.int)∧∃o4 o5 o6 o7 o8 o9 oa ob oc,σ=[some (.ref a),some (.ref x),some (.ref x2),some (.ref kd),o4,o5,o6,o7,o8,o9,oa,ob,oc]) ⟨by omega,[],al0,DOk.nil,sq0,_,_,_,_,_,_,_,_,_,rfl⟩ (fun i σ H0 hi hp=>?_) (fun σ H0 hp=>?_)
 ·obtain⟨i6,D,al,dok,sq,o4,o5,o6,o7,o8,o9,oa,ob,oc,rfl⟩:=hp
  have i5:i≤5:=by
   have:i<6:=by
    revert hi
    split<;>split<;>omega
   omega
  refine⟨_,rfl,_,rfl,a,ns,_,rfl,sq,by omega,fun r x0 bb hr0 d0=>?_⟩
  have w1:It CD p r bb D H0 (upd H0 r (.lst [.int x0,.bl bb])):=⟨al.same (same_new hr0 _),⟨x0,StAt.upd d0⟩,fun c o n e=>by rw[upd_ne (ne_of_none e hr0)];exact e,hr0⟩
  generalize upd H0 r (.lst [.int x0,.bl bb])=H1 at w1 ⊢
  -- a line
  have li:Li LnQ r TL kd bb D H1 H1:=⟨w1.st,fun c o _ _ e=>e,by rw[←eL];exact w1.al.tl,by rw[←ek];exact w1.al.kp⟩
  refine⟨_,rfl,_,rfl,r,kd,bb,i,D,rfl,li,dok,i5,fun pp z n v H2 l2 hp2 lv=>?_⟩
  have w2:=w1.line ok (by rw[eL,ek];exact l2)
  refine⟨pp,_,rfl,SqT.of hp2,rfl,_,_,rfl,_,_,rfl,_,_,rfl,rfl,?_⟩
  refine⟨fun σ H3=>∃D':Dk,It CD p r bb D' H0 H3∧DOk (i+1) D'∧∃o4 o6 o7 o8 o9 oa ob oc,σ=[some (.ref a),some (.ref x),some (.ref x2),some (.ref kd),o4,some (.ref r),o6,o7,o8,o9,oa,ob,oc],?_,fun σ H3 hm=>?_⟩
  ·obtain⟨hn,zl,hv⟩:=lv
   have dk2:DkAt CD x p.d D H2:=by rw[←ex];exact w2.al.dk
   rcases hv with⟨r0,row,rfl,hr2,nr,sa⟩ | ⟨rfl,sb⟩
   ·refine⟨_,rfl,.ref r0,"tuple","int",rfl,.tup hr2,.inl rfl,_,rfl,?_⟩
    rw[show subT "tuple" "int" = false by decide]
    refine iteF (meth_sayC rfl dk2 ⟨_,rfl,sa dk2 fun H3 k3 dk3=>⟨rfl,false,ne_no rfl,iteF ?_⟩⟩)
    obtain⟨kvs,hk,pk⟩:=id w2.al.kp
    obtain⟨kv1,h1⟩:=dk_at w2.al.dk
    have hr3:=k3 _ _ (ne_dict h1 hr2 fun _ z=>nomatch z).symm hr2
    obtain⟨hk3,w4⟩:=w2.put ok k3 (by rw[ex];exact dk3) hr3 hk pk
    have kl:=dk_len pk
    have dl:=dok.len
    rw[ek]at hk3 w4
    exact⟨_,rfl,_,rfl,_,rfl,kd,_,rfl,DPut.k (k:=Sum.inr n) hk3 (by rw[sizeLine_eq];omega),_,w4,dok.put hn nr,_,_,_,_,_,_,_,_,rfl⟩
   ·refine⟨_,rfl,.int 0,"int","int",rfl,.int 0,.inl rfl,_,rfl,?_⟩
    rw[show subT "int" "int" = true by decide]
    refine iteT ⟨by rw[←eT];exact w2.al.tt,fun f3 H3 LA=>?_⟩
    have w3:=w2.lam ok (by rw[eT];exact LA.grow) (by rw[eT];exact LA.tab)
    have dk3:DkAt CD x p.d D H3:=by rw[←ex];exact w3.al.dk
    refine meth_sayC rfl dk3 ⟨_,rfl,sb dk3 fun e H4 s4 he=>⟨c0,bm0,e,0,rfl,rfl,he,e0,hin,kd0,fun H5 s5=>⟨_,rfl,rfl,false,ne_no rfl,iteF ?_⟩⟩⟩
    exact⟨D,((w3.same s4).same (same_new he _)).same s5,dok.next,_,_,_,_,_,_,_,_,rfl⟩
  obtain⟨D',w3,dok',o4',o6',o7',o8',o9',oa',ob',oc',rfl⟩:=hm
  have fin:∀H':Hp,It CD p r bb D' H0 H'→SqL K H' a (ns.map V.int):=fun H' w=>sq_ks sq al.five w.kp
  -- the names
  obtain⟨kvs,hk,pk⟩:=id w3.al.kp
  rw[ek]at hk
  have dl:=dok'.len
  refine⟨_,rfl,kd,D'.map (·.1),kvs,rfl,hk,dk_names pk,by rw[length_map];omega,fun ms l pm so hl=>?_⟩
  have w4:=w3.same (same_new hl (.lst (ms.map V.str)))
  have hl4:(upd H3 l (.lst (ms.map V.str))) l=some (.lst (ms.map V.str)):=upd_same
  generalize upd H3 l (.lst (ms.map V.str))=H4 at w4 hl4 ⊢
  have mn:∀n∈ms,nameB n=true:=fun n hn=>by
   obtain⟨q',hq',rfl⟩:=mem_map.mp (pm.mem_iff.mp hn)
   exact dok'.nm q' hq'
  have m8:∀n∈ms,n.length≤8:=fun n hn=>(name_len (mn n hn)).2
  have mlen:ms.length≤6:=by rw[pm.length_eq,length_map];omega
  have jl:=join_len m8
  have jf:=join_fold m8
  have j54:ms.length*(8+1)≤54:=by omega
  have dk4:DkAt CD x p.d D' H4:=by rw[←ex];exact w4.al.dk
  refine meth_sayC rfl dk4 (sayG_kept dk4 (by omega) (fun q' hq'=>(name_len (dok'.nm q' hq')).2) fun ms' H5 pm' so' s5=>?_)
  have w5:=w4.same s5
  have hl5:=s5 _ _ hl4
  refine⟨rfl,_,rfl,_,l,ms,rfl,rfl,hl5,Nat.le_trans jf (by rw[sizeLine_eq];omega),Nat.le_trans jl (by rw[sizeLine_eq];omega),rfl,false,ne_no (by rw[sorted_one (pm'.trans pm.symm) so' so]),iteF ?_⟩
  refine⟨_,rfl,(by show 0≤sizeLine;decide),fun e he=>?_⟩
  have s6:=same_new he (.lst [])
  have w6:=w5.same s6
  have hl6:=s6 _ _ hl5
  refine⟨l,e,_,rfl,rfl,SqL.of hl6,SqL.of upd_same,_,rfl,?_⟩
  generalize upd H5 e (.lst [])=H6 at w6 hl6 ⊢
  cases ms with
  |nil=>exact⟨by omega,D',w6.al,dok',fin H6 w6,_,_,_,_,_,_,_,_,_,rfl⟩
  |cons n0 rest=>
  refine iteT ?_
  obtain⟨x6,st6⟩:=w6.st
  have lr:l≠r:=fun z=>by
   rw[z,st6.1]at hl6
   cases hl6
  have len0:((n0::rest).map V.str).length=(n0::rest).length:=length_map ..
  have pos0:0<(n0::rest).length:=by simp
  refine⟨_,rfl,_,rfl,_,rfl,l,_,rfl,.inl (SqL.of hl6),r,x6,bb,_,rfl,st6,by rw[len0];omega,by rw[len0];omega,fun u x7 u0 u1 d7=>?_⟩
  have w7:=w6.take d7
  have st7:StAt (upd H6 r (.lst [.int x7,.bl bb])) r x7 bb:=StAt.upd d7
  have hl7:=keep_upd r H6 (.lst [.int x7,.bl bb]) _ _ lr hl6
  generalize upd H6 r (.lst [.int x7,.bl bb])=H7 at w7 st7 hl7 ⊢
  obtain⟨m1,rfl⟩:=Int.eq_ofNat_of_zero_le u0
  rw[len0]at u1
  have mm1:m1<(n0::rest).length:=by omega
  have hn1:=mn _ (getElem_mem mm1)
  obtain⟨row1,ro1⟩:=row_some (D:=D') (pm.mem_iff.mp (getElem_mem mm1))
  refine⟨l,_,_,.str (n0::rest)[m1],rfl,rfl,SqL.of hl7,atI_nat (by rw[getElem?_map,List.getElem?_eq_getElem mm1];rfl),?_⟩
  generalize(n0::rest)[m1]=n1 at hn1 ro1 ⊢
  refine⟨_,rfl,_,rfl,_,rfl,l,_,rfl,.inl (SqL.of hl7),r,x7,bb,_,rfl,st7,by rw[len0];omega,by rw[len0];omega,fun u2 x8 u20 u21 d8=>?_⟩
  have w8:=w7.take d8
  have hl8:=keep_upd r H7 (.lst [.int x8,.bl bb]) _ _ lr hl7
  generalize upd H7 r (.lst [.int x8,.bl bb])=H8 at w8 hl8 ⊢
  obtain⟨m2,rfl⟩:=Int.eq_ofNat_of_zero_le u20
  rw[len0]at u21
  have mm2:m2<(n0::rest).length:=by omega
  have hn2:=mn _ (getElem_mem mm2)
  obtain⟨row2,ro2⟩:=row_some (D:=D') (pm.mem_iff.mp (getElem_mem mm2))
  refine⟨l,_,_,.str (n0::rest)[m2],rfl,rfl,SqL.of hl8,atI_nat (by rw[getElem?_map,List.getElem?_eq_getElem mm2];rfl),?_⟩
  generalize(n0::rest)[m2]=n2 at hn2 ro2 ⊢
  have nr1:=(dok'.row ro1).1
  have nr2:=(dok'.row ro2).1
  -- alike or not
  refine⟨(by show 2≤sizeLine;decide),fun g hg=>?_⟩
  have w9:=w8.same (same_new hg (.lst [.str (Str.ofString "no"),.str (Str.ofString "yes")]))
  have g9:(upd H8 g (.lst [.str (Str.ofString "no"),.str (Str.ofString "yes")])) g=_:=upd_same
  generalize upd H8 g (.lst [.str (Str.ofString "no"),.str (Str.ofString "yes")])=H9 at w9 g9 ⊢
  have kp9:KpAt kd D' H9:=by rw[←ek];exact w9.al.kp
  obtain⟨a1,dg1,ha1⟩:=kp9.get ro1
  obtain⟨a2,dg2,ha2⟩:=kp9.get ro2
  refine⟨_,rfl,_,rfl,kd,_,rfl,dg1,_,rfl,_,rfl,kd,_,rfl,dg2,a1,a2,row1,row2,rfl,ha1,ha2,nr1.len,nr2.len,fun HA sA=>.inr ⟨_,rfl,g,_,_,_,rfl,rfl,SqL.of (sA _ _ g9),at_yes _,?_⟩⟩
  have wA:=w9.same sA
  have kpA:KpAt kd D' HA:=by rw[←ek];exact wA.al.kp
  obtain⟨b1,dgA,hb1⟩:=kpA.get ro1
  have on:On CD x p.d b1 TO D' row1 HA HA:=⟨fun c o _ e=>e,by rw[←eO];exact wA.al.to,by rw[←ex];exact wA.al.dk,hb1⟩
  refine⟨_,rfl,_,rfl,_,rfl,_,rfl,kd,_,rfl,dgA,x,b1,p.d,n1,D',row1,rfl,on,ro1,hn1,nr1.mono (by omega),fun HB onB=>⟨_,rfl,iteF ?_⟩⟩
  have wB:=wA.one ok (by rw[ex,eO];exact onB)
  have ln1:=name_len hn1
  have ln2:=name_len hn2
  have l6:(Str.ofString "alike ").length=6:=by decide +kernel
  have l1:(Str.ofString " ").length=1:=by decide +kernel
  refine meth_sayC rfl onB.dk ⟨_,rfl,_,_,rfl,rfl,by rw[sizeLine_eq,l6];omega,_,_,rfl,rfl,by rw[sizeLine_eq,Str.length_append,l6,l1];omega,_,rfl,_,_,rfl,rfl,by rw[sizeLine_eq,Str.length_append,Str.length_append,l6,l1];omega,sayG_alike (line_alike hn1 hn2) onB.dk ro1 ro2 nr1.len nr2.len fun HC sC=>⟨_,rfl,rfl,false,ne_no rfl,iteF ?_⟩⟩
  have wC:=wB.same sC
  exact⟨by omega,D',wC.al,dok',fin HC wC,_,_,_,_,_,_,_,_,_,rfl⟩
 obtain⟨i6,D,al,dok,sq,o4,o5,o6,o7,o8,o9,oa,ob,oc,rfl⟩:=hp
 have bs:DkAt CD x2 p.d2 [] H0:=by rw[←ex2];exact al.bs
 refine meth_sayC rfl bs (sayG_kept bs (by decide) (fun q' hq'=>absurd hq' not_mem_nil) fun ms H1 pm so s1=>⟨rfl,?_⟩)
 obtain rfl:ms=[]:=List.Perm.eq_nil pm
 exact q _
end
end K93
namespace K93
open L2
def FEnt (w:World)(K:W.Frag)(p:Str×List Str)(e:DictEntry):Prop:=e.hash=keyH w (Sum.inr p.1)∧(∃u,e.key=.str p.1 u)∧∃t,e.val=.ref t∧∀H:Hp,SqT K H t (p.2.map V.str)
theorem ents_at {w:World}{K:W.Frag}:∀{L:List (Str×List Str)} {es:List DictEntry},Paired (FEnt w K) L es→∃(kvs:List (Key×V)) (vs:List (Key×Value)),KV kvs vs∧(∀P:Program,Pairs (mixKind P w) es vs)∧vs.map (·.1)=L.map (fun p=>Sum.inr p.1)∧(∀e∈es,∃k:Key,keyIs k e.key=true∧e.hash=keyH w k)∧
 ∀x:Str,((L.find? fun p=>decide (p.1=x)).map (·.2)=none→valV kvs (Sum.inr x)=none)∧∀fs,(L.find? fun p=>decide (p.1=x)).map (·.2)=some fs→∃t:Addr,valV kvs (Sum.inr x)=some (.ref t)∧∀H:Hp,SqT K H t (fs.map V.str)
 |_,_,.nil=>⟨[],[],.nil,fun _=>.nil,rfl,fun e h=>(not_mem_nil h).elim,fun x=>⟨fun _=>rfl,fun fs h=>by cases h⟩⟩
 |_,_,@Paired.cons _ _ _ p e L es ⟨h1,⟨u,h2⟩,t,h3,h4⟩ r=>by
  obtain⟨kvs,vs,a,b,c,d,f⟩:=ents_at r
  refine⟨(Sum.inr p.1,.ref t)::kvs,(Sum.inr p.1,.ref t)::vs,.cons ⟨rfl,rfl⟩ a,fun P=>.cons (by rw[h2];exact mixKind_str P w _ _) h3 (b P),by rw[map_cons,map_cons,c],fun e' he=>?_,fun x=>?_⟩
  ·rcases mem_cons.mp he with rfl | he
   ·exact⟨Sum.inr p.1,by rw[h2];exact keyIs_str _ _,h1⟩
   ·exact d e' he
  ·by_cases z:p.1=x
   ·rw[List.find?_cons_of_pos (by exact decide_eq_true z),valV_pos (by rw[z])]
    refine⟨fun n=>(nomatch n),fun fs hf=>?_⟩
    cases hf
    exact⟨t,rfl,h4⟩
   ·rw[List.find?_cons_of_neg (by rw[decide_eq_false z];exact Bool.false_ne_true),valV_neg (fun q=>z (Sum.inr.inj q))]
    exact f x
theorem forms_mk {P:Program}{w:World}{K:W.Frag}{fm:Addr}{es:Array DictEntry}{ep:Nat}(l:K.lookup fm=some ⟨.type "dict",none,.dict es ep,#[]⟩)(s:(fm==sysModules)=false)(p:Paired (FEnt w K) formsL es.toList):FormsAt P w K fm:=by
 obtain⟨kvs,vs,a,b,c,d,f⟩:=ents_at p
 refine⟨kvs,⟨s,vs,a,fun h hin=>⟨_,es,ep,hin _ _ l,⟨rfl,rfl,rfl⟩,rfl,fun e he=>?_,b P,?_⟩⟩,f⟩
 ·obtain⟨k,k1,k2⟩:=d e (Array.mem_toList_iff.mpr he)
  exact⟨k,k1,k2⟩
 ·rw[c]
  decide +kernel
theorem ent_mk {w:World}{K:W.Frag}{p:Str×List Str}{e:DictEntry}{u:Tok}{t:Addr}{od:Option Addr}{sl:Array (Option Value)}{its:Array Value}{n:Nat}(h:e.hash=keyH w (Sum.inr p.1))(k:e.key=.str p.1 u)(v:e.val=.ref t)
 (l:K.lookup t=some ⟨.type "tuple",od,.seq its n,sl⟩) (z:its.size≤sizeLine) (vs:Vals (p.2.map V.str) its.toList):FEnt w K p e:=⟨h,⟨u,k⟩,t,v,fun H=>.inr ⟨_,its,n,l,rfl,rfl,z,vs⟩⟩
theorem all_mk {l:PySem.W.OpenLaw}{w:World}{K:W.Frag}{h:Heap}{mg:Str→Option Value}
 {fa c T qL TL qO TO b_ c0_ c1_ c2_ c3_ c4_ CD fm fI fO fS:Addr} {bmb_ bmc0_ bmc2_ bmc3_ bmc4_:List Value}
 {u1 u2 u3 u4 u5 u6 u7 u8 u9 u10 u11:Value}
 {odI anI odO anO odS anS:Option Addr} {slI slO slS:Array (Option Value)} {ocI kVI dcI pmI cdI ctI ocO kVO dcO pmO cdO ctO ocS kVS dcS pmS cdS ctS:Value} {esF:Array DictEntry} {epF:Nat}
 (X:K.In h) (G:h.Ns mainGlobals mg) (hfa:mg "law" = some (.ref fa))
 (d1:Din K "is_number" s_is_number)
 (d2:Din K "is_rising" s_is_rising)
 (d3:Din K "is_row" s_is_row)
 (d4:Din K "need_number" s_need_number)
 (d5:Din K "carry" s_carry)
 (d6:Din K "mirrored" s_mirrored)
 (d7:Din K "carry_back" s_carry_back)
 (d8:Din K "carried" s_carried)
 (d9:Din K "undone" s_undone)
 (d10:Din K "carried_by" s_carried_by)
 (d11:Din K "later" s_later)
 (d12:Din K "blocks_in" s_blocks_in)
 (d13:Din K "is_free" s_is_free)
 (d14:Din K "until_free" s_until_free)
 (d15:Din K "steps_to_free" s_steps_to_free)
 (d16:Din K "closed_up" s_closed_up)
 (d17:Din K "peeled" s_peeled)
 (d18:Din K "lengths_from" s_lengths_from)
 (d19:Din K "lengths" s_lengths)
 (d20:Din K "takings" s_takings)
 (d21:Din K "one_making" s_one_making)
 (d22:Din K "number_read" s_number_read)
 (d23:Din K "row_text" s_row_text)
 (d24:Din K "row_read" s_row_read)
 (d25:Din K "need_name" s_need_name)
 (d26:Din K "part_read" s_part_read)
 (d27:Din K "line_read" s_line_read)
 (d28:Din K "numbers_text" s_numbers_text)
 (d29:Din K "row_to_keep" s_row_to_keep)
 (d30:Din K "answer" s_answer)
 (d31:Din K "_law_cell_at" s_L_cell_at)
 (d32:Din K "_law_state" s_L_state)
 (d33:Din K "_law_take" s_L_take)
 (d34:Din K "_law_refused" s_L_refused)
 (d35:Din K "_law_row" s_L_row)
 (d36:Din K "_law_row_text" s_L_row_text)
 (d37:Din K "_law_name" s_L_name)
 (d38:Din K "_law_made" s_L_made)
 (d39:Din K "_law_numbers" s_L_numbers)
 (dL:DinC K "_law_line" s_L_line qL)
 (dO:DinC K "_law_one_right" s_L_one_right qO)
 (dT:DinC K "law" s_law c)
 (n1:PySem.W.nsIn K mainGlobals "MOST_BALLS" = some (some u1))
 (e1:RelV (.int 12) u1)
 (n2:PySem.W.nsIn K mainGlobals "FARTHEST" = some (some u2))
 (e2:RelV (.int 1000000000) u2)
 (n3:PySem.W.nsIn K mainGlobals "MOST_STEPS" = some (some u3))
 (e3:RelV (.int 60) u3)
 (n4:PySem.W.nsIn K mainGlobals "GREATEST_SIZE" = some (some u4))
 (e4:RelV (.int 12) u4)
 (n5:PySem.W.nsIn K mainGlobals "MOST_TO_FREE" = some (some u5))
 (e5:RelV (.int 60) u5)
 (n6:PySem.W.nsIn K mainGlobals "FIGURES" = some (some u6))
 (e6:RelV (.str FIG) u6)
 (n7:PySem.W.nsIn K mainGlobals "MOST_FIGURES" = some (some u7))
 (e7:RelV (.int 30) u7)
 (n8:PySem.W.nsIn K mainGlobals "MOST_BOXES" = some (some u8))
 (e8:RelV (.int 200) u8)
 (n9:PySem.W.nsIn K mainGlobals "NO_BALLS" = some (some u9))
 (e9:RelV (.str NOB) u9)
 (n10:PySem.W.nsIn K mainGlobals "LETTERS" = some (some u10))
 (e10:RelV (.str LET) u10)
 (n11:PySem.W.nsIn K mainGlobals "LONGEST_NAME" = some (some u11))
 (e11:RelV (.int 8) u11)
 (xb_:XIn K "BallError" b_ bmb_)
 (xc0_:XIn K "NoNumber" c0_ bmc0_)
 (xc2_:XIn K "TooLong" c2_ bmc2_)
 (xc3_:XIn K "NoRow" c3_ bmc3_)
 (xc4_:XIn K "BadNote" c4_ bmc4_)
 (xc1_:PySem.W.nsIn K mainGlobals "NotFree" = some (some (.ref c1_)))
 (g1c0_:PySem.W.findIn K (.ref c0_) "__getattribute__" = some (some (.builtin "BaseException.__getattribute__")))
 (g2c0_:PySem.W.findIn K (.ref c0_) "__class__" = some (some (.builtin "object.__class__")))
 (g3c0_:PySem.W.findIn K (.ref c0_) "__getattr__" = some none)
 (g4c0_:PySem.W.subIn K (.ref c0_) (.type "BaseException")=some true)
 (g5c0_:PySem.W.subIn K (.ref c0_) (.type "object")=some true)
 (q0c0_:PySem.W.kitOne K (.ref c0_) (.ref c0_)=some true)
 (q1c0_:PySem.W.kitOne K (.ref c0_) (.ref c1_)=some false)
 (q2c0_:PySem.W.kitOne K (.ref c0_) (.ref c2_)=some false)
 (q3c0_:PySem.W.kitOne K (.ref c0_) (.ref c3_)=some false)
 (q4c0_:PySem.W.kitOne K (.ref c0_) (.ref c4_)=some false)
 (qvc0_:PySem.W.kitOne K (.ref c0_) (.type "ValueError")=some true)
 (hic0_:(Value.ref c0_::bmc0_).contains (.ref b_)=true)
 (g1c2_:PySem.W.findIn K (.ref c2_) "__getattribute__" = some (some (.builtin "BaseException.__getattribute__")))
 (g2c2_:PySem.W.findIn K (.ref c2_) "__class__" = some (some (.builtin "object.__class__")))
 (g3c2_:PySem.W.findIn K (.ref c2_) "__getattr__" = some none)
 (g4c2_:PySem.W.subIn K (.ref c2_) (.type "BaseException")=some true)
 (g5c2_:PySem.W.subIn K (.ref c2_) (.type "object")=some true)
 (q0c2_:PySem.W.kitOne K (.ref c2_) (.ref c0_)=some false)
 (q1c2_:PySem.W.kitOne K (.ref c2_) (.ref c1_)=some false)
 (q2c2_:PySem.W.kitOne K (.ref c2_) (.ref c2_)=some true)
 (q3c2_:PySem.W.kitOne K (.ref c2_) (.ref c3_)=some false)
 (q4c2_:PySem.W.kitOne K (.ref c2_) (.ref c4_)=some false)
 (qvc2_:PySem.W.kitOne K (.ref c2_) (.type "ValueError")=some true)
 (hic2_:(Value.ref c2_::bmc2_).contains (.ref b_)=true)
 (xD:PySem.W.nsIn K mainGlobals "Desk" = some (some (.ref CD)))
 (pgD:PySem.W.plainGet K CD Str.empty=true)
 (hdD:PySem.W.hasDictIn K CD=true)
 (poD:PySem.W.plainOver K CD=true)
 (saD:PySem.W.findIn K (.ref CD) "__setattr__" = some (some (.builtin "object.__setattr__")))
 (naD:PySem.W.findIn K (.ref CD) "rows" = some none)
 (maD:PySem.W.makesIn K CD=true)
 (keD:PySem.W.keepIn K (.ref CD)=true)
 (aI:PySem.W.findIn K (.ref CD) "__init__" = some (some (.ref fI)))
 (lI:K.lookup fI=some ⟨ocI,odI,.func (PySem.W.fnOf "__init__" "Desk.__init__" (defArgs s___init__) (defBody s___init__) (defScope s___init__) .none kVI dcI pmI anI cdI ctI),slI⟩)
 (cI:PySem.W.codeIn K cdI "Desk.__init__" = true)
 (kI:PySem.W.keepIn K (.ref fI)=true)
 (iI:PySem.W.isFn K (.ref fI)=true)
 (aO:PySem.W.findIn K (.ref CD) "row_of" = some (some (.ref fO)))
 (lO:K.lookup fO=some ⟨ocO,odO,.func (PySem.W.fnOf "row_of" "Desk.row_of" (defArgs s_row_of) (defBody s_row_of) (defScope s_row_of) .none kVO dcO pmO anO cdO ctO),slO⟩)
 (cO:PySem.W.codeIn K cdO "Desk.row_of" = true)
 (kO:PySem.W.keepIn K (.ref fO)=true)
 (iO:PySem.W.isFn K (.ref fO)=true)
 (aS:PySem.W.findIn K (.ref CD) "say" = some (some (.ref fS)))
 (lS:K.lookup fS=some ⟨ocS,odS,.func (PySem.W.fnOf "say" "Desk.say" (defArgs s_say) (defBody s_say) (defScope s_say) .none kVS dcS pmS anS cdS ctS),slS⟩)
 (cS:PySem.W.codeIn K cdS "Desk.say" = true)
 (kS:PySem.W.keepIn K (.ref fS)=true)
 (iS:PySem.W.isFn K (.ref fS)=true)
 (xF:PySem.W.nsIn K mainGlobals "FORMS" = some (some (.ref fm)))
 (lF:K.lookup fm=some ⟨.type "dict",none,.dict esF epF,#[]⟩)
 (sF:(fm==sysModules)=false)
 (pF:Paired (FEnt w K) formsL esF.toList)
 (ch:PySem.W.codeHdIn K c T=true)
 (kt:K.lookup T=none)
 (chL:PySem.W.codeHdIn K qL TL=true)
 (ktL:K.lookup TL=none)
 (chO:PySem.W.codeHdIn K qO TO=true)
 (ktO:K.lookup TO=none)
 (z1:PySem.W.nsIn K mainGlobals "len" = some none)
 (z2:PySem.W.nsIn K mainGlobals "isinstance" = some none)
 (z3:PySem.W.nsIn K mainGlobals "bool" = some none)
 (z4:PySem.W.nsIn K mainGlobals "int" = some none)
 (z5:PySem.W.nsIn K mainGlobals "tuple" = some none)
 (z6:PySem.W.nsIn K mainGlobals "list" = some none)
 (z7:PySem.W.nsIn K mainGlobals "range" = some none)
 (z8:PySem.W.nsIn K mainGlobals "zip" = some none)
 (z9:PySem.W.nsIn K mainGlobals "all" = some none)
 (z10:PySem.W.nsIn K mainGlobals "max" = some none)
 (z11:PySem.W.nsIn K mainGlobals "min" = some none)
 (z12:PySem.W.nsIn K mainGlobals "reversed" = some none)
 (z13:PySem.W.nsIn K mainGlobals "abs" = some none)
 (z14:PySem.W.nsIn K mainGlobals "dict" = some none)
 (z15:PySem.W.nsIn K mainGlobals "sorted" = some none)
 (z16:PySem.W.nsIn K mainGlobals "str" = some none)
 (z17:PySem.W.nsIn K mainGlobals "enumerate" = some none)
 (z18:PySem.W.nsIn K mainGlobals "sum" = some none)
 (z19:PySem.W.nsIn K mainGlobals "ValueError" = some none) :
 ∃(fd:FuncData),(∀(s:Shared) (v:Value),BindsTo s fd ⟨[v],[]⟩ [("_law_script",v)])∧(∀T0∈[TO,TL,T],K.lookup T0=none)∧(∀T0∈[TO,TL,T],∃c,PySem.W.codeHdIn K c T0=true)∧∀base:Heap,K.In base→base.Ns mainGlobals mg→BltAt mg base→FnOk l.prog w K mg base CX0 11 fa fd ["_law_script"] (spLaw K T TL TO):=by
 obtain⟨f,fd,a,F,hcd⟩:=dT
 cases hfa.symm.trans (PySem.W.mg_of X G a)
 have nb0:Nb mg:=⟨PySem.W.mg_none_of X G z1,PySem.W.mg_none_of X G z2,PySem.W.mg_none_of X G z3,PySem.W.mg_none_of X G z4,PySem.W.mg_none_of X G z5,PySem.W.mg_none_of X G z6,PySem.W.mg_none_of X G z7,PySem.W.mg_none_of X G z8,PySem.W.mg_none_of X G z9,PySem.W.mg_none_of X G z10,PySem.W.mg_none_of X G z11⟩
 have nb2:Nb2 mg:=⟨nb0,PySem.W.mg_none_of X G z12,PySem.W.mg_none_of X G z13⟩
 have nb3:Nb3 mg:=⟨nb2,PySem.W.mg_none_of X G z14,PySem.W.mg_none_of X G z15⟩
 have nbx:NbX mg:=⟨nb3,PySem.W.mg_none_of X G z16,PySem.W.mg_none_of X G z17⟩
 have nb:Nb4 mg:=⟨nb3,PySem.W.mg_none_of X G z18,PySem.W.mg_none_of X G z19⟩
 have c_MOST_BALLS:∃u,mg "MOST_BALLS" = some u∧RelV (.int 12) u:=⟨u1,PySem.W.mg_of X G n1,e1⟩
 have c_FARTHEST:∃u,mg "FARTHEST" = some u∧RelV (.int 1000000000) u:=⟨u2,PySem.W.mg_of X G n2,e2⟩
 have c_MOST_STEPS:∃u,mg "MOST_STEPS" = some u∧RelV (.int 60) u:=⟨u3,PySem.W.mg_of X G n3,e3⟩
 have c_GREATEST_SIZE:∃u,mg "GREATEST_SIZE" = some u∧RelV (.int 12) u:=⟨u4,PySem.W.mg_of X G n4,e4⟩
 have c_MOST_TO_FREE:∃u,mg "MOST_TO_FREE" = some u∧RelV (.int 60) u:=⟨u5,PySem.W.mg_of X G n5,e5⟩
 have c_FIGURES:∃u,mg "FIGURES" = some u∧RelV (.str FIG) u:=⟨u6,PySem.W.mg_of X G n6,e6⟩
 have c_MOST_FIGURES:∃u,mg "MOST_FIGURES" = some u∧RelV (.int 30) u:=⟨u7,PySem.W.mg_of X G n7,e7⟩
 have c_MOST_BOXES:∃u,mg "MOST_BOXES" = some u∧RelV (.int 200) u:=⟨u8,PySem.W.mg_of X G n8,e8⟩
 have c_NO_BALLS:∃u,mg "NO_BALLS" = some u∧RelV (.str NOB) u:=⟨u9,PySem.W.mg_of X G n9,e9⟩
 have c_LETTERS:∃u,mg "LETTERS" = some u∧RelV (.str LET) u:=⟨u10,PySem.W.mg_of X G n10,e10⟩
 have c_LONGEST_NAME:∃u,mg "LONGEST_NAME" = some u∧RelV (.int 8) u:=⟨u11,PySem.W.mg_of X G n11,e11⟩
 obtain⟨ab_,exb_⟩:=xb_
 have mb_:=PySem.W.mg_of X G ab_
 obtain⟨ac0_,exc0_⟩:=xc0_
 have mc0_:=PySem.W.mg_of X G ac0_
 obtain⟨ac2_,exc2_⟩:=xc2_
 have mc2_:=PySem.W.mg_of X G ac2_
 obtain⟨ac3_,exc3_⟩:=xc3_
 have mc3_:=PySem.W.mg_of X G ac3_
 obtain⟨ac4_,exc4_⟩:=xc4_
 have mc4_:=PySem.W.mg_of X G ac4_
 have efc0_:ExcF K c0_ bmc0_:=⟨exc0_,g1c0_,g2c0_,g3c0_,g4c0_,g5c0_⟩
 have kdc0_:Kind5 K c0_ c1_ c2_ c3_ c4_ c0_ 0:=⟨q0c0_,q1c0_,q2c0_,q3c0_,q4c0_,qvc0_,by decide⟩
 have efc2_:ExcF K c2_ bmc2_:=⟨exc2_,g1c2_,g2c2_,g3c2_,g4c2_,g5c2_⟩
 have kdc2_:Kind5 K c0_ c1_ c2_ c3_ c4_ c2_ 2:=⟨q0c2_,q1c2_,q2c2_,q3c2_,q4c2_,qvc2_,by decide⟩
 have er:Errs K mg b_ c0_ c1_ c2_ c3_ c4_:=⟨mb_,mc0_,PySem.W.mg_of X G xc1_,mc2_,mc3_,mc4_,⟨_,exb_⟩⟩
 have clD:Cls K CD:=⟨pgD,hdD,poD,saD⟩
 have nrD:NoAttr K CD "rows":=naD
 have mkD:Mk K CD fI:=⟨maD,aI,iI,keD⟩
 have FI:=fun_mk (st:=s___init__) lI cI kI
 have bI:=FI.binds (ps:=["self"]) fun _ _ _ _ _ _ us hl=>match us,hl with | [_],_=>rfl
 have mI:Meth K CD "__init__" fI:=⟨aI,iI,kI⟩
 have FO:=fun_mk (st:=s_row_of) lO cO kO
 have bO:=FO.binds (ps:=["self","name"]) fun _ _ _ _ _ _ us hl=>match us,hl with | [_,_],_=>rfl
 have mO:Meth K CD "row_of" fO:=⟨aO,iO,kO⟩
 have FS:=fun_mk (st:=s_say) lS cS kS
 have bS:=FS.binds (ps:=["self","line"]) fun _ _ _ _ _ _ us hl=>match us,hl with | [_,_],_=>rfl
 have mS:Meth K CD "say" fS:=⟨aS,iS,kS⟩
 have c_FORMS:∃u,mg "FORMS" = some u∧RelV (.ref fm) u:=⟨.ref fm,PySem.W.mg_of X G xF,rfl⟩
 have fms:FormsAt l.prog w K fm:=forms_mk lF sF pF
 have h_is_number:∀base,Has l.prog w K mg base 1 "is_number" ["thing","least","greatest"] spNum:=fun base=>d1.has X G fun F=>ok_is_number F nb0
 have h_is_rising:∀base,Has l.prog w K mg base 1 "is_rising" ["numbers"] spRise:=fun base=>d2.has X G fun F=>ok_is_rising F nb0
 have h_is_row:∀base,Has l.prog w K mg base 2 "is_row" ["thing"] spIsRow:=fun base=>d3.has X G fun F=>ok_is_row F nb0 (h_is_number base) (h_is_rising base) c_MOST_BALLS c_FARTHEST
 have h_number_read:∀base,Has l.prog w K mg base 1 "number_read" ["text"] spNumRead:=fun base=>d22.has X G fun F=>ok_number_read F nbx c_FIGURES c_MOST_FIGURES
 have hN_number_read:∀base,HasE l.prog w K mg base 1 "number_read" ["text"] (spNumE c4_):=fun base=>d22.hasE X G fun F=>ok_number_readE F nbx c_FIGURES c_MOST_FIGURES mc4_ exc4_
 have hE_number_read:∀base,HasE l.prog w K mg base 1 "number_read" ["text"] (orSp spNumRead (spNumE c4_)):=fun base=>d22.hasE X G fun F=>((ok_number_read F nbx c_FIGURES c_MOST_FIGURES).up).or (ok_number_readE F nbx c_FIGURES c_MOST_FIGURES mc4_ exc4_)
 have hW_row_text:∀base,Has l.prog w K mg base 1 "row_text" ["row"] spRowTextW:=fun base=>d23.has X G fun F=>ok_row_textW F nbx c_NO_BALLS
 have h_row_text:∀base,Has l.prog w K mg base 1 "row_text" ["row"] spRowText:=fun base=>d23.has X G fun F=>(ok_row_textW F nbx c_NO_BALLS).imp fun _ _ _ _=>text_imp
 have h_row_read:∀base,Has l.prog w K mg base 3 "row_read" ["text"] spRowRead:=fun base=>d24.has X G fun F=>ok_row_read F nbx (h_number_read base) (h_is_row base) (h_row_text base) c_NO_BALLS c_MOST_BOXES
 have hE_row_read:∀base,HasE l.prog w K mg base 3 "row_read" ["text"] (orSp spRowRead (spReadE c4_)):=fun base=>d24.hasE X G fun F=>((ok_row_read F nbx (h_number_read base) (h_is_row base) (h_row_text base) c_NO_BALLS c_MOST_BOXES).up).or (ok_row_readE F nbx (h_number_read base) (h_is_row base) (h_row_text base) (hN_number_read base) c_NO_BALLS c_MOST_BOXES mc4_ exc4_)
 have hE_need_name:∀base,HasE l.prog w K mg base 1 "need_name" ["word"] (spName c4_):=fun base=>d25.hasE X G fun F=>ok_need_name F nbx c_LETTERS c_LONGEST_NAME mc4_ exc4_
 have hE_part_read:∀base,HasE l.prog w K mg base 4 "part_read" ["form","word"] (spPart c4_):=fun base=>d26.hasE X G fun F=>ok_part_read F nbx (hE_row_read base) (hE_number_read base) (hE_need_name base) mc4_ exc4_
 have hE_line_read:∀base,HasE l.prog w K mg base 5 "line_read" ["line"] (spLine c4_):=fun base=>d27.hasE X G fun F=>ok_line_read F nbx (hE_part_read base) c_FORMS mc4_ exc4_ fms
 have h_need_number:∀base,Has l.prog w K mg base 2 "need_number" ["thing","least","greatest"] spNeed:=fun base=>d4.has X G fun F=>ok_need_number F nb2 (h_is_number base)
 have hE_need_number:∀base,HasE l.prog w K mg base 2 "need_number" ["thing","least","greatest"] (spNeedE c0_):=fun base=>d4.hasE X G fun F=>ok_need_numberE F (h_is_number base) mc0_ exc0_
 have h_carry:∀base,Has l.prog w K mg base 1 "carry" ["row","size"] spCarry:=fun base=>d5.has X G fun F=>ok_carry F nb2
 have h_mirrored:∀base,Has l.prog w K mg base 1 "mirrored" ["row"] spMir:=fun base=>d6.has X G fun F=>ok_mirrored F nb2
 have h_carry_back:∀base,Has l.prog w K mg base 2 "carry_back" ["row","size"] spBack:=fun base=>d7.has X G fun F=>ok_carry_back F nb2 (h_carry base) (h_mirrored base)
 have h_carried:∀base,Has l.prog w K mg base 2 "carried" ["row"] spCar:=fun base=>d8.has X G fun F=>ok_carried F nb2 (h_carry base)
 have h_undone:∀base,Has l.prog w K mg base 3 "undone" ["row"] spUnd:=fun base=>d9.has X G fun F=>ok_undone F nb2 (h_carry_back base)
 have hE_later:∀base,HasE l.prog w K mg base 4 "later" ["row","steps"] (orSp spLater (spOddE c0_ (-60) 60)):=fun base=>d11.hasE X G fun F=>((ok_later F nb2 (h_need_number base) (h_carried base) (h_undone base) c_MOST_STEPS).up).or ((ok_laterE F (hE_need_number base) c_MOST_STEPS).mono (by decide))
 have hE_carried_by:∀base,HasE l.prog w K mg base 3 "carried_by" ["row","size"] (orSp spCb (spOddE c0_ 1 12)):=fun base=>d10.hasE X G fun F=>((ok_carried_by F nb2 (h_need_number base) (h_carry base) c_GREATEST_SIZE).up).or (ok_carried_byE F (hE_need_number base) c_GREATEST_SIZE)
 have h_closed_up:∀base,Has l.prog w K mg base 1 "closed_up" ["places","out"] spClosed:=fun base=>d16.has X G fun F=>ok_closed_up F nb0
 have h_peeled:∀base,Has l.prog w K mg base 2 "peeled" ["row"] spPeel:=fun base=>d17.has X G fun F=>ok_peeled F nb0 (h_closed_up base)
 have h_lengths_from:∀base,Has l.prog w K mg base 1 "lengths_from" ["counts"] spLf:=fun base=>d18.has X G fun F=>ok_lengths_from F nb2
 have h_lengths:∀base,Has l.prog w K mg base 3 "lengths" ["row"] spLen:=fun base=>d19.has X G fun F=>ok_lengths F nb2 (h_peeled base) (h_lengths_from base)
 have h_takings:∀base,Has l.prog w K mg base 2 "takings" ["row"] spTks:=fun base=>d20.has X G fun F=>ok_takings F nb3 (h_carry base)
 have h_one_making:∀base,Has l.prog w K mg base 4 "one_making" ["one","other"] spOm:=fun base=>d21.has X G fun F=>ok_one_making F nb3 (h_lengths base)
 have h_blocks_in:∀base,Has l.prog w K mg base 1 "blocks_in" ["row"] spBin:=fun base=>d12.has X G fun F=>ok_blocks_in F nb2
 have h_is_free:∀base,Has l.prog w K mg base 2 "is_free" ["row"] spFree:=fun base=>d13.has X G fun F=>ok_is_free F nb2 (h_blocks_in base)
 have h_until_free:∀base,Has l.prog w K mg base 3 "until_free" ["row"] spUntil:=fun base=>d14.has X G fun F=>ok_until_free F nb2 (h_is_free base) (h_carried base) c_MOST_TO_FREE
 have hE_until_free:∀base,HasE l.prog w K mg base 3 "until_free" ["row"] (spUntilE c2_):=fun base=>d14.hasE X G fun F=>ok_until_freeE F nb2 (h_is_free base) (h_carried base) c_MOST_TO_FREE mc2_ exc2_
 have hE_steps_to_free:∀base,HasE l.prog w K mg base 4 "steps_to_free" ["row"] (orSp spSteps (spUntilE c2_)):=fun base=>d15.hasE X G fun F=>((ok_steps_to_free F nb2 (h_until_free base)).up).or (ok_steps_to_freeE F (hE_until_free base))
 have h_numbers_text:∀base,Has l.prog w K mg base 1 "numbers_text" ["numbers"] (orSp spNtL spNtT):=fun base=>d28.has X G fun F=>(ok_numbers_textL F nbx c_NO_BALLS).or (ok_numbers_textT F nbx c_NO_BALLS)
 have hE_answer:∀base,HasE l.prog w K mg base 5 "answer" ["word","given"] (spAns c2_):=fun base=>d30.hasE X G fun F=>ok_answer F nbx (h_lengths base) (h_takings base) (h_numbers_text base) (h_one_making base) (hW_row_text base) (hE_steps_to_free base)
 have hE_row_to_keep:∀base,HasE l.prog w K mg base 5 "row_to_keep" ["word","given"] (spKeep c0_):=fun base=>d29.hasE X G fun F=>ok_row_to_keep F nbx (h_peeled base) (hE_later base) (hE_carried_by base)
 have h_L_cell_at:∀base,Has l.prog w K mg base 1 "_law_cell_at" ["_law_script","_law_k"] (spCell K):=fun base=>d31.has X G fun F=>ok_L_cell_at F nb0
 have h_L_state:∀base,Has l.prog w K mg base 2 "_law_state" ["_law_script","_law_k"] (spState K):=fun base=>d32.has X G fun F=>ok_L_state F nb0 (h_L_cell_at base)
 have h_L_take:∀base,Has l.prog w K mg base 1 "_law_take" ["_law_state_here","_law_many"] (spTake K):=fun base=>d33.has X G fun F=>ok_L_take F nb0
 have h_L_row:∀base,Has l.prog w K mg base 2 "_law_row" ["_law_state_here","_law_gaps"] spRow:=fun base=>d35.has X G fun F=>ok_L_row F nb0 (h_L_take base)
 have h_L_row_text:∀base,Has l.prog w K mg base 1 "_law_row_text" ["_law_row_here"] spLText:=fun base=>d36.has X G fun F=>ok_L_row_text F nbx
 have h_L_name:∀base,Has l.prog w K mg base 2 "_law_name" ["_law_state_here","_law_held"] spNm:=fun base=>d37.has X G fun F=>ok_L_name F nb (h_L_take base)
 have h_L_numbers:∀base,Has l.prog w K mg base 1 "_law_numbers" ["_law_row_here"] (orSp spNtL spNtT):=fun base=>d39.has X G fun F=>(ok_L_numbersL F nbx).or (ok_L_numbersT F nbx)
 have h_ref:HasR l.prog w K mg 8 7 "_law_refused" "_law_call" Rn (Ec K b_ c0_ c1_ c2_ c3_ c4_):=d34.hasR X G fun F _=>ok_L_refused F nb er
 have hM_ref:∀base,Has l.prog w K mg base 8 "_law_refused" ["_law_call"] (spRef l.prog w K mg base 7 Rn (Ec K b_ c0_ c1_ c2_ c3_ c4_)):=fun base=>d34.has X G fun F=>ok_L_refused F nb er
 have h_made:HasM l.prog w K mg 9 7 "_law_made" "_law_call" (Ec K b_ c0_ c1_ c2_ c3_ c4_):=d38.hasM X G fun F base=>ok_L_made F nb (hM_ref base)
 have hFs:∀base,FnOk l.prog w K mg base (CXF l.prog w) 6 fS _ ["self","line"] (spSay CD c0_ c2_ c3_ c4_):=fun base=>ok_say FS nbx (hE_line_read base) (hE_answer base) (hE_row_to_keep base) clD nrD mO (ok_row_of FO nbx mc3_ exc3_ clD nrD) bO
 refine⟨fd,fun s v=>(by obtain⟨_,_,_,_,_,_,_,_,_,rfl,_⟩:=F.ex;exact .of_eq rfl),(forall_mem_cons.mpr ⟨ktO,forall_mem_cons.mpr ⟨ktL,forall_mem_cons.mpr ⟨kt,fun _ h0=>nomatch h0⟩⟩⟩),(forall_mem_cons.mpr ⟨⟨_,chO⟩,forall_mem_cons.mpr ⟨⟨_,chL⟩,forall_mem_cons.mpr ⟨⟨_,ch⟩,fun _ h0=>nomatch h0⟩⟩⟩),fun base kb _ Bl=>?_⟩
 have h_L_line:Has l.prog w K mg base 10 "_law_line" ["_law_state_here","_law_kept"] (spLn TL):=dL.has X G fun F hc=>ok_L_line F nbx (h_L_name base) (h_L_take base) (h_L_row base) (h_L_row_text base) (h_peeled base) h_made hE_later hE_carried_by hc (PySem.W.codeHd_of_K kb chL) Bl efc0_ hic0_ kdc0_
 have h_L_one_right:Has l.prog w K mg base 10 "_law_one_right" ["_law_desk","_law_name_here","_law_row_here"] (spOne CD c0_ c2_ c3_ c4_ TO):=dO.has X G fun F hc=>ok_L_one_right F nbx (h_L_row_text base) (h_L_numbers base) (h_lengths base) (h_takings base) h_made h_ref hE_steps_to_free clD mS hFs bS hc (PySem.W.codeHd_of_K kb chO) Bl efc2_ hic2_ kdc2_
 exact ok_law F nbx (h_L_state base) h_L_line (h_L_take base) (h_one_making base) h_L_one_right h_ref clD mkD (ok___init__ FI clD nrD) (PySem.W.mg_of X G xD) bI mS hFs bS hcd (PySem.W.codeHd_of_K kb ch) Bl efc0_ hic0_ kdc0_
theorem walk {l:PySem.W.OpenLaw}{q:Program}{loose:List Str}{XP:(Str→Option Value)→Heap→Prop}{YP:World→Heap→Prop}{d:DefRec}{K:Params→W.Frag}{T TL TO:Addr}(hn:l.most=some 63)(hdf:d.params.defaults=[])
 (hY:∀(w:World) (h:Heap),YP w h→(K w.params).In h∧∀T0∈[TO,TL,T],h.get? T0=some (PySem.W.tabObj #[])) (n1:T≠TL) (n2:T≠TO) (n3:TL≠TO)
 (F:∀(w:World) (mg:Str→Option Value) (fa:Addr) (h:Heap),(K w.params).In h→h.Ns mainGlobals mg→mg d.name=some (.ref fa)→
  ∃(fd:FuncData),(∀(s:Shared) (v:Value),BindsTo s fd ⟨[v],[]⟩ [("_law_script",v)])∧(∀T0∈[TO,TL,T],(K w.params).lookup T0=none)∧(∀T0∈[TO,TL,T],∃c,PySem.W.codeHdIn (K w.params) c T0=true)∧∀base:Heap,(K w.params).In base→base.Ns mainGlobals mg→BltAt mg base→FnOk l.prog w (K w.params) mg base CX0 11 fa fd ["_law_script"] (spLaw (K w.params) T TL TO)) :
 PySem.W.WalkO q loose XP YP l.row.toRowW d [] (fun f vs=>PySem.call f vs):=
 L2.walk_ofTs (n:=63) (k:=11) (x:="_law_script") (sp:=fun w=>spLaw (K w.params) T TL TO) hn (by decide) hdf ⟨rfl,by decide,by decide⟩ hY F (fun _ _ a ns hl hT hS=>⟨a,ns,rfl,hS,hl,hT T (by simp),hT TL (by simp),hT TO (by simp),n1,n2,n3,fun _=>rfl⟩)
end K93
namespace PySem.Challenge.cw_boxballs_k93_a_desk_holds
def tw7660006669099334183:=()
def tw18171632108582348674:=()
def tw10241399578000980620:=()
def tw12585366668865842792:=()
def tw1842204712721480475:=()
def tw13913835020574139101:=()
def tw13482868736186427203:=()
def tw11063891006233751704:=()
def tw16823746303503556158:=()
def tw10934827562746810194:=()
def tw9377051704537463076:=()
def tw2225314221535085009:=()
def tw6983860901425322807:=()
def tw9483442649094877991:=()
def tw2435401054391966648:=()
def tw14950004471596953683:=()
def tw13108319759020498736:=()
def tw8836121311187519590:=()
def tw5467204935816218242:=()
def tw7489407681843350935:=()
def tw15210159626227836276:=()
def tw4904149388976089115:=()
def tw10852857169426000311:=()
def tw1885108820316342901:=()
def tw14313024937071675615:=()
def tw16562484921667577330:=()
def tw5598915290710244877:=()
def tw429948429756868812:=()
def tw11566150805455056481:=()
def tw7429880050820974525:=()
def tw17233991884814125671:=()
def tw12253733941263656733:=()
def tw4227428546334669719:=()
def tw4122284612566490492:=()
def tw15377553125218448274:=()
def tw4432704032948364149:=()
def tw17031369476594923238:=()
def tw6545296957554709463:=()
def tw17251383205191233504:=()
def tw9525450544240288179:=()
def tw15304264413646716771:=()
def tw1586895381906441343:=()
def tw2145514045517082541:=()
def tw9286913549349210573:=()
def tw2609537832945094400:=()
def tw9367982569703424481:=()
def tw18100640029796729865:=()
def tw18205362386562841520:=()
def tw6229340385714416638:=()
def tw8209871958552712168:=()
def tw14293629879969189630:=()
def tw11906576396848878531:=()
def tw16799695659989885522:=()
def tw8883787110458617092:=()
def tw9317236785617322537:=()
def tw6689930803143421721:=()
def tw234838385353645544:=()
def tw6608466266889234290:=()
def tw13924106318480296048:=()
def tw17967645207572873281:=()
def tw18232083502013062657:=()
def tw231722772596339579:=()
def tw3691826299902077669:=()
def tw14695741321549014760:=()
def tw16640989724833228520:=()
def tw16564573839375363797:=()
def tw8260897039682654241:=()
def tw2157833020716425663:=()
def tw13325401564874051983:=()
def tw16053971349917578675:=()
def tw18138820995696643746:=()
def tw2698409306122698396:=()
def tw17457785013538752412:=()
def tw13628892930556266012:=()
def tw9653644969927344846:=()
def tw14153374086888836300:=()
def tw18249016684650575856:=()
def tw3190446383683265798:=()
def tw7832709351316967241:=()
def tw15787991937257089197:=()
def tw13163826261886902947:=()
def tw10200210261683154583:=()
def tw9167259030930560611:=()
def tw5397172477386914976:=()
def tw6863342045511562449:=()
def tw7014255928363772157:=()
def tw7718032573013530288:=()
def tw2316529979467047740:=()
def tw8147246891608965712:=()
def tw7225404018947551576:=()
def tw12469469085188274404:=()
def tw2655520910993202993:=()
def tw2475824576171927084:=()
def tw10877681073814879257:=()
def tw8539763727757803507:=()
def tw18132083111992600731:=()
def tw18092758175343723497:=()
def tw11539773177619114476:=()
def tw7882936910993573742:=()
def tw10907419910646798972:=()
def tw6745973956487685285:=()
def tw725714801394197104:=()
def tw15288225287945656146:=()
def tw13480722906567204975:=()
def tw771533278524370542:=()
def tw16554549531133008399:=()
def tw12230252986124396789:=()
def tw13119725284133100735:=()
def tw13254925543969029591:=()
def tw17493802793646432104:=()
def tw3206707145344188125:=()
def tw3010612881070851694:=()
def tw4245152976599236099:=()
def tw8228051192163465375:=()
def tw914008873731273622:=()
def tw6020798134355829625:=()
def tw15094163543479207870:=()
def tw4149923000347744118:=()
def tw5953953317493106738:=()
def tw7108659009971352538:=()
def tw11101072822862288836:=()
def tw11536350247857010908:=()
def tw3901320626201946182:=()
def tw6197909072051877944:=()
def tw10583214815867817468:=()
def tw12428649557314856565:=()
def tw5864279282814487523:=()
def tw4139215295156377352:=()
def tw11396234571708959098:=()
def tw13105600357073228962:=()
def tw7884400603306154539:=()
def tw46441967910948610:=()
def tw3507461808126871123:=()
def tw13833988612088763371:=()
def tw4244197861527234700:=()
def tw10864624785783536619:=()
def tw2163109751954197558:=()
def tw7249449454820294324:=()
def tw10152351626402708029:=()
def tw11873291714636435403:=()
def tw12063314654320524110:=()
def tw8828213738006458540:=()
def tw15619416591692962065:=()
def tw17706938523048214792:=()
def tw9554600807424760506:=()
def tw13637212502235096391:=()
def tw14591805547745571489:=()
def tw14518840825312130019:=()
def tw2170517557836891366:=()
def tw3355540539763442092:=()
def tw9329023967545866862:=()
def tw1097297794838686949:=()
def tw13123304722331397382:=()
def tw10266304795675719885:=()
def tw18048354588198120067:=()
def tw6426811723046615352:=()
def tw15987787127061289679:=()
def tw16162415006518565987:=()
def tw1954740758716108851:=()
def tw1349578471130416265:=()
def tw7228967451530430230:=()
def tw3562602271262439824:=()
def tw8478663618588261701:=()
def tw4548543367837425232:=()
def tw17723486051834957667:=()
def tw8918306263816377038:=()
def tw9876128038343436536:=()
def tw16834544171265655045:=()
def tw11907282550120043974:=()
def tw12966164498101736885:=()
def tw10905832083145431872:=()
def tw11499100552421738443:=()
def tw3427287522724634901:=()
def tw1304862524385426973:=()
def tw8183800137882432296:=()
def tw1511174717250498946:=()
def tw750698518644571242:=()
def tw5461689691750070928:=()
def tw14115854402419857083:=()
def tw16374728160464318109:=()
def tw7989684556058561149:=()
def tw2768922079153067320:=()
def tw10634286819020113267:=()
def tw3531437249481730870:=()
def tw15913703848481737130:=()
def tw2526117750304789284:=()
def tw436516647108309638:=()
def tw5214300596621641387:=()
def tw1271432274789164111:=()
def tw12539295988218964666:=()
def tw12889717577900283571:=()
def tw9913473800033498498:=()
def tw5322905403856890164:=()
def tw10711782128603064462:=()
def tw537631481097717862:=()
def tw10626810636350505789:=()
def tw2219696462375091391:=()
def tw17277137245915673931:=()
def tw12140081576756149042:=()
def tw10302276130445932060:=()
def tw3462663341682168093:=()
def tw708712588637044479:=()
def tw14979300999480305259:=()
def tw15806694103193859128:=()
def tw2741893067075540945:=()
def tw13152984951207195310:=()
def tw3682820975589737764:=()
def tw10198285936993031597:=()
def tw1152922051715791993:=()
def tw13719562406459007148:=()
def tw18258602472740546199:=()
def tw6795528151776620901:=()
def tw14480409375882727405:=()
def tw14659385575400803128:=()
def tw3846886119935783613:=()
def tw14532395328214741371:=()
def tw13438309471389641259:=()
def tw18385554602182288701:=()
def tw18312097593459128691:=()
def tw6711017285401807989:=()
def tw12619271732929997320:=()
def tw6129807425919063124:=()
def tw18134765174757769485:=()
def tw18093169365823122185:=()
def tw5243560002525855476:=()
def tw14530574159065198860:=()
def tw16386863584223146691:=()
def tw9451507515520431770:=()
def tw14356176306166309374:=()
def tw9604748033467167156:=()
end PySem.Challenge.cw_boxballs_k93_a_desk_holds
set_option Elab.async true
open PySem PySem.W PyProof.Rows
set_option maxHeartbeats 0 in
theorem PySem.Challenge.cw_boxballs_k93_a_desk_holds : PySem.Challenge.rw_boxballs_k93_a_desk.Holds := by
 w_on;o_law;k_head;(case hw=>w_witness2)
 k_fill
 refine K93.walk (l:=PySem.Challenge.rw_boxballs_k93_a_desk) rfl rfl (fun w h Y=>⟨PySem.W.km_in_of Y,List.forall_mem_cons.mpr ⟨PySem.W.km_tabs_of Y _ (.head _),List.forall_mem_cons.mpr ⟨PySem.W.km_tabs_of Y _ (.tail _ (.head _)),List.forall_mem_cons.mpr ⟨PySem.W.km_tabs_of Y _ (.tail _ (.tail _ (.head _))),fun _ h0=>nomatch h0⟩⟩⟩⟩) ?n1 ?n2 ?n3 ?F
 case n1=>decide
 case n2=>decide
 case n3=>decide
 case F=>
  intro w mg fa h KX G hmg
  refine' K93.all_mk KX G hmg ?d1 ?d2 ?d3 ?d4 ?d5 ?d6 ?d7 ?d8 ?d9 ?d10 ?d11 ?d12 ?d13 ?d14 ?d15 ?d16 ?d17 ?d18 ?d19 ?d20 ?d21 ?d22 ?d23 ?d24 ?d25 ?d26 ?d27 ?d28 ?d29 ?d30 ?d31 ?d32 ?d33 ?d34 ?d35 ?d36 ?d37 ?d38 ?d39 ?dL ?dO ?dT ?n1 ?e1 ?n2 ?e2 ?n3 ?e3 ?n4 ?e4 ?n5 ?e5 ?n6 ?e6 ?n7 ?e7 ?n8 ?e8 ?n9 ?e9 ?n10 ?e10 ?n11 ?e11 ?xb_ ?xc0_ ?xc2_ ?xc3_ ?xc4_ ?xc1_ ?g1c0_ ?g2c0_ ?g3c0_ ?g4c0_ ?g5c0_ ?q0c0_ ?q1c0_ ?q2c0_ ?q3c0_ ?q4c0_ ?qvc0_ ?hic0_ ?g1c2_ ?g2c2_ ?g3c2_ ?g4c2_ ?g5c2_ ?q0c2_ ?q1c2_ ?q2c2_ ?q3c2_ ?q4c2_ ?qvc2_ ?hic2_ ?xD ?pgD ?hdD ?poD ?saD ?naD ?maD ?keD ?aI ?lI ?cI ?kI ?iI ?aO ?lO ?cO ?kO ?iO ?aS ?lS ?cS ?kS ?iS ?xF ?lF ?sF ?pF ?ch ?kt ?chL ?ktL ?chO ?ktO ?z1 ?z2 ?z3 ?z4 ?z5 ?z6 ?z7 ?z8 ?z9 ?z10 ?z11 ?z12 ?z13 ?z14 ?z15 ?z16 ?z17 ?z18 ?z19
  (case d1=>(refine' L2.din ?a ?l ?c ?k;(case a=>k_is);(case l=>k_is);(case c=>k_is);(case k=>k_is)))
  (case d2=>(refine' L2.din ?a ?l ?c ?k;(case a=>k_is);(case l=>k_is);(case c=>k_is);(case k=>k_is)))
  (case d3=>(refine' L2.din ?a ?l ?c ?k;(case a=>k_is);(case l=>k_is);(case c=>k_is);(case k=>k_is)))
  (case d4=>(refine' L2.din ?a ?l ?c ?k;(case a=>k_is);(case l=>k_is);(case c=>k_is);(case k=>k_is)))
  (case d5=>(refine' L2.din ?a ?l ?c ?k;(case a=>k_is);(case l=>k_is);(case c=>k_is);(case k=>k_is)))
  (case d6=>(refine' L2.din ?a ?l ?c ?k;(case a=>k_is);(case l=>k_is);(case c=>k_is);(case k=>k_is)))
  (case d7=>(refine' L2.din ?a ?l ?c ?k;(case a=>k_is);(case l=>k_is);(case c=>k_is);(case k=>k_is)))
  (case d8=>(refine' L2.din ?a ?l ?c ?k;(case a=>k_is);(case l=>k_is);(case c=>k_is);(case k=>k_is)))
  (case d9=>(refine' L2.din ?a ?l ?c ?k;(case a=>k_is);(case l=>k_is);(case c=>k_is);(case k=>k_is)))
  (case d10=>(refine' L2.din ?a ?l ?c ?k;(case a=>k_is);(case l=>k_is);(case c=>k_is);(case k=>k_is)))
  (case d11=>(refine' L2.din ?a ?l ?c ?k;(case a=>k_is);(case l=>k_is);(case c=>k_is);(case k=>k_is)))
  (case d12=>(refine' L2.din ?a ?l ?c ?k;(case a=>k_is);(case l=>k_is);(case c=>k_is);(case k=>k_is)))
  (case d13=>(refine' L2.din ?a ?l ?c ?k;(case a=>k_is);(case l=>k_is);(case c=>k_is);(case k=>k_is)))
  (case d14=>(refine' L2.din ?a ?l ?c ?k;(case a=>k_is);(case l=>k_is);(case c=>k_is);(case k=>k_is)))
  (case d15=>(refine' L2.din ?a ?l ?c ?k;(case a=>k_is);(case l=>k_is);(case c=>k_is);(case k=>k_is)))
  (case d16=>(refine' L2.din ?a ?l ?c ?k;(case a=>k_is);(case l=>k_is);(case c=>k_is);(case k=>k_is)))
  (case d17=>(refine' L2.din ?a ?l ?c ?k;(case a=>k_is);(case l=>k_is);(case c=>k_is);(case k=>k_is)))
  (case d18=>(refine' L2.din ?a ?l ?c ?k;(case a=>k_is);(case l=>k_is);(case c=>k_is);(case k=>k_is)))
  (case d19=>(refine' L2.din ?a ?l ?c ?k;(case a=>k_is);(case l=>k_is);(case c=>k_is);(case k=>k_is)))
  (case d20=>(refine' L2.din ?a ?l ?c ?k;(case a=>k_is);(case l=>k_is);(case c=>k_is);(case k=>k_is)))
  (case d21=>(refine' L2.din ?a ?l ?c ?k;(case a=>k_is);(case l=>k_is);(case c=>k_is);(case k=>k_is)))
  (case d22=>(refine' L2.din ?a ?l ?c ?k;(case a=>k_is);(case l=>k_is);(case c=>k_is);(case k=>k_is)))
  (case d23=>(refine' L2.din ?a ?l ?c ?k;(case a=>k_is);(case l=>k_is);(case c=>k_is);(case k=>k_is)))
  (case d24=>(refine' L2.din ?a ?l ?c ?k;(case a=>k_is);(case l=>k_is);(case c=>k_is);(case k=>k_is)))
  (case d25=>(refine' L2.din ?a ?l ?c ?k;(case a=>k_is);(case l=>k_is);(case c=>k_is);(case k=>k_is)))
  (case d26=>(refine' L2.din ?a ?l ?c ?k;(case a=>k_is);(case l=>k_is);(case c=>k_is);(case k=>k_is)))
  (case d27=>(refine' L2.din ?a ?l ?c ?k;(case a=>k_is);(case l=>k_is);(case c=>k_is);(case k=>k_is)))
  (case d28=>(refine' L2.din ?a ?l ?c ?k;(case a=>k_is);(case l=>k_is);(case c=>k_is);(case k=>k_is)))
  (case d29=>(refine' L2.din ?a ?l ?c ?k;(case a=>k_is);(case l=>k_is);(case c=>k_is);(case k=>k_is)))
  (case d30=>(refine' L2.din ?a ?l ?c ?k;(case a=>k_is);(case l=>k_is);(case c=>k_is);(case k=>k_is)))
  (case d31=>(refine' L2.din ?a ?l ?c ?k;(case a=>k_is);(case l=>k_is);(case c=>k_is);(case k=>k_is)))
  (case d32=>(refine' L2.din ?a ?l ?c ?k;(case a=>k_is);(case l=>k_is);(case c=>k_is);(case k=>k_is)))
  (case d33=>(refine' L2.din ?a ?l ?c ?k;(case a=>k_is);(case l=>k_is);(case c=>k_is);(case k=>k_is)))
  (case d34=>(refine' L2.din ?a ?l ?c ?k;(case a=>k_is);(case l=>k_is);(case c=>k_is);(case k=>k_is)))
  (case d35=>(refine' L2.din ?a ?l ?c ?k;(case a=>k_is);(case l=>k_is);(case c=>k_is);(case k=>k_is)))
  (case d36=>(refine' L2.din ?a ?l ?c ?k;(case a=>k_is);(case l=>k_is);(case c=>k_is);(case k=>k_is)))
  (case d37=>(refine' L2.din ?a ?l ?c ?k;(case a=>k_is);(case l=>k_is);(case c=>k_is);(case k=>k_is)))
  (case d38=>(refine' L2.din ?a ?l ?c ?k;(case a=>k_is);(case l=>k_is);(case c=>k_is);(case k=>k_is)))
  (case d39=>(refine' L2.din ?a ?l ?c ?k;(case a=>k_is);(case l=>k_is);(case c=>k_is);(case k=>k_is)))
  (case dL=>(refine' L2.dinC ?a ?l ?c ?k;(case a=>k_is);(case l=>k_is);(case c=>k_is);(case k=>k_is)))
  (case dO=>(refine' L2.dinC ?a ?l ?c ?k;(case a=>k_is);(case l=>k_is);(case c=>k_is);(case k=>k_is)))
  (case dT=>(refine' L2.dinC ?a ?l ?c ?k;(case a=>k_is);(case l=>k_is);(case c=>k_is);(case k=>k_is)))
  (case n1=>k_is)
  (case e1=>exact⟨_,rfl⟩)
  (case n2=>k_is)
  (case e2=>exact⟨_,rfl⟩)
  (case n3=>k_is)
  (case e3=>exact⟨_,rfl⟩)
  (case n4=>k_is)
  (case e4=>exact⟨_,rfl⟩)
  (case n5=>k_is)
  (case e5=>exact⟨_,rfl⟩)
  (case n6=>k_is)
  (case e6=>exact⟨_,rfl⟩)
  (case n7=>k_is)
  (case e7=>exact⟨_,rfl⟩)
  (case n8=>k_is)
  (case e8=>exact⟨_,rfl⟩)
  (case n9=>k_is)
  (case e9=>exact⟨_,rfl⟩)
  (case n10=>k_is)
  (case e10=>exact⟨_,rfl⟩)
  (case n11=>k_is)
  (case e11=>exact⟨_,rfl⟩)
  (case xb_=>(refine' L2.xin ?a ?lk ?no ?ni ?tl ?cb ?cv;(case a=>k_is);(case lk=>k_is);(case no=>kernel_rfl);(case ni=>k_is);(case tl=>kernel_rfl);(case cb=>first | k_is | decide | rfl);(case cv=>first | k_is | decide | rfl)))
  (case xc0_=>(refine' L2.xin ?a ?lk ?no ?ni ?tl ?cb ?cv;(case a=>k_is);(case lk=>k_is);(case no=>kernel_rfl);(case ni=>k_is);(case tl=>kernel_rfl);(case cb=>first | k_is | decide | rfl);(case cv=>first | k_is | decide | rfl)))
  (case xc2_=>(refine' L2.xin ?a ?lk ?no ?ni ?tl ?cb ?cv;(case a=>k_is);(case lk=>k_is);(case no=>kernel_rfl);(case ni=>k_is);(case tl=>kernel_rfl);(case cb=>first | k_is | decide | rfl);(case cv=>first | k_is | decide | rfl)))
  (case xc3_=>(refine' L2.xin ?a ?lk ?no ?ni ?tl ?cb ?cv;(case a=>k_is);(case lk=>k_is);(case no=>kernel_rfl);(case ni=>k_is);(case tl=>kernel_rfl);(case cb=>first | k_is | decide | rfl);(case cv=>first | k_is | decide | rfl)))
  (case xc4_=>(refine' L2.xin ?a ?lk ?no ?ni ?tl ?cb ?cv;(case a=>k_is);(case lk=>k_is);(case no=>kernel_rfl);(case ni=>k_is);(case tl=>kernel_rfl);(case cb=>first | k_is | decide | rfl);(case cv=>first | k_is | decide | rfl)))
  (case xc1_=>k_is)
  (case g1c0_=>k_is)
  (case g2c0_=>k_is)
  (case g3c0_=>k_is)
  (case g4c0_=>k_is)
  (case g5c0_=>k_is)
  (case q0c0_=>kernel_rfl)
  (case q1c0_=>kernel_rfl)
  (case q2c0_=>kernel_rfl)
  (case q3c0_=>kernel_rfl)
  (case q4c0_=>kernel_rfl)
  (case qvc0_=>kernel_rfl)
  (case hic0_=>first | k_is | decide | rfl)
  (case g1c2_=>k_is)
  (case g2c2_=>k_is)
  (case g3c2_=>k_is)
  (case g4c2_=>k_is)
  (case g5c2_=>k_is)
  (case q0c2_=>kernel_rfl)
  (case q1c2_=>kernel_rfl)
  (case q2c2_=>kernel_rfl)
  (case q3c2_=>kernel_rfl)
  (case q4c2_=>kernel_rfl)
  (case qvc2_=>kernel_rfl)
  (case hic2_=>first | k_is | decide | rfl)
  (case xD=>k_is)
  (case pgD=>kernel_rfl)
  (case hdD=>kernel_rfl)
  (case poD=>kernel_rfl)
  (case saD=>k_is)
  (case naD=>k_is)
  (case maD=>kernel_rfl)
  (case keD=>kernel_rfl)
  (case aI=>k_is)
  (case lI=>k_is)
  (case cI=>kernel_rfl)
  (case kI=>kernel_rfl)
  (case iI=>kernel_rfl)
  (case aO=>k_is)
  (case lO=>k_is)
  (case cO=>kernel_rfl)
  (case kO=>kernel_rfl)
  (case iO=>kernel_rfl)
  (case aS=>k_is)
  (case lS=>k_is)
  (case cS=>kernel_rfl)
  (case kS=>kernel_rfl)
  (case iS=>kernel_rfl)
  (case xF=>k_is)
  (case lF=>k_is)
  (case sF=>decide)
  (case pF=>(refine' .cons (K93.ent_mk rfl rfl rfl ?l ?z ?v) ?_;(case l=>k_is);(case z=>decide);(case v=>exact .cons ⟨_,rfl⟩ (.cons ⟨_,rfl⟩ .nil));refine' .cons (K93.ent_mk rfl rfl rfl ?l ?z ?v) ?_;(case l=>k_is);(case z=>decide);(case v=>exact .nil);refine' .cons (K93.ent_mk rfl rfl rfl ?l ?z ?v) ?_;(case l=>k_is);(case z=>decide);(case v=>exact .cons ⟨_,rfl⟩ .nil);refine' .cons (K93.ent_mk rfl rfl rfl ?l ?z ?v) ?_;(case l=>k_is);(case z=>decide);(case v=>exact .cons ⟨_,rfl⟩ (.cons ⟨_,rfl⟩ (.cons ⟨_,rfl⟩ .nil)));refine' .cons (K93.ent_mk rfl rfl rfl ?l ?z ?v) ?_;(case l=>k_is);(case z=>decide);(case v=>exact .cons ⟨_,rfl⟩ (.cons ⟨_,rfl⟩ (.cons ⟨_,rfl⟩ .nil)));refine' .cons (K93.ent_mk rfl rfl rfl ?l ?z ?v) ?_;(case l=>k_is);(case z=>decide);(case v=>exact .cons ⟨_,rfl⟩ (.cons ⟨_,rfl⟩ .nil));refine' .cons (K93.ent_mk rfl rfl rfl ?l ?z ?v) ?_;(case l=>k_is);(case z=>decide);(case v=>exact .cons ⟨_,rfl⟩ .nil);refine' .cons (K93.ent_mk rfl rfl rfl ?l ?z ?v) ?_;(case l=>k_is);(case z=>decide);(case v=>exact .cons ⟨_,rfl⟩ .nil);refine' .cons (K93.ent_mk rfl rfl rfl ?l ?z ?v) ?_;(case l=>k_is);(case z=>decide);(case v=>exact .cons ⟨_,rfl⟩ .nil);refine' .cons (K93.ent_mk rfl rfl rfl ?l ?z ?v) ?_;(case l=>k_is);(case z=>decide);(case v=>exact .cons ⟨_,rfl⟩ (.cons ⟨_,rfl⟩ .nil));exact .nil))
  (case ch=>kernel_rfl)
  (case kt=>kernel_rfl)
  (case chL=>kernel_rfl)
  (case ktL=>kernel_rfl)
  (case chO=>kernel_rfl)
  (case ktO=>kernel_rfl)
  (case z1=>k_is)
  (case z2=>k_is)
  (case z3=>k_is)
  (case z4=>k_is)
  (case z5=>k_is)
  (case z6=>k_is)
  (case z7=>k_is)
  (case z8=>k_is)
  (case z9=>k_is)
  (case z10=>k_is)
  (case z11=>k_is)
  (case z12=>k_is)
  (case z13=>k_is)
  (case z14=>k_is)
  (case z15=>k_is)
  (case z16=>k_is)
  (case z17=>k_is)
  (case z18=>k_is)
  (case z19=>k_is)

import PyProof.Rows.All
import Wide.All
import OpenK.AllK
import Wide.FinOn
import PyProof.EqAt
import PyProof.EqKinds
import PyProof.TupleCall
import Lean
import KE.KDictList
import PyProof.MaxThree
import KE.LcSums
import PyProof.Rows.FactsN_abs
import PyProof.FactsAll.list_3
import PyProof.SeqI3
import PyProof.EnumIter
import PyProof.EnumMake
import PyProof.EnumFor
import PyProof.ZipIter
import PyProof.FactsAll.zip_1
import PyProof.DictIter
import PyProof.MinMaxWalk
import PyProof.Rows.TupDisplay
import PyProof.Rows.SetFrom
import PyProof.FactsAll.NoneType_1
import PyProof.StrCalls2
import PySem.Challenge.RW_whistlebook_k36_whole_rounds_over_stay
open PySem.W(Frag)
open Sum(inl inr)
local macro_rules|`(⋯)=>`(by first|decide +kernel|omega|walk_at "ar")
set_option hygiene false
local macro_rules|`(#[a,$a,$b])=>`(some ($a $b))|`(#[h])=>`(List (Addr×Obj))|`(#[c,$a])=>`(#[a,.ref,$a])|`(#[g,$a])=>`(F.okX $a ⋯ fun _ _ _ _ H _ Q E hr h=>?_)|`(#[e,$a])=>`(#[a,.int,$a])|`(#[b])=>`(List V)|`(#[i])=>`(List (Nat×Option Int))|`(#[d])=>`(Inv X pins σ H s)|`(#[f,$a,$b,$c])=>`(Fun K $a $b $c f fd)|`(#[j])=>`(∀ t xs,H t=#[a,.tup,xs]->H' t=#[a,.tup,xs])
set_option hygiene true
abbrev zu2:=@List.length_map
abbrev zu3:=@List.getElem?_eq_getElem
abbrev zu4:=@List.getElem?_eq_some_iff
abbrev zu5:=@List.length_append
abbrev zu6:=@List.mem_singleton
abbrev zu7:=@List.mem_cons
abbrev zu8:=@List.getElem?_map
abbrev zu9:=@List.map_append
abbrev zva:=@decide_eq_true
abbrev zvb:=@List.mem_map
abbrev zvc:=@List.mem_of_getElem?
abbrev zvd:=@Nat.le_refl
abbrev zve:=@List.mem_append
abbrev zvf:=@decide_eq_false
abbrev zvg:=@List.map_cons
abbrev zvh:=@Nat.le_trans
abbrev zvi:=@List.size_toArray
abbrev zvj:=@Int.toNat_natCast
abbrev zvk:=@List.take_length
abbrev zvl:=@List.take_succ_eq_append_getElem
abbrev zvm:=@List.mem_cons_of_mem
abbrev zvn:=@Nat.lt_of_lt_of_le
abbrev zvo:=@Bool.false_ne_true
abbrev zvp:=@List.length_cons
abbrev zvq:=@List.mem_append_left
abbrev zvr:=@List.mem_append_right
abbrev zvs:=@beq_eq_false_iff_ne
abbrev zvt:=@List.nodup_cons
abbrev zvu:=@List.getD_eq_getElem?_getD
abbrev zvv:=@Nat.ne_of_lt
abbrev zvw:=@Nat.zero_le
abbrev zvx:=@List.getElem_mem
abbrev zvy:=@List.mem_cons_self
abbrev zvz:=@List.length_filter_le
abbrev zv0:=@Int.emod_lt_of_pos
abbrev zv1:=@List.lookup_cons
abbrev zv2:=@List.getElem?_set_ne
abbrev zv3:=@List.mem_filter
abbrev zv4:=@List.length_range
abbrev zv5:=@List.getElem?_append_right
abbrev zv6:=@Option.map_some
abbrev zv7:=@List.not_mem_nil
abbrev zv8:=@Int.emod_nonneg
abbrev zv9:=@List.mem_range
abbrev zwa:=@List.getElem?_append_left
abbrev zwb:=@Int.zero_add
abbrev zwc:=@List.getElem?_set_self
abbrev zwd:=@List.filter_cons
abbrev zwe:=@List.getElem_of_mem
abbrev zwf:=@Option.isSome_iff_exists
abbrev zwg:=@List.take_add_one
abbrev zwh:=@Bool.false_eq_true
abbrev zwi:=@List.filter_append
abbrev zwj:=@List.filter_cons_of_pos
abbrev zwk:=@List.filter_cons_of_neg
abbrev zwl:=@List.length_eq_zero_iff
abbrev zwm:=@Bool.and_eq_true
abbrev zwn:=@List.map_map
abbrev zwo:=@List.map_congr_left
abbrev zwp:=@Nat.le_succ_of_le
abbrev zwq:=@List.length_take_le
abbrev zwr:=@Nat.lt_of_le_of_lt
abbrev zws:=@List.length_set
abbrev zwt:=@List.nodup_iff_pairwise_ne
abbrev zwu:=@Nat.lt_irrefl
abbrev zwv:=@List.mem_filterMap
abbrev zww:=@List.nodup_nil
abbrev zwx:=@List.mem_of_mem_take
abbrev zwy:=@List.append_assoc
abbrev zwz:=@List.filterMap_cons
abbrev zw0:=@List.mem_singleton_self
abbrev zw1:=@Option.map_eq_some_iff
abbrev zw2:=@List.find?_cons
abbrev zw3:=@List.filter_nil
abbrev zw4:=@List.any_cons
abbrev zw5:=@List.reverse_cons
abbrev zw6:=@Nat.lt_succ_of_lt
abbrev zw7:=@List.length_take
abbrev zw8:=@List.all_eq_true
abbrev zw9:=@Int.toNat_of_nonneg
abbrev zxa:=@List.length_zipWith
abbrev zxb:=@Bool.eq_iff_iff
abbrev zxc:=@List.append_nil
abbrev zxd:=@Nat.not_lt_zero
abbrev zxe:=@Nat.le_of_lt
set_option Elab.async false
set_option linter.all false
set_option maxRecDepth 100000
namespace L2
open PySem PySem.Spec PyProof.Rows
abbrev Key:=Sum Int Str
def J0:Key->Value->Bool
 | .inl k,v=>Value.isInt k v
 | .inr x,v=>Value.isStrOf x v
def zlg(w:World):Key->Int
 | .inl k=>hashInt k
 | .inr x=>hashStr w x
theorem Yq:∀ {k:Key} {v:Value},J0 k v=true->(∃ i t,k=inl i/\v=Value.int i t)\/(∃ x t,k=inr x/\v=Value.str x t)
 | .inl i,v,h=>by
   obtain⟨t,e⟩:=Value.isInt_shape (k:=i) (v:=v) h;exact .inl ⟨i,t,rfl,e⟩
 | .inr x,v,h=>by
   obtain⟨t,e⟩:=Value.isStrOf_shape (x:=x) (v:=v) h;exact .inr ⟨x,t,rfl,e⟩
theorem zcv(i:Int)(t:Tok):J0 (.inl i) (.int i t)=true:=by simp[J0,Value.isInt]
theorem zcw(x:Str)(t:Tok):J0 (.inr x) (.str x t)=true:=by simp[J0,Value.isStrOf]
theorem zij(a b:Int):decide ((inl a:Key)=inl b)=(a == b):=by
 by_cases e:a=b
 ·subst e;simp
 ·have h:¬ (inl a:Key)=inl b:=fun q=>e (inl.inj q);rw[zvf h];exact(zvs.mpr e).symm
theorem zik(a b:Str):decide ((inr a:Key)=inr b)=decide (a=b):=by
 by_cases e:a=b
 ·subst e;simp
 ·have h:¬ (inr a:Key)=inr b:=fun q=>e (inr.inj q);rw[zvf h,zvf e]
theorem zil(a:Int)(b:Str):decide ((inl a:Key)=inr b)=false:=zvf (fun q=>nomatch q)
theorem zim(a:Str)(b:Int):decide ((inr a:Key)=inl b)=false:=zvf (fun q=>nomatch q)
def Yj(prog:Program)(w:World):PySem.KeyKind prog w Key where
 is:=J0
 hash:=zlg w
 inj:=fun v a b ha hb=>by
  rcases Yq ha with ⟨i,t,rfl,rfl⟩|⟨x,t,rfl,rfl⟩
  ·rcases Yq hb with ⟨j,u,rfl,e⟩|⟨y,u,rfl,e⟩
   ·injection e with e1 _;rw[e1]
   ·exact nomatch e
  ·rcases Yq hb with ⟨j,u,rfl,e⟩|⟨y,u,rfl,e⟩
   ·exact nomatch e
   ·injection e with e1 _;rw[e1]
 byValue:=fun k v h=>by
  rcases Yq h with ⟨i,t,rfl,rfl⟩|⟨x,t,rfl,rfl⟩<;>rfl
 pyHash:=fun hv h=>by
  rcases Yq hv with ⟨i,t,rfl,rfl⟩|⟨x,t,rfl,rfl⟩
  ·exact wpAny_pyHash_int h
  ·exact wpAny_pyHash_str h
 eqBool:=fun hu hv h=>by
  rcases Yq hu with ⟨i,t,rfl,rfl⟩|⟨x,t,rfl,rfl⟩
  ·rcases Yq hv with ⟨j,u,rfl,rfl⟩|⟨y,u,rfl,rfl⟩
   ·rw[zij] at h;exact wpAny_eqBool_int h
   ·rw[zil] at h;exact SeqAt.EqAt.int_str i t y u _ _ _ _ h
  ·rcases Yq hv with ⟨j,u,rfl,rfl⟩|⟨y,u,rfl,rfl⟩
   ·rw[zim] at h;exact SeqAt.EqAt.str_int x t j u _ _ _ _ h
   ·rw[zik] at h;exact wpAny_eqBool_str h
 «strs»:=fun k x t v h=>by
  rcases Yq h with ⟨i,u,rfl,e⟩|⟨y,u,rfl,e⟩
  ·exact nomatch e
  ·injection e with e1 _;subst e1;cases v<;>rfl
theorem Ct(prog:Program)(w:World)(i:Int)(t:Tok):(Yj prog w).is (.inl i) (.int i t)=true:=zcv i t
theorem Cu(prog:Program)(w:World)(x:Str)(t:Tok):(Yj prog w).is (.inr x) (.str x t)=true:=zcw x t
inductive V where
 | non|bl (b:Bool)|int (i:Int)|str (x:Str)|byt (b:Array UInt8)|flt (b:UInt64)|ref (a:Addr)|ty (n:String)
 deriving DecidableEq
def RelV:V->Value->Prop
 | .non,u=>u=Value.none
 | .bl b,u=>u=Value.bool b
 | .int i,u=>∃ t,u=Value.int i t
 | .str x,u=>∃ t,u=Value.str x t
 | .byt b,u=>∃ t,u=Value.bytes b t
 | .flt b,u=>∃ t,u=Value.float b t
 | .ref a,u=>u=Value.ref a
 | .ty n,u=>u=Value.type n
abbrev Vals:#[b]->List Value->Prop:=Paired RelV
theorem Vals.length(r:Vals xs us):xs.length=us.length:=Paired.length r
theorem Vals.get:∀ {xs:List V} {us:List Value} {i:Nat} {x:V},Vals xs us->xs[i]?=some x->∃ u,us[i]?=some u/\RelV x u
 | _,_,_,_,.nil,e=>by simp at e
 | _,_,0,_,.cons r _,e=>by simp at e;subst e;exact⟨_,rfl,r⟩
 | _,_,i+1,x,.cons _ t,e=>by
   obtain⟨u,h1,h2⟩:=Vals.get (i:=i) (x:=x) t (by simpa using e);exact⟨u,by simpa using h1,h2⟩
theorem Vals.set(r:RelV x u):∀ {xs:List V} {us:List Value} (i:Nat),Vals xs us->Vals (xs.set i x) (us.set i u)
 | _,_,_,.nil=>.nil
 | _,_,0,.cons _ t=>.cons r t
 | _,_,i+1,.cons q t=>.cons q (Vals.set r i t)
theorem Vals.append:∀ {xs ys:List V} {us ws:List Value},Vals xs us->Vals ys ws->Vals (xs++ys) (us++ws)
 | _,_,_,_,.nil,s=>s
 | _,_,_,_,.cons r t,s=>.cons r (Vals.append t s)
theorem Vals.take:∀ {xs:List V} {us:List Value} (n:Nat),Vals xs us->Vals (xs.take n) (us.take n)
 | _,_,0,_=>.nil
 | _,_,_+1,.nil=>.nil
 | _,_,n+1,.cons r t=>.cons r (Vals.take n t)
theorem Vals.drop:∀ {xs:List V} {us:List Value} (n:Nat),Vals xs us->Vals (xs.drop n) (us.drop n)
 | _,_,0,r=>r
 | _,_,_+1,.nil=>.nil
 | _,_,n+1,.cons _ t=>Vals.drop n t
def RelO:Option V->Option Value->Prop
 | some v,some u=>RelV v u
 | none,none=>True
 | _,_=>False
def KV{κ:Type}:List (κ×V)->List (κ×Value)->Prop:=Paired fun (p:κ×V) (q:κ×Value)=>p.1=q.1/\RelV p.2 q.2
def kV:Key->V
 | .inl i=>.int i
 | .inr x=>.str x
inductive HO where
 | lst (xs:#[b])
 | tup (xs:#[b])
 | dK (kvs:List (Key×V))|dT (kvs:List (List Key×V))
 | set (S:Int->Bool) (n:Nat)
 | ins (C dx:Addr) (fs:List (Str×V))
 | own (x:Addr)
 | xd (fs:List (Str×V))
 | met (f x:Addr)
 | rng (lo hi:Int)
 | frz (o:Obj) (u:HO)
 | tbl (ps:Array Value)
 | ext (φ:Heap->Prop)
abbrev Hp:=Addr->Option HO
def upd(H:Hp)(a:Addr)(o:HO):Hp:=fun b=>if b=a then some o else H b
theorem Zd:upd H a o a=some o:=by unfold upd;rw[if_pos rfl]
theorem Zi(h:b≠a):upd H a o b=H b:=by unfold upd;rw[if_neg h]
theorem Ju:upd (upd H a o) a u=upd H a u:=by
 funext b;unfold upd;split<;>rfl
theorem Yw{H:Hp}{a b:Addr}{o u:HO}(h:H a=some o)(h':H b=some u)(d:o≠u):a≠b:=by
 intro e;subst e;rw[h] at h';exact d (Option.some.inj h')
theorem Zh{H:Hp}{a b:Addr}{o:HO}(h:H a=some o)(h':H b=none):a≠b:=by
 intro e;subst e;rw[h] at h';cases h'
section
variable(P:Program)(w:World)
def Y8(H:Hp)(h:Heap)(a:Addr):HO->Prop
 | .lst xs=>xs.length<=sizeLine/\∃ (its:List Value) (n:Nat),Vals xs its/\h.get? a=some { cls:=.type "list",data:=.seq its.toArray n }
 | .tup xs=>xs.length<=sizeLine/\∃ its:List Value,Vals xs its/\IsTup h a its.toArray
 | .dK kvs=>kvs.length<=sizeLine/\(a == sysModules)=false/\∃ vs,KV kvs vs/\h.DictOf (Yj P w) a vs
 | .dT kvs=>kvs.length<=sizeLine/\(a == sysModules)=false/\∃ xs:List (List Key×Addr×Value),
   Paired (fun (p:List Key×V) (q:List Key×Addr×Value)=>p.1=q.1/\H q.2.1=some (.tup (p.1.map kV))/\RelV p.2 q.2.2) kvs xs /\
   ∃ o es ep,h.get? a=some o/\o.ExactDict/\o.data=.dict es ep/\es.toList=xs.map (entryOfKey (tupleKind (Yj P w)))/\(xs.map (·.1)).Nodup
 | .set S n=>h.SetOf (intKind P w) a S n
 | .ins C dx fs=>H dx=#[a,.own,a]/\fs.length<=1000/\dx≠a/\h.get? a=some (PySem.W.instObj C dx) /\
   ∃ mA,h.Ns1 dx mA/\(∀ f,RelO (fs.lookup f) (mA f))/\PySem.Within mA (fs.map (·.1))
 | .own _=>∃ o,h.get? a=some o
 | .xd fs=>∃ mA,h.Ns1 a mA/\∀ f,RelO (fs.lookup f) (mA f)
 | .rng lo hi=>∃ t u v,h.get? a=some { cls:=.type "range",data:=.fields #[.int lo t,.int hi u,.int 1 v] }
 | .frz o u=>h.get? a=some o/\Y8 H h a u
 | .tbl ps=>h.get? a=some { cls:=.none,data:=.fields ps }
 | .met f x=>h.get? a=some (PySem.W.methodObj (.ref f) (.ref x))
 | .ext φ=>φ h/\(∃ o,h.get? a=some o)/\∀ h1 h2:Heap,φ h1->(∀ o,h1.get? a=some o->h2.get? a=some o)->φ h2
def HOk(H:Hp)(h:Heap):Prop:=∀ a o,H a=some o->Y8 P w H h a o
end
section
variable{P:Program}{w:World}{H H':Hp}{h h':Heap}{a:Addr}{o:HO}
theorem Y8.lt(x:Y8 P w H h a o):a<h.objs.size:=by
 cases o with
 | lst xs=>obtain⟨_,_,_,_,e⟩:=x;exact Heap.lt_size e
 | tup xs=>obtain⟨_,_,_,p⟩:=x;exact p.lt
 | dK kvs=>obtain⟨_,_,_,_,o,_,_,e,_⟩:=x;exact Heap.lt_size e
 | dT kvs=>obtain⟨_,_,_,_,o,_,_,e,_⟩:=x;exact Heap.lt_size e
 | set S n=>obtain⟨o,_,_,_,e,_⟩:=x;exact Heap.lt_size e
 | ins C dx fs=>obtain⟨_,_,_,e,_⟩:=x;exact Heap.lt_size e
 | own y=>obtain⟨_,e⟩:=x;exact Heap.lt_size e
 | xd fs=>obtain⟨_,⟨_,_,_,e,_⟩,_⟩:=x;exact Heap.lt_size e
 | rng lo hi=>obtain⟨_,_,_,e⟩:=x;exact Heap.lt_size e
 | frz ob u=>obtain⟨e,_⟩:=x;exact Heap.lt_size e
 | tbl ps=>exact Heap.lt_size (show h.get? a=some _ from x)
 | met f y=>exact Heap.lt_size (show h.get? a=some _ from x)
 | ext φ=>obtain⟨_,⟨_,e⟩,_⟩:=x;exact Heap.lt_size e
theorem Paired.mapP:∀ {l₁:List α} {l₂:List β},Paired F l₁ l₂->(∀ a b,F a b->G a b)->Paired G l₁ l₂
 | _,_,.nil,_=>.nil
 | _,_,.cons r t,f=>.cons (f _ _ r) (Paired.mapP t f)
theorem Y8.stay(x:Y8 P w H h a o)(k:∀ b u,(b=a\/H b=#[a,.own,a])->h.get? b=some u->h'.get? b=some u)
  (ho:∀ b,H b=#[a,.own,a]->H' b=#[a,.own,a]) (ht:∀ b xs,H b=#[a,.tup,xs]->H' b=#[a,.tup,xs]):Y8 P w H' h' a o:=by
 induction o with
 | lst xs=>obtain⟨z,its,n,r,e⟩:=x;exact⟨z,its,n,r,k _ _ (.inl rfl) e⟩
 | tup xs=>obtain⟨z,its,r,ob,e,c⟩:=x;exact⟨z,its,r,ob,k _ _ (.inl rfl) e,c⟩
 | dK kvs=>obtain⟨z,y,vs,r,ob,es,ep,e,c⟩:=x;exact⟨z,y,vs,r,ob,es,ep,k _ _ (.inl rfl) e,c⟩
 | dT kvs =>
   obtain⟨z,y,xs,r,ob,es,ep,e,c⟩:=x;exact⟨z,y,xs,Paired.mapP r fun p q z=>⟨z.1,ht _ _ z.2.1,z.2.2⟩,ob,es,ep,k _ _ (.inl rfl) e,c⟩
 | set S n=>obtain⟨ob,es,ep,t,e,c⟩:=x;exact⟨ob,es,ep,t,k _ _ (.inl rfl) e,c⟩
 | ins C dx fs =>
   obtain⟨d,z,ne,e,mA,⟨od,es,ep,e2,c⟩,r⟩:=x;exact⟨ho _ d,z,ne,k _ _ (.inl rfl) e,mA,⟨od,es,ep,k _ _ (.inr d) e2,c⟩,r⟩
 | own y=>obtain⟨ob,e⟩:=x;exact⟨ob,k _ _ (.inl rfl) e⟩
 | xd fs=>obtain⟨mA,⟨od,es,ep,e,c⟩,r⟩:=x;exact⟨mA,⟨od,es,ep,k _ _ (.inl rfl) e,c⟩,r⟩
 | rng lo hi=>obtain⟨t,u,v,e⟩:=x;exact⟨t,u,v,k _ _ (.inl rfl) e⟩
 | frz ob u ih=>obtain⟨e,q⟩:=x;exact⟨k _ _ (.inl rfl) e,ih q⟩
 | tbl ps =>
   have e:h.get? a=some { cls:=.none,data:=.fields ps }:=x;show h'.get? a=some { cls:=.none,data:=.fields ps };exact k a _ (.inl rfl) e
 | met f y =>
   have e:h.get? a=some (PySem.W.methodObj (.ref f) (.ref y)):=x;show h'.get? a=some (PySem.W.methodObj (.ref f) (.ref y));exact k a _ (.inl rfl) e
 | ext φ=>obtain⟨p,⟨o,e⟩,st⟩:=x;exact⟨st _ _ p fun o q=>k _ _ (.inl rfl) q,⟨o,k _ _ (.inl rfl) e⟩,st⟩
theorem HOk.lt(x:HOk P w H h)(e:H a=some o):a<h.objs.size:=(x a o e).lt
theorem HOk.fresh(x:HOk P w H h)(e:h.objs.size<=a):H a=none:=by
 cases q:H a with
 | none=>rfl
 | some u=>exact absurd (zvn (x.lt q) e) (zwu _)
theorem HOk.kept(x:HOk P w H h)(k:∀ b u,h.get? b=some u->h'.get? b=some u):HOk P w H h':=fun a o e =>
 (x a o e).stay (fun b u _ q=>k b u q) (fun _ q=>q) fun _ _ q=>q
theorem HOk.laid(x:HOk P w H h)(k:∀ b u,h.get? b=some u->h'.get? b=some u)(hp:h.objs.size<=a)(new:Y8 P w (upd H a o) h' a o):HOk P w (upd H a o) h':=fun b u e=>by
 have hn:=x.fresh hp;by_cases hb:b=a
 ·subst hb;rw[Zd] at e;cases e;exact new
 ·rw[Zi hb] at e;exact(x b u e).stay (fun c v _ q=>k c v q) (fun c q=>by rw[Zi (Zh q hn)];exact q) fun c xs q=>by rw[Zi (Zh q hn)];exact q
end
def Rd(H:Hp)(a:Addr)(u:HO):Prop:=H a=some u\/∃ o,H a=some (.frz o u)
theorem Rd.ok(r:Rd H a u)(x:HOk P w H h):Y8 P w H h a u:=by
 rcases r with r|⟨o,r⟩
 ·exact x a u r
 ·obtain⟨_,q⟩:=x a _ r;exact q
def Mut:Option HO->Prop
 | some (.lst _)=>True
 | some (.dK _)=>True
 | some (.dT _)=>True
 | some (.set _ _)=>True
 | some (.ins _ _ _)=>True
 | some (.ext _)=>True
 | _=>False
section
variable{P:Program}{w:World}{H:Hp}{h h':Heap}{x e:Addr}{o':HO}
theorem HOk.write(ok:HOk P w H h)(mu:Mut (H x))(he:e=x\/H e=#[a,.own,x])(k:∀ b u,b≠e->h.get? b=some u->h'.get? b=some u)(heo:∃ u,h'.get? e=some u)
  (new:Y8 P w (upd H x o') h' x o'):HOk P w (upd H x o') h':=fun b u q=>by
 have nown:∀ c y,H c=#[a,.own,y]->c≠x:=fun c y r z=>by subst z;rw[r] at mu;exact mu
 have ntup:∀ c xs,H c=#[a,.tup,xs]->c≠x:=fun c xs r z=>by subst z;rw[r] at mu;exact mu
 by_cases hb:b=x
 ·subst hb;rw[Zd] at q;cases q;exact new
 ·rw[Zi hb] at q;by_cases hbe:b=e
  ·have q':H b=#[a,.own,x]:=by
    rcases he with z|z
    ·exact absurd (hbe.trans z) hb
    ·rw[hbe];exact z
   rw[q] at q';cases q';obtain⟨v,hv⟩:=heo;exact⟨v,by rw[hbe];exact hv⟩
  ·refine(ok b u q).stay (fun c v hc r=>k c v ?_ r) (fun c r=>by rw[Zi (nown c b r)];exact r) fun c xs r=>by rw[Zi (ntup c xs r)];exact r
   rcases hc with rfl|hc
   ·exact hbe
   ·rintro rfl;rcases he with z|z
    ·exact nown c b hc z
    ·rw[hc] at z;cases z;exact hb rfl
end
structure Un(fs ex:List Addr)(H H':Hp)(h h':Heap):Prop where
 keep:∀ b o,h.get? b=some o->H b=none->b∉fs->b∉ex->h'.get? b=some o
 slot:∀ b o,h.get? b=some o->H b=none->b∈fs->b∉ex->∃ sl,h'.get? b=some { o with slots:=sl }
 free:∀ b o,h.get? b=some o->H b=none->b∉ex->H' b=none
 there:∀ b o,h.get? b=some o->b∉ex->∃ o',h'.get? b=some o'
 tups:∀ b xs,H b=#[a,.tup,xs]->H' b=#[a,.tup,xs]
 frzs:∀ b o u,H b=some (.frz o u)->H' b=some (.frz o u)
 tbls:∀ b ps,H b=#[a,.tbl,ps]->∃ more,H' b=#[a,.tbl,ps++more]
section
variable{fs fs' ex ex':List Addr}{H H1 H2:Hp}{h h1 h2 h':Heap}{a x e:Addr}{o:HO}
theorem Un.any(u:Un fs ex H H1 h h1)(q:h.get? b=some ob)(n:H b=none)(hx:b∉ex):∃ sl,h1.get? b=some { ob with slots:=sl }:=by
 by_cases hb:b∈fs
 ·exact u.slot b ob q n hb hx
 ·exact⟨ob.slots,u.keep b ob q n hb hx⟩
theorem Un.kept(k:∀ b u,h.get? b=some u->h'.get? b=some u):Un fs ex H H h h' :=
 ⟨fun b ob q _ _ _=>k b ob q,fun b ob q _ _ _=>⟨ob.slots,k b ob q⟩,fun _ _ _ n _=>n,fun b ob q _=>⟨ob,k b ob q⟩,fun _ _ q=>q,fun _ _ _ q=>q,fun _ ps q=>⟨#[],by rw[q];simp⟩⟩
theorem Un.refl:Un fs ex H H h h:=Un.kept fun _ _ q=>q
theorem Un.laid(k:∀ b u,h.get? b=some u->h'.get? b=some u)(hp:h.objs.size<=a)(hn:H a=none):Un fs ex H (upd H a o) h h' where
 keep:=fun b u q _ _ _=>k b u q
 slot:=fun b u q _ _ _=>⟨u.slots,k b u q⟩
 free:=fun b u q n _=>by rw[Zi (zvv (zvn (Heap.lt_size q) hp))];exact n
 there:=fun b u q _=>⟨u,k b u q⟩
 tups:=fun b xs q=>by rw[Zi (Zh q hn)];exact q
 frzs:=fun b u xs q=>by rw[Zi (Zh q hn)];exact q
 tbls:=fun b ps q=>⟨#[],by rw[Zi (Zh q hn),q];simp⟩
theorem Un.write(mu:Mut (H x))(he:e=x\/H e=#[a,.own,x])(k:∀ b u,b≠e->h.get? b=some u->h'.get? b=some u)(heo:∃ u,h'.get? e=some u):Un fs ex H (upd H x o) h h':=by
 have hx:∀ b,H b=none->b≠x:=fun b n z=>by subst z;rw[n] at mu;exact mu
 have hb:∀ b,H b=none->b≠e:=fun b n z=>by
  subst z;rcases he with r|r
  ·exact hx b n r
  ·rw[n] at r;cases r
 have hm:∀ b u,H b=some u->¬ Mut (some u)->b≠x:=fun b u q nm z=>by subst z;rw[q] at mu;exact nm mu
 refine⟨fun b u q n _ _=>k b u (hb b n) q,fun b u q n _ _=>⟨u.slots,k b u (hb b n) q⟩,fun b u q n _=>by rw[Zi (hx b n)];exact n,fun b u q _=>?_,
  fun b xs q=>by rw[Zi (hm b _ q fun z=>z)];exact q,fun b u xs q=>by rw[Zi (hm b _ q fun z=>z)];exact q,fun b ps q=>⟨#[],by rw[Zi (hm b _ q fun z=>z),q];simp⟩⟩
 by_cases hbe:b=e
 ·subst hbe;exact heo
 ·exact⟨u,k b u hbe q⟩
end
def trk(h:Heap)(H:Hp):List Addr:=(List.range h.objs.size).filter fun a=>(H a).isSome
def Dj(h:Heap)(H:Hp):Heap:=PySem.W.hideAll h (trk h H)
theorem zcx(h:Heap)(H:Hp):(Dj h H).objs.size=h.objs.size:=PySem.W.hideAll_size _ _
theorem zel(e:h.get? b=some o)(n:H b=none):(Dj h H).get? b=some o :=
 PySem.W.hideAll_get _ e fun hm=>by
  have q:(H b).isSome=true:=(zv3.mp hm).2;rw[n] at q;simp at q
theorem zgy(e:(Dj h H).get? b=some o):h.get? b=some o/\H b=none:=by
 have e':h.get? b=some o:=PySem.W.of_hideAll (trk h H) e;refine⟨e',?_⟩;cases q:H b with
 | none=>rfl
 | some x =>
   have hm:b∈trk h H:=zv3.mpr ⟨zv9.mpr (Heap.lt_size e'),by simp[q]⟩;have z:(Dj h H).get? b=none:=PySem.W.hideAll_none (trk h H) hm;rw[z] at e;cases e
structure Mod(K:Frag)(mg:Str->Option Value)(base:Heap):Prop where
 kin:K.In base
 glob:base.Ns mainGlobals mg
 blt:∃ mb,base.Ns builtinsNs mb/\∀ x:Str,x≠"__name__"->mb x=bootBuiltins x
 nolimit:base.NoLimit
structure Cx where
 prog:Program
 w:World
 K:Frag
 mg:Str->Option Value
 base:Heap
 A:Around
 N:List Str
 s₀:Shared
 H₀:Hp
 env:Env
 outer:List Env
 stack:List Env
 ex:List Addr
 fn:Str->Bool
 calm:Bool
 pn:#[h]
 xe:Value->Shared->Prop
 lk:List (Option V):=[]
def frs(l:List Env):List Addr:=l.filterMap (·.frame)
abbrev Cx.fs(X:Cx):List Addr:=frs X.outer
def Vis(sc:Scope)(x:Str):Prop:=sc.names.lookup x=some .local\/sc.names.lookup x=some .cell\/sc.names.lookup x=some .free
def Loc(sc:Scope)(x:Str):Prop:=sc.names.lookup x=some .local\/sc.names.lookup x=some .cell
def Look(env:Env)(h:Heap)(m:Str->Option Value)(x:Str)(u:Value):Prop :=
 (env.kindOf x=some .local/\m x=some u)\/((env.kindOf x=some .cell\/env.kindOf x=some .free)/\∃ c,env.cells.lookup x=some c/\h.IsCell c (some u))
structure Cx.Ok(X:Cx):Prop where
 mod:Mod X.K X.mg X.base
 kind:X.env.scope.kind=.function
 glob:X.env.globals=mainGlobals
 blt:X.env.builtins=builtinsNs
 above:X.s₀.heap.objs.size<=X.env.locals
 inj:∀ x y c,X.env.cells.lookup x=some c->X.env.cells.lookup y=some c->x=y
 has:∀ x,(X.env.kindOf x=some .cell\/X.env.kindOf x=some .free)->∃ c,X.env.cells.lookup x=some c
 cab:∀ x c,X.fn x=true->X.env.cells.lookup x=some c->X.s₀.heap.objs.size<=c
 hd:X.calm=true->X.A.handled=none
 frames:X.A.frames=some X.stack
 stk:X.stack=X.outer\/(X.stack=X.env :: X.outer/\X.env.frame=some X.env.locals)
 exf:∀ b∈X.ex,b≠X.env.locals/\∀ x c,X.env.cells.lookup x=some c->c≠b
 bs:∀ b o,X.base.get? b=some o->X.s₀.heap.get? b=some o/\X.H₀ b=none
 bsz:X.base.objs.size<=X.s₀.heap.objs.size
 noex:∀ b o,X.base.get? b=some o->b∉X.ex
 exfs:∀ b∈X.ex,b∉X.fs
 funs:X.s₀.heap.FunFrames X.base X.outer
 frf:∀ b∈X.fs,X.H₀ b=none
structure Inv(X:Cx)(pins:#[h])(σ:List (Option V))(H:Hp)(s:Shared):Prop where
 ok:X.Ok
 os:s.os=X.s₀.os
 bare:AllBare s.gens
 base:Un X.fs X.ex X.H₀ H X.s₀.heap s.heap
 loc:∃ m,s.heap.Ns X.env.locals m/\∀ (i:Nat) (x:Str) (v:V),X.N[i]?=some x->(σ[i]?=#[a,some,v]\/X.lk[i]?=#[a,some,v])->Vis X.env.scope x->∃ u,RelV v u/\Look X.env s.heap m x u
 cell:∀ x c,X.env.cells.lookup x=some c->∃ v,s.heap.IsCell c v
 free:H X.env.locals=none
 freeC:∀ x c,X.env.cells.lookup x=some c->H c=none
 pin:∀ p∈X.pn++pins,s.heap.get? p.1=some p.2/\H p.1=none/\p.1≠X.env.locals/\p.1∉X.fs/\∀ v,p.2.data≠.cell v
 hok:HOk X.prog X.w H s.heap
 len:σ.length=X.N.length
section
variable{X:Cx}{pins:#[h]}{σ:List (Option V)}{H H':Hp}{s:Shared}{h':Heap}
theorem Cx.Ok.nofr(ok:X.Ok)(e:X.base.get? b=some o):b∉X.fs:=fun hb=>by
 have:=(ok.funs.mem hb).1;rw[e] at this;cases this
theorem Inv.bs(I:#[d]):∀ b o,X.base.get? b=some o->s.heap.get? b=some o/\H b=none:=fun b o e =>
 ⟨I.base.keep b o (I.ok.bs b o e).1 (I.ok.bs b o e).2 (I.ok.nofr e) (I.ok.noex b o e),I.base.free b o (I.ok.bs b o e).1 (I.ok.bs b o e).2 (I.ok.noex b o e)⟩
theorem Inv.bk(I:#[d]):∀ b o,X.base.get? b=some o->s.heap.get? b=some o:=fun b o e=>(I.bs b o e).1
theorem Inv.mod(I:#[d]):Mod X.K X.mg X.base:=I.ok.mod
theorem Inv.kIn(I:#[d]):X.K.In s.heap:=I.ok.mod.kin.keeps I.bk
theorem Inv.lt(I:#[d]):X.env.locals<s.heap.objs.size:=let ⟨_,hn,_⟩:=I.loc;hn.lt
theorem Inv.sz(I:#[d]):X.s₀.heap.objs.size<=s.heap.objs.size:=zvh I.ok.above (zxe I.lt)
theorem Inv.nofs(I:#[d])(h:s.heap.objs.size<=a):a∉X.fs:=fun hb=>by
 obtain⟨_,o,ho,_⟩:=I.ok.funs.mem hb;exact absurd (zvn (Heap.lt_size ho) (zvh I.sz h)) (zwu _)
theorem Inv.cne(I:#[d]):∀ x c,X.env.cells.lookup x=some c->c≠X.env.locals:=fun x c e z=>by
 obtain⟨v,o,ho,hd⟩:=I.cell x c e;obtain⟨m,⟨o',es,ep,ho',hd',_⟩,_⟩:=I.loc;rw[z,ho'] at ho;cases ho;rw[hd'] at hd;cases hd
theorem Inv.funs(I:#[d]):s.heap.FunFrames X.base X.outer:=by
 have all:∀ (l:List Env),(∀ b∈frs l,b∈X.fs)->X.s₀.heap.FunFrames X.base l->s.heap.FunFrames X.base l:=by
  intro l
  induction l with
  | nil=>intro _ _;trivial
  | cons env r ih =>
    intro hs hl;obtain⟨hk,⟨L,o,hf,hn,ho,hd⟩,hr⟩:=hl;have hL:L∈X.fs:=hs L (by unfold frs;rw[zwz,hf];exact zvy);obtain⟨sl,e⟩:=I.base.slot L o ho (I.ok.frf L hL) hL fun z=>I.ok.exfs L z hL;exact⟨hk,⟨L,_,hf,hn,e,hd⟩,ih (fun b hb=>hs b (by unfold frs;rw[zwz,hf];exact zvm _ hb)) hr⟩
 exact all X.outer (fun _ hb=>hb) I.ok.funs
theorem Inv.stack(I:#[d]):s.heap.FunFrames X.base X.stack:=by
 rcases I.ok.stk with e|⟨e,hf⟩
 ·rw[e];exact I.funs
 ·rw[e];obtain⟨m,hn,_⟩:=I.loc;refine .cons (by rw[I.ok.kind];decide) hf hn ?_ I.funs;exact Heap.get?_none_of_le (zvh I.ok.bsz I.ok.above)
theorem Inv.stkSub(I:#[d]):∀ b∈frs X.stack,b∈X.env.locals :: X.fs:=fun b hb=>by
 rcases I.ok.stk with e|⟨e,hf⟩
 ·rw[e] at hb;exact zvm _ hb
 ·rw[e] at hb;unfold frs at hb;rw[zwz,hf] at hb;exact hb
theorem Inv.stkFree(I:#[d]):∀ b∈frs X.stack,H b=none:=fun b hb=>by
 rcases zu7.mp (I.stkSub b hb) with e|hb
 ·rw[e];exact I.free
 ·obtain⟨_,o,ho,_⟩:=I.ok.funs.mem hb;exact I.base.free b o ho (I.ok.frf b hb) fun z=>I.ok.exfs b z hb
theorem Inv.step{g':Array GenState}{t':Nat}{d':Drawn}{ch:List Addr}(I:#[d])
  (hch:∀ b∈ch,(b∈X.ex\/X.s₀.heap.objs.size<=b)/\b≠X.env.locals/\(∀ x c,X.env.cells.lookup x=some c->c≠b)/\∀ p∈X.pn++pins,p.1≠b)
  (keep:∀ b o,b≠X.env.locals->b∉X.fs->b∉ch->s.heap.get? b=some o->H b=none->h'.get? b=some o)
  (slot:∀ b o,b≠X.env.locals->b∈X.fs->b∉ch->s.heap.get? b=some o->H b=none->∃ sl,h'.get? b=some { o with slots:=sl }) (free:∀ b o,b∉ch->s.heap.get? b=some o->H b=none->H' b=none)
  (there:∀ b o,b∉ch->s.heap.get? b=some o->∃ o',h'.get? b=some o')
  (tups:∀ b xs,H b=#[a,.tup,xs]->H' b=#[a,.tup,xs]) (frzs:∀ b o u,H b=some (.frz o u)->H' b=some (.frz o u)) (tbls:∀ b ps,H b=#[a,.tbl,ps]->∃ more,H' b=#[a,.tbl,ps++more])
  (ns:∀ m,s.heap.Ns X.env.locals m->h'.Ns X.env.locals m) (hok:HOk X.prog X.w H' h') (hg:AllBare g') :
  Inv X pins σ H' { s with heap:=h',gens:=g',drawn:=d',toks:=t' }:=by
 have neL:∀ b o,X.s₀.heap.get? b=some o->b≠X.env.locals:=fun b o e=>zvv (zvn (Heap.lt_size e) I.ok.above);have neC:∀ b o,X.s₀.heap.get? b=some o->b∉X.ex->b∉ch:=fun b o e hx hb=>by
  rcases(hch b hb).1 with z|z
  ·exact hx z
  ·exact absurd (zvn (Heap.lt_size e) z) (zwu _)
 have cellK:∀ x c,X.env.cells.lookup x=some c->∀ v,s.heap.IsCell c v->h'.IsCell c v:=fun x c e v ⟨o,ho,hd⟩=>by
  have nch:c∉ch:=fun z=>(hch c z).2.2.1 x c e rfl;by_cases hc:c∈X.fs
  ·obtain⟨sl,q⟩:=slot c o (I.cne x c e) hc nch ho (I.freeC x c e);exact⟨_,q,hd⟩
  ·exact⟨o,keep c o (I.cne x c e) hc nch ho (I.freeC x c e),hd⟩
 refine⟨I.ok,I.os,hg,⟨fun b o e n hb hx=>?_,fun b o e n hb hx=>?_,fun b o e n hx=>?_,fun b o e hx=>?_,fun b xs e=>tups b xs (I.base.tups b xs e),fun b o xs e=>frzs b o xs (I.base.frzs b o xs e),fun b ps e=>?_⟩,?_,fun x c e=>?_,?_,fun x c e=>?_,fun p hp=>?_,hok,I.len⟩
 ·exact keep b o (neL b o e) hb (neC b o e hx) (I.base.keep b o e n hb hx) (I.base.free b o e n hx)
 ·obtain⟨sl,e1⟩:=I.base.slot b o e n hb hx;obtain⟨sl',e2⟩:=slot b _ (neL b o e) hb (neC b o e hx) e1 (I.base.free b o e n hx);exact⟨sl',e2⟩
 ·obtain⟨o',e1⟩:=I.base.there b o e hx;exact free b o' (neC b o e hx) e1 (I.base.free b o e n hx)
 ·obtain⟨o',e1⟩:=I.base.there b o e hx;exact there b o' (neC b o e hx) e1
 ·obtain⟨m1,e1⟩:=I.base.tbls b ps e;obtain⟨m2,e2⟩:=tbls b _ e1;exact⟨m1++m2,by rw[e2,Array.append_assoc]⟩
 ·obtain⟨m,hn,hl⟩:=I.loc;refine⟨m,ns m hn,fun i x v e1 e2 e3=>?_⟩;obtain⟨u,r,l⟩:=hl i x v e1 e2 e3;refine⟨u,r,?_⟩;rcases l with l|⟨k,c,e,z⟩
  ·exact .inl l
  ·exact .inr ⟨k,c,e,cellK x c e _ z⟩
 ·obtain⟨v,z⟩:=I.cell x c e;exact⟨v,cellK x c e v z⟩
 ·obtain⟨m,⟨o,_,_,ho,_⟩,_⟩:=I.loc;exact free _ o (fun z=>(hch _ z).2.1 rfl) ho I.free
 ·obtain⟨v,o,ho,hd⟩:=I.cell x c e;exact free c o (fun z=>(hch c z).2.2.1 x c e rfl) ho (I.freeC x c e)
 ·obtain⟨e,n,ne,nf,d⟩:=I.pin p hp;have nch:p.1∉ch:=fun z=>(hch p.1 z).2.2.2 p hp rfl;exact⟨keep p.1 p.2 ne nf nch e n,free p.1 p.2 nch e n,ne,nf,d⟩
theorem Inv.un{t':Nat}(I:#[d])(u:Un X.fs [] H H' s.heap h')(hok:HOk X.prog X.w H' h'):Inv X pins σ H' { s with heap:=h',toks:=t' }:=by
 obtain⟨m,⟨o,es,ep,ho,r⟩,_⟩:=id I.loc;obtain⟨sl,hL⟩:=u.any ho I.free (by simp);exact I.step (g':=s.gens) (d':=s.drawn) (ch:=[]) (fun _ z=>nomatch z) (fun b o _ hb _ e n=>u.keep b o e n hb (by simp)) (fun b o _ hb _ e n=>u.slot b o e n hb (by simp)) (fun b o _ e n=>u.free b o e n (by simp)) (fun b o _ e=>u.there b o e (by simp)) u.tups u.frzs u.tbls (fun m' hm=>by
  obtain⟨o',es',ep',ho',r'⟩:=hm;rw[ho] at ho';cases ho';exact⟨_,es',ep',hL,r'⟩) hok I.bare
theorem Inv.call{g':Array GenState}{t':Nat}{d':Drawn}{ch:List Addr}(I:#[d])(u:Un (frs X.stack) ch H H' s.heap h')(hok:HOk X.prog X.w H' h')(hg:AllBare g')
  (hch:∀ b∈ch,(b∈X.ex\/X.s₀.heap.objs.size<=b)/\b≠X.env.locals/\(∀ x c,X.env.cells.lookup x=some c->c≠b)/\∀ p∈X.pn++pins,p.1≠b) :
  Inv X pins σ H' { s with heap:=h',gens:=g',drawn:=d',toks:=t' }:=by
 obtain⟨m,⟨o,es,ep,ho,r⟩,_⟩:=id I.loc;obtain⟨sl,hL⟩:=u.any ho I.free fun z=>(hch _ z).2.1 rfl;exact I.step (ch:=ch) hch (fun b o hL hb hc e n=>u.keep b o e n (fun z=>(zu7.mp (I.stkSub b z)).elim hL hb) hc) (fun b o _ _ hc e n=>u.any e n hc) (fun b o hc e n=>u.free b o e n hc) (fun b o hc e=>u.there b o e hc) u.tups u.frzs u.tbls (fun m' hm=>by
  obtain⟨o',es',ep',ho',r'⟩:=hm;rw[ho] at ho';cases ho';exact⟨_,es',ep',hL,r'⟩) hok hg
theorem Inv.turned{t':Nat}{it:Addr}(I:#[d])(k:∀ b o,b≠it->s.heap.get? b=some o->h'.get? b=some o)(hn:H it=none)(hL:it≠X.env.locals)
  (h1:it∈X.ex\/X.s₀.heap.objs.size<=it) (h2:∀ x c,X.env.cells.lookup x=some c->c≠it) (h3:∀ p∈X.pn++pins,p.1≠it):Inv X pins σ H { s with heap:=h',toks:=t' }:=by
 have nit:∀ b u,H b=some u->b≠it:=fun b u e z=>by rw[z,hn] at e;cases e
 refine I.step (g':=s.gens) (d':=s.drawn) (ch:=[it]) (fun b hb=>?_) (fun b o _ _ hc e _=>k b o (fun z=>hc (by simp[z])) e) (fun b o _ _ hc e _=>⟨o.slots,k b o (fun z=>hc (by simp[z])) e⟩) (fun _ _ _ _ n=>n)
  (fun b o hc e=>⟨o,k b o (fun z=>hc (by simp[z])) e⟩) (fun _ _ e=>e) (fun _ _ _ e=>e) (fun b ps e=>⟨#[],by rw[e];simp⟩) (fun m hm=>?_) (fun b u e=>?_) I.bare
 ·have e:b=it:=by simpa using hb
  subst e;exact⟨h1,hL,h2,h3⟩
 ·obtain⟨o,es,ep,ho,r⟩:=hm;exact⟨o,es,ep,k _ o (Ne.symm hL) ho,r⟩
 ·refine(I.hok b u e).stay (fun c v hc q=>k c v ?_ q) (fun _ q=>q) fun _ _ q=>q;rcases hc with z|z
  ·rw[z];exact nit b u e
  ·exact nit c _ z
theorem Inv.tok(I:#[d])(t:Nat):Inv X pins σ H { s with toks:=t }:=I.un (h':=s.heap) (t':=t) Un.refl I.hok
theorem Inv.kept(I:#[d])(k:∀ b u,s.heap.get? b=some u->h'.get? b=some u):Inv X pins σ H { s with heap:=h',toks:=t' }:=I.un (Un.kept k) (I.hok.kept k)
theorem Inv.laid(I:#[d])(k:∀ b u,s.heap.get? b=some u->h'.get? b=some u)(hp:s.heap.objs.size<=a)(new:Y8 X.prog X.w (upd H a o) h' a o) :
  Inv X pins σ (upd H a o) { s with heap:=h',toks:=t' }:=I.un (Un.laid k hp (I.hok.fresh hp)) (I.hok.laid k hp new)
theorem Inv.write(I:#[d])(mu:Mut (H x))(he:e=x\/H e=#[a,.own,x])(k:∀ b u,b≠e->s.heap.get? b=some u->h'.get? b=some u)(heo:∃ u,h'.get? e=some u)
  (new:Y8 X.prog X.w (upd H x o) h' x o):Inv X pins σ (upd H x o) { s with heap:=h',toks:=t' }:=I.un (Un.write mu he k heo) (I.hok.write mu he k heo new)
theorem Inv.weak(I:#[d])(hl:σ'.length=σ.length)(w:∀ (i:Nat) v,σ'[i]?=#[a,some,v]->σ[i]?=#[a,some,v]):Inv X pins σ' H s :=
 ⟨I.ok,I.os,I.bare,I.base,let ⟨m,hn,hl'⟩:=I.loc;⟨m,hn,fun i x v e1 e2 e3=>hl' i x v e1 (e2.imp_left (w i v)) e3⟩,I.cell,I.free,I.freeC,I.pin,I.hok,hl.trans I.len⟩
theorem Inv.pins_of(I:#[d])(h:∀ p∈pins',s.heap.get? p.1=some p.2/\H p.1=none/\p.1≠X.env.locals/\p.1∉X.fs/\∀ v,p.2.data≠.cell v):Inv X pins' σ H s :=
 ⟨I.ok,I.os,I.bare,I.base,I.loc,I.cell,I.free,I.freeC,fun p hp=>(zve.mp hp).elim (fun z=>I.pin p (zvq _ z)) (h p),I.hok,I.len⟩
theorem Cv{N:List Str}(hN:N.Nodup){i j:Nat}{x:Str}(a:N[i]?=some x)(b:N[j]?=some x):i=j:=by
 obtain⟨h1,e1⟩:=zu4.mp a;obtain⟨h2,e2⟩:=zu4.mp b;exact(List.getElem_inj hN).mp (e1.trans e2.symm)
def zac(X:Cx)(i:Nat)(x:Str):Prop:=(X.fn x=true\/X.env.scope.names.lookup x=some .local)/\∀ v,X.lk[i]?≠#[a,some,v]
theorem Ws{i:Nat}:∀ v:V,([]:List (Option V))[i]?≠some (some v):=fun _ h=>by simp at h
theorem Eb{M:Model}{A:Around}{E:Value->Shared->Prop}{i:Nat}{x:Str}{v:V}{u:Value}{Q:Unit->Shared->Prop}(I:#[d])(hN:X.N.Nodup)(hi:X.N[i]?=some x)(hx:Loc X.env.scope x)(r:RelV v u)
  (h:∀ s',Inv X pins (σ.set i (some v)) H s'->(∃ a,Heap.SameBut a s.heap s'.heap/\(a=X.env.locals\/X.env.cells.lookup x=some a))->Q () s') (hf:zac X i x:=by first|exact⟨.inl rfl,Ws⟩|exact⟨.inr rfl,Ws⟩|assumption|exact⟨.inl rfl,by assumption⟩|exact⟨.inr rfl,by assumption⟩):wpAny M A (storeName X.env x u) Q E s:=by
 obtain⟨m,hn,hl⟩:=id I.loc;have hcls:(X.env.scope.kind == .class||(X.env.scope.kind == .module&&X.env.locals != X.env.globals))=false:=by rw[I.ok.kind];rfl
 have hiσ:i<σ.length:=by rw[I.len];exact(zu4.mp hi).1
 have cne:=I.cne;have tracked:∀ {a:Addr} {h':Heap},(∃ o,s.heap.get? a=some o/\H a=none)->Heap.SameBut a s.heap h'->HOk X.prog X.w H h':=fun {a h'} ha hs b ob e=>by
  obtain⟨_,_,hfree⟩:=ha;refine(I.hok b ob e).stay (fun c w' hc q=>(hs.2 c ?_).trans q) (fun _ q=>q) fun _ _ q=>q;rintro rfl;rcases hc with rfl|hc
  ·rw[hfree] at e;cases e
  ·rw[hfree] at hc;cases hc
 rcases hx with hk|hk
 ·refine wpAny_storeName_local hk hn (fun h' hn' hs=>?_) hcls;obtain⟨oL,_,_,hoL,_⟩:=id hn;refine h _ ⟨I.ok,I.os,I.bare,⟨fun b o e n hb hx=>?_,fun b o e n hb hx=>?_,I.base.free,fun b o e hx=>?_,I.base.tups,I.base.frzs,I.base.tbls⟩,⟨_,hn',fun j y v' e1 e2 e3=>?_⟩,fun y c e=>?_,I.free,I.freeC,fun p hp=>?_,tracked ⟨oL,hoL,I.free⟩ hs,by simpa using I.len⟩ ⟨_,hs,.inl rfl⟩
  ·exact(hs.2 b (zvv (zvn (Heap.lt_size e) I.ok.above))).trans (I.base.keep b o e n hb hx)
  ·obtain⟨sl,e1⟩:=I.base.slot b o e n hb hx;exact⟨sl,(hs.2 b (zvv (zvn (Heap.lt_size e) I.ok.above))).trans e1⟩
  ·obtain⟨o',e1⟩:=I.base.there b o e hx;exact⟨o',(hs.2 b (zvv (zvn (Heap.lt_size e) I.ok.above))).trans e1⟩
  ·by_cases hj:j=i
   ·subst hj;rw[hi] at e1;cases e1;rcases e2 with e2|e2
    case' inr=>exact absurd e2 (hf.2 _)
    rw[zwc hiσ] at e2;cases e2;exact⟨u,r,.inl ⟨hk,by simp⟩⟩
   ·have e2:σ[j]?=#[a,some,v']\/X.lk[j]?=#[a,some,v']:=e2.imp_left fun z=>by rw[zv2 (Ne.symm hj)] at z;exact z
    obtain⟨u',r',q⟩:=hl j y v' e1 e2 e3;refine⟨u',r',?_⟩;rcases q with ⟨k,e⟩|⟨k,c,e,z⟩
    ·refine .inl ⟨k,?_⟩;have:y≠x:=fun e=>hj (Cv hN e1 (e▸hi));simp[this,e]
    ·exact .inr ⟨k,c,e,z.sameBut hs (cne y c e)⟩
  ·obtain⟨w',z⟩:=I.cell y c e;exact⟨w',z.sameBut hs (cne y c e)⟩
  ·obtain⟨e,n,ne,nf,d⟩:=I.pin p hp;exact⟨(hs.2 p.1 ne).trans e,n,ne,nf,d⟩
 ·have hfn:X.fn x=true:=by
   rcases hf.1 with z|z
   ·exact z
   ·rw[z] at hk;cases hk
  obtain⟨c,hc⟩:=I.ok.has x (.inl hk);obtain⟨w',z⟩:=I.cell x c hc;refine wpAny_storeName_cell I.ok.kind hk hc z fun h' hc' hs=>?_;obtain⟨oc,hoc,hocd⟩:=id z;refine h { s with heap:=h' } ⟨I.ok,I.os,I.bare,⟨fun b o e n hb hx=>?_,fun b o e n hb hx=>?_,I.base.free,fun b o e hx=>?_,I.base.tups,I.base.frzs,I.base.tbls⟩,⟨m,hn.sameBut hs (Ne.symm (cne x c hc)),fun j y v' e1 e2 e3=>?_⟩,fun y c' e=>?_,I.free,I.freeC,fun p hp=>?_,tracked ⟨oc,hoc,I.freeC x c hc⟩ hs,by simpa using I.len⟩ ⟨c,hs,.inr hc⟩
  ·exact(hs.2 b (zvv (zvn (Heap.lt_size e) (I.ok.cab x c hfn hc)))).trans (I.base.keep b o e n hb hx)
  ·obtain⟨sl,e1⟩:=I.base.slot b o e n hb hx;exact⟨sl,(hs.2 b (zvv (zvn (Heap.lt_size e) (I.ok.cab x c hfn hc)))).trans e1⟩
  ·obtain⟨o',e1⟩:=I.base.there b o e hx;exact⟨o',(hs.2 b (zvv (zvn (Heap.lt_size e) (I.ok.cab x c hfn hc)))).trans e1⟩
  ·by_cases hj:j=i
   ·subst hj;rw[hi] at e1;cases e1;rcases e2 with e2|e2
    case' inr=>exact absurd e2 (hf.2 _)
    rw[zwc hiσ] at e2;cases e2;exact⟨u,r,.inr ⟨.inl hk,c,hc,hc'⟩⟩
   ·have e2:σ[j]?=#[a,some,v']\/X.lk[j]?=#[a,some,v']:=e2.imp_left fun z=>by rw[zv2 (Ne.symm hj)] at z;exact z
    obtain⟨u',r',q⟩:=hl j y v' e1 e2 e3;refine⟨u',r',?_⟩;rcases q with q|⟨k,c',e,z'⟩
    ·exact .inl q
    ·refine .inr ⟨k,c',e,z'.sameBut hs ?_⟩;rintro rfl;exact hj (Cv hN e1 (I.ok.inj _ _ _ e hc▸hi))
  ·by_cases hcc:c'=c
   ·subst hcc;exact⟨_,hc'⟩
   ·obtain⟨w2,z2⟩:=I.cell y c' e;exact⟨w2,z2.sameBut hs hcc⟩
  ·obtain⟨e,n,ne,nf,d⟩:=I.pin p hp;refine⟨(hs.2 p.1 ?_).trans e,n,ne,nf,d⟩;intro q;rw[q,hoc] at e;have q':oc=p.2:=Option.some.inj e;exact d w' (by rw[<- q'];exact hocd)
theorem Cw(I:#[d])(hN:X.N.Nodup)(hi:X.N[i]?=some x)(hx:Loc X.env.scope x)(r:RelV v u)
  (h:∀ s',Inv X pins (σ.set i (some v)) H s'->Q () s') (hf:zac X i x:=by first|exact⟨.inl rfl,Ws⟩|exact⟨.inr rfl,Ws⟩|assumption|exact⟨.inl rfl,by assumption⟩|exact⟨.inr rfl,by assumption⟩):wpAny M A (storeName X.env x u) Q E s :=
 Eb I hN hi hx r (fun s' I' _=>h s' I') hf
theorem Inv.call'(I:#[d])(ho:s'.os=s.os)(u:Un (frs X.stack) ch H H' s.heap s'.heap)(hok:HOk X.prog X.w H' s'.heap)(hg:AllBare s'.gens)
  (hch:∀ b∈ch,(b∈X.ex\/X.s₀.heap.objs.size<=b)/\b≠X.env.locals/\(∀ x c,X.env.cells.lookup x=some c->c≠b)/\∀ p∈X.pn++pins,p.1≠b):Inv X pins σ H' s':=by
 obtain⟨h',g',d',t',o'⟩:=s';have e:o'=s.os:=ho;subst e;exact I.call (g':=g') (t':=t') (d':=d') u hok hg hch
end
abbrev XK:=Value->Option Addr->Hp->Prop
abbrev St:=List (Option V)
abbrev VK:=V->Hp->Prop
abbrev TE:=St->Hp->VK->Prop
abbrev TT:=St->Hp->(Bool->Hp->Prop)->Prop
abbrev TA:=St->Hp->(#[b]->Hp->Prop)->Prop
structure P5 where
 nx:St->Hp->Prop
 rt:VK
 bk:St->Hp->Prop:=fun _ _=>False
 ct:St->Hp->Prop:=fun _ _=>False
abbrev TS:=P5->St->Hp->Prop
def EP(X:Cx)(pins:#[h])(σ:St)(Q:VK)(u:Value)(s':Shared):Prop:=∃ v H',Inv X pins σ H' s'/\RelV v u/\Q v H'
def TP(X:Cx)(pins:#[h])(σ:St)(Q:Bool->Hp->Prop)(b:Bool)(s':Shared):Prop:=∃ H',Inv X pins σ H' s'/\Q b H'
def AP(X:Cx)(pins:#[h])(σ:St)(Q:#[b]->Hp->Prop)(us:List Value)(s':Shared):Prop:=∃ vs H',Inv X pins σ H' s'/\Vals vs us/\Q vs H'
def SP(X:Cx)(pins:#[h])(D:P5)(f:Flow)(s':Shared):Prop :=
 match f with
 | .next=>∃ σ' H',Inv X pins σ' H' s'/\D.nx σ' H'
 | .brk=>∃ σ' H',Inv X pins σ' H' s'/\D.bk σ' H'
 | .cont=>∃ σ' H',Inv X pins σ' H' s'/\D.ct σ' H'
 | .ret u=>∃ v σ' H',Inv X pins σ' H' s'/\RelV v u/\D.rt v H'
def PE(X:Cx)(e:Expr)(t:TE):Prop :=
 ∀ (pins:#[h]) (s:Shared) (σ:St) (H:Hp) (Q:VK),#[d]->t σ H Q->wpAny (model X.prog X.w) X.A (eval e X.env) (EP X pins σ Q) X.xe s
def PT(X:Cx)(e:Expr)(t:TT):Prop :=
 ∀ (pins:#[h]) (s:Shared) (σ:St) (H:Hp) (Q:Bool->Hp->Prop),#[d]->t σ H Q->wpAny (model X.prog X.w) X.A (isTrue e X.env (eval e X.env)) (TP X pins σ Q) X.xe s
def PW(X:Cx)(e:Expr)(t:TT):Prop :=
 ∀ (whole:Sem Value) (pins:#[h]) (s:Shared) (σ:St) (H:Hp) (Q:Bool->Hp->Prop),#[d]->t σ H Q->wpAny (model X.prog X.w) X.A (isTrue e X.env whole) (TP X pins σ Q) X.xe s
theorem PW.pt(h:PW X e t):PT X e t:=h _
def PA(X:Cx)(es:List Expr)(t:TA):Prop :=
 ∀ (pos:Pos) (pins:#[h]) (s:Shared) (σ:St) (H:Hp) (Q:#[b]->Hp->Prop),#[d]->t σ H Q->wpAny (model X.prog X.w) X.A (spliced (backTo pos (starEach es X.env))) (AP X pins σ Q) X.xe s
def PS(X:Cx)(st:Stmt)(t:TS):Prop :=
 ∀ (pins:#[h]) (s:Shared) (σ:St) (H:Hp) (D:P5),#[d]->t D σ H->wpAny (model X.prog X.w) X.A (exec st X.env) (SP X pins D) X.xe s
def PSs(X:Cx)(st:List Stmt)(t:TS):Prop :=
 ∀ (pins:#[h]) (s:Shared) (σ:St) (H:Hp) (D:P5),#[d]->t D σ H->wpAny (model X.prog X.w) X.A (execs st X.env) (SP X pins D) X.xe s
theorem thn(h:wpAny M A t Q E s)(hQ:∀ a s,Q a s->Q' a s):wpAny M A t Q' E s:=wpAny_mono h hQ fun _ _ x=>x
section
variable{X:Cx}
inductive Dk(i:Nat)(σ:L2.St)(H:Hp)(Q:VK):Prop where
 | mk(v)(_:σ[i]?=#[a,some,v])(_:Q v H)
def tC(v:V):TE:=fun _ H Q=>Q v H
theorem zin(hN:X.N[i]?=some x)(hv:Vis X.env.scope x)(hd:(x == ("__debug__":Str))=false:=by decide)(hcd:(x == ("__classdict__":Str))=false:=by decide):PE X (.Name x pos) (Dk i):=by
 intro pins s σ H Q I h;obtain⟨v,e,h⟩:=h;obtain⟨m,hn,hl⟩:=I.loc;obtain⟨u,r,l⟩:=hl i x v hN (.inl e) hv;have fin:EP X pins σ Q u s:=⟨v,H,I,r,h⟩;rcases l with ⟨hk,hm⟩|⟨hk,c,hc,hcell⟩
 ·exact wpAny_Name (wpAny_loadName_local I.ok.kind hk hn hm fin) hd
 ·rcases hk with hk|hk
  ·exact wpAny_Name (wpAny_loadName_cell I.ok.kind hk hc hcell fin) hd
  ·exact wpAny_Name (wpAny_loadName_free I.ok.kind hk hc hcell fin hcd) hd
theorem Zg{i j pos}:PE X (.Constant (.int i) j pos) (tC (.int i)):=fun _ _ _ H _ I h=>wpAny_Constant_int ⟨.int i,H,I.tok _,⟨_,rfl⟩,h⟩
theorem Xc{b j pos}:PE X (.Constant (.bool b) j pos) (tC (.bl b)):=fun _ _ _ H _ I h=>Constant_bool ⟨.bl b,H,I,rfl,h⟩
theorem Yx{j pos}:PE X (.Constant .none j pos) (tC .non):=fun _ _ _ H _ I h=>Constant_none ⟨.non,H,I,rfl,h⟩
theorem Zq{x j pos}:PE X (.Constant (.str x) j pos) (tC (.str x)):=fun _ _ _ H _ I h=>Calls.Constant_str ⟨.str x,H,I.tok _,⟨_,rfl⟩,h⟩
def Gl(X:Cx)(x:Str):Prop:=X.env.kindOf x=some .globalImplicit
theorem Pn(I:#[d])(hg:Gl X x)(hm:X.mg x=some u)(h:Q u s)
  (hd:(x == ("__debug__":Str))=false:=by decide):wpAny (model X.prog X.w) X.A (eval (.Name x pos) X.env) Q E s :=
 Calls.Name_function_global I.ok.kind hg (Calls.loadGlobal_global (by rw[I.ok.glob];exact I.mod.glob.keeps I.bk) hm h) hd
theorem Ol(I:#[d])(hg:Gl X x)(hm:X.mg x=none)(hv:bootBuiltins x=some u)(h:Q u s)
  (hn:x≠"__name__":=by decide) (hd:(x == ("__debug__":Str))=false:=by decide):wpAny (model X.prog X.w) X.A (eval (.Name x pos) X.env) Q E s:=by
 obtain⟨mb,h1,h2⟩:=I.mod.blt;exact Calls.Name_function_global I.ok.kind hg (Calls.loadGlobal_builtin (by rw[I.ok.glob];exact I.mod.glob.keeps I.bk) hm (by rw[I.ok.blt];exact h1.keeps I.bk) ((h2 x hn).trans hv) h) hd
theorem zgz(hg:Gl X x)(hm:X.mg x=some u)(r:RelV v u)(hd:(x == ("__debug__":Str))=false:=by decide):PE X (.Name x pos) (tC v) :=
 fun _ _ _ H _ I h=>Pn I hg hm ⟨v,H,I,r,h⟩ hd
theorem Vq(hg:Gl X x)(hm:X.mg x=none)(hv:bootBuiltins x=some u)(r:RelV v u)(hn:x≠"__name__":=by decide)(hd:(x == ("__debug__":Str))=false:=by decide):PE X (.Name x pos) (tC v) :=
 fun _ _ _ H _ I h=>Ol I hg hm hv ⟨v,H,I,r,h⟩ hn hd
variable{a b:Expr}{ta tb:TE}{pos:Pos}
def PC(X:Cx)(op:CmpOp)(a b:Expr)(t:TE):Prop :=
 ∀ (pins:#[h]) (s:Shared) (σ:St) (H:Hp) (Q:VK),#[d]->t σ H Q ->
   wpAny (model X.prog X.w) X.A (eval a X.env) (fun v s₁=>wpAny (model X.prog X.w) X.A (eval b X.env) (fun u s₂=>wpAny (model X.prog X.w) X.A (compareOp op v u) (EP X pins σ Q) X.xe s₂) X.xe s₁) X.xe s
inductive tBI(Q:Bool->Hp->Prop)(x:V)(H1:Hp):Prop where
 | mk(c)(_:x=.bl c)(_:Q c H1)
def tB(t:TE):TT:=fun σ H Q=>t σ H fun x H1=>tBI Q x H1
theorem Sk(h:PC X op a b t)(h1:behindInMarks op b=false:=by first|exact nobehind _ ⋯ ⋯|rfl):PT X (.Compare a [op] [b] pos) (tB t):=by
 intro pins s σ H Q I hw;refine wpAny_isTrue_Compare1 (thn (h pins s σ H _ I hw) fun v s1 h1=>thn h1 fun u s2 h2=>thn h2 fun c s3 ⟨x,H1,I1,r1,q1⟩=>?_) h1;obtain⟨d,rfl,q⟩:=q1;cases r1;exact wpAny_truthy_bool ⟨H1,I1,q⟩
theorem Yr(h:PE X e t)(he:∀ whole,isTrue e X.env whole=(do let v <- whole;standAt e.pos;holding [v] (truthy v)):=by intro _;rfl):PT X e (tB t):=by
 intro pins s σ H Q I hw;refine isTrue_plain (thn (h pins s σ H _ I hw) fun v s1 ⟨x,H1,I1,r1,q1⟩=>?_) (he _);obtain⟨d,rfl,q⟩:=q1;cases r1;exact wpAny_truthy_bool ⟨H1,I1,q⟩
variable{tA tB':TT}{rest:List Expr}
def zio(t u:TT):TT:=fun σ H Q=>t σ H fun c H1=>if c=true then u σ H1 Q else Q false H1
def tOr(t u:TT):TT:=fun σ H Q=>t σ H fun c H1=>if c=true then Q true H1 else u σ H1 Q
def zlh(t:TT):TT:=fun σ H Q=>t σ H fun c H1=>Q (!c) H1
theorem Rr(ha:PT X a tA):PW X (.BoolOp .And [a] pos) tA:=by
 intro wh pins s σ H Q I h;refine isTrue_and (thn (ha pins s σ H Q I h) fun c s1 e=>?_);cases c with
 | true=>exact isTrue_and_nil e
 | false=>exact e
theorem Xs(ha:PT X a tA):PW X (.BoolOp .Or [a] pos) tA:=by
 intro wh pins s σ H Q I h;refine isTrue_or (thn (ha pins s σ H Q I h) fun c s1 e=>?_);cases c with
 | false=>exact isTrue_or_nil e
 | true=>exact e
theorem Om(ha:PT X a tA)(hb:PW X (.BoolOp .And (b :: rest) pos) tB'):PW X (.BoolOp .And (a :: b :: rest) pos) (zio tA tB'):=by
 intro wh pins s σ H Q I h;refine isTrue_and (thn (ha pins s σ H _ I h) fun c s1 ⟨H1,I1,q1⟩=>?_);cases c with
 | true=>exact hb wh pins s1 σ H1 Q I1 q1
 | false=>exact⟨H1,I1,q1⟩
theorem Wk(ha:PT X a tA)(hb:PW X (.BoolOp .Or (b :: rest) pos) tB'):PW X (.BoolOp .Or (a :: b :: rest) pos) (tOr tA tB'):=by
 intro wh pins s σ H Q I h;refine isTrue_or (thn (ha pins s σ H _ I h) fun c s1 ⟨H1,I1,q1⟩=>?_);cases c with
 | true=>exact⟨H1,I1,q1⟩
 | false=>exact hb wh pins s1 σ H1 Q I1 q1
theorem Yy(ha:PT X a tA):PT X (.UnaryOp .Not a pos) (zlh tA):=by
 intro pins s σ H Q I h;exact isTrue_not (ha pins s σ H (fun c H1=>Q (!c) H1) I h)
inductive ziq(tb:TE)(σ:L2.St)(Q:VK)(x:V)(H1:Hp):Prop where
 | mk(c)(_:x=.bl c)(_:if c=true then tb σ H1 Q else Q (.bl false) H1)
def zj6(ta tb:TE):TE:=fun σ H Q=>ta σ H fun x H1=>ziq tb σ Q x H1
inductive zj7(tb:TE)(σ:L2.St)(Q:VK)(x:V)(H1:Hp):Prop where
 | mk(c)(_:x=.bl c)(_:if c=true then Q (.bl true) H1 else tb σ H1 Q)
def zli(ta tb:TE):TE:=fun σ H Q=>ta σ H fun x H1=>zj7 tb σ Q x H1
inductive zir(Q:VK)(x:V)(H1:Hp):Prop where
 | mk(c)(_:x=.bl c)(_:Q (.bl (!c)) H1)
def zj8(ta:TE):TE:=fun σ H Q=>ta σ H fun x H1=>zir Q x H1
theorem Dl{op}(h:PE X a t):PE X (.BoolOp op [a] pos) t:=fun pins s σ H Q I hw=>BoolOp_one (h pins s σ H Q I hw)
theorem zad(ha:PE X a ta)(hb:PE X (.BoolOp .And (b :: rest) pos) tb):PE X (.BoolOp .And (a :: b :: rest) pos) (zj6 ta tb):=by
 intro pins s σ H Q I h;refine BoolOp_and (thn (ha pins s σ H _ I h) fun v s1 ⟨x,H1,I1,r1,q1⟩=>?_);obtain⟨c,rfl,q1⟩:=q1;cases r1;refine wpAny_truthy_bool ?_;cases c with
 | true=>exact hb pins s1 σ H1 Q I1 q1
 | false=>exact⟨.bl false,H1,I1,rfl,q1⟩
theorem zj9(ha:PE X a ta)(hb:PE X (.BoolOp .Or (b :: rest) pos) tb):PE X (.BoolOp .Or (a :: b :: rest) pos) (zli ta tb):=by
 intro pins s σ H Q I h;refine BoolOp_or (thn (ha pins s σ H _ I h) fun v s1 ⟨x,H1,I1,r1,q1⟩=>?_);obtain⟨c,rfl,q1⟩:=q1;cases r1;refine wpAny_truthy_bool ?_;cases c with
 | false=>exact hb pins s1 σ H1 Q I1 q1
 | true=>exact⟨.bl true,H1,I1,rfl,q1⟩
theorem zis(ha:PE X a ta):PE X (.UnaryOp .Not a pos) (zj8 ta):=by
 intro pins s σ H Q I h;refine UnaryOp_ (thn (ha pins s σ H _ I h) fun v s1 ⟨x,H1,I1,r1,q1⟩=>?_);obtain⟨c,rfl,q1⟩:=q1;cases r1;exact not_of (wpAny_truthy_bool ⟨.bl (!c),H1,I1,rfl,q1⟩)
def tIf(t:TT)(ta tb:TE):TE:=fun σ H Q=>t σ H fun c H1=>if c=true then ta σ H1 Q else tb σ H1 Q
theorem Cy(hc:PT X c tA)(ha:PE X a ta)(hb:PE X b tb):PE X (.IfExp c a b pos) (tIf tA ta tb):=by
 intro pins s σ H Q I h;refine wpAny_IfExp (thn (hc pins s σ H _ I h) fun d s1 ⟨H1,I1,q1⟩=>?_);cases d with
 | true=>exact ha pins s1 σ H1 Q I1 q1
 | false=>exact hb pins s1 σ H1 Q I1 q1
end
def SqL(K:Frag)(H:Hp)(a:Addr)(xs:#[b]):Prop :=
 Rd H a (.lst xs) \/
  ∃ (o:Obj) (its:Array Value) (n:Nat),K.lookup a=some o/\o.cls=.type "list"/\o.dict=none/\o.data=.seq its n/\its.size<=sizeLine/\Vals xs its.toList
def SqT(K:Frag)(H:Hp)(a:Addr)(xs:#[b]):Prop :=
 Rd H a (.tup xs) \/
  ∃ (o:Obj) (its:Array Value) (n:Nat),K.lookup a=some o/\o.cls=.type "tuple"/\o.data=.seq its n/\its.size<=sizeLine/\Vals xs its.toList
def zlj:Value->Option V
 | .none=>some .non
 | .bool b=>#[a,.bl,b]
 | .int i _=>#[e,i]
 | .str x _=>#[a,.str,x]
 | .bytes b _=>#[a,.byt,b]
 | .float b _=>#[a,.flt,b]
 | .ref a=>#[c,a]
 | .type n=>#[a,.ty,n]
 | _=>none
theorem RelV.abs(r:RelV x u):zlj u=some x:=by
 cases x with
 | non=>cases r;rfl
 | bl _=>cases r;rfl
 | int _=>obtain⟨t,rfl⟩:=r;rfl
 | str _=>obtain⟨t,rfl⟩:=r;rfl
 | byt _=>obtain⟨t,rfl⟩:=r;rfl
 | flt _=>obtain⟨t,rfl⟩:=r;rfl
 | ref _=>cases r;rfl
 | ty _=>cases r;rfl
theorem RelV.inj(r:RelV x u)(q:RelV y u):x=y:=Option.some.inj (r.abs.symm.trans q.abs)
theorem Vals.inj:∀ {xs ys:List V} {us:List Value},Vals xs us->Vals ys us->xs=ys
 | _,_,_,.nil,.nil=>rfl
 | _,_,_,.cons r t,.cons r' t'=>by rw[r.inj r',Vals.inj t t']
section
variable{X:Cx}{pins:#[h]}{σ:St}{H:Hp}{s:Shared}{a:Addr}{xs ys:#[b]}
theorem SqL.of{K:Frag}(h:H a=#[a,.lst,xs]):SqL K H a xs:=.inl (.inl h)
theorem SqT.of{K:Frag}(h:H a=#[a,.tup,xs]):SqT K H a xs:=.inl (.inl h)
theorem Inv.list(I:#[d])(h:SqL X.K H a xs):∃ its:List Value,Vals xs its/\PlainL s.heap a its.toArray/\xs.length<=sizeLine:=by
 rcases h with h|⟨o,its,n,hk,hc,hd,hs,hz,r⟩
 ·obtain⟨z,its,n,r,e⟩:=h.ok I.hok;exact⟨its,r,⟨_,n,e,rfl,rfl,rfl⟩,z⟩
 ·refine⟨its.toList,r,⟨o,n,I.kIn a o hk,hc,hd,by simpa using hs⟩,?_⟩;have e:=r.length;simp only[Array.length_toList] at e;omega
theorem Inv.tuple(I:#[d])(h:SqT X.K H a xs):∃ its:List Value,Vals xs its/\IsTup s.heap a its.toArray/\xs.length<=sizeLine:=by
 rcases h with h|⟨o,its,n,hk,hc,hs,hz,r⟩
 ·obtain⟨z,its,r,p⟩:=h.ok I.hok;exact⟨its,r,p,z⟩
 ·refine⟨its.toList,r,⟨o,I.kIn a o hk,hc,n,by simpa using hs⟩,?_⟩;have e:=r.length;simp only[Array.length_toList] at e;omega
theorem Inv.list_inj(I:#[d])(h:SqL X.K H a xs)(h':SqL X.K H a ys):xs=ys:=by
 obtain⟨its,r,⟨o,n,e,_,_,d⟩,_⟩:=I.list h;obtain⟨its',r',⟨o',n',e',_,_,d'⟩,_⟩:=I.list h';rw[e] at e';cases e';rw[d] at d';injection d' with d1 _;have:its=its':=by simpa using congrArg Array.toList d1
 subst this;exact r.inj r'
theorem Inv.tuple_inj(I:#[d])(h:SqT X.K H a xs)(h':SqT X.K H a ys):xs=ys:=by
 obtain⟨its,r,⟨o,e,_,n,d⟩,_⟩:=I.tuple h;obtain⟨its',r',⟨o',e',_,n',d'⟩,_⟩:=I.tuple h';rw[e] at e';cases e';rw[d] at d';injection d' with d1 _;have:its=its':=by simpa using congrArg Array.toList d1
 subst this;exact r.inj r'
end
section
variable{X:Cx}{st:Stmt}{rest:List Stmt}{t u:TS}{e:Expr}{te:TE}{pos:Pos}
def zem:TS:=fun D σ H=>D.nx σ H
def tSeq(t u:TS):TS:=fun D σ H=>t { D with nx:=u D } σ H
theorem Zp:PSs X [] zem:=fun _ _ σ H _ I h=>wpAny_execs_nil ⟨σ,H,I,h⟩
theorem Zb(h1:PS X st t)(h2:PSs X rest u):PSs X (st :: rest) (tSeq t u):=by
 intro pins s σ H D I h;refine wpAny_execs_cons (thn (h1 pins s σ H { D with nx:=u D } I h) fun f s1 q=>?_);cases f with
 | next =>
   obtain⟨σ',H',I',q⟩:=q;exact h2 pins s1 σ' H' D I' q
 | ret v=>exact q
 | brk=>exact q
 | cont=>exact q
theorem Ze(h1:PS X st t):PSs X [st] t:=by
 intro pins s σ H D I h;refine wpAny_execs_cons (thn (h1 pins s σ H D I h) fun f s1 q=>?_);cases f with
 | next=>exact wpAny_execs_nil q
 | ret v=>exact q
 | brk=>exact q
 | cont=>exact q
def zit:TS:=fun D σ H=>D.bk σ H
theorem zen:PS X (.Break pos) zit:=fun _ _ σ H _ I h=>wpAny_Break ⟨σ,H,I,h⟩
theorem Inv.quiet(I:#[d]):interactive X.env=false:=by simp[interactive,I.ok.kind]
def zka(te:TE):TS:=fun D σ H=>te σ H fun _ H1=>D.nx σ H1
theorem Z7(he:PE X e te)(hs:swapsWith e none pos.line X.env=pure false:=by rfl):PS X (.Expr e pos) (zka te):=by
 intro pins s σ H D I h;exact wpAny_Expr_any (thn (he pins s σ H _ I h) fun v s1 ⟨x,H1,I1,r1,q1⟩=>⟨σ,H1,I1,q1⟩) I.quiet hs
def zkb(te:TE):TS:=fun D σ H=>te σ H D.rt
theorem Zn(he:PE X e te):PS X (.Return (some e) pos) (zkb te):=by
 intro pins s σ H D I h;exact wpAny_Return_some (thn (he pins s σ H _ I h) fun v s1 ⟨x,H1,I1,r1,q1⟩=>⟨x,σ,H1,I1,r1,q1⟩)
def Cz(c:TT)(t u:TS):TS:=fun D σ H=>c σ H fun b H1=>if b=true then t D σ H1 else u D σ H1
theorem Z3(hc:PT X c tc)(ha:PSs X a t)(hb:PSs X b u):PS X (.If c a b pos) (Cz tc t u):=by
 intro pins s σ H D I h;refine wpAny_If (thn (hc pins s σ H _ I h) fun d s1 ⟨H1,I1,q1⟩=>?_);cases d with
 | true=>exact ha pins s1 σ H1 D I1 q1
 | false=>exact hb pins s1 σ H1 D I1 q1
end
abbrev TG:=V->St->Hp->(St->Hp->Prop)->Prop
abbrev TGs:=#[b]->St->Hp->(St->Hp->Prop)->Prop
def PG(X:Cx)(target:Expr)(t:TG):Prop :=
 ∀ (pins:#[h]) (s:Shared) (σ:St) (H:Hp) (v:V) (u:Value) (Q:St->Hp->Prop),#[d]->RelV v u->t v σ H Q ->
   wpAny (model X.prog X.w) X.A (assign target X.env u) (fun _ s'=>∃ σ' H',Inv X pins σ' H' s'/\Q σ' H') X.xe s
def PGs(X:Cx)(ts:List Expr)(t:TGs):Prop :=
 ∀ (pins:#[h]) (s:Shared) (σ:St) (H:Hp) (vs:#[b]) (us:List Value) (Q:St->Hp->Prop),#[d]->Vals vs us->t vs σ H Q ->
   wpAny (model X.prog X.w) X.A (assignInOrder ((assignEach ts X.env).map (·.2)) us) (fun _ s'=>∃ σ' H',Inv X pins σ' H' s'/\Q σ' H') X.xe s
abbrev zkc:=V->V->V->Hp->(Hp->Prop)->Prop
def zkd(X:Cx)(t:zkc):Prop :=
 ∀ (pins:#[h]) (s:Shared) (σ:St) (H:Hp) (o i v:V) (ov iv u:Value) (Q:Hp->Prop),#[d]->RelV o ov->RelV i iv->RelV v u->t o i v H Q ->
   wpAny (model X.prog X.w) X.A (setItem ov iv u) (fun _ s'=>∃ H',Inv X pins σ H' s'/\Q H') X.xe s
section
variable{X:Cx}{pos:Pos}
def Wl(i:Nat):TG:=fun v σ H Q=>Q (σ.set i (some v)) H
theorem Vr(hN:X.N.Nodup)(hi:X.N[i]?=some x)(hx:Loc X.env.scope x)(hf:zac X i x:=by first|exact⟨.inl rfl,Ws⟩|exact⟨.inr rfl,Ws⟩|assumption|exact⟨.inl rfl,by assumption⟩|exact⟨.inr rfl,by assumption⟩):PG X (.Name x pos) (Wl i):=by
 intro pins s σ H v u Q I r h;exact wpAny_assign_Name (Cw I hN hi hx r (fun s' I'=>⟨_,H,I',h⟩) hf)
def zke:TGs:=fun vs σ H Q=>vs=[]/\Q σ H
def zeo(t:TG)(u:TGs):TGs:=fun vs σ H Q=>∃ v r,vs=v :: r/\t v σ H fun σ' H'=>u r σ' H' Q
theorem Xx:PGs X [] zke:=by
 intro pins s σ H vs us Q I r h;obtain⟨e,h⟩:=h;subst e;cases r;exact assignInOrder_nil ⟨σ,H,I,h⟩
theorem Zw(h1:PG X e t)(h2:PGs X es u)
  (hs:(assignEach (e :: es) X.env).map (·.2)=assign e X.env :: (assignEach es X.env).map (·.2):=by rfl):PGs X (e :: es) (zeo t u):=by
 intro pins s σ H vs us Q I r h;obtain⟨v,vr,e1,h⟩:=h;subst e1;cases r with
 | cons r rr =>
   rw[hs];refine assignInOrder_cons (thn (h1 pins s σ H _ _ _ I r h) fun _ s1 ⟨σ1,H1,I1,q1⟩=>?_);exact h2 pins s1 σ1 H1 _ _ Q I1 rr q1
def ziu(K:Frag)(n:Nat)(t:TGs):TG:=fun v σ H Q=>∃ a xs,v=.ref a/\SqT K H a xs/\xs.length=n/\t xs σ H Q
theorem ziv(hc:X.calm=true)(h:PGs X es t)
  (hn:(assignEach es X.env).length=n:=by rfl) (hst:(assignEach es X.env).findIdx? (·.1)=none:=by rfl):PG X (.Tuple es k pos) (ziu X.K n t):=by
 intro pins s σ H v u Q I r hw;obtain⟨a,xs,e1,hq,hl,hw⟩:=hw;subst e1;cases r;obtain⟨its,rv,ht,hz⟩:=I.tuple hq;refine assign_Tuple_tuple (I.ok.hd hc) ht (by simp[hn,<- hl,rv.length]) hst fun h' hx=>?_;have I1:Inv X pins σ H { s with heap:=h' }:=I.kept (t':=s.toks) fun b o e=>hx b o (zvv (Heap.lt_size e)) e;exact h pins _ σ H xs _ Q I1 (by simpa using rv) hw
def zlk(to ti:TE)(t:zkc):TG:=fun v σ H Q=>to σ H fun o H1=>ti σ H1 fun i H2=>t o i v H2 fun H3=>Q σ H3
theorem ziw(ho:PE X o to)(hi:PE X i ti)(hs:zkd X t)
  (ha:∀ v,assign (.Subscript o i pos) X.env v=(do
   let ov <- holding [v] (eval o X.env)
   let iv <- holding [v,ov] (eval i X.env)
   standAt pos
   holding [v,ov,iv] (setItem ov iv v)
   release [v,ov,iv] []):=by intro _;rfl):PG X (.Subscript o i pos) (zlk to ti t):=by
 intro pins s σ H v u Q I r h;rw[ha];refine wpAny_bind (wpAny_holding (thn (ho pins s σ H _ I h) fun ov s1 ⟨x,H1,I1,r1,q1⟩=>?_));refine wpAny_bind (wpAny_holding (thn (hi pins s1 σ H1 _ I1 q1) fun iv s2 ⟨y,H2,I2,r2,q2⟩=>?_));refine wpAny_bind (wpAny_standAt (wpAny_bind (wpAny_holding (thn (hs pins s2 σ H2 x y v ov iv u _ I2 r1 r2 r q2) fun _ s3 ⟨H3,I3,q3⟩=>?_))));exact wpAny_release ⟨σ,H3,I3,q3⟩
def zcy(te:TE)(g:TG):TS:=fun D σ H=>te σ H fun x H1=>g x σ H1 D.nx
theorem Oo(he:PE X e te)(hg:PG X tg g)(hs:swapsWithSole [tg] e pos.line X.env=pure false:=by rfl)(hw:swappedStores [tg] e X.env=pure none:=by rfl)
  (h1:(assignEach [tg] X.env).map (·.2)=[assign tg X.env]:=by rfl):PS X (.Assign [tg] e pos) (zcy te g):=by
 intro pins s σ H D I h;refine wpAny_Assign_stores (thn (he pins s σ H _ I h) fun v s1 ⟨x,H1,I1,r1,q1⟩=>?_) hs hw;rw[h1];exact thn (hg pins s1 σ H1 x v _ I1 r1 q1) fun _ s2 q=>q
theorem zix(hN:X.N.Nodup)(hi:X.N[i]?=some x)(hx:Loc X.env.scope x)(he:PE X e te)(hs:swapsWith e (some (.Name x pos')) pos.line X.env=pure false:=by rfl)(hf:zac X i x:=by first|exact⟨.inl rfl,Ws⟩|exact⟨.inr rfl,Ws⟩|assumption|exact⟨.inl rfl,by assumption⟩|exact⟨.inr rfl,by assumption⟩) :
  PS X (.Assign [.Name x pos'] e pos) (zcy te (Wl i)):=by
 intro pins s σ H D I h;refine wpAny_Assign_Name (thn (he pins s σ H _ I h) fun v s1 ⟨y,H1,I1,r1,q1⟩=>?_) hs;exact Cw I1 hN hi hx r1 (fun s2 I2=>⟨_,H1,I2,q1⟩) hf
end
section
variable{X:Cx}{pos:Pos}
def zep(c:TT)(tb:TS):TS:=fun D σ H=>∃ W:Nat->St->Hp->Prop,(∃ m,W m σ H)/\∀ m σ H,W m σ H ->
 c σ H fun b H1=>if b=true then ∃ N:St->Hp->Prop,(∀ σ' H',N σ' H'->∃ m',m' < m/\W m' σ' H')/\tb { D with nx:=N,ct:=N,bk:=D.nx } σ H1 else D.nx σ H1
theorem C0(hp:PassesOwn (model X.prog X.w) X.A X.env X.xe)(hc:PT X c tc)(hb:PSs X body tb):PS X (.While c body [] pos) (zep tc tb):=by
 intro pins s σ H D I h;obtain⟨W,⟨m0,w0⟩,turn⟩:=h;refine wpAny_While (codeAny_whileLoop (fun n s'=>∃ σ' H',Inv X pins σ' H' s'/\W n σ' H') ?_ m0 ⟨σ,H,I,w0⟩);rintro n s1 ⟨σ1,H1,I1,w1⟩;refine wpAny_passesOwn hp (thn (hc pins s1 σ1 H1 _ I1 (turn n σ1 H1 w1)) fun b s2 ⟨H2,I2,q2⟩=>?_);cases b with
 | true =>
   obtain⟨N,hN,q2⟩:=q2;rw[if_pos rfl];refine wpAny_passesOwn hp (thn (hb pins s2 σ1 H2 _ I2 q2) fun f s3 q3=>?_);cases f with
   | next =>
     obtain⟨σ3,H3,I3,n3⟩:=q3;obtain⟨m',hm,w3⟩:=hN σ3 H3 n3;exact⟨m',hm,σ3,H3,I3,w3⟩
   | cont =>
     obtain⟨σ3,H3,I3,n3⟩:=q3;obtain⟨m',hm,w3⟩:=hN σ3 H3 n3;exact⟨m',hm,σ3,H3,I3,w3⟩
   | brk=>exact q3
   | ret v=>exact q3
 | false =>
   rw[if_neg zvo];exact wpAny_execs_nil ⟨σ1,H2,I2,q2⟩
end
structure It where
 go:Nat->Hp->Prop
 yld:Nat->Hp->V->Hp->Prop
 stop:Nat->Hp->Prop
def FpOk(X:Cx)(pins:#[h])(H:Hp)(b:Addr):Prop :=
 H b=none/\b≠X.env.locals/\b∉X.fs/\(b∈X.ex\/X.s₀.heap.objs.size<=b)/\(∀ x c,X.env.cells.lookup x=some c->c≠b)/\∀ p∈X.pn++pins,p.1≠b
theorem Inv.fpOk(I:#[d])(hb:s.heap.objs.size<=b)(hn:H' b=none):FpOk X pins H' b:=by
 refine⟨hn,Nat.ne_of_gt (zvn I.lt hb),I.nofs hb,.inr (zvh I.sz hb),fun x c e z=>?_,fun p hp z=>?_⟩
 ·obtain⟨v,q⟩:=I.cell x c e;exact absurd (zvn q.lt (by rw[z];exact hb)) (zwu _)
 ·exact absurd (zvn (Heap.lt_size (I.pin p hp).1) (by rw[z];exact hb)) (zwu _)
structure C2(P:Program)(w:World)(K:Frag)(tg:Expr)(J:It)(fp:List Addr)(it:Addr)(tn:Nat->Heap->Prop):Prop where
 mem:it∈fp
 obj:∀ i h,tn i h->∀ b∈fp,∃ o,h.get? b=some o/\∀ v,o.data≠.cell v
 keep:∀ i h h',tn i h->(∀ b∈fp,∀ o,h.get? b=some o->h'.get? b=some o)->tn i h'
 item:∀ (X:Cx),X.prog=P->X.w=w->X.K=K->X.calm=true->∀ (i:Nat) (pins:#[h]) (s:Shared) (σ:St) (H:Hp) (E:Value->Shared->Prop),#[d]->(∀ b∈fp,FpOk X pins H b)->tn i s.heap->J.go i H ->
  wpAny (model P w) X.A (pyNext (.ref it)) (fun r s1=>∃ u,r=some u /\
   wpAny (model P w) X.A (letOwnedTupleGo tg (.ref it) u) (fun _ s2=>∃ x H',Inv X pins σ H' s2/\RelV x u/\J.yld i H x H'/\tn (i+1) s2.heap/\∀ b∈fp,H' b=none) E s1) E s
 done:∀ (X:Cx),X.prog=P->X.w=w->X.K=K->X.calm=true->∀ (i:Nat) (pins:#[h]) (s:Shared) (σ:St) (H:Hp) (E:Value->Shared->Prop),#[d]->(∀ b∈fp,FpOk X pins H b)->tn i s.heap->J.stop i H ->
  wpAny (model P w) X.A (pyNext (.ref it)) (fun r s1=>r=none/\Inv X pins σ H s1) E s
 self:∀ (A:Around) (i:Nat) (s:Shared) (Q:Value->Shared->Prop) (E:Value->Shared->Prop),tn i s.heap->Q (.ref it) s->wpAny (model P w) A (pyIter (.ref it)) Q E s
abbrev TI:=St->Hp->(It->Hp->Prop)->Prop
def PIE(X:Cx)(pins:#[h])(σ:St)(tg:Expr)(R:It->Hp->Prop)(itv:Value)(s2:Shared):Prop :=
 ∃ (it:Addr) (fp:List Addr) (tn:Nat->Heap->Prop) (J:It) (H':Hp),itv=.ref it/\Inv X pins σ H' s2/\C2 X.prog X.w X.K tg J fp it tn/\tn 0 s2.heap/\(∀ b∈fp,FpOk X pins H' b)/\R J H'
def PI(X:Cx)(tg iter:Expr)(wi:TI):Prop :=
 ∀ (pins:#[h]) (s:Shared) (σ:St) (H:Hp) (R:It->Hp->Prop),#[d]->wi σ H R ->
   wpAny (model X.prog X.w) X.A (eval iter X.env) (fun v s1=>wpAny (model X.prog X.w) X.A (pyIter v) (PIE X pins σ tg R) X.xe s1) X.xe s
theorem zeq(ho:s.heap.get? it=some o)(hc:o.cls=.type n)(hd:o.data=.fields vs)
  (hn:["enumerate","zip","dict_itemiterator","dict_reverseitemiterator","odict_iterator","itertools.zip_longest","itertools.pairwise"].contains n=false) (hQ:Q () s):wpAny M A (letOwnedTupleGo tg (.ref it) u) Q E s:=by
 unfold letOwnedTupleGo;cases tg<;>first
  | exact wpAny_pure hQ
  | (cases u<;>first
    | exact wpAny_pure hQ
    | (refine wpAny_bind (wpAny_load ho ?_)
       rw[hc,hd];show wpAny M A (if (["enumerate","zip","dict_itemiterator","dict_reverseitemiterator","odict_iterator","itertools.zip_longest","itertools.pairwise"].contains n&&vs[0]? == some (rawInt _))=true then _ else _) Q E s;rw[if_neg (by intro h;rw[hn,Bool.false_and] at h;cases h)];exact wpAny_pure hQ))
def Itl(K:Frag)(a:Addr):It :=
 ⟨fun i H=>∃ xs x,SqL K H a xs/\xs[i]?=some x,fun i H x H'=>H'=H/\∀ xs,SqL K H a xs->xs[i]?=some x,fun i H=>∃ xs,SqL K H a xs/\xs.length<=i⟩
def Itr(lo:Int)(n:Nat):It:=⟨fun i _=>i<n,fun i H x H'=>H'=H/\x=.int (lo+i),fun i _=>n<=i⟩
theorem zcz{P:Program}{w:World}{K:Frag}{tg:Expr}(a it:Addr):C2 P w K tg (Itl K a) [it] it (fun i h=>h.IsListIter it a i) where
 mem:=by simp
 obj:=fun i h st b hb=>by
  have e:b=it:=by simpa using hb
  subst e;obtain⟨o,e,c,d⟩:=st;exact⟨o,e,fun v z=>by rw[d] at z;cases z⟩
 keep:=fun i h h' st k=>st.at fun o e=>k it (by simp) o e
 item:=by
  intro X hP hw hK hc i pins s σ H E I hf st hg;subst hP hw hK;obtain⟨xs,x,hq,hx⟩:=hg;obtain⟨its,rv,p,hz⟩:=I.list hq;obtain⟨u,hu,ru⟩:=rv.get hx;obtain⟨f0,f1,f2,f3,f4,f5⟩:=hf it (by simp);refine wpAny_pyNext_list_item st p.isList (x:=u) (by simpa using hu) fun h' st' sb=>?_;have I1:Inv X pins σ H { s with heap:=h' }:=I.turned (t':=s.toks) (fun b o hb e=>(sb.2 b hb).trans e) f0 f1 f3 f4 f5;obtain⟨o,e,c,d⟩:=id st';exact⟨u,rfl,zeq (s:={ s with heap:=h' }) e c d ⋯ ⟨x,H,I1,ru,⟨rfl,fun ys hy=>by rw[I.list_inj hy hq];exact hx⟩,st',fun b hb=>(hf b hb).1⟩⟩
 done:=by
  intro X hP hw hK hc i pins s σ H E I hf st hg;subst hP hw hK;obtain⟨xs,hq,hx⟩:=hg;obtain⟨its,rv,p,hz⟩:=I.list hq;obtain⟨f0,f1,f2,f3,f4,f5⟩:=hf it (by simp);have hl:=rv.length;exact wpAny_pyNext_list_end (I.ok.hd hc) st p.isList (by simp;omega) fun h' eb=>⟨rfl,I.turned (t':=s.toks) (fun b o hb e=>eb b o hb e) f0 f1 f3 f4 f5⟩
 self:=fun _ _ _ _ _ st h=>wpAny_pyIter_listiter st h
theorem zae{P:Program}{w:World}{K:Frag}{tg:Expr}(it:Addr)(lo:Int)(n:Nat):C2 P w K tg (Itr lo n) [it] it (fun i h=>IsRangeIter h it (lo+(i:Nat)*1) ((n:Int)-(i:Nat)) 1) where
 mem:=by simp
 obj:=fun i h st b hb=>by
  have e:b=it:=by simpa using hb
  subst e;exact⟨_,st,fun v z=>by
   have z':Data.fields _=Data.cell v:=z;cases z'⟩
 keep:=fun i h h' st k=>k it (by simp) _ st
 item:=by
  intro X hP hw hK hc i pins s σ H E I hf st hg;subst hP hw hK;obtain⟨f0,f1,f2,f3,f4,f5⟩:=hf it (by simp);have W:=Walks.range (prog:=X.prog) (w:=X.w) (I.ok.hd hc) it lo 1 n;refine W.item i s _ _ hg st fun v h' tk hv st' kk=>?_;obtain⟨t,rfl⟩:=hv;have I1:Inv X pins σ H { s with heap:=h',toks:=tk }:=I.turned (fun b o hb e=>kk b o (by simpa using hb) e) f0 f1 f3 f4 f5;refine⟨_,rfl,zeq (s:={ s with heap:=h',toks:=tk }) (n:="range_iterator") st' rfl rfl ⋯ ⟨.int (lo+i),H,I1,⟨t,?_⟩,⟨rfl,rfl⟩,st',fun b hb=>(hf b hb).1⟩⟩;rw[Int.mul_one]
 done:=by
  intro X hP hw hK hc i pins s σ H E I hf st hg;subst hP hw hK;obtain⟨f0,f1,f2,f3,f4,f5⟩:=hf it (by simp);exact wpAny_pyNext_range_end (I.ok.hd hc) st (by have:n<=i:=hg;omega) fun h' eb=>⟨rfl,I.turned (t':=s.toks) (fun b o hb e=>eb b o hb e) f0 f1 f3 f4 f5⟩
 self:=fun _ _ _ _ _ st h=>wpAny_pyIter_rangeiter st h
section
variable{X:Cx}{tg:Expr}
inductive ziy(K:Frag)(R:It->Hp->Prop)(x:V)(H1:Hp):Prop where
 | mk(a)(_:x=.ref a)(_:(∃ xs,SqL K H1 a xs))(_:R (Itl K a) H1)
def zer(K:Frag)(tl:TE):TI:=fun σ H R=>tl σ H fun x H1=>ziy K R x H1
theorem zg0{l:Expr}{tl:TE}(hl:PE X l tl):PI X tg l (zer X.K tl):=by
 intro pins s σ H R I h;refine thn (hl pins s σ H _ I h) fun v s1 ⟨x,H1,I1,r1,q1⟩=>?_;obtain⟨a,e,⟨xs,hq⟩,q⟩:=q1;subst e;cases r1;obtain⟨its,rv,p,hz⟩:=I1.list hq;refine wpAny_pyIter_list p.isList ?_;refine⟨s1.heap.objs.size,[s1.heap.objs.size],_,_,H1,rfl,I1.kept (t':=s1.toks) fun b o e=>Heap.get?_push_of_some _ e,zcz a _,⟨_,Heap.get?_push_size _ rfl,rfl,rfl⟩,fun b hb=>?_,q⟩;have e:b=s1.heap.objs.size:=by simpa using hb
 subst e;exact I1.fpOk (zvd _) (I1.hok.fresh (zvd _))
theorem C3{pins:#[h]}{σ:St}{H:Hp}{s:Shared}{R:It->Hp->Prop}{E:Value->Shared->Prop}{lo hi:Int}{t u v:Tok}{tk:Nat}(I:#[d])(h1:-(2 ^ 62)<=lo)(h2:lo<2 ^ 62)(h3:-(2 ^ 62)<=hi)(h4:hi<2 ^ 62)
  (q:R (Itr lo (hi-lo).toNat) H):wpAny (model X.prog X.w) X.A (pyIter (.ref s.heap.objs.size)) (PIE X pins σ tg R) E { s with heap:=s.heap.push { cls:=.type "range",data:=.fields #[.int lo t,.int hi u,.int 1 v] },toks:=tk }:=by
 refine wpAny_pyIter_range (IsRange.new ..) (small_one h1 h2 h3 h4) ?_;have I1:Inv X pins σ H { s with heap:=s.heap.push { cls:=.type "range",data:=.fields #[.int lo t,.int hi u,.int 1 v] },toks:=tk }:=I.kept fun b o e=>Heap.get?_push_of_some _ e;refine⟨(s.heap.push { cls:=.type "range",data:=.fields #[.int lo t,.int hi u,.int 1 v] }).objs.size,[(s.heap.push { cls:=.type "range",data:=.fields #[.int lo t,.int hi u,.int 1 v] }).objs.size],_,_,H,rfl,
  I1.kept (t':=tk) fun b o e=>Heap.get?_push_of_some _ e,zae _ lo (hi-lo).toNat,?_,fun b hb=>?_,q⟩
 ·have e1:lo+((0:Nat):Int)*1=lo:=by simp
  have e2:(((hi-lo).toNat:Nat):Int)-((0:Nat):Int)=Builtin.Range.rangeSize lo hi 1:=by rw[rangeSize_one];split<;>omega
  show IsRangeIter _ _ (lo+((0:Nat):Int)*1) ((((hi-lo).toNat:Nat):Int)-((0:Nat):Int)) 1;rw[e1,e2];exact Heap.get?_push_size _ rfl
 ·have e:b=(s.heap.push { cls:=.type "range",data:=.fields #[.int lo t,.int hi u,.int 1 v] }).objs.size:=by simpa using hb
  subst e;exact I1.fpOk (zvd _) (I1.hok.fresh (zvd _))
def zkf(ta:TA):TI:=fun σ H R=>ta σ H fun vs H1=>∃ j:Int,vs=[.int j]/\-(2 ^ 62)<=j/\j<2 ^ 62/\R (Itr 0 j.toNat) H1
def zkg(ta:TA):TI:=fun σ H R=>ta σ H fun vs H1=>∃ i j:Int,vs=[.int i,.int j]/\(-(2 ^ 62)<=i/\i<2 ^ 62/\-(2 ^ 62)<=j/\j<2 ^ 62)/\R (Itr i (j-i).toNat) H1
theorem Y3{a:Expr}{ta:TA}{p pos:Pos}(hg:Gl X "range")(hm:X.mg "range"=none)(ha:PA X [a] ta)(hs:starEach [a] X.env=[(false,eval a X.env)]:=by rfl):PI X tg (.Call (.Name "range" p) [a] [] pos) (zkf ta):=by
 intro pins s σ H R I h;refine Call_ (Ol I hg hm boot_range (PyProof.Rows.callWith_type1 (thn (ha pos pins s σ H _ I h) fun us s1 ⟨vs,H1,I1,r1,q1⟩=>?_) hs rfl));obtain⟨j,e,q1,q2,q⟩:=q1;subst e;cases r1 with
 | cons r rr =>
   cases rr;obtain⟨t,rfl⟩:=r;exact call_range_1 (C3 I1 ⋯ ⋯ q1 q2 (by simpa using q))
theorem Ec(hg:Gl X "range")(hm:X.mg "range"=none)(ha:PA X [a,b] ta)(hs:starEach [a,b] X.env=[(false,eval a X.env),(false,eval b X.env)]:=by rfl)(hs2:starEach [b] X.env=[(false,eval b X.env)]:=by rfl) :
  PI X tg (.Call (.Name "range" p) [a,b] [] pos) (zkg ta):=by
 intro pins s σ H R I h;refine Call_ (Ol I hg hm boot_range (PyProof.Rows.callWith_type1 (thn (ha pos pins s σ H _ I h) fun us s1 ⟨vs,H1,I1,r1,q1⟩=>?_) (by rw[hs,hs2]) (by rw[hs2];rfl)));obtain⟨i,j,e,⟨q1,q2,q3,q4⟩,q⟩:=q1;subst e;cases r1 with
 | cons r rr =>
   cases rr with
   | cons r' rr =>
     cases rr;obtain⟨t,rfl⟩:=r;obtain⟨t',rfl⟩:=r';exact call_range_2 (C3 I1 q1 q2 q3 q4 q)
def zes(wi:TI)(g:TG)(tb:TS):TS:=fun D σ H=>wi σ H fun J H1=>∃ W:Nat->Nat->St->Hp->Prop,(∃ m,W 0 m σ H1)/\∀ i m σ H,W i m σ H ->
 (J.stop i H/\D.nx σ H)\/(J.go i H/\∃ N:St->Hp->Prop,(∀ σ' H',N σ' H'->∃ m',m' < m/\W (i+1) m' σ' H')/\∀ x H',J.yld i H x H'->g x σ H' fun σ2 H2=>tb { D with nx:=N,ct:=N,bk:=D.nx } σ2 H2)
def Mu(fp:List Addr)(h:Heap):#[h]:=fp.filterMap fun b=>(h.get? b).map fun o=>(b,o)
theorem Rt(hb:b∈fp)(e:h.get? b=some o):(b,o)∈Mu fp h:=zwv.mpr ⟨b,hb,by rw[e];rfl⟩
theorem zc0(hp:p∈Mu fp h):p.1∈fp/\h.get? p.1=some p.2:=by
 obtain⟨b,hb,e⟩:=zwv.mp hp;cases q:h.get? b with
 | none=>rw[q] at e;cases e
 | some o =>
   rw[q] at e;have e':(b,o)=p:=Option.some.inj e;subst e';exact⟨hb,q⟩
theorem Inv.pinned(I:#[d])(hf:∀ b∈fp,FpOk X pins H b)(ho:∀ b∈fp,∃ o,s.heap.get? b=some o/\∀ v,o.data≠.cell v):Inv X (pins++Mu fp s.heap) σ H s :=
 I.pins_of fun p hp=>(zve.mp hp).elim (fun z=>I.pin p (zvr _ z)) fun z=>by
  obtain⟨hb,e⟩:=zc0 z;obtain⟨f0,f1,f2,_⟩:=hf p.1 hb;obtain⟨o,e',d⟩:=ho p.1 hb;rw[e] at e';cases e';exact⟨e,f0,f1,f2,d⟩
theorem Inv.unpinned(I:Inv X (pins++pl) σ H s):#[d]:=I.pins_of fun p hp=>I.pin p (zvr _ (zvq _ hp))
theorem Ys(hp:PassesOwn (model X.prog X.w) X.A X.env X.xe)(hc:X.calm=true)(hi:PI X tg iter wi)(hg:PG X tg g)(hb:PSs X body tb)
  (hs:∀ x,foldedSetIterable iter X.env x=pure x:=by intro _;rfl):PS X (.For tg iter body [] pos) (zes wi g tb):=by
 intro pins s σ H D I h;refine wpAny_For (thn (hi pins s σ H _ I h) fun v s1 h1=>thn h1 fun itv s2 h2=>?_) hs;obtain⟨it,fp,tn,J,H2,e,I2,T,st2,f2,W,⟨m0,w0⟩,turn⟩:=h2;subst e;have stat:∀ {H':Hp},(∀ b∈fp,H' b=none)->∀ b∈fp,FpOk X pins H' b:=fun hn b hb=>⟨hn b hb,(f2 b hb).2⟩
 refine codeAny_forLoop_any (fun n s'=>∃ i σ' H',Inv X pins σ' H' s'/\tn i s'.heap/\(∀ b∈fp,H' b=none)/\W i n σ' H') ?_ m0 ⟨0,σ,H2,I2,st2,fun b hb=>(f2 b hb).1,w0⟩;rintro n s3 ⟨i,σ3,H3,I3,st3,fr3,w3⟩;rcases turn i n σ3 H3 w3 with ⟨stop,qn⟩|⟨go,N,hN,step⟩
 ·refine wpAny_passesOwn hp (thn (T.done X rfl rfl rfl hc i pins s3 σ3 H3 X.xe I3 (stat fr3) st3 stop) fun r s4 ⟨hr,I4⟩=>?_);subst hr;exact wpAny_execs_nil ⟨σ3,H3,I4,qn⟩
 ·refine wpAny_passesOwn hp (thn (T.item X rfl rfl rfl hc i pins s3 σ3 H3 X.xe I3 (stat fr3) st3 go) fun r s4 ⟨u,hr,h4⟩=>?_);subst hr;refine wpAny_passesOwn hp (thn h4 fun _ s5 ⟨x,H5,I5,r5,y5,st5,fr5⟩=>?_);have I5':=I5.pinned (stat fr5) (T.obj _ _ st5);refine wpAny_passesOwn hp (thn (hg _ s5 σ3 H5 x u _ I5' r5 (step x H5 y5)) fun _ s6 ⟨σ6,H6,I6,q6⟩=>?_);refine wpAny_passesOwn hp (thn (hb _ s6 σ6 H6 _ I6 q6) fun f s7 q7=>?_);have again:∀ {σ7:St} {H7:Hp},Inv X (pins++Mu fp s5.heap) σ7 H7 s7->N σ7 H7->∃ m,m<n/\∃ i σ' H',Inv X pins σ' H' s7/\tn i s7.heap/\(∀ b∈fp,H' b=none)/\W i m σ' H':=fun {σ7 H7} I7 n7=>by
   obtain⟨m',hm,w7⟩:=hN σ7 H7 n7;refine⟨m',hm,i+1,σ7,H7,I7.unpinned,T.keep _ _ _ st5 fun b hb o e=>(I7.pin (b,o) (zvr _ (zvr _ (Rt hb e)))).1,fun b hb=>?_,w7⟩;obtain⟨o,e,d⟩:=T.obj _ _ st5 b hb;exact(I7.pin (b,o) (zvr _ (zvr _ (Rt hb e)))).2.1
  cases f with
  | next=>obtain⟨σ7,H7,I7,n7⟩:=q7;exact again I7 n7
  | cont=>obtain⟨σ7,H7,I7,n7⟩:=q7;exact again I7 n7
  | brk=>obtain⟨σ7,H7,I7,q7⟩:=q7;exact⟨σ7,H7,I7.unpinned,q7⟩
  | ret v=>obtain⟨x7,σ7,H7,I7,r7,q7⟩:=q7;exact⟨x7,σ7,H7,I7.unpinned,r7,q7⟩
end
theorem Xn{K:Frag}{a:Addr}{xs:#[b]}{g:TG}{tb:TS}{D:P5}{σ:St}{H:Hp}(Pv:Nat->St->Hp->Prop)(h0:Pv 0 σ H)(hl:∀ i σ H,i<=xs.length->Pv i σ H->SqL K H a xs)
  (hs:∀ i x σ H,xs[i]?=some x->Pv i σ H->g x σ H fun σ2 H2=>tb { D with nx:=Pv (i+1),ct:=Pv (i+1),bk:=D.nx } σ2 H2) (hd:∀ σ H,Pv xs.length σ H->D.nx σ H) :
  ∃ W:Nat->Nat->St->Hp->Prop,(∃ m,W 0 m σ H)/\∀ i m σ H,W i m σ H ->
    ((Itl K a).stop i H/\D.nx σ H)\/((Itl K a).go i H/\∃ N:St->Hp->Prop,(∀ σ' H',N σ' H'->∃ m',m' < m/\W (i+1) m' σ' H')/\∀ x H',(Itl K a).yld i H x H'->g x σ H' fun σ2 H2=>tb { D with nx:=N,ct:=N,bk:=D.nx } σ2 H2):=by
 refine⟨fun i m σ H=>m=xs.length-i/\i<=xs.length/\Pv i σ H,⟨xs.length,by simp,zvw _,h0⟩,?_⟩;rintro i m σ H ⟨rfl,hi,p⟩;have q:=hl i σ H hi p;by_cases hlt:i<xs.length
 ·refine .inr ⟨⟨xs,xs[i],q,by simp[hlt]⟩,Pv (i+1),fun σ' H' p'=>⟨xs.length-(i+1),by omega,rfl,hlt,p'⟩,fun x H' y=>?_⟩;obtain⟨e,y⟩:=y;subst e;exact hs i x σ _ (y xs q) p
 ·have e:i=xs.length:=by omega
  subst e;exact .inl ⟨⟨xs,q,zvd _⟩,hd σ H p⟩
theorem Xu{lo:Int}{n:Nat}{g:TG}{tb:TS}{D:P5}{σ:St}{H:Hp}(Pv:Nat->St->Hp->Prop)(h0:Pv 0 σ H)
  (hs:∀ i σ H,i<n->Pv i σ H->g (.int (lo+i)) σ H fun σ2 H2=>tb { D with nx:=Pv (i+1),ct:=Pv (i+1),bk:=D.nx } σ2 H2) (hd:∀ σ H,Pv n σ H->D.nx σ H) :
  ∃ W:Nat->Nat->St->Hp->Prop,(∃ m,W 0 m σ H)/\∀ i m σ H,W i m σ H ->
    ((Itr lo n).stop i H/\D.nx σ H)\/((Itr lo n).go i H/\∃ N:St->Hp->Prop,(∀ σ' H',N σ' H'->∃ m',m' < m/\W (i+1) m' σ' H')/\∀ x H',(Itr lo n).yld i H x H'->g x σ H' fun σ2 H2=>tb { D with nx:=N,ct:=N,bk:=D.nx } σ2 H2):=by
 refine⟨fun i m σ H=>m=n-i/\i<=n/\Pv i σ H,⟨n,by simp,zvw _,h0⟩,?_⟩;rintro i m σ H ⟨rfl,hi,p⟩;by_cases hlt:i<n
 ·refine .inr ⟨hlt,Pv (i+1),fun σ' H' p'=>⟨n-(i+1),by omega,rfl,hlt,p'⟩,fun x H' y=>?_⟩;obtain⟨e,y⟩:=y;subst e y;exact hs i σ _ hlt p
 ·have e:i=n:=by omega
  subst e;exact .inl ⟨zvd _,hd σ H p⟩
abbrev R2:=V->V->Hp->VK->Prop
def OpR(X:Cx)(f:Value->Value->Sem Value)(r:R2):Prop :=
 ∀ (pins:#[h]) (s:Shared) (σ:St) (H:Hp) (x y:V) (v u:Value) (Q:VK),#[d]->RelV x v->RelV y u->r x y H Q ->
   wpAny (model X.prog X.w) X.A (f v u) (EP X pins σ Q) X.xe s
def UnR(X:Cx)(f:Value->Sem Value)(r:V->Hp->VK->Prop):Prop :=
 ∀ (pins:#[h]) (s:Shared) (σ:St) (H:Hp) (x:V) (v:Value) (Q:VK),#[d]->RelV x v->r x H Q ->
   wpAny (model X.prog X.w) X.A (f v) (EP X pins σ Q) X.xe s
def Vs(X:Cx)(f:Value)(r:#[b]->Hp->VK->Prop):Prop :=
 ∀ (pins:#[h]) (s:Shared) (σ:St) (H:Hp) (xs:#[b]) (us:List Value) (Q:VK),#[d]->Vals xs us->r xs H Q ->
   wpAny (model X.prog X.w) X.A (call f us) (EP X pins σ Q) X.xe s
def zll(X:Cx)(r:V->Hp->(Bool->Hp->Prop)->Prop):Prop :=
 ∀ (pins:#[h]) (s:Shared) (σ:St) (H:Hp) (x:V) (v:Value) (Q:Bool->Hp->Prop),#[d]->RelV x v->r x H Q ->
   wpAny (model X.prog X.w) X.A (truthy v) (TP X pins σ Q) X.xe s
def tOp(r:R2)(ta tb:TE):TE:=fun σ H Q=>ta σ H fun x H1=>tb σ H1 fun y H2=>r x y H2 Q
def tUn(r:V->Hp->VK->Prop)(ta:TE):TE:=fun σ H Q=>ta σ H fun x H1=>r x H1 Q
inductive rI(C:Int->Int->Prop)(g:Int->Int->V)(x:V)(y:V)(H:Hp)(Q:VK):Prop where
 | mk(i)(j)(_:x=.int i)(_:y=.int j)(_:C i j/\Q (g i j) H)
inductive rI0(g:Int->Int->V)(x:V)(y:V)(H:Hp)(Q:VK):Prop where
 | mk(i)(j)(_:x=.int i)(_:y=.int j)(_:Q (g i j) H)
inductive rU(g:Int->V)(x:V)(H:Hp)(Q:VK):Prop where
 | mk(i)(_:x=.int i)(_:Q (g i) H)
section
variable{X:Cx}{a b c:Expr}{ta tb tc:TE}{pos:Pos}
theorem binT(ha:PE X a ta)(hb:PE X b tb){pins:#[h]}{s:Shared}{σ:St}{H:Hp}{R:V->V->Hp->Prop}(I:#[d])
  (h:ta σ H fun x H1=>tb σ H1 fun y H2=>R x y H2) {Q:Value->Shared->Prop} {f:Value->Value->Sem Value}
  (hf:∀ v u s2 x y H2,Inv X pins σ H2 s2->RelV x v->RelV y u->R x y H2->wpAny (model X.prog X.w) X.A (f v u) Q X.xe s2) :
  wpAny (model X.prog X.w) X.A (eval a X.env) (fun v s₁=>wpAny (model X.prog X.w) X.A (eval b X.env) (fun u s₂=>wpAny (model X.prog X.w) X.A (f v u) Q X.xe s₂) X.xe s₁) X.xe s:=by
 refine thn (ha pins s σ H _ I h) fun v s1 ⟨x,H1,I1,r1,q1⟩=>?_;refine thn (hb pins s1 σ H1 _ I1 q1) fun u s2 ⟨y,H2,I2,r2,q2⟩=>?_;exact hf v u s2 x y H2 I2 r1 r2 q2
theorem Zu{op:Operator}{r:R2}(ho:OpR X (binaryOp op) r)(ha:PE X a ta)(hb:PE X b tb):PE X (.BinOp a op b pos) (tOp r ta tb):=by
 intro pins s σ H Q I h;exact wpAny_BinOp (binT ha hb I h fun v u s2 x y H2 I2 rx ry q=>ho pins s2 σ H2 x y v u Q I2 rx ry q)
theorem Ka(ho:UnR X (unaryOp op) r)(ha:PE X a ta):PE X (.UnaryOp op a pos) (tUn r ta):=by
 intro pins s σ H Q I h;exact UnaryOp_ (thn (ha pins s σ H _ I h) fun v s1 ⟨x,H1,I1,r1,q1⟩=>ho pins s1 σ H1 x v Q I1 r1 q1)
theorem opI{f:Value->Value->Sem Value}{C:Int->Int->Prop}{g:Int->Int->Int}
  (rule:∀ (i j:Int) (t u:Tok) (s:Shared) (Q:Value->Shared->Prop) (E:Value->Shared->Prop),C i j->Q (.int (g i j) s.toks) { s with toks:=s.toks+1 }->wpAny (model X.prog X.w) X.A (f (.int i t) (.int j u)) Q E s) :
  OpR X f (rI C fun i j=>.int (g i j)):=by
 intro pins s σ H x y v u Q I rx ry h;obtain⟨i,j,rfl,rfl,hc,q⟩:=h;obtain⟨t,rfl⟩:=rx;obtain⟨t',rfl⟩:=ry;exact rule i j t t' s _ _ hc ⟨.int (g i j),H,I.tok _,⟨_,rfl⟩,q⟩
theorem zkh{f:Value->Value->Sem Value}{g:Int->Int->Int}
  (rule:∀ (i j:Int) (t u:Tok) (s:Shared) (Q:Value->Shared->Prop) (E:Value->Shared->Prop),Q (.int (g i j) s.toks) { s with toks:=s.toks+1 }->wpAny (model X.prog X.w) X.A (f (.int i t) (.int j u)) Q E s) :
  OpR X f (rI0 fun i j=>.int (g i j)):=by
 intro pins s σ H x y v u Q I rx ry h;obtain⟨i,j,rfl,rfl,q⟩:=h;obtain⟨t,rfl⟩:=rx;obtain⟨t',rfl⟩:=ry;exact rule i j t t' s _ _ ⟨.int (g i j),H,I.tok _,⟨_,rfl⟩,q⟩
theorem zg1{f:Value->Value->Sem Value}{g:Int->Int->Bool}
  (rule:∀ (i j:Int) (t u:Tok) (s:Shared) (Q:Value->Shared->Prop) (E:Value->Shared->Prop),Q (.bool (g i j)) s->wpAny (model X.prog X.w) X.A (f (.int i t) (.int j u)) Q E s) :
  OpR X f (rI0 fun i j=>.bl (g i j)):=by
 intro pins s σ H x y v u Q I rx ry h;obtain⟨i,j,rfl,rfl,q⟩:=h;obtain⟨t,rfl⟩:=rx;obtain⟨t',rfl⟩:=ry;exact rule i j t t' s _ _ ⟨.bl (g i j),H,I,rfl,q⟩
def CDiv(i j:Int):Prop:=0<j/\j<1073741824
def CMul(i j:Int):Prop:=(-(2 ^ 64)<i/\i<2 ^ 64)\/(-(2 ^ 64)<j/\j<2 ^ 64)
theorem CMul.ok(h:CMul i j):IntMulOk i j:=by
 rcases h with ⟨h1,h2⟩|⟨h1,h2⟩
 ·exact .of_left (intBits_le_64 h1 h2)
 ·exact .of_right (intBits_le_64 h1 h2)
theorem Yt:OpR X (binaryOp .Add) (rI0 fun i j=>.int (i+j)):=zkh fun _ _ _ _ _ _ _ q=>add_int q
theorem Sl:OpR X (binaryOp .Sub) (rI0 fun i j=>.int (i-j)):=zkh fun _ _ _ _ _ _ _ q=>sub_int q
theorem Qv:OpR X (binaryOp .Mult) (rI CMul fun i j=>.int (i*j)):=opI fun _ _ _ _ _ _ _ hc q=>mul_int q hc.ok
theorem Xj:OpR X (binaryOp .FloorDiv) (rI CDiv fun i j=>.int (i/j)):=opI fun i j _ _ _ _ _ hc q=>by
 have h1:(0:Int)<j:=hc.1;have h2:j<1073741824:=hc.2;exact floordiv_int ⋯ (by rw[Int.fdiv_eq_ediv_of_nonneg i ⋯];exact q) (.inl (PyProof.noPylong_small ⋯))
theorem Yz:OpR X (binaryOp .Mod) (rI (fun _ j=>0<j) fun i j=>.int (i%j)):=opI fun i j _ _ _ _ _ hc q=>by
 have h1:(0:Int)<j:=hc;exact mod_int' ⋯ (by rw[Int.fmod_eq_emod_of_nonneg i ⋯];exact q)
theorem unI{f:Value->Sem Value}{g:Int->Int}
  (rule:∀ (i:Int) (t:Tok) (s:Shared) (Q:Value->Shared->Prop) (E:Value->Shared->Prop),Q (.int (g i) s.toks) { s with toks:=s.toks+1 }->wpAny (model X.prog X.w) X.A (f (.int i t)) Q E s) :
  UnR X f (rU fun i=>.int (g i)):=by
 intro pins s σ H x v Q I rx h;obtain⟨i,rfl,q⟩:=h;obtain⟨t,rfl⟩:=rx;exact rule i t s _ _ ⟨.int (g i),H,I.tok _,⟨_,rfl⟩,q⟩
theorem Qw:UnR X (unaryOp .USub) (rU fun i=>.int (-i)):=unI fun _ _ _ _ _ q=>neg_int q
end
def zki:V->V->Bool
 | .non,.non=>true|.non,.int _=>true|.int _,.non=>true|.non,.bl _=>true|.bl _,.non=>true|.non,.str _=>true|.str _,.non=>true
 | .int _,.int _=>true|.bl _,.bl _=>true|.str _,.str _=>true|.byt _,.byt _=>true
 | .int _,.str _=>true|.str _,.int _=>true|.bl _,.str _=>true|.str _,.bl _=>true
 | _,_=>false
inductive rEq(x:V)(y:V)(H:Hp)(Q:VK):Prop where
 | mk(_:zki x y=true)(_:Q (.bl (decide (x=y))) H)
inductive rNe(x:V)(y:V)(H:Hp)(Q:VK):Prop where
 | mk(_:zki x y=true)(_:Q (.bl (!decide (x=y))) H)
theorem zbs:decide (V.int i=V.int j)=(i == j):=by
 rw[zxb];simp
theorem zet:decide (V.bl i=V.bl j)=(i == j):=by
 rw[zxb];simp
theorem zbt:decide (V.str i=V.str j)=(i == j):=by
 rw[zxb];simp
theorem zbu:decide (V.byt i=V.byt j)=(i.toList == j.toList):=by
 rw[zxb];cases i;cases j;simp
section
variable{X:Cx}{a b c:Expr}{ta tb tc:TE}{pos:Pos}
theorem Yn(I:#[d])(q:Q (.bl k) H)(e:k=k'):EP X pins σ Q (.bool k') s:=by
 subst e;exact⟨.bl k,H,I,rfl,q⟩
theorem X8:OpR X (compareOp .Eq) rEq:=by
 intro pins s σ H x y v u Q I rx ry h;obtain⟨hs,q⟩:=h;cases x with
 | non =>
   cases rx;cases y with
   | non=>cases ry;exact PySem.EqNone.eq_none_none (Yn I q (by simp))
   | bl j=>cases ry;exact PySem.EqNone.eq_none_bool (Yn I q (by simp))
   | int j=>obtain⟨t',rfl⟩:=ry;exact PySem.EqNone.eq_none_int (Yn I q (by simp))
   | str j=>obtain⟨t',rfl⟩:=ry;exact PySem.EqNone.eq_none_str (Yn I q (by simp))
   | _=>exact absurd (show false=true from hs) zvo
 | bl i =>
   cases rx;cases y with
   | non=>cases ry;exact PySem.EqNone.eq_bool_none (Yn I q (by simp))
   | bl j=>cases ry;exact eq_bool (Yn I q zet)
   | str j=>obtain⟨t',rfl⟩:=ry;exact PySem.EqMixed.eq_bool_str (Yn I q (by simp))
   | _=>exact absurd (show false=true from hs) zvo
 | int i =>
   obtain⟨t,rfl⟩:=rx;cases y with
   | non=>cases ry;exact PySem.EqNone.eq_int_none (Yn I q (by simp))
   | int j=>obtain⟨t',rfl⟩:=ry;exact eq_int (Yn I q zbs)
   | str j=>obtain⟨t',rfl⟩:=ry;exact PySem.EqMixed.eq_int_str (Yn I q (by simp))
   | _=>exact absurd (show false=true from hs) zvo
 | str i =>
   obtain⟨t,rfl⟩:=rx;cases y with
   | non=>cases ry;exact PySem.EqNone.eq_str_none (Yn I q (by simp))
   | bl j=>cases ry;exact PySem.EqMixed.eq_str_bool (Yn I q (by simp))
   | int j=>obtain⟨t',rfl⟩:=ry;exact PySem.EqMixed.eq_str_int (Yn I q (by simp))
   | str j=>obtain⟨t',rfl⟩:=ry;exact eq_str (Yn I q zbt)
   | _=>exact absurd (show false=true from hs) zvo
 | byt i =>
   obtain⟨t,rfl⟩:=rx;cases y with
   | byt j=>obtain⟨t',rfl⟩:=ry;exact PySem.W.eq_bytes (Yn I q zbu)
   | _=>exact absurd (show false=true from hs) zvo
 | _=>cases y<;>exact absurd (show false=true from hs) zvo
theorem Kb:OpR X (compareOp .NotEq) rNe:=by
 intro pins s σ H x y v u Q I rx ry h;obtain⟨hs,q⟩:=h;cases x with
 | non =>
   cases rx;cases y with
   | non=>cases ry;exact PySem.EqNone.ne_none_none (Yn I q (by simp))
   | bl j=>cases ry;exact PySem.EqNone.ne_none_bool (Yn I q (by simp))
   | int j=>obtain⟨t',rfl⟩:=ry;exact PySem.EqNone.ne_none_int (Yn I q (by simp))
   | str j=>obtain⟨t',rfl⟩:=ry;exact PySem.EqNone.ne_none_str (Yn I q (by simp))
   | _=>exact absurd (show false=true from hs) zvo
 | bl i =>
   cases rx;cases y with
   | non=>cases ry;exact PySem.EqNone.ne_bool_none (Yn I q (by simp))
   | bl j=>cases ry;exact ne_bool (Yn I q (congrArg not zet))
   | str j=>obtain⟨t',rfl⟩:=ry;exact PySem.EqMixed.ne_bool_str (Yn I q (by simp))
   | _=>exact absurd (show false=true from hs) zvo
 | int i =>
   obtain⟨t,rfl⟩:=rx;cases y with
   | non=>cases ry;exact PySem.EqNone.ne_int_none (Yn I q (by simp))
   | int j=>obtain⟨t',rfl⟩:=ry;exact ne_int (Yn I q (congrArg not zbs))
   | str j=>obtain⟨t',rfl⟩:=ry;exact PySem.EqMixed.ne_int_str (Yn I q (by simp))
   | _=>exact absurd (show false=true from hs) zvo
 | str i =>
   obtain⟨t,rfl⟩:=rx;cases y with
   | non=>cases ry;exact PySem.EqNone.ne_str_none (Yn I q (by simp))
   | bl j=>cases ry;exact PySem.EqMixed.ne_str_bool (Yn I q (by simp))
   | int j=>obtain⟨t',rfl⟩:=ry;exact PySem.EqMixed.ne_str_int (Yn I q (by simp))
   | str j=>obtain⟨t',rfl⟩:=ry;exact ne_str (Yn I q (congrArg not zbt))
   | _=>exact absurd (show false=true from hs) zvo
 | byt i =>
   obtain⟨t,rfl⟩:=rx;cases y with
   | byt j=>obtain⟨t',rfl⟩:=ry;exact PySem.W.ne_bytes (Yn I q (congrArg not zbu))
   | _=>exact absurd (show false=true from hs) zvo
 | _=>cases y<;>exact absurd (show false=true from hs) zvo
theorem C4:OpR X (compareOp .Lt) (rI0 fun i j=>.bl (decide (i<j))):=zg1 fun _ _ _ _ _ _ _ q=>lt_int q
theorem zeu:OpR X (compareOp .LtE) (rI0 fun i j=>.bl (decide (i<=j))):=zg1 fun _ _ _ _ _ _ _ q=>le_int q
theorem T8:OpR X (compareOp .Gt) (rI0 fun i j=>.bl (decide (j<i))):=zg1 fun _ _ _ _ _ _ _ q=>gt_int q
theorem zew:OpR X (compareOp .GtE) (rI0 fun i j=>.bl (decide (j<=i))):=zg1 fun _ _ _ _ _ _ _ q=>ge_int q
theorem Oq:OpR X (compareOp .Is) fun x y H Q=>y=.non/\Q (.bl (decide (x=.non))) H:=by
 intro pins s σ H x y v u Q I rx ry h;obtain⟨rfl,q⟩:=h;cases ry;refine is_none_gen (Yn I q ?_);cases x<;>first
  | (cases rx;rfl)
  | (obtain⟨t,rfl⟩:=rx;rfl)
theorem Ur:OpR X (compareOp .IsNot) fun x y H Q=>y=.non/\Q (.bl (!decide (x=.non))) H:=by
 intro pins s σ H x y v u Q I rx ry h;obtain⟨rfl,q⟩:=h;cases ry;refine isnot_none_gen (Yn I q ?_);cases x<;>first
  | (cases rx;rfl)
  | (obtain⟨t,rfl⟩:=rx;rfl)
theorem Zt(b:Expr)(h:op≠.In:=by decide)(h2:op≠.NotIn:=by decide):behindInMarks op b=false:=by
 have e1:(op == CmpOp.In)=false:=by cases op<;>first|rfl|exact absurd rfl h
 have e2:(op == CmpOp.NotIn)=false:=by cases op<;>first|rfl|exact absurd rfl h2
 cases b<;>simp[behindInMarks,e1,e2]
theorem U5{op:CmpOp}{r:R2}(ho:OpR X (compareOp op) r)(ha:PE X a ta)(hb:PE X b tb)(hm:behindInMarks op b=false):PE X (.Compare a [op] [b] pos) (tOp r ta tb):=by
 intro pins s σ H Q I h;exact wpAny_Compare1 (binT ha hb I h fun v u s2 x y H2 I2 rx ry q=>ho pins s2 σ H2 x y v u Q I2 rx ry q) hm
def zh7(t:TE):TT:=fun σ H Q=>t σ H fun x H'=>∃ k,x=.bl k/\Q k H'
theorem Zo(ho:OpR X (compareOp op) r)(ha:PE X a ta)(hb:PE X b tb)(hm:behindInMarks op b=false):PT X (.Compare a [op] [b] pos) (zh7 (tOp r ta tb)):=by
 intro pins s σ H Q I h;refine wpAny_isTrue_Compare1 (thn (ha pins s σ H _ I h) fun v s1 ⟨x,H1,I1,r1,q1⟩=>thn (hb pins s1 σ H1 _ I1 q1) fun u s2 ⟨y,H2,I2,r2,q2⟩ =>
  thn (ho pins s2 σ H2 x y v u _ I2 r1 r2 q2) fun c s3 ⟨z,H3,I3,r3,k,e,q3⟩=>?_) hm
 subst e;cases r3;exact wpAny_truthy_bool ⟨H3,I3,q3⟩
def TruV(K:Frag)(x:V)(H:Hp)(k:Bool):Prop :=
 match x with
 | .non=>k=false
 | .bl b=>k=b
 | .int i=>k=(i != 0)
 | .str y=>y.length<=sizeLine/\k=((y.length:Int) != 0)
 | .byt y=>y.size<=sizeLine/\k=((y.size:Int) != 0)
 | .ref p=>(∃ xs,SqL K H p xs/\k=!xs.isEmpty)\/(∃ xs,SqT K H p xs/\k=!xs.isEmpty)\/∃ kvs,H p=#[a,.dK,kvs]/\k=!kvs.isEmpty
 | _=>False
theorem zaf(r:KV kvs vs):(!vs.isEmpty)=!kvs.isEmpty:=by
 cases r<;>rfl
theorem J1(r:Vals xs its):(!its.toArray.isEmpty)=!xs.isEmpty:=by
 cases r<;>simp
theorem Ot:(sizeLine:Nat)<2 ^ 63:=by rw[sizeLine_eq];decide
theorem ziz:zll X (fun x H Q=>∃ k,TruV X.K x H k/\Q k H):=by
 intro pins s σ H x v Q I rx h;obtain⟨k,e,q⟩:=h;have hl:=Ot;have hs:sizeLine=16777216:=sizeLine_eq;cases x with
 | non =>
   cases rx;have e':k=false:=e;subst e';exact truthy_none ⟨H,I,q⟩
 | bl b =>
   cases rx;have e':k=b:=e;subst e';exact wpAny_truthy_bool ⟨H,I,q⟩
 | int i =>
   obtain⟨t,rfl⟩:=rx;have e':k=(i != 0):=e;subst e';exact PySem.P.truthy_int ⟨H,I,q⟩
 | str y =>
   obtain⟨t,rfl⟩:=rx;obtain⟨hy,e'⟩:y.length<=sizeLine/\k=((y.length:Int) != 0):=e;subst e';exact PySem.P.truthy_str ⋯ ⟨H,I.tok _,q⟩
 | byt y =>
   obtain⟨t,rfl⟩:=rx;obtain⟨hy,e'⟩:y.size<=sizeLine/\k=((y.size:Int) != 0):=e;subst e';exact PySem.W.truthy_bytes ⋯ ⟨H,I.tok _,q⟩
 | ref p =>
   cases rx;have e':(∃ xs,SqL X.K H p xs/\k=!xs.isEmpty)\/(∃ xs,SqT X.K H p xs/\k=!xs.isEmpty)\/∃ kvs,H p=#[a,.dK,kvs]/\k=!kvs.isEmpty:=e;rcases e' with ⟨xs,hx,e'⟩|⟨xs,hx,e'⟩|⟨kvs,hx,e'⟩
   ·subst e';obtain⟨its,r,pl,hz⟩:=I.list hx;have hlen:=r.length;exact wpAny_truthy_list pl.isList (by simp only[zvi];omega) ⟨H,I.tok _,by rw[J1 r];exact q⟩
   ·subst e';obtain⟨its,r,pl,hz⟩:=I.tuple hx;have hlen:=r.length;exact truthy_tuple pl (by simp only[zvi];omega) ⟨H,I.tok _,by rw[J1 r];exact q⟩
   ·subst e';obtain⟨hz,hS,vs,r,m⟩:kvs.length<=sizeLine/\(p == sysModules)=false/\∃ vs,KV kvs vs/\s.heap.DictOf (Yj X.prog X.w) p vs:=I.hok p _ hx;have hlen:kvs.length=vs.length:=Paired.length r;exact wpAny_truthy_dict hS m ⋯ ⟨H,I.tok _,by rw[zaf r];exact q⟩
 | _=>exact(show False from e).elim
theorem zex(ha:PE X a ta)(he:∀ whole,isTrue a X.env whole=(do let v <- whole;standAt a.pos;holding [v] (truthy v))) :
  PT X a (fun σ H Q=>ta σ H fun x H'=>∃ k,TruV X.K x H' k/\Q k H'):=by
 intro pins s σ H Q I h;exact isTrue_plain (thn (ha pins s σ H _ I h) fun v s1 ⟨x,H1,I1,r1,q1⟩=>ziz pins s1 σ H1 x v Q I1 r1 q1) (he _)
theorem Qi(r:Vals [x] us):∃ u,us=[u]/\RelV x u:=by
 cases r with
 | cons r1 r2=>cases r2;exact⟨_,rfl,r1⟩
theorem zey(r:Vals [x,y] us):∃ u w',us=[u,w']/\RelV x u/\RelV y w':=by
 cases r with
 | cons r1 r2 =>
   cases r2 with
   | cons r3 r4=>cases r4;exact⟨_,_,rfl,r1,r3⟩
theorem Ed(hc:X.calm=true):Vs X (.builtin "max") (fun xs H Q=>∃ i j,xs=[.int i,.int j]/\Q (.int (if j>i then j else i)) H):=by
 intro pins s σ H xs us Q I r h;obtain⟨i,j,rfl,q⟩:=h;obtain⟨u,w',rfl,⟨t,rfl⟩,⟨t',rfl⟩⟩:=zey r;refine max_two_ints (I.ok.hd hc) fun h' tk k=>⟨_,H,I.kept k,?_,q⟩
 by_cases hj:j>i
 ·rw[if_pos hj,if_pos hj];exact⟨_,rfl⟩
 ·rw[if_neg hj,if_neg hj];exact⟨_,rfl⟩
theorem Ee(hc:X.calm=true):Vs X (.builtin "min") (fun xs H Q=>∃ i j,xs=[.int i,.int j]/\Q (.int (if j<i then j else i)) H):=by
 intro pins s σ H xs us Q I r h;obtain⟨i,j,rfl,q⟩:=h;obtain⟨u,w',rfl,⟨t,rfl⟩,⟨t',rfl⟩⟩:=zey r;refine min_two_ints (I.ok.hd hc) fun h' tk k=>⟨_,H,I.kept k,?_,q⟩
 by_cases hj:j<i
 ·rw[if_pos hj,if_pos hj];exact⟨_,rfl⟩
 ·rw[if_neg hj,if_neg hj];exact⟨_,rfl⟩
theorem zc1:Vs X (.type "int") (fun xs H Q=>(∃ i,xs=[.int i]/\Q (.int i) H)\/∃ k,xs=[.bl k]/\Q (.int (if k then 1 else 0)) H):=by
 intro pins s σ H xs us Q I r h;rcases h with ⟨i,rfl,q⟩|⟨k,rfl,q⟩
 ·obtain⟨u,rfl,t,rfl⟩:=Qi r;exact call_int_int ⟨.int i,H,I,⟨_,rfl⟩,q⟩
 ·obtain⟨u,rfl,r1⟩:=Qi r;cases r1;exact call_int_bool ⟨.int (if k then 1 else 0),H,I.tok _,⟨_,rfl⟩,q⟩
end
structure ObjM(h:Heap)(x dx C:Addr)(mA:Str->Option Value):Prop where
 obj:h.get? x=some (PySem.W.instObj C dx)
 ns:h.Ns1 dx mA
 ne:dx≠x
theorem zc2{h:Heap}{dx:Addr}{mA:Str->Option Value}(n:h.Ns1 dx mA):∃ od,h.get? dx=some od/\∀ name,PySem.W.lookIn name od=#[a,mA,name]:=by
 obtain⟨o,es,ep,ho,hd,hk,_,hm⟩:=n;refine⟨o,ho,fun name=>?_⟩;have e:=hm name;unfold nsFind findBy at e;rw[<- Array.find?_toList] at e;unfold PySem.W.lookIn;rw[hd];dsimp only;split
 ·rename_i y q;rw[q] at e;exact congrArg some e
 ·rename_i q;rw[q] at e;have a:es.toList.any (·.refKey)=false:=by
   rw[List.any_eq_false];intro y hy;obtain⟨z,t,hkey⟩:=hk y (Array.mem_toList_iff.mp hy);simp[DictEntry.refKey,hkey]
  have a':¬ es.toList.any (·.refKey)=true:=by rw[a];exact zvo
  rw[if_neg a'];exact congrArg some e
theorem ObjM.look(I:ObjM h x dx C mA):∃ od,PySem.W.InstAt h x (PySem.W.instObj C dx) C (some od)/\∀ name,PySem.W.lookIn name od=#[a,mA,name] :=
 let ⟨od,ho,hl⟩:=zc2 I.ns
 ⟨od,⟨I.obj,rfl,rfl,ho⟩,hl⟩
section
variable{prog:Program}{w:World}{A:Around}{E:Value->Shared->Prop}{s:Shared}{K:Frag}{x dx C f:Addr}{mA:Str->Option Value}{name:Str}{v:Value}
theorem zg2(X:K.In s.heap)(I:ObjM s.heap x dx C mA)(hg:PySem.W.plainGet K C name=true)(hh:PySem.W.hasDictIn K C=true)
  (ha:PySem.W.findIn K (.ref C) name=some none) (hv:mA name=some v) (hv':PySem.W.handedIn v=true) (h:Q v { s with toks:=s.toks+1 }) :
  wpAny (model prog w) A (getAttr (.ref x) name expr) Q E s:=by
 obtain⟨od,J,hl⟩:=I.look;exact PySem.W.get_value X J (PySem.W.plainGet_of hg).1 (PySem.W.findObj_own hh ha rfl (by rw[hl,hv])) hv' h
theorem zez(X:K.In s.heap)(I:ObjM s.heap x dx C mA)(hg:PySem.W.plainGet K C name=true)
  (hf:PySem.W.findIn K (.ref C) name=some #[c,f]) (ht:PySem.W.isFn K (.ref f)=true) (hv:mA name=none) (h:Q (.ref f,[.ref x]) s) :
  wpAny (model prog w) A (getMethod (.ref x) name pl) Q E s:=by
 obtain⟨od,J,hl⟩:=I.look;exact PySem.W.method_fn X J (PySem.W.plainGet_of hg).1 (PySem.W.plainGet_of hg).2 hf (beq_iff_eq.mp ht) (by show (PySem.W.lookIn name od).map (·.isSome)=some false;rw[hl,hv];rfl) h
theorem zg3(X:K.In s.heap)(I:ObjM s.heap x dx C mA)
  (hs:PySem.W.findIn K (.ref C) "__setattr__"=some #[a,.builtin,"object.__setattr__"]) (hp:PySem.W.plainOver K C=true) (ht:PySem.W.takerIn K C name=some none) (hh:PySem.W.hasDictIn K C=true)
  (hw:PySem.Within mA ns) (hsz:ns.length<=sizeLine)
  (h:∀ h',ObjM h' x dx C (fun y=>if y=name then some v else mA y)->Heap.SameBut dx s.heap h'->Q () { s with heap:=h',toks:=s.toks+2 }) :
  wpAny (model prog w) A (setAttr (.ref x) name v) Q E s:=by
 obtain⟨od,J,hl⟩:=I.look;refine PySem.W.set_plain X J hs (PySem.W.osa_open (s:={ s with toks:=s.toks+1 }) (r:=none) X J hp ht fun b=>?_);obtain⟨cd,hc,hd'⟩:=PySem.W.any_some hh;have hx:s.heap.get? x=some ⟨.ref C,some dx,.plain,#[]⟩:=I.obj;refine wpAny_bind (wpAny_pure (wpAny_bind (wpAny_bind (wpAny_loadPart hx (wpAny_bind (PySem.W.Looks.here (s:={ s with toks:=s.toks+1 }) (PySem.W.looks_clsIn X hc) ?_))))));rw[hd'];refine wpAny_pure (a:=some dx) (wpAny_bind (wpAny_pure (wpAny_bind ?_)));refine wpAny_nsSet1 (s:={ s with toks:=s.toks+1 }) I.ns fun h' hn2 hs2=>?_;obtain⟨oD,esD,epD,hoD,hdD,hcD⟩:=hn2.count (PySem.Within.cons name v hw);refine wpAny_bind (wpAny_lookBehind hoD (by rw[hdD];exact pastItsLine_dict (zvh hcD (by rw[zvp];omega))) ?_);exact wpAny_pure (h _ ⟨(hs2.2 _ (Ne.symm I.ne)).trans I.obj,hn2,I.ne⟩ hs2)
theorem ze0(X:K.In s.heap)(hm:PySem.W.makesIn K C=true)
  (hi:PySem.W.findIn K (.ref C) "__init__"=some #[c,f]) (hf:PySem.W.typeIn K (.ref f)=#[a,.type,"function"])
  (h:codeAny (model prog w) (A.under (.builtin "type.__call__" ⟨.ref C :: vs,kw⟩)) (.call (.ref f) ⟨.ref (s.heap.objs.size+1) :: vs,kw⟩) (PySem.W.InitBack (s.heap.objs.size+1) R)
   { s with heap:=(s.heap.push PySem.W.emptyDict).push (PySem.W.instObj C s.heap.objs.size) }) :
  codeAny (model prog w) A (.call (.ref C) ⟨vs,kw⟩) R s:=by
 obtain⟨hh,g,d,t,os⟩:=s;exact PySem.W.make_core (PySem.W.makes_of X hm) (PySem.W.looks_findIn X hi) (fun self=>PySem.W.bind_fn X self hf) (.inl rfl) h
end
def putF(f:Str)(v:V):List (Str×V)->List (Str×V)
 | []=>[(f,v)]
 | (g,x) :: r=>if g=f then (g,v) :: r else (g,x) :: putF f v r
theorem Kc(f g:Str)(v:V):∀ fs:List (Str×V),(putF f v fs).lookup g=if g=f then some v else fs.lookup g
 | []=>by
   show List.lookup g [(f,v)]=_;by_cases h:g=f
   ·have hb:(g == f)=true:=beq_iff_eq.mpr h;simp only[List.lookup,hb,if_pos h]
   ·have hb:(g == f)=false:=zvs.mpr h;simp only[List.lookup,hb,if_neg h]
 | (k,x) :: r=>by
   have ih:=Kc f g v r;rw[show putF f v ((k,x) :: r)=(if k=f then (k,v) :: r else (k,x) :: putF f v r) from rfl];by_cases hk:k=f
   ·rw[if_pos hk];by_cases h:g=k
    ·have hb:(g == k)=true:=beq_iff_eq.mpr h;simp only[List.lookup,hb,if_pos (h.trans hk)]
    ·have hb:(g == k)=false:=zvs.mpr h;simp only[List.lookup,hb,if_neg (fun e:g=f=>h (e.trans hk.symm))]
   ·rw[if_neg hk];by_cases h:g=k
    ·have hb:(g == k)=true:=beq_iff_eq.mpr h;simp only[List.lookup,hb,if_neg (fun e:g=f=>hk (h.symm.trans e))]
    ·have hb:(g == k)=false:=zvs.mpr h;simp only[List.lookup,hb];exact ih
theorem Mv(f:Str)(v:V):∀ fs:List (Str×V),f∈(putF f v fs).map (·.1)/\∀ g,g∈fs.map (·.1)->g∈(putF f v fs).map (·.1)
 | []=>⟨by simp[putF],fun g h=>by simp at h⟩
 | (k,x) :: r=>by
   obtain⟨i1,i2⟩:=Mv f v r;rw[show putF f v ((k,x) :: r)=(if k=f then (k,v) :: r else (k,x) :: putF f v r) from rfl];by_cases hk:k=f
   ·rw[if_pos hk];subst hk;exact⟨by simp,fun g h=>by simpa using h⟩
   ·rw[if_neg hk];refine⟨?_,fun g h=>?_⟩
    ·rw[zvg];exact zvm _ i1
    ·rw[zvg] at h ⊢;rcases zu7.mp h with e|e
     ·exact zu7.mpr (.inl e)
     ·exact zvm _ (i2 g e)
theorem Kd(f:Str)(v:V):∀ fs:List (Str×V),(putF f v fs).length<=fs.length+1
 | []=>by simp[putF]
 | (k,x) :: r=>by
   have ih:=Kd f v r;rw[show putF f v ((k,x) :: r)=(if k=f then (k,v) :: r else (k,x) :: putF f v r) from rfl];by_cases hk:k=f
   ·rw[if_pos hk,zvp,zvp];omega
   ·rw[if_neg hk,zvp,zvp];omega
theorem RelO.some_of(r:RelO (some v) o):∃ u,o=some u/\RelV v u:=by
 cases o with
 | none=>exact(show False from r).elim
 | some u=>exact⟨u,rfl,r⟩
theorem RelO.none_of(r:RelO none o):o=none:=by
 cases o with
 | none=>rfl
 | some u=>exact(show False from r).elim
theorem zc3(r:RelV v u):PySem.W.handedIn u=true:=by
 cases v with
 | non=>cases (show u=Value.none from r);rfl
 | bl b=>cases (show u=Value.bool b from r);rfl
 | int i=>obtain⟨t,e⟩:=(show ∃ t,u=Value.int i t from r);cases e;rfl
 | str x=>obtain⟨t,e⟩:=(show ∃ t,u=Value.str x t from r);cases e;rfl
 | byt b=>obtain⟨t,e⟩:=(show ∃ t,u=Value.bytes b t from r);cases e;rfl
 | flt b=>obtain⟨t,e⟩:=(show ∃ t,u=Value.float b t from r);cases e;rfl
 | ref a=>cases (show u=Value.ref a from r);rfl
 | ty n=>cases (show u=Value.type n from r);rfl
section
variable{P:Program}{w:World}{H H':Hp}{h h':Heap}{a C dx:Addr}{fs fs':List (Str×V)}
theorem Jv(hok:HOk P w H h)(e:H a=some (.ins C dx fs)):∃ mA,ObjM h a dx C mA/\(∀ f,RelO (fs.lookup f) (mA f))/\PySem.Within mA (fs.map (·.1))/\fs.length<=1000/\H dx=#[a,.own,a]:=by
 obtain⟨d,z,ne,ob,mA,n,r,q⟩:=(show Y8 P w H h a (.ins C dx fs) from hok a _ e);exact⟨mA,⟨ob,n,ne⟩,r,q,z,d⟩
end
structure Cls(K:Frag)(C:Addr):Prop where
 pg:PySem.W.plainGet K C Str.empty=true
 hd:PySem.W.hasDictIn K C=true
 po:PySem.W.plainOver K C=true
 sa:PySem.W.findIn K (.ref C) "__setattr__"=some #[a,.builtin,"object.__setattr__"]
theorem Cls.get{K:Frag}{C:Addr}(c:Cls K C)(f:Str):PySem.W.plainGet K C f=true:=c.pg
def X1(K:Frag)(C:Addr)(f:Str):Prop:=PySem.W.findIn K (.ref C) f=some none
theorem X1.taker{K:Frag}{C:Addr}{f:Str}(n:X1 K C f):PySem.W.takerIn K C f=some none:=by
 unfold PySem.W.takerIn;rw[show PySem.W.findIn K (.ref C) f=some none from n];rfl
structure Con(K:Frag)(C:Addr)(f:Str)(v:V)(u:Value):Prop where
 at_:PySem.W.findIn K (.ref C) f=#[a,some,u]
 rel:RelV v u
 get:PySem.W.specialIn K u "__get__"=some none
 cp:PySem.W.copiedNames.contains f=false
structure ze1(K:Frag)(C:Addr)(m:Str)(f:Addr):Prop where
 at_:PySem.W.findIn K (.ref C) m=some #[c,f]
 fn:PySem.W.isFn K (.ref f)=true
 kp:PySem.W.keepIn K (.ref f)=true
section
variable{X:Cx}{pins:#[h]}{σ:St}{H:Hp}{s:Shared}{a C dx:Addr}{fs:List (Str×V)}{f:Str}{v:V}{A:Around}{E:Value->Shared->Prop}
theorem zag(I:#[d])(e:H a=some (.ins C dx fs))(c:Cls X.K C)(n:X1 X.K C f)(l:fs.lookup f=some v)
  (h:∀ u s',Inv X pins σ H s'->RelV v u->Q u s'):wpAny (model X.prog X.w) A (getAttr (.ref a) f b) Q E s:=by
 obtain⟨mA,O,r,_,_,_⟩:=Jv I.hok e;obtain⟨u,hu,ru⟩:=RelO.some_of (v:=v) (o:=mA f) (by rw[<- l];exact r f);exact zg2 I.kIn O (c.get f) c.hd n hu (zc3 ru) (h u _ (I.tok _) ru)
theorem J2(I:#[d])(e:H a=some (.ins C dx fs))(c:Cls X.K C)(k:ze1 X.K C m g)(l:fs.lookup m=none)
  (h:Q (.ref g,[.ref a]) s):wpAny (model X.prog X.w) A (getMethod (.ref a) m pl) Q E s:=by
 obtain⟨mA,O,r,_,_,_⟩:=Jv I.hok e;have hn:mA m=none:=RelO.none_of (by rw[<- l];exact r m);exact zez I.kIn O (c.get m) k.at_ k.fn hn h
theorem zah(I:#[d])(e:H a=some (.ins C dx fs))(c:Cls X.K C)(n:X1 X.K C f)(hl:fs.length<1000)(ry:RelV y u)
  (h:∀ s',Inv X pins σ (upd H a (.ins C dx (putF f y fs))) s'->Q () s'):wpAny (model X.prog X.w) A (setAttr (.ref a) f u) Q E s:=by
 obtain⟨mA,O,r,wi,_,ho⟩:=Jv I.hok e;have hz:(fs.map (·.1)).length<=sizeLine:=by rw[zu2,sizeLine_eq];omega
 refine zg3 I.kIn O c.sa c.po n.taker c.hd wi hz fun h' O' sb=>h _ ?_;have hd:∃ o,h'.get? dx=some o:=let ⟨o,_,_,e',_⟩:=O'.ns;⟨o,e'⟩;refine I.write (x:=a) (e:=dx) (by rw[e];exact True.intro) (.inr ho) (fun b q hb z=>(sb.2 b hb).trans z) hd ?_;refine⟨by rw[Zi O.ne];exact ho,?_,O.ne,O'.obj,_,O'.ns,fun g=>?_,fun g hg=>?_⟩
 ·have:=Kd f y fs;omega
 ·show RelO ((putF f y fs).lookup g) (if g=f then some u else mA g);rw[Kc];by_cases q:g=f
  ·rw[if_pos q,if_pos q];exact ry
  ·rw[if_neg q,if_neg q];exact r g
 ·by_cases q:g=f
  ·rw[q];exact(Mv f y fs).1
  ·refine(Mv f y fs).2 g (wi g fun z=>hg ?_);show (if g=f then some u else mA g)=none;rw[if_neg q];exact z
theorem Inv.made(I:#[d]):Inv X pins σ (upd (upd H s.heap.objs.size (.own (s.heap.objs.size+1))) (s.heap.objs.size+1) (.ins C s.heap.objs.size []))
  { s with heap:=(s.heap.push PySem.W.emptyDict).push (PySem.W.instObj C s.heap.objs.size) }:=by
 have e1:(s.heap.push PySem.W.emptyDict).get? s.heap.objs.size=some PySem.W.emptyDict:=Heap.get?_push_size s.heap rfl;have e2:((s.heap.push PySem.W.emptyDict).push (PySem.W.instObj C s.heap.objs.size)).get? (s.heap.objs.size+1)=some (PySem.W.instObj C s.heap.objs.size):=by
  have:=Heap.get?_push_size (s.heap.push PySem.W.emptyDict) (o:=PySem.W.instObj C s.heap.objs.size) rfl
  rwa [Heap.size_push] at this
 have e3:(s.heap.push PySem.W.emptyDict).Ns s.heap.objs.size fun _=>none:=⟨PySem.W.emptyDict,#[],_,e1,rfl,fun e he=>absurd he (by simp),fun _=>rfl⟩;have I1:=I.laid (a:=s.heap.objs.size) (o:=.own (s.heap.objs.size+1)) (h':=s.heap.push PySem.W.emptyDict) (t':=s.toks) (fun b u q=>Heap.get?_push_of_some _ q) (zvd _) ⟨_,e1⟩;refine I1.laid (a:=s.heap.objs.size+1) (o:=.ins C s.heap.objs.size []) (t':=s.toks) (fun b u q=>Heap.get?_push_of_some _ q) (Nat.le_of_eq (Heap.size_push _ _)) ?_;have ne:s.heap.objs.size≠s.heap.objs.size+1:=zvv (Nat.lt_succ_self _);refine⟨by rw[Zi ne,Zd],zvw _,ne,e2,fun _=>none,(Heap.Ns1.of_empty e3).at fun o q=>Heap.get?_push_of_some _ q,fun _=>True.intro,fun y hy=>absurd rfl hy⟩
theorem zg4(hb:attributeBase e f env (eval e env)=eval e env)
  (h:wpAny (model prog w) A (eval e env) (fun o s₁=>wpAny (model prog w) A (getAttr o f true) Q E s₁) E s):wpAny (model prog w) A (eval (.Attribute e f pos) env) Q E s :=
 Attribute_any_ h (by rw[arm_eval_Attribute,hb])
end
inductive zkj(K:Frag)(f:Str)(Q:VK)(x:V)(H1:Hp):Prop where
 | mk(a)(C)(dx)(fs)(v)(_:x=.ref a)(_:H1 a=some (.ins C dx fs))(_:Cls K C)(_:X1 K C f)(_:fs.lookup f=some v)(_:Q v H1)
def zkk(K:Frag)(ta:TE)(f:Str):TE:=fun σ H Q=>ta σ H fun x H1=>zkj K f Q x H1
inductive zkl(K:Frag)(f:Str)(D:P5)(σ:L2.St)(y:V)(x:V)(H2:Hp):Prop where
 | mk(a)(C)(dx)(fs)(_:x=.ref a)(_:H2 a=some (.ins C dx fs))(_:Cls K C)(_:X1 K C f)(_:fs.length<1000)(_:D.nx σ (upd H2 a (.ins C dx (putF f y fs))))
def zkm(K:Frag)(ta tv:TE)(f:Str):TS:=fun D σ H=>tv σ H fun y H1=>ta σ H1 fun x H2=>zkl K f D σ y x H2
section
variable{X:Cx}{o e value:Expr}{f:Str}{pos pos' tpos:Pos}{ta tv:TE}
theorem zi0(he:PE X e ta)(hb:attributeBase e f X.env (eval e X.env)=eval e X.env):PE X (.Attribute e f pos) (zkk X.K ta f):=by
 intro pins s σ H Q I h;refine zg4 hb (thn (he pins s σ H _ I h) fun u s1 ⟨x,H1,I1,rx,a,C,dx,fs,v,ex,ea,c,n,l,q⟩=>?_);subst ex;obtain rfl:u=Value.ref a:=rx;exact zag I1 ea c n l fun u' s2 I2 ru=>⟨v,H1,I2,ru,q⟩
theorem zi1(ha:PE X o ta)(hv:PE X value tv)(hs:swapsWith value (some (.Attribute o f pos')) pos.line X.env=pure false):PS X (.Assign [.Attribute o f pos'] value pos) (zkm X.K ta tv f):=by
 intro pins s σ H D I h;refine plainObj_wpAny_Assign_Attribute (thn (hv pins s σ H _ I h) fun u s1 ⟨y,H1,I1,ry,q⟩=>thn (ha pins s1 σ H1 _ I1 q) fun ov s2 ⟨x,H2,I2,rx,a,C,dx,fs,ex,ea,c,n,l,q2⟩=>?_) hs;subst ex;obtain rfl:ov=Value.ref a:=rx;exact zah I2 ea c n l ry fun s3 I3=>⟨σ,_,I3,q2⟩
end
section
variable{X:Cx}{pins:#[h]}{σ:St}{H:Hp}{s:Shared}{A:Around}{E:Value->Shared->Prop}{Q:Value->Shared->Prop}{c:Value}{b:Bool}
inductive Mw(K:Frag)(H:Hp):V->Value->Prop where
 | non:Mw K H .non (.type "NoneType")
 | bl (x:Bool):Mw K H (.bl x) (.type "bool")
 | int (i:Int):Mw K H (.int i) (.type "int")
 | str (x:Str):Mw K H (.str x) (.type "str")
 | flt (x:UInt64):Mw K H (.flt x) (.type "float")
 | lst {a:Addr} {xs:#[b]} (e:H a=#[a,.lst,xs]):Mw K H (.ref a) (.type "list")
 | frz {a:Addr} {o:Obj} {xs:#[b]} (e:H a=some (.frz o (.lst xs))):Mw K H (.ref a) (.type "list")
 | tup {a:Addr} {xs:#[b]} (e:H a=#[a,.tup,xs]):Mw K H (.ref a) (.type "tuple")
 | dK {a:Addr} {kvs:List (Key×V)} (e:H a=#[a,.dK,kvs]):Mw K H (.ref a) (.type "dict")
 | dT {a:Addr} {kvs:List (List Key×V)} (e:H a=#[a,.dT,kvs]):Mw K H (.ref a) (.type "dict")
 | ins {a C dx:Addr} {fs:List (Str×V)} (e:H a=some (.ins C dx fs)) (cl:Cls K C) (ha:PySem.W.findIn K (.ref C) "__class__"=some #[a,.builtin,"object.__class__"])
   (hn:PySem.W.specialIn K (.builtin "object.__class__") "__get__"=some #[a,.builtin,"getset_descriptor.__get__"]) (htk:PySem.W.takesIn K (.builtin "object.__class__")=some true)
   (hm:PySem.W.mroIn K C (.type "object")=some true):Mw K H (.ref a) (.ref C)
theorem zc4(I:#[d])(rx:RelV x u)(ty:Mw X.K H x t)(e:PySem.W.kitOne X.K t c=some b)(h:∀ tk,Q (.bool b) { s with toks:=tk }) :
  wpAny (model X.prog X.w) A (call (.builtin "isinstance") [u,c]) Q E s:=by
 cases ty with
 | non=>cases (show u=Value.none from rx);exact PySem.W.kia_one PySem.W.kitx_none I.kIn True.intro e (fun z=>nomatch z) h
 | bl y=>cases (show u=Value.bool y from rx);exact PySem.W.kia_one PySem.W.kitx_bool I.kIn True.intro e (fun z=>nomatch z) h
 | int i=>obtain⟨t,q⟩:=(show ∃ t,u=Value.int i t from rx);cases q;exact PySem.W.kia_one PySem.W.kitx_int I.kIn True.intro e (fun z=>nomatch z) h
 | str y=>obtain⟨t,q⟩:=(show ∃ t,u=Value.str y t from rx);cases q;exact PySem.W.kia_one PySem.W.kitx_str I.kIn True.intro e (fun z=>nomatch z) h
 | flt y=>obtain⟨t,q⟩:=(show ∃ t,u=Value.float y t from rx);cases q;exact PySem.W.kia_one PySem.W.kitx_float I.kIn True.intro e (fun z=>nomatch z) h
 | @lst a xs ea =>
   cases (show u=Value.ref a from rx);obtain⟨_,_,n,_,h1⟩:=(show Y8 X.prog X.w H s.heap a (.lst xs) from I.hok a _ ea);exact PySem.W.kia_one PySem.W.kitx_list I.kIn ⟨_,h1,rfl⟩ e (fun z=>nomatch z) h
 | @frz a ob xs ea =>
   cases (show u=Value.ref a from rx);obtain⟨_,_,_,n,_,h1⟩:=(show Y8 X.prog X.w H s.heap a (.frz ob (.lst xs)) from I.hok a _ ea);exact PySem.W.kia_one PySem.W.kitx_list I.kIn ⟨_,h1,rfl⟩ e (fun z=>nomatch z) h
 | @tup a xs ea =>
   cases (show u=Value.ref a from rx);obtain⟨_,_,_,p⟩:=(show Y8 X.prog X.w H s.heap a (.tup xs) from I.hok a _ ea);obtain⟨o,h1,h2,_⟩:=p;exact PySem.W.kia_one PySem.W.kitx_tuple I.kIn ⟨o,h1,h2⟩ e (fun z=>nomatch z) h
 | @dK a kvs ea =>
   cases (show u=Value.ref a from rx);obtain⟨_,_,vs,_,p⟩:=(show Y8 X.prog X.w H s.heap a (.dK kvs) from I.hok a _ ea);obtain⟨o,es,ep,h1,h2,_⟩:=p;exact PySem.W.kia_one PySem.W.kitx_dict I.kIn ⟨o,h1,h2.1⟩ e (fun z=>nomatch z) h
 | @dT a kvs ea =>
   cases (show u=Value.ref a from rx);obtain⟨_,_,xs,_,o,es,ep,h1,h2,_⟩:=(show Y8 X.prog X.w H s.heap a (.dT kvs) from I.hok a _ ea);exact PySem.W.kia_one PySem.W.kitx_dict I.kIn ⟨o,h1,h2.1⟩ e (fun z=>nomatch z) h
 | @ins a C dx fs ea cl ha hn htk hm =>
   cases (show u=Value.ref a from rx);obtain⟨mA,O,_⟩:=Jv I.hok ea;obtain⟨od,J,_⟩:=O.look;exact PySem.W.kia_one (PySem.W.kitx_own (cl.get _) cl.hd ha hn htk hm) I.kIn J e (fun z=>nomatch z) h
end
structure W6(k:Nat)(A:Around):Prop where
 hd:A.handled=none
 dp:A.depth+3*k+5<recursionLimit
 un:A.units+16*k+200<cLine
theorem W6.mono(r:W6 k A)(h:j<=k):W6 j A:=⟨r.hd,by have:=r.dp;omega,by have:=r.un;omega⟩
theorem W6.deeper(r:W6 (k+1) A)(env:Env):W6 k (A.deeper env) :=
 ⟨r.hd,by have:=r.dp;show A.depth+1+3*k+5<_;omega,by have:=r.un;show A.units+3+16*k+200<_;omega⟩
theorem zai{A:Around}{C:Addr}{us:List Value}{kw:List (Str×Value)}:(A.under (.builtin "type.__call__" ⟨.ref C :: us,kw⟩)).depth=A.depth+1:=by
 first|rfl|simp[Around.under,Code.weight,Code.isCreation,Code.isGuard,Code.isCaller,Code.frames,Code.isFrame,guardIds]
theorem zaj{A:Around}{C:Addr}{us:List Value}{kw:List (Str×Value)}:(A.under (.builtin "type.__call__" ⟨.ref C :: us,kw⟩)).units=A.units+1:=by
 first|rfl|simp[Around.under,Code.cUnits,Code.frames,Code.isFrame]
theorem W6.make(r:W6 (k+1) A)(C:Addr)(us:List Value)(kw:List (Str×Value)):W6 k (A.under (.builtin "type.__call__" ⟨.ref C :: us,kw⟩)) :=
 ⟨r.hd,by have:=r.dp;rw[zai];omega,by have:=r.un;rw[zaj];omega⟩
theorem W6.depth(r:W6 k A):A.depth<recursionLimit:=by have:=r.dp;omega
theorem W6.units(r:W6 k A):A.units+64<cLine:=by have:=r.un;omega
def G4:TA:=fun _ H Q=>Q [] H
def Ef(ta:TE)(tr:TA):TA:=fun σ H Q=>ta σ H fun x H1=>tr σ H1 fun xs H2=>Q (x :: xs) H2
section
variable{X:Cx}{e:Expr}{es:List Expr}{te:TE}{t:TA}{pos:Pos}
theorem Zc:PA X [] G4:=fun _ _ _ _ H Q I h=>Calls.spliced_nil ⟨[],H,I,.nil,h⟩
theorem Za(ha:PE X e te)(hr:PA X es t)(hs:starEach (e :: es) X.env=(false,eval e X.env) :: starEach es X.env:=by rfl):PA X (e :: es) (Ef te t):=by
 intro pos pins s σ H Q I h;rw[hs];show wpAny _ _ (spliced ((false,eval e X.env) :: backTo pos (starEach es X.env))) _ _ s;refine Calls.spliced_cons (thn (ha pins s σ H _ I h) fun u s1 ⟨x,H1,I1,r1,q1⟩=>?_);exact thn (hr pos pins s1 σ H1 _ I1 q1) fun us s2 ⟨xs,H2,I2,r2,q2⟩=>⟨x :: xs,H2,I2,.cons r1 r2,q2⟩
inductive zkn(Q:VK)(xs:#[b])(H1:Hp):Prop where
 | mk(_:xs.length<=sizeLine)(_:∀ p,H1 p=none->Q (.ref p) (upd H1 p (.tup xs)))
def zko(t:TA):TE:=fun σ H Q=>t σ H fun xs H1=>zkn Q xs H1
inductive zkp(Q:VK)(xs:#[b])(H1:Hp):Prop where
 | mk(_:xs.length<=sizeLine)(_:∀ p,H1 p=none->Q (.ref p) (upd H1 p (.lst xs)))
def zak(t:TA):TE:=fun σ H Q=>t σ H fun xs H1=>zkp Q xs H1
theorem Yd{x1}(h:PA X es t):PE X (.Tuple es x1 pos) (zko t):=by
 intro pins s σ H Q I hq;refine wpAny_Tuple_spliced (thn (h pos pins s σ H _ I hq) fun us s1 ⟨xs,H1,I1,r,z,q⟩=>⟨by rw[<- r.length];exact z,?_⟩);have hf:H1 s1.heap.objs.size=none:=I1.hok.fresh (zvd _);refine⟨.ref s1.heap.objs.size,upd H1 s1.heap.objs.size (.tup xs),I1.laid (t':=s1.toks) (fun b u e=>Heap.get?_push_of_some _ e) (zvd _) ?_,rfl,q _ hf⟩;exact⟨z,us,r,⟨_,Heap.get?_push_size _ rfl,rfl,_,rfl⟩⟩
theorem Ya(h:PA X es t):PE X (.List es pos) (zak t):=by
 intro pins s σ H Q I hq;refine wpAny_List_spliced (thn (h pos pins s σ H _ I hq) fun us s1 ⟨xs,H1,I1,r,z,q⟩=>⟨by rw[<- r.length];exact z,?_⟩);have hf:H1 s1.heap.objs.size=none:=I1.hok.fresh (zvd _);refine⟨.ref s1.heap.objs.size,upd H1 s1.heap.objs.size (.lst xs),I1.laid (t':=s1.toks) (fun b u e=>Heap.get?_push_of_some _ e) (zvd _) ?_,rfl,q _ hf⟩;exact⟨z,us,0,r,Heap.get?_push_size _ rfl⟩
end
abbrev Sp:=#[b]->Hp->VK->XK->Prop
abbrev CXT:=List Env->Hp->Shared->XK->Value->Shared->Prop
structure zal(P:Program)(w:World)(K:Frag)(mg:Str->Option Value)(base:Heap)(A:Around)(outer:List Env)(s:Shared)(H:Hp):Prop where
 frames:A.frames=some outer
 mod:Mod K mg base
 bs:∀ b o,base.get? b=some o->s.heap.get? b=some o/\H b=none
 bsz:base.objs.size<=s.heap.objs.size
 funs:s.heap.FunFrames base outer
 frf:∀ b∈frs outer,H b=none
 hok:HOk P w H s.heap
 bare:AllBare s.gens
def CE(outer:List Env)(P:Program)(w:World)(H:Hp)(s:Shared)(Q:VK)(u:Value)(s':Shared):Prop :=
 ∃ v H',s'.os=s.os/\AllBare s'.gens/\Un (frs outer) [] H H' s.heap s'.heap/\HOk P w H' s'.heap/\RelV v u/\Q v H'
def CR(CX:CXT)(outer:List Env)(P:Program)(w:World)(H:Hp)(s:Shared)(Q:VK)(E:XK)(r:Result)(s':Shared):Prop :=
 match r with
 | .ok (.ret u)=>CE outer P w H s Q u s'
 | .ok _=>False
 | .error e=>CX outer H s E e s'
structure FnOk(P:Program)(w:World)(K:Frag)(mg:Str->Option Value)(base:Heap)(CX:CXT)(k:Nat)(f:Addr)(fd:FuncData)(ps:List Str)(sp:Sp):Prop where
 len:∀ vs H Q E,sp vs H Q E->vs.length=ps.length
 run:∀ (A:Around) (outer:List Env) (s:Shared) (H:Hp) (args:Args) (us:List Value) (vs:#[b]) (Q:VK) (E:XK),W6 k A->zal P w K mg base A outer s H->BindsTo s fd args (ps.zip us)->Vals vs us->sp vs H Q E ->
  codeAny (model P w) A (.call (.ref f) args) (CR CX outer P w H s Q E) s
theorem zal.make{P:Program}{w:World}{K:Frag}{mg:Str->Option Value}{base:Heap}{A:Around}{outer:List Env}{s:Shared}{H:Hp}(e:zal P w K mg base A outer s H)(C:Addr)(us:List Value)(kw:List (Str×Value)) :
  zal P w K mg base (A.under (.builtin "type.__call__" ⟨.ref C :: us,kw⟩)) outer s H:=⟨by first|exact e.frames|(simpa [Around.under,Code.envs,Code.isFrame,pushEnvs] using e.frames),e.mod,e.bs,e.bsz,e.funs,e.frf,e.hok,e.bare⟩
section
variable{X:Cx}{pins:#[h]}{σ:St}{H:Hp}{s s':Shared}
theorem Inv.env0(I:#[d]):zal X.prog X.w X.K X.mg X.base X.A X.stack s H :=
 ⟨I.ok.frames,I.ok.mod,I.bs,zvh I.ok.bsz I.sz,I.stack,I.stkFree,I.hok,I.bare⟩
theorem Inv.after(I:#[d])(h:CE X.stack X.prog X.w H s Q u s'):EP X pins σ Q u s':=by
 obtain⟨v,H',os,bare,un,hok,r,q⟩:=h;obtain⟨hh,g,d,t,os'⟩:=s';obtain rfl:os'=s.os:=os;exact⟨v,H',I.call (h':=hh) (g':=g) (d':=d) (t':=t) (ch:=[]) un hok bare fun b z=>absurd z (by simp),r,q⟩
end
def ze2(sp:Sp)(dvs:#[b])(E:XK)(t:TA):TE:=fun σ H Q=>t σ H fun vs H1=>sp (vs++dvs) H1 Q E
inductive zi2(C:Addr)(m:Str)(sp:Sp)(dvs:#[b])(E:XK)(t:TA)(σ:L2.St)(Q:VK)(x:V)(H1:Hp):Prop where
 | mk(a)(dx)(fs)(_:x=.ref a)(_:H1 a=some (.ins C dx fs))(_:fs.lookup m=none)(_:t σ H1 fun vs H2=>sp (x :: (vs++dvs)) H2 Q E)
def C5(C:Addr)(m:Str)(sp:Sp)(dvs:#[b])(E:XK)(ta:TE)(t:TA):TE:=fun σ H Q=>ta σ H fun x H1=>zi2 C m sp dvs E t σ Q x H1
def zbv(C:Addr)(sp:Sp)(dvs:#[b])(E:XK)(t:TA):TE:=fun σ H Q=>t σ H fun vs H1=>∀ x dx,H1 x=none->H1 dx=none->dx≠x ->
 sp (.ref x :: (vs++dvs)) (upd (upd H1 dx (.own x)) x (.ins C dx [])) (fun v H2=>v=.non/\Q (.ref x) H2) E
def S8(K:Frag)(fd:FuncData)(ps:List Str)(ds:List Value):Prop :=
 ∀ (s:Shared) (us:List Value),K.In s.heap->(us++ds).length=ps.length->BindsTo s fd ⟨us,[]⟩ (ps.zip (us++ds))
theorem S8.all{K:Frag}{fd:FuncData}{ps:List Str}(h:∀ us:List Value,us.length=ps.length->bindArgs fd ⟨us,[]⟩=pure (ps.zip us)):S8 K fd ps []:=fun s us _ hl=>by
 rw[zxc] at hl ⊢;exact .of_eq (h us hl)
def W2(CX:CXT)(X:Cx)(E:XK):Prop:=∀ (pins:List (Addr×Obj)) (σ:St) (H:Hp) (s:Shared) (e:Value) (s':Shared),#[d]->CX X.stack H s E e s'->X.xe e s'
section
variable{X:Cx}{CX:CXT}{k:Nat}{f C:Addr}{fd:FuncData}{ps:List Str}{sp:Sp}{dvs:#[b]}{ds:List Value}{E:XK}{x m:Str}{p pos apos:Pos}{e o:Expr}{es:List Expr}{ta:TE}{t:TA}
theorem zam(F:FnOk X.prog X.w X.K X.mg X.base CX k f fd ps sp)(hr:W6 k X.A)(hb:S8 X.K fd ps ds)(hd:Vals dvs ds)(hx:W2 CX X E)
  (I:#[d]) (r:Vals vs us) (h:sp (vs++dvs) H Q E):wpAny (model X.prog X.w) X.A (call (.ref f) us) (EP X pins σ Q) X.xe s:=by
 have r2:Vals (vs++dvs) (us++ds):=r.append hd;have hl:(us++ds).length=ps.length:=by rw[<- r2.length];exact F.len _ _ _ _ h
 refine wpAny_call (codeAny_mono (F.run X.A X.stack s H ⟨us,[]⟩ (us++ds) (vs++dvs) Q E hr I.env0 (hb s us I.kIn hl) r2 h) fun r s' hq=>?_);cases r with
 | error e=>exact hx pins σ H s e s' I hq
 | ok fl =>
   cases fl with
   | ret u=>exact I.after hq
   | next=>exact False.elim hq
   | brk=>exact False.elim hq
   | cont=>exact False.elim hq
theorem zg5(F:FnOk X.prog X.w X.K X.mg X.base CX k f fd ps sp)(hr:W6 k X.A)(hg:Gl X x)(hm:X.mg x=#[a,.ref,f])(hk:PySem.W.keepIn X.K (.ref f)=true)(hb:S8 X.K fd ps ds)(hd:Vals dvs ds)(hx:W2 CX X E)
  (ha:PA X (e :: es) t) (hdb:(x == ("__debug__":Str))=false:=by decide) (he:starEach (e :: es) X.env=(false,eval e X.env) :: starEach es X.env:=by rfl) (hpl:(backTo pos (starEach es X.env)).any (·.1)=false:=by rfl) :
  PE X (.Call (.Name x p) (e :: es) [] pos) (ze2 sp dvs E t):=by
 intro pins s σ H Q I h;refine wpAny_Call_Name_kw (Pn I hg hm ?_ hdb);refine PySem.W.callWith_K (h₀:=X.base) I.ok.mod.kin hk (thn (ha pos pins s σ H _ I h) fun us s1 ⟨vs,H1,I1,r,q⟩=>⟨I1.kIn,?_⟩) he hpl;exact zam F hr hb hd hx I1 r q
theorem zg6(he:PE X o ta)(c:Cls X.K C)(hm:ze1 X.K C m f)(F:FnOk X.prog X.w X.K X.mg X.base CX k f fd ps sp)(hr:W6 k X.A)(hb:S8 X.K fd ps ds)(hd:Vals dvs ds)(hx:W2 CX X E)(ha:PA X (e :: es) t)
  (hst:starEach (e :: es) X.env=(false,eval e X.env) :: starEach es X.env:=by rfl) (hpl:(backTo pos (starEach es X.env)).any (·.1)=false:=by rfl)
  (ht:eval (.Call (.Attribute o m apos) (e :: es) [] pos) X.env=(do
   let ov <- eval o X.env
   standAt apos.atName
   let (f,first) <- holding [ov] (getMethod ov m pl)
   callWith pos f first (backTo pos (starEach (e :: es) X.env)) (backToKw pos (keywordEach [] X.env))):=by rfl) :
  PE X (.Call (.Attribute o m apos) (e :: es) [] pos) (C5 C m sp dvs E ta t):=by
 intro pins s σ H Q I h;refine PySem.W.methodCall_KW (pl:=pl) (thn (he pins s σ H _ I h) fun u s1 ⟨x,H1,I1,rx,a,dx,fs,ex,ea,l,q⟩=>?_) ht;subst ex;obtain rfl:u=Value.ref a:=rx;refine J2 I1 ea c hm l ?_;refine PySem.W.callWith_K (first:=[.ref a]) (h₀:=X.base) I.ok.mod.kin hm.kp (thn (ha pos pins s1 σ H1 _ I1 q) fun us s2 ⟨vs,H2,I2,r,q2⟩=>⟨I2.kIn,?_⟩) hst hpl;exact zam (us:=.ref a :: us) (vs:=.ref a :: vs) F hr hb hd hx I2 (.cons rfl r) q2
theorem ze3(he:PE X o ta)(c:Cls X.K C)(hm:ze1 X.K C m f)(F:FnOk X.prog X.w X.K X.mg X.base CX k f fd ps sp)(hr:W6 k X.A)(hb:S8 X.K fd ps ds)(hd:Vals dvs ds)(hx:W2 CX X E)
  (ht:eval (.Call (.Attribute o m apos) [] [] pos) X.env=(do
   let ov <- eval o X.env
   standAt apos.atName
   let (f,first) <- holding [ov] (getMethod ov m pl)
   callWith pos f first (backTo pos (starEach [] X.env)) (backToKw pos (keywordEach [] X.env))):=by rfl) :
  PE X (.Call (.Attribute o m apos) [] [] pos) (C5 C m sp dvs E ta G4):=by
 intro pins s σ H Q I h;refine PySem.W.methodCall_KW (pl:=pl) (thn (he pins s σ H _ I h) fun u s1 ⟨x,H1,I1,rx,a,dx,fs,ex,ea,l,q⟩=>?_) ht;subst ex;obtain rfl:u=Value.ref a:=rx;refine J2 I1 ea c hm l ?_;exact PySem.W.callWith_K0 (first:=[.ref a]) I1.kIn hm.kp (zam (us:=[.ref a]) (vs:=[.ref a]) F hr hb hd hx I1 (.cons rfl .nil) q)
structure Mk(K:Frag)(C f:Addr):Prop where
 makes:PySem.W.makesIn K C=true
 init:PySem.W.findIn K (.ref C) "__init__"=some #[c,f]
 fn:PySem.W.isFn K (.ref f)=true
 kp:PySem.W.keepIn K (.ref C)=true
theorem C6(M:Mk X.K C f)(F:FnOk X.prog X.w X.K X.mg X.base CX k f fd ps sp)(hr:W6 (k+1) X.A)(hb:S8 X.K fd ps ds)(hd:Vals dvs ds)
  (hx:W2 CX X E) (I:#[d]) (r:Vals vs us)
  (h:∀ x dx,H x=none->H dx=none->dx≠x->sp (.ref x :: (vs++dvs)) (upd (upd H dx (.own x)) x (.ins C dx [])) (fun v H2=>v=.non/\Q (.ref x) H2) E) :
  wpAny (model X.prog X.w) X.A (call (.ref C) us) (EP X pins σ Q) X.xe s:=by
 have hq:=h (s.heap.objs.size+1) s.heap.objs.size (I.hok.fresh (Nat.le_succ _)) (I.hok.fresh (zvd _)) (zvv (Nat.lt_succ_self _));have I2:=Inv.made (C:=C) I;have r2:Vals (V.ref (s.heap.objs.size+1) :: (vs++dvs)) (Value.ref (s.heap.objs.size+1) :: (us++ds)):=.cons rfl (r.append hd);have hl:(Value.ref (s.heap.objs.size+1) :: us++ds).length=ps.length:=by
  have e:=r2.length;rw[F.len _ _ _ _ hq] at e;exact e.symm
 refine wpAny_call (ze0 (f:=f) I.kIn M.makes M.init (beq_iff_eq.mp M.fn) (codeAny_mono (F.run _ X.stack _ _ ⟨Value.ref (s.heap.objs.size+1) :: us,[]⟩ (Value.ref (s.heap.objs.size+1) :: (us++ds)) _ _ E (hr.make C us [])
  (I2.env0.make C us []) (hb _ (Value.ref (s.heap.objs.size+1) :: us) I2.kIn hl) r2 hq) fun r s' hq'=>?_))
 cases r with
 | error e=>exact hx pins σ _ _ e s' I2 hq'
 | ok fl =>
   cases fl with
   | ret u =>
     obtain⟨v,H',I3,rv,ev,q3⟩:=I2.after hq';subst ev;exact⟨rv,⟨V.ref (s.heap.objs.size+1),H',I3,rfl,q3⟩⟩
   | next=>exact False.elim hq'
   | brk=>exact False.elim hq'
   | cont=>exact False.elim hq'
theorem zg7(M:Mk X.K C f)(F:FnOk X.prog X.w X.K X.mg X.base CX k f fd ps sp)(hr:W6 (k+1) X.A)(hg:Gl X x)(hm:X.mg x=#[a,.ref,C])(hb:S8 X.K fd ps ds)(hd:Vals dvs ds)(hx:W2 CX X E)
  (ha:PA X (e :: es) t) (hdb:(x == ("__debug__":Str))=false:=by decide) (he:starEach (e :: es) X.env=(false,eval e X.env) :: starEach es X.env:=by rfl) (hpl:(backTo pos (starEach es X.env)).any (·.1)=false:=by rfl) :
  PE X (.Call (.Name x p) (e :: es) [] pos) (zbv C sp dvs E t):=by
 intro pins s σ H Q I h;refine wpAny_Call_Name_kw (Pn I hg hm ?_ hdb);refine PySem.W.callWith_K (h₀:=X.base) I.ok.mod.kin M.kp (thn (ha pos pins s σ H _ I h) fun us s1 ⟨vs,H1,I1,r,q⟩=>⟨I1.kIn,?_⟩) he hpl;exact C6 M F hr hb hd hx I1 r q
theorem ze4(M:Mk X.K C f)(F:FnOk X.prog X.w X.K X.mg X.base CX k f fd ps sp)(hr:W6 (k+1) X.A)(hg:Gl X x)(hm:X.mg x=#[a,.ref,C])(hb:S8 X.K fd ps ds)(hd:Vals dvs ds)(hx:W2 CX X E)
  (hdb:(x == ("__debug__":Str))=false:=by decide):PE X (.Call (.Name x p) [] [] pos) (zbv C sp dvs E G4):=by
 intro pins s σ H Q I h;refine wpAny_Call_Name_kw (Pn I hg hm ?_ hdb);exact PySem.W.callWith_K0 I.kIn M.kp (C6 (us:=[]) M F hr hb hd hx I .nil h)
end
section
variable{X:Cx}{CX:CXT}{k:Nat}{f C:Addr}{fd:FuncData}{ps ks:List Str}{sp:Sp}{E:XK}{x m:Str}{p pos apos kpos:Pos}{e o:Expr}{es:List Expr}{kws:List Keyword}{te ta:TE}{t tk:TA}{nm:Option Str}
structure zlm(K:Frag)(fd:FuncData)(ps ks:List Str)(g:List Value->List Value->List Value)(gV:#[b]->#[b]->#[b]):Prop where
 to:∀ (s:Shared) (us ws:List Value),K.In s.heap->(g us ws).length=ps.length->BindsTo s fd ⟨us,ks.zip ws⟩ (ps.zip (g us ws))
 rel:∀ {vs:List V} {us:List Value} {zs:List V} {ws:List Value},Vals vs us->Vals zs ws->Vals (gV vs zs) (g us ws)
variable{g:List Value->List Value->List Value}{gV:#[b]->#[b]->#[b]}
end
structure Zl(N P:List Str)(sc:Scope):Prop where
 kind:sc.kind=.function
 co:sc.isCoroutine=false
 gen:sc.isGenerator=false
 nd:N.Nodup
 pre:N.take P.length=P
 par:∀ x∈P,sc.names.lookup x=some .local\/sc.names.lookup x=some .cell
 nofree:∀ y∈sc.names,y.2≠.free
theorem Eg{kindOf:Str->Option NameKind}{x:Str}:∀ {binds:List (Str×Value)} {m:Str->Option Value},(∀ v,(x,v)∉binds)->bindL kindOf binds m x=m x
 | [],_,_=>rfl
 | (n,v) :: r,m,h=>by
   unfold bindL;rw[Eg fun w hw=>h w (zvm _ hw)];split
   ·have:x≠n:=by rintro rfl;exact h v zvy
    simp[this]
   ·rfl
theorem Eh{kindOf:Str->Option NameKind}{x:Str}:∀ {binds:List (Str×Value)} {m:Str->Option Value},(∀ v,(x,v)∉binds)->bindC kindOf binds m x=m x
 | [],_,_=>rfl
 | (n,v) :: r,m,h=>by
   unfold bindC;rw[Eh fun w hw=>h w (zvm _ hw)];split
   ·rfl
   ·have:x≠n:=by rintro rfl;exact h v zvy
    simp[this]
theorem Ei{kindOf:Str->Option NameKind}{x:Str}{v:Value}:∀ {P:List Str} {vs:List Value} {i:Nat} {m:Str->Option Value},P.Nodup->P[i]?=some x->vs[i]?=some v->kindOf x=some .local ->
  bindL kindOf (P.zip vs) m x=some v
 | [],_,_,_,_,h,_,_=>by simp at h
 | _ :: _,[],_,_,_,_,h,_=>by simp at h
 | p :: P,w :: vs,0,m,nd,h1,h2,hk=>by
   simp at h1 h2;subst h1;subst h2;show bindL kindOf ((p,w) :: P.zip vs) m p=_;unfold bindL;rw[Eg fun v hv=>(zvt.mp nd).1 (List.of_mem_zip hv).1,if_pos hk];simp
 | p :: P,w :: vs,i+1,m,nd,h1,h2,hk=>by
   show bindL kindOf ((p,w) :: P.zip vs) m x=_;unfold bindL;exact Ei (i:=i) (zvt.mp nd).2 (by simpa using h1) (by simpa using h2) hk
theorem Ej{kindOf:Str->Option NameKind}{x:Str}{v:Value}:∀ {P:List Str} {vs:List Value} {i:Nat} {m:Str->Option Value},P.Nodup->P[i]?=some x->vs[i]?=some v->kindOf x≠some .local ->
  bindC kindOf (P.zip vs) m x=some v
 | [],_,_,_,_,h,_,_=>by simp at h
 | _ :: _,[],_,_,_,_,h,_=>by simp at h
 | p :: P,w :: vs,0,m,nd,h1,h2,hk=>by
   simp at h1 h2;subst h1;subst h2;show bindC kindOf ((p,w) :: P.zip vs) m p=_;unfold bindC;rw[Eh fun v hv=>(zvt.mp nd).1 (List.of_mem_zip hv).1,if_neg hk];simp
 | p :: P,w :: vs,i+1,m,nd,h1,h2,hk=>by
   show bindC kindOf ((p,w) :: P.zip vs) m x=_;unfold bindC;exact Ej (i:=i) (zvt.mp nd).2 (by simpa using h1) (by simpa using h2) hk
def Ke(N:List Str)(vs:#[b]):St:=vs.map some++List.replicate (N.length-vs.length) none
def cxOf(CX:CXT)(P:Program)(w:World)(K:Frag)(mg:Str->Option Value)(base:Heap)(N:List Str)(qual:Str)(scope:Scope)(f:Addr)(cd:Value)(A:Around)(outer:List Env)(s:Shared)(H:Hp)(E:XK):Cx where
 prog:=P
 w:=w
 K:=K
 mg:=mg
 base:=base
 A:=A.deeper (envOfC qual scope s.heap.objs.size f cd)
 N:=N
 s₀:=s
 H₀:=H
 env:=envOfC qual scope s.heap.objs.size f cd
 outer:=outer
 stack:=envOfC qual scope s.heap.objs.size f cd :: outer
 ex:=[]
 calm:=true
 fn:=fun _=>true
 pn:=[]
 xe:=fun e s'=>wpAny (model P w) (A.deeper (envOfC qual scope s.heap.objs.size f cd)) (leaving (envOfC qual scope s.heap.objs.size f cd) e) (fun _ s''=>CX outer H s E e s'') (fun e' s''=>CX outer H s E e' s'') s'
theorem C7{sc:Scope}{n:Nat}{x:Str}(h:sc.names.lookup x=some .cell):∃ c,(cellsFrom n sc.names []).lookup x=some c:=by
 have q:=PySem.W.cellsFrom_some sc.names n [] (.inl h);exact zwf.mp q
theorem zc5{CX:CXT}{P:Program}{w:World}{K:Frag}{mg:Str->Option Value}{base:Heap}{N ps:List Str}{qual:Str}{scope:Scope}{f:Addr}{cd:Value}{A:Around}{outer:List Env}{s s1:Shared}{H:Hp}{E:XK}{us:List Value}{vs:#[b]}
  (S:Zl N ps scope) (hd:A.handled=none) (e0:zal P w K mg base A outer s H) (hl:vs.length=ps.length) (r:Vals vs us)
  (x:InCallC s s.heap.objs.size (bindL (envOfC qual scope s.heap.objs.size f cd).kindOf (ps.zip us) fun _=>none) (cellsFrom (s.heap.objs.size+1) scope.names []) (bindC (envOfC qual scope s.heap.objs.size f cd).kindOf (ps.zip us) fun _=>none) s1) :
  Inv (cxOf CX P w K mg base N qual scope f cd A outer s H E) [] (Ke N vs) H s1:=by
 have hpl:ps.length<=N.length:=by have:=congrArg List.length S.pre;rw[zw7] at this;omega
 obtain⟨h1,tk,rfl,hk⟩:=x.done;have noA:∀ b:Addr,b∉(cxOf CX P w K mg base N qual scope f cd A outer s H E).ex:=fun b z=>absurd (show b∈([]:List Addr) from z) (by simp);refine⟨⟨e0.mod,S.kind,rfl,rfl,zvd _,fun y z c h1 h2=>?_,fun y hy=>?_,fun y c _ h=>?_,fun _=>hd,Around.frames_deeper e0.frames,.inr ⟨rfl,rfl⟩,fun b z=>absurd z (noA b),e0.bs,e0.bsz,fun b _ _=>noA b,fun b z=>absurd z (noA b),e0.funs,e0.frf⟩,
  rfl,e0.bare,Un.kept hk,⟨_,x.toInCall.ns,fun i y v h1 h2 h3=>?_⟩,fun y c h=>⟨_,x.cell y c h⟩,e0.hok.fresh (zvd _),fun y c h=>?_,fun p hp=>absurd (show p∈([]:List (Addr×Obj)) from hp) (by simp),e0.hok.kept hk,?_⟩
 ·exact name_of_addr x.apart (PySem.mem_of_lookup h1) (PySem.mem_of_lookup h2)
 ·have hy:scope.names.lookup y=some .cell\/scope.names.lookup y=some .free:=hy;rcases hy with hy|hy
  ·exact C7 hy
  ·exact absurd rfl (S.nofree _ (PySem.mem_of_lookup hy))
 ·exact zxe (x.above y c (PySem.mem_of_lookup h))
 ·have h2:=h2.resolve_right (Ws _);have hi:i<vs.length:=by
   unfold Ke at h2;by_cases hi:i<vs.length
   ·exact hi
   ·rw[zv5 (by simpa using hi)] at h2;rw[List.getElem?_replicate] at h2;split at h2<;>cases h2
  have ha:vs[i]?=some v:=by
   unfold Ke at h2;rw[zwa (by simpa using hi),zu8] at h2;cases e:vs[i]? with
   | none=>rw[e] at h2;cases h2
   | some a=>rw[e] at h2;cases h2;rfl
  obtain⟨u,hu,rv⟩:=r.get ha;have hp:ps[i]?=some y:=by
   rw[<- S.pre,List.getElem?_take_of_lt ⋯];exact h1
  have ndP:ps.Nodup:=by rw[<- S.pre];exact S.nd.sublist (List.take_sublist _ _)
  refine⟨u,rv,?_⟩;rcases S.par y (zvc hp) with k|k
  ·exact .inl ⟨k,Ei ndP hp hu k⟩
  ·obtain⟨c,e⟩:=C7 (n:=s.heap.objs.size+1) k;refine .inr ⟨.inl k,c,e,?_⟩;have q:=x.cell y c e;rw[Ej ndP hp hu (by show scope.names.lookup y≠_;rw[k];decide)] at q;exact q
 ·exact e0.hok.fresh (zxe (x.above y c (PySem.mem_of_lookup h)))
 ·unfold Ke;show _=N.length;rw[zu5,zu2,List.length_replicate];omega
theorem zkq{CX:CXT}{P:Program}{w:World}{K:Frag}{mg:Str->Option Value}{base:Heap}{k:Nat}{f:Addr}{name qual:Str}{params:Arguments}{body:List Stmt}{scope:Scope}{dV kV doc pm cdv ct oc:Value}{an od:Option Addr}
  {osl:Array (Option Value)} {N ps:List Str} {sp:Sp} (lk:K.lookup f=some ⟨oc,od,.func (PySem.W.fnOf name qual params body scope dV kV doc pm an cdv ct),osl⟩) (hcd:PySem.W.codeIn K cdv qual=true) (S:Zl N ps scope)
  (len:∀ vs H Q E,sp vs H Q E->vs.length=ps.length)
  (hbody:∀ (A:Around) (outer:List Env) (s:Shared) (H:Hp) (vs:#[b]) (Q:VK) (E:XK),W6 k (A.deeper (envOfC qual scope s.heap.objs.size f cdv))->sp vs H Q E ->
   ∃ t,PSs (cxOf CX P w K mg base N qual scope f cdv A outer s H E) body t/\t { nx:=fun _ H'=>Q .non H',rt:=Q } (Ke N vs) H) :
  FnOk P w K mg base CX (k+1) f (PySem.W.fnOf name qual params body scope dV kV doc pm an cdv ct) ps sp:=by
 refine⟨len,fun A outer s H args us vs Q E hr e0 hb r hsp=>?_⟩;have hl:=len _ _ _ _ hsp;have KX:K.In s.heap:=e0.mod.kin.keeps fun b o e=>(e0.bs b o e).1;have lim:s.heap.NoLimit:=e0.mod.nolimit.keeps fun b o e=>(e0.bs b o e).1;have hkind:∀ y∈ps.zip us,scope.names.lookup y.1=some .local\/(scope.names.lookup y.1=some .cell/\((cellsFrom (s.heap.objs.size+1) scope.names []).lookup y.1).isSome=true):=fun ⟨n,v⟩ hy=>by
  rcases S.par n (List.of_mem_zip hy).1 with q|q
  ·exact .inl q
  ·exact .inr ⟨q,PySem.W.cellsFrom_some _ _ _ (.inl q)⟩
 refine codeAny_call_function hr.depth (KX _ _ lk) rfl S.co S.gen rfl (PySem.W.codeRec_of KX hcd) (hb _ _ _ _ ?_);refine wpAny_newFunctionEnv_cells S.kind hkind fun env he s1 x=>?_;subst he;refine⟨lim.keeps x.toInCall.keep,codeAny_func ?_⟩;obtain⟨t,ht,hq⟩:=hbody A outer s H vs Q E (hr.deeper _) hsp;have I:Inv (cxOf CX P w K mg base N qual scope f cdv A outer s H E) [] (Ke N vs) H s1:=zc5 S hr.hd e0 hl r x;refine wpAny_mono (ht [] s1 (Ke N vs) H _ I hq) (fun fl s' hs=>?_) fun e s' hs=>hs;have fin:∀ {σ':St} {H':Hp} {v:V} {u:Value},Inv (cxOf CX P w K mg base N qual scope f cdv A outer s H E) [] σ' H' s'->RelV v u->Q v H'->CE outer P w H s Q u s' :=
  fun {σ' H' v u} J rv q=>⟨v,H',J.os,J.bare,J.base,J.hok,rv,q⟩
 cases fl with
 | ret u =>
   obtain⟨v,σ',H',J,rv,q⟩:=hs;exact fin J rv q
 | next =>
   obtain⟨σ',H',J,q⟩:=hs;exact fin (v:=V.non) (u:=Value.none) J rfl q
 | brk =>
   obtain⟨_,_,_,q⟩:=hs;exact False.elim q
 | cont =>
   obtain⟨_,_,_,q⟩:=hs;exact False.elim q
section
variable{X:Cx}{x:Str}{p pos:Pos}{e:Expr}{es:List Expr}{t:TA}{id T:String}{r:#[b]->Hp->VK->Prop}
def tCB(r:#[b]->Hp->VK->Prop)(t:TA):TE:=fun σ H Q=>t σ H fun vs H1=>r vs H1 Q
theorem Zm(hc:Vs X (.builtin id) r)(hg:Gl X x)(hm:X.mg x=none)(hv:bootBuiltins x=#[a,.builtin,id])(ha:PA X (e :: es) t)(hn:x≠"__name__":=by decide)(hdb:(x == ("__debug__":Str))=false:=by decide)
  (he:starEach (e :: es) X.env=(false,eval e X.env) :: starEach es X.env:=by rfl) (hpl:(backTo pos (starEach es X.env)).any (·.1)=false:=by rfl):PE X (.Call (.Name x p) (e :: es) [] pos) (tCB r t):=by
 intro pins s σ H Q I h;refine wpAny_Call_Name_kw (Ol I hg hm hv ?_ hn hdb);exact PyProof.Rows.callWith_builtin1 (thn (ha pos pins s σ H _ I h) fun us s1 ⟨vs,H1,I1,r1,q1⟩=>hc pins s1 σ H1 vs us Q I1 r1 q1) he hpl
theorem Xm(hc:Vs X (.type T) r)(hg:Gl X x)(hm:X.mg x=none)(hv:bootBuiltins x=#[a,.type,T])(ha:PA X (e :: es) t)(hn:x≠"__name__":=by decide)(hdb:(x == ("__debug__":Str))=false:=by decide)
  (he:starEach (e :: es) X.env=(false,eval e X.env) :: starEach es X.env:=by rfl) (hpl:(backTo pos (starEach es X.env)).any (·.1)=false:=by rfl):PE X (.Call (.Name x p) (e :: es) [] pos) (tCB r t):=by
 intro pins s σ H Q I h;refine wpAny_Call_Name_kw (Ol I hg hm hv ?_ hn hdb);exact PyProof.Rows.callWith_type1 (thn (ha pos pins s σ H _ I h) fun us s1 ⟨vs,H1,I1,r1,q1⟩=>hc pins s1 σ H1 vs us Q I1 r1 q1) he hpl
end
section
variable{κ:Type}[DecidableEq κ]
def valV(kvs:List (κ×V))(k:κ):Option V:=(kvs.find? fun kv=>decide (kv.1=k)).map (·.2)
def putK(kvs:List (κ×V))(k:κ)(v:V):List (κ×V) :=
 if (kvs.any fun kv=>decide (kv.1=k))=true then kvs.map (fun kv=>if kv.1=k then (kv.1,v) else kv) else kvs++[(k,v)]
def X9(kvs:List (κ×V))(k:κ):List (κ×V):=kvs.filter fun kv=>decide (kv.1≠k)
theorem ze5:valV ([]:List (κ×V)) k=none:=rfl
theorem Xf{p:κ×V}{r:List (κ×V)}{k:κ}(e:p.1=k):valV (p :: r) k=some p.2:=by simp[valV,zw2,e]
theorem Xd{p:κ×V}{r:List (κ×V)}{k:κ}(e:¬ p.1=k):valV (p :: r) k=valV r k:=by simp[valV,zw2,e]
theorem S9(k:κ):∀ kvs:List (κ×V),(kvs.any fun kv=>decide (kv.1=k))=(valV kvs k).isSome
 | []=>rfl
 | p :: r=>by
   rw[zw4];by_cases e:p.1=k
   ·simp only[Xf e,zva e,Bool.true_or,Option.isSome_some]
   ·rw[Xd e,zvf e,Bool.false_or];exact S9 k r
theorem C8(k j:κ)(y:V):∀ kvs:List (κ×V),valV (kvs.map fun kv=>if kv.1=k then (kv.1,y) else kv) j=(valV kvs j).map fun x=>if j=k then y else x
 | []=>rfl
 | p :: r=>by
   have ih:=C8 k j y r;rw[zvg];by_cases h:p.1=k
   ·rw[if_pos h];by_cases e:p.1=j
    ·rw[Xf (p:=(p.1,y)) e,Xf e,zv6,if_pos (e.symm.trans h)]
    ·rw[Xd (p:=(p.1,y)) e,Xd e,ih]
   ·rw[if_neg h];by_cases e:p.1=j
    ·rw[Xf (p:=p) e,Xf e,zv6,if_neg fun z=>h (e.trans z)]
    ·rw[Xd (p:=p) e,Xd e,ih]
theorem Ek(k j:κ)(y:V):∀ kvs:List (κ×V),valV kvs k=none->valV (kvs++[(k,y)]) j=if j=k then some y else valV kvs j
 | [],_=>by
   by_cases e:k=j
   ·rw[if_pos e.symm];exact Xf (p:=(k,y)) e
   ·rw[if_neg fun z=>e z.symm];exact Xd (p:=(k,y)) e
 | p :: r,hn=>by
   rw[List.cons_append];have hk:¬ p.1=k:=fun z=>by rw[Xf z] at hn;cases hn
   rw[Xd hk] at hn;have ih:=Ek k j y r hn;by_cases e:p.1=j
   ·rw[Xf e,Xf e,if_neg fun z=>hk (e.trans z)]
   ·rw[Xd e,Xd e,ih]
theorem Vt(kvs:List (κ×V))(k j:κ)(y:V):valV (putK kvs k y) j=if j=k then some y else valV kvs j:=by
 unfold putK;by_cases a:(kvs.any fun kv=>decide (kv.1=k))=true
 ·rw[if_pos a,C8];rw[S9] at a;by_cases e:j=k
  ·obtain⟨x,hx⟩:=zwf.mp a;rw[if_pos e,e,hx,zv6,if_pos rfl]
  ·rw[if_neg e];cases valV kvs j with
   | none=>rfl
   | some x=>rw[zv6,if_neg e]
 ·rw[if_neg a];refine Ek k j y kvs ?_;rw[S9] at a;cases q:valV kvs k with
  | none=>rfl
  | some x=>rw[q] at a;exact(a rfl).elim
theorem Xk(kvs:List (κ×V))(k:κ)(v:V):(putK kvs k v).length<=kvs.length+1:=by
 unfold putK;split
 ·rw[zu2];omega
 ·rw[zu5,zvp,List.length_nil];omega
theorem ze6{kvs:List (κ×V)}{k:κ}(v:V)(h:valV kvs k=none):putK kvs k v=kvs++[(k,v)]:=by
 unfold putK;rw[S9,h];exact if_neg ⋯
theorem RelO.isSome_eq(r:RelO o u):o.isSome=u.isSome:=by
 cases o with
 | none=>cases u with
   | none=>rfl
   | some _=>exact(show False from r).elim
 | some _=>cases u with
   | none=>exact(show False from r).elim
   | some _=>rfl
theorem RelO.getD(r:RelO o u)(rd:RelV d d'):RelV (o.getD d) (u.getD d'):=by
 cases o with
 | none=>cases u with
   | none=>exact rd
   | some _=>exact(show False from r).elim
 | some _=>cases u with
   | none=>exact(show False from r).elim
   | some _=>exact r
theorem KV.val{kvs:List (κ×V)}{vs:List (κ×Value)}(r:KV kvs vs)(k:κ):RelO (valV kvs k) (valueAt vs k):=by
 unfold KV at r
 induction r with
 | nil=>exact True.intro
 | @cons p q ps qs h t ih =>
   obtain⟨h1,h2⟩:=h;by_cases e:p.1=k
   ·have e':q.1=k:=h1.symm.trans e;have b:valueAt (q :: qs) k=some q.2:=by simp[valueAt,zw2,e']
    rw[Xf e,b];exact h2
   ·have e':¬ q.1=k:=fun z=>e (h1.trans z);have b:valueAt (q :: qs) k=valueAt qs k:=by simp[valueAt,zw2,e']
    rw[Xd e,b];exact ih
theorem KV.any(r:KV kvs vs)(k:κ):(kvs.any fun kv=>decide (kv.1=k))=vs.any fun kv=>decide (kv.1=k):=by
 unfold KV at r
 induction r with
 | nil=>rfl
 | cons h t ih=>rw[zw4,zw4,ih,h.1]
theorem KV.repl(r:KV kvs vs)(k:κ)(ry:RelV y u) :
  KV (kvs.map fun kv=>if kv.1=k then (kv.1,y) else kv) (vs.map fun kv=>if kv.1=k then (kv.1,u) else kv):=by
 unfold KV at r ⊢
 induction r with
 | nil=>exact .nil
 | @cons p q ps qs h t ih =>
   rw[zvg,zvg];refine .cons ?_ ih;obtain⟨h1,h2⟩:=h;by_cases e:p.1=k
   ·rw[if_pos e,if_pos (h1.symm.trans e)];exact⟨h1,ry⟩
   ·rw[if_neg e,if_neg fun z=>e (h1.trans z)];exact⟨h1,h2⟩
theorem KV.put(r:KV kvs vs)(k:κ)(ry:RelV y u):KV (putK kvs k y) (stored vs k u):=by
 unfold putK stored;rw[r.any k];by_cases e:(vs.any fun kv=>decide (kv.1=k))=true
 ·rw[if_pos e,if_pos e];exact r.repl k ry
 ·rw[if_neg e,if_neg e];exact Paired.snoc r ⟨rfl,ry⟩
theorem KV.drop(r:KV kvs vs)(k:κ):KV (X9 kvs k) (without vs k):=by
 unfold KV at r ⊢;unfold X9 without
 induction r with
 | nil=>exact .nil
 | @cons p q ps qs h t ih =>
   obtain⟨h1,h2⟩:=h;rw[zwd,zwd];by_cases e:p.1=k
   ·have a:¬ decide (p.1≠k)=true:=by simp[e]
    have b:¬ decide (q.1≠k)=true:=by simp[h1.symm.trans e]
    rw[if_neg a,if_neg b];exact ih
   ·have e':¬ q.1=k:=fun z=>e (h1.trans z);have a:decide (p.1≠k)=true:=by simp[e]
    have b:decide (q.1≠k)=true:=by simp[e']
    rw[if_pos a,if_pos b];exact .cons ⟨h1,h2⟩ ih
theorem KV.keys{kvs:List (κ×V)}{vs:List (κ×Value)}(r:KV kvs vs):kvs.map (·.1)=vs.map (·.1):=by
 unfold KV at r
 induction r with
 | nil=>rfl
 | cons h t ih=>rw[zvg,zvg,ih,h.1]
theorem KV.length(r:KV kvs vs):kvs.length=vs.length:=Paired.length r
theorem C9(kvs:List (κ×V))(k:κ):(X9 kvs k).length<=kvs.length:=zvz _ _
end
theorem Kf(r:RelV (kV k) u):(Yj P w).is k u=true:=by
 cases k with
 | inl i=>obtain⟨t,e⟩:=(show ∃ t,u=Value.int i t from r);subst e;exact Ct P w i t
 | inr x=>obtain⟨t,e⟩:=(show ∃ t,u=Value.str x t from r);subst e;exact Cu P w x t
theorem El:∀ {ks:List Key} {us:List Value},Vals (ks.map kV) us->ItemsAre (Yj P w) ks us
 | [],_,r=>by rw[List.map_nil] at r;cases r;exact .nil
 | k :: ks,_,r=>by
   rw[zvg] at r;cases r with
   | cons h t=>exact .cons (Kf h) (El t)
abbrev KT(H:Hp):List (List Key×V)->List (List Key×Addr×Value)->Prop:=Paired fun p q=>p.1=q.1/\H q.2.1=some (.tup (p.1.map kV))/\RelV p.2 q.2.2
theorem KT.val{H:Hp}{kvs:List (List Key×V)}{xs:List (List Key×Addr×Value)}(r:KT H kvs xs)(k:List Key):RelO (valV kvs k) ((atKey xs k).map (·.2)):=by
 induction r with
 | nil=>exact True.intro
 | @cons p q ps qs h t ih =>
   obtain⟨h1,_,h2⟩:=h;by_cases e:p.1=k
   ·have e':q.1=k:=h1.symm.trans e;have b:atKey (q :: qs) k=some q.2:=by simp[atKey,zw2,e']
    rw[Xf e,b];exact h2
   ·have e':¬ q.1=k:=fun z=>e (h1.trans z);have b:atKey (q :: qs) k=atKey qs k:=by simp[atKey,zw2,e']
    rw[Xd e,b];exact ih
theorem KT.repl(r:KT H kvs xs)(k:List Key)(ry:RelV y u) :
  KT H (kvs.map fun kv=>if kv.1=k then (kv.1,y) else kv) (xs.map (putAt k u)):=by
 induction r with
 | nil=>exact .nil
 | @cons p q ps qs h t ih =>
   rw[zvg,zvg];refine .cons ?_ ih;obtain⟨h1,h2,h3⟩:=h;unfold putAt;by_cases e:p.1=k
   ·rw[if_pos e,if_pos (h1.symm.trans e)];exact⟨h1,h2,ry⟩
   ·rw[if_neg e,if_neg fun z=>e (h1.trans z)];exact⟨h1,h2,h3⟩
theorem KT.put(r:KT H kvs xs)(k:List Key)(hb:H b=some (.tup (k.map kV)))(ry:RelV y u) :
  KT H (putK kvs k y) (storedH xs k b u):=by
 have e:(kvs.any fun kv=>decide (kv.1=k))=(atKey xs k).isSome:=by
  rw[S9,(r.val k).isSome_eq,Option.isSome_map]
 unfold putK storedH;rw[e];by_cases q:(atKey xs k).isSome=true
 ·rw[if_pos q,if_pos q];exact r.repl k ry
 ·rw[if_neg q,if_neg q];exact Paired.snoc r ⟨rfl,hb,ry⟩
theorem KT.keeps(r:KT H kvs xs)(ht:∀ b ys,H b=#[a,.tup,ys]->H' b=#[a,.tup,ys]):KT H' kvs xs :=
 Paired.mapP r fun _ _ z=>⟨z.1,ht _ _ z.2.1,z.2.2⟩
section
variable{P:Program}{w:World}{H:Hp}{h:Heap}{a:Addr}
theorem zh8(ok:HOk P w H h)(e:Rd H a u):Y8 P w H h a u:=e.ok ok
theorem Qj(ok:HOk P w H h)(e:Rd H a (.dK kvs)):kvs.length<=sizeLine/\(a == sysModules)=false/\∃ vs,KV kvs vs/\h.DictOf (Yj P w) a vs :=
 show Y8 P w H h a (.dK kvs) from zh8 ok e
theorem Ba(ok:HOk P w H h)(e:H a=#[a,.dK,kvs]):kvs.length<=sizeLine/\(a == sysModules)=false/\∃ vs,KV kvs vs/\h.DictOf (Yj P w) a vs:=Qj ok (.inl e)
theorem Ou(ok:HOk P w H h)(e:H a=some (.tup (ks.map kV))):(tupleKind (Yj P w)).is h ks a:=by
 obtain⟨_,its,r,o,h1,h2,n,h3⟩:=(show Y8 P w H h a (.tup (ks.map kV)) from ok a _ e);exact⟨o,its.toArray,n,h1,h2,h3,by simpa using El r⟩
theorem J5(ok:HOk P w H h)(e:Rd H a (.dT kvs)):kvs.length<=sizeLine/\(a == sysModules)=false /\
  ∃ xs,KT H kvs xs/\h.DictOfH (tupleKind (Yj P w)) a xs:=by
 obtain⟨z,y,xs,r,o,es,ep,h1,h2,h3,h4,h5⟩:=(show Y8 P w H h a (.dT kvs) from zh8 ok e);refine⟨z,y,xs,r,o,es,ep,h1,h2,h3,h4,fun x hx=>?_,h5⟩;have all:∀ {l:List (List Key×V)} {m:List (List Key×Addr×Value)},KT H l m->∀ x∈m,(tupleKind (Yj P w)).is h x.1 x.2.1:=by
  intro l m q
  induction q with
  | nil=>intro x hx;exact nomatch hx
  | @cons p q ps qs hq t ih =>
    intro x hx;rcases zu7.mp hx with e|hx
    ·subst e;exact Ou ok (by rw[<- hq.1];exact hq.2.1)
    ·exact ih x hx
 exact all r x hx
theorem zh9(ok:HOk P w H h)(e:H a=#[a,.dT,kvs]):kvs.length<=sizeLine/\(a == sysModules)=false /\
  ∃ xs,KT H kvs xs/\h.DictOfH (tupleKind (Yj P w)) a xs:=J5 ok (.inl e)
end
def DGet(H:Hp)(a:Addr)(y:V)(r:Option V):Prop :=
 (∃ kvs k,Rd H a (.dK kvs)/\y=kV k/\r=valV kvs k)\/∃ kvs k b,Rd H a (.dT kvs)/\y=.ref b/\H b=some (.tup (k.map kV))/\r=valV kvs k
def DPut(H:Hp)(a:Addr)(y v:V)(H':Hp):Prop :=
 (∃ kvs k,H a=#[a,.dK,kvs]/\y=kV k/\kvs.length<sizeLine/\H'=upd H a (.dK (putK kvs k v))) \/
 ∃ kvs k b,H a=#[a,.dT,kvs]/\y=.ref b/\H b=some (.tup (k.map kV))/\kvs.length<sizeLine/\H'=upd H a (.dT (putK kvs k v))
theorem DGet.k{H:Hp}{a:Addr}{kvs:List (Key×V)}{k:Key}(e:H a=#[a,.dK,kvs]):DGet H a (kV k) (valV kvs k):=.inl ⟨kvs,k,.inl e,rfl,rfl⟩
theorem DGet.t{H:Hp}{a b:Addr}{kvs:List (List Key×V)}{k:List Key}(e:H a=#[a,.dT,kvs])(eb:H b=some (.tup (k.map kV))):DGet H a (.ref b) (valV kvs k):=.inr ⟨kvs,k,b,.inl e,rfl,eb,rfl⟩
theorem DPut.k{H:Hp}{a:Addr}{kvs:List (Key×V)}{k:Key}{v:V}(e:H a=#[a,.dK,kvs])(hl:kvs.length<sizeLine):DPut H a (kV k) v (upd H a (.dK (putK kvs k v))):=.inl ⟨kvs,k,e,rfl,hl,rfl⟩
theorem DPut.t{H:Hp}{a b:Addr}{kvs:List (List Key×V)}{k:List Key}{v:V}(e:H a=#[a,.dT,kvs])(eb:H b=some (.tup (k.map kV)))(hl:kvs.length<sizeLine) :
  DPut H a (.ref b) v (upd H a (.dT (putK kvs k v))):=.inr ⟨kvs,k,b,e,rfl,eb,hl,rfl⟩
section
variable{X:Cx}{pins:#[h]}{σ:St}{H:Hp}{s:Shared}{a:Addr}{y v:V}{u r:Value}{o:Option V}{A:Around}{E:Value->Shared->Prop}
theorem Inv.big(I:#[d]):sysModules<s.heap.objs.size:=by
 have h:mainGlobals<s.heap.objs.size:=(I.mod.glob.keeps I.bk).lt;exact Nat.lt_trans ⋯ h
theorem zc6(hu:A.units+1<cLine)(I:#[d])(g:DGet H a y (some v))(ry:RelV y u)(h:∀ w' s',Inv X pins σ H s'->RelV v w'->Q w' s') :
  wpAny (model X.prog X.w) A (getItem (.ref a) u) Q E s:=by
 rcases g with ⟨kvs,k,e,ey,l⟩|⟨kvs,k,b,e,ey,eb,l⟩
 ·subst ey;obtain⟨z,hd,vs,rel,dd⟩:=Qj I.hok e;obtain⟨w',hw,rw'⟩:=RelO.some_of (v:=v) (o:=valueAt vs k) (by rw[l];exact rel.val k);exact wpAny_getItem_of (Kf ry) dd.mapOf hw (h w' _ (I.tok _) rw')
 ·subst ey;cases (show u=Value.ref b from ry);obtain⟨z,hd,xs,rel,dd⟩:=J5 I.hok e;obtain⟨w',hw,rw'⟩:=RelO.some_of (v:=v) (o:=(atKey xs k).map (·.2)) (by rw[l];exact rel.val k);obtain⟨p,hp,hp2⟩:=zw1.mp hw;refine wpAny_getItem_heap (tupleKind_room_in1 hu) (Ou I.hok eb) dd hp ?_;rw[hp2];exact h w' _ (I.tok _) rw'
theorem zln(hu:A.units+1<cLine)(I:#[d])(g:DGet H a y o)(ry:RelV y u)(h:∀ s',Inv X pins σ H s'->Q (.bool o.isSome) s') :
  wpAny (model X.prog X.w) A (compareOp .In u (.ref a)) Q E s:=by
 rcases g with ⟨kvs,k,e,ey,l⟩|⟨kvs,k,b,e,ey,eb,l⟩
 ·subst ey;obtain⟨z,hd,vs,rel,dd⟩:=Qj I.hok e;refine wpAny_in_of (Kf ry) hd dd.mapOf ?_;rw[<- (rel.val k).isSome_eq,<- l];exact h _ (I.tok _)
 ·subst ey;cases (show u=Value.ref b from ry);obtain⟨z,hd,xs,rel,dd⟩:=J5 I.hok e;refine wpAny_in_heap (tupleKind_room_in1 hu) (Ou I.hok eb) hd dd ?_;have q:=(rel.val k).isSome_eq;rw[Option.isSome_map] at q;rw[<- q,<- l];exact h _ (I.tok _)
theorem zg8(hu:A.units+1<cLine)(I:#[d])(g:DGet H a y o)(ry:RelV y u)(h:∀ s',Inv X pins σ H s'->Q (.bool (!o.isSome)) s') :
  wpAny (model X.prog X.w) A (compareOp .NotIn u (.ref a)) Q E s:=by
 rcases g with ⟨kvs,k,e,ey,l⟩|⟨kvs,k,b,e,ey,eb,l⟩
 ·subst ey;obtain⟨z,hd,vs,rel,dd⟩:=Qj I.hok e;refine wpAny_notIn_of (Kf ry) hd dd.mapOf ?_;rw[<- (rel.val k).isSome_eq,<- l];exact h _ (I.tok _)
 ·subst ey;cases (show u=Value.ref b from ry);obtain⟨z,hd,xs,rel,dd⟩:=J5 I.hok e;refine wpAny_notIn_heap (tupleKind_room_in1 hu) (Ou I.hok eb) hd dd ?_;have q:=(rel.val k).isSome_eq;rw[Option.isSome_map] at q;rw[<- q,<- l];exact h _ (I.tok _)
theorem Po(I:#[d])(mu:Mut (H a))(hs:Heap.SameBut a s.heap h')(he:∃ q,h'.get? a=some q)(new:Y8 X.prog X.w (upd H a ob) h' a ob) :
  Inv X pins σ (upd H a ob) { s with heap:=h',toks:=t' } :=
 I.write (x:=a) (e:=a) mu (.inl rfl) (fun b q hb z=>(hs.2 b hb).trans z) he new
theorem J6(z:kvs.length<=sizeLine)(hd:(a == sysModules)=false)(rel:KV kvs vs)(dd:h'.DictOf (Yj P w) a vs) :
  Y8 P w H' h' a (.dK kvs):=⟨z,hd,vs,rel,dd⟩
theorem zc7(hu:A.units+1<cLine)(I:#[d])(g:DPut H a y v H')(ry:RelV y u)(rv:RelV v r)(h:∀ s',Inv X pins σ H' s'->Q () s') :
  wpAny (model X.prog X.w) A (setItem (.ref a) u r) Q E s:=by
 rcases g with ⟨kvs,k,e,ey,l,eH⟩|⟨kvs,k,b,e,ey,eb,l,eH⟩
 ·subst ey eH;obtain⟨z,hd,vs,rel,dd⟩:=Ba I.hok e;have hz:vs.length<=sizeLine:=by rw[<- rel.length];exact z
  have hl:(putK kvs k v).length<=sizeLine:=by have:=Xk kvs k v;omega
  refine wpAny_setItem_pairs (hsz:=hz) (Kf ry) dd fun h' dd' hs=>h _ ?_;have he:∃ q,h'.get? a=some q:=let ⟨q,_,_,hq,_⟩:=dd';⟨q,hq⟩;exact Po I (by rw[e];exact True.intro) hs he (J6 hl hd (rel.put k rv) dd')
 ·subst ey eH;cases (show u=Value.ref b from ry);obtain⟨z,hd,xs,rel,dd⟩:=zh9 I.hok e;have hz:xs.length<=sizeLine:=by rw[<- Paired.length rel];exact z
  have hl:(putK kvs k v).length<=sizeLine:=by have:=Xk kvs k v;omega
  refine wpAny_setItem_heap (hsz:=hz) (tupleKind_room_in1 hu) (Ou I.hok eb) dd fun h' dd' hs=>h _ ?_;obtain⟨q,es,ep,hq,h2,h3,h4,_,h5⟩:=dd';refine Po I (by rw[e];exact True.intro) hs ⟨q,hq⟩ ⟨hl,hd,_,(rel.put k eb rv).keeps fun c ys ec=>?_,q,es,ep,hq,h2,h3,h4,h5⟩;rw[Zi (Yw ec e (fun z=>nomatch z))];exact ec
end
section
variable{X:Cx}{pins:#[h]}{σ:St}{H:Hp}{s:Shared}{a:Addr}{kvs:List (Key×V)}{k:Key}{u:Value}{A:Around}{E:Value->Shared->Prop}
theorem zkr(I:#[d])(e:H a=#[a,.dK,kvs])(ry:RelV (kV k) u)(l:valV kvs k=some v)(hm:more=[]\/∃ x,more=[x])
  (h:∀ w' s',Inv X pins σ (upd H a (.dK (X9 kvs k))) s'->RelV v w'->Q w' s'):wpAny (model X.prog X.w) A (call (.builtin "dict.pop") (.ref a :: u :: more)) Q E s:=by
 obtain⟨z,hd,vs,rel,dd⟩:=Ba I.hok e;obtain⟨w',hw,rw'⟩:=RelO.some_of (v:=v) (o:=valueAt vs k) (by rw[<- l];exact rel.val k);have hp:(keyPart u).isSome=true:=by
  cases k with
  | inl i=>obtain⟨t,q⟩:=(show ∃ t,u=Value.int i t from ry);subst q;rfl
  | inr x=>obtain⟨t,q⟩:=(show ∃ t,u=Value.str x t from ry);subst q;rfl
 have ha:argsOk "dict.pop" ⟨.ref a :: u :: more,[]⟩:=by
  rcases hm with q|⟨x,q⟩
  ·subst q;exact PySem.F.args_dict_pop_2 _ _
  ·subst q;exact PySem.F.args_dict_pop_3 _ _ _
 refine call_meetsIn PySem.F.slot_dict_pop dd.typeIs PySem.F.entry_dict_pop ha (meets_dict_pop_there (Yj X.prog X.w) a (Kf ry) more hm hp)
  ⟨vs,w',dd,by rw[<- rel.length];exact z,hw,fun h' dd' hs=>h w' _ ?_ rw'⟩
 have he:∃ q,h'.get? a=some q:=let ⟨q,_,_,hq,_⟩:=dd';⟨q,hq⟩;exact Po I (by rw[e];exact True.intro) hs he (J6 (zvh (C9 kvs k) z) hd (rel.drop k) dd')
theorem zks(I:#[d])(e:Rd H a (.dK kvs))(h:∀ t s',Inv X pins σ H s'->Q (.int kvs.length t) s'):wpAny (model X.prog X.w) A (call (.builtin "len") [.ref a]) Q E s:=by
 obtain⟨z,hd,vs,rel,dd⟩:=Qj I.hok e;refine call_len_dict hd dd (by rw[<- rel.length];rw[sizeLine_eq] at z;omega) ?_;rw[<- rel.length];exact h _ _ (I.tok _)
end
def zi3(i:Expr):Prop:=∀ ov iv,subscripted i false ov iv=operate [ov,iv] (getItem ov iv)
theorem zg9{prog:Program}{w:World}{A:Around}{E:Value->Shared->Prop}{s:Shared}{env:Env}{value slice:Expr}{pos:Pos}{T id:String}{Q:Value->Shared->Prop}
  (hl:typeLookup (.type T) "__getitem__"=pure #[a,.builtin,id]) (hs:zi3 slice)
  (h:wpAny (model prog w) A (eval value env) (fun o s₁=>wpAny (model prog w) A (eval slice env) (fun i s₂=>s₂.TypeIs o T/\wpAny (model prog w) A (getItem o i) Q E s₂) E s₁) E s) :
  wpAny (model prog w) A (eval (.Subscript value slice pos) env) Q E s:=by
 refine Subscript_ (wpAny_mono h (fun o s₁ h₁=>wpAny_mono h₁ (fun i s₂ h₂=>?_) fun _ _ x=>x) fun _ _ x=>x);obtain⟨hT,h₂⟩:=h₂;unfold subscriptTail;refine wpAny_bind ?_;rw[getitemInPython_of_ne hT.not_modules];refine wpAny_bind (wpAny_specialOf hT hl ?_);have fin:wpAny (model prog w) A (subscripted slice false o i) (fun r s₃=>wpAny (model prog w) A (letTemporaryGo value o r >>= fun _=>pure r) Q E s₃) E s₂:=by
  rw[hs o i];exact wpAny_operating (wpAny_mono h₂ (fun r s₃ h₃=>wpAny_bind (wpAny_letTemporaryGo (wpAny_pure h₃))) fun _ _ x=>x)
 first
  | exact wpAny_pure (wpAny_bind fin)
  | exact wpAny_bind (wpAny_pure (wpAny_bind fin))
  | exact wpAny_bind fin
theorem Bb(I:#[d])(g:DGet H a y o):s.TypeIs (.ref a) "dict":=by
 rcases g with ⟨kvs,k,e,_,_⟩|⟨kvs,k,b,e,_,_,_⟩
 ·obtain⟨_,_,vs,_,dd⟩:=Qj I.hok e;exact dd.typeIs
 ·obtain⟨_,_,xs,_,dd⟩:=J5 I.hok e;exact dd.typeIs
inductive zi4(Q:VK)(x:V)(y:V)(H2:Hp):Prop where
 | mk(a)(v)(_:x=.ref a)(_:DGet H2 a y (some v))(_:Q v H2)
def zia(td ty:TE):TE:=fun σ H Q=>td σ H fun x H1=>ty σ H1 fun y H2=>zi4 Q x y H2
inductive zkt(Q:VK)(y:V)(x:V)(H2:Hp):Prop where
 | mk(a)(o)(_:x=.ref a)(_:DGet H2 a y o)(_:Q (.bl o.isSome) H2)
def zlo(ty td:TE):TE:=fun σ H Q=>ty σ H fun y H1=>td σ H1 fun x H2=>zkt Q y x H2
inductive ze7(Q:VK)(y:V)(x:V)(H2:Hp):Prop where
 | mk(a)(o)(_:x=.ref a)(_:DGet H2 a y o)(_:Q (.bl (!o.isSome)) H2)
def zha(ty td:TE):TE:=fun σ H Q=>ty σ H fun y H1=>td σ H1 fun x H2=>ze7 Q y x H2
inductive zi5(D:P5)(σ:L2.St)(v:V)(x:V)(y:V)(H3:Hp):Prop where
 | mk(a)(H4)(_:x=.ref a)(_:DPut H3 a y v H4)(_:D.nx σ H4)
def zib(td ty tv:TE):TS:=fun D σ H=>tv σ H fun v H1=>td σ H1 fun x H2=>ty σ H2 fun y H3=>zi5 D σ v x y H3
section
variable{X:Cx}{o i e value:Expr}{pos pos' tpos:Pos}{td ty tv:TE}
theorem zhb(hu:X.A.units+1<cLine)(ho:PE X o td)(hi:PE X i ty)(hs:zi3 i):PE X (.Subscript o i pos) (zia td ty):=by
 intro pins s σ H Q I h;refine zg9 PySem.F.slot_dict_getitem.lookup hs (thn (ho pins s σ H _ I h) fun u s1 ⟨x,H1,I1,rx,q1⟩=>thn (hi pins s1 σ H1 _ I1 q1) fun iv s2 ⟨y,H2,I2,ry,a,v,ex,g,q2⟩=>?_);subst ex;obtain rfl:u=Value.ref a:=rx;exact⟨Bb I2 g,zc6 hu I2 g ry fun w' s3 I3 rw'=>⟨v,H2,I3,rw',q2⟩⟩
theorem Ov(hu:X.A.units+1<cLine)(hi:PE X i ty)(ho:PE X o td):PC X .In i o (zlo ty td):=by
 intro pins s σ H Q I h;refine thn (hi pins s σ H _ I h) fun iv s1 ⟨y,H1,I1,ry,q1⟩=>thn (ho pins s1 σ H1 _ I1 q1) fun u s2 ⟨x,H2,I2,rx,a,ov,ex,g,q2⟩=>?_;subst ex;obtain rfl:u=Value.ref a:=rx;exact zln hu I2 g ry fun s3 I3=>⟨.bl ov.isSome,H2,I3,rfl,q2⟩
theorem Mx(hu:X.A.units+1<cLine)(hi:PE X i ty)(ho:PE X o td):PC X .NotIn i o (zha ty td):=by
 intro pins s σ H Q I h;refine thn (hi pins s σ H _ I h) fun iv s1 ⟨y,H1,I1,ry,q1⟩=>thn (ho pins s1 σ H1 _ I1 q1) fun u s2 ⟨x,H2,I2,rx,a,ov,ex,g,q2⟩=>?_;subst ex;obtain rfl:u=Value.ref a:=rx;exact zg8 hu I2 g ry fun s3 I3=>⟨.bl (!ov.isSome),H2,I3,rfl,q2⟩
theorem Ym(hu:X.A.units+1<cLine)(ho:PE X o td)(hi:PE X i ty)(hv:PE X value tv)(hs:swapsWith value (some (.Subscript o i pos')) pos.line X.env=pure false) :
  PS X (.Assign [.Subscript o i pos'] value pos) (zib td ty tv):=by
 intro pins s σ H D I h;refine wpAny_Assign_Subscript (thn (hv pins s σ H _ I h) fun r s1 ⟨v,H1,I1,rv,q1⟩=>thn (ho pins s1 σ H1 _ I1 q1) fun u s2 ⟨x,H2,I2,rx,q2⟩=>thn (hi pins s2 σ H2 _ I2 q2) fun iv s3 ⟨y,H3,I3,ry,a,H4,ex,g,q3⟩=>?_) hs;subst ex;obtain rfl:u=Value.ref a:=rx;exact zc7 hu I3 g ry rv fun s4 I4=>⟨σ,H4,I4,q3⟩
end
theorem Bc(h:Heap)(hb:sysModules<h.objs.size):Y8 P w H (h.push { cls:=.type "dict",data:=.dict #[] }) h.objs.size (.dK []) :=
 ⟨zvw _,zvs.mpr (Ne.symm (zvv hb)),[],.nil,Heap.DictOf.new h⟩
theorem ze8(h:Heap)(hb:sysModules<h.objs.size):Y8 P w H (h.push { cls:=.type "dict",data:=.dict #[] }) h.objs.size (.dT []) :=
 ⟨zvw _,zvs.mpr (Ne.symm (zvv hb)),[],.nil,_,#[],0,Heap.get?_push_size _ rfl,⟨rfl,rfl,rfl⟩,rfl,rfl,zww⟩
def zi6:TE:=fun _ H Q=>∀ p,H p=none->Q (.ref p) (upd H p (.dK []))
def zi7:TE:=fun _ H Q=>∀ p,H p=none->Q (.ref p) (upd H p (.dT []))
section
variable{X:Cx}{pos:Pos}
theorem Ra:PE X (.Dict [] [] pos) zi6:=fun pins s σ H Q I h =>
 wpAny_Dict_empty ⟨.ref s.heap.objs.size,_,I.laid (a:=s.heap.objs.size) (o:=.dK []) (t':=s.toks) (fun _ _ q=>Heap.get?_push_of_some _ q) (zvd _) (Bc s.heap I.big),rfl,h _ (I.hok.fresh (zvd _))⟩
theorem J7:PE X (.Dict [] [] pos) zi7:=fun pins s σ H Q I h =>
 wpAny_Dict_empty ⟨.ref s.heap.objs.size,_,I.laid (a:=s.heap.objs.size) (o:=.dT []) (t':=s.toks) (fun _ _ q=>Heap.get?_push_of_some _ q) (zvd _) (ze8 s.heap I.big),rfl,h _ (I.hok.fresh (zvd _))⟩
end
def zan:List (TE×TE)->St->Hp->(List (V×V)->Hp->Prop)->Prop
 | [],_,H,Q=>Q [] H
 | (tk,tv) :: r,σ,H,Q=>tk σ H fun x H1=>tv σ H1 fun y H2=>zan r σ H2 fun ps H3=>Q ((x,y) :: ps) H3
abbrev VV:List (V×V)->List (Value×Value)->Prop:=Paired fun p q=>RelV p.1 q.1/\RelV p.2 q.2
def PPs(X:Cx)(pos:Pos)(keys:List (Option Expr))(values:List Expr)(trs:List (TE×TE)):Prop :=
 ∀ (pins:#[h]) (s:Shared) (σ:St) (H:Hp) (Q:List (V×V)->Hp->Prop),#[d]->zan trs σ H Q ->
   wpAny (model X.prog X.w) X.A (evalPairs (pairTrees keys values X.env pos)) (fun vs s'=>∃ ps H',Inv X pins σ H' s'/\VV ps vs/\Q ps H') X.xe s
theorem zbw:PPs X pos [] [] []:=fun pins s σ H Q I h=>pairTrees_nil_walk ⟨[],H,I,.nil,h⟩
theorem Td(hk:PE X k tk)(hv:PE X v tv)(hr:PPs X pos ks vs trs) :
  PPs X pos (some k :: ks) (v :: vs) ((tk,tv) :: trs):=fun pins s σ H Q I h =>
 pairTrees_cons_walk (thn (hk pins s σ H _ I h) fun u s1 ⟨x,H1,I1,rx,q1⟩=>thn (hv pins s1 σ H1 _ I1 q1) fun w2 s2 ⟨y,H2,I2,ry,q2⟩ =>
  thn (hr pins s2 σ H2 _ I2 q2) fun ws s3 ⟨ps,H3,I3,rel,q3⟩=>⟨(x,y) :: ps,H3,I3,.cons ⟨rx,ry⟩ rel,q3⟩)
def Ud(kvs more:List (Key×V)):List (Key×V):=more.foldl (fun acc kv=>putK acc kv.1 kv.2) kvs
theorem KV.merge:∀ {more:List (Key×V)} {rs:List (Key×Value)} {kvs:List (Key×V)} {vs:List (Key×Value)},KV more rs->KV kvs vs->KV (Ud kvs more) (merged vs rs):=by
 intro more rs kvs vs r;unfold KV at r
 induction r generalizing kvs vs with
 | nil=>intro q;exact q
 | @cons p q ps qs h t ih =>
   intro r0;have e:KV (putK kvs p.1 p.2) (stored vs q.1 q.2):=by
    have:=r0.put p.1 h.2;rw[<- h.1];exact this
   exact ih e
theorem Sm:∀ (more kvs:List (Key×V)),(Ud kvs more).length<=kvs.length+more.length
 | [],kvs=>by show kvs.length<=kvs.length+0;omega
 | p :: r,kvs=>by
   have h1:=Sm r (putK kvs p.1 p.2);have h2:=Xk kvs p.1 p.2;show (Ud (putK kvs p.1 p.2) r).length<=_;rw[zvp];omega
theorem J8:∀ {kvs:List (Key×V)} {ws:List (Value×Value)},VV (kvs.map fun kv=>(kV kv.1,kv.2)) ws->∃ rs,Carries (Yj P w) ws rs/\KV kvs rs
 | [],_,r=>by rw[List.map_nil] at r;cases r;exact⟨[],True.intro,.nil⟩
 | p :: kvs,_,r=>by
   rw[zvg] at r;cases r with
   | @cons a b as bs h t =>
     obtain⟨rs,c,q⟩:=J8 (P:=P) (w:=w) t;obtain⟨b1,b2⟩:=b;exact⟨(p.1,b2) :: rs,⟨Kf h.1,rfl,c⟩,.cons ⟨rfl,h.2⟩ q⟩
def zku(trs:List (TE×TE)):TE:=fun σ H Q=>∀ p,H p=none->zan trs σ (upd H p (.dK [])) fun ps H2=>H2 p=#[a,.dK,[]]/\∃ kvs:List (Key×V),ps=kvs.map (fun kv=>(kV kv.1,kv.2))/\kvs.length<=15/\Q (.ref p) (upd H2 p (.dK (Ud [] kvs)))
theorem zbx(h:PPs X pos keys values trs)(hall:keys.all (·.isSome)=true)(hl:keys.length=values.length)(h0:keys≠[])
  (h15:keys.length<=15):PE X (.Dict keys values pos) (zku trs):=by
 intro pins s σ H Q I q;have hn:=I.hok.fresh (zvd s.heap.objs.size);have I1:=I.laid (a:=s.heap.objs.size) (o:=.dK []) (h':=s.heap.push { cls:=.type "dict",data:=.dict #[] }) (t':=s.toks) (fun _ _ q=>Heap.get?_push_of_some _ q) (zvd _) (Bc s.heap I.big);refine wpAny_Dict_walk (knd:=Yj X.prog X.w) hall hl h0 h15 (thn (h pins _ σ _ _ I1 (q _ hn)) fun ws s2 ⟨ps,H2,I2,rel,e,kvs,ep,lk,q2⟩=>?_);subst ep;obtain⟨rs,c,rk⟩:=J8 (P:=X.prog) (w:=X.w) rel;obtain⟨z,hd,vs0,r0,dd⟩:=Ba I2.hok e;cases r0;refine⟨rs,c,dd,fun h' dd' hs=>⟨.ref s.heap.objs.size,_,?_,rfl,q2⟩⟩;have hz:(Ud [] kvs).length<=sizeLine:=by
  have h1:=Sm kvs [];rw[List.length_nil] at h1;rw[sizeLine_eq];omega
 have he:∃ q,h'.get? s.heap.objs.size=some q:=let ⟨q,_,_,hq,_⟩:=dd';⟨q,hq⟩;exact Po I2 (by rw[e];exact True.intro) hs he (J6 hz hd (rk.merge .nil) dd')
structure M1(X:Cx)(o:Expr)(m:Str)(apos:Pos)(e:Expr)(cpos:Pos):Prop where
 base:attributeBase o m X.env (eval o X.env)=eval o X.env
 few:((backTo cpos (starEach [e] X.env)).all (fun x=>!x.1)&&(backToKw cpos (keywordEach [] X.env)).all (fun x=>x.1.isSome)
  && decide (([e]:List Expr).length+([]:List Keyword).length+(if ([]:List Keyword).isEmpty then 0 else 1)<30))=true
 line:(apos.endLine == cpos.line)=true
 trees:backTo cpos (starEach [e] X.env)=[(false,eval e X.env)]
structure M2(X:Cx)(o:Expr)(m:Str)(apos:Pos)(e f:Expr)(cpos:Pos):Prop where
 base:attributeBase o m X.env (eval o X.env)=eval o X.env
 few:((backTo cpos (starEach [e,f] X.env)).all (fun x=>!x.1)&&(backToKw cpos (keywordEach [] X.env)).all (fun x=>x.1.isSome)
  && decide (([e,f]:List Expr).length+([]:List Keyword).length+(if ([]:List Keyword).isEmpty then 0 else 1)<30))=true
 line:(apos.endLine == cpos.line)=true
 trees:backTo cpos (starEach [e,f] X.env)=[(false,eval e X.env),(false,eval f X.env)]
def IsD(H:Hp)(a:Addr):Prop:=(∃ kvs,Rd H a (.dK kvs))\/∃ kvs,Rd H a (.dT kvs)
theorem zao(I:#[d])(d:IsD H a) :
  s.TypeIs (.ref a) "dict"/\(∀ b,Value.ref a=.ref b->∃ ob,s.heap.get? b=some ob/\ob.dict=none)/\(a == sysModules)=false:=by
 rcases d with ⟨kvs,e⟩|⟨kvs,e⟩
 ·obtain⟨_,hd,vs,_,dd⟩:=Qj I.hok e;refine⟨dd.typeIs,fun b q=>?_,hd⟩;cases q;obtain⟨ob,_,_,h1,h2,_⟩:=dd;exact⟨ob,h1,h2.2.1⟩
 ·obtain⟨_,hd,xs,_,dd⟩:=J5 I.hok e;refine⟨dd.typeIs,fun b q=>?_,hd⟩;cases q;obtain⟨ob,_,_,h1,h2,_⟩:=dd;exact⟨ob,h1,h2.2.1⟩
section
variable{X:Cx}{pins:#[h]}{σ:St}{H:Hp}{s:Shared}{a:Addr}{y d:V}{u r:Value}{o:Option V}{A:Around}{E:Value->Shared->Prop}
theorem zi8(hu:A.units+1<cLine)(I:#[d])(g:DGet H a y o)(ry:RelV y u)(rd:RelV d r)(h:∀ w' s',Inv X pins σ H s'->RelV (o.getD d) w'->Q w' s') :
  wpAny (model X.prog X.w) A (call (.builtin "dict.get") [.ref a,u,r]) Q E s:=by
 rcases g with ⟨kvs,k,e,ey,l⟩|⟨kvs,k,b,e,ey,eb,l⟩
 ·subst ey;obtain⟨z,hd,vs,rel,dd⟩:=Qj I.hok e;refine call_meetsIn PySem.F.slot_dict_get dd.typeIs PySem.F.entry_dict_get (PySem.F.args_dict_get_3 _ _ _) (meets_dict_get_default (Yj X.prog X.w) a (Kf ry) hd r) ⟨_,dd.mapOf,h _ _ (I.tok _) ?_⟩;rw[l];exact(rel.val k).getD rd
 ·subst ey;cases (show u=Value.ref b from ry);obtain⟨z,hd,xs,rel,dd⟩:=J5 I.hok e;refine call_meetsIn PySem.F.slot_dict_get dd.typeIs PySem.F.entry_dict_get (PySem.F.args_dict_get_3 _ _ _) (meetsH_dict_get_default (tupleKind (Yj X.prog X.w)) a b hd r) ⟨tupleKind_room_in1 hu,k,xs,Ou I.hok eb,dd,h _ _ (I.tok _) ?_⟩;rw[l];exact(rel.val k).getD rd
end
inductive zhc(ty:TE)(tx:TE)(σ:L2.St)(Q:VK)(x:V)(H1:Hp):Prop where
 | mk(a)(_:x=.ref a)(_:IsD H1 a)(_:ty σ H1 fun y H2=>tx σ H2 fun z H3=>∃ o,DGet H3 a y o/\Q (o.getD z) H3)
def zi9(td ty tx:TE):TE:=fun σ H Q=>td σ H fun x H1=>zhc ty tx σ Q x H1
inductive zhd(ty:TE)(σ:L2.St)(Q:VK)(x:V)(H1:Hp):Prop where
 | mk(a)(_:x=.ref a)(_:IsD H1 a)(_:ty σ H1 fun y H2=>∃ kvs k v,H2 a=#[a,.dK,kvs]/\y=kV k/\valV kvs k=some v/\Q v (upd H2 a (.dK (X9 kvs k))))
def zja(td ty:TE):TE:=fun σ H Q=>td σ H fun x H1=>zhd ty σ Q x H1
section
variable{X:Cx}{o e f:Expr}{apos cpos:Pos}{td ty tx:TE}
theorem ze9(hu:X.A.units+1<cLine)(ho:PE X o td)(he:PE X e ty)(hf:PE X f tx)(m:M2 X o "get" apos e f cpos):PE X (.Call (.Attribute o "get" apos) [e,f] [] cpos) (zi9 td ty tx):=by
 intro pins s σ H Q I h;refine wpAny_Call_method m.base m.few m.line PySem.F.plainAttrs_dict PySem.F.slot_dict_get PySem.F.type_dict_get (thn (ho pins s σ H _ I h) fun u s1 ⟨x,H1,I1,rx,a,ex,d,q1⟩=>?_);subst ex;obtain rfl:u=Value.ref a:=rx;obtain⟨t1,t2,_⟩:=zao I1 d;refine⟨t1,t2,?_⟩;rw[m.trees];refine Calls.callWith_builtin rfl (Calls.evalArgs_plain (Calls.spliced_cons (thn (he pins s1 σ H1 _ I1 q1) fun iv s2 ⟨y,H2,I2,ry,q2⟩ =>
  Calls.spliced_cons (thn (hf pins s2 σ H2 _ I2 q2) fun fv s3 ⟨z,H3,I3,rz,ov,g,q3⟩=>Calls.spliced_nil ?_))))
 exact zi8 hu I3 g ry rz fun w' s4 I4 rw'=>⟨_,H3,I4,rw',q3⟩
theorem zfa(ho:PE X o td)(he:PE X e ty)(m:M1 X o "pop" apos e cpos):PE X (.Call (.Attribute o "pop" apos) [e] [] cpos) (zja td ty):=by
 intro pins s σ H Q I h;refine wpAny_Call_method m.base m.few m.line PySem.F.plainAttrs_dict PySem.F.slot_dict_pop PySem.F.type_dict_pop (thn (ho pins s σ H _ I h) fun u s1 ⟨x,H1,I1,rx,a,ex,d,q1⟩=>?_);subst ex;obtain rfl:u=Value.ref a:=rx;obtain⟨t1,t2,_⟩:=zao I1 d;refine⟨t1,t2,?_⟩;rw[m.trees];refine Calls.callWith_builtin rfl (Calls.evalArgs_plain (Calls.spliced_cons (thn (he pins s1 σ H1 _ I1 q1) fun iv s2 ⟨y,H2,I2,ry,kvs,k,v,ea,ey,l,q2⟩=>Calls.spliced_nil ?_)));subst ey;exact zkr I2 ea ry l (.inl rfl) fun w' s3 I3 rw'=>⟨v,_,I3,rw',q2⟩
end
section
variable{X:Cx}{pins:#[h]}{σ:St}{H:Hp}{s:Shared}{a:Addr}{kvs:List (Key×V)}{A:Around}{E:Value->Shared->Prop}
theorem zfb(I:#[d])(e:Rd H a (.dK kvs))(h:∀ p s',H p=none->Inv X pins σ (upd H p (.dK kvs)) s'->Q (.ref p) s'):wpAny (model X.prog X.w) A (call (.type "dict") [.ref a]) Q E s:=by
 obtain⟨z,hd,vs,rel,dd⟩:=Qj I.hok e;refine kt_call_dict hd dd (by rw[<- rel.length];exact z) fun h' dd' hs=>?_;refine h _ _ (I.hok.fresh (zvd _)) (I.laid (a:=s.heap.objs.size) (o:=.dK kvs) (t':=s.toks) (fun b q hq=>?_) (zvd _) (J6 z (zvs.mpr (Ne.symm (zvv I.big))) rel dd'));exact(hs.2 b (zvv (Heap.lt_size hq))).trans (Heap.get?_push_of_some _ hq)
end
end L2
namespace HT
open PySem PyProof.Rows
section
open PySem.SeqAt
open PySem.AutoSeq1 (wpAny_loadPart')
open PySem.MeetsSeq PySem.MeetsSeq2 PySem.MeetsSeq3
end
section
variable{prog:Program}{w:World}{A:Around}{E:Value->Shared->Prop}{s:Shared}
theorem cat_tup(ht:IsTup s.heap t vs.toArray)(hb:IsTup s.heap b ws.toArray)(hv:vs≠[])
  (h1:ws=[]->Q (.ref t) s) (h2:ws≠[]->Q (.ref s.heap.objs.size) { s with heap:=s.heap.push { cls:=.type "tuple",data:=.seq (vs++ws).toArray } })
  (hsz:vs.length+ws.length<=sizeLine):wpAny (model prog w) A (binaryOp .Add (.ref t) (.ref b)) Q E s:=by
 obtain⟨⟨cls,dd,data,sl⟩,ho,hc,n,hd⟩:=id ht;obtain⟨⟨cls2,dd2,data2,sl2⟩,ho2,hc2,n2,hd2⟩:=id hb;simp only at hc hd hc2 hd2;subst hc hd hc2 hd2;have e:vs.toArray++ws.toArray=(vs++ws).toArray:=by simp
 by_cases hw:ws=[]
 ·exact concat_meets ⟨_,ho,rfl⟩ ⟨_,ho2,rfl⟩ noFill_tuple_add seq_tuple_add PySem.F.slot_tuple_add PySem.F.entry_tuple_add (PySem.F.args_tuple_add_2 _ _)
   (tuple_addW1 t b vs.toArray ws.toArray n n2 dd dd2 sl sl2 (by simpa using hv) (by simp[hw])) ⟨ho,ho2,h1 hw⟩
 ·refine concat_meets ⟨_,ho,rfl⟩ ⟨_,ho2,rfl⟩ noFill_tuple_add seq_tuple_add PySem.F.slot_tuple_add PySem.F.entry_tuple_add (PySem.F.args_tuple_add_2 _ _)
   (tuple_addW2 t b vs.toArray ws.toArray n n2 dd dd2 sl sl2 (by simpa using hv) (by simpa using hw) (by rw[zvi,zvi];exact hsz)) ⟨ho,ho2,?_⟩
  rw[e];exact h2 hw
def sIx(n d:Nat):Option Int->Nat
 | none=>d
 | some v=>if v<0 then (v+(n:Int)).toNat else min v.toNat n
theorem sIx_none(n d:Nat):sIx n d none=d:=rfl
theorem sIx_nat(n d k:Nat):sIx n d (some (k:Int))=min k n:=by
 show (if (k:Int)<0 then ((k:Int)+(n:Int)).toNat else min (k:Int).toNat n)=min k n;rw[if_neg ⋯,zvj]
end
end HT
namespace L2
open PySem PySem.Spec PyProof.Rows
abbrev TO:=St->Hp->(Option Int->Hp->Prop)->Prop
def PO(X:Cx)(e:Option Expr)(t:TO):Prop :=
 ∀ (pins:#[h]) (s:Shared) (σ:St) (H:Hp) (Q:Option Int->Hp->Prop),#[d]->t σ H Q ->
   wpAny (model X.prog X.w) X.A (evalPart e X.env) (fun u s'=>∃ o H',Inv X pins σ H' s'/\IsPart u o/\Q o H') X.xe s
def zhe:TO:=fun _ H Q=>Q none H
inductive zjb(Q:Option Int->Hp->Prop)(x:V)(H1:Hp):Prop where
 | mk(i)(_:x=.int i)(_:Q (some i) H1)
def zkv(t:TE):TO:=fun σ H Q=>t σ H fun x H1=>zjb Q x H1
section
variable{X:Cx}{e:Expr}{te:TE}{lo hi:Option Expr}{tl th:TO}{pos p2:Pos}
theorem zby:PO X none zhe:=by
 intro pins s σ H Q I h;rw[evalPart_none];exact wpAny_pure ⟨none,H,I,.none,h⟩
theorem zbz(h:PE X e te):PO X (some e) (zkv te):=by
 intro pins s σ H Q I hw;rw[evalPart_some];refine thn (h pins s σ H _ I hw) fun u s1 ⟨x,H1,I1,r1,q1⟩=>?_;obtain⟨i,rfl,q⟩:=q1;obtain⟨t,rfl⟩:=r1;exact⟨some i,H1,I1,.int i t,q⟩
def SlR(X:Cx)(r:V->Option Int->Option Int->Hp->VK->Prop):Prop :=
 ∀ (pins:#[h]) (s:Shared) (σ:St) (H:Hp) (x:V) (v vl vu:Value) (lo hi:Option Int) (sl:Addr) (Q:VK),#[d]->RelV x v->s.heap.IsSliceOf sl vl vu .none->IsPart vl lo->IsPart vu hi->r x lo hi H Q ->
   ∃ T id,typeLookup (.type T) "__getitem__"=pure #[a,.builtin,id]/\s.TypeIs v T/\wpAny (model X.prog X.w) X.A (getItem v (.ref sl)) (EP X pins σ Q) X.xe s
def tSl(r:V->Option Int->Option Int->Hp->VK->Prop)(te:TE)(tl th:TO):TE:=fun σ H Q=>te σ H fun x H1=>tl σ H1 fun l H2=>th σ H2 fun u H3=>r x l u H3 Q
theorem Bd(hr:SlR X r)(he:PE X e te)(hl:PO X lo tl)(hu:PO X hi th):PE X (.Subscript e (.Slice lo hi none p2) pos) (tSl r te tl th):=by
 intro pins s σ H Q I h;refine Subscript_ (thn (he pins s σ H _ I h) fun v s1 ⟨x,H1,I1,r1,q1⟩=>?_);refine wpAny_Slice (thn (hl pins s1 σ H1 _ I1 q1) fun vl s2 ⟨l,H2,I2,pl,q2⟩=>thn (hu pins s2 σ H2 _ I2 q2) fun vu s3 ⟨u,H3,I3,pu,q3⟩=>?_);rw[evalPart_none];refine wpAny_pure ?_;have I4:Inv X pins σ H3 { s3 with heap:=s3.heap.push { cls:=.type "slice",data:=.fields #[vl,vu,.none] } }:=I3.kept (t':=s3.toks) fun b ob q=>Heap.get?_push_of_some _ q;obtain⟨T,id,hT,ht,hg⟩:=hr pins { s3 with heap:=s3.heap.push { cls:=.type "slice",data:=.fields #[vl,vu,.none] } } σ H3 x v vl vu l u s3.heap.objs.size Q I4 r1 (Heap.IsSliceOf.new ..) pl pu q3;show wpAny (model X.prog X.w) X.A (subscriptTail e (.Slice lo hi none p2) v (.ref s3.heap.objs.size)) (EP X pins σ Q) X.xe { s3 with heap:=s3.heap.push { cls:=.type "slice",data:=.fields #[vl,vu,.none] } };exact tail_any (ops:=[.ref s3.heap.objs.size,v]) ht hT hg (by with_unfolding_all rfl)
def G5(xs:#[b])(lo hi:Option Int):#[b]:=(xs.drop (HT.sIx xs.length 0 lo)).take (HT.sIx xs.length xs.length hi-HT.sIx xs.length 0 lo)
theorem Be(xs:#[b])(lo hi:Option Int):(G5 xs lo hi).length<=xs.length:=by
 unfold G5;rw[zw7,List.length_drop];omega
inductive zic(K:Frag)(x:V)(y:V)(H:Hp)(Q:VK):Prop where
 | mk(a)(b)(xs)(ys)(_:x=.ref a)(_:y=.ref b)(_:SqT K H a xs)(_:SqT K H b ys)(_:xs≠[])(_:xs.length+ys.length<=sizeLine)(_:(ys=[]->Q (.ref a) H))(_:(ys≠[]->∀ p,H p=none->Q (.ref p) (upd H p (.tup (xs++ys)))))
theorem Vals.nil_iff(r:Vals xs us):us=[]↔xs=[]:=by
 cases r with
 | nil=>simp
 | cons _ _=>simp
theorem zhf:OpR X (binaryOp .Add) (zic X.K):=by
 intro pins s σ H x y v u Q I rx ry h;obtain⟨a,b,xs,ys,rfl,rfl,ha,hb,hx,hz,q1,q2⟩:=h;cases rx;cases ry;obtain⟨its,r1,p1,_⟩:=I.tuple ha;obtain⟨its2,r2,p2,_⟩:=I.tuple hb;refine HT.cat_tup p1 p2 (fun z=>hx (r1.nil_iff.mp z)) (fun z=>⟨.ref a,H,I,rfl,q1 (r2.nil_iff.mp z)⟩) (fun z=>?_) (by rw[<- r1.length,<- r2.length];exact hz);refine⟨.ref s.heap.objs.size,_,I.laid (t':=s.toks) (o:=.tup (xs++ys)) (fun b ob q=>Heap.get?_push_of_some _ q) (zvd _) ?_,rfl,q2 (fun w=>z (r2.nil_iff.mpr w)) _ (I.hok.fresh (zvd _))⟩;exact⟨by rw[zu5];exact hz,_,r1.append r2,IsTup.new _ _⟩
end
def ixN(n:Nat)(i:Int):Option Nat:=if 0<=i then (if i<n then some i.toNat else none) else if -(n:Int)<=i then some (i+n).toNat else none
def atI{α:Type}(xs:List α)(i:Int):Option α:=(ixN xs.length i).bind fun j=>xs[j]?
theorem zb0(h:ixN n i=some j):seqIndex? i n=some j/\j<n/\-(n:Int)<=i/\i<n:=by
 unfold ixN at h;by_cases h0:0<=i
 ·rw[if_pos h0] at h;by_cases h1:i<n
  ·rw[if_pos h1] at h;have e:i.toNat=j:=Option.some.inj h;exact⟨by rw[seqIndex_of h0 h1,e],by omega,by omega,h1⟩
  ·rw[if_neg h1] at h;cases h
 ·rw[if_neg h0] at h;by_cases h1:-(n:Int)<=i
  ·rw[if_pos h1] at h;have e:(i+n).toNat=j:=Option.some.inj h;exact⟨by rw[seqIndex_neg ⋯ h1,e],by omega,h1,by omega⟩
  ·rw[if_neg h1] at h;cases h
theorem zb1(h:atI xs i=some v):∃ j,seqIndex? i xs.length=some j/\xs[j]?=some v/\j<xs.length/\-(xs.length:Int)<=i/\i<xs.length:=by
 unfold atI at h;cases e:ixN xs.length i with
 | none=>rw[e] at h;cases h
 | some j =>
   rw[e] at h;obtain⟨h1,h2,h3,h4⟩:=zb0 e;exact⟨j,h1,h,h2,h3,h4⟩
theorem Z0{α:Type}{xs:List α}{j:Nat}{v:α}(h:xs[j]?=some v):atI xs (j:Int)=some v:=by
 have hj:j<xs.length:=(zu4.mp h).1;have e:ixN xs.length (j:Int)=some j:=by
  unfold ixN;rw[if_pos ⋯,if_pos ⋯];simp
 unfold atI;rw[e];exact h
theorem atI_last(xs:List α)(v:α):atI (xs++[v]) (-1)=some v:=by
 have hl:(xs++[v]).length=xs.length+1:=by simp
 have e:ixN (xs++[v]).length (-1)=some xs.length:=by
  unfold ixN;rw[hl,if_neg ⋯,if_pos ⋯]
  congr 1
  omega
 unfold atI;rw[e];show (xs++[v])[xs.length]?=some v;simp
def zb2(b:Expr):Prop:=∀ o i,subscripted b false o i=operate [o,i] (getItem o i)
def IxR(X:Cx)(r:R2):Prop :=
 ∀ (value slice:Expr) (pins:#[h]) (s:Shared) (σ:St) (H:Hp) (x y:V) (v u:Value) (Q:VK),#[d]->RelV x v->RelV y u->r x y H Q ->
   subscripted slice false v u=operate [v,u] (getItem v u)->wpAny (model X.prog X.w) X.A (subscriptTail value slice v u) (EP X pins σ Q) X.xe s
def MtR(X:Cx)(id:String)(r:V->#[b]->Hp->VK->Prop):Prop :=
 ∀ (pins:#[h]) (s:Shared) (σ:St) (H:Hp) (x:V) (xs:#[b]) (v:Value) (us:List Value) (Q:VK),#[d]->RelV x v->Vals xs us->r x xs H Q ->
   wpAny (model X.prog X.w) X.A (call (.builtin id) (v :: us)) (EP X pins σ Q) X.xe s
section
variable{X:Cx}{a b:Expr}{ta tb:TE}{pos:Pos}
theorem zkw(hr:IxR X r)(ha:PE X a ta)(hb:PE X b tb)(hs:zb2 b):PE X (.Subscript a b pos) (tOp r ta tb):=by
 intro pins s σ H Q I h;exact Subscript_ (binT ha hb I h fun v u s2 x y H2 I2 rx ry q=>hr a b pins s2 σ H2 x y v u Q I2 rx ry q (hs _ _))
inductive G6(K:Frag)(x:V)(y:V)(H:Hp)(Q:VK):Prop where
 | mk(p)(xs)(i)(v)(_:x=.ref p)(_:y=.int i)(_:SqL K H p xs)(_:atI xs i=some v)(_:Q v H)
inductive zjc(K:Frag)(x:V)(y:V)(H:Hp)(Q:VK):Prop where
 | mk(p)(xs)(i)(v)(_:x=.ref p)(_:y=.int i)(_:SqT K H p xs)(_:atI xs i=some v)(_:Q v H)
theorem zhg:IxR X (G6 X.K):=by
 intro value slice pins s σ H x y v u Q I rx ry h hs;obtain⟨p,xs,i,z,rfl,rfl,hq,he,q⟩:=h;cases rx;obtain⟨t,rfl⟩:=ry;obtain⟨its,r,pl,hz⟩:=I.list hq;obtain⟨j,h1,h2,h3,h4,h5⟩:=zb1 he;obtain⟨w,ew,rw'⟩:=r.get h2;have hl:=r.length;have hn:=Ot;have fin:EP X pins σ Q w s:=⟨z,H,I,rw',q⟩;by_cases h0:0<=i
 ·have hj:i.toNat=j:=by
   rw[seqIndex_of h0 h5] at h1;exact Option.some.inj h1
  exact item_listR pl.isList h0 ⋯ (by rw[hj];simpa using ew) fin hs
 ·have hj:(i+(its.toArray.size:Int)).toNat=j:=by
   rw[seqIndex_neg ⋯ h4] at h1;rw[zvi,<- hl];exact Option.some.inj h1
  exact subscriptTail_builtinR (x:=w) pl.isList.typeIs slot_list_getitem.lookup
   (wpAny_getItem_list_neg (Q:=fun r s'=>r=w/\EP X pins σ Q r s') pl.isList ⋯ (by rw[zvi]<;>omega) ⋯ (by rw[hj];simpa using ew) ⟨rfl,fin⟩) hs
theorem zjd:IxR X (zjc X.K):=by
 intro value slice pins s σ H x y v u Q I rx ry h hs;obtain⟨p,xs,i,z,rfl,rfl,hq,he,q⟩:=h;cases rx;obtain⟨t,rfl⟩:=ry;obtain⟨its,r,pl,hz⟩:=I.tuple hq;obtain⟨j,h1,h2,h3,h4,h5⟩:=zb1 he;obtain⟨w,ew,rw'⟩:=r.get h2;have hl:=r.length;have hn:=Ot;have fin:EP X pins σ Q w s:=⟨z,H,I,rw',q⟩;exact subscriptTail_builtinR (x:=w) pl.typeIs slot_tuple_getitem.lookup
  (getItem_tuple (j:=j) (Q:=fun r s'=>r=w/\EP X pins σ Q r s') pl ⋯ ⋯ (by rw[zvi,<- hl];exact h1) (by simpa using ew) ⟨rfl,fin⟩) hs
theorem zap(its:List Value)(n j:Nat)(u:Value):Obj.mapSeq (·.setIfInBounds j u) { cls:=.type "list",data:=.seq its.toArray n }={ cls:=.type "list",data:=.seq (its.set j u).toArray n }:=by
 simp[Obj.mapSeq]
theorem Inv.lst(I:#[d])(h:H p=#[a,.lst,xs]) :
  ∃ (its:List Value) (n:Nat),Vals xs its/\s.heap.get? p=some { cls:=.type "list",data:=.seq its.toArray n }/\xs.length<=sizeLine:=by
 obtain⟨z,its,n,r,e⟩:=I.hok p _ h;exact⟨its,n,r,e,z⟩
theorem Inv.lstUpd{pins:#[h]}{σ:St}{H:Hp}{s:Shared}{p:Addr}{xs ys:#[b]}{its its':List Value}{n n':Nat}{f:Obj->Obj}(I:#[d])(h:H p=#[a,.lst,xs])
  (ho:s.heap.get? p=some { cls:=.type "list",data:=.seq its.toArray n }) (hf:f { cls:=.type "list",data:=.seq its.toArray n }={ cls:=.type "list",data:=.seq its'.toArray n' }) (r:Vals ys its') (hz:ys.length<=sizeLine) (t:Nat) :
  Inv X pins σ (upd H p (.lst ys)) { s with heap:=s.heap.update p f,toks:=t }:=by
 have e:(s.heap.update p f).get? p=some { cls:=.type "list",data:=.seq its'.toArray n' }:=by
  rw[Heap.get?_update_self f ho (by rw[hf]<;>rfl),hf]
 refine I.write (x:=p) (e:=p) (by rw[h];trivial) (.inl rfl) (fun b u hb q=>(Heap.get?_update_other _ _ (Ne.symm hb)).trans q) ⟨_,e⟩ ?_;exact⟨hz,its',n',r,e⟩
def zkx:V->V->V->Hp->(Hp->Prop)->Prop:=fun o i v H Q=>∃ p xs k j,o=.ref p/\i=.int k/\H p=#[a,.lst,xs]/\ixN xs.length k=some j/\Q (upd H p (.lst (xs.set j v)))
theorem zfc:zkd X zkx:=by
 intro pins s σ H o i v ov iv u Q I ro ri rv h;obtain⟨p,xs,k,j,rfl,rfl,hp,hj,q⟩:=h;cases ro;obtain⟨t,rfl⟩:=ri;obtain⟨its,n,r,ho,hz⟩:=I.lst hp;obtain⟨h1,h2,h3,h4⟩:=zb0 hj;have hl:=r.length;have hn:=Ot;have I':Inv X pins σ (upd H p (.lst (xs.set j v))) { s with heap:=s.heap.update p (Obj.mapSeq (·.setIfInBounds j u)) } :=
  I.lstUpd hp ho (zap its n j u) (r.set rv j) (by rw[zws];exact hz) s.toks
 by_cases h0:0<=k
 ·have hk:k.toNat=j:=by
   rw[seqIndex_of h0 h4] at h1;exact Option.some.inj h1
  exact PySem.W.ki_setAt ho h0 ⋯ (by rw[zvi,<- hl];exact h4) (by rw[hk];exact⟨_,I',q⟩)
 ·have hk:(k+(its.toArray.size:Int)).toNat=j:=by
   rw[seqIndex_neg ⋯ h3] at h1;rw[zvi,<- hl];exact Option.some.inj h1
  exact PySem.W.ki_setBack ho ⋯ (by rw[zvi,<- hl];exact h3) ⋯ (by rw[hk];exact⟨_,I',q⟩)
theorem Dm(lo hi:Option Int)(n:Nat):(sliceBounds lo hi none n).1=((HT.sIx n 0 lo:Nat):Int)/\(sliceBounds lo hi none n).2.1=((HT.sIx n n hi:Nat):Int)/\(sliceBounds lo hi none n).2.2=1:=by
 refine⟨?_,?_,rfl⟩
 ·cases lo with
  | none=>simp[sliceBounds,HT.sIx]
  | some i =>
    simp only[sliceBounds,HT.sIx,Option.getD_none,show (1:Int)>0 by decide,if_true];by_cases h:i<0
    ·simp only[h,if_true]<;>omega
    ·simp only[h,if_false]<;>omega
 ·cases hi with
  | none=>simp[sliceBounds,HT.sIx]
  | some i =>
    simp only[sliceBounds,HT.sIx,Option.getD_none,show (1:Int)>0 by decide,if_true];by_cases h:i<0
    ·simp only[h,if_true]<;>omega
    ·simp only[h,if_false]<;>omega
theorem G7(its:List Value)(lo hi:Option Int):slicePick its.toArray lo hi none=((its.drop (HT.sIx its.length 0 lo)).take (HT.sIx its.length its.length hi-HT.sIx its.length 0 lo)).toArray:=by
 obtain⟨h1,h2,h3⟩:=Dm lo hi its.toArray.size;unfold slicePick;rw[h1,h2,h3];simp only[sliceRange_one,pick_run,zvi]<;>rfl
def zky(K:Frag):V->Option Int->Option Int->Hp->VK->Prop:=fun x lo hi H Q=>∃ a xs,x=.ref a/\SqL K H a xs/\∀ p,H p=none->Q (.ref p) (upd H p (.lst (G5 xs lo hi)))
theorem zhh:SlR X (zky X.K):=by
 intro pins s σ H x v vl vu lo hi sl Q I rx hs pl pu h;obtain⟨a,xs,rfl,hx,q⟩:=h;cases rx;obtain⟨its,r,ht,hz⟩:=I.list hx;have hlen:=r.length;refine⟨"list",_,slot_list_getitem.lookup,ht.isList.typeIs,?_⟩;refine wpAny_getItem_list_slice ht.isList hs pl pu .none (by simp) ?_ (by rw[zvi]<;>omega);rw[G7,<- hlen];refine⟨.ref s.heap.objs.size,_,I.laid (t':=s.toks) (o:=.lst (G5 xs lo hi)) (fun b ob q=>Heap.get?_push_of_some _ q) (zvd _) ?_,rfl,q _ (I.hok.fresh (zvd _))⟩;exact⟨zvh (Be xs lo hi) hz,_,0,(r.drop (HT.sIx xs.length 0 lo)).take (HT.sIx xs.length xs.length hi-HT.sIx xs.length 0 lo),Heap.get?_push_size _ rfl⟩
def Rb:V->Bool
 | .non=>true
 | .bl _=>true
 | .int _=>true
 | .str _=>true
 | _=>false
def eqV:V->V->Bool
 | .non,.non=>true
 | .bl a,.bl b=>a == b
 | .bl a,.int b=>(if a then 1 else 0) == b
 | .int a,.bl b=>a == (if b then 1 else 0)
 | .int a,.int b=>a == b
 | .str a,.str b=>a == b
 | _,_=>false
theorem zje(ry:RelV y u)(rx:RelV x v)(fy:Rb y=true)(fx:Rb x=true):SeqAt.EqAt A s u v (eqV y x):=by
 cases y with
 | non =>
   cases ry;cases x with
   | non=>cases rx;exact SeqAt.EqAt.same _
   | bl b=>cases rx;exact SeqAt.EqAt.none_bool b
   | int b=>obtain⟨t,rfl⟩:=rx;exact SeqAt.EqAt.none_int b t
   | str b=>obtain⟨t,rfl⟩:=rx;exact SeqAt.EqAt.none_str b t
   | _=>exact absurd (show false=true from fx) zvo
 | bl a =>
   cases ry;cases x with
   | non=>cases rx;exact SeqAt.EqAt.bool_none a
   | bl b=>cases rx;exact SeqAt.EqAt.bool_bool a b
   | int b=>obtain⟨t,rfl⟩:=rx;exact SeqAt.EqAt.bool_int a b t
   | str b=>obtain⟨t,rfl⟩:=rx;exact SeqAt.EqAt.bool_str a b t
   | _=>exact absurd (show false=true from fx) zvo
 | int a =>
   obtain⟨t',rfl⟩:=ry;cases x with
   | non=>cases rx;exact SeqAt.EqAt.int_none a t'
   | bl b=>cases rx;exact SeqAt.EqAt.int_bool a t' b
   | int b=>obtain⟨t,rfl⟩:=rx;exact SeqAt.EqAt.int_int a t' b t
   | str b=>obtain⟨t,rfl⟩:=rx;exact SeqAt.EqAt.int_str a t' b t
   | _=>exact absurd (show false=true from fx) zvo
 | str a =>
   obtain⟨t',rfl⟩:=ry;cases x with
   | non=>cases rx;exact SeqAt.EqAt.str_none a t'
   | bl b=>cases rx;exact SeqAt.EqAt.str_bool a t' b
   | int b=>obtain⟨t,rfl⟩:=rx;exact SeqAt.EqAt.str_int a t' b t
   | str b=>obtain⟨t,rfl⟩:=rx;exact SeqAt.EqAt.str_str a t' b t
   | _=>exact absurd (show false=true from fx) zvo
 | _=>exact absurd (show false=true from fy) zvo
def eqU(x:V)(u:Value):Bool:=match u with
 | .none=>eqV .non x
 | .bool b=>eqV (.bl b) x
 | .int i _=>eqV (.int i) x
 | .str z _=>eqV (.str z) x
 | _=>false
theorem zaq(r:RelV y u)(f:Rb y=true):eqU x u=eqV y x:=by
 cases y with
 | non=>cases r;rfl
 | bl b=>cases r;rfl
 | int i=>obtain⟨t,rfl⟩:=r;rfl
 | str z=>obtain⟨t,rfl⟩:=r;rfl
 | _=>exact absurd (show false=true from f) zvo
theorem Ny:∀ {xs:List V} {us:List Value},Vals xs us->xs.all Rb=true->us.any (eqU x)=xs.any fun y=>eqV y x
 | _,_,.nil,_=>rfl
 | y :: xs,u :: us,.cons r t,f=>by
   rw[List.all_cons,zwm] at f;rw[zw4,zw4,zaq r f.1,Ny t f.2]
theorem Rc(rx:RelV x v)(fx:Rb x=true):∀ {xs:List V} {us:List Value},Vals xs us->xs.all Rb=true->∀ u∈us,SeqAt.EqAt A s u v (eqU x u)
 | _,_,.nil,_=>fun u hu=>by cases hu
 | y :: xs,u :: us,.cons r t,f=>fun u' hu=>by
   rw[List.all_cons,zwm] at f;rcases zu7.mp hu with rfl|hu
   ·rw[zaq r f.1];exact zje r rx f.1 fx
   ·exact Rc rx fx t f.2 u' hu
def inV(x:V)(xs:#[b]):Bool:=xs.any fun y=>eqV y x
inductive rIn(K:Frag)(neg:Bool)(x:V)(y:V)(H:Hp)(Q:VK):Prop where
 | mk(p)(xs)(_:y=.ref p)(_:(SqL K H p xs\/SqT K H p xs))(_:Rb x=true)(_:xs.all Rb=true)(_:Q (.bl (if neg then !inV x xs else inV x xs)) H)
theorem zc8:OpR X (compareOp .In) (rIn X.K false):=by
 intro pins s σ H x y v u Q I rx ry h;obtain⟨p,xs,rfl,hq,fx,fs,q⟩:=h;cases ry;rcases hq with hq|hq
 ·obtain⟨its,r,pl,hz⟩:=I.list hq;refine SeqAt.in_listAt (eqU x) pl.isList (fun w hw=>Rc rx fx r fs w (by simpa using hw)) ⟨.bl _,H,I,rfl,?_⟩;rw[show its.toArray.any (eqU x)=its.any (eqU x) by simp,Ny r fs];exact q
 ·obtain⟨its,r,pl,hz⟩:=I.tuple hq;refine SeqAt.in_tupleAt (eqU x) pl (fun w hw=>Rc rx fx r fs w (by simpa using hw)) ⟨.bl _,H,I,rfl,?_⟩;rw[show its.toArray.any (eqU x)=its.any (eqU x) by simp,Ny r fs];exact q
theorem Dp:OpR X (compareOp .NotIn) (rIn X.K true):=by
 intro pins s σ H x y v u Q I rx ry h;obtain⟨p,xs,rfl,hq,fx,fs,q⟩:=h;cases ry;rcases hq with hq|hq
 ·obtain⟨its,r,pl,hz⟩:=I.list hq;refine SeqAt.notIn_listAt (eqU x) pl.isList (fun w hw=>Rc rx fx r fs w (by simpa using hw)) ⟨.bl _,H,I,rfl,?_⟩;rw[show its.toArray.any (eqU x)=its.any (eqU x) by simp,Ny r fs];exact q
 ·obtain⟨its,r,pl,hz⟩:=I.tuple hq;refine SeqAt.notIn_tupleAt (eqU x) pl (fun w hw=>Rc rx fx r fs w (by simpa using hw)) ⟨.bl _,H,I,rfl,?_⟩;rw[show its.toArray.any (eqU x)=its.any (eqU x) by simp,Ny r fs];exact q
theorem Dq:Vs X (.builtin "len") (fun xs H Q=>∃ p ys,xs=[.ref p]/\(SqL X.K H p ys\/SqT X.K H p ys)/\Q (.int ys.length) H):=by
 intro pins s σ H xs us Q I r h;obtain⟨p,ys,rfl,hq,q⟩:=h;obtain⟨u,rfl,rx⟩:=Qi r;cases rx;have hn:=Ot;rcases hq with hq|hq
 ·obtain⟨its,r',pl,hz⟩:=I.list hq;have hlen:=r'.length;exact Calls.call_len_list pl.isList (by simp only[zvi]<;>omega) ⟨.int ys.length,H,I.tok _,⟨s.toks+1,by rw[zvi,hlen]⟩,q⟩
 ·obtain⟨its,r',pl,hz⟩:=I.tuple hq;have hlen:=r'.length;exact len_tuple pl (by simp only[zvi]<;>omega) ⟨.int ys.length,H,I.tok _,⟨s.toks+1,by rw[zvi,hlen]⟩,q⟩
theorem Dr:Vs X (.type "list") (fun xs H Q=>∃ p ys,xs=[.ref p]/\(SqL X.K H p ys\/SqT X.K H p ys)/\∀ l,H l=none->Q (.ref l) (upd H l (.lst ys))):=by
 intro pins s σ H xs us Q I r h;obtain⟨p,ys,rfl,hq,q⟩:=h;obtain⟨u,rfl,rx⟩:=Qi r;cases rx;have fin:∀ (its:List Value),Vals ys its->ys.length<=sizeLine->∀ (h':Heap) (c':Nat),(∀ b o',s.heap.get? b=some o'->h'.get? b=some o') ->
   h'.get? s.heap.objs.size=some { cls:=.type "list",dict:=none,data:=.seq its.toArray c',slots:=#[] }->EP X pins σ Q (.ref s.heap.objs.size) { s with heap:=h' }:=fun its r' hz h' c' kp e =>
  ⟨.ref s.heap.objs.size,_,I.laid (t':=s.toks) kp (zvd _) (show Y8 X.prog X.w _ h' _ (.lst ys) from⟨hz,its,c',r',e⟩),rfl,q _ (I.hok.fresh (zvd _))⟩
 rcases hq with hq|hq
 ·obtain⟨its,r',pl,hz⟩:=I.list hq;have hlen:=r'.length;obtain⟨o,ho,hc,n,hd⟩:=pl.isList;exact call_list_seq p (.inl rfl) ho hc hd (fun h' c' kp e=>fin its r' hz h' c' kp e) (by simp only[zvi]<;>omega)
 ·obtain⟨its,r',pl,hz⟩:=I.tuple hq;have hlen:=r'.length;obtain⟨o,ho,hc,n,hd⟩:=pl;exact call_list_seq p (.inr rfl) ho hc hd (fun h' c' kp e=>fin its r' hz h' c' kp e) (by simp only[zvi]<;>omega)
theorem G8:Vs X (.type "tuple") (fun xs H Q=>∃ p ys,xs=[.ref p]/\((SqL X.K H p ys/\∀ l,H l=none->Q (.ref l) (upd H l (.tup ys)))\/(SqT X.K H p ys/\Q (.ref p) H))):=by
 intro pins s σ H xs us Q I r h;obtain⟨p,ys,rfl,h⟩:=h;obtain⟨u,rfl,rx⟩:=Qi r;cases rx;rcases h with ⟨hq,q⟩|⟨hq,q⟩
 ·obtain⟨its,r',pl,hz⟩:=I.list hq;have hlen:=r'.length;refine call_tuple_list pl.isList (fun h' kp=>?_) (by simp only[zvi]<;>omega);have I1:Inv X pins σ H { s with heap:=h' }:=I.kept (t':=s.toks) kp;have I2:Inv X pins σ (upd H h'.objs.size (.tup ys)) { s with heap:=h'.push { cls:=.type "tuple",data:=.seq its.toArray } } :=
   I1.laid (t':=s.toks) (fun b o e=>Heap.get?_push_of_some _ e) (zvd _) (show Y8 X.prog X.w _ _ _ (.tup ys) from⟨hz,its,r',IsTup.new _ _⟩)
  exact⟨.ref h'.objs.size,_,I2,rfl,q _ (I1.hok.fresh (zvd _))⟩
 ·obtain⟨its,r',pl,hz⟩:=I.tuple hq;exact call_tuple_same pl ⟨.ref p,H,I,rfl,q⟩
def tyV(K:Frag)(T:String)(x:V)(H:Hp):Prop:=match x with
 | .str _=>T="str"
 | .int _=>T="int"
 | .ref p=>(T="list"/\∃ xs,SqL K H p xs)\/(T="tuple"/\∃ o,K.lookup p=some o/\o.cls=.type "tuple"/\o.dict=none) \/
   (T="dict"/\((∃ kvs,H p=#[a,.dK,kvs])\/∃ kvs,H p=#[a,.dT,kvs]))\/(T="set"/\∃ S n,H p=some (.set S n))
 | _=>False
theorem zar(I:#[d])(r:RelV x v)(ty:tyV X.K T x H) :
  s.TypeIs v T/\∀ a,v=.ref a->∃ ob,s.heap.get? a=some ob/\ob.dict=none:=by
 cases x with
 | str z =>
   obtain⟨t,rfl⟩:=r;cases (show T="str" from ty);exact⟨typeIs_str s z t,fun _ e=>nomatch e⟩
 | int i =>
   obtain⟨t,rfl⟩:=r;cases (show T="int" from ty);exact⟨typeIs_int s i t,fun _ e=>nomatch e⟩
 | ref p =>
   cases r;rcases ty with ⟨rfl,xs,hq⟩|⟨rfl,o,hk,hc,hd⟩|⟨rfl,hk⟩|⟨rfl,S,n,hk⟩
   ·obtain⟨its,_,pl,_⟩:=I.list hq;refine⟨pl.isList.typeIs,fun a e=>?_⟩;cases e;obtain⟨o,n,e,c,hd,_⟩:=pl;exact⟨o,e,hd⟩
   ·refine⟨⟨o,I.kIn p o hk,hc⟩,fun a e=>?_⟩;cases e;exact⟨o,I.kIn _ o hk,hd⟩
   ·have z:∃ o,s.heap.get? p=some o/\o.ExactDict:=by
     rcases hk with ⟨kvs,hk⟩|⟨kvs,hk⟩
     ·obtain⟨_,_,_,_,o,_,_,e,ex,_⟩:=I.hok p _ hk;exact⟨o,e,ex⟩
     ·obtain⟨_,_,_,_,o,_,_,e,ex,_⟩:=I.hok p _ hk;exact⟨o,e,ex⟩
    obtain⟨o,e,ex⟩:=z;refine⟨⟨o,e,ex.1⟩,fun a e2=>?_⟩;cases e2;exact⟨o,e,ex.2.1⟩
   ·obtain⟨o,_,_,_,e,ex,_⟩:=I.hok p _ hk;refine⟨⟨o,e,ex.1⟩,fun a e2=>?_⟩;cases e2;exact⟨o,e,ex.2.1⟩
 | _=>exact False.elim ty
inductive zkz(K:Frag)(T:String)(r:V->#[b]->Hp->VK->Prop)(Q:VK)(x:V)(H1:Hp):Prop where
 | mk(_:tyV K T x H1)(_:r x [] H1 Q)
def zlp(K:Frag)(T:String)(r:V->#[b]->Hp->VK->Prop)(to:TE):TE:=fun σ H Q=>to σ H fun x H1=>zkz K T r Q x H1
inductive zlq(K:Frag)(T:String)(r:V->#[b]->Hp->VK->Prop)(t:TA)(σ:L2.St)(Q:VK)(x:V)(H1:Hp):Prop where
 | mk(_:tyV K T x H1)(_:t σ H1 fun xs H2=>r x xs H2 Q)
def tBM(K:Frag)(T:String)(r:V->#[b]->Hp->VK->Prop)(to:TE)(t:TA):TE:=fun σ H Q=>to σ H fun x H1=>zlq K T r t σ Q x H1
variable{o e:Expr}{es:List Expr}{to:TE}{t:TA}{name:Str}{apos cpos:Pos}{T id:String}{r:V->#[b]->Hp->VK->Prop}
theorem zfd(pa:PlainAttrs T)(slot:Slot T name id)(hty:typeOf (.builtin id)=pure (.type "method_descriptor"))(hm:MtR X id r)(ho:PE X o to)
  (hbase:attributeBase o name X.env (eval o X.env)=eval o X.env:=by rfl) (hline:(apos.endLine == cpos.line)=true:=by rfl):PE X (.Call (.Attribute o name apos) [] [] cpos) (zlp X.K T r to):=by
 intro pins s σ H Q I h;refine wpAny_Call_method0_late hbase hline (thn (ho pins s σ H _ I h) fun v s1 ⟨x,H1,I1,r1,ty,q1⟩=>?_);obtain⟨h1,h2⟩:=zar I1 r1 ty;exact⟨T,id,pa,slot,hty,h1,h2,Calls.callWith_builtin rfl (PySem.evalArgs_none (hm pins s1 σ H1 x [] v [] Q I1 r1 .nil q1))⟩
theorem zid(pa:PlainAttrs T)(slot:Slot T name id)(hty:typeOf (.builtin id)=pure (.type "method_descriptor"))(hm:MtR X id r)(ho:PE X o to)(ha:PA X (e :: es) t)
  (hbase:attributeBase o name X.env (eval o X.env)=eval o X.env:=by rfl)
  (hfew:((backTo cpos (starEach (e :: es) X.env)).all (fun x=>!x.1)&&(backToKw cpos (keywordEach [] X.env)).all (fun x=>x.1.isSome)
   && decide ((e :: es).length+([]:List Keyword).length+(if ([]:List Keyword).isEmpty then 0 else 1)<30))=true:=by rfl)
  (hline:(apos.endLine == cpos.line)=true:=by rfl) (hs:starEach (e :: es) X.env=(false,eval e X.env) :: starEach es X.env:=by rfl) (hplain:(backTo cpos (starEach es X.env)).any (·.1)=false:=by rfl) :
  PE X (.Call (.Attribute o name apos) (e :: es) [] cpos) (tBM X.K T r to t):=by
 intro pins s σ H Q I h;refine wpAny_Call_method_late hbase hfew hline rfl (thn (ho pins s σ H _ I h) fun v s1 ⟨x,H1,I1,r1,ty,q1⟩=>?_);obtain⟨h1,h2⟩:=zar I1 r1 ty;refine⟨T,id,pa,slot,hty,h1,h2,?_⟩;have hA:=ha cpos pins s1 σ H1 _ I1 q1;rw[hs] at hA ⊢;refine Calls.callWith_builtin (by show (false||(backTo cpos (starEach es X.env)).any (·.1))=false;rw[hplain]<;>rfl) (Calls.evalArgs_plain ?_);exact thn hA fun us s2 ⟨vs,H2,I2,r2,q2⟩=>hm pins s2 σ H2 x vs v us Q I2 r1 r2 q2
end
def MtM(X:Cx)(id:String)(r:V->#[b]->Hp->VK->Prop):Prop :=
 ∀ (pins:#[h]) (s:Shared) (σ:St) (H:Hp) (x:V) (xs:#[b]) (v:Value) (us:List Value) (Q:VK),#[d]->RelV x v->Vals xs us->r x xs H Q ->
   wpAny (model X.prog X.w) X.A (call (.builtin id) (v :: us)) (EP X pins σ Q) X.xe s
theorem Vals.one:∀ {x:V} {us:List Value},Vals [x] us->∃ u,us=[u]/\RelV x u
 | _,_,.cons r .nil=>⟨_,rfl,r⟩
theorem Vals.zero:∀ {us:List Value},Vals [] us->us=[]
 | _,.nil=>rfl
theorem Vals.dropLast(h:Vals xs us):Vals xs.dropLast us.dropLast:=by
 induction h with
 | nil=>exact .nil
 | cons r t ih =>
   cases t with
   | nil=>exact .nil
   | cons q t'=>exact .cons r ih
theorem Vals.reverse(h:Vals xs us):Vals xs.reverse us.reverse:=by
 induction h with
 | nil=>exact .nil
 | cons r t ih=>rw[zw5,zw5];exact Vals.append ih (.cons r .nil)
theorem zas(l:List α):l.eraseIdx (l.length-1)=l.dropLast:=by
 induction l with
 | nil=>rfl
 | cons a r ih =>
   cases r with
   | nil=>rfl
   | cons b r =>
     have e:(a :: b :: r).length-1=((b :: r).length-1)+1:=by
      have h1:(a :: b :: r).length=r.length+2:=rfl;have h2:(b :: r).length=r.length+1:=rfl;omega
     rw[e,List.eraseIdx_cons_succ,ih]
     all_goals rfl
section
variable{X:Cx}{pins:#[h]}{σ:St}{H:Hp}{s:Shared}{l b:Addr}{xs ys zs:#[b]}
theorem Inv.lset{its its':List Value}{n:Nat}{f:Array Value->Array Value}{t':Nat}(I:#[d])(hH:H l=#[a,.lst,xs])
  (e:s.heap.get? l=some { cls:=.type "list",data:=.seq its.toArray n }) (hf:f its.toArray=its'.toArray) (hv:Vals ys its') (hz:ys.length<=sizeLine) :
  Inv X pins σ (upd H l (.lst ys)) { s with heap:=s.heap.update l (Obj.mapSeq f),toks:=t' }:=by
 have q:=PySem.IsL.update e f;rw[hf] at q;refine I.write (x:=l) (e:=l) (by rw[hH];exact trivial) (.inl rfl) (fun b' u hb hu=>(Heap.get?_update_other s.heap (Obj.mapSeq f) (Ne.symm hb)).trans hu) ⟨_,q⟩ ?_;exact⟨hz,its',_,hv,q⟩
theorem Inv.lnew(I:#[d])(hv:Vals ys its)(hz:ys.length<=sizeLine) :
  Inv X pins σ (upd H s.heap.objs.size (.lst ys)) { s with heap:=s.heap.push { cls:=.type "list",data:=.seq its.toArray },toks:=t' } :=
 I.laid (fun _ _ q=>Heap.get?_push_of_some _ q) (zvd _) ⟨hz,its,0,hv,Heap.get?_push_size _ rfl⟩
theorem Inv.fresh(I:#[d]):H s.heap.objs.size=none:=I.hok.fresh (zvd _)
theorem Inv.lstM(I:#[d])(hH:H l=#[a,.lst,xs]):xs.length<=sizeLine/\∃ (its:List Value) (n:Nat),Vals xs its/\xs.length=its.length/\s.heap.get? l=some { cls:=.type "list",data:=.seq its.toArray n }:=by
 obtain⟨z,its,n,r,e⟩:=I.hok l _ hH;exact⟨z,its,n,r,r.length,e⟩
end
section
variable{X:Cx}
inductive zhi(x:V)(vs:#[b])(H:Hp)(Q:VK):Prop where
 | mk(l)(xs)(y)(_:x=.ref l)(_:vs=[y])(_:H l=#[a,.lst,xs])(_:xs.length<sizeLine)(_:Q .non (upd H l (.lst (xs++[y]))))
theorem zc9:MtM X "list.append" zhi:=by
 intro pins s σ H x vs v us Q I rx rv h;obtain⟨l,xs,y,rfl,rfl,hH,hz,q⟩:=h;cases rx;obtain⟨u,rfl,ru⟩:=rv.one;obtain⟨z,its,n,r,hl,e⟩:=I.lstM hH;refine call_meets F.slot_list_append ⟨_,e,rfl⟩ F.entry_list_append (F.args_list_append_2 _ _) (PySem.list_append l its.toArray n u (by rw[zvi];omega)) ⟨e,?_⟩;refine⟨.non,_,I.lset (its':=its++[u]) hH e (by simp) (r.append (.cons ru .nil)) ?_,rfl,q⟩;rw[zu5,List.length_singleton];omega
inductive zlr(x:V)(vs:#[b])(H:Hp)(Q:VK):Prop where
 | mk(l)(xs)(y)(_:x=.ref l)(_:vs=[])(_:H l=#[a,.lst,xs])(_:xs[xs.length-1]?=some y)(_:Q y (upd H l (.lst xs.dropLast)))
theorem zjf:MtM X "list.pop" zlr:=by
 intro pins s σ H x vs v us Q I rx rv h;obtain⟨l,xs,y,rfl,rfl,hH,hy,q⟩:=h;cases rx;have hus:=rv.zero;subst hus;obtain⟨z,its,n,r,hl,e⟩:=I.lstM hH;obtain⟨u,hu,ru⟩:=r.get hy;have hy':its.toArray[its.toArray.size-1]?=some u:=by
  show its.toArray[its.length-1]?=some u;rw[<- Array.getElem?_toList,<- hl];exact hu
 refine call_meets F.slot_list_pop ⟨_,e,rfl⟩ F.entry_list_pop (F.args_list_pop_1 _) (MeetsSeq.list_pop_last l its.toArray n u hy' (by rw[zvi];omega)) ⟨e,?_⟩;refine⟨y,_,I.lset (its':=its.dropLast) hH e ?_ r.dropLast ?_,ru,q⟩
 ·show its.toArray.eraseIdxIfInBounds (its.toArray.size-1)=its.dropLast.toArray;rw[zvi,List.eraseIdxIfInBounds_toArray,zas]
 ·rw[List.length_dropLast];omega
inductive zfe(x:V)(vs:#[b])(H:Hp)(Q:VK):Prop where
 | mk(l)(xs)(_:x=.ref l)(_:vs=[])(_:H l=#[a,.lst,xs])(_:Q .non (upd H l (.lst xs.reverse)))
theorem zat:MtM X "list.reverse" zfe:=by
 intro pins s σ H x vs v us Q I rx rv h;obtain⟨l,xs,rfl,rfl,hH,q⟩:=h;cases rx;have hus:=rv.zero;subst hus;obtain⟨z,its,n,r,hl,e⟩:=I.lstM hH;refine call_meets F.slot_list_reverse ⟨_,e,rfl⟩ F.entry_list_reverse (F.args_list_reverse_1 _) (AutoSeq1.list_reverse_list_0 l its.toArray n (by rw[zvi];omega)) ⟨e,?_⟩;refine⟨.non,_,I.lset (its':=its.reverse) hH e (by simp) r.reverse ?_,rfl,q⟩;rw[List.length_reverse];omega
inductive zls(x:V)(y:V)(H:Hp)(Q:VK):Prop where
 | mk(l)(b)(xs)(zs)(_:x=.ref l)(_:y=.ref b)(_:H l=#[a,.lst,xs])(_:H b=#[a,.lst,zs])(_:xs.length+zs.length<=sizeLine)(_:∀ p,H p=none->Q (.ref p) (upd H p (.lst (xs++zs))))
theorem Ow:OpR X (binaryOp .Add) zls:=by
 intro pins s σ H x y v u Q I rx ry h;obtain⟨l,b,xs,zs,rfl,rfl,hH,hB,hz,q⟩:=h;cases rx;cases ry;obtain⟨z,its,n,r,hl,e⟩:=I.lstM hH;obtain⟨z2,its2,n2,r2,hl2,e2⟩:=I.lstM hB;refine PySem.P.add_list e e2 ?_ (by rw[zvi,zvi];omega);have ea:its.toArray++its2.toArray=(its++its2).toArray:=by simp
 rw[ea];exact⟨.ref _,_,I.lnew (t':=s.toks) (r.append r2) (by rw[zu5];omega),rfl,q _ I.fresh⟩
end
end L2
namespace Att
open PySem PySem.W PySem.Calls PyProof.Rows
theorem K1:∀ (ns:List Int) (vs:List Value),WellAll P h vs (ns.map WData.int)->IntsAre vs ns:=by
 intro ns
 induction ns with
 | nil =>
   intro vs w;rw[List.map_nil] at w;cases w;exact .nil
 | cons n ns ih =>
   intro vs w;rw[zvg] at w;cases w with
   | cons a b =>
     cases a;exact .cons _ _ (ih _ b)
theorem zda{l:OpenLaw}{n:Nat}(hn:l.most=some n){P:Params}{h:Heap}{args:List WData}{vals:List Value}
  (hpre:l.row.toRowW.claim.pre args=true) (hwl:WellAll P h vals args) :
  ∃ a vs ns,vals=[Value.ref a]/\args=[WData.list (ns.map WData.int)]/\h.get? a=some { cls:=.type "list",data:=.seq vs.toArray }/\IntsAre vs ns/\ns.length<=n:=by
 have hsh:WShape.hasAll [] args [.list .int]=true:=(pre_splitW hpre).1;have hc:l.pre.holds [] { args:=args }=true:=(pre_splitW hpre).2;obtain⟨d,r,rfl,h1,h2⟩:=hasAllW_cons hsh;obtain rfl:=hasAllW_nil h2;obtain⟨xs,rfl,h3⟩:=hasW_list h1;obtain⟨ns,rfl⟩:=items_int h3;have hlen:ns.length<=n:=by
  unfold OpenLaw.pre at hc;have h4:(WTm.not (.lt (.lit (.int (n:Int))) (.len (.arg 0)))).holds [] { args:=[.list (ns.map .int)] }=true:=by
   have h4:=(holds_andW hc).1;rw[hn] at h4;exact h4
  have h5:=condW_of h4 (w_not (w_lt w_lit (w_len_list (w_arg rfl))));rw[zu2] at h5;refine Nat.le_of_not_lt fun q=>?_;have q':(n:Int)<((ns.length:Nat):Int):=by omega
  first
   | (rw[zva q'] at h5;exact absurd h5 ⋯)
   | (simp at h5;omega)
 cases hwl with
 | cons w1 w2 =>
   cases w2;cases w1 with
   | list ho hall=>exact⟨_,_,ns,rfl,rfl,ho,K1 ns _ hall,hlen⟩
theorem zdb(l:OpenLaw)(args:List WData):l.row.toRowW.claim.post args (.bool true) args=true :=
 postW_of (r:=l.row.toRowW) (X:=(true == true))
  (show WShape.has [] (.bool true) .bool=true by first|rfl|decide|simp[WShape.has,WShape.arms,WShape.armsAll])
  (show (WTm.eq .res (.lit (.bool true))).value [] { args:=args,res:=#[a,.bool,true],after:=args }=#[a,.bool,true == true] from w_eq_bool (w_res rfl) w_lit) rfl
theorem attach_call{l:OpenLaw}{n:Nat}{q:Program}{loose:List Str}{XP:(Str->Option Value)->Heap->Prop}{YP:World->Heap->Prop}{d:DefRec}
  (hn:l.most=some n) (hdf:d.params.defaults=[])
  (call:∀ (w:World) (s₀ s₁:Shared) (mg mb:Str->Option Value) (fa:Addr) (o:Obj) (pm cd doc:Value) (a:Addr) (vs:List Value) (ns:List Int),
   Ground q loose [] XP w s₀ mg mb s₁.heap->YP w s₁.heap ->
   s₁.heap.get? fa=some o->o.data=.func (docDef d.name d.params d.body d.scope pm cd doc)->s₁.heap.CodeRec cd d.name->mg d.name=some (.ref fa) ->
   s₁.heap.get? a=some { cls:=.type "list",data:=.seq vs.toArray }->IntsAre vs ns->ns.length<=n->s₁.gens=#[] ->
   codeAny (model l.prog w) callerA (.call (.ref fa) ⟨[.ref a],[]⟩) (fun r s'=>r=.ok (.ret (.bool true))/\OldK s₁.heap s'.heap/\s'.os=s₁.os/\AllBare s'.gens) s₁) :
  WalkO q loose XP YP l.row.toRowW d [] (fun f vs=>PySem.call f vs):=by
 intro w s₀ s₁ mg mb G Y fa o pm cd doc dV kV ho hd hcd hD hmg hg args vals as hpre hlay hrd hwl hlo;obtain rfl:dV=.none:=Dflts.none hD hdf;obtain rfl:kV=.none:=Dflts.noKw hD;obtain⟨a,vs,ns,rfl,rfl,hobj,hints,hlen⟩:=zda hn hpre hwl;refine enter_call (codeAny_mono (call w s₀ s₁ mg mb fa o pm cd doc a vs ns G Y ho (fd_plain hd) hcd hmg hobj hints hlen hg) fun r s' hq=>?_);obtain⟨rfl,h2,h3,h4⟩:=hq;exact⟨.inl ⟨.bool true,.bool true,[],rfl,fun _=>rfl,.bool true,zdb l _,fun _=>⟨List.Pairwise.nil,fun _ hm=>(nomatch hm)⟩⟩,h2,h3,h4⟩
section
variable{prog:Program}{w:World}{A:Around}{E:Value->Shared->Prop}{s:Shared}{K:Frag}
def noObjs(h:Heap):Heap:={ h with objs:=#[] }
theorem noObjs_get(h:Heap)(b:Addr):(noObjs h).get? b=none:=by
 cases e:(noObjs h).get? b with
 | none=>rfl
 | some o=>exact absurd (Heap.lt_size e) (zxd _)
end
end Att
namespace L2
open PySem PySem.Spec PyProof.Rows
theorem My:∀ {vs:List Value} {ns:List Int},IntsAre vs ns->Vals (ns.map V.int) vs
 | _,_,.nil=>.nil
 | _,_,.cons n t h=>.cons ⟨t,rfl⟩ (My h)
def zjg(H:Hp):Prop:=∀ b,H b=none\/∃ o xs,H b=some (.frz o (.lst xs))
theorem zff{P:Program}{w:World}{K:Frag}{mg mb:Str->Option Value}{CX:CXT}{k:Nat}{fa a:Addr}{fd:FuncData}{x:Str}{sp:Sp}{s₁:Shared}{vs:List Value}{ns:List Int}
  (KX:K.In s₁.heap) (hns:s₁.heap.Ns mainGlobals mg) (hb:s₁.heap.Ns builtinsNs mb) (hbb:∀ x:Str,x≠"__name__"->mb x=bootBuiltins x) (hlim:s₁.heap.NoLimit) (hg:s₁.gens=#[])
  (ha:s₁.heap.get? a=some { cls:=.type "list",data:=.seq vs.toArray }) (hi:IntsAre vs ns) (hl:ns.length<=sizeLine) (hr:W6 k callerA)
  (F:∀ base:Heap,K.In base->base.Ns mainGlobals mg->FnOk P w K mg base CX k fa fd [x] sp) (hbind:∀ (s:Shared) (u:Value),BindsTo s fd ⟨[u],[]⟩ [(x,u)])
  (hsp:∀ H:Hp,zjg H->SqL K H a (ns.map V.int)->sp [.ref a] H (fun v _=>v=.bl true) fun _ _ _=>False)
  (hCX:∀ H e s',CX [] H s₁ (fun _ _ _=>False) e s'->False) :
  codeAny (model P w) callerA (.call (.ref fa) ⟨[.ref a],[]⟩) (fun r s'=>r=.ok (.ret (.bool true))/\OldK s₁.heap s'.heap/\s'.os=s₁.os/\AllBare s'.gens) s₁:=by
 have rv:=My hi;have lenV:=hi.length;have core:∀ H:Hp,zjg H->SqL K H a (ns.map V.int)->HOk P w H s₁.heap->(∀ b,H b≠none->b=a)->(H a≠none->K.lookup a=none) ->
   codeAny (model P w) callerA (.call (.ref fa) ⟨[.ref a],[]⟩) (fun r s'=>r=.ok (.ret (.bool true))/\OldK s₁.heap s'.heap/\s'.os=s₁.os/\AllBare s'.gens) s₁:=by
  intro H hO hS hok hA hK;have base_of:∀ {b:Addr} {o:Obj},s₁.heap.get? b=some o->H b=none->(Dj s₁.heap H).get? b=some o:=fun e n=>zel e n;have noA:∀ {b:Addr} {o:Obj} {es:Array DictEntry} {ep:Nat},s₁.heap.get? b=some o->o.data=.dict es ep->H b=none:=fun {b o es ep} e d=>by
   cases q:H b with
   | none=>rfl
   | some u =>
     have e':b=a:=hA b (by rw[q];simp);subst e';rw[ha] at e;cases e;have d':Data.seq vs.toArray _=Data.dict es ep:=d;cases d'
  have nsK:∀ {b:Addr} {m:Str->Option Value},s₁.heap.Ns b m->(Dj s₁.heap H).Ns b m:=fun {b m} ⟨o,es,ep,e,d,r⟩=>⟨o,es,ep,base_of e (noA e d),d,r⟩
  have hKb:K.In (Dj s₁.heap H):=fun b o e=>base_of (KX b o e) (by
   cases q:H b with
   | none=>rfl
   | some u =>
     have e':b=a:=hA b (by rw[q];simp);subst e';rw[hK (by rw[q];simp)] at e;cases e)
  have hM:Mod K mg (Dj s₁.heap H):=⟨hKb,nsK hns,⟨mb,nsK hb,hbb⟩,let ⟨mc,h1,h2⟩:=hlim;⟨mc,nsK h1,h2⟩⟩;have e0:zal P w K mg (Dj s₁.heap H) callerA [] s₁ H:=⟨rfl,hM,fun b o e=>zgy e,Nat.le_of_eq (zcx _ _),trivial,fun b hb=>absurd (show b∈([]:List Addr) from hb) (by simp),hok,.of_eq hg⟩;refine codeAny_mono ((F _ hKb (nsK hns)).run callerA [] s₁ H ⟨[.ref a],[]⟩ [.ref a] [.ref a] _ _ hr e0 (hbind s₁ (.ref a)) (.cons rfl .nil) (hsp H hO hS)) fun r s' h=>?_;cases r with
  | error e=>exact(hCX H e s' h).elim
  | ok fl =>
    cases fl with
    | next=>exact False.elim h
    | brk=>exact False.elim h
    | cont=>exact False.elim h
    | ret u =>
      obtain⟨v,H',os,bare,un,hok',r',q⟩:=h;have q':v=.bl true:=q;subst q';obtain rfl:u=Value.bool true:=r';refine⟨rfl,OldK.of_keep fun b o e=>?_,os,bare⟩;cases q:H b with
      | none=>exact un.keep b o e q (by intro z;exact absurd (show b∈([]:List Addr) from z) (by simp)) (by simp)
      | some u =>
        rcases hO b with z|⟨ob,xs,z⟩
        ·rw[q] at z;cases z
        ·have z2:=un.frzs b ob _ z;obtain⟨e1,_⟩:=hok b _ z;obtain⟨e2,_⟩:=hok' b _ z2;rw[e] at e1;cases e1;exact e2
 cases hk:K.lookup a with
 | some o =>
   have e:=KX a o hk;rw[ha] at e;cases e;refine core (fun _=>none) (fun _=>.inl rfl) (.inr ⟨_,vs.toArray,_,hk,rfl,rfl,rfl,by rw[zvi,lenV];exact hl,by simpa using rv⟩) (fun b u z=>by have z':(none:Option HO)=some u:=z;cases z') (fun b z=>absurd rfl z) fun z=>absurd rfl z
 | none =>
   refine core (fun b=>if b=a then some (.frz { cls:=.type "list",data:=.seq vs.toArray } (.lst (ns.map V.int))) else none) (fun b=>?_) (.inl (.inr ⟨{ cls:=.type "list",data:=.seq vs.toArray },if_pos rfl⟩)) (fun b u z=>?_) (fun b z=>?_) fun _=>hk
   ·by_cases hb:b=a
    ·exact .inr ⟨_,_,if_pos hb⟩
    ·exact .inl (if_neg hb)
   ·by_cases hb:b=a
    ·have z':=(if_pos hb).symm.trans z;cases z';subst hb;exact⟨ha,by rw[zu2];exact hl,vs,_,rv,ha⟩
    ·have z':=(if_neg hb).symm.trans z;cases z'
   ·by_cases hb:b=a
    ·exact hb
    ·exact absurd (if_neg hb) z
theorem zhj{l:PySem.W.OpenLaw}{n k:Nat}{q:Program}{loose:List Str}{XP:(Str->Option Value)->Heap->Prop}{YP:World->Heap->Prop}{d:DefRec}{K:Params->Frag}{CX:World->CXT}{sp:World->Sp}{x:Str}
  (hn:l.most=some n) (hn2:n<=sizeLine) (hdf:d.params.defaults=[]) (hr:W6 k callerA)
  (hY:∀ (w:World) (h:Heap),YP w h->(K w.params).In h)
  (F:∀ (w:World) (mg:Str->Option Value) (fa:Addr) (h:Heap),(K w.params).In h->h.Ns mainGlobals mg->mg d.name=#[c,fa] ->
   ∃ fd:FuncData,(∀ (s:Shared) (u:Value),BindsTo s fd ⟨[u],[]⟩ [(x,u)]) /\
     ∀ base:Heap,(K w.params).In base->base.Ns mainGlobals mg->FnOk l.prog w (K w.params) mg base (CX w) k fa fd [x] (sp w))
  (hsp:∀ (w:World) (H:Hp) (a:Addr) (ns:List Int),ns.length<=n->zjg H->SqL (K w.params) H a (ns.map V.int)->sp w [.ref a] H (fun v _=>v=.bl true) fun _ _ _=>False)
  (hCX:∀ (w:World) (H:Hp) (s:Shared) (e:Value) (s':Shared),CX w [] H s (fun _ _ _=>False) e s'->False) :
  PySem.W.WalkO q loose XP YP l.row.toRowW d [] (fun f vs=>PySem.call f vs):=by
 refine Att.attach_call hn hdf fun w s₀ s₁ mg mb fa o pm cd doc a vs ns G Y ho hd hcd hmg hobj hints hlen hg=>?_;have KX:=hY w _ Y;obtain⟨fd,hb,hF⟩:=F w mg fa _ KX G.T.g hmg;exact zff KX G.T.g G.T.b G.T.builtins G.T.nolimit hg hobj hints (zvh hlen hn2) hr hF hb (fun H hO hS=>hsp w H a ns hlen hO hS) fun H e s'=>hCX w H s₁ e s'
def Z1(s:Stmt)(j:Nat):Stmt:=match s with
 | .ClassDef _ _ _ body _ _ _ _ _ _ _=>body.getD j (.Pass ⟨0,0,0,0⟩)
 | _=>.Pass ⟨0,0,0,0⟩
def T9(s:Stmt):Arguments:=match s with
 | .FunctionDef _ a _ _ _ _ _ _ _ _=>a
 | _=>{ posonlyargs:=[],args:=[],vararg:=none,kwonlyargs:=[],kw_defaults:=[],kwarg:=none,defaults:=[] }
def Zv(s:Stmt):List Stmt:=match s with
 | .FunctionDef _ _ b _ _ _ _ _ _ _=>b
 | _=>[]
def Zj(s:Stmt):Scope:=match s with
 | .FunctionDef _ _ _ _ _ _ sc _ _ _=>sc
 | _=>{ kind:=.function,names:=[],isGenerator:=false,isCoroutine:=false }
abbrev E0:XK:=fun _ _ _=>False
structure Fun(K:Frag)(x qual:Str)(st:Stmt)(f:Addr)(fd:FuncData):Prop where
 ex:∃ (oc:Value) (od:Option Addr) (kV doc pm:Value) (an:Option Addr) (cdv ct:Value) (osl:Array (Option Value)),
  fd=PySem.W.fnOf x qual (T9 st) (Zv st) (Zj st) .none kV doc pm an cdv ct/\K.lookup f=some ⟨oc,od,.func fd,osl⟩/\PySem.W.codeIn K cdv qual=true
 kp:PySem.W.keepIn K (.ref f)=true
section
variable{P:Program}{w:World}{K:Frag}{mg:Str->Option Value}{base:Heap}
theorem Fun.binds{x qual:Str}{st:Stmt}{f:Addr}{fd:FuncData}{ps:List Str}(F:#[f,x,qual,st])
  (h:∀ (kV doc pm:Value) (an:Option Addr) (cdv ct:Value) (us:List Value),us.length=ps.length->bindArgs (PySem.W.fnOf x qual (T9 st) (Zv st) (Zj st) .none kV doc pm an cdv ct) ⟨us,[]⟩=pure (ps.zip us)):S8 K fd ps []:=by
 obtain⟨oc,od,kV,doc,pm,an,cdv,ct,osl,rfl,lk,hcd⟩:=F.ex;exact .all (h kV doc pm an cdv ct)
theorem Ox{x qual:Str}{st:Stmt}{f:Addr}{oc:Value}{od an:Option Addr}{osl:Array (Option Value)}{kV doc pm cdv ct:Value}(l:K.lookup f=some ⟨oc,od,.func (PySem.W.fnOf x qual (T9 st) (Zv st) (Zj st) .none kV doc pm an cdv ct),osl⟩)
  (c:PySem.W.codeIn K cdv qual=true) (k:PySem.W.keepIn K (.ref f)=true):Fun K x qual st f (PySem.W.fnOf x qual (T9 st) (Zv st) (Zj st) .none kV doc pm an cdv ct):=⟨⟨oc,od,kV,doc,pm,an,cdv,ct,osl,rfl,l,c⟩,k⟩
end
theorem Wq(hr:W6 k A):A.units+1<cLine:=zwr (Nat.add_le_add_left (by decide:1<=64) _) hr.units
theorem Vm(h:n<=1000):n<sizeLine:=zwr h ⋯
section
variable{X:Cx}
theorem pv(i:Nat)(hN:X.N[i]?=some x:=by rfl)(hv:Vis X.env.scope x:=by first|exact Or.inl rfl|exact Or.inr (Or.inl rfl)|exact Or.inr (Or.inr rfl))(hd:(x == ("__debug__":Str))=false:=by decide)
  (hcd:(x == ("__classdict__":Str))=false:=by decide):PE X (.Name x pos) (Dk i):=zin hN hv hd hcd
theorem zdc:Vs X (.builtin "len") (fun xs H Q=>∃ a kvs,xs=[V.ref a]/\H a=#[a,.dK,kvs]/\Q (.int kvs.length) H):=by
 intro pins s σ H xs us Q I r h;obtain⟨a,kvs,rfl,ha,q⟩:=h;obtain⟨u,rfl,ru⟩:=Qi r;cases ru;exact zks I (.inl ha) fun t s' I'=>⟨.int kvs.length,H,I',⟨t,rfl⟩,q⟩
end
theorem iteF{A B:Prop}(h:B):if false=true then A else B:=by
 rw[if_neg zvo];exact h
theorem iteT{A B:Prop}(h:A):if true=true then A else B:=by
 rw[if_pos rfl];exact h
theorem Bf{c A B:Prop}[Decidable c](h1:c->A)(h2:¬ c->B):if c then A else B:=by
 by_cases h:c
 ·rw[if_pos h];exact h1 h
 ·rw[if_neg h];exact h2 h
def Same(H H':Hp):Prop:=∀ b o,H b=some o->H' b=some o
theorem Same.refl(H:Hp):Same H H:=fun _ _ h=>h
theorem Same.trans(a:Same H H1)(b:Same H1 H2):Same H H2:=fun c o h=>b c o (a c o h)
theorem Same.free(e:Same H H')(h:H' l=Option.none):H l=Option.none:=by
 cases q:H l with
 | none=>rfl
 | some o =>
   rw[e l o q] at h;cases h
theorem Same.seq{K:Frag}{H H':Hp}{a:Addr}{xs:#[b]}(e:Same H H')(h:SqL K H a xs):SqL K H' a xs:=by
 rcases h with (h|⟨o,h⟩)|h
 ·exact .inl (.inl (e _ _ h))
 ·exact .inl (.inr ⟨o,e _ _ h⟩)
 ·exact .inr h
section
variable{κ:Type}[DecidableEq κ]
theorem Ds:∀ {l:List κ} {k:κ},l.Nodup->¬ k∈l->(l++[k]).Nodup
 | [],k,_,_=>by simp
 | a :: r,k,h,hk=>by
   obtain⟨h1,h2⟩:=zvt.mp h;show (a :: (r++[k])).Nodup;refine zvt.mpr ⟨fun m=>?_,Ds h2 fun m=>hk (zu7.mpr (Or.inr m))⟩;rcases zve.mp m with q|q
   ·exact h1 q
   ·exact hk (zu7.mpr (Or.inl (zu6.mp q).symm))
theorem zdd{p:κ×V}{r:List (κ×V)}{k:κ}(e:p.1=k):X9 (p :: r) k=X9 r k:=by
 unfold X9;rw[zwd,if_neg (by simp[e])]
theorem zde{p:κ×V}{r:List (κ×V)}{k:κ}(e:¬ p.1=k):X9 (p :: r) k=p :: X9 r k:=by
 unfold X9;rw[zwd,if_pos (by simp[e])]
end
section
variable{X:Cx}{pins:#[h]}{σ:List (Option V)}{H H':Hp}{s:Shared}{h':Heap}
theorem Inv.stepN{g':Array GenState}{t':Nat}{d':Drawn}{ch:List Addr}(I:#[d])
  (hch:∀ b∈ch,(b∈X.ex\/X.s₀.heap.get? b=none)/\b≠X.env.locals/\(∀ x c,X.env.cells.lookup x=some c->c≠b)/\∀ p∈X.pn++pins,p.1≠b)
  (keep:∀ b o,b≠X.env.locals->b∉X.fs->b∉ch->s.heap.get? b=some o->H b=none->h'.get? b=some o)
  (slot:∀ b o,b≠X.env.locals->b∈X.fs->b∉ch->s.heap.get? b=some o->H b=none->∃ sl,h'.get? b=some { o with slots:=sl }) (free:∀ b o,b∉ch->s.heap.get? b=some o->H b=none->H' b=none)
  (there:∀ b o,b∉ch->s.heap.get? b=some o->∃ o',h'.get? b=some o')
  (tups:∀ b xs,H b=#[a,.tup,xs]->H' b=#[a,.tup,xs]) (frzs:∀ b o u,H b=some (.frz o u)->H' b=some (.frz o u)) (tbls:∀ b ps,H b=#[a,.tbl,ps]->∃ more,H' b=#[a,.tbl,ps++more])
  (ns:∀ m,s.heap.Ns X.env.locals m->h'.Ns X.env.locals m) (hok:HOk X.prog X.w H' h') (hg:AllBare g') :
  Inv X pins σ H' { s with heap:=h',gens:=g',drawn:=d',toks:=t' }:=by
 have neL:∀ b o,X.s₀.heap.get? b=some o->b≠X.env.locals:=fun b o e=>zvv (zvn (Heap.lt_size e) I.ok.above);have neC:∀ b o,X.s₀.heap.get? b=some o->b∉X.ex->b∉ch:=fun b o e hx hb=>by
  rcases(hch b hb).1 with z|z
  ·exact hx z
  ·rw[z] at e;cases e
 have cellK:∀ x c,X.env.cells.lookup x=some c->∀ v,s.heap.IsCell c v->h'.IsCell c v:=fun x c e v ⟨o,ho,hd⟩=>by
  have nch:c∉ch:=fun z=>(hch c z).2.2.1 x c e rfl;by_cases hc:c∈X.fs
  ·obtain⟨sl,q⟩:=slot c o (I.cne x c e) hc nch ho (I.freeC x c e);exact⟨_,q,hd⟩
  ·exact⟨o,keep c o (I.cne x c e) hc nch ho (I.freeC x c e),hd⟩
 refine⟨I.ok,I.os,hg,⟨fun b o e n hb hx=>?_,fun b o e n hb hx=>?_,fun b o e n hx=>?_,fun b o e hx=>?_,fun b xs e=>tups b xs (I.base.tups b xs e),fun b o xs e=>frzs b o xs (I.base.frzs b o xs e),fun b ps e=>?_⟩,?_,fun x c e=>?_,?_,fun x c e=>?_,fun p hp=>?_,hok,I.len⟩
 ·exact keep b o (neL b o e) hb (neC b o e hx) (I.base.keep b o e n hb hx) (I.base.free b o e n hx)
 ·obtain⟨sl,e1⟩:=I.base.slot b o e n hb hx;obtain⟨sl',e2⟩:=slot b _ (neL b o e) hb (neC b o e hx) e1 (I.base.free b o e n hx);exact⟨sl',e2⟩
 ·obtain⟨o',e1⟩:=I.base.there b o e hx;exact free b o' (neC b o e hx) e1 (I.base.free b o e n hx)
 ·obtain⟨o',e1⟩:=I.base.there b o e hx;exact there b o' (neC b o e hx) e1
 ·obtain⟨m1,e1⟩:=I.base.tbls b ps e;obtain⟨m2,e2⟩:=tbls b _ e1;exact⟨m1++m2,by rw[e2,Array.append_assoc]⟩
 ·obtain⟨m,hn,hl⟩:=I.loc;refine⟨m,ns m hn,fun i x v e1 e2 e3=>?_⟩;obtain⟨u,r,l⟩:=hl i x v e1 e2 e3;refine⟨u,r,?_⟩;rcases l with l|⟨k,c,e,z⟩
  ·exact .inl l
  ·exact .inr ⟨k,c,e,cellK x c e _ z⟩
 ·obtain⟨v,z⟩:=I.cell x c e;exact⟨v,cellK x c e v z⟩
 ·obtain⟨m,⟨o,_,_,ho,_⟩,_⟩:=I.loc;exact free _ o (fun z=>(hch _ z).2.1 rfl) ho I.free
 ·obtain⟨v,o,ho,hd⟩:=I.cell x c e;exact free c o (fun z=>(hch c z).2.2.1 x c e rfl) ho (I.freeC x c e)
 ·obtain⟨e,n,ne,nf,d⟩:=I.pin p hp;have nch:p.1∉ch:=fun z=>(hch p.1 z).2.2.2 p hp rfl;exact⟨keep p.1 p.2 ne nf nch e n,free p.1 p.2 nch e n,ne,nf,d⟩
theorem Inv.callN{g':Array GenState}{t':Nat}{d':Drawn}{ch:List Addr}(I:#[d])(u:Un (frs X.stack) ch H H' s.heap h')(hok:HOk X.prog X.w H' h')(hg:AllBare g')
  (hch:∀ b∈ch,(b∈X.ex\/X.s₀.heap.get? b=none)/\b≠X.env.locals/\(∀ x c,X.env.cells.lookup x=some c->c≠b)/\∀ p∈X.pn++pins,p.1≠b) :
  Inv X pins σ H' { s with heap:=h',gens:=g',drawn:=d',toks:=t' }:=by
 obtain⟨m,⟨o,es,ep,ho,r⟩,_⟩:=id I.loc;obtain⟨sl,hL⟩:=u.any ho I.free fun z=>(hch _ z).2.1 rfl;exact I.stepN (ch:=ch) hch (fun b o hL hb hc e n=>u.keep b o e n (fun z=>(zu7.mp (I.stkSub b z)).elim hL hb) hc) (fun b o _ _ hc e n=>u.any e n hc) (fun b o hc e n=>u.free b o e n hc) (fun b o hc e=>u.there b o e hc) u.tups u.frzs u.tbls (fun m' hm=>by
  obtain⟨o',es',ep',ho',r'⟩:=hm;rw[ho] at ho';cases ho';exact⟨_,es',ep',hL,r'⟩) hok hg
theorem Inv.callN'(I:#[d])(ho:s'.os=s.os)(u:Un (frs X.stack) ch H H' s.heap s'.heap)(hok:HOk X.prog X.w H' s'.heap)(hg:AllBare s'.gens)
  (hch:∀ b∈ch,(b∈X.ex\/X.s₀.heap.get? b=none)/\b≠X.env.locals/\(∀ x c,X.env.cells.lookup x=some c->c≠b)/\∀ p∈X.pn++pins,p.1≠b):Inv X pins σ H' s':=by
 obtain⟨h',g',d',t',o'⟩:=s';have e:o'=s.os:=ho;subst e;exact I.callN (g':=g') (t':=t') (d':=d') u hok hg hch
end
section
variable{P:Program}{w:World}{H H':Hp}{h h' g:Heap}{a:Addr}{o:HO}
theorem Y8.there(x:Y8 P w H h a o):∃ ob,h.get? a=some ob:=by
 cases o with
 | lst xs=>obtain⟨_,_,_,_,e⟩:=x;exact⟨_,e⟩
 | tup xs=>obtain⟨_,_,_,ob,e,_⟩:=x;exact⟨_,e⟩
 | dK kvs=>obtain⟨_,_,_,_,o,_,_,e,_⟩:=x;exact⟨_,e⟩
 | dT kvs=>obtain⟨_,_,_,_,o,_,_,e,_⟩:=x;exact⟨_,e⟩
 | set S n=>obtain⟨o,_,_,_,e,_⟩:=x;exact⟨_,e⟩
 | ins C dx fs=>obtain⟨_,_,_,e,_⟩:=x;exact⟨_,e⟩
 | own y=>obtain⟨_,e⟩:=x;exact⟨_,e⟩
 | xd fs=>obtain⟨_,⟨_,_,_,e,_⟩,_⟩:=x;exact⟨_,e⟩
 | rng lo hi=>obtain⟨_,_,_,e⟩:=x;exact⟨_,e⟩
 | frz ob u=>obtain⟨e,_⟩:=x;exact⟨_,e⟩
 | tbl ps=>exact⟨_,show h.get? a=some _ from x⟩
 | met f y=>exact⟨_,show h.get? a=some _ from x⟩
 | ext φ=>obtain⟨_,⟨_,e⟩,_⟩:=x;exact⟨_,e⟩
theorem HOk.none_of(x:HOk P w H h)(e:h.get? a=none):H a=none:=by
 cases q:H a with
 | none=>rfl
 | some u =>
   obtain⟨_,z⟩:=(x a u q).there;rw[e] at z;cases z
theorem Bg(e:(PySem.W.hideAll h as).get? a=none):h.get? a=none\/a∈as:=by
 by_cases m:a∈as
 ·exact .inr m
 ·cases q:h.get? a with
  | none=>exact .inl rfl
  | some o=>rw[PySem.W.hideAll_get as q m] at e;cases e
end
structure Fly(g:Heap)(H:Hp)(h:Heap)(e T:Addr)(cls:Value):Prop where
 ex:∃ oe vs oT ts,h.get? e=some oe/\oe.cls=cls/\oe.data=.fields vs/\vs[1]?=#[c,T]/\T≠e/\h.get? T=some oT/\oT.data=.fields ts/\ts[3]?=some .none
 newE:g.get? e=none
 newT:g.get? T=none
 freeE:H e=none
 freeT:H T=none
def CX1(P:Program)(w:World):CXT:=fun outer H s E e s'=>∃ a T cls H',e=.ref a/\s'.os=s.os/\AllBare s'.gens/\Un (frs outer) [] H H' s.heap s'.heap/\HOk P w H' s'.heap/\Fly s.heap H' s'.heap a T cls/\E cls none H'
section
variable{X:Cx}{pins:#[h]}{σ:St}{H H':Hp}{s s':Shared}{h':Heap}{e T:Addr}{cls:Value}
structure Te(X:Cx)(ch:List Addr)(h h':Heap):Prop where
 keep:∀ b o,h.get? b=some o->b∉ch->b∉frs X.stack->h'.get? b=some o
 slot:∀ b o,h.get? b=some o->b∉ch->b∈frs X.stack->∃ sl,h'.get? b=some { o with slots:=sl }
theorem Te.of(I:#[d])(st:(PySem.W.hideAll s.heap (as++frs X.stack)).StaysIn h')(up:s.heap.UpToSlots h'):Te X as s.heap h' where
 keep:=fun b o q n1 n2=>st b o (PySem.W.hideAll_get _ q (by simp[n1,n2]))
 slot:=fun b o q _ m=>by
  obtain⟨_,o',ho,nf⟩:=I.stack.mem m;rw[q] at ho;cases ho;exact up b o q nf
theorem Te.un(I:#[d])(t:Te X ch s.heap h')(hch:∀ b∈ch,H b=none):Un (frs X.stack) ch H H s.heap h' where
 keep:=fun b o q n hf hc=>t.keep b o q hc hf
 slot:=fun b o q n hf hc=>t.slot b o q hc hf
 free:=fun _ _ _ n _=>n
 there:=fun b o q hc=>by
  by_cases m:b∈frs X.stack
  ·obtain⟨_,z⟩:=t.slot b o q hc m;exact⟨_,z⟩
  ·exact⟨o,t.keep b o q hc m⟩
 tups:=fun _ _ q=>q
 frzs:=fun _ _ _ q=>q
 tbls:=fun b ps q=>⟨#[],by rw[q];simp⟩
theorem Te.hok(I:#[d])(t:Te X ch s.heap h')(hch:∀ b∈ch,H b=none):HOk X.prog X.w H h':=fun b u q=>by
 have tr:∀ c v,H c=some v->c∉ch/\c∉frs X.stack:=fun c v z=>⟨(fun m=>by rw[hch c m] at z;cases z),(fun m=>by rw[I.stkFree c m] at z;cases z)⟩
 refine(I.hok b u q).stay (fun c v hc r=>?_) (fun _ z=>z) fun _ _ z=>z;rcases hc with z|z
 ·subst z;exact t.keep c v r (tr c u q).1 (tr c u q).2
 ·exact t.keep c v r (tr c _ z).1 (tr c _ z).2
theorem Inv.newRec(I:#[d])(hx:X.ex=[])(n:s.heap.get? b=none):(b∈X.ex\/X.s₀.heap.get? b=none)/\b≠X.env.locals/\(∀ x c,X.env.cells.lookup x=some c->c≠b)/\∀ p∈X.pn++pins,p.1≠b:=by
 refine⟨.inr ?_,?_,?_,?_⟩
 ·cases q:X.s₀.heap.get? b with
  | none=>rfl
  | some o =>
    obtain⟨_,z⟩:=I.base.there b o q (by rw[hx];simp);rw[n] at z;cases z
 ·rintro rfl;obtain⟨m,⟨o,_,_,ho,_⟩,_⟩:=I.loc;rw[n] at ho;cases ho
 ·rintro x c hc rfl;obtain⟨v,o,ho,_⟩:=I.cell x c hc;rw[n] at ho;cases ho
 ·rintro p hp rfl;obtain⟨z,_⟩:=I.pin p hp;rw[n] at z;cases z
theorem Inv.raised(I:#[d])(ho:s'.os=s.os)(hg:AllBare s'.gens)(u:Un (frs X.stack) [] H H' s.heap s'.heap)(hok:HOk X.prog X.w H' s'.heap):Inv X pins σ H' s' :=
 I.call' ho u hok hg (fun _ z=>nomatch z)
theorem Fly.flying(J:#[d])(hl:s.heap.FunFrames X.base l)(hsub:∀ b∈frs l,b∈frs X.stack)(F:Fly g H s.heap e T cls) :
  ∃ a0,Heap.FlyingW (PySem.W.hideAll s.heap ([e,T]++frs X.stack)) l e cls a0 s.heap:=by
 obtain⟨oe,vs,oT,ts,e1,e2,e3,e4,e5,e6,e7,e8⟩:=F.ex;have sz:0<vs.size:=zwr (zvw _) (Array.getElem?_eq_some_iff.mp e4).1;refine⟨vs[0],fun b o q=>PySem.W.of_hideAll _ q,PySem.W.hideAll_none _ (by simp),PySem.W.funFrames_hide hl fun env he a ha=>?_,oe,vs,T,oT,ts,e1,⟨e2,?_⟩,e3,e4,PySem.W.hideAll_none _ (by simp),e5,e6,e7,e8⟩
 ·have:a∈frs l:=zwv.mpr ⟨env,he,ha⟩;simp[hsub a this]
 ·exact Array.getElem?_eq_getElem sz
theorem Fly.again(J:#[d])(F:Fly g H s.heap e T cls)(hg:∀ b,s.heap.get? b=none->g.get? b=none)
  (up:s.heap.UpToSlots h') (st:(PySem.W.hideAll s.heap ([e,T]++frs X.stack)).StaysIn h') (tr:h'.TracedW (PySem.W.hideAll s.heap ([e,T]++frs X.stack)) e cls a0):∃ T',Fly g H h' e T' cls:=by
 obtain⟨oe,vs,T',oT,ts,f1,⟨f2,_⟩,f3,f4,f5,f6,f7,f8,f9⟩:=tr;refine⟨T',⟨oe,vs,oT,ts,f1,f2,f3,f4,f6,f7,f8,f9⟩,F.newE,?_,F.freeE,?_⟩
 all_goals
  rcases Bg f5 with z|z
  ·first
    | exact hg _ z
    | exact J.hok.none_of z
  ·simp only[zve,zu7,zv7,or_false] at z;rcases z with (z|z)|z
   ·exact absurd z f6
   ·subst z
    first
     | exact F.newT
     | exact F.freeT
   ·obtain⟨_,o,ho,nf⟩:=J.stack.mem z;obtain⟨sl,q⟩:=up T' o ho nf;rw[f7] at q;cases q;exact absurd f8 (nf _)
end
section
variable{P:Program}{w:World}{K:Frag}{mg:Str->Option Value}{base:Heap}{N:List Str}{qual:Str}{scope:Scope}{f:Addr}{cd:Value}{A:Around}{outer:List Env}{s0:Shared}{H0:Hp}{E:XK}
 {pins:#[h]} {σ:St} {H H':Hp} {s s':Shared} {h':Heap} {e T:Addr} {cls:Value}
theorem Bh(hx:X.ex=[])(J:#[d])(hst:X.stack=X.env :: X.outer)(hf:X.env.frame=some X.env.locals)(t:Te X ch s.heap h')(hch:∀ b∈ch,X.s₀.heap.get? b=none) :
  Un X.fs [] X.H₀ H X.s₀.heap h':=by
 have nb:∀ b o,X.s₀.heap.get? b=some o->b∉ch:=fun b o q m=>by rw[hch b m] at q;cases q
 have mem:∀ b,b∈frs X.stack↔b=X.env.locals\/b∈X.fs:=fun b=>by
  unfold Cx.fs frs;rw[hst,zwz,hf];exact zu7
 have neL:∀ b o,X.s₀.heap.get? b=some o->b≠X.env.locals:=fun b o q=>zvv (zvn (Heap.lt_size q) J.ok.above);have nx:∀ b:Addr,b∉X.ex:=fun b=>by rw[hx];simp
 refine⟨fun b o q n hb _=>?_,fun b o q n hb _=>?_,fun b o q n _=>J.base.free b o q n (nx b),fun b o q _=>?_,J.base.tups,J.base.frzs,J.base.tbls⟩
 ·refine t.keep b o (J.base.keep b o q n hb (nx b)) (nb b o q) fun m=>?_;exact((mem b).mp m).elim (neL b o q) hb
 ·obtain⟨sl,z⟩:=J.base.slot b o q n hb (nx b);obtain⟨sl',z'⟩:=t.slot b _ z (nb b o q) ((mem b).mpr (.inr hb));exact⟨sl',z'⟩
 ·obtain⟨o',z⟩:=J.base.there b o q (nx b);by_cases m:b∈frs X.stack
  ·obtain⟨_,z'⟩:=t.slot b o' z (nb b o q) m;exact⟨_,z'⟩
  ·exact⟨o',t.keep b o' z (nb b o q) m⟩
theorem Zk:W2 (CX1 P w) (cxOf (CX1 P w) P w K mg base N qual scope f cd A outer s0 H0 E) E:=by
 intro pins σ H s ev s' I h;obtain⟨a,T,cls,H',q0,ho,hg,u,hok,F,hE⟩:=h;subst q0;have J:=I.raised ho hg u hok;obtain⟨a0,hfl⟩:=F.flying J J.stack fun _ z=>z;refine wpAny_leaves_onW (base:=PySem.W.hideAll s'.heap ([a,T]++frs _)) J.ok.frames rfl hfl fun h2 hfl2 up=>?_;have old:∀ b,s.heap.get? b=none->s0.heap.get? b=none:=fun b n=>by
  cases q:s0.heap.get? b with
  | none=>rfl
  | some o =>
    obtain⟨_,z⟩:=I.base.there b o q (by show b∉([]:List Addr);simp);rw[n] at z;cases z
 have old2:∀ b,s'.heap.get? b=none->s0.heap.get? b=none:=fun b n=>by
  cases q:s0.heap.get? b with
  | none=>rfl
  | some o =>
    obtain⟨_,z⟩:=J.base.there b o q (by show b∉([]:List Addr);simp);rw[n] at z;cases z
 have t:=Te.of (as:=[a,T]) J hfl2.1 up;have F0:Fly s0.heap H' s'.heap a T cls:=⟨F.ex,old _ F.newE,old _ F.newT,F.freeE,F.freeT⟩;obtain⟨T',F'⟩:=F0.again J old2 up hfl2.1 hfl2.2.2.2;refine⟨a,T',cls,H',rfl,J.os,J.bare,Bh rfl J rfl rfl t ?_,t.hok J ?_,F',hE⟩
 ·intro b hb;rcases zu7.mp hb with rfl|hb
  ·exact F0.newE
  ·rcases zu7.mp hb with rfl|hb
   ·exact F0.newT
   ·cases hb
 ·intro b hb;rcases zu7.mp hb with rfl|hb
  ·exact F.freeE
  ·rcases zu7.mp hb with rfl|hb
   ·exact F.freeT
   ·cases hb
def zie(X:Cx)(E:XK):Prop:=∀ (pins:List (Addr×Obj)) (σ:St) (H:Hp) (s:Shared) (h':Heap) (e C:Addr) (args:List Value),#[d]->Heap.MadeExcOf s.heap h' e (.ref C) args->E (.ref C) none H->X.xe (.ref e) { s with heap:=h' }
theorem Xg:zie (cxOf (CX1 P w) P w K mg base N qual scope f cd A outer s0 H0 E) E:=by
 intro pins σ H s h1 e C args I hm hE;refine wpAny_leaves_madeW (base:=PySem.W.hideAll s.heap ([]++frs _)) (h:=s.heap) I.ok.frames rfl (fun b o q=>PySem.W.of_hideAll _ q)
  (PySem.W.funFrames_hide I.stack fun env he a ha=>by
   have:a∈frs _:=zwv.mpr ⟨env,he,ha⟩
   simpa using this) hm fun h2 t hfl _ _ up=>?_
 have up2:s.heap.UpToSlots h2:=(Heap.UpToSlots.of_keeps hm.keeps).trans up;have tt:=Te.of (as:=[]) I hfl.1 up2;have old2:∀ b,s.heap.get? b=none->s0.heap.get? b=none:=fun b n=>by
  cases q:s0.heap.get? b with
  | none=>rfl
  | some o =>
    obtain⟨_,z⟩:=I.base.there b o q (by show b∉([]:List Addr);simp);rw[n] at z;cases z
 obtain⟨oe,vs,T',oT,ts,f1,⟨f2,_⟩,f3,f4,f5,f6,f7,f8,f9⟩:=hfl.2.2.2;have nT:s.heap.get? T'=none:=by
  rcases Bg f5 with z|z
  ·exact z
  ·have z':T'∈frs (cxOf (CX1 P w) P w K mg base N qual scope f cd A outer s0 H0 E).stack:=(zve.mp z).resolve_left (by simp);obtain⟨_,o,ho,nf⟩:=I.stack.mem z';obtain⟨sl,q⟩:=up2 T' o ho nf;rw[f7] at q;cases q;exact absurd f8 (nf _)
 refine⟨e,T',.ref C,H,rfl,I.os,I.bare,Bh rfl I rfl rfl tt (fun _ z=>nomatch z),tt.hok I (fun _ z=>nomatch z),⟨⟨oe,vs,oT,ts,f1,f2,f3,f4,f6,f7,f8,f9⟩,old2 _ hm.new,old2 _ nT,I.hok.none_of hm.new,I.hok.none_of nT⟩,hE⟩
end
structure Qx(K:Frag)(mg:Str->Option Value)(x:Str)(C:Addr):Prop where
 nm:mg x=#[a,.ref,C]
 ex:PySem.W.excIn K C [.type "ValueError",.type "Exception",.type "BaseException",.type "object"] "ValueError.__new__"=true
theorem Qx.own{K:Frag}{mg:Str->Option Value}{x:Str}{C:Addr}{h:Heap}(c:Qx K mg x C)(X:K.In h):OwnCls x C [.type "ValueError",.type "Exception",.type "BaseException",.type "object"] "ValueError.__new__" mg h:=by
 refine⟨c.nm,?_⟩;have q:=c.ex;unfold PySem.W.excIn at q;split at q
 ·rename_i dd cd sl ho;split at q
  ·rename_i C' bm k0 k1 k2 k3 n k5 hm hs;simp only[zwm,beq_iff_eq,Bool.not_eq_true'] at q;obtain⟨⟨⟨⟨⟨rfl,rfl⟩,hdel⟩,ht⟩,hok⟩,hni⟩:=q;obtain⟨nm,bs,mro,ns,qn,hd,sn,sub,ab,col,del⟩:=cd;dsimp only at hm hdel hok hni;subst hm hdel;have hsl:sl=#[k0,k1,k2,k3,#[a,.builtin,"ValueError.__new__"],k5]:=by
    obtain⟨l⟩:=sl;simp only at hs;rw[hs]
   subst hsl;exact⟨bm,ns,nm,qn,bs,hd,sn,sub,ab,col,dd,k0,k1,k2,k3,k5,_,X _ _ ho,.of_isNs (PySem.W.isNs_of_in X hok),PySem.W.nsMap_none_of_in X hok hni,PySem.W.tail_of_in X ht⟩
  ·cases q
 ·cases q
inductive zhk(C:Addr)(E:XK)(vs:#[b])(H1:Hp):Prop where
 | mk(_:vs.length<=sizeLine)(_:E (.ref C) none H1)
def zjh(C:Addr)(E:XK)(t:TA):TS:=fun _ σ H=>t σ H fun vs H1=>zhk C E vs H1
theorem Xh{X:Cx}{x:Str}{C:Addr}{E:XK}{e₀:Expr}{rest:List Expr}{t:TA}{np cpos pos:Pos}(hl:zie X E)(hc:X.calm=true)(c:Qx X.K X.mg x C)(hg:Gl X x)(ha:PA X (e₀ :: rest) t)
  (he:starEach (e₀ :: rest) X.env=(false,eval e₀ X.env) :: starEach rest X.env:=by rfl) (hplain:(backTo cpos (starEach rest X.env)).any (·.1)=false:=by rfl) (hd:(x == ("__debug__":Str))=false:=by decide) :
  PS X (.Raise (some (.Call (.Name x np) (e₀ :: rest) [] cpos)) none pos) (zjh C E t):=by
 intro pins s σ H D I h;have O:=c.own I.mod.kin;obtain⟨tl,N,nm,q,bs,hdct,sn,sub,ab,col,dd,k0,k1,k2,k3,k5,mN,hC,hN,hni,T⟩:=O.obj;refine wpAny_Raise_call_subT (C:=C) (nm:=nm) (q:=q) (N:=N) (bs:=bs) (bm:=tl) (hdct:=hdct) (sn:=sn) (sub:=sub) (ab:=ab) (col:=col) (dd:=dd) (k0:=k0) (k1:=k1) (k2:=k2) (k3:=k3) (k5:=k5)
  PySem.F.excBase_ValueError (mN:=mN) (T.hasType (by rfl)) (I.ok.hd hc) (by rw[he];show (false||(backTo cpos (starEach rest X.env)).any (·.1))=false;rw[hplain];rfl) hni (Pn I hg c.nm ⟨rfl,?_⟩ hd)
 have hp:=ha cpos pins s σ H _ I h;rw[he] at hp ⊢;refine Calls.evalArgs_plain (wpAny_mono hp (fun us s2 h2=>?_) fun _ _ y=>y);obtain⟨vs,H1,I1,r,hlen,hE⟩:=h2;exact⟨rfl,by rw[<- r.length];exact hlen,I1.bk _ _ hC,hN.keeps I1.bk,T.keeps I1.bk,fun h' e hm=>hl _ _ _ _ _ _ _ _ I1 hm hE⟩
structure zb3(K:Frag)(CB:Addr):Prop where
 ty:PySem.W.typeIn K (.ref CB)=#[a,.type,"type"]
 cl:(PySem.W.clsIn K CB).isSome=true
 bx:PySem.W.mroIn K CB (.type "BaseException")=some true
theorem Bi{K:Frag}{M:Model}{A:Around}{E:Value->Shared->Prop}{s:Shared}{e C CB:Addr}{b:Bool}{oe:Obj}{Q:Bool->Shared->Prop}(X:K.In s.heap)(c:zb3 K CB)
  (he:s.heap.get? e=some oe) (hcls:oe.cls=.ref C) (hm:PySem.W.mroIn K C (.ref CB)=some b) (h:Q b s):wpAny M A (excMatches (.ref e) (.ref CB)) Q E s:=by
 obtain⟨hp,g,d,tk,os⟩:=s;have L1:=PySem.W.looks_typeIn (M:=M) X c.ty;have L2:=PySem.W.looks_mroIn (M:=M) X c.bx;have L3:=PySem.W.looks_mroIn (M:=M) X hm;have L0:PySem.W.Looks M hp (typeOf (.ref e)) (.ref C):=hcls▸(PySem.W.Looks.ld he).andThen .now;have L4:PySem.W.Looks M hp (isType (.ref CB)) true:=by
  have z:=c.cl;unfold PySem.W.clsIn at z;split at z
  ·rename_i c' d' cd' sl' ho;intro A' Q' E' s' k q;unfold isType loadHead;exact wpAny_bind (wpAny_loadPart (k _ _ (X _ _ ho)) (wpAny_pure q))
  ·cases z
 unfold excMatches isInstance isExcClass;refine wpAny_bind (wpAny_bind (L1.at (wpAny_of_eq tc_notTuple ?_)));simp only[zwh,if_false,List.forIn_cons,List.forIn_nil];refine wpAny_bind (wpAny_pure (wpAny_bind ?_));simp only[List.forIn_cons,List.forIn_nil];refine wpAny_bind (wpAny_bind (wpAny_bind (L4.at ?_)));simp only[if_true];refine L2.at ?_;simp only[Bool.not_true,zwh,if_false];refine wpAny_pure (wpAny_pure (wpAny_bind (L0.at (wpAny_bind (wpAny_bind (wpAny_bind (L3.at ?_)))))));cases b with
 | true=>simp only[if_true];exact wpAny_pure (wpAny_pure (wpAny_pure h))
 | false=>simp only[zwh,if_false];exact wpAny_pure (wpAny_pure (wpAny_pure h))
end L2
namespace L2
open PySem PySem.Spec PyProof.Rows PySem.W PySem.Calls PySem.Builtin PySem.Builtin.ObjectAttr PySem.Builtin.Getset_descriptor
def zk0(a:Addr)(cls:Value):HO:=.ext fun h=>∃ o vs,h.get? a=some o/\o.cls=cls/\o.data=.fields vs
structure zdf(K:Frag)(D:Addr):Prop where
 ga:findIn K (.ref D) "__getattribute__"=some #[a,.builtin,"BaseException.__getattribute__"]
 gk:findIn K (.ref D) "__getattr__"=some none
 cl:(clsIn K D).isSome=true
 at_:findIn K (.ref D) "__class__"=some #[a,.builtin,"object.__class__"]
 gt:specialIn K (.builtin "object.__class__") "__get__"=some #[a,.builtin,"getset_descriptor.__get__"]
 tk:takesIn K (.builtin "object.__class__")=some true
 mo:mroIn K D (.type "object")=some true
 mx:mroIn K D (.type "BaseException")=some true
section
variable{prog:Program}{w:World}{A:Around}{E:Value->Shared->Prop}{s:Shared}{K:Frag}{x D:Addr}
theorem zfg(X:K.In h)(c:zdf K D):Looks M h (find (.ref x) (.ref D) "__class__") (.bind (.builtin "getset_descriptor.__get__") (.builtin "object.__class__")):=by
 have L1:=looks_findIn (M:=M) X c.at_;have L2:Looks M h (getOf #[a,.builtin,"object.__class__"]) #[a,.builtin,"getset_descriptor.__get__"]:=looks_specialIn X c.gt;have L3:=looks_takesIn (M:=M) X c.tk;exact L1.andThen (L2.andThen ((show Looks M h (dataDescriptor? (some (.builtin "object.__class__")) (some (.builtin "getset_descriptor.__get__"))) (some (.builtin "getset_descriptor.__get__",.builtin "object.__class__")) from L3.andThen .now).andThen (Looks.tag .now)))
theorem zau(X:K.In s.heap)(hx:s.heap.get? x=some o)(hc:o.cls=.ref D)(c:zdf K D)(q:R (.ok (.ret (.ref D))) s) :
  codeAny (model prog w) A (.call (.builtin "getset_descriptor.__get__") ⟨[.builtin "object.__class__",.ref x,.ref D],[]⟩) R s:=by
 obtain⟨hh,g,d,t,os⟩:=s;have L0:Looks (model prog w) hh (typeOf (.ref x)) (.ref D):=hc▸(Looks.ld hx).andThen .now;have Lm:=looks_mroIn (M:=model prog w) X c.mo;refine codeAny_call_builtin KF.slot_gs.plain KF.entry_gs (KF.slot_gs.check _ _ _ _ _ _ _ _ KF.type_class (KF.args_gs _ _ _) ?_);unfold Builtin.«getset_descriptor.__get__» descrGet;rw[dga_obj];refine wpAny_bind (wpAny_pure ?_);unfold descrGetter descrCheckInstance descrNameAndClass isInstance;simp only[KF.owner_class]
 repeat lk
 refine⟨Code.quiet_builtin _ ⋯,codeAny_builtin KF.entry_class ?_⟩;unfold Builtin.«object.__class__» shownTypeOf
 repeat lk
 exact q
theorem zji(X:K.In s.heap)(hx:s.heap.get? x=some o)(hc:o.cls=.ref D)(c:zdf K D)(q:Q (.done (.ret (.ref D))) s) :
  wpAny (model prog w) A (Builtin.«object.__getattribute__» ⟨[.ref x,.str "__class__" tk],[]⟩) Q E s:=by
 have L0:Looks (model prog w) s.heap (typeOf (.ref x)) (.ref D):=hc▸(Looks.ld hx).andThen .now;have Lf:=zfg (x:=x) (M:=model prog w) X c;have e1:slotArgs "__getattribute__" 1 ⟨[.ref x,.str "__class__" tk],[]⟩=pure (.ref x,[.str "__class__" tk]):=rfl;unfold Builtin.«object.__getattribute__»;rw[e1];refine wpAny_bind (wpAny_pure ?_);refine wpAny_bind (show wpAny _ _ (attrName (.str "__class__" tk)) _ _ _ from wpAny_pure ?_);obtain⟨hh,g,d,t,os⟩:=s;refine wpAny_bind (L0.at (wpAny_bind (Lf.at ?_)));show wpAny _ _ (bindTo _ _ _ _) _ _ _;unfold bindTo;dsimp only;refine wpAny_bind (wpAny_holding (wpAny_call (zau X hx hc c ?_)));exact wpAny_pure q
theorem G9(X:K.In s.heap)(hx:s.heap.get? x=some o)(hc:o.cls=.ref D)(c:zdf K D)(q:Q #[c,D] { s with toks:=s.toks+1 }) :
  wpAny (model prog w) A (getAttr? (.ref x) "__class__") Q E s:=by
 obtain⟨hh,g,d,t,os⟩:=s;have L0:Looks (model prog w) hh (typeOf (.ref x)) (.ref D):=hc▸(Looks.ld hx).andThen .now;have La:=looks_findIn (M:=model prog w) X c.ga;have Lk:=looks_findIn (M:=model prog w) X c.gk;have Lx:=looks_mroIn (M:=model prog w) X c.mx;have hb:=PySem.F.attr_ValueError.ga.bind (.ref x);have hne0:(Value.builtin "BaseException.__getattribute__" == Value.builtin "object.__getattribute__")=false:=by decide +kernel
 have hne:(onTheHeap (Value.ref D)&&Value.builtin "BaseException.__getattribute__" == Value.builtin "object.__getattribute__")=false:=by rw[hne0];rfl
 unfold getAttr? getAttrBy? getAttrBy;refine wpAny_bind (wpAny_mkText (wpAny_bind (wpAny_attempt (wpAny_holding (wpAny_bind (L0.at (wpAny_bind (La.at ?_))))))));dsimp only;rw[if_neg (by rw[hne];decide)];unfold getAttrByItsOwn;refine wpAny_bind (show wpAny _ _ (typeLookup (.ref D) "__getattr__") _ _ _ from Lk.at ?_);refine wpAny_bind (wpAny_attempt (wpAny_holding ?_));show wpAny _ _ (boundAndCalled _ _ _) _ _ _;unfold boundAndCalled;rw[hb];refine wpAny_bind (wpAny_pure (wpAny_call ?_));refine codeAny_call_builtin PySem.F.attr_ValueError.ga.plain PySem.F.entry_bexc_ga ?_;have hk:builtinKind "BaseException.__getattribute__"=some .slot:=by decide +kernel
 have hsplit:splitId "BaseException.__getattribute__"=some ("BaseException","__getattribute__"):=by decide +kernel
 have ha:=PySem.F.args_bexc_ga (.ref x) (.str "__class__" t);simp only[checkBuiltinCall,hk,hsplit,List.cons_append,List.nil_append];unfold isInstance
 repeat (first|with_reducible refine zji X hx hc c ?_|lk)
 exact q
theorem zfh(c:zdf K D):KitX K (.ref x) (.ref D) (fun h=>∃ o,h.get? x=some o/\o.cls=.ref D) where
 ty:=fun M h _ p=>by obtain⟨o,hx,hc⟩:=p;exact hc▸(Looks.ld hx).andThen .now
 it:=fun _ _ X _=>by
  have z:=c.cl;unfold clsIn at z;split at z
  ·rename_i ho;intro A' Q' E' s' k q;unfold isType loadHead;exact wpAny_bind (wpAny_loadPart (k _ _ (X _ _ ho)) (wpAny_pure q))
  ·cases z
 ne:=fun h tp dd its n sl X htp=>by
  refine Bool.eq_false_iff.mpr fun q=>?_;have e:D=tp:=Value.ref.inj (beq_iff_eq.mp q);subst e;have z:=c.cl;unfold clsIn at z;split at z
  ·rename_i ho;have z:=(X _ _ ho).symm.trans htp;cases z
  ·cases z
 ca:=fun X p q=>by obtain⟨o,hx,hc⟩:=p;exact G9 X hx hc c q
end
inductive TyX(K:Frag)(H:Hp)(x:V)(t:Value):Prop where
 | of (h:Mw K H x t):TyX K H x t
 | exc {a D:Addr} (ex:x=.ref a) (et:t=.ref D) (h:H a=some (zk0 a (.ref D))) (c:zdf K D):TyX K H x t
def zk1:V->Value
 | .ty n=>.type n
 | .ref a=>.ref a
 | _=>.none
inductive zk2(K:Frag)(xs:#[b])(H:Hp)(Q:VK):Prop where
 | mk(x)(c)(t)(b)(_:xs=[x,c])(_:TyX K H x t)(_:((∃ n,c=.ty n)\/∃ a,c=.ref a))(_:kitOne K t (zk1 c)=some b)(_:Q (.bl b) H)
theorem zfi:Vs X (.builtin "isinstance") (zk2 X.K):=by
 intro pins s σ H xs us Q I r h;obtain⟨x,c,t,b,rfl,ty,hc,hk,q⟩:=h;obtain⟨u,w',rfl,r1,r2⟩:=zey r;have e:w'=zk1 c:=by
  rcases hc with ⟨n,rfl⟩|⟨a,rfl⟩
  ·exact r2
  ·exact r2
 subst e;cases ty with
 | of ty=>exact zc4 I r1 ty hk fun tk=>⟨.bl b,H,I.tok tk,rfl,q⟩
 | @exc a D ex et ha cl =>
   subst ex et;cases (show u=Value.ref a from r1);obtain⟨⟨o,vs,ho,hcl,_⟩,_⟩:=(show Y8 X.prog X.w H s.heap a (zk0 a (.ref D)) from I.hok a _ ha);exact kia_one (zfh cl) I.kIn ⟨o,ho,hcl⟩ hk (fun z=>nomatch z) fun tk=>⟨.bl b,H,I.tok tk,rfl,q⟩
def fgt:List Nat->St->St
 | [],σ=>σ
 | i :: r,σ=>fgt r (σ.set i none)
theorem J9:∀ (as:List Nat) (σ:St),(fgt as σ).length=σ.length
 | [],_=>rfl
 | i :: r,σ=>by rw[fgt,J9 r,zws]
theorem Du:∀ (as:List Nat) {σ:St} {i:Nat} {v:V},(fgt as σ)[i]?=#[a,some,v]->σ[i]?=#[a,some,v]/\i∉as
 | [],_,_,_,h=>⟨h,by simp⟩
 | j :: r,σ,i,v,h=>by
   obtain⟨h1,h2⟩:=Du r h;by_cases e:i=j
   ·subst e;rw[List.getElem?_set] at h1;simp at h1
   ·rw[zv2 (Ne.symm e)] at h1;exact⟨h1,by simp[e,h2]⟩
abbrev Cx.tried(X:Cx)(E:Value->Shared->Prop)(lk:St)(pn:#[h]):Cx:={ X with xe:=E,lk:=lk,pn:=pn }
abbrev Cx.hand(X:Cx)(e:Addr):Cx:={ X with A:=X.A.mark #[c,e],calm:=false,xe:=fun _ _=>False }
section
variable{X:Cx}{pins pins':#[h]}{σ σ' lk:St}{H:Hp}{s:Shared}{E:Value->Shared->Prop}{e:Addr}
theorem Cx.Ok.tried(ok:X.Ok)(E:Value->Shared->Prop)(lk:St)(pn:#[h]):(X.tried E lk pn).Ok :=
 ⟨ok.mod,ok.kind,ok.glob,ok.blt,ok.above,ok.inj,ok.has,ok.cab,ok.hd,ok.frames,ok.stk,ok.exf,ok.bs,ok.bsz,ok.noex,ok.exfs,ok.funs,ok.frf⟩
theorem Cx.Ok.untried{pn:#[h]}(ok:(X.tried E lk pn).Ok):X.Ok :=
 ⟨ok.mod,ok.kind,ok.glob,ok.blt,ok.above,ok.inj,ok.has,ok.cab,ok.hd,ok.frames,ok.stk,ok.exf,ok.bs,ok.bsz,ok.noex,ok.exfs,ok.funs,ok.frf⟩
theorem Cx.Ok.hand(ok:X.Ok)(e:Addr):(X.hand e).Ok :=
 ⟨ok.mod,ok.kind,ok.glob,ok.blt,ok.above,ok.inj,ok.has,ok.cab,fun z=>(nomatch z),ok.frames,ok.stk,ok.exf,ok.bs,ok.bsz,ok.noex,ok.exfs,ok.funs,ok.frf⟩
theorem Inv.tried(I:#[d])(E:Value->Shared->Prop)(hlk:∀ (i:Nat) v,lk[i]?=#[a,some,v]->σ[i]?=#[a,some,v]):Inv (X.tried E lk (X.pn++pins)) [] σ H s:=by
 refine⟨I.ok.tried _ _ _,I.os,I.bare,I.base,?_,I.cell,I.free,I.freeC,fun p hp=>I.pin p (by simpa using hp),I.hok,I.len⟩;obtain⟨m,hn,hl⟩:=I.loc;exact⟨m,hn,fun i x v e1 e2 e3=>hl i x v e1 (.inl (e2.elim id (hlk i v))) e3⟩
theorem Inv.untried(I:Inv (X.tried E lk (X.pn++pins)) pins' σ' H s)(hX:X.lk=[])(hl:lk.length=X.N.length):Inv X pins lk H s:=by
 refine⟨I.ok.untried,I.os,I.bare,I.base,?_,I.cell,I.free,I.freeC,fun p hp=>I.pin p (zvq _ hp),I.hok,hl⟩;obtain⟨m,hn,hl⟩:=I.loc;exact⟨m,hn,fun i x v e1 e2 e3=>hl i x v e1 (.inr (e2.elim id fun z=>by rw[hX] at z;simp at z)) e3⟩
theorem Inv.untriedN(I:Inv (X.tried E lk (X.pn++pins)) [] σ' H s)(hX:X.lk=[]):Inv X pins σ' H s:=by
 refine⟨I.ok.untried,I.os,I.bare,I.base,?_,I.cell,I.free,I.freeC,fun p hp=>I.pin p (by simpa using hp),I.hok,I.len⟩;obtain⟨m,hn,hl⟩:=I.loc;exact⟨m,hn,fun i x v e1 e2 e3=>hl i x v e1 (e2.elim .inl fun z=>by rw[hX] at z;simp at z) e3⟩
theorem Inv.hand(I:#[d])(e:Addr):Inv (X.hand e) pins σ H s:=⟨I.ok.hand e,I.os,I.bare,I.base,I.loc,I.cell,I.free,I.freeC,I.pin,I.hok,I.len⟩
theorem Inv.unhand(ok:X.Ok)(I:Inv (X.hand e) pins σ H s):#[d]:=⟨ok,I.os,I.bare,I.base,I.loc,I.cell,I.free,I.freeC,I.pin,I.hok,I.len⟩
theorem SP.unhand(ok:X.Ok)(h:SP (X.hand e) pins D f s'):SP X pins D f s':=by
 cases f with
 | next=>obtain⟨a,b,c,d⟩:=h;exact⟨a,b,c.unhand ok,d⟩
 | brk=>obtain⟨a,b,c,d⟩:=h;exact⟨a,b,c.unhand ok,d⟩
 | cont=>obtain⟨a,b,c,d⟩:=h;exact⟨a,b,c.unhand ok,d⟩
 | ret u=>obtain⟨v,a,b,c,r,d⟩:=h;exact⟨v,a,b,c.unhand ok,r,d⟩
theorem SP.untried(hX:X.lk=[])(h:SP (X.tried E lk (X.pn++pins)) [] D f s'):SP X pins D f s':=by
 cases f with
 | next=>obtain⟨a,b,c,d⟩:=h;exact⟨a,b,c.untriedN hX,d⟩
 | brk=>obtain⟨a,b,c,d⟩:=h;exact⟨a,b,c.untriedN hX,d⟩
 | cont=>obtain⟨a,b,c,d⟩:=h;exact⟨a,b,c.untriedN hX,d⟩
 | ret u=>obtain⟨v,a,b,c,r,d⟩:=h;exact⟨v,a,b,c.untriedN hX,r,d⟩
end
structure zjj(X:Cx):Prop where
 ex:X.ex=[]
 lk:X.lk=[]
 st:X.stack=X.env :: X.outer
 fr:X.env.frame=some X.env.locals
theorem Em{CX:CXT}{P:Program}{w:World}{K:Frag}{mg:Str->Option Value}{base:Heap}{N:List Str}{qual:Str}{scope:Scope}{f:Addr}{cd:Value}{A:Around}{outer:List Env}{s0:Shared}{H0:Hp}{E:XK} :
  zjj (cxOf CX P w K mg base N qual scope f cd A outer s0 H0 E):=⟨rfl,rfl,rfl,rfl⟩
section
variable{X:Cx}{pins:#[h]}{σ:St}{H:Hp}{s:Shared}{E:Value->Shared->Prop}
theorem zlt(B:zjj X)(hlk:lk.length=X.N.length)
  (I:Inv (X.tried E' lk (X.pn++pins)) pins' σ' H1 s1) (h:CX1 X.prog X.w X.stack H1 s1 EX ev s2)
  (k:∀ a T cls H2 s3,ev=.ref a->EX cls none H2->Inv X pins lk H2 s3->Fly s1.heap H2 s3.heap a T cls->((a∈X.ex\/X.s₀.heap.get? a=none)/\a≠X.env.locals/\(∀ x c,X.env.cells.lookup x=some c->c≠a)/\∀ p∈X.pn++pins,p.1≠a) ->
   ((T∈X.ex\/X.s₀.heap.get? T=none)/\T≠X.env.locals/\(∀ x c,X.env.cells.lookup x=some c->c≠T)/\∀ p∈X.pn++pins,p.1≠T) ->
   wpAny (model X.prog X.w) X.A (handleBy (.ref a) X.env hs) Q E s3) :
  wpAny (model X.prog X.w) X.A (noteFrame ev X.env) (fun _ s₂=>wpAny (model X.prog X.w) X.A (setFlight ev none) (fun _ s₃=>wpAny (model X.prog X.w) X.A (handleBy ev X.env hs) Q E s₃) E s₂) E s2:=by
 obtain⟨a,T,cls,H2,q0,ho,hg,u,hok,F,hE⟩:=h;subst q0;have J:=I.raised ho hg u hok;obtain⟨a0,hfl⟩:=F.flying J J.stack fun _ z=>z;have hfl':Heap.FlyingW (PySem.W.hideAll s2.heap ([a,T]++frs X.stack)) (X.env :: X.outer) a cls a0 s2.heap:=by rw[<- B.st];exact hfl
 refine wpAny_looks_onW (base:=PySem.W.hideAll s2.heap ([a,T]++frs X.stack)) (by rw[J.ok.frames];exact congrArg some B.st) B.fr hfl' fun h3 held up1=>?_;refine wpAny_landsW held fun h4 hfl4 up2=>?_;have up:s2.heap.UpToSlots h4:=up1.trans up2;have t:=Te.of (as:=[a,T]) J hfl4.1 up;have frE:∀ b∈[a,T],H2 b=none:=by
  intro b hb;rcases zu7.mp hb with rfl|hb
  ·exact F.freeE
  ·rcases zu7.mp hb with rfl|hb
   ·exact F.freeT
   ·cases hb
 have rcs:∀ b∈[a,T],(b∈X.ex\/X.s₀.heap.get? b=none)/\b≠X.env.locals/\(∀ x c,X.env.cells.lookup x=some c->c≠b)/\∀ p∈(X.pn++pins)++pins',p.1≠b:=by
  intro b hb;rcases zu7.mp hb with rfl|hb
  ·exact I.newRec B.ex F.newE
  ·rcases zu7.mp hb with rfl|hb
   ·exact I.newRec B.ex F.newT
   ·cases hb
 have J4:Inv (X.tried E' lk (X.pn++pins)) pins' σ' H2 { s2 with heap:=h4 }:=J.callN' (s':={ s2 with heap:=h4 }) (ch:=[a,T]) rfl (t.un J frE) (t.hok J frE) J.bare rcs;have old:∀ b,s2.heap.get? b=none->s1.heap.get? b=none:=fun b n=>by
  cases q:s1.heap.get? b with
  | none=>rfl
  | some o =>
    obtain⟨_,z⟩:=u.there b o q (by simp);rw[n] at z;cases z
 obtain⟨T',F'⟩:=F.again J old up hfl4.1 hfl4.2.2.2;have sub:∀ {b:Addr},((b∈X.ex\/X.s₀.heap.get? b=none)/\b≠X.env.locals/\(∀ x c,X.env.cells.lookup x=some c->c≠b)/\∀ p∈(X.pn++pins)++pins',p.1≠b) ->
   (b∈X.ex\/X.s₀.heap.get? b=none)/\b≠X.env.locals/\(∀ x c,X.env.cells.lookup x=some c->c≠b)/\∀ p∈X.pn++pins,p.1≠b:=fun z=>⟨z.1,z.2.1,z.2.2.1,fun p hp=>z.2.2.2 p (zvq _ hp)⟩
 exact k a T' cls H2 _ rfl hE (J4.untried B.lk hlk) F' (sub (rcs a (by simp))) (sub (I.newRec B.ex F'.newT))
theorem zfj(I:#[d])(F:Fly g H s.heap a T cls)(hg:∀ b,s.heap.get? b=none->g.get? b=none)
  (ha:(a∈X.ex\/X.s₀.heap.get? a=none)/\a≠X.env.locals/\(∀ x c,X.env.cells.lookup x=some c->c≠a)/\∀ p∈X.pn++pins,p.1≠a)
  (hT:(T∈X.ex\/X.s₀.heap.get? T=none)/\T≠X.env.locals/\(∀ x c,X.env.cells.lookup x=some c->c≠T)/\∀ p∈X.pn++pins,p.1≠T)
  (k:∀ s',Inv X pins σ H s'->(∃ T',Fly g H s'.heap a T' cls)->Q () s'):wpAny (model X.prog X.w) A (setFlight (.ref a) none) Q E s:=by
 obtain⟨a0,hfl⟩:=F.flying I I.stack fun _ z=>z;refine lands_againW hfl fun h4 hfl4 up=>?_;have t:=Te.of (as:=[a,T]) I hfl4.1 up;have frE:∀ b∈[a,T],H b=none:=by
  intro b hb;rcases zu7.mp hb with rfl|hb
  ·exact F.freeE
  ·rcases zu7.mp hb with rfl|hb
   ·exact F.freeT
   ·cases hb
 have J4:Inv X pins σ H { s with heap:=h4 }:=I.callN' (s':={ s with heap:=h4 }) (ch:=[a,T]) rfl (t.un I frE) (t.hok I frE) I.bare fun b hb=>by
  rcases zu7.mp hb with rfl|hb
  ·exact ha
  ·rcases zu7.mp hb with rfl|hb
   ·exact hT
   ·cases hb
 exact k _ J4 (F.again I hg up hfl4.1 hfl4.2.2.2)
end
def xCl(K:Frag)(as:List Nat)(CB:Addr)(th:TS)(D:P5)(σ:St):XK:=fun cls _ H'=>∃ C,cls=.ref C/\PySem.W.mroIn K C (.ref CB)=some true/\th D (fgt as σ) H'
def zlu(K:Frag)(as:List Nat)(CB:Addr)(tb:XK->TS)(th:TS):TS:=fun D σ H=>tb (xCl K as CB th D σ) D σ H
section
variable{X:Cx}{as:List Nat}{i:Nat}{CB:Addr}{tb:XK->TS}{th:TS}{body suite:List Stmt}{b₀:Stmt}{n cx:Str}{p hpos pos:Pos}
theorem zfk(B:zjj X)(c:zb3 X.K CB)(hg:Gl X cx)(hm:X.mg cx=#[a,.ref,CB])
  (hb:∀ (E':Value->Shared->Prop) (lk:St) (pn:List (Addr×Obj)) (EX:XK),(∀ j∈as,∀ v,lk[j]?≠some (some v))->PassesOwn (model X.prog X.w) X.A X.env E'->W2 (CX1 X.prog X.w) (X.tried E' lk pn) EX->PSs (X.tried E' lk pn) body (tb EX))
  (hh:∀ a,PSs (X.hand a) (b₀ :: suite) th) (hd:(cx == ("__debug__":Str))=false:=by decide) :
  PS X (.Try body [.ExceptHandler (some (.Name cx p)) none (b₀ :: suite) hpos] [] [] pos) (zlu X.K as CB tb th):=by
 intro pins s σ H D I h;refine wpAny_Try_except ?_;have lkl:(fgt as σ).length=X.N.length:=by rw[J9];exact I.len
 have I':=I.tried (lk:=fgt as σ) (fun ev s₁=>wpAny (model X.prog X.w) X.A (noteFrame ev X.env) (fun _ s₂=>wpAny (model X.prog X.w) X.A (setFlight ev none)
  (fun _ s₃=>wpAny (model X.prog X.w) X.A (handleBy ev X.env [.ExceptHandler (some (.Name cx p)) none (b₀ :: suite) hpos]) (SP X pins D) X.xe s₃) X.xe s₂) X.xe s₁) fun i v z=>(Du as z).1
 refine wpAny_mono (hb _ _ _ (xCl X.K as CB th D σ) (fun j hj v z=>(Du as z).2 hj) PassesOwn.looking (fun pins' σ' H1 s1 ev s2 J hcx=>?_) [] s σ H D I' h) (fun f s1 h1=>?_) fun _ _ z=>z
 ·refine zlt B lkl J hcx fun a T cls H2 s3 _ hE J3 F ha hT=>?_;obtain⟨C,rfl,hmro,hth⟩:=hE;obtain⟨oe,vs,oT,ts,e1,e2,e3,_⟩:=F.ex;refine wpAny_handleBy_cons (codeAny_handlers_test (Pn (X:=X.hand a) (J3.hand a) hg hm (Bi J3.kIn c e1 e2 hmro ?_) hd)) (by intro q;cases q);refine codeAny_handlers_suite ?_;have F0:Fly (Att.noObjs s3.heap) H2 s3.heap a T (.ref C):=⟨F.ex,Att.noObjs_get _ _,Att.noObjs_get _ _,F.freeE,F.freeT⟩;refine zfj J3 F0 (fun b _=>Att.noObjs_get _ _) ha hT fun s4 J4 _=>?_;refine wpAny_mono (hh a pins s4 _ _ _ (J4.hand a) hth) (fun f s6 h6=>?_) fun _ _ z=>z.elim;exact h6.unhand I.ok
 ·have h2:=SP.untried B.lk h1;cases f with
  | next=>exact wpAny_execs_nil h2
  | brk=>exact h2
  | cont=>exact h2
  | ret u=>exact h2
end
section
variable{P:Program}{w:World}{K:Frag}{mg:Str->Option Value}{base:Heap}
theorem Fun.okX{x qual:Str}{st:Stmt}{f:Addr}{fd:FuncData}{N ps:List Str}{k:Nat}{sp:Sp}(F:#[f,x,qual,st])(S:Zl N ps (Zj st))(len:∀ vs H Q E,sp vs H Q E->vs.length=ps.length)
  (hbody:∀ (cdv:Value) (A:Around) (outer:List Env) (s:Shared) (H:Hp) (vs:#[b]) (Q:VK) (E:XK),W6 k (A.deeper (envOfC qual (Zj st) s.heap.objs.size f cdv))->sp vs H Q E ->
   ∃ t,PSs (cxOf (CX1 P w) P w K mg base N qual (Zj st) f cdv A outer s H E) (Zv st) t/\t { nx:=fun _ H'=>Q .non H',rt:=Q } (Ke N vs) H):FnOk P w K mg base (CX1 P w) (k+1) f fd ps sp:=by
 obtain⟨oc,od,kV,doc,pm,an,cdv,ct,osl,rfl,lk,hcd⟩:=F.ex;exact zkq lk hcd S len fun A outer s H vs Q E hr hsp=>hbody cdv A outer s H vs Q E hr hsp
end
def Fb{α:Type}(p:α->Prop):List α->Prop
 | []=>True
 | a :: r=>p a/\Fb p r
theorem Fb.get:∀ {l:List α} {a:α},Fb p l->a∈l->p a
 | _ :: _,_,h,.head _=>h.1
 | _ :: _,_,h,.tail _ m=>Fb.get h.2 m
def Y0(X:Cx)(pn:#[h])(Nc:List Str)(scope:Scope)(cl:List (Str×Addr))(s₀:Shared)(H₀:Hp)(fp:List Addr)(C:Addr):Cx :=
 { X with N:=Nc,s₀:=s₀,H₀:=H₀,env:=compEnvC scope cl C X.env,outer:=X.stack,stack:=X.stack,ex:=fp,fn:=fun _=>false,pn:=pn,xe:=fun _ _=>False,lk:=[] }
def cs(js:List Nat)(σ:St)(x:V):St:=some x :: js.map fun j=>(σ[j]?).getD none
def PTs(X:Cx)(ifs:List Expr)(t:TT):Prop :=
 ∀ (pins:#[h]) (s:Shared) (σ:St) (H:Hp) (Q:Bool->Hp->Prop),#[d]->t σ H Q ->
   wpAny (model X.prog X.w) X.A (forIn ifs true fun c r=>if r=true then do let ok <- isTrue c X.env (eval c X.env);pure (ForInStep.yield ok) else pure (ForInStep.yield r)) (TP X pins σ Q) X.xe s
def tYes:TT:=fun _ H Q=>Q true H
theorem W8:PTs X [] tYes:=fun _ _ _ H _ I h=>wpAny_tests_nil ⟨H,I,h⟩
theorem Sa(h:PT X c t):PTs X [c] t:=fun pins s σ H Q I q=>wpAny_tests_one (h pins s σ H Q I q)
def Bj(J:It)(js:List Nat)(tt:TT)(te:TE)(σ:St)(H:Hp)(Q:VK):Prop:=∃ W:Nat->Nat->#[b]->Hp->Prop,(∃ m,W 0 m [] H)/\∀ i m ys H,W i m ys H ->
 (J.stop i H/\ys.length<=sizeLine/\∀ p,H p=none->Q (.ref p) (upd H p (.lst ys))) \/
 (J.go i H/\ys.length<sizeLine/\∃ N:#[b]->Hp->Prop,(∀ ys' H',N ys' H'->∃ m',m' < m/\W (i+1) m' ys' H')/\∀ x H',J.yld i H x H'->tt (cs js σ x) H' fun b H2=>if b=true then te (cs js σ x) H2 fun y H3=>N (ys++[y]) H3 else N ys H2)
def zif(wi:TI)(js:List Nat)(tt:TT)(te:TE):TE:=fun σ H Q=>wi σ H fun J H1=>Bj J js tt te σ H1 Q
section
variable{X:Cx}{elt iter:Expr}{x:Str}{px pos:Pos}{ifs:List Expr}{scope:Scope}{cl:List (Str×Addr)}{ys:List Str}{js:List Nat}
structure zb4(X:Cx)(x:Str)(scope:Scope)(cl:List (Str×Addr))(ys:List Str)(js:List Nat):Prop where
 clos:closureFor scope X.env=pure cl
 kind:scope.kind=.function
 names:∀ y∈scope.names,y.2=.local->scope.names.lookup y.1=some .local
 nocell:∀ y∈scope.names,y.2≠.cell
 own:scope.names.lookup x=some .local
 nd:(x :: ys).Nodup
 at_:js.map (X.N[·]?)=ys.map some
 free:Fb (fun y=>X.env.kindOf y=some .cell/\(relabel scope X.env).names.lookup y=some .cell/\cl.lookup y=X.env.cells.lookup y) ys
 only:Fb (fun p=>X.env.cells.lookup p.1=some p.2) cl
 vis:∀ y∈scope.names,y.2=.free->y.1∈ys
theorem Nz{env:Env}:∀ {names:List (Str×NameKind)} {y:Str},(names.map fun (n,k)=>if (k == NameKind.free&&env.scope.kind == .function&&env.kindOf n == some .cell) then (n,NameKind.cell) else (n,k)).lookup y=some .cell \/
  (names.map fun (n,k)=>if (k == NameKind.free&&env.scope.kind == .function&&env.kindOf n == some .cell) then (n,NameKind.cell) else (n,k)).lookup y=some .free->∃ k,(y,k)∈names/\(k=.cell\/k=.free)
 | [],_,h=>by rcases h with h|h<;>simp at h
 | (n,k) :: r,y,h=>by
   by_cases hx:y=n
   ·subst hx;refine⟨k,zvy,?_⟩;rw[zvg] at h;dsimp only at h;by_cases hc:(k == NameKind.free&&env.scope.kind == .function&&env.kindOf y == some .cell)=true
    ·simp only[zwm,beq_iff_eq] at hc;exact .inr hc.1.1
    ·rw[if_neg hc] at h;simp only[zv1,beq_self_eq_true] at h;rcases h with h|h
     ·exact .inl (Option.some.inj h)
     ·exact .inr (Option.some.inj h)
   ·have hb:(y == n)=false:=zvs.mpr hx;have ih:=@Nz env r y;rw[zvg] at h;have key:∀ z:Str×NameKind,z.1=n->List.lookup y (z :: (r.map fun (n,k)=>if (k == NameKind.free&&env.scope.kind == .function&&env.kindOf n == some .cell) then (n,NameKind.cell) else (n,k))) =
      List.lookup y (r.map fun (n,k)=>if (k == NameKind.free&&env.scope.kind == .function&&env.kindOf n == some .cell) then (n,NameKind.cell) else (n,k)):=fun z hz=>by
     obtain⟨z1,z2⟩:=z;cases hz;simp only[zv1,hb]
    rw[key _ (by dsimp only;split<;>rfl)] at h;obtain⟨k',m,q⟩:=ih h;exact⟨k',zvm _ m,q⟩
variable{wi:TI}{tt:TT}{te:TE}
end
theorem Wn{K:Frag}{js:List Nat}{tt:TT}{te:TE}{a:Addr}{xs:#[b]}{σ:St}{H:Hp}{Q:VK}(Pv:Nat->#[b]->Hp->Prop)(h0:Pv 0 [] H)(hl:∀ i ys H,i<=xs.length->Pv i ys H->SqL K H a xs)(hz:xs.length<=sizeLine)
  (hy:∀ i ys H,Pv i ys H->ys.length<=i)
  (hs:∀ i x ys H,xs[i]?=some x->Pv i ys H->tt (cs js σ x) H fun b H2=>if b=true then te (cs js σ x) H2 fun y H3=>Pv (i+1) (ys++[y]) H3 else Pv (i+1) ys H2)
  (hd:∀ ys H,Pv xs.length ys H->∀ p,H p=none->Q (.ref p) (upd H p (.lst ys))):Bj (Itl K a) js tt te σ H Q:=by
 refine⟨fun i m ys H=>m=xs.length-i/\i<=xs.length/\Pv i ys H,⟨xs.length,by simp,zvw _,h0⟩,?_⟩;rintro i m ys H ⟨rfl,hi,p⟩;have q:=hl i ys H hi p;have ly:=hy i ys H p;by_cases hlt:i<xs.length
 ·refine .inr ⟨⟨xs,xs[i],q,by simp[hlt]⟩,by omega,Pv (i+1),fun ys' H' p'=>⟨xs.length-(i+1),by omega,rfl,hlt,p'⟩,fun x H' y=>?_⟩;obtain⟨e,y⟩:=y;subst e;exact hs i x ys _ (y xs q) p
 ·have e:i=xs.length:=by omega
  subst e;exact .inl ⟨⟨xs,q,zvd _⟩,by omega,hd ys H p⟩
theorem Ru{js:List Nat}{tt:TT}{te:TE}{lo:Int}{n:Nat}{σ:St}{H:Hp}{Q:VK}(Pv:Nat->#[b]->Hp->Prop)(h0:Pv 0 [] H)(hz:n<=sizeLine)(hy:∀ i ys H,Pv i ys H->ys.length<=i)
  (hs:∀ i ys H,i<n->Pv i ys H->tt (cs js σ (.int (lo+i))) H fun b H2=>if b=true then te (cs js σ (.int (lo+i))) H2 fun y H3=>Pv (i+1) (ys++[y]) H3 else Pv (i+1) ys H2)
  (hd:∀ ys H,Pv n ys H->∀ p,H p=none->Q (.ref p) (upd H p (.lst ys))):Bj (Itr lo n) js tt te σ H Q:=by
 refine⟨fun i m ys H=>m=n-i/\i<=n/\Pv i ys H,⟨n,by simp,zvw _,h0⟩,?_⟩;rintro i m ys H ⟨rfl,hi,p⟩;have ly:=hy i ys H p;by_cases hlt:i<n
 ·refine .inr ⟨hlt,by omega,Pv (i+1),fun ys' H' p'=>⟨n-(i+1),by omega,rfl,hlt,p'⟩,fun x H' y=>?_⟩;obtain⟨e,y⟩:=y;subst e y;exact hs i ys _ hlt p
 ·have e:i=n:=by omega
  subst e;exact .inl ⟨zvd _,by omega,hd ys H p⟩
theorem En{js:List Nat}{te:TE}{lo:Int}{n:Nat}{σ:St}{H:Hp}{Q:VK}(f:Nat->V)(hz:n<=sizeLine)
  (hs:∀ i (R:VK),i<n->R (f i) H->te (cs js σ (.int (lo+i))) H R) (hd:∀ p,H p=none->Q (.ref p) (upd H p (.lst ((List.range n).map f)))):Bj (Itr lo n) js tYes te σ H Q:=by
 refine Ru (fun i ys H'=>H'=H/\ys=(List.range i).map f) ⟨rfl,rfl⟩ hz (fun i ys H' ⟨_,e⟩=>by rw[e,zu2,zv4];exact zvd _) (fun i ys H' hi ⟨e1,e2⟩=>?_) fun ys H' ⟨e1,e2⟩ p hp=>?_
 ·subst e1;unfold tYes;dsimp only;rw[if_pos rfl];refine hs i _ hi ⟨rfl,?_⟩;rw[e2,List.range_succ,zu9];rfl
 ·subst e1;rw[e2];exact hd p hp
theorem Kg:∀ {xs:List V} {us:List Value},xs.length=us.length->(∀ (j:Nat) x u,xs[j]?=some x->us[j]?=some u->RelV x u)->Vals xs us
 | [],[],_,_=>.nil
 | x :: xs,u :: us,hl,h=>.cons (h 0 x u rfl rfl) (Kg (by simpa using hl) fun j x' u' h1 h2=>h (j+1) x' u' (by simpa using h1) (by simpa using h2))
abbrev TF:=St->Hp->(Hp->Prop)->Prop
def PF(X:Cx)(e:Expr)(t:TF):Prop :=
 ∀ (pins:#[h]) (s:Shared) (σ:St) (H:Hp) (k:Hp->Prop),#[d]->t σ H k ->
   wpAny (model X.prog X.w) X.A (eval e X.env) (fun u s'=>∃ y tk H',u=.str y tk/\y.length<=10000/\Inv X pins σ H' s'/\k H') X.xe s
def PFs(X:Cx)(es:List Expr)(t:TF):Prop :=
 ∀ (pins:#[h]) (s:Shared) (σ:St) (H:Hp) (k:Hp->Prop) (acc:Str),#[d]->acc.length+10000*es.length<=sizeLine->t σ H k ->
   Joins (model X.prog X.w) X.A X.xe (evalEach es X.env) acc (fun out s'=>out.length<=sizeLine/\∃ H',Inv X pins σ H' s'/\k H') s
def zk3:TF:=fun _ H k=>k H
def zk4(t u:TF):TF:=fun σ H k=>t σ H fun H1=>u σ H1 k
def okF(v:V):Prop:=(∃ i,v=.int i/\i.natAbs.log2<1920)\/∃ y,v=.str y/\y.length<=10000
def zlv(te:TE):TF:=fun σ H k=>te σ H fun v H1=>okF v/\k H1
def zk5(t:TF):TE:=fun σ H Q=>t σ H fun H1=>∀ z,Q (.str z) H1
section
variable{X:Cx}{e:Expr}{es:List Expr}{te:TE}{t u:TF}{pos:Pos}
theorem Xt{j}(h:x.length<=10000):PF X (.Constant (.str x) j pos) zk3:=fun _ _ _ H _ I hk=>Calls.Constant_str ⟨x,_,H,rfl,h,I.tok _,hk⟩
theorem W3(he:PE X e te):PF X (.FormattedValue e (-1) none pos) (zlv te):=by
 intro pins s σ H k I h;refine FormattedValue_plain (thn (he pins s σ H _ I h) fun v s1 ⟨x,H1,I1,r1,ok,hk⟩=>?_);rcases ok with ⟨i,rfl,hi⟩|⟨y,rfl,hy⟩
 ·obtain⟨t,rfl⟩:=r1;refine formatField_int_small hi ⟨_,_,H1,rfl,?_,I1.tok _,hk⟩;have:=int_text_length_le (k:=1920) ⋯ hi;show (Str.ofString (toString i)).length<=10000;rw[PySem.ofString_length];omega
 ·obtain⟨t,rfl⟩:=r1;exact formatField_str (fun t' tk=>⟨y,t',H1,rfl,hy,I1.tok tk,hk⟩) (by rw[sizeLine_eq];omega)
theorem W9:PFs X [] zk3:=fun _ _ _ H _ _ I hz hk=>⟨by simpa using hz,H,I,hk⟩
theorem Z2(h1:PF X e t)(h2:PFs X es u)(hs:evalEach (e :: es) X.env=eval e X.env :: evalEach es X.env:=by rfl):PFs X (e :: es) (zk4 t u):=by
 intro pins s σ H k acc I hz h;rw[hs];refine thn (h1 pins s σ H _ I h) fun v s1 ⟨y,tk,H1,e1,hy,I1,hk⟩=>⟨y,tk,e1,?_,?_⟩
 ·rw[strLen_append];rw[zvp] at hz;omega
 ·exact h2 pins s1 σ H1 k _ I1 (by rw[strLen_append];rw[zvp] at hz;omega) hk
theorem Va(h:PFs X (e :: e' :: es) t)(hl:es.length<=100):PE X (.JoinedStr (e :: e' :: es) pos) (zk5 t):=by
 intro pins s σ H Q I h';refine wpAny_JoinedStr ?_;have q:=h pins s σ H _ Str.empty I (by rw[sizeLine_eq];simp only[zvp];have:Str.empty.length=0:=rfl;omega) h';have mono:∀ (ps:List (Sem Value)) (acc:Str) (Q1 Q2:Str->Shared->Prop) (s:Shared),(∀ o s,Q1 o s->Q2 o s)->Joins (model X.prog X.w) X.A X.xe ps acc Q1 s->Joins (model X.prog X.w) X.A X.xe ps acc Q2 s:=by
  intro ps
  induction ps with
  | nil=>intro acc Q1 Q2 s m z;exact m _ _ z
  | cons p r ih=>intro acc Q1 Q2 s m z;exact thn z fun v s1 ⟨y,tk,e1,hz,z1⟩=>⟨y,tk,e1,hz,ih _ _ _ _ m z1⟩
 refine mono _ _ _ _ _ (fun out s1 ⟨hz,H1,I1,hk⟩=>⟨hz,.str out,H1,I1.tok _,⟨_,rfl⟩,hk out⟩) q
end
section
variable{X:Cx}
theorem zav(hc:X.calm=true):Vs X (.type "list") (fun xs H Q=>∃ a kvs,xs=[.ref a]/\Rd H a (.dK kvs)/\∀ l,H l=none->Q (.ref l) (upd H l (.lst (kvs.map fun kv=>kV kv.1)))):=by
 intro pins s σ H xs us Q I r h;obtain⟨a,kvs,rfl,ha,q⟩:=h;obtain⟨u,rfl,ru⟩:=Qi r;cases (show u=Value.ref a from ru);obtain⟨hz,lo,vs,kv,o,es,ep,e1,e2⟩:=Qj I.hok ha;have hl:kvs.length=vs.length:=KV.length kv;refine PySem.W.kdl_call (PySem.W.kdl_dict (knd:=Yj X.prog X.w) (kvs:=vs) (ep:=ep) lo) (I.ok.hd hc) ⟨o,es,e1,e2⟩ (by rw[<- hl];exact hz) fun h' tk acc c hk hS hacc=>?_;have hf:H s.heap.objs.size=none:=I.hok.fresh (zvd _);refine⟨.ref s.heap.objs.size,upd H s.heap.objs.size (.lst (kvs.map fun kv=>kV kv.1)),I.laid (t':=tk) hk (zvd _) ?_,rfl,q _ hf⟩;obtain⟨accl⟩:=acc;refine⟨by rw[zu2];exact hz,accl,c,?_,hS⟩;have hlen:accl.length=vs.length:=by have:=hacc.1;simpa using this
 refine Kg (by rw[zu2,hl,hlen]) fun j x u hx hu=>?_;obtain⟨k,y,hk1,hk2⟩:=hacc.2 j u (by simpa using hu);have ek:=congrArg (·[j]?) (KV.keys kv);simp only[zu8,hk1,zv6] at ek;rw[zu8] at hx;cases hkv:kvs[j]? with
 | none=>rw[hkv] at hx;cases hx
 | some p =>
   rw[hkv] at hx ek;have e1:kV p.1=x:=Option.some.inj hx;have e2:p.1=k:=Option.some.inj ek;rw[<- e1,e2];rcases Yq hk2 with ⟨i,t,rfl,rfl⟩|⟨z,t,rfl,rfl⟩
   ·exact⟨t,rfl⟩
   ·exact⟨t,rfl⟩
end
inductive Dt where
 | non|bl (b:Bool)|int (i:Int)|str (x:Str)|lst (xs:List Dt)|tup (xs:List Dt)
mutual
inductive Is(K:Frag)(H:Hp):V->Dt->Prop where
 | non:Is K H .non .non
 | bl (b:Bool):Is K H (.bl b) (.bl b)
 | int (i:Int):Is K H (.int i) (.int i)
 | str (x:Str):Is K H (.str x) (.str x)
 | lst {a:Addr} {xs:#[b]} {ds:List Dt} (h:SqL K H a xs) (hs:Wc K H xs ds):Is K H (.ref a) (.lst ds)
 | tup {a:Addr} {xs:#[b]} {ds:List Dt} (h:SqT K H a xs) (hs:Wc K H xs ds):Is K H (.ref a) (.tup ds)
inductive Wc(K:Frag)(H:Hp):#[b]->List Dt->Prop where
 | nil:Wc K H [] []
 | cons {x:V} {xs:#[b]} {d:Dt} {ds:List Dt} (h:Is K H x d) (t:Wc K H xs ds):Wc K H (x :: xs) (d :: ds)
end
mutual
def eqD:Dt->Dt->Bool
 | .non,.non=>true
 | .bl a,.bl b=>a == b
 | .bl a,.int b=>(if a then 1 else 0) == b
 | .int a,.bl b=>a == (if b then 1 else 0)
 | .int a,.int b=>a == b
 | .str a,.str b=>a == b
 | .lst xs,.lst ys=>P6 xs ys
 | .tup xs,.tup ys=>P6 xs ys
 | _,_=>false
def P6:List Dt->List Dt->Bool
 | [],[]=>true
 | x :: xs,y :: ys=>eqD x y&&P6 xs ys
 | _,_=>false
end
mutual
theorem zfl:∀ d:Dt,eqD d d=true
 | .non=>by simp[eqD]
 | .bl _=>by simp[eqD]
 | .int _=>by simp[eqD]
 | .str _=>by simp[eqD]
 | .lst xs=>by rw[eqD];exact Mz xs
 | .tup xs=>by rw[eqD];exact Mz xs
theorem Mz:∀ ds:List Dt,P6 ds ds=true
 | []=>by simp[P6]
 | d :: ds=>by rw[P6,zfl d,Mz ds];rfl
end
mutual
def zlw:Dt->Nat
 | .lst xs=>zfm xs+1
 | .tup xs=>zfm xs+1
 | _=>0
def zfm:List Dt->Nat
 | []=>0
 | d :: ds=>max (zlw d) (zfm ds)
end
section
variable{X:Cx}{pins:#[h]}{σ:St}{H:Hp}{s:Shared}
theorem Qy(I:#[d])(h1:SqL X.K H a xs)(h2:SqT X.K H a ys):False:=by
 obtain⟨_,_,⟨o,n,e1,e2,_⟩,_⟩:=I.list h1;obtain⟨_,_,⟨o',e1',e2',_⟩,_⟩:=I.tuple h2;rw[e1] at e1';cases e1';exact absurd (Value.type.inj (e2.symm.trans e2')) ⋯
mutual
theorem Is.inj(I:#[d]):∀ {x:V} {d d':Dt},Is X.K H x d->Is X.K H x d'->d=d'
 | _,_,_,.non,.non=>rfl
 | _,_,_,.bl _,.bl _=>rfl
 | _,_,_,.int _,.int _=>rfl
 | _,_,_,.str _,.str _=>rfl
 | _,_,_,.lst h hs,.lst h' hs'=>by
   have e:=I.list_inj h h';subst e;rw[Wc.inj I hs hs']
 | _,_,_,.tup h hs,.tup h' hs'=>by
   have e:=I.tuple_inj h h';subst e;rw[Wc.inj I hs hs']
 | _,_,_,.lst h _,.tup h' _=>(Qy I h h').elim
 | _,_,_,.tup h _,.lst h' _=>(Qy I h' h).elim
theorem Wc.inj(I:#[d]):∀ {xs:List V} {ds ds':List Dt},Wc X.K H xs ds->Wc X.K H xs ds'->ds=ds'
 | _,_,_,.nil,.nil=>rfl
 | _,_,_,.cons h t,.cons h' t'=>by rw[Is.inj I h h',Wc.inj I t t']
end
mutual
def toPy:Dt->PyData
 | .non=>.none
 | .bl b=>.bool b
 | .int i=>.int i
 | .str x=>.str x
 | .lst xs=>.list (Wd xs)
 | .tup xs=>.tuple (Wd xs)
def Wd:List Dt->List PyData
 | []=>[]
 | d :: ds=>toPy d :: Wd ds
end
mutual
theorem N1:∀ d e:Dt,PyData.eqv (toPy d) (toPy e)=eqD d e
 | .non,e=>by cases e<;>simp[toPy,eqD,PyData.eqv]
 | .bl _,e=>by cases e<;>simp[toPy,eqD,PyData.eqv]
 | .int _,e=>by cases e<;>simp[toPy,eqD,PyData.eqv]
 | .str _,e=>by cases e<;>simp[toPy,eqD,PyData.eqv]
 | .lst xs,.lst ys=>by rw[toPy,toPy,PyData.eqv,eqD];exact M0 xs ys
 | .tup xs,.tup ys=>by rw[toPy,toPy,PyData.eqv,eqD];exact M0 xs ys
 | .lst _,.non=>by simp[toPy,eqD,PyData.eqv]
 | .lst _,.bl _=>by simp[toPy,eqD,PyData.eqv]
 | .lst _,.int _=>by simp[toPy,eqD,PyData.eqv]
 | .lst _,.str _=>by simp[toPy,eqD,PyData.eqv]
 | .lst _,.tup _=>by simp[toPy,eqD,PyData.eqv]
 | .tup _,.non=>by simp[toPy,eqD,PyData.eqv]
 | .tup _,.bl _=>by simp[toPy,eqD,PyData.eqv]
 | .tup _,.int _=>by simp[toPy,eqD,PyData.eqv]
 | .tup _,.str _=>by simp[toPy,eqD,PyData.eqv]
 | .tup _,.lst _=>by simp[toPy,eqD,PyData.eqv]
theorem M0:∀ ds es:List Dt,PyData.eqvAll (Wd ds) (Wd es)=P6 ds es
 | [],[]=>by simp[Wd,P6,PyData.eqvAll]
 | [],_ :: _=>by simp[Wd,P6,PyData.eqvAll]
 | _ :: _,[]=>by simp[Wd,P6,PyData.eqvAll]
 | d :: ds,e :: es=>by rw[Wd,Wd,PyData.eqvAll,P6,N1 d e,M0 ds es]
end
mutual
theorem Is.reads(I:#[d]):∀ {d:Dt} {x:V} {u:Value},Is X.K H x d->RelV x u->∃ as,Reads s.heap u (toPy d) as
 | _,_,_,.non,r=>by cases r;exact⟨_,.none⟩
 | _,_,_,.bl b,r=>by cases r;exact⟨_,.bool b⟩
 | _,_,_,.int i,r=>by obtain⟨t,rfl⟩:=r;exact⟨_,.int i t⟩
 | _,_,_,.str i,r=>by obtain⟨t,rfl⟩:=r;exact⟨_,.str i t⟩
 | _,_,_,.lst h hs,r=>by
   cases r;obtain⟨its,r1,⟨o,n',e1,e2,e3,e4⟩,_⟩:=I.list h;obtain⟨as,q⟩:=Wc.reads I hs r1;rw[toPy];exact⟨_,.list e1 e2 e4 (by simpa using q)⟩
 | _,_,_,.tup h hs,r=>by
   cases r;obtain⟨its,r1,⟨o,e1,e2,n',e4⟩,_⟩:=I.tuple h;obtain⟨as,q⟩:=Wc.reads I hs r1;rw[toPy];exact⟨_,.tuple e1 e2 e4 (by simpa using q)⟩
theorem Wc.reads(I:#[d]):∀ {ds:List Dt} {xs:List V} {us:List Value},Wc X.K H xs ds->Vals xs us->∃ as,ReadsAll s.heap us (Wd ds) as
 | _,_,_,.nil,r=>by cases r;exact⟨_,.nil⟩
 | _,_,_,.cons h t,r=>by
   cases r with
   | cons r1 r2 =>
     obtain⟨as,q1⟩:=Is.reads I h r1;obtain⟨bs,q2⟩:=Wc.reads I t r2;exact⟨_,.cons q1 q2⟩
end
def shD(d:Dt):Prop:=SeqAt.shaped (toPy d)=true
inductive zfn(K:Frag)(neg:Bool)(x:V)(y:V)(H:Hp)(Q:VK):Prop where
 | mk(d)(e)(_:Is K H x d)(_:Is K H y e)(_:shD d)(_:shD e)(_:Q (.bl (if neg then !eqD d e else eqD d e)) H)
theorem zjk(hu:X.A.units+64<cLine):OpR X (compareOp .Eq) (zfn X.K false):=by
 intro pins s σ H x y v u Q I rx ry h;obtain⟨d,e,h1,h2,s1,s2,q⟩:=h;obtain⟨as,r1⟩:=h1.reads I rx;obtain⟨bs,r2⟩:=h2.reads I ry;exact eq_dataH r1 r2 s1 s2 hu (by rw[N1];exact⟨.bl _,H,I,rfl,q⟩)
theorem zjl(hu:X.A.units+64<cLine):OpR X (compareOp .NotEq) (zfn X.K true):=by
 intro pins s σ H x y v u Q I rx ry h;obtain⟨d,e,h1,h2,s1,s2,q⟩:=h;obtain⟨as,r1⟩:=h1.reads I rx;obtain⟨bs,r2⟩:=h2.reads I ry;exact ne_dataH r1 r2 s1 s2 hu (by rw[N1];exact⟨.bl _,H,I,rfl,q⟩)
end
mutual
theorem Is.same{K:Frag}{H H':Hp}(e:Same H H'):∀ {d:Dt} {x:V},Is K H x d->Is K H' x d
 | _,_,.non=>.non
 | _,_,.bl b=>.bl b
 | _,_,.int i=>.int i
 | _,_,.str i=>.str i
 | _,_,.lst h hs=>.lst (e.seq h) (Wc.same e hs)
 | _,_,.tup h hs=>.tup (by
   rcases h with (h|⟨o,h⟩)|h
   ·exact .inl (.inl (e _ _ h))
   ·exact .inl (.inr ⟨o,e _ _ h⟩)
   ·exact .inr h) (Wc.same e hs)
theorem Wc.same{K:Frag}{H H':Hp}(e:Same H H'):∀ {ds:List Dt} {xs:List V},Wc K H xs ds->Wc K H' xs ds
 | _,_,.nil=>.nil
 | _,_,.cons h t=>.cons (Is.same e h) (Wc.same e t)
end
section
variable{P:Program}{w:World}{K:Frag}{mg:Str->Option Value}{base:Heap}{x m:Str}{k j:Nat}{ps:List Str}{sp:Sp}{C:Addr}
def Z4(P:Program)(w:World)(K:Frag)(mg:Str->Option Value)(base:Heap)(x:Str)(k:Nat)(ps:List Str)(sp:Sp):Prop :=
 ∃ (f:Addr) (fd:FuncData),FnOk P w K mg base (CX1 P w) k f fd ps sp/\mg x=#[c,f]/\PySem.W.keepIn K (.ref f)=true/\S8 K fd ps []
def Zs(P:Program)(w:World)(K:Frag)(mg:Str->Option Value)(base:Heap)(C:Addr)(m:Str)(k:Nat)(ps:List Str)(sp:Sp):Prop :=
 ∃ (f:Addr) (fd:FuncData),FnOk P w K mg base (CX1 P w) k f fd ps sp/\ze1 K C m f/\S8 K fd ps []
def Sn(P:Program)(w:World)(K:Frag)(mg:Str->Option Value)(base:Heap)(x:Str)(C:Addr)(k:Nat)(ps:List Str)(sp:Sp):Prop :=
 ∃ (f:Addr) (fd:FuncData),FnOk P w K mg base (CX1 P w) k f fd ps sp/\Mk K C f/\mg x=#[c,C]/\S8 K fd ps []
theorem Bl:W2 (CX1 P w) X E0:=fun _ _ _ _ _ _ _ h=>by obtain⟨_,_,_,_,_,_,_,_,_,_,z⟩:=h;exact z.elim
structure zl3(K:Frag)(mg:Str->Option Value)(x:Str)(st:Stmt)(f:Addr)(fd:FuncData):Prop where
 fn:#[f,x,x,st]
 nm:mg x=#[a,.ref,f]
end
section
variable{X:Cx}{k:Nat}{C:Addr}{ps:List Str}{sp:Sp}{E:XK}{x m:Str}{p pos apos:Pos}{e o:Expr}{es:List Expr}{ta:TE}{t:TA}
theorem zb5(D:Z4 X.prog X.w X.K X.mg X.base x k ps sp)(hr:W6 k X.A)(hx:W2 (CX1 X.prog X.w) X E)(hg:Gl X x)(ha:PA X (e :: es) t)(hdb:(x == ("__debug__":Str))=false:=by decide)
  (he:starEach (e :: es) X.env=(false,eval e X.env) :: starEach es X.env:=by rfl) (hpl:(backTo pos (starEach es X.env)).any (·.1)=false:=by rfl):PE X (.Call (.Name x p) (e :: es) [] pos) (ze2 sp [] E t):=by
 obtain⟨f,fd,F,hm,kp,b⟩:=D;exact zg5 F hr hg hm kp b .nil hx ha hdb he hpl
theorem Yo(he:PE X o ta)(c:Cls X.K C)(M:Zs X.prog X.w X.K X.mg X.base C m k ps sp)(hr:W6 k X.A)(hx:W2 (CX1 X.prog X.w) X E)(ha:PA X (e :: es) t)
  (hst:starEach (e :: es) X.env=(false,eval e X.env) :: starEach es X.env:=by rfl) (hpl:(backTo pos (starEach es X.env)).any (·.1)=false:=by rfl)
  (ht:eval (.Call (.Attribute o m apos) (e :: es) [] pos) X.env=(do
   let ov <- eval o X.env
   standAt apos.atName
   let (f,first) <- holding [ov] (getMethod ov m pl)
   callWith pos f first (backTo pos (starEach (e :: es) X.env)) (backToKw pos (keywordEach [] X.env))):=by rfl):PE X (.Call (.Attribute o m apos) (e :: es) [] pos) (C5 C m sp [] E ta t):=by
 obtain⟨f,fd,F,hm,b⟩:=M;exact zg6 he c hm F hr b .nil hx ha hst hpl ht
theorem Yh(he:PE X o ta)(c:Cls X.K C)(M:Zs X.prog X.w X.K X.mg X.base C m k ps sp)(hr:W6 k X.A)(hx:W2 (CX1 X.prog X.w) X E)
  (ht:eval (.Call (.Attribute o m apos) [] [] pos) X.env=(do
   let ov <- eval o X.env
   standAt apos.atName
   let (f,first) <- holding [ov] (getMethod ov m pl)
   callWith pos f first (backTo pos (starEach [] X.env)) (backToKw pos (keywordEach [] X.env))):=by rfl):PE X (.Call (.Attribute o m apos) [] [] pos) (C5 C m sp [] E ta G4):=by
 obtain⟨f,fd,F,hm,b⟩:=M;exact ze3 he c hm F hr b .nil hx ht
theorem Dv(M:Sn X.prog X.w X.K X.mg X.base x C k ps sp)(hr:W6 (k+1) X.A)(hx:W2 (CX1 X.prog X.w) X E)(hg:Gl X x)(ha:PA X (e :: es) t)(hdb:(x == ("__debug__":Str))=false:=by decide)
  (he:starEach (e :: es) X.env=(false,eval e X.env) :: starEach es X.env:=by rfl) (hpl:(backTo pos (starEach es X.env)).any (·.1)=false:=by rfl):PE X (.Call (.Name x p) (e :: es) [] pos) (zbv C sp [] E t):=by
 obtain⟨f,fd,F,mk,hm,b⟩:=M;exact zg7 mk F hr hg hm b .nil hx ha hdb he hpl
theorem zb6(M:Sn X.prog X.w X.K X.mg X.base x C k ps sp)(hr:W6 (k+1) X.A)(hx:W2 (CX1 X.prog X.w) X E)(hg:Gl X x)(hdb:(x == ("__debug__":Str))=false:=by decide):PE X (.Call (.Name x p) [] [] pos) (zbv C sp [] E G4):=by
 obtain⟨f,fd,F,mk,hm,b⟩:=M;exact ze4 mk F hr hg hm b .nil hx hdb
theorem Wr(hg:Gl X x)(hm:∃ t,X.mg x=some (.int i t))(hd:(x == ("__debug__":Str))=false:=by decide):PE X (.Name x pos) (tC (.int i)):=by
 obtain⟨t,hm⟩:=hm;exact zgz hg hm ⟨t,rfl⟩ hd
end
inductive zk6(te:TE)(D:P5)(σ:L2.St)(x:V)(H1:Hp):Prop where
 | mk(l)(xs)(_:x=.ref l)(_:H1 l=#[a,.lst,xs])(_:te σ H1 fun y H2=>∃ ys,H2 l=#[a,.lst,ys]/\ys.length<sizeLine/\D.nx σ (upd H2 l (.lst (ys++[y]))))
def zk7(to te:TE):TS:=fun D σ H=>to σ H fun x H1=>zk6 te D σ x H1
theorem Y4(ho:PE X o to)(he:PE X e te)(hbase:attributeBase o "append" X.env (eval o X.env)=eval o X.env:=by rfl)
  (hst:starEach [e] X.env=[(false,eval e X.env)]:=by rfl)
  (hline:(apos.endLine == cpos.line)=true:=by rfl) (hs:swapsWith (.Call (.Attribute o "append" apos) [e] [] cpos) none pos.line X.env=pure false:=by rfl):PS X (.Expr (.Call (.Attribute o "append" apos) [e] [] cpos) pos) (zk7 to te):=by
 intro pins s σ H D I h;refine wpAny_Expr ?_ I.quiet;refine wpAny_Call_method_late hbase (by rw[hst];rfl) hline rfl (thn (ho pins s σ H _ I h) fun v s1 ⟨x,H1,I1,r1,l,xs,e1,hl,q1⟩=>?_);subst e1;obtain⟨h1,h2⟩:=zar (T:="list") I1 r1 (.inl ⟨rfl,_,SqL.of hl⟩);refine⟨"list","list.append",PySem.F.plainAttrs_list,PySem.F.slot_list_append,PySem.F.type_list_append,h1,h2,?_⟩;rw[hst];refine Calls.callWith_builtin rfl (Calls.evalArgs_plain ?_);refine Calls.spliced_cons (thn (he pins s1 σ H1 _ I1 q1) fun u s2 ⟨y,H2,I2,r2,ys,hl2,hz,q2⟩=>Calls.spliced_nil ?_);refine thn (zc9 pins s2 σ H2 (.ref l) [y] v [u] (fun v H3=>v=.non/\D.nx σ H3) I2 r1 (.cons r2 .nil) ⟨l,ys,y,rfl,rfl,hl2,hz,rfl,q2⟩) fun z s3 ⟨zv,H3,I3,rz,ez,q3⟩=>?_;subst ez;cases rz;exact⟨σ,H3,I3,q3⟩
section
variable{X:Cx}{K:Frag}
theorem zfo(hK:X.K=K):IxR X (G6 K):=hK▸zhg
theorem zhl(hK:X.K=K):IxR X (zjc K):=hK▸zjd
theorem Fc(hK:X.K=K):Vs X (.builtin "len") (fun xs H Q=>∃ p ys,xs=[.ref p]/\(SqL K H p ys\/SqT K H p ys)/\Q (.int ys.length) H):=hK▸Dq
theorem Xa(hK:X.K=K):Vs X (.type "list") (fun xs H Q=>∃ p ys,xs=[.ref p]/\(SqL K H p ys\/SqT K H p ys)/\∀ l,H l=none->Q (.ref l) (upd H l (.lst ys))):=hK▸Dr
theorem Wa(hK:X.K=K):Vs X (.builtin "isinstance") (zk2 K):=hK▸zfi
theorem Ia(hK:X.K=K):OpR X (compareOp .In) (rIn K false):=hK▸zc8
theorem Of(hK:X.K=K):OpR X (compareOp .NotIn) (rIn K true):=hK▸Dp
theorem zb7(hK:X.K=K)(hu:X.A.units+64<cLine):OpR X (compareOp .Eq) (zfn K false):=hK▸zjk hu
theorem zb8(hK:X.K=K)(hu:X.A.units+64<cLine):OpR X (compareOp .NotEq) (zfn K true):=hK▸zjl hu
theorem Bm(hK:X.K=K):SlR X (zky K):=hK▸zhh
variable{o e l tg value a:Expr}{f:Str}{pos pos':Pos}{ta tv tl:TE}{es:List Expr}{k n:Nat}{t:TGs}
theorem Zr(hK:X.K=K)(he:PE X e ta)(hb:attributeBase e f X.env (eval e X.env)=eval e X.env):PE X (.Attribute e f pos) (zkk K ta f):=hK▸zi0 he hb
theorem Xb(hK:X.K=K)(ha:PE X o ta)(hv:PE X value tv)(hs:swapsWith value (some (.Attribute o f pos')) pos.line X.env=pure false):PS X (.Assign [.Attribute o f pos'] value pos) (zkm K ta tv f):=hK▸zi1 ha hv hs
theorem Yc(hK:X.K=K)(hl:PE X l tl):PI X tg l (zer K tl):=hK▸zg0 hl
theorem Xy(hK:X.K=K)(hc:X.calm=true)(h:PGs X es t)(hn:(assignEach es X.env).length=n:=by rfl)(hst:(assignEach es X.env).findIdx? (·.1)=none:=by rfl):PG X (.Tuple es k pos) (ziu K n t):=hK▸ziv hc h hn hst
theorem Eo(hK:X.K=K)(ha:PE X a ta)(he:∀ whole,isTrue a X.env whole=(do let v <- whole;standAt a.pos;holding [v] (truthy v))):PT X a (fun σ H Q=>ta σ H fun x H'=>∃ k,TruV K x H' k/\Q k H'):=hK▸zex ha he
end
section
variable{X:Cx}{K:Frag}
theorem Ib(hK:X.K=K):Vs X (.type "tuple") (fun xs H Q=>∃ p ys,xs=[.ref p]/\((SqL K H p ys/\∀ l,H l=none->Q (.ref l) (upd H l (.tup ys)))\/(SqT K H p ys/\Q (.ref p) H))):=hK▸G8
end
end L2
namespace G
open PySem PySem.Spec PyProof.Rows L2
theorem sz1:1<=sizeLine:=by decide
theorem sz2:2<=sizeLine:=by decide
theorem sz3:3<=sizeLine:=by decide
theorem sz4:4<=sizeLine:=by decide
theorem szN(h:n<=1000):n<=sizeLine:=zxe (Vm h)
theorem itD{p:Prop}[Decidable p]{A B:Prop}(h1:p->A)(h2:¬ p->B):if decide p=true then A else B:=by
 by_cases h:p
 ·rw[zva h,if_pos rfl];exact h1 h
 ·rw[zvf h,if_neg ⋯];exact h2 h
theorem itB{b:Bool}{A B:Prop}(h1:b=true->A)(h2:b=false->B):if b=true then A else B:=by
 cases b
 ·exact iteF (h2 rfl)
 ·exact iteT (h1 rfl)
theorem Rf:decide (V.int i=V.int j)=decide (i=j):=by
 by_cases h:i=j
 ·subst h;simp
 ·rw[zvf h,zvf fun z=>h (V.int.inj z)]
theorem itV{i j:Int}{A B:Prop}(h1:i=j->A)(h2:¬ i=j->B):if decide (V.int i=V.int j)=true then A else B:=by
 rw[Rf];exact itD h1 h2
theorem Zf(h:H p=none):Same H (upd H p o):=fun b u e=>by rw[Zi (Zh e h)];exact e
def Yl(i:Int):Prop:=i.natAbs.log2<1920
theorem Yi(h:i.natAbs<=10 ^ 60):Yl i:=by
 unfold Yl;by_cases h0:i.natAbs=0
 ·rw[h0];decide
 ·exact(Nat.log2_lt h0).mpr (zwr h ⋯)
theorem Ye(h:-1000<=i)(h':i<=1000):Yl i:=Yi (zvh (show i.natAbs<=1000 by omega) ⋯)
theorem Wm{xs:List Int}{i:Int}(h0:0<=i)(h1:i<xs.length):atI (xs.map V.int) i=#[a,.int,xs.getD i.toNat 0]:=by
 obtain⟨k,rfl⟩:∃ k:Nat,i=k:=⟨i.toNat,by omega⟩;refine Z0 ?_;have hk:k<xs.length:=by omega
 rw[zu8,zu3 hk,zv6,zvj,zvu,zu3 hk];rfl
theorem Vu(h1:∀ Q:Bool->Hp->Prop,Q b H->t σ H Q)(h2:∀ Q:Bool->Hp->Prop,Q c H->u σ H Q)(Q:Bool->Hp->Prop)(h:Q (b||c) H):tOr t u σ H Q:=by
 refine h1 _ ?_;cases b with
 | true=>exact h
 | false=>exact h2 _ h
theorem Vb(h1:∀ Q:Bool->Hp->Prop,Q b H->t σ H Q)(h:if b=true then A D σ H else B D σ H):Cz t A B D σ H:=h1 _ h
theorem Ue(h:A { D with nx:=B D } σ H):tSeq A B D σ H:=h
theorem Kh(J:L2.St->Hp->Prop)(hc:∀ Q:Bool->Hp->Prop,Q b H->c σ H Q)(h1:b=true->∀ N:L2.St->Hp->Prop,(∀ σ' H',J σ' H'->N σ' H')->t { D with nx:=N } σ H)
  (h2:b=false->∀ N:L2.St->Hp->Prop,(∀ σ' H',J σ' H'->N σ' H')->e { D with nx:=N } σ H) (h3:∀ σ' H',J σ' H'->u D σ' H'):tSeq (Cz c t e) u D σ H:=by
 refine hc _ ?_;cases b with
 | true=>rw[if_pos rfl];exact h1 rfl _ h3
 | false=>rw[if_neg ⋯];exact h2 rfl _ h3
theorem Zx(h:D.nx σ H):zem D σ H:=h
theorem Ie{K:Frag}{C:Addr}{v:Value}{r:Bool}(e:PySem.W.mroIn K C v=some r):(PySem.W.clsIn K C).isSome=true:=by
 obtain⟨cd,h,_⟩:=Option.bind_eq_some_iff.mp e;rw[h];rfl
theorem zjm(K:Frag):PySem.W.kitOne K (.type "int") (.type "int")=some true:=rfl
theorem zjn(K:Frag):PySem.W.kitOne K (.type "int") (.type "bool")=some false:=by with_unfolding_all rfl
theorem M3(K:Frag):PySem.W.kitOne K (.type "list") (.type "list")=some true:=rfl
theorem zaw(K:Frag):PySem.W.kitOne K (.type "tuple") (.type "tuple")=some true:=rfl
inductive Z9(H:Hp):#[b]->List (List V)->Prop where
 | nil:Z9 H [] []
 | cons {t:Addr} {r:#[b]} {ts:#[b]} {R:List (List V)} (h:H t=#[a,.tup,r]) (q:Z9 H ts R):Z9 H (.ref t :: ts) (r :: R)
theorem Z9.mono(k:#[j]):∀ {ts:List V} {R:List (List V)},Z9 H ts R->Z9 H' ts R
 | _,_,.nil=>.nil
 | _,_,.cons h r=>.cons (k _ _ h) (Z9.mono k r)
theorem Z9.same(e:Same H H')(h:Z9 H ts R):Z9 H' ts R:=h.mono fun t xs q=>e _ _ q
theorem Z9.length:∀ {ts:List V} {R:List (List V)},Z9 H ts R->ts.length=R.length
 | _,_,.nil=>rfl
 | _,_,.cons _ r=>by simp[Z9.length r]
theorem Z9.snoc(h:H t=#[a,.tup,x]):∀ {ts:List V} {R:List (List V)},Z9 H ts R->Z9 H (ts++[.ref t]) (R++[x])
 | _,_,.nil=>.cons h .nil
 | _,_,.cons h' r=>.cons h' (Z9.snoc h r)
theorem Z9.get:∀ {ts:List V} {R:List (List V)} {i:Nat} {x:V},Z9 H ts R->ts[i]?=some x->∃ t r,x=.ref t/\R[i]?=some r/\H t=#[a,.tup,r]
 | _,_,_,_,.nil,e=>by simp at e
 | _,_,0,_,.cons h _,e=>by simp at e;subst e;exact⟨_,_,rfl,rfl,h⟩
 | _,_,i+1,x,.cons _ r,e=>by
   obtain⟨t,n,h1,h2,h3⟩:=Z9.get (i:=i) (x:=x) r (by simpa using e);exact⟨t,n,h1,by simpa using h2,h3⟩
theorem Z9.getR:∀ {ts:List V} {R:List (List V)} {i:Nat} {r:List V},Z9 H ts R->R[i]?=some r->∃ t,ts[i]?=#[c,t]/\H t=#[a,.tup,r]
 | _,_,_,_,.nil,e=>by simp at e
 | _,_,0,_,.cons h _,e=>by simp at e;subst e;exact⟨_,rfl,h⟩
 | _,_,i+1,x,.cons _ r,e=>by
   obtain⟨t,h1,h2⟩:=Z9.getR (i:=i) (r:=x) r (by simpa using e);exact⟨t,by simpa using h1,h2⟩
inductive Jw(vs:#[b])(H:Hp)(Q:VK)(_:XK):Prop where
 | mk(i)(_:vs=[.int i])(_:Q (.bl true) H)
def X5(ns:List Int)(k:Nat):Int:=(ns[k]?).getD 0
inductive zdg(K:Frag)(vs:#[b])(H:Hp)(Q:VK)(_:XK):Prop where
 | mk(b:Addr)(ns:List Int)(k:Nat)(_:vs=[.ref b,.int k])(_:SqL K H b (ns.map V.int))(_:Q (.int (X5 ns k)) H)
def zjo(c k:Int):Int:=(c*48271+k)%2147483647
def zk8(c k:Int):Int:=(zjo c k*69621+7*k)%2147483629
def zlx(c k:Int):Int:=(zk8 c k*39373+zjo c k)%2147483587
def zax(c k:Int):Int:=(zjo c k*2147483647+zk8 c k)*2147483647+zlx c k
inductive zb9(vs:#[b])(H:Hp)(Q:VK)(_:XK):Prop where
 | mk(c)(k)(_:vs=[.int c,.int k])(_:Q (.int (zax c k)) H)
def stp(c:Int):Int:=([1,2,5,10,100,500,998]:List Int).getD (c%7).toNat 0
def zdh(c:Int)(j:Nat):Int:=1+(c/7+stp c*(j:Int))%999
def Ki(c:Int)(many:Nat):List Int:=(List.range many).map (zdh c)
inductive Ig(vs:#[b])(H:Hp)(Q:VK)(_:XK):Prop where
 | mk(c:Int)(many:Nat)(_:vs=[.int c,.int many])(_:many<=1000)(_:∀ l H',H' l=some (.lst ((Ki c many).map V.int))->Same H H'->H l=none->Q (.ref l) H')
def Dw(c:Int):Int:=([1,2,5,10,50,97,98]:List Int).getD (c%7).toNat 0
def Ep(c:Int)(j:Nat):Int:=1+(c/7+Dw c*(j:Int))%99
def Qz(c:Int)(many:Nat):List Int:=(List.range many).map (Ep c)
inductive zca(vs:#[b])(H:Hp)(Q:VK)(_:XK):Prop where
 | mk(c:Int)(many:Nat)(_:vs=[.int c,.int many])(_:many<=1000)(_:∀ l H',H' l=some (.lst ((Qz c many).map V.int))->Same H H'->H l=none->Q (.ref l) H')
def oneV(x:V):Prop:=x=.non\/∃ i,x=.int i
inductive Pp(vs:#[b])(H:Hp)(Q:VK)(_:XK):Prop where
 | mk(x)(_:vs=[x,x])(_:oneV x)(_:Q (.bl true) H)
inductive Ih(K:Frag)(vs:#[b])(H:Hp)(Q:VK)(_:XK):Prop where
 | mk(b c:Addr)(xs:#[b])(_:vs=[.ref b,.ref c])(_:H b=#[a,.lst,xs])(_:SqL K H c xs)(_:(∀ x∈xs,oneV x))(_:xs.length<=1000)(_:Q (.bl true) H)
inductive Er(K:Frag)(vs:#[b])(H:Hp)(Q:VK)(_:XK):Prop where
 | mk(b c:Addr)(xs:#[b])(_:vs=[.ref b,.ref c])(_:H b=#[a,.tup,xs])(_:SqT K H c xs)(_:(∀ x∈xs,oneV x))(_:xs.length<=1000)(_:Q (.bl true) H)
inductive Pq(K:Frag)(vs:#[b])(H:Hp)(Q:VK)(_:XK):Prop where
 | mk(b c:Addr)(ts us:#[b])(R:List (List V))(_:vs=[.ref b,.ref c])(_:H b=#[a,.lst,ts])(_:SqL K H c us)(_:Z9 H ts R)(_:Z9 H us R)(_:(∀ r∈R,r.length<=1000/\∀ x∈r,oneV x))(_:R.length<=1000)(_:Q (.bl true) H)
inductive zcb(K:Frag)(vs:#[b])(H:Hp)(Q:VK)(_:XK):Prop where
 | mk(b:Addr)(ns:List Int)(_:vs=[.ref b])(_:SqL K H b (ns.map V.int))(_:ns.length<=63)(_:∀ H',Q (.bl true) H')
structure Row where
 h:Int
 g:Int
 d:Int
 w:Option Int
def oV:Option Int->V
 | none=>.non
 | some n=>.int n
def row4(r:Row):#[b]:=[.int r.h,.int r.g,.int r.d,oV r.w]
theorem zjp(o:Option Int):oneV (oV o):=by
 cases o with
 | none=>exact .inl rfl
 | some n=>exact .inr ⟨n,rfl⟩
theorem zjq{H:Hp}{ts:#[b]}{rs:List Row}{i:Nat}{x:V}(h:Z9 H ts (rs.map row4))(e:ts[i]?=some x):∃ t r,x=.ref t/\rs[i]?=some r/\H t=some (.tup (row4 r)):=by
 obtain⟨t,r,h1,h2,h3⟩:=h.get e;rw[zu8] at h2;cases q:rs[i]? with
 | none=>rw[q] at h2;cases h2
 | some m=>rw[q] at h2;cases h2;exact⟨t,m,h1,rfl,h3⟩
def hit(n c:Int)(r:Row):Bool:=decide (r.w=some n)&&(decide (r.h=c)||decide (r.g=c))
def Dx(n c:Int)(Rs:List (List Row)):Nat×Nat:=Rs.foldl (fun p rs=>(p.1+1,if rs.any (hit n c) then p.1+1 else p.2)) (0,0)
def metS(Rs:List (List Row))(n c:Int):Nat:=(Dx n c Rs).2
theorem zfp(n c:Int)(Rs:List (List Row)):(Dx n c Rs).1=Rs.length:=by
 have h:∀ (Rs:List (List Row)) (p:Nat×Nat),(Rs.foldl (fun p rs=>(p.1+1,if rs.any (hit n c) then p.1+1 else p.2)) p).1=p.1+Rs.length:=fun Rs=>by
  induction Rs with
  | nil=>intro p;rfl
  | cons r Rs ih=>intro p;rw[List.foldl_cons,ih,zvp];simp only;omega
 have:=h Rs (0,0);unfold Dx;rw[this];simp
theorem zdi(Rs:List (List Row))(rs:List Row)(n c:Int):metS (Rs++[rs]) n c=if rs.any (hit n c) then Rs.length+1 else metS Rs n c:=by
 unfold metS;have e:Dx n c (Rs++[rs])=((Dx n c Rs).1+1,if rs.any (hit n c) then (Dx n c Rs).1+1 else (Dx n c Rs).2):=by
  unfold Dx;rw[List.foldl_append];rfl
 rw[e,zfp]
def Bn(kvs:List (List Key×V))(f:Int->Int->Nat):Prop:=∀ n c:Int,valV kvs [inl n,inl c]=if f n c=0 then none else some (.int (f n c))
inductive Rv(H:Hp):#[b]->List (List Row)->Prop where
 | nil:Rv H [] []
 | cons {t:Addr} {ts rs:#[b]} {r:List Row} {R:List (List Row)} (h:H t=#[a,.tup,ts]) (q:Z9 H ts (r.map row4)) (n:Rv H rs R):Rv H (.ref t :: rs) (r :: R)
theorem Rv.mono(k:#[j]):∀ {ts:List V} {R:List (List Row)},Rv H ts R->Rv H' ts R
 | _,_,.nil=>.nil
 | _,_,.cons h q r=>.cons (k _ _ h) (q.mono k) (Rv.mono k r)
theorem Rv.length:∀ {ts:List V} {R:List (List Row)},Rv H ts R->ts.length=R.length
 | _,_,.nil=>rfl
 | _,_,.cons _ _ r=>by simp[Rv.length r]
theorem Rv.snoc(h:H t=#[a,.tup,xs])(q:Z9 H xs (x.map row4)):∀ {ts:List V} {R:List (List Row)},Rv H ts R->Rv H (ts++[.ref t]) (R++[x])
 | _,_,.nil=>.cons h q .nil
 | _,_,.cons h' q' r=>.cons h' q' (Rv.snoc h q r)
theorem Rv.getR:∀ {ts:List V} {R:List (List Row)} {i:Nat} {r:List Row},Rv H ts R->R[i]?=some r->∃ t xs,ts[i]?=#[c,t]/\H t=#[a,.tup,xs]/\Z9 H xs (r.map row4)
 | _,_,_,_,.nil,e=>by simp at e
 | _,_,0,_,.cons h q _,e=>by simp at e;subst e;exact⟨_,_,rfl,h,q⟩
 | _,_,i+1,x,.cons _ _ r,e=>by
   obtain⟨t,xs,h1,h2,h3⟩:=Rv.getR (i:=i) (r:=x) r (by simpa using e);exact⟨t,xs,by simpa using h1,h2,h3⟩
def tot(Rs:List (List Row)):Nat:=(Rs.map List.length).sum
theorem zfq(Rs:List (List Row))(rs:List Row):tot (Rs++[rs])=tot Rs+rs.length:=by unfold tot;rw[zu9,List.sum_append];simp
structure Ub(C:Addr)(H:Hp)(p lr ld:Addr)(Rs:List (List Row)):Prop where
 at_:∃ dx,H p=some (.ins C dx [("rounds",.ref lr),("meetings",.ref ld)])
 rd:∃ rs,H lr=#[a,.lst,rs]/\Rv H rs Rs
 mt:∃ kvs,H ld=#[a,.dT,kvs]/\Bn kvs (metS Rs)/\kvs.length<=2*tot Rs
theorem Ub.same{C:Addr}{H H':Hp}{p lr ld:Addr}{Rs:List (List Row)}(h:Ub C H p lr ld Rs)(e:Same H H'):Ub C H' p lr ld Rs:=by
 obtain⟨⟨dx,h1⟩,⟨rs,h2,h3⟩,⟨kvs,h4,h5⟩⟩:=h;exact⟨⟨dx,e _ _ h1⟩,⟨rs,e _ _ h2,h3.mono fun t xs q=>e _ _ q⟩,⟨kvs,e _ _ h4,h5⟩⟩
theorem Ub.keep{C:Addr}{H H':Hp}{p lr ld:Addr}{Rs:List (List Row)}(h:Ub C H p lr ld Rs)(ep:∀ o,H p=some o->H' p=some o)(er:∀ o,H lr=some o->H' lr=some o)(ed:∀ o,H ld=some o->H' ld=some o)(et:#[j]):Ub C H' p lr ld Rs:=by
 obtain⟨⟨dx,h1⟩,⟨rs,h2,h3⟩,⟨kvs,h4,h5⟩⟩:=h;exact⟨⟨dx,ep _ h1⟩,⟨rs,er _ h2,h3.mono et⟩,⟨kvs,ed _ h4,h5⟩⟩
theorem Rg:List.lookup ("rounds":Str) ([("rounds",V.ref x),("meetings",V.ref y)]:List (Str×V))=#[a,.ref,x]:=by simp only[zv1,beq_self_eq_true]
theorem Q0:List.lookup ("meetings":Str) ([("rounds",V.ref x),("meetings",V.ref y)]:List (Str×V))=#[a,.ref,y]:=by
 have e:(("meetings":Str) == "rounds")=false:=by decide +kernel
 simp only[zv1,e,beq_self_eq_true]
theorem Kj{x y:Addr}{m:Str}(h:¬ m="rounds")(h':¬ m="meetings"):List.lookup m ([("rounds",V.ref x),("meetings",V.ref y)]:List (Str×V))=none:=by
 have e:(m == "rounds")=false:=zvs.mpr h;have e':(m == "meetings")=false:=zvs.mpr h';simp only[zv1,e,e',List.lookup_nil]
inductive zcc(C:Addr)(vs:#[b])(H:Hp)(Q:VK)(_:XK):Prop where
 | mk(p)(dx)(_:vs=[.ref p])(_:H p=some (.ins C dx []))(_:∀ lr ld H',Ub C H' p lr ld []->(∀ b o,H b=some o->b≠p->H' b=some o)->H lr=none->H ld=none->lr≠ld->Q .non H')
inductive M4(C:Addr)(vs:#[b])(H:Hp)(Q:VK)(_:XK):Prop where
 | mk(p)(lr)(ld)(Rs)(_:vs=[.ref p])(_:Ub C H p lr ld Rs)(_:Q (.int (Rs.length:Nat)) H)
inductive zcd(C N:Addr)(vs:#[b])(H:Hp)(Q:VK)(E:XK):Prop where
 | mk(p)(lr)(ld)(Rs)(i)(_:vs=[.ref p,.int i])(_:Ub C H p lr ld Rs)(_:Yl i)(_:(i<1\/(Rs.length:Int)<i->E (.ref N) none H))(_:∀ (k:Nat) r,i=(k:Int)+1->Rs[k]?=some r->∀ l ts,H l=none->Z9 H ts (r.map row4)->Q (.ref l) (upd H l (.lst ts)))
inductive zig(C:Addr)(vs:#[b])(H:Hp)(Q:VK)(_:XK):Prop where
 | mk(p)(lr)(ld)(Rs)(n)(c)(_:vs=[.ref p,.int n,.int c])(_:Ub C H p lr ld Rs)(_:∀ H',Same H H'->Q (.int (metS Rs n c:Nat)) H')
theorem Pr:([inl n,inl c]:List Key)=[inl n',inl c']↔n=n'/\c=c':=by
 constructor
 ·intro h;injection h with h1 h2;injection h2 with h2 _;exact⟨inl.inj h1,inl.inj h2⟩
 ·rintro⟨rfl,rfl⟩;rfl
theorem Bn.put(h:Bn kvs f)(n c:Int)(t:Nat)(ht:0<t):Bn (putK kvs [inl n,inl c] (.int t)) fun n' c'=>if n'=n/\c'=c then t else f n' c':=fun n' c'=>by
 rw[Vt];show _=if (if n'=n/\c'=c then t else f n' c')=0 then none else #[a,V.int,((if n'=n/\c'=c then t else f n' c':Nat):Int)]
 by_cases e:n'=n/\c'=c
 ·rw[if_pos e,if_pos (Pr.mpr e),if_neg ⋯]
 ·rw[if_neg fun z=>e (Pr.mp z),if_neg e];exact h n' c'
def M5(Rs:List (List Row))(rs:List Row)(i:Nat)(n c:Int):Nat:=if (rs.take i).any (hit n c) then Rs.length+1 else metS Rs n c
theorem zdj(Rs:List (List Row))(rs:List Row):M5 Rs rs 0=metS Rs:=by funext n c;unfold M5;simp
theorem zfr(Rs:List (List Row))(rs:List Row):M5 Rs rs rs.length=metS (Rs++[rs]):=by funext n c;unfold M5;rw[zvk,zdi]
theorem Es(e:rs[i]?=some r)(n c:Int):M5 Rs rs (i+1) n c=if hit n c r then Rs.length+1 else M5 Rs rs i n c:=by
 unfold M5;rw[zwg,e,List.any_append];cases h1:(rs.take i).any (hit n c)<;>cases h2:hit n c r<;>simp[h2]
theorem zdk(e:rs[i]?=some r)(h:r.w=none):M5 Rs rs (i+1)=M5 Rs rs i:=by
 funext n c
 rw[Es e];have:hit n c r=false:=by unfold hit;rw[h];simp
 rw[this];simp
theorem zdl(e:rs[i]?=some r)(h:r.w=some w) :
  (fun n c=>if n=w/\c=r.g then Rs.length+1 else (fun n c=>if n=w/\c=r.h then Rs.length+1 else M5 Rs rs i n c) n c)=M5 Rs rs (i+1):=by
 funext n c
 rw[Es e];unfold hit;rw[h];show (if n=w/\c=r.g then Rs.length+1 else if n=w/\c=r.h then Rs.length+1 else M5 Rs rs i n c)=_;by_cases h1:n=w
 ·subst h1;by_cases h2:r.g=c
  ·rw[if_pos ⟨rfl,h2.symm⟩,if_pos (by simp[h2])]
  ·rw[if_neg fun z=>h2 z.2.symm];by_cases h3:r.h=c
   ·rw[if_pos ⟨rfl,h3.symm⟩,if_pos (by simp[h3])]
   ·rw[if_neg fun z=>h3 z.2.symm,if_neg (by simp[h2,h3])]
 ·rw[if_neg fun z=>h1 z.1,if_neg fun z=>h1 z.1,if_neg (by simp;intro z;exact absurd z.symm h1)]
theorem zfs{C:Addr}{H1 H':Hp}{x dx lr ld:Addr}(hx:H1 x=none)(hdx:H1 dx=none)(ne:dx≠x)(k:∀ b o,upd (upd H1 dx (.own x)) x (.ins C dx []) b=some o->b≠x->H' b=some o)
  (h1:upd (upd H1 dx (.own x)) x (.ins C dx []) lr=none) (h2:upd (upd H1 dx (.own x)) x (.ins C dx []) ld=none):Same H1 H'/\H1 lr=none/\H1 ld=none:=by
 have fr:∀ {l:Addr},upd (upd H1 dx (.own x)) x (.ins C dx []) l=none->H1 l=none:=fun {l} q=>by
  have n1:l≠x:=fun z=>by rw[z,Zd] at q;cases q
  have n2:l≠dx:=fun z=>by rw[z,Zi ne,Zd] at q;cases q
  rw[Zi n1,Zi n2] at q;exact q
 refine⟨fun b o e=>k b o ?_ (Zh e hx),fr h1,fr h2⟩;rw[Zi (Zh e hx),Zi (Zh e hdx)];exact e
theorem zk9{lr ld:Addr}:putF "meetings" (V.ref ld) [(("rounds":Str),V.ref lr)]=[(("rounds":Str),V.ref lr),(("meetings":Str),V.ref ld)]:=by
 show (if ("rounds":Str)="meetings" then _ else _)=_;rw[if_neg ⋯];rfl
theorem Z6(h:H l=none)(s:Same H H'):Same H (upd H' l o):=fun b u e=>by
 rw[Zi (Zh e h)];exact s b u e
theorem zft(h:oneV x):Rb x=true:=by rcases h with rfl|⟨i,rfl⟩<;>rfl
inductive RLs(H:Hp):List Addr->List (List Row)->Prop where
 | nil:RLs H [] []
 | cons {l:Addr} {ts:#[b]} {ls:List Addr} {r:List Row} {R:List (List Row)} (h:H l=#[a,.lst,ts]) (q:Z9 H ts (r.map row4)) (n:RLs H ls R):RLs H (l :: ls) (r :: R)
theorem Fd(c:Int)(m:Nat):(Qz c m).length=m:=by unfold Qz;rw[zu2,zv4]
theorem N2(c:Int)(m:Nat):(Ki c m).length=m:=by unfold Ki;rw[zu2,zv4]
structure L1(C:Addr)(H0:Hp)(p lr ld kR:Addr)(ls:List Addr)(R S:List (List Row))(H:Hp):Prop where
 base:Same H0 H
 led:Ub C H p lr ld R
 krs:H kR=some (.lst (ls.map V.ref))
 rls:RLs H ls S
 sep:∀ l∈ls,l≠lr/\l≠kR
structure C1(H0:Hp)(lr ld kR:Addr):Prop where
 fr:H0 lr=none
 fd:H0 ld=none
 fk:H0 kR=none
 rk:lr≠kR
theorem Et(h1:∀ Q:Bool->Hp->Prop,Q b H->t σ H Q)(h2:∀ Q:Bool->Hp->Prop,Q c H->u σ H Q)(Q:Bool->Hp->Prop)(h:Q (b&&c) H):zio t u σ H Q:=by
 refine h1 _ ?_;cases b with
 | true=>exact h2 _ h
 | false=>exact h
def Qk(Rs:List (List Row))(n c rest:Int):Bool:=decide ((if (0:Int)>(Rs.length:Nat)-rest then 0 else ((Rs.length:Nat):Int)-rest)<(metS Rs n c:Nat))
inductive Bo(C:Addr)(vs:#[b])(H:Hp)(Q:VK)(_:XK):Prop where
 | mk(p)(lr)(ld)(Rs)(n)(c)(rest)(_:vs=[.int n,.int c,.ref p,.int rest])(_:Ub C H p lr ld Rs)(_:∀ H',Same H H'->Q (.bl (Qk Rs n c rest)) H')
def bw(b:Bool)(w:Str):List Str:=if b then [w] else []
def whyS(Rs:List (List Row))(n g c h gu d:Int)(o:Bool)(rest:Int):List Str :=
 bw o "away"++(bw (decide (g<d)) "grade"++(bw (decide (c=h)||decide (c=gu)) "club"++bw (Qk Rs n h rest||Qk Rs n gu rest) "met"))
inductive Eu(K:Frag)(C:Addr)(vs:#[b])(H:Hp)(Q:VK)(_:XK):Prop where
 | mk(t1 t2 p lr ld:Addr)(Rs:List (List Row))(n g c h gu d rest:Int)(o:Bool)(_:vs=[.ref t1,.ref t2,.bl o,.ref p,.int rest])(_:H t1=#[a,.tup,[.int n,.int g,.int c]])(_:H t2=#[a,.tup,[.int h,.int gu,.int d]])(_:Ub C H p lr ld Rs)(_:∀ l H',H' l=some (.lst ((whyS Rs n g c h gu d o rest).map V.str))->Same H H'->H l=none->Q (.ref l) H')
def Gr(c:TT)(σ:L2.St)(H:Hp)(b:Bool):Prop:=∀ Q:Bool->Hp->Prop,(∀ H1,Same H H1->Q b H1)->c σ H Q
theorem Bp(h1:Gr t σ H b)(h2:∀ H1,Same H H1->Gr u σ H1 c):Gr (tOr t u) σ H (b||c):=fun Q h=>by
 refine h1 _ fun H1 s1=>?_;cases b with
 | true=>exact h H1 s1
 | false=>exact h2 H1 s1 _ fun H2 s2=>h H2 (s1.trans s2)
theorem Rw(h:∀ Q:Bool->Hp->Prop,Q b H->c σ H Q):Gr c σ H b:=fun Q q=>h Q (q H (Same.refl H))
theorem Sb(hc:Gr c σ H b)(h0:H0 l=none)(s:Same H0 H)(hl:H l=some (.lst (xs.map V.str)))(hx:xs.length<=100)(hv:σ[i]?=some #[c,l])
  (h3:∀ H',Same H0 H'->H' l=some (.lst ((xs++bw b w).map V.str))->(∀ b o,H b=some o->b≠l->H' b=some o)->u D σ H'):tSeq (Cz c (zk7 (Dk i) (tC (.str w))) zem) u D σ H:=by
 refine hc _ fun H1 s1=>?_;have hl1:=s1 _ _ hl;cases b with
 | true =>
   rw[if_pos rfl];refine⟨_,hv,l,_,rfl,hl1,_,hl1,Vm (by rw[zu2];omega),?_⟩;refine h3 _ (Z6 h0 (s.trans s1)) ?_ fun b o e n=>by rw[Zi n];exact s1 _ _ e
   rw[Zd,zu9];rfl
 | false =>
   rw[if_neg ⋯];exact h3 _ (s.trans s1) (by rw[show bw false w=[] from rfl,zxc];exact hl1) fun b o e _=>s1 _ _ e
theorem M6(b:Bool)(w:Str):(bw b w).length<=1:=by cases b<;>simp[bw]
theorem zhm:x<metS Rs n c↔∃ (j:Nat) (r:List Row),Rs[j]?=some r/\r.any (hit n c)=true/\x<j+1:=by
 have gen:∀ (Rs:List (List Row)) (p:Nat×Nat),p.2<=p.1->(x<(Rs.foldl (fun p rs=>(p.1+1,if rs.any (hit n c) then p.1+1 else p.2)) p).2↔(∃ (j:Nat) (r:List Row),Rs[j]?=some r/\r.any (hit n c)=true/\x<p.1+j+1)\/x<p.2):=fun Rs=>by
  induction Rs with
  | nil=>intro p hp;simp
  | cons r Rs ih =>
    intro p hp;rw[List.foldl_cons,ih _ (by show (if r.any (hit n c) then p.1+1 else p.2)<=p.1+1;split<;>omega)];show ((∃ (j:Nat) (r':List Row),Rs[j]?=some r'/\r'.any (hit n c)=true/\x<p.1+1+j+1)\/x<(if r.any (hit n c) then p.1+1 else p.2))↔_;constructor
    ·rintro(⟨j,r',h1,h2,h3⟩|h)
     ·exact .inl ⟨j+1,r',by simpa using h1,h2,by omega⟩
     ·by_cases hr:r.any (hit n c)=true
      ·rw[if_pos hr] at h;exact .inl ⟨0,r,rfl,hr,by omega⟩
      ·rw[if_neg hr] at h;exact .inr h
    ·rintro(⟨j,r',h1,h2,h3⟩|h)
     ·cases j with
      | zero =>
        have e:r=r':=by simpa using h1
        subst e;exact .inr (by rw[if_pos h2];omega)
      | succ j=>exact .inl ⟨j,r',by simpa using h1,h2,by omega⟩
     ·right
      split<;>omega
 have:=gen Rs (0,0) (zvd _);unfold metS Dx;rw[this];simp
theorem zdm{Rs:List (List Row)}{n c rest:Int}:Qk Rs n c rest=true↔∃ (j:Nat) (r:List Row),Rs[j]?=some r/\r.any (hit n c)=true/\(Rs.length:Int)-rest<=j:=by
 unfold Qk;rw[decide_eq_true_eq];have e:(if (0:Int)>(Rs.length:Nat)-rest then 0 else ((Rs.length:Nat):Int)-rest)<(metS Rs n c:Nat)↔(((Rs.length:Nat):Int)-rest).toNat<metS Rs n c:=by
  split<;>omega
 rw[e,zhm];constructor
 ·rintro⟨j,r,h1,h2,h3⟩;exact⟨j,r,h1,h2,by omega⟩
 ·rintro⟨j,r,h1,h2,h3⟩;exact⟨j,r,h1,h2,by omega⟩
theorem zfu(c:Int)(hi:i<40)(hj:j<40)(h:zdh c i=zdh c j):i=j:=by
 unfold zdh at h;have hs:stp c=1\/stp c=2\/stp c=5\/stp c=10\/stp c=100\/stp c=500\/stp c=998:=by
  unfold stp;have h0:0<=c%7:=by omega
  have h1:c%7<7:=by omega
  generalize c%7=r at h0 h1;obtain⟨k,rfl⟩:∃ k:Nat,r=k:=⟨r.toNat,by omega⟩;rw[zvj];have hk:k<7:=by omega
  match k,hk with
  | 0,_=>simp
  | 1,_=>simp
  | 2,_=>simp
  | 3,_=>simp
  | 4,_=>simp
  | 5,_=>simp
  | 6,_=>simp
 generalize c/7=x at h;rcases hs with e|e|e|e|e|e|e<;>rw[e] at h<;>omega
end G
namespace G
open PySem PySem.Spec PyProof.Rows L2
abbrev P3:=Int×Int×Int
def pV(m:P3):#[b]:=[.int m.1,.int m.2.1,.int m.2.2]
theorem K2{H:Hp}{ts:#[b]}{Ms:List P3}{i:Nat}{x:V}(h:Z9 H ts (Ms.map pV))(e:ts[i]?=some x):∃ t m,x=.ref t/\Ms[i]?=some m/\H t=some (.tup (pV m)):=by
 obtain⟨t,r,h1,h2,h3⟩:=h.get e;rw[zu8] at h2;cases q:Ms[i]? with
 | none=>rw[q] at h2;cases h2
 | some m=>rw[q] at h2;cases h2;exact⟨t,m,h1,rfl,h3⟩
theorem Z9.reverse:∀ {ts:List V} {R:List (List V)},Z9 H ts R->Z9 H ts.reverse R.reverse
 | _,_,.nil=>.nil
 | _,_,.cons h q=>by rw[zw5,zw5];exact(Z9.reverse q).snoc h
def Q4(Rs:List (List Row))(h gu d:Int)(os:#[b])(rest:Int)(m:P3):Bool:=(whyS Rs m.1 m.2.1 m.2.2 h gu d (inV (.int m.1) os) rest).isEmpty
inductive Bq(K:Frag)(C:Addr)(vs:#[b])(H:Hp)(Q:VK)(_:XK):Prop where
 | mk(lp lo tm p lr ld:Addr)(Rs:List (List Row))(ts:#[b])(Ms:List P3)(os:#[b])(h gu d rest:Int)(_:vs=[.ref lp,.ref tm,.ref lo,.ref p,.int rest])(_:H lp=#[a,.lst,ts])(_:Z9 H ts (Ms.map pV))(_:H lo=#[a,.lst,os])(_:(∀ x∈os,oneV x))(_:H tm=#[a,.tup,[.int h,.int gu,.int d]])(_:Ub C H p lr ld Rs)(_:Ms.length<=1000)(_:∀ l H',H' l=some (.lst ((Ms.filter (Q4 Rs h gu d os rest)).map fun m=>V.int m.1))->Same H H'->H l=none->Q (.ref l) H')
theorem zdn{Rs:List (List Row)}{n c rest:Int}(hr:0<=rest):Qk Rs n c rest=true↔∃ rs∈Rs.drop ((Rs.length:Int)-rest).toNat,∃ r∈rs,hit n c r=true:=by
 rw[zdm];constructor
 ·rintro⟨j,rs,h1,h2,h3⟩;obtain⟨r,hr1,hr2⟩:=List.any_eq_true.mp h2;refine⟨rs,?_,r,hr1,hr2⟩;have hk:((Rs.length:Int)-rest).toNat<=j:=by omega
  refine zvc (i:=j-((Rs.length:Int)-rest).toNat) ?_;rw[List.getElem?_drop,Nat.add_sub_cancel' hk];exact h1
 ·rintro⟨rs,h1,r,h2,h3⟩;obtain⟨i,hi,e⟩:=zwe h1;refine⟨((Rs.length:Int)-rest).toNat+i,rs,?_,List.any_eq_true.mpr ⟨r,h2,h3⟩,by omega⟩;rw[<- List.getElem?_drop,zu3 hi,e]
theorem N3{js:List Nat}{tt:TT}{te:TE}{lo:Int}{n:Nat}{σ:L2.St}{H:Hp}{Q:VK}(p:Nat->Bool)(f:Nat->V)(hz:n<=1000)
  (ht:∀ (i:Nat) (R:Bool->Hp->Prop),i<n->R (p i) H->tt (cs js σ (.int (lo+i))) H R) (hs:∀ (i:Nat) (R:VK),i<n->p i=true->R (f i) H->te (cs js σ (.int (lo+i))) H R)
  (hd:∀ q,H q=none->Q (.ref q) (upd H q (.lst (((List.range n).filter p).map f)))):Bj (Itr lo n) js tt te σ H Q:=by
 refine Ru (fun i ys H'=>H'=H/\ys=((List.range i).filter p).map f) ⟨rfl,rfl⟩ (szN hz) (fun i ys H' ⟨_,e⟩=>by rw[e,zu2];exact zvh (zvz _ _) (by rw[zv4];exact zvd _)) (fun i ys H' hi ⟨e1,e2⟩=>?_) fun ys H' ⟨e1,e2⟩ q hq=>?_
 ·subst e1;refine ht i _ hi ?_;have e3:((List.range (i+1)).filter p).map f=ys++(if p i then [f i] else []):=by
   rw[e2,List.range_succ,zwi,zu9];cases hp:p i<;>simp[hp]
  cases hp:p i with
  | true =>
    rw[if_pos rfl];refine hs i _ hi hp ⟨rfl,?_⟩;rw[e3,hp];rfl
  | false =>
    rw[if_neg ⋯];refine⟨rfl,?_⟩;rw[e3,hp];simp
 ·subst e1;rw[e2];exact hd q hq
def Xr(xs:#[b]):List Nat:=(List.range xs.length).filter fun i=>decide (xs[i]?=some .non)
inductive zay(K:Frag)(vs:#[b])(H:Hp)(Q:VK)(_:XK):Prop where
 | mk(b:Addr)(xs:#[b])(_:vs=[.ref b])(_:H b=#[a,.lst,xs])(_:(∀ x∈xs,oneV x))(_:xs.length<=100)(_:∀ l H',H' l=some (.lst ((Xr xs).map fun i=>V.int (i:Nat)))->Same H H'->H l=none->Q (.ref l) H')
def X2(xs:#[b])(n:Int):Option Nat:=(List.range xs.length).find? fun i=>decide (xs[i]?=#[e,n])
def oN:Option Nat->V
 | none=>.non
 | some i=>.int i
inductive Ew(K:Frag)(vs:#[b])(H:Hp)(Q:VK)(_:XK):Prop where
 | mk(b:Addr)(xs:#[b])(n:Int)(_:vs=[.ref b,.int n])(_:H b=#[a,.lst,xs])(_:(∀ x∈xs,oneV x))(_:xs.length<=100)(_:∀ H',Same H H'->Q (oN (X2 xs n)) H')
def Yu:#[i]->#[b]->#[b]
 | [],xs=>xs
 | (p,w) :: r,xs=>Yu r (xs.set p (oV w))
def Vn(s:Nat×Option Int):#[b]:=[.int (s.1:Nat),oV s.2]
inductive M7(K:Frag)(vs:#[b])(H:Hp)(Q:VK)(_:XK):Prop where
 | mk(b c:Addr)(xs ts:#[b])(st:#[i])(_:vs=[.ref b,.ref c])(_:H b=#[a,.lst,xs])(_:H c=#[a,.lst,ts])(_:Z9 H ts (st.map Vn))(_:(∀ s∈st,s.1<xs.length))(_:(∀ x∈xs,oneV x))(_:xs.length<=100)(_:st.length<=100)(_:∀ l H',H' l=#[a,.lst,Yu st xs]->Same H H'->H l=none->Q (.ref l) H')
theorem Wf:∀ (st:List (Nat×Option Int)) (xs:List V),(Yu st xs).length=xs.length
 | [],_=>rfl
 | (p,w) :: r,xs=>by rw[Yu,Wf r,zws]
theorem Kk(xs:#[b])(n:Int):(X2 xs n=none/\∀ i:Nat,xs[i]?≠#[a,V.int,n])\/∃ i:Nat,X2 xs n=some i/\xs[i]?=some (V.int n):=by
 unfold X2;cases h:(List.range xs.length).find? (fun i=>decide (xs[i]?=#[e,n])) with
 | none =>
   refine .inl ⟨rfl,fun i e=>?_⟩;have hi:i<xs.length:=(zu4.mp e).1;have:=List.find?_eq_none.mp h i (zv9.mpr hi);exact this (zva e)
 | some i =>
   have:=List.find?_some h;exact .inr ⟨i,rfl,of_decide_eq_true this⟩
theorem zdo(xs:#[b])(k:Nat):G5 xs (some (k:Int)) none=xs.drop k:=by
 unfold G5;rw[HT.sIx_nat,HT.sIx_none];by_cases h:k<=xs.length
 ·rw[Nat.min_eq_left h,<- List.length_drop,zvk]
 ·rw[Nat.min_eq_right ⋯,List.drop_length,List.take_nil,List.drop_eq_nil_of_le ⋯]
inductive ILs(H:Hp):List Addr->List (List Int)->Prop where
 | nil:ILs H [] []
 | cons {l:Addr} {ls:List Addr} {r:List Int} {R:List (List Int)} (h:H l=some (.lst (r.map V.int))) (n:ILs H ls R):ILs H (l :: ls) (r :: R)
theorem ILs.keep:∀ {ls:List Addr} {R:List (List Int)},(∀ l∈ls,∀ o,H l=some o->H' l=some o)->ILs H ls R->ILs H' ls R
 | _,_,_,.nil=>.nil
 | _,_,k,.cons h r=>.cons (k _ zvy _ h) (ILs.keep (fun l hl=>k l (zvm _ hl)) r)
theorem ILs.same(e:Same H H')(h:ILs H ls R):ILs H' ls R:=h.keep fun l _ o q=>e _ _ q
theorem ILs.length:∀ {ls:List Addr} {R:List (List Int)},ILs H ls R->ls.length=R.length
 | _,_,.nil=>rfl
 | _,_,.cons _ r=>by simp[ILs.length r]
theorem ILs.snoc(h:H l=some (.lst (x.map V.int))):∀ {ls:List Addr} {R:List (List Int)},ILs H ls R->ILs H (ls++[l]) (R++[x])
 | _,_,.nil=>.cons h .nil
 | _,_,.cons h' r=>.cons h' (ILs.snoc h r)
theorem ILs.has:∀ {ls:List Addr} {R:List (List Int)} {l:Addr},ILs H ls R->l∈ls->∃ xs,H l=#[a,.lst,xs]
 | _,_,_,.nil,e=>by simp at e
 | _,_,_,.cons h r,e=>by
   rcases zu7.mp e with rfl|e
   ·exact⟨_,h⟩
   ·exact ILs.has r e
theorem ILs.getR:∀ {ls:List Addr} {R:List (List Int)} {i:Nat} {r:List Int},ILs H ls R->R[i]?=some r->∃ l,ls[i]?=some l/\H l=some (.lst (r.map V.int))
 | _,_,_,_,.nil,e=>by simp at e
 | _,_,0,_,.cons h _,e=>by simp at e;subst e;exact⟨_,rfl,h⟩
 | _,_,i+1,x,.cons _ r,e=>by
   obtain⟨t,h1,h2⟩:=ILs.getR (i:=i) (r:=x) r (by simpa using e);exact⟨t,by simpa using h1,h2⟩
structure Ql(rows:List (List Int))(nu:List Int):Prop where
 few:rows.length<=20
 crowd:nu.length<=30
 inj:nu.Nodup
 rng:∀ n∈nu,1<=n/\n<=999
 sub:∀ r∈rows,r.Nodup/\∀ n∈r,n∈nu
structure Yk(rows:List (List Int))(gs:#[b]):Prop where
 len:gs.length=rows.length
 one:∀ x∈gs,oneV x
 may:∀ (k:Nat) (n:Int),gs[k]?=#[e,n]->∃ r,rows[k]?=some r/\n∈r
 inj:∀ (j k:Nat) (n:Int),gs[j]?=#[e,n]->gs[k]?=#[e,n]->j=k
def Pt(rows:List (List Int))(gs:#[b])(p:Nat):Prop:=∃ S:Nat->Prop,S p/\∀ q,S q->q<rows.length/\∀ r,rows[q]?=some r->∀ n∈r,∃ q',q' < p/\gs[q']?=#[e,n]/\S q'
def Vv(rows:List (List Int))(gs:#[b]):Prop:=∀ p,gs[p]?=some .non->Pt rows gs p
inductive zfv(K:Frag)(vs:#[b])(H:Hp)(Q:VK)(_:XK):Prop where
 | mk(l:Addr)(ls:List Addr)(rows:List (List Int))(nu:List Int)(_:vs=[.ref l])(_:H l=some (.lst (ls.map V.ref)))(_:ILs H ls rows)(_:Ql rows nu)(_:∀ l' gs H',H' l'=#[a,.lst,gs]->Yk rows gs->Vv rows gs->Same H H'->H l'=none->Q (.ref l') H')
inductive Kl(K:Frag)(vs:#[b])(H:Hp)(Q:VK)(_:XK):Prop where
 | mk(l lg:Addr)(ls:List Addr)(rows:List (List Int))(gs:#[b])(_:vs=[.ref l,.ref lg])(_:H l=some (.lst (ls.map V.ref)))(_:ILs H ls rows)(_:rows.length<=100)(_:H lg=#[a,.lst,gs])(_:Yk rows gs)(_:∀ H',Same H H'->Q (.bl true) H')
theorem Dy{n:Int}{r:List Int}:inV (.int n) (r.map V.int)=decide (n∈r):=by
 induction r with
 | nil=>rfl
 | cons x r ih =>
   unfold inV at ih ⊢;rw[zvg,zw4,ih];have e:eqV (.int x) (.int n)=decide (n=x):=by
    show (x == n)=_;by_cases h:n=x
    ·subst h;simp
    ·rw[zvf h];exact zvs.mpr (Ne.symm h)
   rw[e];by_cases h:n=x
   ·subst h;simp
   ·by_cases h2:n∈r<;>simp[h,h2]
theorem zdp(r:List Int):(r.map V.int).all Rb=true:=by
 rw[List.all_map];exact zw8.mpr fun _ _=>rfl
theorem zfw{r:List Int}:∀ x∈r.map V.int,oneV x:=fun x hx=>by
 obtain⟨n,_,rfl⟩:=zvb.mp hx;exact .inr ⟨n,rfl⟩
end G
namespace G
open PySem PySem.Spec PyProof.Rows L2
def newS(st:#[i])(k:Nat):#[b]:=(st.filter fun s=>decide (s.1=k)).map fun s=>oV s.2
theorem Ex:∀ (st:List (Nat×Option Int)) (xs:List V) (k:Nat),(st.map (·.1)).Nodup->k<xs.length->(Yu st xs)[k]?=some ((newS st k++[xs.getD k .non]).getD 0 .non)
 | [],xs,k,_,hk=>by
   rw[Yu,zu3 hk];show _=some (xs.getD k .non);rw[zvu,zu3 hk];rfl
 | (p,w) :: r,xs,k,nd,hk=>by
   rw[zvg,zvt] at nd;rw[Yu,Ex r _ k nd.2 (by rw[zws];exact hk)];by_cases h:p=k
   ·subst h;have e:newS r p=[]:=by
     unfold newS;rw[List.map_eq_nil_iff,List.filter_eq_nil_iff];intro s hs z;exact nd.1 (zvb.mpr ⟨s,hs,of_decide_eq_true z⟩)
    have e2:newS ((p,w) :: r) p=oV w :: newS r p:=by
     unfold newS;rw[zwd,if_pos (zva rfl),zvg]
    rw[e2,e];show some ((xs.set p (oV w)).getD p .non)=#[a,oV,w];rw[zvu,zwc hk];rfl
   ·have e2:newS ((p,w) :: r) k=newS r k:=by
     unfold newS;rw[zwd,if_neg (by rw[zvf h];decide)]
    rw[e2];have e3:(xs.set p (oV w)).getD k .non=xs.getD k .non:=by
     rw[zvu,zvu,zv2 h]
    rw[e3]
section
variable{rows:List (List Int)}{gs:#[b]}
def adjN(rows:List (List Int))(gs:#[b])(q:Nat)(n:Int)(q':Nat):Prop:=(∃ r,rows[q]?=some r/\n∈r)/\gs[q']?=#[e,n]
def Oy(rows:List (List Int))(gs:#[b])(q:Nat)(n:Int):Prop:=(∃ r,rows[q]?=some r/\n∈r)/\∀ j:Nat,gs[j]?≠some (V.int n)
def Us(rows:List (List Int))(gs:#[b])(q:Nat):Prop:=∃ n,Oy rows gs q n
inductive Walk(rows:List (List Int))(gs:#[b])(p:Nat):Nat->Nat->Prop where
 | nil:Walk rows gs p p 0
 | snoc {q q' k:Nat} {n:Int} (h:Walk rows gs p q k) (a:adjN rows gs q n q'):Walk rows gs p q' (k+1)
theorem Walk.cons(a:adjN rows gs p n p')(h:Walk rows gs p' q k):Walk rows gs p q (k+1):=by
 induction h with
 | nil=>exact .snoc .nil a
 | snoc _ a' ih=>exact .snoc ih a'
inductive Ch(rows:List (List Int))(gs:#[b]):Nat->#[i]->Nat->Option Int->Prop where
 | one (q:Nat) (w:Option Int):Ch rows gs q [(q,w)] q w
 | step {q q' e:Nat} {n:Int} {st:#[i]} {w:Option Int} (a:adjN rows gs q n q') (h:Ch rows gs q' st e w):Ch rows gs q ((q,some n) :: st) e w
theorem Ch.pos{q e:Nat}{st:#[i]}{w:Option Int}(h:Ch rows gs q st e w):0<st.length:=by cases h<;>simp
theorem Ch.walk{q e:Nat}{st:#[i]}{w:Option Int}(h:Ch rows gs q st e w):Walk rows gs q e (st.length-1):=by
 induction h with
 | one q w=>exact .nil
 | step a h ih =>
   have:=h.pos;have e:=Walk.cons a ih;rw[zvp,Nat.add_sub_cancel];rw[Nat.sub_add_cancel this] at e;exact e
theorem Ch.drop{q e:Nat}{st:#[i]}{w:Option Int}(h:Ch rows gs q st e w):∀ x∈st.map (·.1),∃ st',Ch rows gs x st' e w/\st'.length<=st.length:=by
 induction h with
 | one q w=>intro x hx;simp at hx;subst hx;exact⟨_,.one _ _,zvd _⟩
 | @step q q' e n st w a h ih =>
   intro x hx;rw[zvg] at hx;rcases zu7.mp hx with z|z
   ·subst z;exact⟨_,.step a h,zvd _⟩
   ·obtain⟨st',h1,h2⟩:=ih x z;exact⟨st',h1,by rw[zvp];omega⟩
theorem Ch.hd{q e:Nat}{st:#[i]}{w:Option Int}(h:Ch rows gs q st e w):∃ x r,st=(q,x) :: r:=by cases h<;>exact⟨_,_,rfl⟩
theorem Ch.last{q e:Nat}{st:#[i]}{w:Option Int}(h:Ch rows gs q st e w):e∈st.map (·.1):=by
 induction h with
 | one q w=>simp
 | step a h ih=>rw[zvg];exact zvm _ ih
theorem Ch.nodup{q e:Nat}{st:#[i]}{w:Option Int}(h:Ch rows gs q st e w)(hm:∀ k,Walk rows gs q e k->st.length<=k+1):(st.map (·.1)).Nodup:=by
 induction h with
 | one q w=>simp
 | @step q q' e n st w a h ih =>
   rw[zvg,zvt];refine⟨fun hq=>?_,ih fun k hk=>?_⟩
   ·obtain⟨st',h1,h2⟩:=h.drop q hq;have:=hm _ h1.walk;have:=h1.pos;rw[zvp] at *;omega
   ·have:=hm _ (Walk.cons a hk);rw[zvp] at this;omega
theorem Ch.mem{q e:Nat}{st:#[i]}{w:Option Int}(h:Ch rows gs q st e w):∀ (k:Nat) (n:Int),(k,some n)∈st->(adjN rows gs k n k\/True)/\(((∃ r,rows[k]?=some r/\n∈r)/\∃ k',gs[k']?=some (V.int n)/\k'∈st.tail.map (·.1))\/(w=some n/\k=e)):=by
 induction h with
 | one q w =>
   intro k n hk;simp at hk;exact⟨.inr trivial,.inr ⟨hk.2.symm,hk.1⟩⟩
 | @step q q' e n' st w a h ih =>
   intro k n hk;refine⟨.inr trivial,?_⟩;rcases zu7.mp hk with z|z
   ·cases z;refine .inl ⟨a.1,q',a.2,?_⟩;obtain⟨x,r,e⟩:=h.hd;rw[e];simp
   ·rcases(ih k n z).2 with ⟨h1,k',h2,h3⟩|h1
    ·refine .inl ⟨h1,k',h2,?_⟩;show k'∈st.map (·.1);obtain⟨x,r,e⟩:=h.hd;rw[e] at h3 ⊢;exact zvm _ h3
    ·exact .inr h1
theorem Ch.inj{q e:Nat}{st:#[i]}{w:Option Int}(FP:Yk rows gs)(h:Ch rows gs q st e w)(hw:∀ n,w=some n->∀ j:Nat,gs[j]?≠#[a,V.int,n])(nd:(st.map (·.1)).Nodup):∀ (j k:Nat) (n:Int),(j,some n)∈st->(k,some n)∈st->j=k:=by
 induction h with
 | one q w=>intro j k n h1 h2;simp at h1 h2;rw[h1.1,h2.1]
 | @step q q' e n' st w a h ih =>
   intro j k n h1 h2;rw[zvg,zvt] at nd;have key:∀ k,(k,some n')∈st->False:=fun k hk=>by
    rcases(h.mem k n' hk).2 with ⟨_,k',h2,h3⟩|⟨h1,_⟩
    ·have e:k'=q':=FP.inj k' q' n' h2 a.2;subst e;obtain⟨x,r,e⟩:=h.hd;have nd2:=nd.2;rw[e] at nd2 h3;rw[zvg,zvt] at nd2;exact nd2.1 h3
    ·exact hw n' h1 q' a.2
   rcases zu7.mp h1 with z1|z1<;>rcases zu7.mp h2 with z2|z2
   ·cases z1;cases z2;rfl
   ·cases z1;exact(key k z2).elim
   ·cases z2;exact(key j z1).elim
   ·exact ih hw nd.2 j k n z1 z2
theorem zfx{st:#[i]}{k:Nat}(nd:(st.map (·.1)).Nodup):(k∉st.map (·.1)/\newS st k=[])\/∃ w,(k,w)∈st/\newS st k=[oV w]:=by
 induction st with
 | nil=>exact .inl ⟨by simp,rfl⟩
 | cons s r ih =>
   obtain⟨p,w⟩:=s;rw[zvg,zvt] at nd;by_cases h:p=k
   ·subst h;refine .inr ⟨w,zvy,?_⟩;rcases ih nd.2 with ⟨_,e⟩|⟨w',h1,_⟩
    ·have e2:newS ((p,w) :: r) p=oV w :: newS r p:=by
      unfold newS;rw[zwd,if_pos (zva rfl),zvg]
     rw[e2,e]
    ·exact absurd (zvb.mpr ⟨_,h1,rfl⟩) nd.1
   ·have e2:newS ((p,w) :: r) k=newS r k:=by
     unfold newS;rw[zwd,if_neg (by rw[zvf h];decide)]
    rw[e2];rcases ih nd.2 with ⟨h1,e⟩|⟨w',h1,e⟩
    ·exact .inl ⟨fun z=>by rcases zu7.mp z with q|q;exact h q.symm;exact h1 q,e⟩
    ·exact .inr ⟨w',zvm _ h1,e⟩
theorem Wt{st:#[i]}{xs:#[b]}{k:Nat}(nd:(st.map (·.1)).Nodup)(hk:k<xs.length):(k∉st.map (·.1)/\(Yu st xs)[k]?=xs[k]?)\/∃ w,(k,w)∈st/\(Yu st xs)[k]?=#[a,oV,w]:=by
 rw[Ex st xs k nd hk];rcases zfx (k:=k) nd with ⟨h,e⟩|⟨w,h,e⟩
 ·refine .inl ⟨h,?_⟩;rw[e];show some (xs.getD k .non)=_;rw[zvu,zu3 hk];rfl
 ·exact .inr ⟨w,h,by rw[e];rfl⟩
theorem Ch.lt{q e:Nat}{st:#[i]}{w:Option Int}(FP:Yk rows gs)(h:Ch rows gs q st e w)(hq:q<rows.length):∀ s∈st,s.1<rows.length:=by
 induction h with
 | one q w=>intro s hs;simp at hs;subst hs;exact hq
 | @step q q' e n st w a h ih =>
   intro s hs;rcases zu7.mp hs with z|z
   ·subst z;exact hq
   ·refine ih ?_ s z;have:=(zu4.mp a.2).1;rw[FP.len] at this;exact this
theorem Ch.fill{q e:Nat}{st:#[i]}{w:Option Int}(FP:Yk rows gs)(h:Ch rows gs q st e w)(hq:q<rows.length)(hw:∀ n,w=some n->Oy rows gs e n)(nd:(st.map (·.1)).Nodup):Yk rows (Yu st gs):=by
 have hlt:=h.lt FP hq;have hinj:=h.inj FP (fun n hn=>(hw n hn).2) nd;have src:∀ (k:Nat) (n:Int),(k,some n)∈st->(∃ r,rows[k]?=some r/\n∈r)/\∀ j:Nat,gs[j]?=#[a,V.int,n]->j∈st.map (·.1):=fun k n hk=>by
  rcases(h.mem k n hk).2 with ⟨h1,k',h2,h3⟩|⟨h1,rfl⟩
  ·refine⟨h1,fun j hj=>?_⟩;rw[FP.inj j k' n hj h2];obtain⟨x,r,e⟩:=h.hd;rw[e] at h3 ⊢;exact zvm _ h3
  ·exact⟨(hw n h1).1,fun j hj=>absurd hj ((hw n h1).2 j)⟩
 have cs:∀ k,k<gs.length->(k∉st.map (·.1)/\(Yu st gs)[k]?=gs[k]?)\/∃ w,(k,w)∈st/\(Yu st gs)[k]?=#[a,oV,w]:=fun k hk=>Wt nd hk;have at_:∀ (k:Nat) (n:Int),(Yu st gs)[k]?=#[a,V.int,n]->(k∉st.map (·.1)/\gs[k]?=#[a,V.int,n])\/(k,some n)∈st:=fun k n hk=>by
  have hkl:k<gs.length:=by
   have:=(zu4.mp hk).1;rw[Wf] at this;exact this
  rcases cs k hkl with ⟨h1,e⟩|⟨w',h1,e⟩
  ·exact .inl ⟨h1,by rw[<- e];exact hk⟩
  ·rw[e] at hk;cases w' with
   | none=>cases hk
   | some m=>cases hk;exact .inr h1
 refine⟨by rw[Wf];exact FP.len,fun x hx=>?_,fun k n hk=>?_,fun j k n hj hk=>?_⟩
 ·obtain⟨k,hk,rfl⟩:=zwe hx;have hkl:k<gs.length:=by rw[Wf] at hk;exact hk
  have e0:=zu3 hk;rcases cs k hkl with ⟨_,e⟩|⟨w',_,e⟩
  ·rw[e,zu3 hkl] at e0;rw[<- Option.some.inj e0];exact FP.one _ (zvx hkl)
  ·rw[e] at e0;rw[<- Option.some.inj e0];exact zjp w'
 ·rcases at_ k n hk with ⟨_,h1⟩|h1
  ·exact FP.may k n h1
  ·exact(src k n h1).1
 ·rcases at_ j n hj with ⟨a1,a2⟩|a1<;>rcases at_ k n hk with ⟨b1,b2⟩|b1
  ·exact FP.inj j k n a2 b2
  ·exact absurd ((src k n b1).2 j a2) a1
  ·exact absurd ((src j n a1).2 k b2) b1
  ·exact hinj j k n a1 b1
theorem Ch.out{p0 q e:Nat}{n0:Int}{w:Option Int}{st:#[i]}{S:Nat->Prop}(FP:Yk rows gs)(hS:∀ q,S q->q<rows.length/\∀ r,rows[q]?=some r->∀ n∈r,∃ q',q' < p0/\gs[q']?=#[e,n]/\S q')(h:Ch rows gs q st e w):w=some n0->Oy rows gs e n0->¬ S q:=by
 induction h with
 | one q w =>
   intro hw hf hs;obtain⟨r,h1,h2⟩:=hf.1;obtain⟨q',_,h3,_⟩:=(hS _ hs).2 r h1 n0 h2;exact hf.2 q' h3
 | @step q q' e n st w a h ih =>
   intro hw hf hs;obtain⟨r,h1,h2⟩:=a.1;obtain⟨q'',_,h3,h4⟩:=(hS q hs).2 r h1 n h2;have:q''=q':=FP.inj q'' q' n h3 a.2;subst this;exact ih hw hf h4
theorem Pt.behind{p0 q e:Nat}{n0:Int}{st:#[i]}(FP:Yk rows gs)(S0:Pt rows gs p0)(h:Ch rows gs q st e (some n0))(hf:Oy rows gs e n0)(hq:q<rows.length)(nd:(st.map (·.1)).Nodup):Pt rows (Yu st gs) p0:=by
 obtain⟨S,hp,hS⟩:=S0;have outAll:∀ x∈st.map (·.1),¬ S x:=fun x hx=>by
  obtain⟨st',h1,_⟩:=h.drop x hx;exact h1.out FP hS rfl hf
 refine⟨S,hp,fun q1 h1=>⟨(hS q1 h1).1,fun r hr n hn=>?_⟩⟩;obtain⟨q',h2,h3,h4⟩:=(hS q1 h1).2 r hr n hn;refine⟨q',h2,?_,h4⟩;have hkl:q' < gs.length:=(zu4.mp h3).1;rcases Wt nd hkl with ⟨_,e⟩|⟨w,h5,_⟩
 ·rw[e];exact h3
 ·exact absurd h4 (outAll q' (zvb.mpr ⟨_,h5,rfl⟩))
structure Xo(rows:List (List Int))(gs:#[b])(p:Nat)(st:#[i])(e:Nat)(w:Option Int):Prop where
 ch:Ch rows gs p st e w
 free:∀ n,w=some n->Oy rows gs e n/\∀ q k,Walk rows gs p q k->Us rows gs q->st.length<=k+1
 none:w=none->(∀ q k,Walk rows gs p q k->¬ Us rows gs q)/\(∀ q k,Walk rows gs p q k->q<=e)/\∀ k,Walk rows gs p e k->st.length<=k+1
theorem Xo.nodup{p e:Nat}{st:#[i]}{w:Option Int}(c:Xo rows gs p st e w):(st.map (·.1)).Nodup:=by
 refine c.ch.nodup fun k hk=>?_;cases h:w with
 | none=>exact(c.none h).2.2 k hk
 | some n=>exact(c.free n h).2 e k hk ⟨n,(c.free n h).1⟩
theorem Xo.fill{p e:Nat}{st:#[i]}{w:Option Int}(FP:Yk rows gs)(c:Xo rows gs p st e w)(hp:p<rows.length):Yk rows (Yu st gs):=c.ch.fill FP hp (fun n hn=>(c.free n hn).1) c.nodup
theorem zfy(FP:Yk rows gs)(hp:p<rows.length)(ha:∀ q n,gs[q]?=#[a,V.int,n]->q<p)(hn:∀ q k,Walk rows gs p q k->¬ Us rows gs q):Pt rows gs p:=by
 refine⟨fun q=>∃ k,Walk rows gs p q k,⟨0,.nil⟩,fun q ⟨k,hk⟩=>⟨?_,fun r hr n hnr=>?_⟩⟩
 ·cases hk with
  | nil=>exact hp
  | snoc _ a =>
    have:=(zu4.mp a.2).1;rw[FP.len] at this;exact this
 ·by_cases hx:∃ j:Nat,gs[j]?=some (V.int n)
  ·obtain⟨j,hj⟩:=hx;exact⟨j,ha j n hj,hj,k+1,.snoc hk ⟨⟨r,hr,hnr⟩,hj⟩⟩
  ·exact absurd ⟨n,⟨r,hr,hnr⟩,fun j hj=>hx ⟨j,hj⟩⟩ (hn q k hk)
end
section
variable{rows:List (List Int)}{gs:#[b]}{p:Nat}
structure Bfs(rows:List (List Int))(gs:#[b])(p:Nat)(line:List Nat)(dep:Nat->Nat):Prop where
 nodup:line.Nodup
 memp:p∈line
 d0:dep p=0
 walk:∀ q∈line,Walk rows gs p q (dep q)
 sorted:∀ (i j q q':Nat),i<=j->line[i]?=some q->line[j]?=some q'->dep q<=dep q'
def Done(rows:List (List Int))(gs:#[b])(line:List Nat)(dep:Nat->Nat)(dn:Nat):Prop:=∀ (i q:Nat),i<dn->line[i]?=some q->∀ n q',adjN rows gs q n q'->q'∈line/\dep q'<=dep q+1
theorem zdq(rows:List (List Int))(gs:#[b])(p:Nat):Bfs rows gs p [p] fun _=>0:=by
 refine⟨by simp,by simp,rfl,fun q hq=>?_,fun i j q q' _ _ _=>zvd _⟩;simp at hq;subst hq;exact .nil
variable{line:List Nat}{dep:Nat->Nat}{dn:Nat}
theorem Bfs.reach(B:Bfs rows gs p line dep)(D:Done rows gs line dep dn)(h:Walk rows gs p q k):(q∈line/\dep q<=k)\/∃ j q',dn<=j/\line[j]?=some q'/\dep q' < k:=by
 induction h with
 | nil=>exact .inl ⟨B.memp,by rw[B.d0];exact zvd _⟩
 | @snoc q q' k n h a ih =>
   rcases ih with ⟨h1,h2⟩|⟨j,x,h1,h2,h3⟩
   ·obtain⟨i,hi,e⟩:=zwe h1;have e':line[i]?=some q:=by rw[zu3 hi,e]
    by_cases hd:i<dn
    ·obtain⟨a1,a2⟩:=D i q hd e' n q' a;exact .inl ⟨a1,by omega⟩
    ·exact .inr ⟨i,q,by omega,e',by omega⟩
   ·exact .inr ⟨j,x,h1,h2,by omega⟩
theorem Bfs.full(B:Bfs rows gs p line dep)(D:Done rows gs line dep line.length)(h:Walk rows gs p q k):q∈line/\dep q<=k:=by
 rcases B.reach D h with z|⟨j,x,h1,h2,_⟩
 ·exact z
 ·have:=(zu4.mp h2).1;omega
theorem Bfs.early(B:Bfs rows gs p line dep)(D:Done rows gs line dep dn)(hh:line[dn]?=some here)(h:Walk rows gs p q k)(hk:k<dep here):∃ i,i<dn/\line[i]?=some q:=by
 rcases B.reach D h with ⟨h1,h2⟩|⟨j,x,h1,h2,h3⟩
 ·obtain⟨i,hi,e⟩:=zwe h1;have e':line[i]?=some q:=by rw[zu3 hi,e]
  refine⟨i,?_,e'⟩;by_cases hd:i<dn
  ·exact hd
  ·have:=B.sorted dn i here q ⋯ hh e';omega
 ·have:=B.sorted dn j here x h1 hh h2;omega
theorem Bfs.fewest(B:Bfs rows gs p line dep)(D:Done rows gs line dep dn)(hh:line[dn]?=some here)(hno:∀ (i q:Nat),i<dn->line[i]?=some q->¬ Us rows gs q)(h:Walk rows gs p q k)(hf:Us rows gs q):dep here+1<=k+1:=by
 by_cases hk:k<dep here
 ·obtain⟨i,hi,e⟩:=B.early D hh h hk;exact absurd hf (hno i q hi e)
 ·omega
def Vw(dep:Nat->Nat)(q d:Nat):Nat->Nat:=fun x=>if x=q then d else dep x
theorem Bfs.app(B:Bfs rows gs p line dep)(hh:line[dn]?=some here)(near:∀ x∈line,dep x<=dep here+1)(a:adjN rows gs here n q')(hn:q'∉line) :
  Bfs rows gs p (line++[q']) (Vw dep q' (dep here+1))/\(∀ x∈line,Vw dep q' (dep here+1) x=dep x)/\∀ x∈line++[q'],Vw dep q' (dep here+1) x<=dep here+1:=by
 have old:∀ x∈line,Vw dep q' (dep here+1) x=dep x:=fun x hx=>by
  unfold Vw;rw[if_neg fun (z:x=q')=>hn (by rw[<- z];exact hx)]
 have new:Vw dep q' (dep here+1) q'=dep here+1:=by unfold Vw;rw[if_pos rfl]
 have hhm:=zvc hh;have all:∀ x∈line++[q'],Vw dep q' (dep here+1) x<=dep here+1:=fun x hx=>by
  rcases zve.mp hx with z|z
  ·rw[old x z];exact near x z
  ·rw[zu6.mp z,new];exact zvd _
 refine⟨⟨Ds B.nodup hn,zvq _ B.memp,by rw[old p B.memp];exact B.d0,fun q hq=>?_,fun i j x y hij hx hy=>?_⟩,old,all⟩
 ·rcases zve.mp hq with z|z
  ·rw[old q z];exact B.walk q z
  ·rw[zu6.mp z,new];exact .snoc (B.walk here hhm) a
 ·by_cases hj:j<line.length
  ·rw[zwa hj] at hy;rw[zwa ⋯] at hx;rw[old x (zvc hx),old y (zvc hy)];exact B.sorted i j x y hij hx hy
  ·rw[zv5 ⋯] at hy;have:y=q':=by
    cases e:j-line.length with
    | zero=>rw[e] at hy;simpa using hy.symm
    | succ m=>rw[e] at hy;simp at hy
   subst this;rw[new];exact all x (zvc hx)
theorem Done.app(D:Done rows gs line dep dn)(hd:dn<=line.length)(hl:∃ r,line'=line++r)(he:∀ x∈line,dep' x=dep x):Done rows gs line' dep' dn:=fun i q hi e n q' a=>by
 obtain⟨r,rfl⟩:=hl;rw[zwa ⋯] at e;obtain⟨h1,h2⟩:=D i q hi e n q' a;exact⟨zvq _ h1,by rw[he q' h1,he q (zvc e)];exact h2⟩
def Tf(rows:List (List Int))(gs:#[b])(p:Nat)(line:List Nat)(dep:Nat->Nat)(fr:Nat->Option (Nat×Int)):Prop:=fr p=none/\∀ q∈line,q≠p->∃ par n,fr q=some (par,n)/\par∈line/\adjN rows gs par n q/\dep q=dep par+1
theorem Tf.back(d0:dep p=0)(F:Tf rows gs p line dep fr):∀ (d q e:Nat) (w:Option Int) (st:List (Nat×Option Int)),dep q=d->q∈line->Ch rows gs q st e w->∃ pre,Ch rows gs p (pre++st) e w/\pre.length=d:=fun d=>by
 induction d with
 | zero =>
   intro q e w st hd hq h;by_cases hp:q=p
   ·subst hp;exact⟨[],h,rfl⟩
   ·obtain⟨par,n,_,_,_,h4⟩:=F.2 q hq hp;omega
 | succ d ih =>
   intro q e w st hd hq h;by_cases hp:q=p
   ·subst hp;rw[d0] at hd;cases hd
   ·obtain⟨par,n,h1,h2,h3,h4⟩:=F.2 q hq hp;obtain⟨pre,h5,h6⟩:=ih par e w _ ⋯ h2 (.step h3 h);exact⟨pre++[(par,some n)],by rw[zwy];exact h5,by rw[zu5,h6];rfl⟩
theorem zaz{here:Nat}{n:Int}{st:#[i]}(B:Bfs rows gs p line dep)(D:Done rows gs line dep dn)(hh:line[dn]?=some here)(hno:∀ (i q:Nat),i<dn->line[i]?=some q->¬ Us rows gs q)(hf:Oy rows gs here n)(c:Ch rows gs p st here (some n))(hl:st.length=dep here+1):Xo rows gs p st here (some n) :=
 ⟨c,fun m e=>by cases e;exact⟨hf,fun q k hk hq=>by rw[hl];exact B.fewest D hh hno hk hq⟩,(fun z=>nomatch z)⟩
theorem za0{e:Nat}{st:#[i]}(B:Bfs rows gs p line dep)(D:Done rows gs line dep line.length)(hno:∀ q∈line,¬ Us rows gs q)(he:∀ q∈line,q<=e)(c:Ch rows gs p st e none)(hl:st.length=dep e+1):Xo rows gs p st e none :=
 ⟨c,(fun m z=>nomatch z),fun _=>⟨fun q k hk=>hno q (B.full D hk).1,fun q k hk=>he q (B.full D hk).1,fun k hk=>by rw[hl];have:=(B.full D hk).2;omega⟩⟩
end
end G
namespace L2
open PySem PySem.Spec PyProof.Rows
inductive zjr(x:V)(vs:#[b])(H:Hp)(Q:VK):Prop where
 | mk(l:Addr)(xs:#[b])(y:V)(j:Nat)(_:x=.ref l)(_:vs=[y])(_:H l=#[a,.lst,xs])(_:Rb y=true)(_:xs.all Rb=true)(_:(∃ z,xs[j]?=some z/\eqV z y=true))(_:(∀ m z,m<j->xs[m]?=some z->eqV z y=false))(_:Q (.int (j:Nat)) H)
theorem zfz:MtM X "list.index" zjr:=by
 intro pins s σ H x vs v us Q I rx rv h;obtain⟨l,xs,y,j,rfl,rfl,hH,fy,fs,⟨zj,hzj,hej⟩,hno,q⟩:=h;cases rx;obtain⟨u,rfl,ru⟩:=rv.one;obtain⟨z,its,n,r,hl,e⟩:=I.lstM hH;have hjx:j<xs.length:=(zu4.mp hzj).1;have hj:j<its.toArray.size:=by rw[zvi];omega
 have hline:=Ot;have ev:∀ (m:Nat) (hm:m<its.toArray.size) (w:V),xs[m]?=some w->eqU y (its.toArray[m]'hm)=eqV w y:=fun m hm w hw=>by
  obtain⟨uu,hu,ruu⟩:=r.get hw;have:its.toArray[m]'hm=uu:=by
   have h1:its[m]?=some (its.toArray[m]'hm):=by simp
   rw[h1] at hu;exact Option.some.inj hu
  rw[this];refine zaq ruu ?_;exact zw8.mp fs w (zvc hw)
 refine call_meets PySem.F.slot_list_index ⟨_,e,rfl⟩ PySem.F.entry_list_index (PySem.F.args_list_index_2 _ _) (SeqAt.list_indexAt l its.toArray n none #[] u (eqU y) j hj ⋯ (by rw[ev j hj zj hzj];exact hej) fun m hm hmj=>?_) ⟨e,fun w hw=>Rc ru fy r fs w (by simpa using hw),?_⟩
 ·have hmx:m<xs.length:=by rw[zvi] at hm;omega
  have hw:xs[m]?=some (xs[m]'hmx):=zu3 hmx;rw[ev m hm _ hw];exact hno m _ hmj hw
 ·exact⟨.int (j:Nat),H,I.tok _,⟨_,rfl⟩,q⟩
end L2
namespace G
open PySem PySem.Spec PyProof.Rows L2
theorem zla{H:Hp}{ts:#[b]}{st:#[i]}{i:Nat}{s:Nat×Option Int}(h:Z9 H ts (st.map Vn))(e:st[i]?=some s):∃ t,ts[i]?=#[c,t]/\H t=some (.tup (Vn s)):=by
 have e':(st.map Vn)[i]?=#[a,Vn,s]:=by rw[zu8,e];rfl
 exact h.getR e'
theorem Jx(ho:oneV z):eqV z (.int n)=true↔z=.int n:=by
 rcases ho with rfl|⟨i,rfl⟩
 ·constructor
  ·intro h;cases h
  ·intro h;cases h
 ·show (i == n)=true↔_;constructor
  ·intro h;rw[beq_iff_eq.mp h]
  ·intro h;cases h;simp
theorem zf0(ho:∀ x∈gs,oneV x):inV (.int n) gs=true↔∃ j:Nat,gs[j]?=some (V.int n):=by
 unfold inV;rw[List.any_eq_true];constructor
 ·rintro⟨z,hz,e⟩;obtain⟨j,hj,rfl⟩:=zwe hz;exact⟨j,by rw[zu3 hj,(Jx (ho _ hz)).mp e]⟩
 ·rintro⟨j,hj⟩;have:=zvc hj;exact⟨_,this,(Jx (ho _ this)).mpr rfl⟩
theorem zhn(r:List Int):PyData.canLayAll0 (Wd (r.map Dt.int))=true/\PyData.depthAll (Wd (r.map Dt.int))<=1:=by
 induction r with
 | nil=>exact⟨rfl,by decide⟩
 | cons x r ih =>
   obtain⟨h1,h2⟩:=ih;refine⟨by rw[zvg,Wd,PyData.canLayAll0,h1];rfl,?_⟩;rw[zvg,Wd,PyData.depthAll];have:PyData.depth (toPy (Dt.int x))<=1:=by simp[toPy,PyData.depth]
   omega
theorem Dz(r:List Int):shD (.lst (r.map Dt.int)):=by
 obtain⟨a1,a2⟩:=zhn r;unfold shD SeqAt.shaped;rw[toPy,PyData.canLay0,a1,Bool.true_and];refine zva ?_;rw[PyData.depth];omega
theorem D1:shD (.lst []):=Dz []
theorem D2(f:α->Dt)(xs:List α):eqD (.lst (xs.map f)) (.lst [])=xs.isEmpty:=by
 cases xs with
 | nil=>simp[eqD,P6]
 | cons x xs=>simp[eqD,P6]
structure zl4(rows:List (List Int))(gs:#[b])(i:Nat):Prop where
 len:gs.length=i
 one:∀ x∈gs,oneV x
 may:∀ (k:Nat) (n:Int),gs[k]?=#[e,n]->∃ r,rows[k]?=some r/\n∈r
 inj:∀ (j k:Nat) (n:Int),gs[j]?=#[e,n]->gs[k]?=#[e,n]->j=k
theorem Yk.drop(F:Yk rows gs)(p:Nat):Yk rows (gs.set p .non):=by
 have cs:∀ (k:Nat) (n:Int),(gs.set p .non)[k]?=#[e,n]->k≠p/\gs[k]?=#[e,n]:=fun k n h=>by
  by_cases e:k=p
  ·subst e;by_cases hk:k<gs.length
   ·rw[zwc hk] at h;cases h
   ·rw[List.getElem?_eq_none (by rw[zws];omega)] at h;cases h
  ·rw[zv2 (Ne.symm e)] at h;exact⟨e,h⟩
 refine⟨by rw[zws];exact F.len,fun x hx=>?_,fun k n h=>F.may k n (cs k n h).2,fun j k n h1 h2=>F.inj j k n (cs j n h1).2 (cs k n h2).2⟩;rcases List.mem_or_eq_of_mem_set hx with z|z
 ·exact F.one x z
 ·exact .inl z
theorem Yk.without(F:Yk rows gs)(hx:gs[p]?=some x)(f:Int->Bool)(hf:∀ n,f n=false->x=.int n):Yk (rows.map fun r=>r.filter f) (gs.set p .non):=by
 have D:=F.drop p;refine⟨by rw[zu2];exact D.len,D.one,fun k n h=>?_,D.inj⟩;obtain⟨r,h1,h2⟩:=D.may k n h;refine⟨r.filter f,by rw[zu8,h1];rfl,zv3.mpr ⟨h2,?_⟩⟩;cases e:f n with
 | true=>rfl
 | false =>
   have hx':=hf n e;subst hx';have hk:k≠p:=fun z=>by
    subst z;rw[zwc (zu4.mp hx).1] at h;cases h
   rw[zv2 (Ne.symm hk)] at h;exact absurd (F.inj k p n h hx) hk
theorem N4(J:L2.St->Hp->Prop)(hc:Gr c σ H b)(h1:b=true->∀ H1,Same H H1->∀ N:L2.St->Hp->Prop,(∀ σ' H',J σ' H'->N σ' H')->t { D with nx:=N } σ H1)
  (h2:b=false->∀ H1,Same H H1->∀ N:L2.St->Hp->Prop,(∀ σ' H',J σ' H'->N σ' H')->e { D with nx:=N } σ H1) (h3:∀ σ' H',J σ' H'->u D σ' H'):tSeq (Cz c t e) u D σ H:=by
 refine hc _ fun H1 s1=>?_;cases b with
 | true=>rw[if_pos rfl];exact h1 rfl H1 s1 _ h3
 | false=>rw[if_neg ⋯];exact h2 rfl H1 s1 _ h3
theorem Br(h1:Gr t σ H b)(h:∀ H1,Same H H1->if b=true then A D σ H1 else B D σ H1):Cz t A B D σ H:=h1 _ fun H1 s1=>h H1 s1
def W0(xs:List Nat):#[b]:=xs.map fun k=>V.int (k:Nat)
theorem zce{K:Frag}{H:Hp}:∀ (r:List Nat),Wc K H (W0 r) ((r.map fun (k:Nat)=>((k:Nat):Int)).map Dt.int)
 | []=>.nil
 | x :: r=>.cons (.int _) (zce r)
end G
namespace G
open PySem PySem.Spec PyProof.Rows L2
inductive D3(K:Frag)(vs:#[b])(H:Hp)(Q:VK)(_:XK):Prop where
 | mk(l lg:Addr)(ls:List Addr)(rows:List (List Int))(nu:List Int)(gs:#[b])(p:Nat)(_:vs=[.ref l,.ref lg,.int p])(_:H l=some (.lst (ls.map V.ref)))(_:ILs H ls rows)(_:Ql rows nu)(_:H lg=#[a,.lst,gs])(_:Yk rows gs)(_:p<rows.length)(_:gs[p]?=some .non)(_:∀ lt ts st e w H',H' lt=#[a,.lst,ts]->Z9 H' ts (st.map Vn)->Xo rows gs p st e w->Same H H'->H lt=none->Q (.ref lt) H')
theorem Xo.len{rows:List (List Int)}{gs:#[b]}{p e:Nat}{st:#[i]}{w:Option Int}(FP:Yk rows gs)(hp:p<rows.length)(c:Xo rows gs p st e w):st.length<=rows.length:=by
 have hlt:=c.ch.lt FP hp;have:=c.nodup.length_le_of_subset (l₂:=List.range rows.length) fun x hx=>by
  obtain⟨s,hs,rfl⟩:=zvb.mp hx;exact zv9.mpr (hlt s hs)
 rw[zu2,zv4] at this;exact this
end G
namespace L2
open PySem PySem.Spec PyProof.Rows
section
variable{X:Cx}{pins:#[h]}{σ:List (Option V)}{H H':Hp}{s:Shared}{h':Heap}
theorem Inv.turnedL{t':Nat}{fp:List Addr}(I:#[d])(hf:∀ b∈fp,FpOk X pins H b)(k:∀ b o,b∉fp->s.heap.get? b=some o->h'.get? b=some o):Inv X pins σ H { s with heap:=h',toks:=t' }:=by
 have nit:∀ b u,H b=some u->b∉fp:=fun b u e z=>by rw[(hf b z).1] at e;cases e
 refine I.step (g':=s.gens) (d':=s.drawn) (ch:=fp) (fun b hb=>?_) (fun b o _ _ hc e _=>k b o hc e) (fun b o _ _ hc e _=>⟨o.slots,k b o hc e⟩) (fun _ _ _ _ n=>n)
  (fun b o hc e=>⟨o,k b o hc e⟩) (fun _ _ e=>e) (fun _ _ _ e=>e) (fun b ps e=>⟨#[],by rw[e];simp⟩) (fun m hm=>?_) (fun b u e=>?_) I.bare
 ·obtain⟨f0,f1,f2,f3,f4,f5⟩:=hf b hb;exact⟨f3,f1,f4,f5⟩
 ·obtain⟨o,es,ep,ho,r⟩:=hm;exact⟨o,es,ep,k _ o (fun z=>(hf _ z).2.1 rfl) ho,r⟩
 ·refine(I.hok b u e).stay (fun c v hc q=>k c v ?_ q) (fun _ q=>q) fun _ _ q=>q;rcases hc with z|z
  ·rw[z];exact nit b u e
  ·exact nit c _ z
theorem Inv.turnLay{t':Nat}{fp:List Addr}{a:Addr}{o:HO}(I:#[d])(hf:∀ b∈fp,FpOk X pins H b)(k:∀ b o,b∉fp->s.heap.get? b=some o->h'.get? b=some o)(hp:s.heap.objs.size<=a)(new:Y8 X.prog X.w (upd H a o) h' a o):Inv X pins σ (upd H a o) { s with heap:=h',toks:=t' }:=by
 have nit:∀ b u,H b=some u->b∉fp:=fun b u e z=>by rw[(hf b z).1] at e;cases e
 have hn:H a=none:=I.hok.fresh hp;have ne:∀ b u,s.heap.get? b=some u->b≠a:=fun b u e=>zvv (zvn (Heap.lt_size e) hp);refine I.step (g':=s.gens) (d':=s.drawn) (ch:=fp) (fun b hb=>?_) (fun b o _ _ hc e _=>k b o hc e) (fun b o _ _ hc e _=>⟨o.slots,k b o hc e⟩) (fun b u _ e n=>by rw[Zi (ne b u e)];exact n)
  (fun b o hc e=>⟨o,k b o hc e⟩) (fun b _ e=>by rw[Zi (Zh e hn)];exact e) (fun b _ _ e=>by rw[Zi (Zh e hn)];exact e) (fun b ps e=>⟨#[],by rw[Zi (Zh e hn),e];simp⟩) (fun m hm=>?_) (fun b u e=>?_) I.bare
 ·obtain⟨f0,f1,f2,f3,f4,f5⟩:=hf b hb;exact⟨f3,f1,f4,f5⟩
 ·obtain⟨o,es,ep,ho,r⟩:=hm;exact⟨o,es,ep,k _ o (fun z=>(hf _ z).2.1 rfl) ho,r⟩
 ·by_cases hb:b=a
  ·subst hb;rw[Zd] at e;cases e;exact new
  ·rw[Zi hb] at e;refine(I.hok b u e).stay (fun c v hc q=>k c v ?_ q) (fun c q=>by rw[Zi (Zh q hn)];exact q) fun c _ q=>by rw[Zi (Zh q hn)];exact q
   rcases hc with z|z
   ·rw[z];exact nit b u e
   ·exact nit c _ z
end
def Ite(K:Frag)(a:Addr):It :=
 ⟨fun i H=>∃ xs x,SqL K H a xs/\xs[i]?=some x,fun i H x H'=>∃ p y,H p=none/\(∀ xs,SqL K H a xs->xs[i]?=some y)/\x=.ref p/\H'=upd H p (.tup [.int (i:Nat),y]),fun i H=>∃ xs,SqL K H a xs/\xs.length<=i⟩
theorem zdr{P:Program}{w:World}{K:Frag}{elts:List Expr}{k:Nat}{tp:Pos}(a e it:Addr)(hne:e≠it):C2 P w K (.Tuple elts k tp) (Ite K a) [e,it] e (fun i h=>(∃ old,IsEnum h e it (i:Nat) old)/\h.IsListIter it a i) where
 mem:=by simp
 obj:=fun i h st b hb=>by
  obtain⟨⟨old,h1⟩,h2⟩:=st;have e:b=e\/b=it:=by simpa using hb
  rcases e with rfl|rfl
  ·exact⟨_,h1,fun v z=>by cases z⟩
  ·obtain⟨o,e,c,d⟩:=h2;exact⟨o,e,fun v z=>by rw[d] at z;cases z⟩
 keep:=fun i h h' st k=>⟨let ⟨old,h1⟩:=st.1;⟨old,k e (by simp) _ h1⟩,st.2.at fun o q=>k it (by simp) o q⟩
 item:=by
  intro X hP hw hK hc i pins s σ H E I hf st hg;subst hP hw hK;obtain⟨xs,x,hq,hx⟩:=hg;obtain⟨its,rv,p,hz⟩:=I.list hq;obtain⟨u,hu,ru⟩:=rv.get hx;obtain⟨⟨old,h1⟩,h2⟩:=st;refine wpAny_pyNext_enum_item h1 h2 p.isList (x:=u) (by simpa using hu) hne fun h' o1 o2 o3 o4 o5=>?_;refine⟨_,rfl,wpAny_letOwnedTupleGo_enum o1 fun h'' e1 sb=>?_⟩;have hes:e≠s.heap.objs.size:=fun z=>by
   exact zwu _ (z▸Heap.lt_size h1)
  have kk:∀ b o,b∉[e,it]->s.heap.get? b=some o->h''.get? b=some o:=fun b o hb q=>by
   have hb':b≠e/\b≠it:=by simpa using hb
   exact(sb.2 b hb'.1).trans (o5 b o hb'.1 hb'.2 q)
  have new:h''.get? s.heap.objs.size=some { cls:=Value.type "tuple",data:=Data.seq #[Value.int (i:Nat) s.toks,u] }:=(sb.2 _ (Ne.symm hes)).trans o3;have line:=Ot;refine⟨.ref s.heap.objs.size,_,I.turnLay (t':=s.toks+1) (o:=.tup [.int (i:Nat),x]) hf kk (zvd _) ⟨?_,_,.cons ⟨s.toks,rfl⟩ (.cons ru .nil),⟨_,new,rfl,_,rfl⟩⟩,rfl,⟨_,x,I.hok.fresh (zvd _),fun ys hy=>by rw[I.list_inj hy hq];exact hx,rfl,rfl⟩,⟨⟨u,e1⟩,o2.at fun o q=>(sb.2 it (Ne.symm hne)).trans q⟩,fun b hb=>?_⟩
  ·show 2<=sizeLine;rw[sizeLine_eq];decide
  ·have hb':b=e\/b=it:=by simpa using hb
   have hlt:b<s.heap.objs.size:=by
    rcases hb' with rfl|rfl
    ·exact Heap.lt_size h1
    ·obtain⟨o,q,_⟩:=h2;exact Heap.lt_size q
   rw[Zi (zvv hlt)];exact(hf b hb).1
 done:=by
  intro X hP hw hK hc i pins s σ H E I hf st hg;subst hP hw hK;obtain⟨xs,hq,hx⟩:=hg;obtain⟨its,rv,p,hz⟩:=I.list hq;obtain⟨⟨old,h1⟩,h2⟩:=st;have hl:=rv.length;exact wpAny_pyNext_enum_end (I.ok.hd hc) h1 h2 p.isList (by simp;omega) fun h' eb=>⟨rfl,I.turnedL (t':=s.toks) hf fun b o hb q=>eb b o (fun z=>hb (by simp[z])) q⟩
 self:=fun _ _ _ _ _ st h=>by
  obtain⟨⟨old,h1⟩,h2⟩:=st;exact wpAny_pyIter_enum h1 h
inductive zjs(K:Frag)(R:It->Hp->Prop)(vs:#[b])(H1:Hp):Prop where
 | mk(a)(_:vs=[.ref a])(_:(∃ xs,SqL K H1 a xs))(_:R (Ite K a) H1)
def zlb(K:Frag)(ta:TA):TI:=fun σ H R=>ta σ H fun vs H1=>zjs K R vs H1
theorem zcf{X:Cx}{K:Frag}{elts:List Expr}{k:Nat}{tp:Pos}{a:Expr}{ta:TA}{p pos:Pos}(hK:X.K=K)(hg:Gl X "enumerate")(hm:X.mg "enumerate"=none)(ha:PA X [a] ta)(hs:starEach [a] X.env=[(false,eval a X.env)]:=by rfl):PI X (.Tuple elts k tp) (.Call (.Name "enumerate" p) [a] [] pos) (zlb K ta):=by
 subst hK;intro pins s σ H R I h;refine Call_ (Ol I hg hm boot_enumerate (PyProof.Rows.callWith_type1 (thn (ha pos pins s σ H _ I h) fun us s1 ⟨vs,H1,I1,r1,q1⟩=>?_) hs rfl));obtain⟨a,e,⟨xs,hq⟩,q⟩:=q1;subst e;obtain⟨u,rfl,ru⟩:=Qi r1;cases ru;obtain⟨its,rv,pl,hz⟩:=I1.list hq;refine call_enumerate_list pl.isList fun h' e1 e2 e3 e4=>?_;refine wpAny_pyIter_enum e1 ?_;refine⟨_,[s1.heap.objs.size+1,s1.heap.objs.size],_,_,H1,rfl,I1.kept (t':=s1.toks) e4,zdr a _ _ (Nat.succ_ne_self _),⟨⟨_,e1⟩,e2⟩,fun b hb=>?_,q⟩;have e:b=s1.heap.objs.size+1\/b=s1.heap.objs.size:=by simpa using hb
 rcases e with rfl|rfl
 ·exact I1.fpOk (Nat.le_succ _) (I1.hok.fresh (Nat.le_succ _))
 ·exact I1.fpOk (zvd _) (I1.hok.fresh (zvd _))
theorem zf1{K:Frag}{a:Addr}{xs:#[b]}{g:TG}{tb:TS}{D:P5}{σ:St}{H:Hp}(Pv:Nat->St->Hp->Prop)(h0:Pv 0 σ H)(hl:∀ i σ H,i<=xs.length->Pv i σ H->SqL K H a xs)
  (hs:∀ i x p σ H,xs[i]?=some x->Pv i σ H->H p=none->g (.ref p) σ (upd H p (.tup [.int (i:Nat),x])) fun σ2 H2=>tb { D with nx:=Pv (i+1),ct:=Pv (i+1),bk:=D.nx } σ2 H2) (hd:∀ σ H,Pv xs.length σ H->D.nx σ H) :
  ∃ W:Nat->Nat->St->Hp->Prop,(∃ m,W 0 m σ H)/\∀ i m σ H,W i m σ H ->
    ((Ite K a).stop i H/\D.nx σ H)\/((Ite K a).go i H/\∃ N:St->Hp->Prop,(∀ σ' H',N σ' H'->∃ m',m' < m/\W (i+1) m' σ' H')/\∀ x H',(Ite K a).yld i H x H'->g x σ H' fun σ2 H2=>tb { D with nx:=N,ct:=N,bk:=D.nx } σ2 H2):=by
 refine⟨fun i m σ H=>m=xs.length-i/\i<=xs.length/\Pv i σ H,⟨xs.length,by simp,zvw _,h0⟩,?_⟩;rintro i m σ H ⟨rfl,hi,p⟩;have q:=hl i σ H hi p;by_cases hlt:i<xs.length
 ·refine .inr ⟨⟨xs,xs[i],q,by simp[hlt]⟩,Pv (i+1),fun σ' H' p'=>⟨xs.length-(i+1),by omega,rfl,hlt,p'⟩,fun x H' y=>?_⟩;obtain⟨t,y,h1,h2,rfl,rfl⟩:=y;exact hs i y t σ _ (h2 xs q) p h1
 ·have e:i=xs.length:=by omega
  subst e;exact .inl ⟨⟨xs,q,zvd _⟩,hd σ H p⟩
def Itz(K:Frag)(a b:Addr):It :=
 ⟨fun i H=>∃ xs ys x y,SqL K H a xs/\SqL K H b ys/\xs[i]?=some x/\ys[i]?=some y,fun i H x H'=>∃ p y z,H p=none/\(∀ xs,SqL K H a xs->xs[i]?=some y)/\(∀ ys,SqL K H b ys->ys[i]?=some z)/\x=.ref p/\H'=upd H p (.tup [y,z]),
  fun i H=>∃ xs ys,SqL K H a xs/\SqL K H b ys/\(xs.length<=i\/ys.length<=i)⟩
theorem zf2{P:Program}{w:World}{K:Frag}{elts:List Expr}{k:Nat}{tp:Pos}(l1 l2 z TI TO i1 i2:Addr)(hz:ZipApart z TI TO i1 i2 l1 l2):C2 P w K (.Tuple elts k tp) (Itz K l1 l2) [z,TO,i1,i2,TI] z
  (fun i h=>IsZip h z TI TO Value.none/\IsPair h TI (Value.ref i1) (Value.ref i2)/\(∃ a b,IsPair h TO a b)/\h.IsListIter i1 l1 i/\h.IsListIter i2 l2 i) where
 mem:=by simp
 obj:=fun i h st b hb=>by
  obtain⟨h1,h2,⟨a,b',h3⟩,h4,h5⟩:=st;have e:b=z\/b=TO\/b=i1\/b=i2\/b=TI:=by simpa using hb
  rcases e with rfl|rfl|rfl|rfl|rfl
  ·exact⟨_,h1,fun v z=>by cases z⟩
  ·exact⟨_,h3,fun v z=>by cases z⟩
  ·obtain⟨o,e,c,d⟩:=h4;exact⟨o,e,fun v z=>by rw[d] at z;cases z⟩
  ·obtain⟨o,e,c,d⟩:=h5;exact⟨o,e,fun v z=>by rw[d] at z;cases z⟩
  ·exact⟨_,h2,fun v z=>by cases z⟩
 keep:=fun i h h' st k=>by
  obtain⟨h1,h2,⟨a,b',h3⟩,h4,h5⟩:=st;exact⟨k z (by simp) _ h1,k TI (by simp) _ h2,⟨a,b',k TO (by simp) _ h3⟩,h4.at fun o q=>k i1 (by simp) o q,h5.at fun o q=>k i2 (by simp) o q⟩
 item:=by
  intro X hP hw hK hc i pins s σ H E I hf st hg;subst hP hw hK;obtain⟨xs,ys,x,y,hq,hq2,hx,hy⟩:=hg;obtain⟨its,rv,p,_⟩:=I.list hq;obtain⟨its2,rv2,p2,_⟩:=I.list hq2;obtain⟨u,hu,ru⟩:=rv.get hx;obtain⟨u2,hu2,ru2⟩:=rv2.get hy;obtain⟨h1,h2,⟨a,b',h3⟩,h4,h5⟩:=id st;refine wpAny_pyNext_zip_item hz h1 h2 h3 h4 h5 p.isList p2.isList (x:=u) (y:=u2) (by simpa using hu) (by simpa using hu2) fun h' o1 o2 o3 o4 o5 o6 o7=>?_;refine⟨_,rfl,wpAny_letOwnedTupleGo_zip o1 fun h'' e1 sb=>?_⟩;have lt:∀ b o,s.heap.get? b=some o->b≠s.heap.objs.size:=fun b o q=>zvv (Heap.lt_size q);have kk:∀ b o,b∉[z,TO,i1,i2,TI]->s.heap.get? b=some o->h''.get? b=some o:=fun b o hb q=>by
   have hb':b≠z/\b≠TO/\b≠i1/\b≠i2/\b≠TI:=by simpa using hb
   exact(sb.2 b hb'.1).trans (o7 b o hb'.1 hb'.2.1 hb'.2.2.1 hb'.2.2.2.1 q)
  have new:h''.get? s.heap.objs.size=some { cls:=Value.type "tuple",data:=Data.seq #[u,u2] }:=(sb.2 _ (Ne.symm (lt _ _ h1))).trans o5;refine⟨.ref s.heap.objs.size,_,I.turnLay (t':=s.toks) (o:=.tup [x,y]) hf kk (zvd _) ⟨?_,_,.cons ru (.cons ru2 .nil),⟨_,new,rfl,_,rfl⟩⟩,rfl,⟨_,x,y,I.hok.fresh (zvd _),fun zs hy'=>by rw[I.list_inj hy' hq];exact hx,fun zs hy'=>by rw[I.list_inj hy' hq2];exact hy,rfl,rfl⟩,
   ⟨e1,(sb.2 _ hz.TIz).trans (o7 _ _ hz.TIz hz.TITO hz.TIi1 hz.TIi2 h2),⟨_,_,(sb.2 _ hz.TOz).trans o2⟩,o3.at fun o q=>(sb.2 _ hz.i1z).trans q,o4.at fun o q=>(sb.2 _ hz.i2z).trans q⟩,fun b hb=>?_⟩
  ·show 2<=sizeLine;rw[sizeLine_eq];decide
  ·have hne:b≠s.heap.objs.size:=by
    have e:b=z\/b=TO\/b=i1\/b=i2\/b=TI:=by simpa using hb
    rcases e with rfl|rfl|rfl|rfl|rfl
    ·exact lt _ _ h1
    ·exact lt _ _ h3
    ·obtain⟨o,q,_⟩:=h4;exact lt _ _ q
    ·obtain⟨o,q,_⟩:=h5;exact lt _ _ q
    ·exact lt _ _ h2
   rw[Zi hne];exact(hf b hb).1
 done:=by
  intro X hP hw hK hc i pins s σ H E I hf st hg;subst hP hw hK;obtain⟨xs,ys,hq,hq2,hx⟩:=hg;obtain⟨its,rv,p,_⟩:=I.list hq;obtain⟨its2,rv2,p2,_⟩:=I.list hq2;obtain⟨h1,h2,⟨a,b',h3⟩,h4,h5⟩:=st;have hl:=rv.length;have hl2:=rv2.length;exact wpAny_pyNext_zip_end (I.ok.hd hc) hz h1 h2 h3 h4 h5 p.isList p2.isList (hx.imp (fun z=>by simp;omega) fun z=>by simp;omega) fun h' eb=>⟨rfl,I.turnedL (t':=s.toks) hf fun b o hb q=>by
   have hb':b≠z/\b≠TO/\b≠i1/\b≠i2/\b≠TI:=by simpa using hb
   exact eb b o hb'.1 hb'.2.1 hb'.2.2.1 hb'.2.2.2.1 q⟩
 self:=fun _ _ _ _ _ st h=>wpAny_pyIter_zip st.1 h
inductive zlc(K:Frag)(R:It->Hp->Prop)(vs:#[b])(H1:Hp):Prop where
 | mk(a)(b)(_:vs=[.ref a,.ref b])(_:(∃ xs,SqL K H1 a xs))(_:(∃ ys,SqL K H1 b ys))(_:R (Itz K a b) H1)
def zly(K:Frag)(ta:TA):TI:=fun σ H R=>ta σ H fun vs H1=>zlc K R vs H1
theorem zjt{X:Cx}{K:Frag}{elts:List Expr}{k:Nat}{tp:Pos}{a b:Expr}{ta:TA}{p pos:Pos}(hK:X.K=K)(hg:Gl X "zip")(hm:X.mg "zip"=none)(ha:PA X [a,b] ta)(hs:starEach [a,b] X.env=[(false,eval a X.env),(false,eval b X.env)]:=by rfl)(hs2:starEach [b] X.env=[(false,eval b X.env)]:=by rfl):PI X (.Tuple elts k tp) (.Call (.Name "zip" p) [a,b] [] pos) (zly K ta):=by
 subst hK;intro pins s σ H R I h;refine Call_ (Ol I hg hm boot_zip (PyProof.Rows.callWith_type1 (thn (ha pos pins s σ H _ I h) fun us s1 ⟨vs,H1,I1,r1,q1⟩=>?_) (by rw[hs,hs2]) (by rw[hs2];rfl)));obtain⟨a,b,e,⟨xs,hq⟩,⟨ys,hq2⟩,q⟩:=q1;subst e;cases r1 with
 | cons r rr =>
   obtain⟨u,rfl,ru⟩:=Qi rr;cases r;cases ru;obtain⟨its,rv,pl,hz⟩:=I1.list hq;obtain⟨its2,rv2,pl2,hz2⟩:=I1.list hq2;have lt1:@LT.lt Nat _ a s1.heap.objs.size:=by obtain⟨_,e,_⟩:=pl.isList;exact Heap.lt_size e
   have lt2:@LT.lt Nat _ b s1.heap.objs.size:=by obtain⟨_,e,_⟩:=pl2.isList;exact Heap.lt_size e
   refine call_zip_2 pl.isList pl2.isList fun h' e1 e2 e3 e4 e5 e6 e7=>?_;refine wpAny_pyIter_zip e1 ?_;refine⟨_,[s1.heap.objs.size+4,s1.heap.objs.size+3,s1.heap.objs.size,s1.heap.objs.size+1,s1.heap.objs.size+2],_,_,H1,rfl,I1.kept (t':=s1.toks) e7,zf2 a b _ _ _ _ _ ?_,⟨e1,e2,⟨_,_,e3⟩,e4,e5⟩,fun c hb=>?_,q⟩
   ·refine⟨?_,?_,?_,?_,?_,?_,?_,?_,?_,?_,?_,?_,?_,?_,?_,?_,?_,?_⟩<;>(show @Ne Nat _ _;omega)
   have e:c=s1.heap.objs.size+4\/c=s1.heap.objs.size+3\/c=s1.heap.objs.size\/c=s1.heap.objs.size+1\/c=s1.heap.objs.size+2:=by simpa using hb
   have hle:s1.heap.objs.size<=c:=by rcases e with rfl|rfl|rfl|rfl|rfl<;>omega
   exact I1.fpOk hle (I1.hok.fresh hle)
section
variable{X:Cx}{pins:#[h]}{σ:List (Option V)}{H H':Hp}{s:Shared}{h':Heap}
theorem Inv.freeze(I:#[d])(e:H a=#[a,.dK,kvs])(ho:s.heap.get? a=some o):Inv X pins σ (upd H a (.frz o (.dK kvs))) s:=by
 have na:∀ b u,H b=some u->u≠.dK kvs->b≠a:=fun b u q n z=>by subst z;rw[q] at e;exact n (Option.some.inj e)
 refine I.un (h':=s.heap) (t':=s.toks) ⟨fun b o q _ _ _=>q,fun b o q _ _ _=>⟨o.slots,q⟩,fun b o q n _=>?_,fun b o q _=>⟨o,q⟩,fun b ys q=>?_,fun b o v q=>?_,fun b ps q=>⟨#[],?_⟩⟩ fun b u q=>?_
 ·rw[Zi (fun z=>by subst z;rw[n] at e;cases e)];exact n
 ·rw[Zi (na b _ q fun z=>nomatch z)];exact q
 ·rw[Zi (na b _ q fun z=>nomatch z)];exact q
 ·rw[Zi (na b _ q fun z=>nomatch z),q];simp
 ·have stay:∀ {b u},Y8 X.prog X.w H s.heap b u->Y8 X.prog X.w (upd H a (.frz o (.dK kvs))) s.heap b u:=fun {b u} k=>k.stay (fun _ _ _ q=>q) (fun c q=>by rw[Zi (na c _ q fun z=>nomatch z)];exact q) fun c _ q=>by rw[Zi (na c _ q fun z=>nomatch z)];exact q
  by_cases hb:b=a
  ·subst hb;rw[Zd] at q;cases q;exact⟨ho,stay (I.hok b _ e)⟩
  ·rw[Zi hb] at q;exact stay (I.hok b u q)
end
def Itk(a:Addr)(o:Obj)(kvs:List (Key×V)):It :=
 ⟨fun i H=>H a=some (.frz o (.dK kvs))/\i<kvs.length,fun i H x H'=>H'=H/\∃ p,kvs[i]?=some p/\x=kV p.1,fun i H=>H a=some (.frz o (.dK kvs))/\kvs.length<=i⟩
theorem zf3(I:#[d])(e:H a=some (.frz o (.dK kvs))):∃ vs,KV kvs vs/\∃ es ep,o.data=.dict es ep/\s.heap.DictAt (Yj X.prog X.w) a vs ep:=by
 obtain⟨h1,hz,hm,vs,kv,o',es,ep,h2,h3,h4,h5⟩:=(show Y8 X.prog X.w H s.heap a (.frz o (.dK kvs)) from I.hok a _ e);rw[h1] at h2;cases h2;exact⟨vs,kv,es,ep,h4,o,es,h1,h3,h4,h5⟩
theorem zds{P:Program}{w:World}{K:Frag}{tg:Expr}(a it:Addr)(o:Obj)(kvs:List (Key×V))(es:Array DictEntry)(ep:Nat)(ho:o.data=.dict es ep):C2 P w K tg (Itk a o kvs) [it] it (fun i h=>h.IsKeyIter it a i kvs.length ep) where
 mem:=by simp
 obj:=fun i h st b hb=>by
  have e:b=it:=by simpa using hb
  subst e;obtain⟨o,e,c,d⟩:=st;exact⟨o,e,fun v z=>by rw[d] at z;cases z⟩
 keep:=fun i h h' st k=>by
  obtain⟨o,e,c,d⟩:=st;exact⟨o,k it (by simp) o e,c,d⟩
 item:=by
  intro X hP hw hK hc i pins s σ H E I hf st hg;subst hP hw hK;obtain⟨hq,hi⟩:=hg;obtain⟨vs,kv,es',ep',h1,h2⟩:=zf3 I hq;rw[ho] at h1;cases h1;obtain⟨f0,f1,f2,f3,f4,f5⟩:=hf it (by simp);have hl:kvs.length=vs.length:=KV.length kv;have hv:i<vs.length:=by omega
  obtain⟨⟨k,v⟩,hkv⟩:∃ kv,vs[i]'hv=kv:=⟨_,rfl⟩;rw[hl] at st;refine wpAny_pyNext_dict_item st h2 (k:=k) (v:=v) (by rw[zu3 hv,hkv]) fun key h' hk st' sb=>?_;have I1:Inv X pins σ H { s with heap:=h' }:=I.turned (t':=s.toks) (fun b o hb e=>(sb.2 b hb).trans e) f0 f1 f3 f4 f5;obtain⟨o2,e2,c2,d2⟩:=id st';have ek:=congrArg (·[i]?) (KV.keys kv);simp only[zu8,zu3 hv,zu3 hi,hkv,zv6] at ek;refine⟨key,rfl,zeq (s:={ s with heap:=h' }) e2 c2 d2 ⋯ ⟨kV (kvs[i]'hi).1,H,I1,?_,⟨rfl,_,zu3 hi,rfl⟩,by rw[hl];exact st',fun b hb=>(hf b hb).1⟩⟩;have e3:(kvs[i]'hi).1=k:=Option.some.inj ek;rw[e3];rcases Yq hk with ⟨j,t,rfl,rfl⟩|⟨z,t,rfl,rfl⟩
  ·exact⟨t,rfl⟩
  ·exact⟨t,rfl⟩
 done:=by
  intro X hP hw hK hc i pins s σ H E I hf st hg;subst hP hw hK;obtain⟨hq,hi⟩:=hg;obtain⟨vs,kv,es',ep',h1,h2⟩:=zf3 I hq;rw[ho] at h1;cases h1;obtain⟨f0,f1,f2,f3,f4,f5⟩:=hf it (by simp);have hl:kvs.length=vs.length:=KV.length kv;rw[hl] at st;exact wpAny_pyNext_dict_end (I.ok.hd hc) st h2 (List.getElem?_eq_none ⋯) fun h' eb=>⟨rfl,I.turned (t':=s.toks) (fun b o hb e=>eb b o hb e) f0 f1 f3 f4 f5⟩
 self:=fun _ _ _ _ _ st h=>wpAny_pyIter_keyiter st h
inductive zju(R:It->Hp->Prop)(x:V)(H1:Hp):Prop where
 | mk(a)(kvs)(_:x=.ref a)(_:H1 a=#[a,.dK,kvs])(_:∀ o,R (Itk a o kvs) (upd H1 a (.frz o (.dK kvs))))
def zld(tl:TE):TI:=fun σ H R=>tl σ H fun x H1=>zju R x H1
theorem zcg{X:Cx}{tg:Expr}{l:Expr}{tl:TE}(hl:PE X l tl):PI X tg l (zld tl):=by
 intro pins s σ H R I h;refine thn (hl pins s σ H _ I h) fun v s1 ⟨x,H1,I1,r1,q1⟩=>?_;obtain⟨a,kvs,e,hq,q⟩:=q1;subst e;cases r1;obtain⟨hz,hm,vs,kv,o,es,ep,h2,h3,h4,h5⟩:=(show Y8 X.prog X.w H1 s1.heap a (.dK kvs) from I1.hok a _ hq);have hl:kvs.length=vs.length:=KV.length kv;have I2:=I1.freeze hq h2;refine wpAny_pyIter_dict hm ⟨o,es,h2,h3,h4,h5⟩ ?_;refine⟨s1.heap.objs.size,[s1.heap.objs.size],_,_,_,rfl,I2.kept (t':=s1.toks) fun b o e=>Heap.get?_push_of_some _ e,zds a _ o kvs es ep h4,⟨_,Heap.get?_push_size _ rfl,rfl,by rw[hl];rfl⟩,fun b hb=>?_,q o⟩;have e:b=s1.heap.objs.size:=by simpa using hb
 subst e;exact I2.fpOk (zvd _) (I2.hok.fresh (zvd _))
theorem Bs{a:Addr}{o:Obj}{kvs:List (Key×V)}{g:TG}{tb:TS}{D:P5}{σ:St}{H:Hp}(Pv:Nat->St->Hp->Prop)(h0:Pv 0 σ H)(hl:∀ i σ H,i<=kvs.length->Pv i σ H->H a=some (.frz o (.dK kvs)))
  (hs:∀ i k v σ H,kvs[i]?=some (k,v)->Pv i σ H->g (kV k) σ H fun σ2 H2=>tb { D with nx:=Pv (i+1),ct:=Pv (i+1),bk:=D.nx } σ2 H2) (hd:∀ σ H,Pv kvs.length σ H->D.nx σ H) :
  ∃ W:Nat->Nat->St->Hp->Prop,(∃ m,W 0 m σ H)/\∀ i m σ H,W i m σ H ->
    ((Itk a o kvs).stop i H/\D.nx σ H)\/((Itk a o kvs).go i H/\∃ N:St->Hp->Prop,(∀ σ' H',N σ' H'->∃ m',m' < m/\W (i+1) m' σ' H')/\∀ x H',(Itk a o kvs).yld i H x H'->g x σ H' fun σ2 H2=>tb { D with nx:=N,ct:=N,bk:=D.nx } σ2 H2):=by
 refine⟨fun i m σ H=>m=kvs.length-i/\i<=kvs.length/\Pv i σ H,⟨kvs.length,by simp,zvw _,h0⟩,?_⟩;rintro i m σ H ⟨rfl,hi,p⟩;have q:=hl i σ H hi p;by_cases hlt:i<kvs.length
 ·refine .inr ⟨⟨q,hlt⟩,Pv (i+1),fun σ' H' p'=>⟨kvs.length-(i+1),by omega,rfl,hlt,p'⟩,fun x H' y=>?_⟩;obtain⟨e,⟨k,v⟩,y,rfl⟩:=y;subst e;exact hs i k v σ _ y p
 ·have e:i=kvs.length:=by omega
  subst e;exact .inl ⟨⟨q,zvd _⟩,hd σ H p⟩
theorem zdt(hc:X.calm=true):Vs X (.builtin "max") (fun xs H Q=>∃ (l:Addr) (kvs:List (Key×V)) (ns:List Int),xs=[.ref l]/\Rd H l (.dK kvs)/\kvs.map (·.1)=ns.map inl/\0<ns.length/\∀ M,M∈ns->(∀ a∈ns,a<=M)->Q (.int M) H):=by
 intro pins s σ H xs us Q I r h;obtain⟨l,kvs,ns,rfl,hl,hns,hpos,q⟩:=h;obtain⟨u,rfl,ru⟩:=Qi r;cases ru;obtain⟨hz,hm,vs,kv,o,es,ep,h2,h3,h4,h5⟩:=Qj I.hok hl;have hlen:vs.length=ns.length:=by
  have e1:=KV.length kv;have e2:=congrArg List.length hns;rw[zu2,zu2] at e2;omega
 have hlt:l<s.heap.objs.size:=Heap.lt_size h2;have da:s.heap.DictAt (Yj X.prog X.w) l vs ep:=⟨o,es,h2,h3,h4,h5⟩;have val:∀ (i:Nat) (v:Value),(∃ k y,vs[i]?=some (k,y)/\(Yj X.prog X.w).is k v=true)->∃ t,v=.int (ns.getD i 0) t:=fun i v ⟨k,y,hk,hv⟩=>by
  have e1:=congrArg (·[i]?) (KV.keys kv);have e2:=congrArg (·[i]?) hns;simp only[zu8,hk,zv6] at e1 e2;rw[e1] at e2;have hi:i<ns.length:=by
   rw[<- hlen];exact(zu4.mp hk).1
  rw[zu3 hi] at e2;have e3:k=inl (ns[i]'hi):=Option.some.inj e2;have e4:ns.getD i 0=ns[i]'hi:=by rw[zvu,zu3 hi];rfl
  rw[e4];rcases Yq hv with ⟨j,t,rfl,rfl⟩|⟨z,t,rfl,rfl⟩
  ·cases e3;exact⟨t,rfl⟩
  ·cases e3
 refine call_max_walk (wpAny_pyIter_dict hm da ?_);refine⟨s.heap.objs.size,[s.heap.objs.size,l],[s.heap.objs.size],vs.length,_,_,_,rfl,Walks.dictKeys (knd:=Yj X.prog X.w) (A:=X.A.in1) (I.ok.hd hc) _ l (zvv hlt) vs ep,⟨⟨_,Heap.get?_push_size _ rfl,rfl,rfl⟩,da.push _⟩,fun b hb=>?_,by omega,CmpOf.ints_gt (fun i=>ns.getD i 0) fun i v hv=>val i v hv,fun v h' tk hP hk=>?_⟩
 ·show b<(s.heap.push _).objs.size;rw[Heap.size_push];rcases zu7.mp hb with rfl|hb
  ·exact Nat.lt_succ_self _
  ·rcases zu7.mp hb with rfl|hb
   ·exact zw6 hlt
   ·cases hb
 ·obtain⟨h1,h2⟩:=argBest_gt (fun i=>ns.getD i 0) (vs.length-1);obtain⟨t,rfl⟩:=val _ v hP;rw[hlen] at h1 h2 ⊢;generalize argBest (fun i j=>decide ((fun i=>ns.getD i 0) i>(fun i=>ns.getD i 0) j)) (ns.length-1)=b at h1 h2 ⊢;have hb:b<ns.length:=by omega
  have eg:∀ (k:Nat) (hk:k<ns.length),ns.getD k 0=ns[k]'hk:=fun k hk=>by rw[zvu,zu3 hk];rfl
  refine⟨.int (ns.getD b 0),H,I.kept fun c o e=>?_,⟨_,rfl⟩,q _ (by rw[eg b hb];exact zvx hb) fun x hx=>?_⟩
  ·refine hk c o (fun hm=>?_) (Heap.get?_push_of_some _ e);rw[zu6.mp hm] at e;exact zwu _ (Heap.lt_size e)
  ·obtain⟨k,hk',rfl⟩:=zwe hx;have:=h2 k ⋯;show ns[k]<=_;rw[<- eg k hk'];exact this
theorem Oz(I:Nat->Shared->Prop)
  (turn:∀ (n:Nat) (s:Shared),I n s->wpAny (model prog w) A (pyNext it) (fun r s₁=>match r with
   | none=>R (.ok .next) s₁
   | some v=>wpAny (model prog w) A (letOwnedTupleGo target it v) (fun _ s₁'=>wpAny (model prog w) A (assign target env v) (fun _ s₂=>wpAny (model prog w) A (forIn ifs true fun c r=>if r=true then do let ok <- isTrue c env (eval c env);pure (ForInStep.yield ok) else pure (ForInStep.yield r)) (fun ok s₃=>if ok=true then wpAny (model prog w) A (eval elt env) (fun x s₄=>wpAny (model prog w) A (call (.builtin "list.append") [acc,x]) (fun _ s₅=>∃ m,m<n/\I m s₅) (notedBy (model prog w) A env fun e s'=>R (.error e) s') s₄) (notedBy (model prog w) A env fun e s'=>R (.error e) s') s₃ else ∃ m,m<n/\I m s₃) (notedBy (model prog w) A env fun e s'=>R (.error e) s') s₂) (notedBy (model prog w) A env fun e s'=>R (.error e) s') s₁') (notedBy (model prog w) A env fun e s'=>R (.error e) s') s₁) (notedBy (model prog w) A env fun e s'=>R (.error e) s') s)
  (n:Nat) (h:I n s):codeAny (model prog w) A (.compLoop (.ListComp elt [⟨target,iter,ifs,0⟩] scope pos) 0 it acc env) R s:=by
 refine codeAny_loop rfl I (fun n s hI=>?_) n h;refine wpAny_noted ?_;rw[compTurn_list];refine wpAny_bind (wpAny_standAt (wpAny_bind (wpAny_mono (turn n s hI) (fun r s₁ h₁=>?_) fun _ _ z=>z)));cases r with
 | none=>exact wpAny_pure h₁
 | some v =>
   refine wpAny_bind (wpAny_mono h₁ (fun _ s₁' h₂=>wpAny_bind (wpAny_mono h₂ (fun _ s₂ h₃=>wpAny_bind (wpAny_mono h₃ (fun ok s₃ h₄=>?_) fun _ _ z=>z)) fun _ _ z=>z)) fun _ _ z=>z);cases ok with
   | false =>
     simp only[zwh,if_false] at h₄ ⊢;exact wpAny_pure ⟨rfl,h₄⟩
   | true =>
     simp only[if_true] at h₄ ⊢;refine wpAny_bind (wpAny_bind (wpAny_mono h₄ (fun x s₄ h₅=>wpAny_bind (wpAny_mono h₅ (fun _ s₅ h₆=>wpAny_pure (wpAny_pure ⟨rfl,h₆⟩)) fun _ _ z=>z)) fun _ _ z=>z))
def cs0(xo:List Str)(js:List Nat)(σ:St):St:=(xo.map fun _=>none)++js.map fun j=>(σ[j]?).getD none
def Rx(xo:List Str)(js:List Nat)(σ σ2:St):Prop:=∃ os:St,os.length=xo.length/\σ2=os++js.map fun j=>(σ[j]?).getD none
theorem Rx.weak(o:Rx xo js σ σ2)(I:Inv X pins σ2 H s):Inv X pins (cs0 xo js σ) H s:=by
 obtain⟨os,hl,rfl⟩:=o;refine I.weak (by unfold cs0;simp[hl]) fun i v e=>?_;unfold cs0 at e;by_cases hi:i<xo.length
 ·rw[zwa (by rw[zu2];exact hi),zu8,zu3 hi] at e;cases e
 ·rw[zv5 (by rw[zu2];omega),zu2] at e;rw[zv5 ⋯,hl];exact e
def D4(J:It)(xo:List Str)(js:List Nat)(g:TG)(tt:TT)(te:TE)(σ:St)(H:Hp)(Q:VK):Prop:=∃ W:Nat->Nat->#[b]->Hp->Prop,(∃ m,W 0 m [] H)/\∀ i m ys H,W i m ys H ->
 (J.stop i H/\ys.length<=sizeLine/\∀ p,H p=none->Q (.ref p) (upd H p (.lst ys))) \/
 (J.go i H/\ys.length<sizeLine/\∃ N:#[b]->Hp->Prop,(∀ ys' H',N ys' H'->∃ m',m' < m/\W (i+1) m' ys' H')/\∀ x H',J.yld i H x H'->g x (cs0 xo js σ) H' fun σ2 H1=>Rx xo js σ σ2/\tt σ2 H1 fun b H2=>if b=true then te σ2 H2 fun y H3=>N (ys++[y]) H3 else N ys H2)
def zf4(wi:TI)(xo:List Str)(js:List Nat)(g:TG)(tt:TT)(te:TE):TE:=fun σ H Q=>wi σ H fun J H1=>D4 J xo js g tt te σ H1 Q
section
variable{X:Cx}{elt iter tg:Expr}{xo:List Str}{pos:Pos}{ifs:List Expr}{scope:Scope}{cl:List (Str×Addr)}{ys:List Str}{js:List Nat}{g:TG}
structure Og(X:Cx)(xo:List Str)(scope:Scope)(cl:List (Str×Addr))(ys:List Str)(js:List Nat):Prop where
 clos:closureFor scope X.env=pure cl
 kind:scope.kind=.function
 names:∀ y∈scope.names,y.2=.local->scope.names.lookup y.1=some .local
 nocell:∀ y∈scope.names,y.2≠.cell
 at_:js.map (X.N[·]?)=ys.map some
 free:Fb (fun y=>X.env.kindOf y=some .cell/\(relabel scope X.env).names.lookup y=some .cell/\cl.lookup y=X.env.cells.lookup y) ys
 only:Fb (fun p=>X.env.cells.lookup p.1=some p.2) cl
 vis:∀ y∈scope.names,y.2=.free->y.1∈ys
theorem Og.same(c:Og X xo scope cl ys js)(h:cl.lookup y=some a):X.env.cells.lookup y=some a:=c.only.get (PySem.mem_of_lookup h)
theorem zf5(c:Og X xo scope cl ys js)(I:#[d])(hf:∀ b∈fp,FpOk X pins H b)(hex:∀ b∈fp,b<s.heap.objs.size)(hC:s.heap.objs.size<=C) :
  (Y0 X pn Nc scope cl s H fp C).Ok where
 mod:=I.ok.mod
 kind:=c.kind
 glob:=I.ok.glob
 blt:=I.ok.blt
 above:=hC
 inj:=fun y z a h1 h2=>I.ok.inj y z a (c.same h1) (c.same h2)
 has:=fun y h=>by
  obtain⟨k,m,q⟩:=Nz h;rcases q with rfl|rfl
  ·exact absurd rfl (c.nocell _ m)
  ·obtain⟨a1,a2,a3⟩:=c.free.get (c.vis _ m rfl);obtain⟨a,ha⟩:=I.ok.has y (.inl a1);exact⟨a,a3.trans ha⟩
 cab:=fun _ _ h=>by cases h
 hd:=I.ok.hd
 frames:=I.ok.frames
 stk:=.inl rfl
 exf:=fun b hb=>by
  obtain⟨f0,f1,f2,f3,f4,f5⟩:=hf b hb;exact⟨zvv (zvn (hex b hb) hC),fun y a h=>f4 y a (c.same h)⟩
 bs:=I.bs
 bsz:=zvh I.ok.bsz I.sz
 noex:=fun b o q hb=>by
  obtain⟨f0,f1,f2,f3,f4,f5⟩:=hf b hb;rcases f3 with z|z
  ·exact I.ok.noex b o q z
  ·exact absurd (zvn (Heap.lt_size (I.ok.bs b o q).1) z) (zwu _)
 exfs:=fun b hb m=>by
  obtain⟨f0,f1,f2,f3,f4,f5⟩:=hf b hb;exact(zu7.mp (I.stkSub b m)).elim f1 f2
 funs:=I.stack
 frf:=I.stkFree
theorem zdu(c:Og X xo scope cl ys js)(I:#[d])(hf:∀ b∈fp,FpOk X pins H b)(hex:∀ b∈fp,b<s.heap.objs.size)(hC:s.heap.objs.size<=C)
  (hns:h1.Ns C m1) (old:∀ b o,s.heap.get? b=some o->h1.get? b=some o) :
  Inv (Y0 X (X.pn++pins) (xo++ys) scope cl s H fp C) [] (cs0 xo js σ) H { s with heap:=h1,toks:=t1 }:=by
 obtain⟨m,hn,hl⟩:=I.loc;have jl:js.length=ys.length:=by have:=congrArg List.length c.at_;simpa using this
 refine⟨zf5 c I hf hex hC,rfl,I.bare,Un.kept old,⟨m1,hns,fun i y v e1 e2 e3=>?_⟩,fun y a h=>?_,I.hok.fresh hC,fun y a h=>I.freeC y a (c.same h),fun p hp=>?_,I.hok.kept old,by simp[jl,Y0,cs0]⟩
 ·have e2:=e2.resolve_right (Ws _);unfold cs0 at e2;by_cases hi:i<xo.length
  ·rw[zwa (by rw[zu2];exact hi),zu8,zu3 hi] at e2;cases e2
  ·rw[zv5 (by rw[zu2];omega),zu2] at e2;have e1:ys[i-xo.length]?=some y:=by
    have e1:(xo++ys)[i]?=some y:=e1;rw[zv5 ⋯] at e1;exact e1
   generalize i-xo.length=k at e1 e2;rw[zu8] at e2;cases hj:js[k]? with
   | none=>rw[hj] at e2;cases e2
   | some j =>
     rw[hj] at e2;have ej:X.N[j]?=some y:=by
      have q:=congrArg (·[k]?) c.at_;simp only[zu8,hj,e1,zv6] at q;exact Option.some.inj q
     have ev:σ[j]?=#[a,some,v]:=by
      simp only[zv6,Option.some.injEq] at e2;cases hσ:σ[j]? with
      | none=>rw[hσ] at e2;cases e2
      | some o=>rw[hσ] at e2;rw[show o=some v from e2]
     obtain⟨a1,a2,a3⟩:=c.free.get (zvc e1);obtain⟨u,r,l⟩:=hl j y v ej (.inl ev) (.inr (.inl a1));refine⟨u,r,.inr ⟨.inl a2,?_⟩⟩;rcases l with ⟨k1,_⟩|⟨_,b,e,z⟩
     ·rw[a1] at k1;cases k1
     ·obtain⟨o,ho,hd⟩:=z;exact⟨b,a3.trans e,o,old _ _ ho,hd⟩
 ·obtain⟨v,o,ho,hd⟩:=I.cell y a (c.same h);exact⟨v,o,old _ _ ho,hd⟩
 ·obtain⟨e,n,ne,nf,d⟩:=I.pin p (by simpa [Y0] using hp);refine⟨old _ _ e,n,zvv (zvn (Heap.lt_size e) hC),fun m=>?_,d⟩;exact(zu7.mp (I.stkSub _ m)).elim ne nf
theorem Ii{pins:#[h]}{σ:St}{H:Hp}{s:Shared}{tt:TT}{te:TE}{it:Addr}{fp:List Addr}{tn:Nat->Heap->Prop}{J:It}{W:Nat->Nat->#[b]->Hp->Prop}{m0:Nat}{Q:VK}{E:Value->Shared->Prop}{RR:Value->Addr->Result->Shared->Prop}
  (hcm:X.calm=true) (c:Og X xo scope cl ys js) (ht:∀ pn s₀ H₀ fp C,PTs (Y0 X pn (xo++ys) scope cl s₀ H₀ fp C) ifs tt) (hgt:∀ pn s₀ H₀ fp C,PG (Y0 X pn (xo++ys) scope cl s₀ H₀ fp C) tg g) (he:∀ pn s₀ H₀ fp C,PE (Y0 X pn (xo++ys) scope cl s₀ H₀ fp C) elt te)
  (I:#[d]) (T:C2 X.prog X.w X.K tg J fp it tn) (st0:tn 0 s.heap) (hf:∀ b∈fp,FpOk X pins H b) (w0:W 0 m0 [] H)
  (turn:∀ i m ys H,W i m ys H->(J.stop i H/\ys.length<=sizeLine/\∀ p,H p=none->Q (.ref p) (upd H p (.lst ys))) \/
   (J.go i H/\ys.length<sizeLine/\∃ N:#[b]->Hp->Prop,(∀ ys' H',N ys' H'->∃ m',m' < m/\W (i+1) m' ys' H')/\∀ x H',J.yld i H x H'->g x (cs0 xo js σ) H' fun σ2 H1=>Rx xo js σ σ2/\tt σ2 H1 fun b H2=>if b=true then te σ2 H2 fun y H3=>N (ys++[y]) H3 else N ys H2))
  (hRR:∀ D C s' m,s'.heap.Ns C m->(∀ h',Heap.SameBut C s'.heap h'->∃ H',Inv X pins σ H' { s' with heap:=h' }/\Q (.ref D) H')->(∃ H',Inv X pins σ H' s'/\Q (.ref D) H'/\H' C=none)->s.heap.objs.size<=C->RR (.ref D) C (.ok .next) s') :
  wpAny (model X.prog X.w) X.A (newList []) (fun acc s₃=>wpAny (model X.prog X.w) X.A (newFunctionEnv scope X.env.globals cl [] X.env.qual none .none (some X.env)) (fun cenv s₄ =>
   codeAny (model X.prog X.w) X.A (.compStart (.ListComp elt [⟨tg,iter,ifs,0⟩] scope pos) 0 (.ref it) acc { cenv with scope:=relabel scope X.env }) (RR acc cenv.locals) s₄) E s₃) E s:=by
 refine wpAny_newObj_type (wpAny_newFunctionEnv c.nocell (by intro y hy;simp at hy) (fun h₁ hns₁ hsb₁=>?_) c.kind);dsimp only at hns₁ hsb₁ ⊢;generalize hH2:s.heap.push { cls:=.type "list",dict:=none,data:=.seq ([]:List Value).toArray }=G at hns₁ hsb₁ ⊢;generalize hD:s.heap.objs.size=D;have hC:G.objs.size=D+1:=by rw[<- hH2,Heap.size_push,hD]
 generalize hCe:G.objs.size=C at hns₁ hsb₁ ⊢;have hCD:C=D+1:=hCe.symm.trans hC;have hDC:D≠C:=by omega
 have below:∀ b o,s.heap.get? b=some o->b<D:=fun b o e=>by rw[<- hD];exact Heap.lt_size e
 have ltC:∀ b:Addr,b<D->b≠C:=fun b h=>zvv (hCD▸zw6 h);have ltD:∀ b:Addr,b<D->b≠D:=fun b h=>zvv h;have old:∀ b o,s.heap.get? b=some o->h₁.get? b=some o:=fun b o e=>hsb₁.extBut b o (ltC b (below b o e)) (Heap.get?_push_of_some _ (hH2▸Heap.get?_push_of_some _ e));have hacc:h₁.PlainList D #[]:=⟨_,hsb₁.extBut _ _ hDC (Heap.get?_push_of_some _ (by rw[<- hH2,<- hD];exact Heap.get?_push_size _ rfl))⟩;have hex:∀ b∈fp,b<s.heap.objs.size:=fun b hb=>by
  obtain⟨o,e,_⟩:=T.obj _ _ st0 b hb;exact Heap.lt_size e
 have lt0:∀ b∈fp,b<D:=fun b hb=>by rw[<- hD];exact hex b hb
 have freshD:s.heap.get? D=none:=Heap.get?_none_of_le ⋯;have freshC:s.heap.get? C=none:=Heap.get?_none_of_le ⋯;have frE:∀ {H':Hp},(∀ b∈fp,H' b=none)->∀ {o:Obj} {b:Addr},b∈fp->FpOk (Y0 X (X.pn++pins) (xo++ys) scope cl s H fp C) [(D,o)] H' b:=fun {H'} hn {o b} hb=>by
  obtain⟨f0,f1,f2,f3,f4,f5⟩:=hf b hb;refine⟨hn b hb,?_,?_,.inl hb,fun y a h=>f4 y a (c.same h),fun p hp=>?_⟩
  ·exact ltC b (lt0 b hb)
  ·exact fun m=>(zu7.mp (I.stkSub b m)).elim f1 f2
  ·rcases zve.mp hp with z|z
   ·exact f5 p z
   ·rw[zu6.mp z];exact Ne.symm (ltD b (lt0 b hb))
 have pinD:∀ {σ':St} {H':Hp} {s':Shared} {o:Obj},Inv (Y0 X (X.pn++pins) (xo++ys) scope cl s H fp C) [] σ' H' s'->s'.heap.get? D=some o->(∀ v,o.data≠.cell v)->H' D=none->Inv (Y0 X (X.pn++pins) (xo++ys) scope cl s H fp C) [(D,o)] σ' H' s':=fun {σ' H' s' o} Ic e nc n =>
  Ic.pins_of fun p hp=>by
   rw[zu6.mp hp];refine⟨e,n,hDC,fun m=>?_,nc⟩;obtain⟨_,ob,hob,_⟩:=I.stack.mem m;exact absurd (below D ob hob) (zwu _)
 have loop:∀ s₃:Shared,s₃={ s with heap:=h₁,toks:=s.toks+([]:List (Str×Value)).length } ->
   codeAny (model X.prog X.w) X.A (.compLoop (.ListComp elt [⟨tg,iter,ifs,0⟩] scope pos) 0 (.ref it) (.ref D) (compEnvC scope cl C X.env)) (RR (.ref D) C) s₃:=by
  rintro s₃ rfl;have I0:=zdu (t1:=s.toks+([]:List (Str×Value)).length) c I hf hex (by omega:s.heap.objs.size<=C) hns₁ old;refine Oz (fun n s'=>∃ i H' zs its,Inv (Y0 X (X.pn++pins) (xo++ys) scope cl s H fp C) [] (cs0 xo js σ) H' s'/\tn i s'.heap/\(∀ b∈fp,H' b=none)/\s'.heap.PlainList D (its:List Value).toArray/\Vals zs its/\H' D=none/\W i n zs H') ?_ m0
   ⟨0,H,[],[],I0,T.keep _ _ _ st0 fun b hb o e=>old b o e,fun b hb=>(hf b hb).1,hacc,.nil,I.hok.fresh ⋯,w0⟩
  rintro n s3 ⟨i,H3,zs,its,I3,st3,fr3,⟨n3,pl3⟩,rv3,fD3,w3⟩;have I3':=pinD I3 pl3 (by intro v z;cases z) fD3;rcases turn i n zs H3 w3 with ⟨stop,hsz,fin⟩|⟨go,hsz,Nx,hNx,step⟩
  ·refine wpAny_mono (T.done (Y0 X (X.pn++pins) (xo++ys) scope cl s H fp C) rfl rfl rfl hcm i _ s3 _ H3 (fun _ _=>False) I3' (fun b hb=>frE fr3 hb) st3 stop) (fun r s4 ⟨hr,I4⟩=>?_) fun _ _ z=>z.elim;subst hr;have plD:s4.heap.get? D=some _:=(I4.pin (D,{ cls:=Value.type "list",data:=.seq its.toArray n3 }) (zvr _ zvy)).1;obtain⟨m4,hn4,_⟩:=I4.loc;have okU:∀ h',(∀ b o,b≠C->s4.heap.get? b=some o->h'.get? b=some o)->Inv X pins σ (upd H3 D (.lst zs)) { s4 with heap:=h' }:=fun h' k1=>by
    have u4:Un (frs X.stack) fp H H3 s.heap s4.heap:=I4.base;have neC:∀ b o,s.heap.get? b=some o->b≠C:=fun b o e=>ltC b (below b o e);have neD:∀ b o,s.heap.get? b=some o->b≠D:=fun b o e=>ltD b (below b o e);have trD:∀ b u,H3 b=some u->b≠D:=fun b u e z=>by rw[z,fD3] at e;cases e
    have trC:∀ b u,H3 b=some u->b≠C:=fun b u e z=>by rw[z,show H3 C=none from I4.free] at e;cases e
    have un:Un (frs X.stack) fp H (upd H3 D (.lst zs)) s.heap h':=by
     refine⟨fun b o e n hb hx=>k1 b o (neC b o e) (u4.keep b o e n hb hx),fun b o e n hb hx=>?_,fun b o e n hx=>?_,fun b o e hx=>?_,fun b xs e=>?_,fun b ob u e=>?_,fun b ps e=>?_⟩
     ·obtain⟨sl,z⟩:=u4.slot b o e n hb hx;exact⟨sl,k1 b _ (neC b o e) z⟩
     ·rw[Zi (neD b o e)];exact u4.free b o e n hx
     ·obtain⟨o',z⟩:=u4.there b o e hx;exact⟨o',k1 b o' (neC b o e) z⟩
     ·have z:=u4.tups b xs e;rw[Zi (trD b _ z)];exact z
     ·have z:=u4.frzs b ob u e;rw[Zi (trD b _ z)];exact z
     ·obtain⟨more,z⟩:=u4.tbls b ps e;exact⟨more,by rw[Zi (trD b _ z)];exact z⟩
    refine I.call' (s':={ s4 with heap:=h' }) (ch:=fp) (show s4.os=s.os from I4.os) un (fun b u e=>?_) I4.bare fun b hb=>?_
    ·by_cases hb:b=D
     ·subst hb;rw[Zd] at e;cases e;exact⟨hsz,its,n3,rv3,k1 _ _ hDC plD⟩
     ·rw[Zi hb] at e;refine(I4.hok b u e).stay (fun d v hd q=>?_) (fun d q=>by rw[Zi (trD d _ q)];exact q) fun d xs q=>by rw[Zi (trD d _ q)];exact q
      rcases hd with z|z
      ·exact k1 d v (by rw[z];exact trC b u e) q
      ·exact k1 d v (trC d _ z) q
    ·obtain⟨f0,f1,f2,f3,f4,f5⟩:=hf b hb;exact⟨f3,f1,f4,f5⟩
   refine hRR D C s4 m4 hn4 (fun h' hs'=>⟨_,okU h' fun b o hb e=>hs'.extBut b o hb e,fin D fD3⟩) ⟨_,okU s4.heap fun _ _ _ e=>e,fin D fD3,?_⟩ ⋯
   ·rw[Zi (Ne.symm hDC)];exact I4.free
  ·refine wpAny_mono (T.item (Y0 X (X.pn++pins) (xo++ys) scope cl s H fp C) rfl rfl rfl hcm i _ s3 _ H3 (fun _ _=>False) I3' (fun b hb=>frE fr3 hb) st3 go) (fun r s4 ⟨u,hr,h4⟩=>?_) fun _ _ z=>z.elim;subst hr;refine wpAny_mono h4 (fun _ s5 h5=>?_) fun _ _ z=>z.elim;obtain⟨xv,H5,I5,r5,y5,st5,fr5⟩:=h5;have I5':=I5.pinned (fun b hb=>frE fr5 hb) (T.obj _ _ st5);refine wpAny_mono (hgt _ _ _ _ _ _ s5 _ H5 xv u _ I5' r5 (step xv H5 y5)) (fun _ s6 ⟨σ6,H6,I6,own6,q6⟩=>?_) fun _ _ z=>z.elim;refine wpAny_mono (ht _ _ _ _ _ _ s6 _ H6 _ I6 q6) (fun ok s7 ⟨H7,I7,q7⟩=>?_) fun _ _ z=>z.elim;have keepF:∀ {σ8:St} {H8:Hp} {s8:Shared},Inv (Y0 X (X.pn++pins) (xo++ys) scope cl s H fp C) ([(D,{ cls:=Value.type "list",data:=.seq its.toArray n3 })]++Mu fp s5.heap) σ8 H8 s8->tn (i+1) s8.heap/\(∀ b∈fp,H8 b=none)/\s8.heap.PlainList D its.toArray/\H8 D=none:=fun {σ8 H8 s8} I8=>by
    refine⟨T.keep _ _ _ st5 fun b hb o e=>(I8.pin (b,o) (zvr _ (zvr _ (Rt hb e)))).1,fun b hb=>?_,⟨n3,(I8.pin (D,_) (zvr _ zvy)).1⟩,(I8.pin (D,_) (zvr _ zvy)).2.1⟩;obtain⟨o,e,d⟩:=T.obj _ _ st5 b hb;exact(I8.pin (b,o) (zvr _ (zvr _ (Rt hb e)))).2.1
   have bare:∀ {σ8:St} {H8:Hp} {s8:Shared},Inv (Y0 X (X.pn++pins) (xo++ys) scope cl s H fp C) ([(D,{ cls:=Value.type "list",data:=.seq its.toArray n3 })]++Mu fp s5.heap) σ8 H8 s8->Inv (Y0 X (X.pn++pins) (xo++ys) scope cl s H fp C) [] σ8 H8 s8:=fun I8=>I8.pins_of fun _ z=>(nomatch z)
   cases ok with
   | false =>
     simp only[zwh,if_false] at q7 ⊢;obtain⟨m',hm',w7⟩:=hNx _ _ q7;obtain⟨a1,a2,a3,a4⟩:=keepF I7;exact⟨m',hm',i+1,H7,zs,its,own6.weak (bare I7),a1,a2,a3,rv3,a4,w7⟩
   | true =>
     simp only[if_true] at q7 ⊢;refine wpAny_mono (he _ _ _ _ _ _ s7 _ H7 _ I7 q7) (fun y s8 ⟨yv,H8,I8,r8,q8⟩=>?_) fun _ _ z=>z.elim;obtain⟨m',hm',w8⟩:=hNx _ _ q8;obtain⟨a1,a2,a3,a4⟩:=keepF I8;have szI:its.toArray.size<=sizeLine:=by rw[zvi,<- rv3.length];omega
     refine wpAny_list_append_plain (hsz:=szI) a3 fun h9 pl9 sb9=>?_;have I8b:=own6.weak (bare I8);refine⟨m',hm',i+1,H8,zs++[yv],its++[y],?_,T.keep _ _ _ a1 fun b hb o e=>(sb9.2 b (ltD b (lt0 b hb))).trans e,a2,by rw[List.push_toArray] at pl9;exact pl9,rv3.append (.cons r8 .nil),a4,w8⟩;refine I8b.turned (t':=s8.toks) (it:=D) (fun b o hb e=>(sb9.2 b hb).trans e) a4 hDC (.inr (show s.heap.objs.size<=D by omega)) (fun y' a h=>?_) fun p hp=>?_
     ·obtain⟨v,o,ho,_⟩:=I.cell y' a (c.same h);exact ltD a (below a o ho)
     ·obtain⟨e,_⟩:=I.pin p (by simpa [Y0] using hp);exact ltD _ (below _ _ e)
 exact codeAny_compStart_list (loop _ rfl) (T.self _ 0 _ _ _ (T.keep _ _ _ st0 fun b hb o e=>old b o e) (loop _ rfl))
variable{wi:TI}{tt:TT}{te:TE}
theorem N5(hcm:X.calm=true)(c:Og X xo scope cl ys js)(hi:PI X tg iter wi)(ht:∀ pn s₀ H₀ fp C,PTs (Y0 X pn (xo++ys) scope cl s₀ H₀ fp C) ifs tt)(hgt:∀ pn s₀ H₀ fp C,PG (Y0 X pn (xo++ys) scope cl s₀ H₀ fp C) tg g)(he:∀ pn s₀ H₀ fp C,PE (Y0 X pn (xo++ys) scope cl s₀ H₀ fp C) elt te)
  (hs:∀ x,foldedSetIterable iter X.env x=pure x:=by intro _;rfl):PE X (.ListComp elt [⟨tg,iter,ifs,0⟩] scope pos) (zf4 wi xo js g tt te):=by
 intro pins s σ H Q I h;rw[eval_ListComp];refine wpAny_comprehension_free (use:=none) rfl hs c.clos c.kind c.names (thn (hi pins s σ H _ I h) fun v s1 h1=>thn h1 fun itv s2 h2=>?_);obtain⟨it,fp,tn,J,H2,e,I2,T,st2,f2,W,⟨m0,w0⟩,turn⟩:=h2;subst e;exact Ii (RR:=fun acc C=>compPost (model X.prog X.w) X.A X.xe none (EP X pins σ Q) acc C) hcm c ht hgt he I2 T st2 f2 w0 turn fun D C s' m hn hS _ _=>⟨m,hn,fun h' hs'=>let ⟨H',I',q⟩:=hS h' hs';⟨.ref D,H',I',rfl,q⟩⟩
end
end L2
namespace G
open PySem PySem.Spec PyProof.Rows L2
theorem za1{K:Frag}{a:Addr}{xs:#[b]}{xo:List Str}{js:List Nat}{g:TG}{tt:TT}{te:TE}{σ:L2.St}{H:Hp}{Q:VK}(p:Nat->Bool)(f:Nat->V)(hz:xs.length<=1000)(hx:SqL K H a xs)
  (step:∀ (i:Nat) (x:V) (t:Addr) (H':Hp) (N:#[b]->Hp->Prop) (ys:#[b]),xs[i]?=some x->Same H H'->H' t=none->(∀ H2,Same H H2->N (if p i=true then ys++[f i] else ys) H2) ->
   g (.ref t) (cs0 xo js σ) (upd H' t (.tup [.int (i:Nat),x])) fun σ2 H1=>Rx xo js σ σ2/\tt σ2 H1 fun b H2=>if b=true then te σ2 H2 fun y H3=>N (ys++[y]) H3 else N ys H2)
  (fin:∀ (H':Hp) (l:Addr),Same H H'->H' l=none->Q (.ref l) (upd H' l (.lst (((List.range xs.length).filter p).map f)))):D4 (Ite K a) xo js g tt te σ H Q:=by
 have line:1000<sizeLine:=by rw[sizeLine_eq];decide
 refine⟨fun i m ys H'=>m=xs.length-i/\i<=xs.length/\Same H H'/\ys=((List.range i).filter p).map f,⟨xs.length,by simp,zvw _,fun _ _ q=>q,by simp⟩,?_⟩;rintro i m ys H' ⟨rfl,hi,hs,rfl⟩;have hq:=hs.seq hx;have hlen:(((List.range i).filter p).map f).length<=i:=by
  rw[zu2];exact zvh (zvz _ _) (by rw[zv4];exact zvd _)
 by_cases hlt:i<xs.length
 ·refine .inr ⟨⟨xs,xs[i],hq,by simp[hlt]⟩,by omega,fun ys' H2=>Same H H2/\ys'=((List.range (i+1)).filter p).map f,fun ys' H2 ⟨h1,h2⟩=>⟨xs.length-(i+1),by omega,rfl,hlt,h1,h2⟩,fun x H2 y=>?_⟩;obtain⟨t,y,h1,h2,rfl,rfl⟩:=y;refine step i y t H' (fun ys' H2=>Same H H2/\ys'=((List.range (i+1)).filter p).map f) _ (h2 xs hq) hs h1 fun H2 s2=>⟨s2,?_⟩
  rw[List.range_succ,zwi,zu9];cases hp:p i with
  | true=>rw[if_pos rfl,zwd,if_pos hp];rfl
  | false=>rw[if_neg ⋯,zwd,if_neg (by rw[hp];decide)];simp
 ·have e:i=xs.length:=by omega
  subst e;exact .inl ⟨⟨xs,hq,zvd _⟩,by omega,fun l hl=>fin H' l hs hl⟩
theorem Ey:∀ (a b:List (Nat×Option Int)) (xs:List V),Yu (a++b) xs=Yu b (Yu a xs)
 | [],_,_=>rfl
 | (p,w) :: r,b,xs=>by rw[List.cons_append,Yu,Yu,Ey r b]
structure Jy(kvs:List (Key×V))(gs:#[b]):Prop where
 has:∀ (n:Int) (j:Nat),gs[j]?=#[e,n]->valV kvs (inl n:Key)=#[e,(j:Nat)]
 not:∀ n:Int,(∀ j:Nat,gs[j]?≠#[e,n])->valV kvs (inl n:Key)=none
theorem Jy.iff(t:Jy kvs gs)(n:Int):(∃ j:Nat,gs[j]?=some (.int n)/\valV kvs (inl n:Key)=some (.int (j:Nat)))\/((∀ j:Nat,gs[j]?≠some (.int n))/\valV kvs (inl n:Key)=none):=by
 by_cases h:∃ j:Nat,gs[j]?=some (.int n)
 ·obtain⟨j,hj⟩:=h;exact .inl ⟨j,hj,t.has n j hj⟩
 ·have h':∀ j:Nat,gs[j]?≠some (.int n):=fun j hj=>h ⟨j,hj⟩;exact .inr ⟨h',t.not n h'⟩
inductive D5(K:Frag)(vs:#[b])(H:Hp)(Q:VK)(_:XK):Prop where
 | mk(b:Addr)(gs:#[b])(_:vs=[.ref b])(_:H b=#[a,.lst,gs])(_:(∀ x∈gs,oneV x))(_:(∀ (j k:Nat) (n:Int),gs[j]?=#[e,n]->gs[k]?=#[e,n]->j=k))(_:gs.length<=100)(_:∀ d kvs H',H' d=#[a,.dK,kvs]->Jy kvs gs->Same H H'->H d=none->Q (.ref d) H')
structure X3(H:Hp)(into:List (Key×V))(line:List Nat)(fr:Nat->Option (Nat×Int)):Prop where
 keys:into.map (·.1)=line.map fun q:Nat=>(inl (q:Int):Key)
 none:∀ q∈line,fr q=Option.none->valV into (inl (q:Int):Key)=some .non
 some:∀ q∈line,∀ par n,fr q=Option.some (par,n)->∃ t,valV into (inl (q:Int):Key)=Option.some (.ref t)/\H t=Option.some (.tup [.int (par:Nat),.int n])
theorem X3.same(e:Same H H')(h:X3 H into line fr):X3 H' into line fr :=
 ⟨h.keys,h.none,fun q hq par n hf=>let ⟨t,a,b⟩:=h.some q hq par n hf;⟨t,a,e _ _ b⟩⟩
theorem X3.len(h:X3 H into line fr):into.length=line.length:=by
 have:=congrArg List.length h.keys;rw[zu2,zu2] at this;exact this
theorem zf6{into:List (Key×V)}{k:Key}:(valV into k).isSome=true↔k∈into.map Prod.fst:=by
 unfold valV;rw[Option.isSome_map,List.find?_isSome];constructor
 ·rintro⟨p,hp,e⟩;exact zvb.mpr ⟨p,hp,of_decide_eq_true e⟩
 ·intro h;obtain⟨p,hp,rfl⟩:=zvb.mp h;exact⟨p,hp,zva rfl⟩
theorem X3.has{H:Hp}{into:List (Key×V)}{line:List Nat}{fr:Nat->Option (Nat×Int)}(h:X3 H into line fr)(q:Nat):(valV into (inl (q:Int):Key)).isSome=true↔q∈line:=by
 rw[zf6,h.keys];constructor
 ·intro z;obtain⟨q',h1,h2⟩:=zvb.mp z;have:(q':Int)=q:=inl.inj h2;have:q'=q:=by omega
  rw[<- this];exact h1
 ·intro hq;exact zvb.mpr ⟨q,hq,rfl⟩
inductive za2(K:Frag)(vs:#[b])(H:Hp)(Q:VK)(_:XK):Prop where
 | mk(l d:Addr)(ls:List Addr)(rows:List (List Int))(kvs:List (Key×V))(gs:#[b])(p:Nat)(_:vs=[.ref l,.ref d,.int p])(_:H l=some (.lst (ls.map V.ref)))(_:ILs H ls rows)(_:rows.length<=100)(_:H d=#[a,.dK,kvs])(_:Jy kvs gs)(_:Yk rows gs)(_:p<rows.length)(_:∀ t into line dep fr H',H' t=#[a,.dK,into]->X3 H' into line fr->Bfs rows gs p line dep->Done rows gs line dep line.length->Tf rows gs p line dep fr->(∀ q∈line,q<rows.length)->Same H H'->H t=none->Q (.ref t) H')
inductive Ez(K:Frag)(vs:#[b])(H:Hp)(Q:VK)(_:XK):Prop where
 | mk(l d:Addr)(r:List Int)(kvs:List (Key×V))(_:vs=[.ref l,.ref d])(_:H l=some (.lst (r.map V.int)))(_:H d=#[a,.dK,kvs])(_:∀ w:Option Int,(∀ n,w=some n->n∈r/\valV kvs (inl n:Key)=none)->(w=none->∀ n∈r,(valV kvs (inl n:Key)).isSome=true)->Q (oV w) H)
inductive Bt(K:Frag)(vs:#[b])(H:Hp)(Q:VK)(_:XK):Prop where
 | mk(t:Addr)(q p:Nat)(w:Option Int)(rows:List (List Int))(gs:#[b])(into:List (Key×V))(line:List Nat)(dep:Nat->Nat)(fr:Nat->Option (Nat×Int))(_:vs=[.ref t,.int q,oV w])(_:Rd H t (.dK into))(_:X3 H into line fr)(_:Tf rows gs p line dep fr)(_:dep p=0)(_:p∈line)(_:q∈line)(_:dep q<=100)(_:∀ lt ts st H',H' lt=#[a,.lst,ts]->Z9 H' ts (st.map Vn)->Ch rows gs p st q w->st.length=dep q+1->Same H H'->H lt=none->Q (.ref lt) H')
section
variable{rows:List (List Int)}{gs:#[b]}{p:Nat}{line:List Nat}{dep:Nat->Nat}{fr:Nat->Option (Nat×Int)}{H H':Hp}{into:List (Key×V)}
def Km(fr:Nat->Option (Nat×Int))(q:Nat)(x:Nat×Int):Nat->Option (Nat×Int):=fun y=>if y=q then some x else fr y
theorem O0:Km fr q x q=some x:=by unfold Km;rw[if_pos rfl]
theorem N6(h:y≠q):Km fr q x y=fr y:=by unfold Km;rw[if_neg h]
theorem Tf.app(F:Tf rows gs p line dep fr)(hn:q'∉line)(hp:p∈line)(hh:here∈line)(a:adjN rows gs here n q'):Tf rows gs p (line++[q']) (Vw dep q' (dep here+1)) (Km fr q' (here,n)):=by
 have ne:∀ x∈line,x≠q':=fun x hx z=>hn (by rw[<- z];exact hx);have old:∀ x∈line,Vw dep q' (dep here+1) x=dep x:=fun x hx=>by unfold Vw;rw[if_neg (ne x hx)]
 have new:Vw dep q' (dep here+1) q'=dep here+1:=by unfold Vw;rw[if_pos rfl]
 refine⟨by rw[N6 (ne p hp)];exact F.1,fun q hq hqp=>?_⟩;rcases zve.mp hq with z|z
 ·obtain⟨par,m,h1,h2,h3,h4⟩:=F.2 q z hqp;exact⟨par,m,by rw[N6 (ne q z)];exact h1,zvq _ h2,h3,by rw[old q z,old par h2];exact h4⟩
 ·rw[zu6.mp z];exact⟨here,n,O0,zvq _ hh,a,by rw[new,old here hh]⟩
theorem X3.mono(e:∀ t xs,H t=Option.some (.tup xs)->H' t=Option.some (.tup xs))(h:X3 H into line fr):X3 H' into line fr :=
 ⟨h.keys,h.none,fun q hq par n hf=>let ⟨t,a,b⟩:=h.some q hq par n hf;⟨t,a,e _ _ b⟩⟩
theorem X3.app(I:X3 H into line fr)(hn:q'∉line)(ht:H t=Option.some (.tup [.int (here:Nat),.int n])):X3 H (putK into (inl (q':Int)) (.ref t)) (line++[q']) (Km fr q' (here,n)):=by
 have ne:∀ x∈line,x≠q':=fun x hx z=>hn (by rw[<- z];exact hx);have hv:valV into (inl (q':Int):Key)=Option.none:=by
  cases e:valV into (inl (q':Int):Key) with
  | none=>rfl
  | some y=>exact absurd ((I.has q').mp (by rw[e];rfl)) hn
 have val:∀ x∈line,valV (putK into (inl (q':Int)) (.ref t)) (inl (x:Int):Key)=valV into (inl (x:Int):Key):=fun x hx=>by
  rw[Vt,if_neg fun z=>ne x hx (by have:=inl.inj z;omega)]
 have valn:valV (putK into (inl (q':Int)) (.ref t)) (inl (q':Int):Key)=Option.some (.ref t):=by rw[Vt,if_pos rfl]
 refine⟨?_,fun q hq hf=>?_,fun q hq par m hf=>?_⟩
 ·rw[ze6 _ hv,zu9,zu9,I.keys];rfl
 ·rcases zve.mp hq with z|z
  ·rw[N6 (ne q z)] at hf;rw[val q z];exact I.none q z hf
  ·rw[zu6.mp z,O0] at hf;cases hf
 ·rcases zve.mp hq with z|z
  ·rw[N6 (ne q z)] at hf;rw[val q z];exact I.some q z par m hf
  ·rw[zu6.mp z,O0] at hf;cases hf;rw[zu6.mp z];exact⟨t,valn,ht⟩
theorem za3(H:Hp)(p:Nat):X3 H [((inl (p:Int):Key),V.non)] [p] fun _=>none :=
 ⟨rfl,fun q hq _=>by rw[zu6.mp hq];exact Xf rfl,fun q _ par n hf=>nomatch hf⟩
theorem za4:Tf rows gs p [p] (fun _=>0) fun _=>none:=⟨rfl,fun q hq hne=>absurd (zu6.mp hq) hne⟩
end
section
variable{rows:List (List Int)}{gs:#[b]}
theorem Ch.somes{q e:Nat}{st:#[i]}{w:Option Int}(h:Ch rows gs q st e w):w≠none->∀ s∈st,s.2≠none:=by
 induction h with
 | one q w=>intro hw s hs;simp at hs;subst hs;exact hw
 | step a h ih =>
   intro hw s hs;rcases zu7.mp hs with rfl|z
   ·exact fun z=>nomatch z
   ·exact ih hw s z
theorem Ch.near{q e:Nat}{st:#[i]}{w:Option Int}(h:Ch rows gs q st e w):∀ s∈st,s.1=q\/∃ m,gs[s.1]?=#[a,V.int,m]:=by
 induction h with
 | one q w=>intro s hs;simp at hs;subst hs;exact .inl rfl
 | @step q q' e n st w a h ih =>
   intro s hs;rcases zu7.mp hs with rfl|z
   ·exact .inl rfl
   ·rcases ih s z with z|z
    ·exact .inr ⟨n,by rw[z];exact a.2⟩
    ·exact .inr z
theorem Ch.single{q e:Nat}{st:#[i]}{w:Option Int}(h:Ch rows gs q st e w)(hl:st.length<=1):st=[(q,w)]/\e=q:=by
 cases h with
 | one=>exact⟨rfl,rfl⟩
 | step a h=>have:=h.pos;rw[zvp] at hl;omega
structure U6(rows:List (List Int))(gs:#[b])(i:Nat):Prop where
 fill:Yk rows gs
 ahead:∀ q n,gs[q]?=#[a,V.int,n]->q<i
 stuck:∀ p,p<i->gs[p]?=some .non->Pt rows gs p
theorem U6.non(F:U6 rows gs i)(hk:i<=k)(hr:k<rows.length):gs[k]?=some .non:=by
 have hl:k<gs.length:=by rw[F.fill.len];exact hr
 have e:=zu3 hl;rcases F.fill.one _ (zvx hl) with z|⟨n,z⟩
 ·rw[e,z]
 ·rw[z] at e;have:=F.ahead k n e;omega
theorem U6.step{i e:Nat}{st:#[i]}{w:Option Int}(F:U6 rows gs i)(hi:i<rows.length)(c:Xo rows gs i st e w):U6 rows (Yu st gs) (i+1):=by
 have hnon:=F.non (zvd i) hi;cases w with
 | none =>
   obtain⟨h1,h2,h3⟩:=c.none rfl;have hei:e=i:=by
    have hge:=h2 i 0 .nil;rcases(show e=i\/∃ m,gs[e]?=some (V.int m) by
     obtain⟨s,hs,rfl⟩:=zvb.mp c.ch.last;exact c.ch.near s hs) with z|⟨m,z⟩
    ·exact z
    ·have:=F.ahead e m z;omega
   have hst:st=[(i,none)]:=(c.ch.single (by have:=h3 0 (hei▸.nil);omega)).1;have hl:i<gs.length:=by rw[F.fill.len];exact hi
   have same:Yu st gs=gs:=by
    rw[hst];show gs.set i .non=gs;refine List.ext_getElem? fun k=>?_;by_cases hk:i=k
    ·subst hk;rw[zwc hl,hnon]
    ·rw[zv2 hk]
   rw[same];refine⟨F.fill,fun q n hq=>zw6 (F.ahead q n hq),fun p hp hpn=>?_⟩;by_cases hpi:p=i
   ·subst hpi;exact zfy F.fill hi F.ahead h1
   ·exact F.stuck p ⋯ hpn
 | some n0 =>
   obtain⟨hf,_⟩:=c.free n0 rfl;have nd:=c.nodup;have FP':=c.fill F.fill hi;have at_:∀ k,k<gs.length->(k∉st.map (·.1)/\(Yu st gs)[k]?=gs[k]?)\/∃ w,(k,w)∈st/\(Yu st gs)[k]?=#[a,oV,w]:=fun k hk=>Wt nd hk;have lt:∀ {k:Nat} {v:V},(Yu st gs)[k]?=some v->k<gs.length:=fun {k v} hk=>by
    have:=(zu4.mp hk).1;rw[Wf] at this;exact this
   refine⟨FP',fun q n hq=>?_,fun p hp hpn=>?_⟩
   ·rcases at_ q (lt hq) with ⟨_,h2⟩|⟨w',h1,_⟩
    ·rw[h2] at hq;exact zw6 (F.ahead q n hq)
    ·rcases c.ch.near _ h1 with z|⟨m,z⟩
     ·have:q=i:=z;omega
     ·exact zw6 (F.ahead q m z)
   ·rcases at_ p (lt hpn) with ⟨h1,h2⟩|⟨w',h1,h2⟩
    ·rw[h2] at hpn;have hpi:p≠i:=fun z=>by
      obtain⟨x,r,e⟩:=c.ch.hd;exact h1 (by rw[z,e];simp)
     exact(F.stuck p ⋯ hpn).behind F.fill c.ch hf hi nd
    ·have:=c.ch.somes (by simp) _ h1;rw[h2] at hpn;cases w' with
     | none=>exact absurd rfl this
     | some m=>cases hpn
theorem Fe(rows:List (List Int)):U6 rows (rows.map fun _=>V.non) 0:=by
 have h0:∀ (k:Nat) (n:Int),(rows.map fun _=>V.non)[k]?≠#[a,V.int,n]:=fun k n h=>by
  rw[zu8] at h;cases e:rows[k]? with
  | none=>rw[e] at h;cases h
  | some r=>rw[e] at h;cases h
 exact⟨⟨by rw[zu2],fun x hx=>by obtain⟨_,_,rfl⟩:=zvb.mp hx;exact .inl rfl,fun k n h=>absurd h (h0 k n),fun j k n h=>absurd h (h0 j n)⟩,fun q n h=>absurd h (h0 q n),fun p hp=>absurd hp (zxd _)⟩
theorem U6.last(F:U6 rows gs rows.length):Vv rows gs:=fun p hp=>F.stuck p (by have:=(zu4.mp hp).1;rw[F.fill.len] at this;exact this) hp
end
end G
namespace G
open PySem PySem.Spec PyProof.Rows L2
section
variable{rows:List (List Int)}{gs:#[b]}
theorem Ch.pred{q e:Nat}{st:#[i]}{w:Option Int}(h:Ch rows gs q st e w):∀ q'∈st.map (·.1),q'=q\/∃ q0 n,(q0,some n)∈st/\gs[q']?=#[a,V.int,n]:=by
 induction h with
 | one q w=>intro q' hq;simp at hq;exact .inl hq
 | @step q q1 e n st w a h ih =>
   intro q' hq;rw[zvg] at hq;rcases zu7.mp hq with z|z
   ·exact .inl z
   ·rcases ih q' z with z|⟨q0,m,h1,h2⟩
    ·exact .inr ⟨q,n,zvy,by rw[z];exact a.2⟩
    ·exact .inr ⟨q0,m,zvm _ h1,h2⟩
theorem Ch.reach{q e:Nat}{st:#[i]}{w:Option Int}(h:Ch rows gs q st e w):∀ q'∈st.map (·.1),∃ k,Walk rows gs q q' k:=by
 induction h with
 | one q w=>intro q' hq;simp at hq;rw[hq];exact⟨0,.nil⟩
 | @step q q1 e n st w a h ih =>
   intro q' hq;rw[zvg] at hq;rcases zu7.mp hq with z|z
   ·rw[z];exact⟨0,.nil⟩
   ·obtain⟨k,hk⟩:=ih q' z;exact⟨k+1,.cons a hk⟩
theorem Ch.noneLast{q e:Nat}{st:#[i]}{w:Option Int}(h:Ch rows gs q st e w):∀ k,(k,none)∈st->k=e/\w=none:=by
 induction h with
 | one q w=>intro k hk;simp at hk;exact⟨hk.1,hk.2.symm⟩
 | @step q q1 e n st w a h ih =>
   intro k hk;rcases zu7.mp hk with z|z
   ·cases z
   ·exact ih k z
theorem Ch.along{R:Nat->Prop}(hs:∀ q n q',adjN rows gs q n q'->R q->R q'){q e:Nat}{st:#[i]}{w:Option Int}(h:Ch rows gs q st e w):R q->R e:=by
 induction h with
 | one q w=>exact fun z=>z
 | step a h ih=>exact fun z=>ih (hs _ _ _ a z)
theorem Ch.lastMem{q e:Nat}{st:#[i]}{w:Option Int}(h:Ch rows gs q st e w):(e,w)∈st:=by
 induction h with
 | one q w=>simp
 | step a h ih=>exact zvm _ ih
theorem zf7{st:#[i]}(nd:(st.map (·.1)).Nodup){k:Nat}{w w':Option Int}(h:(k,w)∈st)(h':(k,w')∈st):w=w':=by
 induction st with
 | nil=>cases h
 | cons s r ih =>
   rw[zvg,zvt] at nd;rcases zu7.mp h with z|z<;>rcases zu7.mp h' with z'|z'
   ·rw[<- z] at z';exact(Prod.mk.inj z').2.symm
   ·exact absurd (zvb.mpr ⟨_,z',by rw[<- z]⟩) nd.1
   ·exact absurd (zvb.mpr ⟨_,z,by rw[<- z']⟩) nd.1
   ·exact ih nd.2 z z'
theorem zho{st:#[i]}{xs:#[b]}(nd:(st.map (·.1)).Nodup){k:Nat}{w:Option Int}(h:(k,w)∈st)(hk:k<xs.length):(Yu st xs)[k]?=#[a,oV,w]:=by
 rcases Wt nd hk with ⟨h1,_⟩|⟨w',h1,h2⟩
 ·exact absurd (zvb.mpr ⟨_,h,rfl⟩) h1
 ·rw[h2,zf7 nd h1 h]
theorem Ch.moved{p e:Nat}{st:#[i]}{w:Option Int}(FP:Yk rows gs)(h:Ch rows gs p st e w)(hp:p<rows.length)(hn:gs[p]?=some .non)(nd:(st.map (·.1)).Nodup){q':Nat}{n:Int}(hq:gs[q']?=#[a,V.int,n]) :
  (q'∉st.map (·.1)/\(Yu st gs)[q']?=some (V.int n))\/∃ q0,(q0,some n)∈st/\(Yu st gs)[q0]?=#[a,V.int,n]:=by
 have hl:q' < gs.length:=(zu4.mp hq).1;by_cases hm:q'∈st.map (·.1)
 ·rcases h.pred q' hm with z|⟨q0,m,h1,h2⟩
  ·rw[z,hn] at hq;cases hq
  ·rw[hq] at h2;cases h2;refine .inr ⟨q0,h1,?_⟩;have:=h.lt FP hp _ h1;exact zho nd h1 (by rw[FP.len];exact this)
 ·rcases Wt nd hl with ⟨_,h2⟩|⟨w',h1,_⟩
  ·exact .inl ⟨hm,by rw[h2];exact hq⟩
  ·exact absurd (zvb.mpr ⟨_,h1,rfl⟩) hm
end
section
variable{rows:List (List Int)}{gs:#[b]}{p e:Nat}{x:Int}{st:#[i]}{w:Option Int}
def without(rows:List (List Int))(x:Int):List (List Int):=rows.map fun r=>r.filter fun n=>decide (n≠x)
theorem Sd{q:Nat}{r':List Int}(h:(without rows x)[q]?=some r'):∃ r,rows[q]?=some r/\∀ n∈r',n∈r/\n≠x:=by
 unfold without at h;rw[zu8] at h;cases e:rows[q]? with
 | none=>rw[e] at h;cases h
 | some r =>
   rw[e] at h;cases h;exact⟨r,rfl,fun n hn=>⟨(zv3.mp hn).1,of_decide_eq_true (zv3.mp hn).2⟩⟩
theorem U7(FP:Yk rows gs)(hx:gs[p]?=#[e,x]):Yk (without rows x) (gs.set p .non):=FP.without hx _ fun n hn=>by
 have:=of_decide_eq_false hn;rw[Classical.not_not.mp this]
theorem zf8(hx:gs[p]?=#[e,x]):(gs.set p V.non)[p]?=some .non:=by rw[zwc (zu4.mp hx).1]
theorem zch(hx:gs[p]?=#[e,x])(h:(gs.set p V.non)[q]?=#[e,n]):gs[q]?=#[e,n]/\q≠p:=by
 by_cases e:p=q
 ·subst e;rw[zf8 hx] at h;cases h
 ·rw[zv2 e] at h;exact⟨h,Ne.symm e⟩
theorem N7{q:Nat}{n:Int}(hx:gs[p]?=#[e,x])(h:gs[q]?=#[e,n])(hn:n≠x):(gs.set p V.non)[q]?=#[e,n]:=by
 rw[zv2 (fun z=>by subst z;rw[hx] at h;cases h;exact hn rfl)];exact h
theorem Bu(FP:Yk rows gs)(SP:Vv rows gs)(hx:gs[p]?=#[e,x])(C:Xo (without rows x) (gs.set p .non) p st e w):Vv (without rows x) (Yu st (gs.set p .non)):=by
 have FP0:=U7 FP hx;have hRl:(without rows x).length=rows.length:=by unfold without;rw[zu2]
 have hp:p<rows.length:=by have:=(zu4.mp hx).1;rw[FP.len] at this;exact this
 have hp0:p<(without rows x).length:=by rw[hRl];exact hp
 have nd:=C.nodup;have hpm:p∈st.map (·.1):=by obtain⟨y,r,e'⟩:=C.ch.hd;rw[e'];simp
 have moved:=fun {q':Nat} {n:Int} (hq:(gs.set p V.non)[q']?=#[a,V.int,n])=>C.ch.moved FP0 hp0 (zf8 hx) nd hq;have closedT:w=none->∀ q,(∃ k,Walk (without rows x) (gs.set p .non) p q k)->q<(without rows x).length/\∀ r,(without rows x)[q]?=some r->∀ n∈r,∃ q2,q2<e/\(Yu st (gs.set p .non))[q2]?=#[e,n]/\∃ k,Walk (without rows x) (gs.set p .non) p q2 k:=by
  rintro hw q ⟨k,hk⟩;obtain⟨c1,c2,c3⟩:=C.none hw;refine⟨?_,fun r hr n hn=>?_⟩
  ·cases hk with
   | nil=>exact hp0
   | snoc _ a =>
     have:=(zu4.mp a.2).1;rw[FP0.len] at this;exact this
  ·by_cases hf:∃ j:Nat,(gs.set p V.non)[j]?=some (V.int n)
   ·obtain⟨q1,hq1⟩:=hf;have w1:Walk (without rows x) (gs.set p .non) p q1 (k+1):=.snoc hk ⟨⟨r,hr,hn⟩,hq1⟩;rcases moved hq1 with ⟨m1,m2⟩|⟨q0,m1,m2⟩
    ·refine⟨q1,?_,m2,_,w1⟩;have:=c2 q1 _ w1;have hne:q1≠e:=fun z=>m1 (by rw[z];exact C.ch.last);omega
    ·obtain⟨k0,hk0⟩:=C.ch.reach q0 (zvb.mpr ⟨_,m1,rfl⟩);refine⟨q0,?_,m2,k0,hk0⟩;have:=c2 q0 _ hk0;have hne:q0≠e:=fun z=>by
      have hl:=C.ch.lastMem;rw[z] at m1;rw[hw] at hl;have:=zf7 nd m1 hl;cases this
     omega
   ·exact absurd ⟨n,⟨r,hr,hn⟩,fun j hj=>hf ⟨j,hj⟩⟩ (c1 q k hk)
 intro p0 hpn;have hl0:p0<(gs.set p V.non).length:=by have:=(zu4.mp hpn).1;rw[Wf] at this;exact this
 rcases Wt nd hl0 with ⟨a1,a2⟩|⟨w',a1,a2⟩
 ·rw[a2] at hpn;have hpp:p≠p0:=fun z=>a1 (by rw[<- z];exact hpm);rw[zv2 hpp] at hpn;obtain⟨S0,hS,cl⟩:=SP p0 hpn;have inS:∀ q k,Walk rows gs p0 q k->S0 q:=fun q k hk=>by
   induction hk with
   | nil=>exact hS
   | @snoc q q' k n h a ih =>
     obtain⟨r,h1,h2⟩:=a.1;obtain⟨q'',_,h3,h4⟩:=(cl q ih).2 r h1 n h2;rw[<- FP.inj q'' q' n h3 a.2];exact h4
  have closed0:∀ q,(∃ k,Walk rows gs p0 q k)->q<rows.length/\∀ r,rows[q]?=some r->∀ n∈r,∃ q',q' < p0/\gs[q']?=#[e,n]/\∃ k,Walk rows gs p0 q' k:=by
   rintro q ⟨k,hk⟩;refine⟨(cl q (inS q k hk)).1,fun r hr n hn=>?_⟩;obtain⟨q',h1,h2,_⟩:=(cl q (inS q k hk)).2 r hr n hn;exact⟨q',h1,h2,k+1,.snoc hk ⟨⟨r,hr,hn⟩,h2⟩⟩
  have lt0:∀ q,(∃ k,Walk rows gs p0 q k)->q=p0\/q<p0:=by
   rintro q ⟨k,hk⟩;cases hk with
   | nil=>exact .inl rfl
   | @snoc q1 _ k n h a =>
     obtain⟨r,h1,h2⟩:=a.1;obtain⟨q',h3,h4,_⟩:=(closed0 q1 ⟨k,h⟩).2 r h1 n h2;rw[<- FP.inj q' q n h4 a.2];exact .inr h3
  have along:∀ {q:Nat} {st':List (Nat×Option Int)} {w':Option Int},Ch (without rows x) (gs.set p .non) q st' e w'->(∃ k,Walk rows gs p0 q k)->∃ k,Walk rows gs p0 e k:=fun {q st' w'} hc =>
   hc.along (R:=fun q=>∃ k,Walk rows gs p0 q k) fun q n q' a ⟨k,hk⟩=>by
    obtain⟨r',h1,h2⟩:=a.1;obtain⟨r,h3,h4⟩:=Sd h1;exact⟨k+1,.snoc hk ⟨⟨r,h3,(h4 n h2).1⟩,(zch hx a.2).1⟩⟩
  by_cases hpath:∃ q∈st.map (·.1),∃ k,Walk rows gs p0 q k
  ·obtain⟨q1,hq1,hk1⟩:=hpath;obtain⟨st',c1,_⟩:=C.ch.drop q1 hq1;have hRe:=along c1 hk1;cases hw:w with
   | some n0 =>
     obtain⟨⟨r',f1,f2⟩,f3⟩:=(C.free n0 hw).1;obtain⟨r,g1,g2⟩:=Sd f1;obtain⟨q',_,h2,_⟩:=(closed0 e hRe).2 r g1 n0 (g2 n0 f2).1;exact absurd (N7 hx h2 (g2 n0 f2).2) (f3 q')
   | none =>
     have clT:=closedT hw;obtain⟨_,cmax,_⟩:=C.none hw;have hep:e<p0:=by
      have hfe:∃ m,gs[e]?=#[a,V.int,m]:=by
       obtain⟨s,hs,hse⟩:=zvb.mp C.ch.last;rcases C.ch.near s hs with z|⟨m,z⟩
       ·rw[<- hse,z];exact⟨x,hx⟩
       ·rw[hse] at z;exact⟨m,(zch hx z).1⟩
      obtain⟨m,hm⟩:=hfe;rcases lt0 e hRe with z|z
      ·rw[z,hpn] at hm;cases hm
      ·exact z
     refine⟨fun q=>(∃ k,Walk rows gs p0 q k)\/∃ k,Walk (without rows x) (gs.set p .non) p q k,.inl ⟨0,.nil⟩,fun q hq=>?_⟩;rcases hq with hq|hq
     ·refine⟨by rw[hRl];exact(closed0 q hq).1,fun r' hr' n hn=>?_⟩;obtain⟨r,g1,g2⟩:=Sd hr';obtain⟨q',h1,h2,h3⟩:=(closed0 q hq).2 r g1 n (g2 n hn).1;rcases moved (N7 hx h2 (g2 n hn).2) with ⟨_,m2⟩|⟨q0,m1,m2⟩
      ·exact⟨q',h1,m2,.inl h3⟩
      ·obtain⟨k0,hk0⟩:=C.ch.reach q0 (zvb.mpr ⟨_,m1,rfl⟩);have:=cmax q0 k0 hk0;exact⟨q0,by omega,m2,.inr ⟨k0,hk0⟩⟩
     ·obtain⟨t1,t2⟩:=clT q hq;refine⟨t1,fun r hr n hn=>?_⟩;obtain⟨q2,h1,h2,h3⟩:=t2 r hr n hn;exact⟨q2,by omega,h2,.inr h3⟩
  ·refine⟨fun q=>∃ k,Walk rows gs p0 q k,⟨0,.nil⟩,fun q hq=>⟨by rw[hRl];exact(closed0 q hq).1,fun r' hr' n hn=>?_⟩⟩;obtain⟨r,g1,g2⟩:=Sd hr';obtain⟨q',h1,h2,h3⟩:=(closed0 q hq).2 r g1 n (g2 n hn).1;rcases moved (N7 hx h2 (g2 n hn).2) with ⟨_,m2⟩|⟨q0,m1,m2⟩
   ·exact⟨q',h1,m2,h3⟩
   ·rcases Wt nd (show q' < (gs.set p V.non).length from(zu4.mp (N7 hx h2 (g2 n hn).2)).1) with ⟨_,b2⟩|⟨w2,b1,_⟩
    ·exact⟨q',h1,by rw[b2];exact N7 hx h2 (g2 n hn).2,h3⟩
    ·exact absurd ⟨q',zvb.mpr ⟨_,b1,rfl⟩,h3⟩ hpath
 ·rw[a2] at hpn;cases w' with
  | some n=>cases hpn
  | none =>
    obtain⟨b1,b2⟩:=C.ch.noneLast p0 a1;subst b1;exact⟨_,⟨0+(C.ch.reach p0 (zvb.mpr ⟨_,a1,rfl⟩)).choose,by rw[Nat.zero_add];exact(C.ch.reach p0 (zvb.mpr ⟨_,a1,rfl⟩)).choose_spec⟩,closedT b2⟩
end
end G
namespace L2
open PySem PySem.Spec PyProof.Rows
inductive zhp(x:V)(vs:#[b])(H:Hp)(Q:VK):Prop where
 | mk(d e:Addr)(kvs more:List (Key×V))(_:x=.ref d)(_:vs=[.ref e])(_:d≠e)(_:H d=#[a,.dK,kvs])(_:H e=#[a,.dK,more])(_:kvs.length+more.length<=sizeLine)(_:Q .non (upd H d (.dK (Ud kvs more))))
theorem zdv:MtM X "dict.update" zhp:=by
 intro pins s σ H x vs v us Q I rx rv h;obtain⟨d,e,kvs,more,rfl,rfl,ne,hd,he,hz,q⟩:=h;cases rx;obtain⟨u,rfl,ru⟩:=rv.one;cases (show u=Value.ref e from ru);obtain⟨z1,lo1,vs1,r1,dd1⟩:=Ba I.hok hd;obtain⟨z2,lo2,vs2,r2,dd2⟩:=Ba I.hok he;refine call_meetsIn PySem.F.slot_dict_update dd1.typeIs PySem.F.entry_dict_update (PySem.F.args_dict_update_2 _ _) (meets_dict_update (Yj X.prog X.w) d e ne lo2) ⟨vs1,vs2,dd1,dd2,by rw[<- r1.length,<- r2.length];exact hz,fun h' dd1' dd2' hs=>?_⟩;have hex:∃ q,h'.get? d=some q:=let ⟨q,_,_,hq,_⟩:=dd1';⟨q,hq⟩;refine⟨.non,_,Po (t':=s.toks) I (by rw[hd];exact True.intro) hs hex (J6 ?_ lo1 (r2.merge r1) dd1'),rfl,q⟩;exact zvh (Sm more kvs) hz
section
variable{prog:Program}{w:World}{A:Around}{E:Value->Shared->Prop}{s:Shared}{T:String}{r d:Addr}{n:Nat}{P:Nat->Value->Prop}{OK:Heap->Prop}
open PySem.W in
theorem zf9(K:KdlSrc prog w T r d n P OK)(hh:A.handled=none)(hok:OK s.heap)(hn:n<=sizeLine)
  (h:∀ h' tk (acc:Array Value),(∀ b o,s.heap.get? b=some o->h'.get? b=some o)->s.heap.objs.size<=h'.objs.size->ItemsOf P acc n->Q acc.toList { s with heap:=h',toks:=tk }) :
  wpAny (model prog w) A (collect (.ref r)) Q E s:=by
 unfold collect;have hlt:=K.there _ hok;refine wpAny_bind (wpAny_runValue (codeAny_builtin entry_proto_collect' ?_));show wpAny _ _ (do again (.builtin "list.__iadd__" ⟨[<- newList [],.ref r],[]⟩)) _ _ s;refine wpAny_bind (wpAny_newList (wpAny_pure ⟨Code.quiet_builtin _ ⋯,codeAny_builtin entry_list_iadd' ?_⟩));show wpAny _ _ (Builtin.List.listExtendWith (.ref s.heap.objs.size) (.ref r) (.ref s.heap.objs.size)) _ _ { s with heap:=s.heap.push (seqObj "list" #[] 0) };have hS:(s.heap.push (seqObj "list" #[] 0)).get? s.heap.objs.size=some { cls:=.type "list",data:=.seq #[] 0 }:=Heap.get?_push_size _ rfl;rw[Around.under_plainId (show plainId "list.__iadd__"=true by decide +kernel) _];refine kdl_extend (R:=fun r s'=>match r with
   | .ok (.ret v)=>wpAny (model prog w) A (match v with
         | Value.ref a=>do
           let o <- load a
           match o.data with
            | Data.seq xs _=>pure xs.toList
            | _=>unsupported "internal:collect"
         | _=>unsupported "internal:collect") Q E s'
   | .ok _=>False
   | .error e=>E e s') (s:={ s with heap:=s.heap.push (seqObj "list" #[] 0) }) K hh (K.keep _ _ hok fun b _ o e=>Heap.get?_push_of_some _ e) s.heap.objs.size (Nat.ne_of_gt hlt.1) (Nat.ne_of_gt hlt.2) _ 0 hS (fun h' tk acc c' hk hS' hacc=>?_) hn
 show wpAny (model prog w) A (do
   let o <- load s.heap.objs.size
   match o.data with
   | .seq xs _=>pure xs.toList
   | _=>unsupported "internal:collect") Q E _
 refine wpAny_bind (wpAny_load hS' ?_);exact wpAny_pure (h h' tk acc (fun b o e=>hk b o (zvv (Heap.lt_size e)) (Heap.get?_push_of_some _ e)) (zxe (Heap.lt_size hS')) hacc)
theorem zci:∀ {its:List Value} {ns:List Int},its.length=ns.length->(∀ (j:Nat) (v:Value),its[j]?=some v->∃ t,v=.int (ns.getD j 0) t)->IntsAre its ns
 | [],[],_,_=>.nil
 | v :: its,n :: ns,hl,h=>by
   obtain⟨t,e⟩:=h 0 v rfl;rw[e];exact .cons _ t (zci (by simpa using hl) fun j u hu=>h (j+1) u hu)
 | [],_ :: _,hl,_=>by simp at hl
 | _ :: _,[],hl,_=>by simp at hl
theorem Ry(hc:X.calm=true):Vs X (.builtin "sorted") (fun xs H Q=>∃ (a:Addr) (kvs:List (Key×V)) (ns:List Int),xs=[.ref a]/\Rd H a (.dK kvs)/\kvs.map (·.1)=ns.map (inl:Int->Key)/\ns.length<64/\∀ (l:Addr) (ns':List Int),H l=none->ns'.Perm ns->ns'.Pairwise (·<=·)->Q (.ref l) (upd H l (.lst (ns'.map V.int)))):=by
 intro pins s σ H xs us Q I r h;obtain⟨a,kvs,ns,rfl,ha,hns,h64,q⟩:=h;obtain⟨u,rfl,ru⟩:=Qi r;cases (show u=Value.ref a from ru);obtain⟨hz,lo,vs,kv,o,es,ep,e1,e2⟩:=Qj I.hok ha;have hl:kvs.length=vs.length:=KV.length kv;have hnl:ns.length=kvs.length:=by have:=congrArg List.length hns;rw[zu2,zu2] at this;exact this.symm
 refine Calls.call_function_entry kind_sorted plain_sorted entry_sorted (args_sorted1 _) ?_;unfold Builtin.«sorted»;refine wpAny_bind (m:=checkCount "sorted" 1 1 _) (wpAny_pure ?_);refine wpAny_bind (zf9 (PySem.W.kdl_dict (knd:=Yj X.prog X.w) (kvs:=vs) (ep:=ep) lo) (I.ok.hd hc) ⟨o,es,e1,e2⟩ (by rw[<- hl];exact hz) fun h' tk acc hk hsz hacc=>?_);have hI:IntsAre acc.toList ns:=by
  refine zci (by have:=hacc.1;simp only[Array.length_toList];omega) fun j v hv=>?_;obtain⟨k,y,hk1,hk2⟩:=hacc.2 j v (by rw[<- Array.getElem?_toList];exact hv);have ek:=congrArg (·[j]?) (KV.keys kv);have en:=congrArg (·[j]?) hns;simp only[zu8,hk1,zv6] at ek en;cases hkv:kvs[j]? with
  | none=>rw[hkv] at ek;cases ek
  | some p =>
    rw[hkv] at ek en;cases hn:ns[j]? with
    | none=>rw[hn] at en;cases en
    | some m =>
      rw[hn] at en;have e3:p.1=k:=Option.some.inj ek;have e4:p.1=inl m:=Option.some.inj en;rw[<- e3,e4] at hk2;rw[zvu,hn];rcases Yq (show J0 (inl m:Key) v=true from hk2) with ⟨i,t,e5,e6⟩|⟨z,t,e5,_⟩
      ·cases e5;exact⟨t,e6⟩
      ·cases e5
 refine wpAny_bind (wpAny_newList ?_);have hoL:(h'.push (seqObj "list" acc.toList.toArray 0)).get? h'.objs.size=some (seqObj "list" acc.toList.toArray 0):=Heap.get?_push_size _ rfl;show wpAny _ _ _ _ _ { s with heap:=h'.push (seqObj "list" acc.toList.toArray 0),toks:=tk };refine wpAny_bind (wpAny_holding (wpAny_call_entry slot_list_sort ⟨_,hoL,rfl⟩ entry_list_sort (list_sort_tree hoL hI (by simp only[Array.length_toList];have:=hacc.1;omega) fun out ns' a1 a2 a3=>⟨_,rfl,?_⟩) (args_list_sort _)));have hge:s.heap.objs.size<=h'.objs.size:=hsz;have hf:H h'.objs.size=none:=I.hok.fresh hge;refine wpAny_pure ⟨_,rfl,.ref h'.objs.size,upd H h'.objs.size (.lst (ns'.map V.int)),I.laid (t':=tk) (fun b u eb=>?_) hge ?_,rfl,q _ ns' hf a2 a3⟩
 ·have e0:=hk b u eb;have hb:b<(h'.push (seqObj "list" acc.toList.toArray 0)).objs.size:=Heap.lt_size (Heap.get?_push_of_some _ e0);rw[sortedHeap_old (zvv (Heap.lt_size e0)) hb];exact Heap.get?_push_of_some _ e0
 ·obtain⟨e9,h9⟩:=sortedHeap_at (out:=out) hoL;exact⟨by rw[zu2,a2.length_eq];exact zxe (Vm ⋯),out.toList,e9,My a1,h9⟩
end
end L2
namespace G
open PySem PySem.Spec PyProof.Rows L2
section
variable{α:Type}[DecidableEq α]{f:α->Key}
def Ij(acc:List α)(x:α):List α:=if x∈acc then acc else acc++[x]
def E2(pl ml:List α):List α:=ml.foldl Ij pl
theorem Ik(hf:∀ a b,f a=f b->a=b)(h:kvs.map (·.1)=pl.map f)(x:α)(v:V):(putK kvs (f x) v).map (·.1)=(Ij pl x).map f:=by
 have ha:(kvs.any fun kv=>decide (kv.1=f x))=true↔x∈pl:=by
  rw[List.any_eq_true];constructor
  ·rintro⟨kv,h1,h2⟩;have:kv.1∈kvs.map (·.1):=zvb.mpr ⟨_,h1,rfl⟩;rw[h] at this;obtain⟨y,h3,h4⟩:=zvb.mp this;rw[<- hf _ _ (h4.trans (of_decide_eq_true h2))];exact h3
  ·intro hx;have:f x∈kvs.map (·.1):=by rw[h];exact zvb.mpr ⟨_,hx,rfl⟩
   obtain⟨kv,h1,h2⟩:=zvb.mp this;exact⟨kv,h1,zva h2⟩
 unfold putK Ij;by_cases hx:x∈pl
 ·rw[if_pos (ha.mpr hx),if_pos hx,<- h,zwn];refine zwo fun kv _=>?_;show (if kv.1=f x then (kv.1,v) else kv).1=kv.1;split<;>rfl
 ·rw[if_neg fun z=>hx (ha.mp z),if_neg hx,zu9,zu9,h];rfl
theorem Il(hf:∀ a b,f a=f b->a=b):∀ {more kvs:List (Key×V)} {pl ml:List α},kvs.map (·.1)=pl.map f->more.map (·.1)=ml.map f->(Ud kvs more).map (·.1)=(E2 pl ml).map f
 | [],kvs,pl,[],h,_=>h
 | p :: more,kvs,pl,x :: ml,h,h2=>by
   rw[zvg,zvg] at h2;injection h2 with e1 e2;have:=Ik hf h x p.2;rw[<- e1] at this;exact Il hf (kvs:=putK kvs p.1 p.2) (pl:=Ij pl x) (ml:=ml) this e2
 | [],_,_,_ :: _,_,h2=>by simp at h2
 | _ :: _,_,_,[],_,h2=>by simp at h2
theorem Im{pl:List α}{x y:α}:y∈Ij pl x↔y∈pl\/y=x:=by
 unfold Ij;by_cases h:x∈pl
 ·rw[if_pos h];exact⟨.inl,fun z=>z.elim id fun e=>by rw[e];exact h⟩
 ·rw[if_neg h];simp
theorem O1{pl:List α}{x:α}(h:pl.Nodup):(Ij pl x).Nodup:=by
 unfold Ij;by_cases hx:x∈pl
 ·rw[if_pos hx];exact h
 ·rw[if_neg hx,List.nodup_append];exact⟨h,by simp,fun a ha b hb e=>hx (by rw[zu6.mp hb] at e;rw[<- e];exact ha)⟩
theorem E3:∀ {ml pl:List α} {y:α},y∈E2 pl ml↔y∈pl\/y∈ml
 | [],pl,y=>by unfold E2;simp
 | x :: ml,pl,y=>by
   show y∈E2 (Ij pl x) ml↔_;rw[E3,Im,zu7,or_assoc]
theorem Kn:∀ {ml pl:List α},pl.Nodup->(E2 pl ml).Nodup
 | [],pl,h=>h
 | x :: ml,pl,h=>Kn (ml:=ml) (O1 h)
end
theorem zle:∀ a b:Int,(inl a:Key)=inl b->a=b:=fun a b h=>inl.inj h
theorem zlz:∀ a b:Nat,(inl (a:Int):Key)=inl (b:Int)->a=b:=fun a b h=>by have:=inl.inj h;omega
theorem Io{α:Type}[DecidableEq α]{a b:List α}(ha:a.Nodup)(hb:b.Nodup)(h:∀ x,x∈a↔x∈b):a.length=b.length :=
 Nat.le_antisymm (ha.length_le_of_subset fun x hx=>(h x).mp hx) (hb.length_le_of_subset fun x hx=>(h x).mpr hx)
section
variable{rows:List (List Int)}{gs:#[b]}
def Bv(rows:List (List Int))(gs:#[b]):Prop:=∀ p,gs[p]?=some .non->∀ q k,Walk rows gs p q k->¬ Us rows gs q
structure Ip(rows:List (List Int))(gs:#[b])(ps:List Nat)(rs:List Int):Prop where
 up:ps.Pairwise (· < ·)
 lt:∀ p∈ps,p<rows.length
 rup:rs.Pairwise (· < ·)
 all:∀ n,n∈rs↔∃ p∈ps,∃ r,rows[p]?=some r/\n∈r
 cnt:ps.length=rs.length+(Xr gs).length
 nil:Xr gs=[]->ps=[]
 gap:∀ p,gs[p]?=some .non->p∈ps
 has:∀ n∈rs,∃ p∈ps,gs[p]?=#[e,n]
theorem Tg:p∈Xr gs↔gs[p]?=some .non:=by
 unfold Xr;rw[zv3,zv9];constructor
 ·exact fun h=>of_decide_eq_true h.2
 ·exact fun h=>⟨(zu4.mp h).1,zva h⟩
theorem za5:(Xr gs).Nodup:=List.nodup_range.filter _
def Bw(x:Option V):Option Int:=match x with|some (.int n)=>some n|_=>none
theorem Rz:Bw x=some n↔x=#[e,n]:=by
 unfold Bw;constructor
 ·intro h;split at h
  ·cases h;rfl
  ·cases h
 ·intro h;rw[h]
theorem zih:∀ {ps:List Nat},(∀ p∈ps,∃ x,gs[p]?=some x/\oneV x)->ps.length=(ps.filterMap fun p=>Bw gs[p]?).length+(ps.filter fun p=>decide (gs[p]?=some .non)).length
 | [],_=>rfl
 | p :: ps,h=>by
   have ih:=zih (ps:=ps) fun q hq=>h q (zvm _ hq);obtain⟨x,hx,ho⟩:=h p zvy;rcases ho with rfl|⟨n,rfl⟩
   ·rw[List.filterMap_cons_none (by rw[hx];rfl),zwj (by rw[hx];simp),zvp,zvp,ih];omega
   ·rw[List.filterMap_cons_some (b:=n) (by rw[hx];rfl),zwk (by rw[hx];simp),zvp,zvp,ih];omega
theorem Uw(FP:Yk rows gs):∀ {ps:List Nat},ps.Nodup->(ps.filterMap fun p=>Bw gs[p]?).Nodup
 | [],_=>zww
 | p :: ps,h=>by
   rw[zvt] at h;rw[zwz];split
   ·exact Uw FP h.2
   ·rename_i n hn;rw[zvt];refine⟨fun hm=>?_,Uw FP h.2⟩;obtain⟨q,hq,e⟩:=zwv.mp hm;have:=FP.inj p q n (Rz.mp hn) (Rz.mp e);rw[this] at h;exact h.1 hq
theorem zga(FP:Yk rows gs)(NA:Bv rows gs){pl:List Nat}{rl:List Int}(hpn:pl.Nodup)(hpm:∀ q,q∈pl↔∃ g k,gs[g]?=some .non/\Walk rows gs g q k)(hrn:rl.Nodup)(hrm:∀ n,n∈rl↔∃ p∈pl,∃ r,rows[p]?=some r/\n∈r)
  {pi rs:List Int} (h1:pi.Perm (pl.map fun q:Nat=>(q:Int))) (h2:pi.Pairwise (·<=·)) (h3:rs.Perm rl) (h4:rs.Pairwise (·<=·)):∃ ps:List Nat,pi=ps.map (fun q:Nat=>(q:Int))/\Ip rows gs ps rs:=by
 have hlt:∀ q∈pl,q<rows.length:=fun q hq=>by
  obtain⟨g,k,hg,hw⟩:=(hpm q).mp hq;cases hw with
  | nil=>rw[<- FP.len];exact(zu4.mp hg).1
  | snoc _ a=>rw[<- FP.len];exact(zu4.mp a.2).1
 have hpi:∀ x∈pi,0<=x:=fun x hx=>by
  obtain⟨q,_,e⟩:=zvb.mp (h1.mem_iff.mp hx);rw[<- e];omega
 have epi:pi=(pi.map Int.toNat).map (fun q:Nat=>(q:Int)):=by
  rw[zwn]
  conv=>lhs;rw[<- List.map_id pi]
  refine zwo fun x hx=>?_;show x=((x.toNat:Nat):Int);rw[zw9 (hpi x hx)]
 have hpp:(pi.map Int.toNat).Perm pl:=by
  have:=h1.map Int.toNat;rw[zwn] at this;have e:pl.map (Int.toNat∘fun q:Nat=>(q:Int))=pl:=by
   conv=>rhs;rw[<- List.map_id pl]
   exact zwo fun q _=>zvj q
  rw[e] at this;exact this
 have nps:(pi.map Int.toNat).Nodup:=hpp.nodup_iff.mpr hpn;have strictly:∀ {l:List Int},l.Pairwise (·<=·)->l.Nodup->l.Pairwise (· < ·):=fun {l} a b=>(List.Pairwise.and a b).imp fun ⟨x,y⟩=>by omega
 generalize hps:pi.map Int.toNat=ps at epi hpp nps;have npi:pi.Nodup:=h1.nodup_iff.mpr (List.pairwise_map.mpr (hpn.imp fun h z=>h ⋯));have mem:∀ q,q∈ps↔q∈pl:=fun q=>hpp.mem_iff;have rmem:∀ n,n∈rs↔n∈rl:=fun n=>h3.mem_iff;have nrs:rs.Nodup:=h3.nodup_iff.mpr hrn;have gap:∀ p,gs[p]?=some .non->p∈ps:=fun p hp=>(mem p).mpr ((hpm p).mpr ⟨p,0,hp,.nil⟩);have all:∀ n,n∈rs↔∃ p∈ps,∃ r,rows[p]?=some r/\n∈r:=fun n=>by
  rw[rmem,hrm];exact⟨fun ⟨p,a,b⟩=>⟨p,(mem p).mpr a,b⟩,fun ⟨p,a,b⟩=>⟨p,(mem p).mp a,b⟩⟩
 have has:∀ n∈rs,∃ p∈ps,gs[p]?=#[e,n]:=fun n hn=>by
  obtain⟨p,hp,r,h5,h6⟩:=(all n).mp hn;obtain⟨g,k,hg,hw⟩:=(hpm p).mp ((mem p).mp hp);by_cases hx:∃ j:Nat,gs[j]?=some (V.int n)
  ·obtain⟨j,hj⟩:=hx;exact⟨j,(mem j).mpr ((hpm j).mpr ⟨g,k+1,hg,.snoc hw ⟨⟨r,h5,h6⟩,hj⟩⟩),hj⟩
  ·exact absurd ⟨n,⟨r,h5,h6⟩,fun j hj=>hx ⟨j,hj⟩⟩ (NA g hg p k hw)
 refine⟨ps,epi,?_,fun p hp=>hlt p ((mem p).mp hp),strictly h4 nrs,all,?_,fun hz=>?_,gap,has⟩
 ·have:=strictly h2 npi;rw[epi,List.pairwise_map] at this;exact this.imp fun h=>by omega
 ·have hone:∀ p∈ps,∃ x,gs[p]?=some x/\oneV x:=fun p hp=>by
   have hl:p<gs.length:=by rw[FP.len];exact hlt p ((mem p).mp hp)
   exact⟨_,zu3 hl,FP.one _ (zvx hl)⟩
  rw[zih hone]
  congr 1
  ·refine Io (Uw FP nps) nrs fun n=>?_;rw[zwv];constructor
   ·rintro⟨p,hp,e⟩;have e:=Rz.mp e;obtain⟨r,h5,h6⟩:=FP.may p n e;exact(all n).mpr ⟨p,hp,r,h5,h6⟩
   ·intro hn;obtain⟨p,hp,e⟩:=has n hn;exact⟨p,hp,Rz.mpr e⟩
  ·refine Io (nps.filter _) za5 fun p=>?_;rw[zv3,Tg];exact⟨fun h=>of_decide_eq_true h.2,fun h=>⟨gap p h,zva h⟩⟩
 ·cases hc:ps with
  | nil=>rfl
  | cons p r =>
    have hp:p∈ps:=by rw[hc];simp
    obtain⟨g,_,hg,_⟩:=(hpm p).mp ((mem p).mp hp);have:=Tg.mpr hg;rw[hz] at this;cases this
end
inductive zcj(K:Frag)(vs:#[b])(H:Hp)(Q:VK)(_:XK):Prop where
 | mk(l lg:Addr)(ls:List Addr)(rows:List (List Int))(nu:List Int)(gs:#[b])(_:vs=[.ref l,.ref lg])(_:H l=some (.lst (ls.map V.ref)))(_:ILs H ls rows)(_:Ql rows nu)(_:H lg=#[a,.lst,gs])(_:Yk rows gs)(_:Bv rows gs)(_:∀ t lp lr ps rs H',H' t=#[a,.tup,[.ref lp,.ref lr]]->H' lp=some (.lst (W0 ps))->H' lr=some (.lst (rs.map V.int))->Ip rows gs ps rs->Same H H'->H t=none->H lp=none->H lr=none->lp≠lr->Q (.ref t) H')
section
variable{rows:List (List Int)}{gs:#[b]}{p:Nat}{line:List Nat}{dep:Nat->Nat}{fr:Nat->Option (Nat×Int)}
def byV(x:Option (Nat×Int)):V:=match x with|none=>.non|some y=>.int (y.1:Nat)
structure zl5(by_:List (Key×V))(line:List Nat)(fr:Nat->Option (Nat×Int)):Prop where
 keys:by_.map (·.1)=line.map fun q:Nat=>(inl (q:Int):Key)
 val:∀ q∈line,valV by_ (inl (q:Int):Key)=some (byV (fr q))
structure zl6(rows:List (List Int))(gs:#[b])(dep:Nat->Nat)(q:Nat)(x:Int)(tl:#[i])(e:Nat)(n:Int):Prop where
 ch:Ch rows gs q ((q,some x) :: tl) e (some n)
 nd:(((q,some x) :: tl).map (·.1)).Nodup
 far:∀ s∈tl,dep q<dep s.1
end
inductive E4(K:Frag)(vs:#[b])(H:Hp)(Q:VK)(_:XK):Prop where
 | mk(t l lp lr:Addr)(ls:List Addr)(rows:List (List Int))(nu:List Int)(gs:#[b])(ps:List Nat)(rs:List Int)(_:vs=[.ref t,.ref l,.int ((Xr gs).length:Nat)])(_:H t=#[a,.tup,[.ref lp,.ref lr]])(_:H l=some (.lst (ls.map V.ref)))(_:ILs H ls rows)(_:Ql rows nu)(_:H lp=some (.lst (W0 ps)))(_:H lr=some (.lst (rs.map V.int)))(_:Ip rows gs ps rs)(_:∀ H',Same H H'->Q (.bl true) H')
section
variable{rows:List (List Int)}{gs:#[b]}
def zjv(rows:List (List Int))(gs:#[b])(p:Nat):Prop:=∀ q k,Walk rows gs p q k->¬ Us rows gs q
structure zlf(rows:List (List Int))(f k:Nat)(gs:#[b]):Prop where
 fill:Yk rows gs
 seen:∀ j,j<k->(∃ n,gs[(f+j)%rows.length]?=some (.int n))\/zjv rows gs ((f+j)%rows.length)
 later:∀ p,(∀ j,j<k->(f+j)%rows.length≠p)->p<rows.length->gs[p]?=some .non
theorem Bx{a b c:List Int}(h1:a.Perm b)(h2:a.Pairwise (·<=·))(hb:b.Nodup)(hc:c.Pairwise (· < ·))(h:∀ n,n∈b↔n∈c):a=c:=by
 have nc:c.Nodup:=hc.imp fun h z=>by omega
 have p:b.Perm c:=(List.perm_ext_iff_of_nodup hb nc).mpr h;exact(h1.trans p).eq_of_pairwise (le:=fun a b=>a<=b) (fun a b _ _ x y=>by omega) h2 (hc.imp fun h=>by omega)
end
end G
namespace PySem
theorem E5(f:α->β):∀ (l:List α) (j:Nat),(l.map f).eraseIdx j=(l.eraseIdx j).map f
 | [],_=>rfl
 | _ :: _,0=>rfl
 | x :: l,j+1=>by
   show f x :: (l.map f).eraseIdx j=f x :: (l.eraseIdx j).map f;rw[E5 f l j]
section
variable{prog:Program}{w:World}{K:Type}[DecidableEq K]{knd:HeapKind prog w K}{A:Around}{E:Value->Shared->Prop}{s:Shared}
theorem O2(hu:knd.room A)(hkey:knd.is s.heap k a)(hm:s.heap.DictOfH knd d xs)(hj:xs[j]?=some (k,p))(hsz:xs.length<=sizeLine)
  (hQ:∀ h',h'.DictOfH knd d (xs.eraseIdx j)->Heap.SameBut d s.heap h'->Q (some (entryOfKey knd (k,p))) { s with heap:=h',toks:=s.toks+knd.draws k }) :
  wpAny (model prog w) A (Builtin.Dict.takeOut d (.ref a)) Q E s:=by
 obtain⟨o,es,ep,ho,hc,hd,he,his,hn⟩:=hm;unfold Builtin.Dict.takeOut
 try with_reducible refine wpAny_holding ?_
 refine wpAny_bind (knd.pyHash hu hkey (wpAny_bind (wpAny_dictFind_heap (s:={ s with toks:=s.toks+knd.draws k }) hu hkey ho hd he his hn ?_ ?_)))
 ·intro hno;exact absurd hj (hno j p)
 ·intro j' p' hj';have ej:=idxH_unique hn hj' hj;subst ej;refine wpAny_bind (wpAny_dictEntries (s:={ s with toks:=s.toks+knd.draws k }) ho hd ?_);rw[entry_at he j',hj];refine wpAny_bind (wpAny_updateDictKeys (hz:=by have e:=size_of_entries he;omega) (s:={ s with toks:=s.toks+knd.draws k }) ho hd (wpAny_pure (hQ _ ⟨_,_,ep+1,Heap.get?_update_self _ ho (Obj.isFreed_of_dict (Obj.data_mapDictKeys hd _)),
   hc.mapDictKeys _,Obj.data_mapDictKeys hd _,?_,?_,?_⟩ (Heap.SameBut.update ..))))
  ·obtain⟨l⟩:=es;simp only at he;simp[he,E5]
  ·intro x hx;exact knd.keeps (his x (List.mem_of_mem_eraseIdx hx)) ho hd (Heap.SameBut.update ..)
  ·have:=hn.sublist (List.Sublist.map (·.1) (List.eraseIdx_sublist xs j'));exact this
theorem K3(d a:Addr)(k:K) :
  MeetsIn prog w (Builtin.«dict.pop» ⟨[.ref d,.ref a],[]⟩) (fun A R s=>knd.room A.in1/\knd.is s.heap k a/\∃ xs j p,s.heap.DictOfH knd d xs/\xs.length<=sizeLine/\xs[j]?=some (k,p) /\
   ∀ h' t',h'.DictOfH knd d (xs.eraseIdx j)->Heap.SameBut d s.heap h'->R (.ok (.ret p.2)) { s with heap:=h',toks:=t' }) :=
 .of_wp fun A R s ⟨hu,hkey,xs,j,p,hm,hsz,hj,h⟩=>by
  obtain⟨o,es,ep,ho,hc,hd,he,his,hn⟩:=id hm;unfold Builtin.«dict.pop»;refine wpAny_bind ?_;unfold Builtin.Dict.keyAndDefault;refine wpAny_bind (wpAny_notOrdered_dict hm.typeIs ?_);show wpAny _ _ (pure (d,Value.ref a,none)) _ _ s;refine wpAny_pure ?_;have hp:(keyPart (Value.ref a)).isSome=false:=rfl;simp only[hp,zwh,if_false];refine wpAny_bind (wpAny_dictEntries ho hd (wpAny_bind (wpAny_pure ?_)));have hne:es.isEmpty=false:=by
   have h1:=size_of_entries he;have h2:=(zu4.mp hj).1;rw[Array.isEmpty_eq_false_iff_exists_mem];exact⟨es[0]'⋯,Array.getElem_mem _⟩
  simp only[hne,zwh,if_false];refine wpAny_bind (O2 hu hkey hm hj hsz fun h' hm' hs'=>?_);simp only[Option.isNone_some,zwh,if_false];exact wpAny_bind (wpAny_letGo (wpAny_pure ⟨p.2,rfl,h h' _ hm' hs'⟩))
end
end PySem
namespace L2
open PySem PySem.Spec PyProof.Rows
theorem KT.drop:∀ {kvs:List (List Key×V)} {xs:List (List Key×Addr×Value)},KT H kvs xs->(xs.map (·.1)).Nodup->valV kvs k=some v->∃ j p,xs[j]?=some (k,p)/\RelV v p.2/\KT H (X9 kvs k) (xs.eraseIdx j)
 | [],[],_,_,hv=>by cases hv
 | p :: kvs,q :: xs,r,nd,hv=>by
   cases r with
   | cons h t =>
     rw[zvg,zvt] at nd;obtain⟨h1,h2,h3⟩:=h;by_cases e:p.1=k
     ·rw[Xf e] at hv;cases hv;refine⟨0,q.2,by rw[<- e,h1];rfl,h3,?_⟩;show KT H (X9 (p :: kvs) k) xs;have hd:X9 (p :: kvs) k=kvs:=by
       unfold X9;rw[zwk (by simp[e])];rw[List.filter_eq_self];intro kv hkv;refine zva fun z=>nd.1 ?_;have:∀ {l:List (List Key×V)} {m:List (List Key×Addr×Value)},KT H l m->kv∈l->kv.1∈m.map (·.1):=by
        intro l m q
        induction q with
        | nil=>intro hx;cases hx
        | @cons p' q' ps qs hq t ih =>
          intro hx;rcases zu7.mp hx with z|z
          ·rw[z,hq.1];exact zvy
          ·exact zvm _ (ih z)
       have h9:=this t hkv;rw[z,<- e,h1] at h9;exact h9
      rw[hd];exact t
     ·rw[Xd e] at hv;obtain⟨j,pp,h4,h5,h6⟩:=KT.drop t nd.2 hv;refine⟨j+1,pp,h4,h5,?_⟩;have hd:X9 (p :: kvs) k=p :: X9 kvs k:=by
       unfold X9;rw[zwj (by simp[e])]
      rw[hd];exact .cons ⟨h1,h2,h3⟩ h6
inductive zhq(ty:TE)(σ:L2.St)(Q:VK)(x:V)(H1:Hp):Prop where
 | mk(a)(_:x=.ref a)(_:IsD H1 a)(_:ty σ H1 fun y H2=>∃ (kvs:List (List Key×V)) (k:List Key) (b:Addr) (v:V),H2 a=#[a,.dT,kvs]/\y=.ref b/\H2 b=some (.tup (k.map kV))/\valV kvs k=some v/\Q v (upd H2 a (.dT (X9 kvs k))))
def zjw(td ty:TE):TE:=fun σ H Q=>td σ H fun x H1=>zhq ty σ Q x H1
theorem zgb(hu:X.A.units+1<cLine)(ho:PE X o td)(he:PE X e ty)(m:M1 X o "pop" apos e cpos):PE X (.Call (.Attribute o "pop" apos) [e] [] cpos) (zjw td ty):=by
 intro pins s σ H Q I h;refine wpAny_Call_method m.base m.few m.line PySem.F.plainAttrs_dict PySem.F.slot_dict_pop PySem.F.type_dict_pop (thn (ho pins s σ H _ I h) fun u s1 ⟨x,H1,I1,rx,a,ex,d,q1⟩=>?_);subst ex;obtain rfl:u=Value.ref a:=rx;obtain⟨t1,t2,_⟩:=zao I1 d;refine⟨t1,t2,?_⟩;rw[m.trees];refine Calls.callWith_builtin rfl (Calls.evalArgs_plain (Calls.spliced_cons (thn (he pins s1 σ H1 _ I1 q1) fun iv s2 ⟨y,H2,I2,ry,kvs,k,b,v,ea,ey,eb,l,q2⟩=>Calls.spliced_nil ?_)));subst ey;cases (show iv=Value.ref b from ry);obtain⟨z,hd,xs,rel,dd⟩:=zh9 I2.hok ea;have hz:xs.length<=sizeLine:=by rw[<- Paired.length rel];exact z
 obtain⟨j,p,hj,rv,rel'⟩:=KT.drop rel (by obtain⟨_,_,_,_,_,_,_,_,hn⟩:=dd;exact hn) l;refine call_meetsIn PySem.F.slot_dict_pop dd.typeIs PySem.F.entry_dict_pop (PySem.F.args_dict_pop_2 _ _) (K3 (knd:=tupleKind (Yj X.prog X.w)) a b k) ⟨tupleKind_room_in1 hu,Ou I2.hok eb,xs,j,p,dd,hz,hj,fun h' t' dd' hs=>⟨v,_,?_,rv,q2⟩⟩;obtain⟨q,es,ep,hq,h2,h3,h4,_,h5⟩:=dd';refine Po I2 (by rw[ea];exact True.intro) hs ⟨q,hq⟩ ⟨zvh (C9 kvs k) z,hd,_,rel'.keeps fun c ys ec=>?_,q,es,ep,hq,h2,h3,h4,h5⟩;rw[Zi (Yw ec ea (fun z=>nomatch z))];exact ec
end L2
namespace G
open PySem PySem.Spec PyProof.Rows L2
structure CA where
 season:Addr
 sheet:Addr
 roster:Addr
 ledger:Addr
 out:Addr
 known:Addr
 many:Addr
 unk:Addr
 manyM:Addr
 same:Addr
 noMatch:Addr
 noRound:Addr
 over:Addr
 seaOver:Addr
 away:Addr
 drawn:Addr
 notDrawn:Addr
 nothing:Addr
 manyD:Addr
theorem Th:1000000<sizeLine:=by rw[sizeLine_eq];decide
abbrev RL:=List (Int×Int×Int)
inductive Ve(H:Hp):RL->List (Key×V)->Prop where
 | nil:Ve H [] []
 | cons {n g c:Int} {t:Addr} {R:RL} {kvs:List (Key×V)} (h:H t=#[a,.tup,[.int g,.int c]]) (r:Ve H R kvs):Ve H ((n,g,c) :: R) ((.inl n,.ref t) :: kvs)
theorem Ve.mono(k:#[j]):∀ {R:RL} {kvs:List (Key×V)},Ve H R kvs->Ve H' R kvs
 | _,_,.nil=>.nil
 | _,_,.cons h r=>.cons (k _ _ h) (Ve.mono k r)
theorem Ve.length:∀ {R:RL} {kvs:List (Key×V)},Ve H R kvs->kvs.length=R.length
 | _,_,.nil=>rfl
 | _,_,.cons _ r=>by simp[Ve.length r]
theorem Ve.keys:∀ {R:RL} {kvs:List (Key×V)},Ve H R kvs->(kvs.map fun kv=>kV kv.1)=R.map fun x=>V.int x.1
 | _,_,.nil=>rfl
 | _,_,.cons _ r=>by rw[zvg,zvg,Ve.keys r];rfl
theorem Ve.snoc(h:H t=#[a,.tup,[.int g,.int c]]):∀ {R:RL} {kvs:List (Key×V)},Ve H R kvs->Ve H (R++[(n,g,c)]) (kvs++[(.inl n,.ref t)])
 | _,_,.nil=>.cons h .nil
 | _,_,.cons h' r=>.cons h' (Ve.snoc h r)
theorem Ve.val_none:∀ {R:RL} {kvs:List (Key×V)},Ve H R kvs->n∉R.map (·.1)->valV kvs (inl n:Key)=none
 | _,_,.nil,_=>rfl
 | _,_,.cons (n:=m) _ r,h=>by
   rw[zvg,zu7,not_or] at h;rw[Xd fun e=>h.1 (inl.inj e).symm];exact Ve.val_none r h.2
theorem Ve.val_some:∀ {R:RL} {kvs:List (Key×V)},Ve H R kvs->(R.map (·.1)).Nodup->(n,g,c)∈R->∃ t,valV kvs (inl n:Key)=#[c,t]/\H t=#[a,.tup,[.int g,.int c]]
 | _,_,.nil,_,h=>by simp at h
 | _,_,.cons (n:=m) (g:=g') (c:=c') (t:=t) ht r,nd,h=>by
   rw[zvg,zvt] at nd;by_cases e:m=n
   ·subst e;rcases zu7.mp h with q|q
    ·cases q;exact⟨t,Xf rfl,ht⟩
    ·exact absurd (zvb.mpr ⟨_,q,rfl⟩) nd.1
   ·rcases zu7.mp h with q|q
    ·cases q;exact absurd rfl e
    ·obtain⟨t',h1,h2⟩:=Ve.val_some r nd.2 q;exact⟨t',by rw[Xd fun z=>e (inl.inj z)];exact h1,h2⟩
theorem Ve.isSome(e:Ve H R kvs)(nd:(R.map (·.1)).Nodup):(valV kvs (inl n:Key)).isSome=decide (n∈R.map (·.1)):=by
 by_cases h:n∈R.map (·.1)
 ·obtain⟨⟨m,g,c⟩,q,rfl⟩:=zvb.mp h;obtain⟨t,h1,_⟩:=e.val_some nd q;rw[h1,zva h];rfl
 ·rw[e.val_none h,zvf h];rfl
theorem Ve.unsnoc:∀ {R:RL} {kvs:List (Key×V)},Ve H (R++[(n,g,c)]) kvs->n∉R.map (·.1)->Ve H R (X9 kvs (inl n))
 | [],_,.cons h .nil,_=>by
   unfold X9;rw[zwk (by simp)];exact .nil
 | (m,g',c') :: R,_,.cons h r,hn=>by
   rw[zvg,zu7,not_or] at hn;unfold X9;rw[zwj (by
    refine zva fun z=>hn.1 ?_;exact(inl.inj z).symm)]
   exact .cons h (Ve.unsnoc r hn.2)
structure Xl(C:Addr)(H:Hp)(p d:Addr)(R:RL):Prop where
 ex:∃ dx kvs,H p=some (.ins C dx [("entries",.ref d)])/\H d=#[a,.dK,kvs]/\Ve H R kvs
 nd:(R.map (·.1)).Nodup
theorem Vf:List.lookup ("entries":Str) ([("entries",V.ref d)]:List (Str×V))=#[a,.ref,d]:=by simp only[zv1,beq_self_eq_true]
theorem Xl.no{d:Addr}{m:Str}(h:¬ m="entries"):List.lookup m ([("entries",V.ref d)]:List (Str×V))=none:=by
 have e:(m == "entries")=false:=zvs.mpr h;simp only[zv1,e,List.lookup_nil]
theorem Xl.keep(h:Xl C H p d R)(kp:∀ o,H p=some o->H' p=some o)(kd:∀ o,H d=some o->H' d=some o)(kt:#[j]):Xl C H' p d R:=by
 obtain⟨⟨dx,kvs,h1,h2,h3⟩,nd⟩:=h;exact⟨⟨dx,kvs,kp _ h1,kd _ h2,h3.mono kt⟩,nd⟩
theorem Xl.same(h:Xl C H p d R)(e:Same H H'):Xl C H' p d R:=h.keep (fun _ q=>e _ _ q) (fun _ q=>e _ _ q) fun _ _ q=>e _ _ q
def badI(n g c:Int):Prop:=n<1\/999<n\/g<1\/9<g\/c<1\/99<c
instance {n g c:Int}:Decidable (badI n g c):=by unfold badI;infer_instance
def za6(n g c:Int):Prop:=Yl n/\Yl g/\Yl c
inductive N8(x:Addr)(vs:#[b])(H:Hp)(Q:VK)(E:XK):Prop where
 | mk(v)(lo)(m)(_:vs=[.int v,.int lo,.int m])(_:Yl v)(_:Yl lo)(_:Yl m)(_:(if v<lo\/m<v then E (.ref x) none H else Q .non H))
inductive zck(ca:CA)(vs:#[b])(H:Hp)(Q:VK)(_:XK):Prop where
 | mk(p)(dx)(_:vs=[.ref p])(_:H p=some (.ins ca.roster dx []))(_:∀ d,H d=none->Q .non (upd (upd H d (.dK [])) p (.ins ca.roster dx [("entries",.ref d)])))
inductive O3(ca:CA)(vs:#[b])(H:Hp)(Q:VK)(E:XK):Prop where
 | mk(p)(d)(R)(n)(g)(c)(_:vs=[.ref p,.int n,.int g,.int c])(_:Xl ca.roster H p d R)(_:za6 n g c)(_:if badI n g c then E (.ref ca.out) none H else if n∈R.map (·.1) then E (.ref ca.known) none H else if 30<=R.length then E (.ref ca.many) none H else Q .non H)
inductive U8(ca:CA)(vs:#[b])(H:Hp)(Q:VK)(E:XK):Prop where
 | mk(p)(d)(R)(n)(_:vs=[.ref p,.int n])(_:Xl ca.roster H p d R)(_:Yl n)(_:if n∈R.map (·.1) then Q .non H else E (.ref ca.unk) none H)
inductive zgc(ca:CA)(vs:#[b])(H:Hp)(Q:VK)(E:XK):Prop where
 | mk(p)(d)(R)(n)(g)(c)(_:vs=[.ref p,.int n,.int g,.int c])(_:Xl ca.roster H p d R)(_:za6 n g c)(_:R.length<=1000)(_:if badI n g c then E (.ref ca.out) none H else if n∈R.map (·.1) then E (.ref ca.known) none H else if 30<=R.length then E (.ref ca.many) none H else ∀ H',Xl ca.roster H' p d (R++[(n,g,c)])->(∀ b o,H b=some o->b≠d->H' b=some o)->Q .non H')
inductive By(ca:CA)(vs:#[b])(H:Hp)(Q:VK)(_:XK):Prop where
 | mk(p)(d)(R)(n)(g)(c)(_:vs=[.ref p,.int n])(_:Xl ca.roster H p d (R++[(n,g,c)]))(_:∀ H',Xl ca.roster H' p d R->(∀ b o,H b=some o->b≠d->H' b=some o)->Q .non H')
inductive Iq(ca:CA)(vs:#[b])(H:Hp)(Q:VK)(_:XK):Prop where
 | mk(p)(d)(R)(_:vs=[.ref p])(_:Xl ca.roster H p d R)(_:∀ l,H l=none->Q (.ref l) (upd H l (.lst (R.map fun x=>V.int x.1))))
inductive Bz(ca:CA)(vs:#[b])(H:Hp)(Q:VK)(E:XK):Prop where
 | mk(p)(d)(R)(n)(_:vs=[.ref p,.int n])(_:Xl ca.roster H p d R)(_:Yl n)(_:(n∉R.map (·.1)->E (.ref ca.unk) none H))(_:∀ g c t,(n,g,c)∈R->H t=#[a,.tup,[.int g,.int c]]->Q (.ref t) H)
inductive B0(ca:CA)(vs:#[b])(H:Hp)(Q:VK)(E:XK):Prop where
 | mk(p)(d)(R)(n)(_:vs=[.ref p,.int n])(_:Xl ca.roster H p d R)(_:Yl n)(_:(n∉R.map (·.1)->∀ H',Same H H'->E (.ref ca.unk) none H'))(_:∀ g c t H',(n,g,c)∈R->H' t=some (.tup (pV (n,g,c)))->Same H H'->H t=none->Q (.ref t) H')
structure Zz where
 ms:List (Int×Int×Int)
 may:List (List Int)
 gv:#[b]
 gaps:List (Int×#[i])
inductive Xz(ok:Addr->Prop)(H:Hp):#[b]->List (Int×#[i])->Prop where
 | nil:Xz ok H [] []
 | cons {t l:Addr} {n:Int} {us:#[b]} {st:#[i]} {ts:#[b]} {G:List (Int×#[i])} (h:H t=#[a,.tup,[.int n,.ref l]]) (hl:H l=#[a,.lst,us]) (tl:Z9 H us (st.map Vn)) (o:ok l) (r:Xz ok H ts G):Xz ok H (.ref t :: ts) ((n,st) :: G)
theorem Xz.keep(k:∀ x o,ok x->H x=some o->H' x=some o)(kt:#[j]):∀ {ts:List V} {G:List (Int×List (Nat×Option Int))},Xz ok H ts G->Xz ok H' ts G
 | _,_,.nil=>.nil
 | _,_,.cons h hl tl o r=>.cons (kt _ _ h) (k _ _ o hl) (tl.mono kt) o (Xz.keep k kt r)
theorem Xz.imp(k:∀ x,(∃ o,H x=some o)->ok x->ok' x):∀ {ts:List V} {G:List (Int×List (Nat×Option Int))},Xz ok H ts G->Xz ok' H ts G
 | _,_,.nil=>.nil
 | _,_,.cons h hl tl o r=>.cons h hl tl (k _ ⟨_,hl⟩ o) (Xz.imp k r)
theorem Xz.length:∀ {ts:List V} {G:List (Int×List (Nat×Option Int))},Xz ok H ts G->ts.length=G.length
 | _,_,.nil=>rfl
 | _,_,.cons _ _ _ _ r=>by simp[Xz.length r]
theorem Xz.snoc{ok:Addr->Prop}{H:Hp}{t l:Addr}{n:Int}{us:#[b]}{st:#[i]}(h:H t=#[a,.tup,[.int n,.ref l]])(hl:H l=#[a,.lst,us])(tl:Z9 H us (st.map Vn))(o:ok l):∀ {ts:List V} {G:List (Int×List (Nat×Option Int))},Xz ok H ts G->Xz ok H (ts++[.ref t]) (G++[(n,st)])
 | _,_,.nil=>.cons h hl tl o .nil
 | _,_,.cons h' hl' tl' o' r=>.cons h' hl' tl' o' (Xz.snoc h hl tl o r)
theorem Xz.get:∀ {ts:List V} {G:List (Int×List (Nat×Option Int))} {i:Nat} {x:V},Xz ok H ts G->ts[i]?=some x->∃ t l n us st,x=.ref t/\G[i]?=some (n,st)/\H t=#[a,.tup,[.int n,.ref l]]/\H l=#[a,.lst,us]/\Z9 H us (st.map Vn)/\ok l
 | _,_,_,_,.nil,e=>by simp at e
 | _,_,0,_,.cons h hl tl o _,e=>by simp at e;subst e;exact⟨_,_,_,_,_,rfl,rfl,h,hl,tl,o⟩
 | _,_,i+1,x,.cons _ _ _ _ r,e=>by
   obtain⟨t,l,n,us,st,h1,h2,h3⟩:=Xz.get (i:=i) (x:=x) r (by simpa using e);exact⟨t,l,n,us,st,h1,by simpa using h2,h3⟩
def shF(l1 l2 l3 l4:Addr):List (Str×V):=[("listed",.ref l1),("lists",.ref l2),("given",.ref l3),("gaps",.ref l4)]
structure ShAt(C:Addr)(ok:Addr->Prop)(H:Hp)(q:Addr)(s:Zz):Prop where
 ex:∃ dx l1 l2 l3 l4 ts ls gts,H q=some (.ins C dx (shF l1 l2 l3 l4))/\H l1=#[a,.lst,ts]/\Z9 H ts (s.ms.map pV)/\H l2=some (.lst (ls.map V.ref))/\ILs H ls s.may/\H l3=#[a,.lst,s.gv]/\H l4=#[a,.lst,gts]/\Xz ok H gts s.gaps/\(ok q/\ok l1/\ok l2/\ok l3/\ok l4/\∀ x∈ls,ok x)
theorem ShAt.keep(h:ShAt C ok H q s)(k:∀ x o,ok x->H x=some o->H' x=some o)(kt:#[j]):ShAt C ok H' q s:=by
 obtain⟨dx,l1,l2,l3,l4,ts,ls,gts,a1,a2,a3,a4,a5,a6,a7,a8,o1,o2,o3,o4,o5,o6⟩:=h;exact⟨dx,l1,l2,l3,l4,ts,ls,gts,k _ _ o1 a1,k _ _ o2 a2,a3.mono kt,k _ _ o3 a4,a5.keep fun x hx o q=>k _ _ (o6 x hx) q,k _ _ o4 a6,k _ _ o5 a7,a8.keep k kt,o1,o2,o3,o4,o5,o6⟩
theorem ShAt.imp(h:ShAt C ok H q s)(k:∀ x,(∃ o,H x=some o)->ok x->ok' x):ShAt C ok' H q s:=by
 obtain⟨dx,l1,l2,l3,l4,ts,ls,gts,a1,a2,a3,a4,a5,a6,a7,a8,o1,o2,o3,o4,o5,o6⟩:=h;exact⟨dx,l1,l2,l3,l4,ts,ls,gts,a1,a2,a3,a4,a5,a6,a7,a8.imp k,k _ ⟨_,a1⟩ o1,k _ ⟨_,a2⟩ o2,k _ ⟨_,a4⟩ o3,k _ ⟨_,a6⟩ o4,k _ ⟨_,a7⟩ o5,fun x hx=>k _ (let ⟨_,z⟩:=a5.has hx;⟨_,z⟩) (o6 x hx)⟩
theorem ShAt.same(h:ShAt C ok H q s)(e:Same H H'):ShAt C ok H' q s:=h.keep (fun _ _ _ q=>e _ _ q) fun _ _ q=>e _ _ q
def ShO(C:Addr)(ok:Addr->Prop)(H:Hp)(v:V)(s:Option Zz):Prop:=match s with|none=>v=.non|some s=>∃ q,v=.ref q/\ShAt C ok H q s
theorem ShO.keep(h:ShO C ok H v s)(k:∀ x o,ok x->H x=some o->H' x=some o)(kt:#[j]):ShO C ok H' v s:=by
 cases s with
 | none=>exact h
 | some s=>obtain⟨q,e,h⟩:=h;exact⟨q,e,h.keep k kt⟩
theorem ShO.imp(h:ShO C ok H v s)(k:∀ x,(∃ o,H x=some o)->ok x->ok' x):ShO C ok' H v s:=by
 cases s with
 | none=>exact h
 | some s=>obtain⟨q,e,h⟩:=h;exact⟨q,e,h.imp k⟩
inductive ShL(C:Addr)(ok:Addr->Prop)(H:Hp):#[b]->List Zz->Prop where
 | nil:ShL C ok H [] []
 | cons {q:Addr} {s:Zz} {vs:#[b]} {ss:List Zz} (h:ShAt C ok H q s) (r:ShL C ok H vs ss):ShL C ok H (.ref q :: vs) (s :: ss)
theorem ShL.keep(k:∀ x o,ok x->H x=some o->H' x=some o)(kt:#[j]):∀ {vs:List V} {ss:List Zz},ShL C ok H vs ss->ShL C ok H' vs ss
 | _,_,.nil=>.nil
 | _,_,.cons h r=>.cons (h.keep k kt) (ShL.keep k kt r)
theorem ShL.imp(k:∀ x,(∃ o,H x=some o)->ok x->ok' x):∀ {vs:List V} {ss:List Zz},ShL C ok H vs ss->ShL C ok' H vs ss
 | _,_,.nil=>.nil
 | _,_,.cons h r=>.cons (h.imp k) (ShL.imp k r)
theorem ShL.length:∀ {vs:List V} {ss:List Zz},ShL C ok H vs ss->vs.length=ss.length
 | _,_,.nil=>rfl
 | _,_,.cons _ r=>by simp[ShL.length r]
theorem ShL.snoc(h:ShAt C ok H q s):∀ {vs:List V} {ss:List Zz},ShL C ok H vs ss->ShL C ok H (vs++[.ref q]) (ss++[s])
 | _,_,.nil=>.cons h .nil
 | _,_,.cons h' r=>.cons h' (ShL.snoc h r)
theorem ShL.getR:∀ {vs:List V} {ss:List Zz} {i:Nat} {s:Zz},ShL C ok H vs ss->ss[i]?=some s->∃ q,vs[i]?=#[c,q]/\ShAt C ok H q s
 | _,_,_,_,.nil,e=>by simp at e
 | _,_,0,_,.cons h _,e=>by simp at e;subst e;exact⟨_,rfl,h⟩
 | _,_,i+1,x,.cons _ r,e=>by
   obtain⟨t,h1,h2⟩:=ShL.getR (i:=i) (s:=x) r (by simpa using e);exact⟨t,by simpa using h1,h2⟩
abbrev Rh:=Str×Int×Int
def Oh(d:Rh):#[b]:=[.str d.1,.int d.2.1,.int d.2.2]
inductive Ux(C:Addr)(ok:Addr->Prop)(H:Hp):#[b]->List (Rh×Option Zz)->Prop where
 | nil:Ux C ok H [] []
 | cons {t u:Addr} {v:V} {d:Rh} {s:Option Zz} {vs:#[b]} {ss:List (Rh×Option Zz)} (h:H t=#[a,.tup,[.ref u,v]]) (hu:H u=some (.tup (Oh d))) (hs:ShO C ok H v s) (r:Ux C ok H vs ss):Ux C ok H (.ref t :: vs) ((d,s) :: ss)
theorem Ux.keep(k:∀ x o,ok x->H x=some o->H' x=some o)(kt:#[j]):∀ {vs:List V} {ss:List (Rh×Option Zz)},Ux C ok H vs ss->Ux C ok H' vs ss
 | _,_,.nil=>.nil
 | _,_,.cons h hu hs r=>.cons (kt _ _ h) (kt _ _ hu) (hs.keep k kt) (Ux.keep k kt r)
theorem Ux.length:∀ {vs:List V} {ss:List (Rh×Option Zz)},Ux C ok H vs ss->vs.length=ss.length
 | _,_,.nil=>rfl
 | _,_,.cons _ _ _ r=>by simp[Ux.length r]
theorem Ux.snoc(h:H t=#[a,.tup,[.ref u,v]])(hu:H u=some (.tup (Oh d)))(hs:ShO C ok H v s):∀ {vs:List V} {ss:List (Rh×Option Zz)},Ux C ok H vs ss->Ux C ok H (vs++[.ref t]) (ss++[(d,s)])
 | _,_,.nil=>.cons h hu hs .nil
 | _,_,.cons h' hu' hs' r=>.cons h' hu' hs' (Ux.snoc h hu hs r)
theorem Ux.unsnoc:∀ {vs:List V} {ss:List (Rh×Option Zz)},Ux C ok H vs (ss++[(d,s)])->∃ vs' t u v,vs=vs'++[.ref t]/\H t=#[a,.tup,[.ref u,v]]/\H u=some (.tup (Oh d))/\ShO C ok H v s/\Ux C ok H vs' ss
 | _,[],.cons h hu hs .nil=>⟨[],_,_,_,rfl,h,hu,hs,.nil⟩
 | _,_ :: _,.cons h hu hs r=>by
   obtain⟨vs',t,u,v,e,a1,a2,a3,a4⟩:=Ux.unsnoc r;exact⟨_ :: vs',t,u,v,by rw[e];rfl,a1,a2,a3,.cons h hu hs a4⟩
structure Sea where
 len:Nat
 rest:Nat
 ppl:RL
 led:List (List Row)
 out:List (Int×Int)
 old:List Zz
 cur:Option Zz
 std:List (Rh×Option Zz)
structure SAd where
 p:Addr
 pr:Addr
 dr:Addr
 pl:Addr
 lr:Addr
 ld:Addr
 da:Addr
 ls:Addr
 lt:Addr
def SAd.fp(A:SAd):List Addr:=[A.p,A.dr,A.lr,A.ld,A.da,A.ls,A.lt]
def seaF(A:SAd)(len rest:Nat)(v:V):List (Str×V):=[("length",.int len),("rest",.int rest),("roster",.ref A.pr),("ledger",.ref A.pl),("absent",.ref A.da),("sheets",.ref A.ls),("sheet",v),("standing",.ref A.lt)]
def Q5(kvs:List (List Key×V))(out:List (Int×Int)):Prop:=(∀ at_ n:Int,(valV kvs [inl at_,inl n]).isSome=decide ((at_,n)∈out))/\kvs.length<=out.length
structure Zy(ca:CA)(H:Hp)(A:SAd)(S:Sea):Prop where
 obj:∃ dx v,H A.p=some (.ins ca.season dx (seaF A S.len S.rest v))/\ShO ca.sheet (·∉A.fp) H v S.cur
 ros:Xl ca.roster H A.pr A.dr S.ppl
 led:Ub ca.ledger H A.pl A.lr A.ld S.led
 out:∃ kvs,H A.da=#[a,.dT,kvs]/\Q5 kvs S.out
 old:∃ vs,H A.ls=#[a,.lst,vs]/\ShL ca.sheet (·∉A.fp) H vs S.old
 std:∃ vs,H A.lt=#[a,.lst,vs]/\Ux ca.sheet (·∉A.fp) H vs S.std
 nd:A.fp.Nodup
 np:A.pr∉A.fp/\A.pl∉A.fp
def FrS(A:SAd)(H H':Hp):Prop:=∀ b o,H b=some o->b∉A.fp->H' b=some o
end G
namespace L2
open PySem PySem.Spec PyProof.Rows
theorem B1{X:Cx}{K:Frag}(hK:X.K=K):OpR X (binaryOp .Add) (zic K):=hK▸zhf
end L2
namespace G
open PySem PySem.Spec PyProof.Rows L2
theorem it2{p:Prop}[Decidable p]{A B A' B':Prop}(h:if p then A else B)(h1:p->A->A')(h2:¬ p->B->B'):if p then A' else B':=by
 by_cases z:p
 ·rw[if_pos z] at h ⊢;exact h1 z h
 ·rw[if_neg z] at h ⊢;exact h2 z h
theorem zdw{κ:Type}[DecidableEq κ]{kvs:List (κ×V)}{k:κ}{v:V}(h:valV kvs k=none):putK kvs k v=kvs++[(k,v)]:=by
 unfold putK;rw[if_neg];intro z;rw[S9,h] at z;cases z
inductive B2(C:Addr)(vs:#[b])(H:Hp)(Q:VK)(_:XK):Prop where
 | mk(p lr ld:Addr)(Rs:List (List Row))(b:Addr)(ts:#[b])(rs:List Row)(_:vs=[.ref p,.ref b])(_:Ub C H p lr ld Rs)(_:H b=#[a,.lst,ts])(_:b≠lr)(_:Z9 H ts (rs.map row4))(_:2*(tot Rs+rs.length)<=100000)(_:Rs.length<=1000)(_:∀ H',Ub C H' p lr ld (Rs++[rs])->(∀ b o,H b=some o->b≠lr->b≠ld->H' b=some o)->Q .non H')
def zcl(ok:Addr->Prop)(H:Hp):Prop:=∀ x,H x=none->ok x
inductive N9(ca:CA)(vs:#[b])(H:Hp)(Q:VK)(_:XK):Prop where
 | mk(q)(dx)(l1)(l2)(l3)(l4)(_:vs=[.ref q,.ref l1,.ref l2,.ref l3,.ref l4])(_:H q=some (.ins ca.sheet dx []))(_:∀ H',H'=upd H q (.ins ca.sheet dx (shF l1 l2 l3 l4))->Q .non H')
theorem Pu:List.lookup ("listed":Str) (shF l1 l2 l3 l4)=#[a,.ref,l1]:=by unfold shF;simp only[zv1,beq_self_eq_true]
theorem zgd:List.lookup ("lists":Str) (shF l1 l2 l3 l4)=#[a,.ref,l2]:=by
 have e:(("lists":Str) == "listed")=false:=by decide +kernel
 unfold shF;simp only[zv1,e,beq_self_eq_true]
theorem Ti:List.lookup ("given":Str) (shF l1 l2 l3 l4)=#[a,.ref,l3]:=by
 have e:(("given":Str) == "listed")=false:=by decide +kernel
 have e2:(("given":Str) == "lists")=false:=by decide +kernel
 unfold shF;simp only[zv1,e,e2,beq_self_eq_true]
theorem D6:List.lookup ("gaps":Str) (shF l1 l2 l3 l4)=#[a,.ref,l4]:=by
 have e:(("gaps":Str) == "listed")=false:=by decide +kernel
 have e2:(("gaps":Str) == "lists")=false:=by decide +kernel
 have e3:(("gaps":Str) == "given")=false:=by decide +kernel
 unfold shF;simp only[zv1,e,e2,e3,beq_self_eq_true]
theorem Vx{l1 l2 l3 l4:Addr}{m:Str}(h1:¬ m="listed")(h2:¬ m="lists")(h3:¬ m="given")(h4:¬ m="gaps"):List.lookup m (shF l1 l2 l3 l4)=none:=by
 have e1:(m == "listed")=false:=zvs.mpr h1;have e2:(m == "lists")=false:=zvs.mpr h2;have e3:(m == "given")=false:=zvs.mpr h3;have e4:(m == "gaps")=false:=zvs.mpr h4;unfold shF;simp only[zv1,e1,e2,e3,e4,List.lookup_nil]
theorem zl0:putF "lists" y [(("listed":Str),x)]=([("listed",x),("lists",y)]:List (Str×V)):=by
 have n1:¬ (("listed":Str)="lists"):=by decide +kernel
 simp only[putF,if_neg n1]
theorem zl1:putF "given" z [(("listed":Str),x),("lists",y)]=([("listed",x),("lists",y),("given",z)]:List (Str×V)):=by
 have n1:¬ (("listed":Str)="given"):=by decide +kernel
 have n2:¬ (("lists":Str)="given"):=by decide +kernel
 simp only[putF,if_neg n1,if_neg n2]
theorem zl2:putF "gaps" w [(("listed":Str),x),("lists",y),("given",z)]=([("listed",x),("lists",y),("given",z),("gaps",w)]:List (Str×V)):=by
 have n1:¬ (("listed":Str)="gaps"):=by decide +kernel
 have n2:¬ (("lists":Str)="gaps"):=by decide +kernel
 have n3:¬ (("given":Str)="gaps"):=by decide +kernel
 simp only[putF,if_neg n1,if_neg n2,if_neg n3]
theorem O4(hq:H1 q=none)(hdx:H1 dx=none)(ne:dx≠q):Same H1 (upd (upd (upd H1 dx (.own q)) q (.ins C dx [])) q (.ins C dx (shF l1 l2 l3 l4)))/\upd (upd (upd H1 dx (.own q)) q (.ins C dx [])) q (.ins C dx (shF l1 l2 l3 l4)) q=some (.ins C dx (shF l1 l2 l3 l4)):=by
 refine⟨fun b o e=>?_,Zd⟩;rw[Zi (Zh e hq),Zi (Zh e hq),Zi (Zh e hdx)];exact e
inductive B3(ca:CA)(vs:#[b])(H:Hp)(Q:VK)(_:XK):Prop where
 | mk(ok:Addr->Prop)(q l2:Addr)(ls:List Addr)(rows:List (List Int))(s:Zz)(_:vs=[.ref q,.ref l2])(_:ShAt ca.sheet ok H q s)(_:H l2=some (.lst (ls.map V.ref)))(_:ILs H ls rows)(_:ok l2)(_:(∀ x∈ls,ok x))(_:zcl ok H)(_:∀ q' H',ShAt ca.sheet ok H' q' { s with may:=rows }->Same H H'->H q'=none->Q (.ref q') H')
inductive B4(ca:CA)(vs:#[b])(H:Hp)(Q:VK)(_:XK):Prop where
 | mk(ok:Addr->Prop)(q l2:Addr)(ls:List Addr)(rows:List (List Int))(nu:List Int)(s:Zz)(n:Int)(p:Nat)(_:vs=[.ref q,.int n,.ref l2])(_:ShAt ca.sheet ok H q s)(_:H l2=some (.lst (ls.map V.ref)))(_:ILs H ls rows)(_:ok l2)(_:(∀ x∈ls,ok x))(_:zcl ok H)(_:Ql rows nu)(_:(∀ x∈s.gv,oneV x))(_:s.gv[p]?=#[e,n])(_:(∀ j:Nat,s.gv[j]?=#[e,n]->j=p))(_:Yk rows (s.gv.set p .non))(_:s.gaps.length<=1000)(_:∀ q' st e w H',ShAt ca.sheet ok H' q' ⟨s.ms,rows,Yu st (s.gv.set p .non),s.gaps++[(n,st)]⟩->Xo rows (s.gv.set p .non) p st e w->Same H H'->H q'=none->Q (.ref q') H')
inductive zcm(ca:CA)(vs:#[b])(H:Hp)(Q:VK)(_:XK):Prop where
 | mk(ok:Addr->Prop)(l1 l2:Addr)(ts:#[b])(ls:List Addr)(ms:List (Int×Int×Int))(rows:List (List Int))(nu:List Int)(_:vs=[.ref l1,.ref l2])(_:H l1=#[a,.lst,ts])(_:Z9 H ts (ms.map pV))(_:H l2=some (.lst (ls.map V.ref)))(_:ILs H ls rows)(_:ok l1)(_:ok l2)(_:(∀ x∈ls,ok x))(_:zcl ok H)(_:Ql rows nu)(_:∀ q gv H',ShAt ca.sheet ok H' q ⟨ms,rows,gv,[]⟩->Yk rows gv->Vv rows gv->Same H H'->H q=none->Q (.ref q) H')
inductive Q6(ca:CA)(vs:#[b])(H:Hp)(Q:VK)(_:XK):Prop where
 | mk(ok:Addr->Prop)(q:Addr)(s:Zz)(_:vs=[.ref q])(_:ShAt ca.sheet ok H q s)(_:∀ l ts H',H' l=#[a,.lst,ts]->Z9 H' ts (s.ms.map pV)->Same H H'->H l=none->Q (.ref l) H')
inductive Ir(ca:CA)(vs:#[b])(H:Hp)(Q:VK)(_:XK):Prop where
 | mk(ok:Addr->Prop)(q:Addr)(s:Zz)(_:vs=[.ref q])(_:ShAt ca.sheet ok H q s)(_:∀ l H',H' l=#[a,.lst,s.gv]->Same H H'->H l=none->Q (.ref l) H')
inductive Pw(ca:CA)(vs:#[b])(H:Hp)(Q:VK)(_:XK):Prop where
 | mk(ok:Addr->Prop)(q:Addr)(s:Zz)(n:Int)(_:vs=[.ref q,.int n])(_:ShAt ca.sheet ok H q s)(_:(∀ x∈s.gv,oneV x))(_:s.gv.length<=100)(_:∀ H',Same H H'->Q (oN (X2 s.gv n)) H')
inductive B5(ca:CA)(vs:#[b])(H:Hp)(Q:VK)(_:XK):Prop where
 | mk(ok:Addr->Prop)(q:Addr)(s:Zz)(_:vs=[.ref q])(_:ShAt ca.sheet ok H q s)(_:(∀ x∈s.gv,oneV x))(_:s.gv.length<=100)(_:∀ l H',H' l=some (.lst ((Xr s.gv).map fun i=>V.int (i:Nat)))->Same H H'->H l=none->Q (.ref l) H')
inductive zcn(ca:CA)(vs:#[b])(H:Hp)(Q:VK)(_:XK):Prop where
 | mk(ok:Addr->Prop)(q:Addr)(s:Zz)(nu:List Int)(_:vs=[.ref q])(_:ShAt ca.sheet ok H q s)(_:Ql s.may nu)(_:Yk s.may s.gv)(_:Bv s.may s.gv)(_:∀ t lp lr ps rs H',H' t=#[a,.tup,[.ref lp,.ref lr]]->H' lp=some (.lst (W0 ps))->H' lr=some (.lst (rs.map V.int))->Ip s.may s.gv ps rs->Same H H'->H t=none->H lp=none->H lr=none->lp≠lr->Q (.ref t) H')
def Iu(m:Int×Int×Int)(x:V):Row:=⟨m.1,m.2.1,m.2.2,Bw (some x)⟩
def Z5(s:Zz):List Row:=List.zipWith Iu s.ms s.gv
inductive B6(ca:CA)(vs:#[b])(H:Hp)(Q:VK)(_:XK):Prop where
 | mk(ok:Addr->Prop)(q:Addr)(s:Zz)(_:vs=[.ref q])(_:ShAt ca.sheet ok H q s)(_:(∀ x∈s.gv,oneV x))(_:s.gv.length=s.ms.length)(_:s.ms.length<=1000)(_:∀ l ts H',H' l=#[a,.lst,ts]->Z9 H' ts ((Z5 s).map row4)->Same H H'->H l=none->Q (.ref l) H')
inductive O5(ca:CA)(vs:#[b])(H:Hp)(Q:VK)(_:XK):Prop where
 | mk(ok:Addr->Prop)(q:Addr)(s:Zz)(_:vs=[.ref q])(_:ShAt ca.sheet ok H q s)(_:s.gaps.length<=1000)(_:∀ l ts H',H' l=#[a,.lst,ts]->Xz (fun x=>H x=none/\x≠l) H' ts s.gaps->Same H H'->H l=none->Q (.ref l) H')
theorem Iv{K:Frag}{a:Addr}{xs:#[b]}{xo:List Str}{js:List Nat}{g:TG}{tt:TT}{te:TE}{σ:L2.St}{H:Hp}{Q:VK}(Pv:Nat->#[b]->Hp->Prop)(h0:Pv 0 [] H)(hl:∀ i ys H,i<=xs.length->Pv i ys H->SqL K H a xs)(hz:xs.length<=sizeLine)(hy:∀ i ys H,Pv i ys H->ys.length<=i)
  (hs:∀ i x ys H,xs[i]?=some x->Pv i ys H->g x (cs0 xo js σ) H fun σ2 H1=>Rx xo js σ σ2/\tt σ2 H1 fun b H2=>if b=true then te σ2 H2 fun y H3=>Pv (i+1) (ys++[y]) H3 else Pv (i+1) ys H2)
  (hd:∀ ys H,Pv xs.length ys H->∀ p,H p=none->Q (.ref p) (upd H p (.lst ys))):D4 (Itl K a) xo js g tt te σ H Q:=by
 refine⟨fun i m ys H=>m=xs.length-i/\i<=xs.length/\Pv i ys H,⟨xs.length,by simp,zvw _,h0⟩,?_⟩;rintro i m ys H ⟨rfl,hi,p⟩;have q:=hl i ys H hi p;have ly:=hy i ys H p;by_cases hlt:i<xs.length
 ·refine .inr ⟨⟨xs,xs[i],q,by simp[hlt]⟩,by omega,Pv (i+1),fun ys' H' p'=>⟨xs.length-(i+1),by omega,rfl,hlt,p'⟩,fun x H' y=>?_⟩;obtain⟨e,y⟩:=y;subst e;exact hs i x ys _ (y xs q) p
 ·have e:i=xs.length:=by omega
  subst e;exact .inl ⟨⟨xs,q,zvd _⟩,by omega,hd ys H p⟩
theorem zdx{K:Frag}{a b:Addr}{xs zs:#[b]}{xo:List Str}{js:List Nat}{g:TG}{tt:TT}{te:TE}{σ:L2.St}{H:Hp}{Q:VK}(Pv:Nat->#[b]->Hp->Prop)(h0:Pv 0 [] H)(he:xs.length=zs.length)(hl:∀ i ys H,i<=xs.length->Pv i ys H->SqL K H a xs/\SqL K H b zs)(hz:xs.length<=sizeLine)(hy:∀ i ys H,Pv i ys H->ys.length<=i)
  (hs:∀ i x z t ys H,xs[i]?=some x->zs[i]?=some z->Pv i ys H->H t=none->g (.ref t) (cs0 xo js σ) (upd H t (.tup [x,z])) fun σ2 H1=>Rx xo js σ σ2/\tt σ2 H1 fun b H2=>if b=true then te σ2 H2 fun y H3=>Pv (i+1) (ys++[y]) H3 else Pv (i+1) ys H2)
  (hd:∀ ys H,Pv xs.length ys H->∀ p,H p=none->Q (.ref p) (upd H p (.lst ys))):D4 (Itz K a b) xo js g tt te σ H Q:=by
 refine⟨fun i m ys H=>m=xs.length-i/\i<=xs.length/\Pv i ys H,⟨xs.length,by simp,zvw _,h0⟩,?_⟩;rintro i m ys H ⟨rfl,hi,p⟩;obtain⟨q1,q2⟩:=hl i ys H hi p;have ly:=hy i ys H p;by_cases hlt:i<xs.length
 ·refine .inr ⟨⟨xs,zs,xs[i],zs[i]'⋯,q1,q2,by simp[hlt],by rw[zu3 ⋯]⟩,by omega,Pv (i+1),fun ys' H' p'=>⟨xs.length-(i+1),by omega,rfl,hlt,p'⟩,fun x H' y=>?_⟩;obtain⟨t,y,z,h1,h2,h3,rfl,rfl⟩:=y;exact hs i y z t ys _ (h2 xs q1) (h3 zs q2) p h1
 ·have e:i=xs.length:=by omega
  subst e;exact .inl ⟨⟨xs,zs,q1,q2,.inl (zvd _)⟩,by omega,hd ys H p⟩
theorem zjx(m:Int×Int×Int)(h:oneV x):row4 (Iu m x)=[V.int m.1,V.int m.2.1,V.int m.2.2,x]:=by
 rcases h with rfl|⟨i,rfl⟩<;>rfl
theorem zdy(hm:s.ms[i]?=some m)(hx:s.gv[i]?=some x):(Z5 s).take (i+1)=(Z5 s).take i++[Iu m x]:=by
 have:(Z5 s)[i]?=some (Iu m x):=by
  unfold Z5;rw[List.getElem?_zipWith,hm,hx]
 rw[zwg,this];rfl
theorem B7(h:s.gv.length=s.ms.length):(Z5 s).length=s.ms.length:=by
 unfold Z5;rw[zxa,h,Nat.min_self]
section
variable{ca:CA}{H H':Hp}{A:SAd}{S:Sea}{l:Nat}{r:Nat}{v:V}
theorem B8(A:SAd)(l r:Nat)(v:V):List.lookup ("length":Str) (seaF A l r v)=#[e,l]/\List.lookup ("rest":Str) (seaF A l r v)=#[e,r]/\List.lookup ("roster":Str) (seaF A l r v)=#[c,A.pr]/\List.lookup ("ledger":Str) (seaF A l r v)=#[c,A.pl]/\List.lookup ("absent":Str) (seaF A l r v)=#[c,A.da]/\List.lookup ("sheets":Str) (seaF A l r v)=#[c,A.ls]/\List.lookup ("sheet":Str) (seaF A l r v)=some v/\List.lookup ("standing":Str) (seaF A l r v)=#[c,A.lt]:=by
 have d:∀ a b:Str,decide (a=b)=false->(a == b)=false:=fun a b h=>zvs.mpr (of_decide_eq_false h);have e1:=d "rest" "length" ⋯;have e2:=d "roster" "length" ⋯;have e3:=d "roster" "rest" ⋯;have f1:=d "ledger" "length" ⋯;have f2:=d "ledger" "rest" ⋯;have f3:=d "ledger" "roster" ⋯;have g1:=d "absent" "length" ⋯;have g2:=d "absent" "rest" ⋯;have g3:=d "absent" "roster" ⋯;have g4:=d "absent" "ledger" ⋯;have h1:=d "sheets" "length" ⋯;have h2:=d "sheets" "rest" ⋯;have h3:=d "sheets" "roster" ⋯;have h4:=d "sheets" "ledger" ⋯;have h5:=d "sheets" "absent" ⋯;have i1:=d "sheet" "length" ⋯;have i2:=d "sheet" "rest" ⋯;have i3:=d "sheet" "roster" ⋯;have i4:=d "sheet" "ledger" ⋯;have i5:=d "sheet" "absent" ⋯;have i6:=d "sheet" "sheets" ⋯;have j1:=d "standing" "length" ⋯;have j2:=d "standing" "rest" ⋯;have j3:=d "standing" "roster" ⋯;have j4:=d "standing" "ledger" ⋯;have j5:=d "standing" "absent" ⋯;have j6:=d "standing" "sheets" ⋯;have j7:=d "standing" "sheet" ⋯;unfold seaF;refine⟨?_,?_,?_,?_,?_,?_,?_,?_⟩<;>simp only[zv1,beq_self_eq_true,e1,e2,e3,f1,f2,f3,g1,g2,g3,g4,h1,h2,h3,h4,h5,i1,i2,i3,i4,i5,i6,j1,j2,j3,j4,j5,j6,j7]
theorem E6:List.lookup ("length":Str) (seaF A l r v)=#[a,.int,l]:=(B8 A l r v).1
theorem zhr:List.lookup ("rest":Str) (seaF A l r v)=#[a,.int,r]:=(B8 A l r v).2.1
theorem Vo:List.lookup ("roster":Str) (seaF A l r v)=#[a,.ref,A.pr]:=(B8 A l r v).2.2.1
theorem Ug:List.lookup ("ledger":Str) (seaF A l r v)=#[a,.ref,A.pl]:=(B8 A l r v).2.2.2.1
theorem Px:List.lookup ("absent":Str) (seaF A l r v)=#[a,.ref,A.da]:=(B8 A l r v).2.2.2.2.1
theorem E7:List.lookup ("sheets":Str) (seaF A l r v)=#[a,.ref,A.ls]:=(B8 A l r v).2.2.2.2.2.1
theorem Wu:List.lookup ("sheet":Str) (seaF A l r v)=some v:=(B8 A l r v).2.2.2.2.2.2.1
theorem Se:List.lookup ("standing":Str) (seaF A l r v)=#[a,.ref,A.lt]:=(B8 A l r v).2.2.2.2.2.2.2
theorem Z8(h:(["length","rest","roster","ledger","absent","sheets","sheet","standing"]:List Str).all (fun x=>!decide (m=x))=true):List.lookup m (seaF A l r v)=none:=by
 simp only[List.all_cons,List.all_nil,Bool.and_true,zwm,Bool.not_eq_true',decide_eq_false_iff_not] at h;obtain⟨h1,h2,h3,h4,h5,h6,h7,h8⟩:=h;have e:∀ x:Str,¬ m=x->(m == x)=false:=fun x z=>zvs.mpr z;unfold seaF;simp only[zv1,e _ h1,e _ h2,e _ h3,e _ h4,e _ h5,e _ h6,e _ h7,e _ h8,List.lookup_nil]
theorem Zy.same(h:Zy ca H A S)(e:Same H H'):Zy ca H' A S:=by
 obtain⟨⟨dx,v,a1,a2⟩,b,c,⟨kvs,d1,d2⟩,⟨vs,f1,f2⟩,⟨us,g1,g2⟩,nd,np⟩:=h;have k:∀ x o,x∉A.fp->H x=some o->H' x=some o:=fun _ _ _ q=>e _ _ q;have kt:#[j]:=fun _ _ q=>e _ _ q;exact⟨⟨dx,v,e _ _ a1,a2.keep k kt⟩,b.same e,c.same e,⟨kvs,e _ _ d1,d2⟩,⟨vs,e _ _ f1,f2.keep k kt⟩,⟨us,e _ _ g1,g2.keep k kt⟩,nd,np⟩
theorem FrS.of(A:SAd)(e:Same H H'):FrS A H H':=fun b o q _=>e b o q
theorem FrS.trans(h1:FrS A H H')(h2:FrS A H' H2):FrS A H H2:=fun b o e n=>h2 b o (h1 b o e n) n
theorem Zy.there(h:Zy ca H A S):∀ x∈A.fp,∃ o,H x=some o:=by
 obtain⟨⟨dx,v,a1,_⟩,⟨⟨_,_,_,b2,_⟩,_⟩,⟨_,⟨rs,c2,_⟩,⟨ks,c3,_⟩⟩,⟨kvs,d1,_⟩,⟨vs,f1,_⟩,⟨us,g1,_⟩,nd,np⟩:=h;intro x hx;simp only[SAd.fp,zu7,zv7,or_false] at hx;rcases hx with rfl|rfl|rfl|rfl|rfl|rfl|rfl
 ·exact⟨_,a1⟩
 ·exact⟨_,b2⟩
 ·exact⟨_,c2⟩
 ·exact⟨_,c3⟩
 ·exact⟨_,d1⟩
 ·exact⟨_,f1⟩
 ·exact⟨_,g1⟩
theorem Zy.newOk(h:Zy ca H A S):zcl (·∉A.fp) H:=fun x hx hm=>by
 obtain⟨o,e⟩:=h.there x hm;rw[e] at hx;cases hx
theorem Zy.tups(h:Zy ca H A S)(f:FrS A H H'):#[j]:=fun t xs e=>f t _ e fun hm=>by
 obtain⟨⟨dx,v,a1,_⟩,⟨⟨_,_,_,b2,_⟩,_⟩,⟨_,⟨rs,c2,_⟩,⟨ks,c3,_⟩⟩,⟨kvs,d1,_⟩,⟨vs,f1,_⟩,⟨us,g1,_⟩,nd,np⟩:=h;simp only[SAd.fp,zu7,zv7,or_false] at hm;rcases hm with rfl|rfl|rfl|rfl|rfl|rfl|rfl
 ·rw[a1] at e;cases e
 ·rw[b2] at e;cases e
 ·rw[c2] at e;cases e
 ·rw[c3] at e;cases e
 ·rw[d1] at e;cases e
 ·rw[f1] at e;cases e
 ·rw[g1] at e;cases e
end
def atV(S:Sea):Int:=(S.led.length:Int)+1
inductive Uu(ca:CA)(vs:#[b])(H:Hp)(Q:VK)(_:XK):Prop where
 | mk(A:SAd)(S:Sea)(_:vs=[.ref A.p])(_:Zy ca H A S)(_:Q (.int (atV S)) H)
inductive M8(ca:CA)(vs:#[b])(H:Hp)(Q:VK)(E:XK):Prop where
 | mk(A:SAd)(S:Sea)(_:vs=[.ref A.p])(_:Zy ca H A S)(_:if S.len<=S.led.length then E (.ref ca.seaOver) none H else Q .non H)
inductive M9(ca:CA)(vs:#[b])(H:Hp)(Q:VK)(E:XK):Prop where
 | mk(A:SAd)(S:Sea)(_:vs=[.ref A.p])(_:Zy ca H A S)(_:if S.len<=S.led.length then E (.ref ca.seaOver) none H else if S.cur.isSome then E (.ref ca.drawn) none H else Q .non H)
inductive D7(ca:CA)(vs:#[b])(H:Hp)(Q:VK)(E:XK):Prop where
 | mk(A:SAd)(S:Sea)(at_:Int)(_:vs=[.ref A.p,.int at_])(_:Zy ca H A S)(_:Yl at_)(_:if at_<1\/(S.len:Int)<at_ then E (.ref ca.noRound) none H else Q .non H)
inductive D8(ca:CA)(vs:#[b])(H:Hp)(Q:VK)(E:XK):Prop where
 | mk(A:SAd)(S:Sea)(_:vs=[.ref A.p])(_:Zy ca H A S)(_:if 100<=S.std.length then E (.ref ca.manyD) none H else Q .non H)
inductive D9(ca:CA)(vs:#[b])(H:Hp)(Q:VK)(_:XK):Prop where
 | mk(A:SAd)(S:Sea)(w:Str)(n at_:Int)(_:vs=[.ref A.p,.str w,.int n,.int at_])(_:Zy ca H A S)(_:S.std.length<=1000)(_:∀ H',Zy ca H' A { S with std:=S.std++[((w,n,at_),S.cur)] }->FrS A H H'->Q .non H')
inductive O6(ca:CA)(vs:#[b])(H:Hp)(Q:VK)(E:XK):Prop where
 | mk(A:SAd)(S:Sea)(_:vs=[.ref A.p])(_:Zy ca H A S)(_:(S.cur=none->E (.ref ca.notDrawn) none H))(_:∀ s q,S.cur=some s->ShAt ca.sheet (·∉A.fp) H q s->Q (.ref q) H)
def Wg(S:Sea)(at_:Int):Option Zz:=if at_<=S.led.length then S.old[(at_-1).toNat]? else if (S.led.length:Int)+1<at_ then none else S.cur
inductive Uh(ca:CA)(vs:#[b])(H:Hp)(Q:VK)(E:XK):Prop where
 | mk(A:SAd)(S:Sea)(at_:Int)(_:vs=[.ref A.p,.int at_])(_:Zy ca H A S)(_:Yl at_)(_:S.old.length=S.led.length)(_:if at_<1\/(S.len:Int)<at_ then E (.ref ca.noRound) none H else (Wg S at_=none->E (.ref ca.notDrawn) none H)/\∀ s q,Wg S at_=some s->ShAt ca.sheet (·∉A.fp) H q s->Q (.ref q) H)
def pIn(out:List (Int×Int))(at_:Int)(m:P3):Bool:=decide ((at_,m.1)∈out)
def Ff(S:Sea)(m:P3):List Int:=(S.ppl.filter fun x=>(whyS S.led x.1 x.2.1 x.2.2 m.1 m.2.1 m.2.2 (pIn S.out (atV S) x) S.rest).isEmpty).map (·.1)
def mayS(S:Sea)(ms:List P3):List (List Int):=ms.map (Ff S)
inductive O7(ca:CA)(vs:#[b])(H:Hp)(Q:VK)(_:XK):Prop where
 | mk(A:SAd)(S:Sea)(l:Addr)(ts:#[b])(ms:List P3)(_:vs=[.ref A.p,.ref l])(_:Zy ca H A S)(_:H l=#[a,.lst,ts])(_:Z9 H ts (ms.map pV))(_:ms.length<=100)(_:S.ppl.length<=100)(_:(∀ x∈S.ppl,Yl x.1))(_:∀ l' ls H',H' l'=some (.lst (ls.map V.ref))->ILs H' ls (mayS S ms)->Same H H'->H l'=none->(∀ x∈ls,H x=none)->Q (.ref l') H')
def badM(m:P3):Prop:=m.1<1\/99<m.1\/m.2.1<1\/99<m.2.1\/m.2.2<1\/9<m.2.2
def R0(Ms:List P3):Prop:=∃ m∈Ms,badM m
def R1(Ms:List P3):Prop:=∃ m∈Ms,m.1=m.2.1
def Ca(m:P3):Prop:=Yl m.1/\Yl m.2.1/\Yl m.2.2
theorem E8{p:P3->Prop}{Ms:List P3}{i:Nat}{m:P3}(e:Ms[i]?=some m)(h:∀ x∈Ms.take i,¬ p x)(hm:¬ p m):∀ x∈Ms.take (i+1),¬ p x:=fun x hx=>by
 rw[zwg,e] at hx;rcases zve.mp hx with q|q
 ·exact h x q
 ·simp at q;subst q;exact hm
inductive B9(K:Frag)(ca:CA)(vs:#[b])(H:Hp)(Q:VK)(E:XK):Prop where
 | mk(b)(ts)(_:vs=[.ref b])(_:SqL K H b ts)(_:ts.length<=1000)(_:(20<ts.length->E (.ref ca.manyM) none H))(_:(ts.length<=20->Q .non H))
inductive E9(K:Frag)(ca:CA)(vs:#[b])(H:Hp)(Q:VK)(E:XK):Prop where
 | mk(b:Addr)(ts:#[b])(Ms:List P3)(_:vs=[.ref b])(_:SqL K H b ts)(_:Z9 H ts (Ms.map pV))(_:(∀ m∈Ms,Ca m))(_:(R0 Ms->E (.ref ca.out) none H))(_:(¬ R0 Ms->Q .non H))
inductive Aa(K:Frag)(ca:CA)(vs:#[b])(H:Hp)(Q:VK)(E:XK):Prop where
 | mk(b:Addr)(ts:#[b])(Ms:List P3)(_:vs=[.ref b])(_:SqL K H b ts)(_:Z9 H ts (Ms.map pV))(_:(∀ m∈Ms,Ca m))(_:(R1 Ms->E (.ref ca.same) none H))(_:(¬ R1 Ms->Q .non H))
inductive Iw(K:Frag)(ca:CA)(vs:#[b])(H:Hp)(Q:VK)(E:XK):Prop where
 | mk(b:Addr)(ts:#[b])(Ms:List P3)(_:vs=[.ref b])(_:SqL K H b ts)(_:Z9 H ts (Ms.map pV))(_:(∀ m∈Ms,Ca m))(_:Ms.length<=1000)(_:(20<Ms.length->E (.ref ca.manyM) none H))(_:(Ms.length<=20->R0 Ms->E (.ref ca.out) none H))(_:(Ms.length<=20->¬ R0 Ms->R1 Ms->E (.ref ca.same) none H))(_:(Ms.length<=20->¬ R0 Ms->¬ R1 Ms->∀ l,H l=none->Q (.ref l) (upd H l (.lst ts))))
theorem Q5.isSome(h:Q5 kvs out)(i n:Int):(valV kvs [inl i,inl n]).isSome=decide ((i,n)∈out):=h.1 i n
theorem Iy{A:SAd}(nd:A.fp.Nodup):(A.p≠A.dr/\A.p≠A.lr/\A.p≠A.ld/\A.p≠A.da/\A.p≠A.ls/\A.p≠A.lt)/\(A.dr≠A.lr/\A.dr≠A.ld/\A.dr≠A.da/\A.dr≠A.ls/\A.dr≠A.lt)/\(A.lr≠A.ld/\A.lr≠A.da/\A.lr≠A.ls/\A.lr≠A.lt)/\(A.ld≠A.da/\A.ld≠A.ls/\A.ld≠A.lt)/\(A.da≠A.ls/\A.da≠A.lt)/\A.ls≠A.lt:=by
 simp only[SAd.fp,zvt,zu7,zv7,or_false,not_or] at nd;obtain⟨⟨n1,n2,n3,n4,n5,n6⟩,⟨n7,n8,n9,n10,n11⟩,⟨n12,n13,n14,n15⟩,⟨n16,n17,n18⟩,⟨n19,n20⟩,n21,_⟩:=nd;exact⟨⟨n1,n2,n3,n4,n5,n6⟩,⟨n7,n8,n9,n10,n11⟩,⟨n12,n13,n14,n15⟩,⟨n16,n17,n18⟩,⟨n19,n20⟩,n21⟩
theorem zhs{R:RL}(nd:(R.map (·.1)).Nodup){x y:P3}(hx:x∈R)(hy:y∈R)(h:x.1=y.1):x=y:=by
 induction R with
 | nil=>cases hx
 | cons z R ih =>
   rw[zvg,zvt] at nd;rcases zu7.mp hx with e|e<;>rcases zu7.mp hy with e'|e'
   ·rw[e,e']
   ·exact absurd (zvb.mpr ⟨y,e',by rw[<- h,e]⟩) nd.1
   ·exact absurd (zvb.mpr ⟨x,e,by rw[h,e']⟩) nd.1
   ·exact ih nd.2 e e'
def outV(S:Sea):#[b]:=(S.ppl.filter (pIn S.out (atV S))).map fun x=>V.int x.1
theorem zge(S:Sea):∀ x∈outV S,oneV x:=fun x hx=>by
 unfold outV at hx;obtain⟨m,_,rfl⟩:=zvb.mp hx;exact .inr ⟨_,rfl⟩
theorem zht(hx:x∈S.ppl):inV (.int x.1) (outV S)=pIn S.out (atV S) x:=by
 unfold outV;rw[show ((S.ppl.filter (pIn S.out (atV S))).map fun x=>V.int x.1)=((S.ppl.filter (pIn S.out (atV S))).map (·.1)).map V.int by rw[zwn];rfl,Dy];unfold pIn;by_cases h:(atV S,x.1)∈S.out
 ·rw[zva h,zva];exact zvb.mpr ⟨x,zv3.mpr ⟨hx,zva h⟩,rfl⟩
 ·rw[zvf h,zvf];intro z;obtain⟨y,h1,h2⟩:=zvb.mp z;have:=of_decide_eq_true (zv3.mp h1).2;rw[h2] at this;exact h this
theorem zjy(S:Sea)(m:P3):((S.ppl.filter (Q4 S.led m.1 m.2.1 m.2.2 (outV S) S.rest)).map fun x=>V.int x.1)=(Ff S m).map V.int:=by
 unfold Ff;rw[zwn];have:S.ppl.filter (Q4 S.led m.1 m.2.1 m.2.2 (outV S) S.rest)=S.ppl.filter fun x=>(whyS S.led x.1 x.2.1 x.2.2 m.1 m.2.1 m.2.2 (pIn S.out (atV S) x) S.rest).isEmpty:=by
  refine List.filter_congr fun x hx=>?_;unfold Q4;rw[zht hx]
 rw[this];rfl
theorem atI_last:atI (xs++[x]) (-1)=some x:=by
 have hl:(xs++[x]).length=xs.length+1:=by rw[zu5];rfl
 unfold atI ixN;rw[if_neg ⋯,if_pos ⋯];show (xs++[x])[((-1:Int)+(xs++[x]).length).toNat]?=_;rw[show ((-1:Int)+(xs++[x]).length).toNat=xs.length by omega,zv5 (zvd _),Nat.sub_self];rfl
theorem Xz.unsnoc{ok:Addr->Prop}{H:Hp}{n:Int}{st:#[i]}:∀ {vs:List V} {G:List (Int×List (Nat×Option Int))},Xz ok H vs (G++[(n,st)])->∃ vs' t l us,vs=vs'++[.ref t]/\H t=#[a,.tup,[.int n,.ref l]]/\H l=#[a,.lst,us]/\Z9 H us (st.map Vn)/\ok l
 | _,[],.cons h hl tl o .nil=>⟨[],_,_,_,rfl,h,hl,tl,o⟩
 | _,_ :: _,.cons h hl tl o r=>by
   obtain⟨vs',t,l,us,e,a⟩:=Xz.unsnoc r;exact⟨_ :: vs',t,l,us,by rw[e];rfl,a⟩
def Ri(S:Sea):Prop:=(∀ x∈S.ppl,¬ badI x.1 x.2.1 x.2.2)/\S.ppl.length<=30
theorem Ri.small(h:Ri S):∀ x∈S.ppl,Yl x.1:=fun x hx=>by
 have:=h.1 x hx;unfold badI at this;exact Ye ⋯ ⋯
theorem Ri.may(h:Ri S)(nd:(S.ppl.map (·.1)).Nodup)(hm:ms.length<=20):Ql (mayS S ms) (S.ppl.map (·.1)):=by
 refine⟨by unfold mayS;rw[zu2];exact hm,by rw[zu2];exact h.2,nd,fun n hn=>?_,fun r hr=>?_⟩
 ·obtain⟨x,hx,rfl⟩:=zvb.mp hn;have:=h.1 x hx;unfold badI at this;omega
 ·unfold mayS at hr;obtain⟨m,_,rfl⟩:=zvb.mp hr;unfold Ff;exact⟨nd.sublist (List.Sublist.map _ List.filter_sublist),fun n hn=>by
   obtain⟨x,hx,rfl⟩:=zvb.mp hn;exact zvb.mpr ⟨x,(zv3.mp hx).1,rfl⟩⟩
section
variable{ca:CA}{H H':Hp}{A:SAd}{S:Sea}
theorem Ko(h:Zy ca H A S)(hx:x∈A.fp):A.pr≠x/\A.pl≠x:=⟨fun z=>h.np.1 (by rw[z];exact hx),fun z=>h.np.2 (by rw[z];exact hx)⟩
theorem FrS.one(hx:x∈A.fp)(k:∀ b o,H b=some o->b≠x->H' b=some o):FrS A H H':=fun b o e hb=>k b o e fun z=>hb (by rw[z];exact hx)
theorem Zy.setRos(h:Zy ca H A S)(r:Xl ca.roster H' A.pr A.dr R)(k:∀ b o,H b=some o->b≠A.dr->H' b=some o):Zy ca H' A { S with ppl:=R }/\FrS A H H':=by
 have f:FrS A H H':=.one (by simp[SAd.fp]) k;have kt:=h.tups f;have ko:∀ x o,x∉A.fp->H x=some o->H' x=some o:=fun x o hx e=>f x o e hx;obtain⟨⟨n1,n2,n3,n4,n5,n6⟩,⟨n7,n8,n9,n10,n11⟩,⟨n12,n13,n14,n15⟩,⟨n16,n17,n18⟩,⟨n19,n20⟩,n21⟩:=Iy h.nd;have np:=Ko h (show A.dr∈A.fp by simp[SAd.fp]);obtain⟨⟨dx,v,a1,a2⟩,b,c,⟨kvs,d1,d2⟩,⟨vs,f1,f2⟩,⟨us,g1,g2⟩,nd,np'⟩:=h;exact⟨⟨⟨dx,v,k _ _ a1 n1,a2.keep ko kt⟩,r,c.keep (fun o e=>k _ o e np.2) (fun o e=>k _ o e (Ne.symm n7)) (fun o e=>k _ o e (Ne.symm n8)) kt,⟨kvs,k _ _ d1 (Ne.symm n9),d2⟩,⟨vs,k _ _ f1 (Ne.symm n10),f2.keep ko kt⟩,⟨us,k _ _ g1 (Ne.symm n11),g2.keep ko kt⟩,nd,np'⟩,f⟩
theorem Zy.setOut{out:List (Int×Int)}{kvs:List (List Key×V)}(h:Zy ca H A S)(hd:H' A.da=#[a,.dT,kvs])(ok:Q5 kvs out)(k:∀ b o,H b=some o->b≠A.da->H' b=some o):Zy ca H' A { S with out:=out }/\FrS A H H':=by
 have f:FrS A H H':=.one (by simp[SAd.fp]) k;have kt:=h.tups f;have ko:∀ x o,x∉A.fp->H x=some o->H' x=some o:=fun x o hx e=>f x o e hx;obtain⟨⟨n1,n2,n3,n4,n5,n6⟩,⟨n7,n8,n9,n10,n11⟩,⟨n12,n13,n14,n15⟩,⟨n16,n17,n18⟩,⟨n19,n20⟩,n21⟩:=Iy h.nd;have np:=Ko h (show A.da∈A.fp by simp[SAd.fp]);obtain⟨⟨dx,v,a1,a2⟩,b,c,⟨kvs',d1,d2⟩,⟨vs,f1,f2⟩,⟨us,g1,g2⟩,nd,np'⟩:=h;exact⟨⟨⟨dx,v,k _ _ a1 n4,a2.keep ko kt⟩,b.keep (fun o e=>k _ o e np.1) (fun o e=>k _ o e n9) kt,c.keep (fun o e=>k _ o e np.2) (fun o e=>k _ o e n13) (fun o e=>k _ o e n16) kt,⟨kvs,hd,ok⟩,⟨vs,k _ _ f1 (Ne.symm n19),f2.keep ko kt⟩,⟨us,k _ _ g1 (Ne.symm n20),g2.keep ko kt⟩,nd,np'⟩,f⟩
theorem Zy.setCur(h:Zy ca H A S)(hp:∃ dx,H' A.p=some (.ins ca.season dx (seaF A S.len S.rest v)))(sh:ShO ca.sheet (·∉A.fp) H' v cur)(k:∀ b o,H b=some o->b≠A.p->H' b=some o):Zy ca H' A { S with cur:=cur }/\FrS A H H':=by
 have f:FrS A H H':=.one (by simp[SAd.fp]) k;have kt:=h.tups f;have ko:∀ x o,x∉A.fp->H x=some o->H' x=some o:=fun x o hx e=>f x o e hx;obtain⟨⟨n1,n2,n3,n4,n5,n6⟩,⟨n7,n8,n9,n10,n11⟩,⟨n12,n13,n14,n15⟩,⟨n16,n17,n18⟩,⟨n19,n20⟩,n21⟩:=Iy h.nd;have np:=Ko h (show A.p∈A.fp by simp[SAd.fp]);obtain⟨⟨dx,v',a1,a2⟩,b,c,⟨kvs',d1,d2⟩,⟨vs,f1,f2⟩,⟨us,g1,g2⟩,nd,np'⟩:=h;obtain⟨dx',hp⟩:=hp;exact⟨⟨⟨dx',v,hp,sh⟩,b.keep (fun o e=>k _ o e np.1) (fun o e=>k _ o e (Ne.symm n1)) kt,c.keep (fun o e=>k _ o e np.2) (fun o e=>k _ o e (Ne.symm n2)) (fun o e=>k _ o e (Ne.symm n3)) kt,⟨kvs',k _ _ d1 (Ne.symm n4),d2⟩,⟨vs,k _ _ f1 (Ne.symm n5),f2.keep ko kt⟩,⟨us,k _ _ g1 (Ne.symm n6),g2.keep ko kt⟩,nd,np'⟩,f⟩
theorem Zy.setStd{std:List (Rh×Option Zz)}{us:#[b]}(h:Zy ca H A S)(hd:H' A.lt=#[a,.lst,us])(ok:Ux ca.sheet (·∉A.fp) H' us std)(k:∀ b o,H b=some o->b≠A.lt->H' b=some o):Zy ca H' A { S with std:=std }/\FrS A H H':=by
 have f:FrS A H H':=.one (by simp[SAd.fp]) k;have kt:=h.tups f;have ko:∀ x o,x∉A.fp->H x=some o->H' x=some o:=fun x o hx e=>f x o e hx;obtain⟨⟨n1,n2,n3,n4,n5,n6⟩,⟨n7,n8,n9,n10,n11⟩,⟨n12,n13,n14,n15⟩,⟨n16,n17,n18⟩,⟨n19,n20⟩,n21⟩:=Iy h.nd;have np:=Ko h (show A.lt∈A.fp by simp[SAd.fp]);obtain⟨⟨dx,v,a1,a2⟩,b,c,⟨kvs,d1,d2⟩,⟨vs,f1,f2⟩,⟨us',g1,g2⟩,nd,np'⟩:=h;exact⟨⟨⟨dx,v,k _ _ a1 n6,a2.keep ko kt⟩,b.keep (fun o e=>k _ o e np.1) (fun o e=>k _ o e n11) kt,c.keep (fun o e=>k _ o e np.2) (fun o e=>k _ o e n15) (fun o e=>k _ o e n18) kt,⟨kvs,k _ _ d1 n20,d2⟩,⟨vs,k _ _ f1 n21,f2.keep ko kt⟩,⟨us,hd,ok⟩,nd,np'⟩,f⟩
theorem Zy.setOld{old:List Zz}{us:#[b]}(h:Zy ca H A S)(hd:H' A.ls=#[a,.lst,us])(ok:ShL ca.sheet (·∉A.fp) H' us old)(k:∀ b o,H b=some o->b≠A.ls->H' b=some o):Zy ca H' A { S with old:=old }/\FrS A H H':=by
 have f:FrS A H H':=.one (by simp[SAd.fp]) k;have kt:=h.tups f;have ko:∀ x o,x∉A.fp->H x=some o->H' x=some o:=fun x o hx e=>f x o e hx;obtain⟨⟨n1,n2,n3,n4,n5,n6⟩,⟨n7,n8,n9,n10,n11⟩,⟨n12,n13,n14,n15⟩,⟨n16,n17,n18⟩,⟨n19,n20⟩,n21⟩:=Iy h.nd;have np:=Ko h (show A.ls∈A.fp by simp[SAd.fp]);obtain⟨⟨dx,v,a1,a2⟩,b,c,⟨kvs,d1,d2⟩,⟨vs,f1,f2⟩,⟨us',g1,g2⟩,nd,np'⟩:=h;exact⟨⟨⟨dx,v,k _ _ a1 n5,a2.keep ko kt⟩,b.keep (fun o e=>k _ o e np.1) (fun o e=>k _ o e n10) kt,c.keep (fun o e=>k _ o e np.2) (fun o e=>k _ o e n14) (fun o e=>k _ o e n17) kt,⟨kvs,k _ _ d1 n19,d2⟩,⟨us,hd,ok⟩,⟨us',k _ _ g1 (Ne.symm n21),g2.keep ko kt⟩,nd,np'⟩,f⟩
theorem Zy.setLed(h:Zy ca H A S)(l:Ub ca.ledger H' A.pl A.lr A.ld Rs)(k:∀ b o,H b=some o->b≠A.lr->b≠A.ld->H' b=some o):Zy ca H' A { S with led:=Rs }/\FrS A H H':=by
 have f:FrS A H H':=fun b o e hb=>k b o e (fun z=>hb (by rw[z];simp[SAd.fp])) fun z=>hb (by rw[z];simp[SAd.fp]);have kt:=h.tups f;have ko:∀ x o,x∉A.fp->H x=some o->H' x=some o:=fun x o hx e=>f x o e hx;obtain⟨⟨n1,n2,n3,n4,n5,n6⟩,⟨n7,n8,n9,n10,n11⟩,⟨n12,n13,n14,n15⟩,⟨n16,n17,n18⟩,⟨n19,n20⟩,n21⟩:=Iy h.nd;have np:=Ko h (show A.lr∈A.fp by simp[SAd.fp]);have np2:=Ko h (show A.ld∈A.fp by simp[SAd.fp]);obtain⟨⟨dx,v,a1,a2⟩,b,c,⟨kvs,d1,d2⟩,⟨vs,f1,f2⟩,⟨us',g1,g2⟩,nd,np'⟩:=h;exact⟨⟨⟨dx,v,k _ _ a1 n2 n3,a2.keep ko kt⟩,b.keep (fun o e=>k _ o e np.1 np2.1) (fun o e=>k _ o e n7 n8) kt,l,⟨kvs,k _ _ d1 (Ne.symm n13) (Ne.symm n16),d2⟩,⟨vs,k _ _ f1 (Ne.symm n14) (Ne.symm n17),f2.keep ko kt⟩,⟨us',k _ _ g1 (Ne.symm n15) (Ne.symm n18),g2.keep ko kt⟩,nd,np'⟩,f⟩
theorem O8:putF "sheet" v' (seaF A l r v)=seaF A l r v':=by
 have n1:¬ (("length":Str)="sheet"):=by decide +kernel
 have n2:¬ (("rest":Str)="sheet"):=by decide +kernel
 have n3:¬ (("roster":Str)="sheet"):=by decide +kernel
 have n4:¬ (("ledger":Str)="sheet"):=by decide +kernel
 have n5:¬ (("absent":Str)="sheet"):=by decide +kernel
 have n6:¬ (("sheets":Str)="sheet"):=by decide +kernel
 simp only[putF,seaF,if_neg n1,if_neg n2,if_neg n3,if_neg n4,if_neg n5,if_neg n6,if_true]
theorem FrS.free(f:FrS A H H')(h:Zy ca H' A S')(hl:H' l=none):H l=none:=by
 cases e:H l with
 | none=>rfl
 | some o =>
   by_cases hm:l∈A.fp
   ·obtain⟨o',e'⟩:=h.there l hm;rw[e'] at hl;cases hl
   ·rw[f l o e hm] at hl;cases hl
theorem ShAt.ins(h:ShAt ca.sheet (·∉A.fp) H q s):∃ dx l1 l2 l3 l4,H q=some (.ins ca.sheet dx (shF l1 l2 l3 l4)):=by
 obtain⟨dx,l1,l2,l3,l4,_,_,_,a1,_⟩:=h;exact⟨dx,l1,l2,l3,l4,a1⟩
theorem Zy.newSheet(h:Zy ca H A S)(hp:H A.p=some (.ins ca.season dx (seaF A S.len S.rest v)))(sh:ShAt ca.sheet (·∉A.fp) H q s) :
  Zy ca (upd H A.p (.ins ca.season dx (putF "sheet" (.ref q) (seaF A S.len S.rest v)))) A { S with cur:=some s }/\FrS A H (upd H A.p (.ins ca.season dx (putF "sheet" (.ref q) (seaF A S.len S.rest v))))/\ShAt ca.sheet (·∉A.fp) (upd H A.p (.ins ca.season dx (putF "sheet" (.ref q) (seaF A S.len S.rest v)))) q s:=by
 have k:∀ b o,H b=some o->b≠A.p->upd H A.p (.ins ca.season dx (putF "sheet" (.ref q) (seaF A S.len S.rest v))) b=some o:=fun b o e n=>by rw[Zi n];exact e
 have sh':=sh.keep (H':=upd H A.p (.ins ca.season dx (putF "sheet" (.ref q) (seaF A S.len S.rest v)))) (fun x o hx e=>k x o e fun z=>hx (by rw[z];simp[SAd.fp])) fun t xs e=>k t _ e (Yw e hp (fun z=>nomatch z));obtain⟨h1,h2⟩:=h.setCur (cur:=some s) (v:=.ref q) ⟨dx,by rw[Zd];exact congrArg (fun x=>some (HO.ins ca.season dx x)) O8⟩ ⟨q,rfl,sh'⟩ k;exact⟨h1,h2,sh'⟩
theorem Fg:putF "standing" (.ref x) (seaF A l r v)=seaF { A with lt:=x } l r v:=by
 have n1:¬ (("length":Str)="standing"):=by decide +kernel
 have n2:¬ (("rest":Str)="standing"):=by decide +kernel
 have n3:¬ (("roster":Str)="standing"):=by decide +kernel
 have n4:¬ (("ledger":Str)="standing"):=by decide +kernel
 have n5:¬ (("absent":Str)="standing"):=by decide +kernel
 have n6:¬ (("sheets":Str)="standing"):=by decide +kernel
 have n7:¬ (("sheet":Str)="standing"):=by decide +kernel
 simp only[putF,seaF,if_neg n1,if_neg n2,if_neg n3,if_neg n4,if_neg n5,if_neg n6,if_neg n7,if_true]
end
def zgf(r q:Nat):Sea:=⟨r,q,[],[],[],[],none,[]⟩
inductive zco(ca:CA)(vs:#[b])(H:Hp)(Q:VK)(E:XK):Prop where
 | mk(p dx:Addr)(r q:Int)(_:vs=[.ref p,.int r,.int q])(_:H p=some (.ins ca.season dx []))(_:Yl r)(_:Yl q)(_:if r<0\/60<r then E (.ref ca.out) none H else if q<0\/10<q then E (.ref ca.out) none H else ∀ A H',A.p=p->Zy ca H' A (zgf r.toNat q.toNat)->(∀ b o,H b=some o->b≠p->H' b=some o)->(∀ x∈A.fp,x≠p->H x=none)->Q .non H')
inductive zcp(ca:CA)(vs:#[b])(H:Hp)(Q:VK)(E:XK):Prop where
 | mk(A:SAd)(S:Sea)(n g c:Int)(_:vs=[.ref A.p,.int n,.int g,.int c])(_:Zy ca H A S)(_:za6 n g c)(_:S.std.length<=1000)(_:S.ppl.length<=1000)(_:if S.len<=S.led.length then E (.ref ca.seaOver) none H else if S.cur.isSome then E (.ref ca.drawn) none H else if badI n g c then E (.ref ca.out) none H else if n∈S.ppl.map (·.1) then E (.ref ca.known) none H else if 30<=S.ppl.length then E (.ref ca.many) none H else if 100<=S.std.length then E (.ref ca.manyD) none H else ∀ H',Zy ca H' A { S with ppl:=S.ppl++[(n,g,c)],std:=S.std++[(((("enrol":Str),n,atV S):Rh),S.cur)] }->FrS A H H'->Q .non H')
def zgg(S:Sea)(ms:List P3)(gv:#[b]):Sea:={ S with cur:=some ⟨ms,mayS S ms,gv,[]⟩,std:=S.std++[(((("draw up":Str),(ms.length:Int),atV S):Rh),S.cur)] }
inductive Ab(K:Frag)(ca:CA)(vs:#[b])(H:Hp)(Q:VK)(E:XK):Prop where
 | mk(A:SAd)(S:Sea)(b:Addr)(ts:#[b])(ms:List P3)(_:vs=[.ref A.p,.ref b])(_:Zy ca H A S)(_:SqL K H b ts)(_:Z9 H ts (ms.map pV))(_:(∀ m∈ms,Ca m))(_:ms.length<=1000)(_:S.std.length<=1000)(_:Ri S)(_:if S.len<=S.led.length then E (.ref ca.seaOver) none H else if S.cur.isSome then E (.ref ca.drawn) none H else (20<ms.length->E (.ref ca.manyM) none H)/\(ms.length<=20->R0 ms->E (.ref ca.out) none H)/\(ms.length<=20->¬ R0 ms->R1 ms->E (.ref ca.same) none H)/\(ms.length<=20->¬ R0 ms->¬ R1 ms->(100<=S.std.length->∀ H',Same H H'->E (.ref ca.manyD) none H')/\(S.std.length<100->∀ l gv H',H' l=some (.lst gv)->Zy ca H' A (zgg S ms gv)->Yk (mayS S ms) gv->Vv (mayS S ms) gv->FrS A H H'->H l=none->Q (.ref l) H')))
inductive Ac(ca:CA)(vs:#[b])(H:Hp)(Q:VK)(_:XK):Prop where
 | mk(A:SAd)(S:Sea)(n:Int)(s:Zz)(nu:List Int)(_:vs=[.ref A.p,.int n])(_:Zy ca H A S)(_:S.cur=some s)(_:Ri S)(_:s.ms.length<=20)(_:(∀ x∈s.gv,oneV x))(_:s.gv.length<=100)(_:s.gaps.length<=500)(_:Ql (mayS S s.ms) nu)(_:(X2 s.gv n=none->∀ l H',H' l=#[a,.lst,[]]->Zy ca H' A { S with cur:=some { s with may:=mayS S s.ms } }->FrS A H H'->H l=none->Q (.ref l) H'))(_:∀ p,X2 s.gv n=some p->s.gv[p]?=#[e,n]/\(∀ j:Nat,s.gv[j]?=some (.int n)->j=p)/\Yk (mayS S s.ms) (s.gv.set p .non)/\∀ l us st e w H',H' l=#[a,.lst,us]->Z9 H' us (st.map Vn)->Xo (mayS S s.ms) (s.gv.set p .non) p st e w->Zy ca H' A { S with cur:=some ⟨s.ms,mayS S s.ms,Yu st (s.gv.set p .non),s.gaps++[(n,st)]⟩ }->FrS A H H'->H l=none->Q (.ref l) H')
def X0(S:Sea)(i n:Int):Sea:={ S with out:=S.out++[(i,n)],std:=S.std++[((("away":Str),n,i),S.cur)] }
inductive za7(ca:CA)(vs:#[b])(H:Hp)(Q:VK)(E:XK):Prop where
 | mk(A:SAd)(S:Sea)(i n:Int)(_:vs=[.ref A.p,.int i,.int n])(_:Zy ca H A S)(_:Yl i)(_:Yl n)(_:S.std.length<=1000)(_:S.out.length<=100000)(_:Ri S)(_:(∀ s,S.cur=some s->s.ms.length<=20/\Yk s.may s.gv/\s.may=mayS S s.ms/\s.gaps.length<=500))(_:if i<1\/(S.len:Int)<i then E (.ref ca.noRound) none H else if i<=S.led.length then E (.ref ca.over) none H else if n∈S.ppl.map (·.1) then (if (i,n)∈S.out then ∀ H',Same H H'->E (.ref ca.away) none H' else if 100<=S.std.length then ∀ H',Same H H'->E (.ref ca.manyD) none H' else (S.cur=none\/atV S<i->∀ l H',H' l=some (.lst [])->Zy ca H' A (X0 S i n)->FrS A H H'->H l=none->Q (.ref l) H')/\(∀ s,i=atV S->S.cur=some s->X2 s.gv n=none->∀ l H',H' l=some (.lst [])->Zy ca H' A { X0 S i n with cur:=some { s with may:=mayS (X0 S i n) s.ms } }->FrS A H H'->H l=none->Q (.ref l) H')/\(∀ s p,i=atV S->S.cur=some s->X2 s.gv n=some p->∀ l us st e w H',H' l=some (.lst us)->Z9 H' us (st.map Vn)->Xo (mayS (X0 S i n) s.ms) (s.gv.set p .non) p st e w->Zy ca H' A { X0 S i n with cur:=some ⟨s.ms,mayS (X0 S i n) s.ms,Yu st (s.gv.set p .non),s.gaps++[(n,st)]⟩ }->FrS A H H'->H l=none->Q (.ref l) H')) else E (.ref ca.unk) none H)
theorem Q5.put(h:Q5 kvs out)(i n:Int):Q5 (putK kvs [inl i,inl n] (.bl true)) (out++[(i,n)]):=by
 refine⟨fun j m=>?_,?_⟩
 ·rw[Vt];by_cases e:j=i/\m=n
  ·rw[if_pos (Pr.mpr e),zva (by rw[e.1,e.2];simp)];rfl
  ·rw[if_neg fun z=>e (Pr.mp z),h.1 j m];by_cases hm:(j,m)∈out
   ·rw[zva hm,zva (zvq _ hm)]
   ·rw[zvf hm,zvf];intro z;rcases zve.mp z with q|q
    ·exact hm q
    ·have:=zu6.mp q;exact e (by cases this;exact⟨rfl,rfl⟩)
 ·have:=Xk kvs ([inl i,inl n]:List Key) (.bl true);have:=h.2;rw[zu5];show _<=out.length+1;omega
theorem Q5.drop(h:Q5 kvs (out++[(i,n)]))(hn:(i,n)∉out):Q5 (X9 kvs [inl i,inl n]) out:=by
 have hv:∀ k:List Key,valV (X9 kvs [inl i,inl n]) k=if k=[inl i,inl n] then none else valV kvs k:=fun k=>by
  clear h
  induction kvs with
  | nil=>unfold X9;simp[valV]
  | cons x kvs ih =>
    by_cases ex:x.1=[inl i,inl n]
    ·rw[zdd ex,ih];by_cases e:k=[inl i,inl n]
     ·rw[if_pos e,if_pos e]
     ·rw[if_neg e,if_neg e,Xd fun z=>e (z.symm.trans ex)]
    ·rw[zde ex];by_cases ek:x.1=k
     ·rw[Xf ek,Xf ek,if_neg fun z=>ex (ek.trans z)]
     ·rw[Xd ek,Xd ek,ih]
 refine⟨fun j m=>?_,?_⟩
 ·rw[hv];by_cases e:j=i/\m=n
  ·rw[if_pos (Pr.mpr e),zvf (by rw[e.1,e.2];exact hn)];rfl
  ·rw[if_neg fun z=>e (Pr.mp z),h.1 j m];by_cases hm:(j,m)∈out
   ·rw[zva hm,zva (zvq _ hm)]
   ·rw[zvf hm,zvf];intro z;rcases zve.mp z with q|q
    ·exact hm q
    ·have:=zu6.mp q;exact e (by cases this;exact⟨rfl,rfl⟩)
 ·have h1:=h.1 i n;rw[zva (show (i,n)∈out++[(i,n)] by simp)] at h1;have h2:=h.2;rw[zu5] at h2;have h2:kvs.length<=out.length+1:=h2;have h3:(X9 kvs [inl i,inl n]).length<kvs.length:=by
   unfold X9;rw[List.length_filter_lt_length_iff_exists];obtain⟨v,hv'⟩:=zwf.mp h1;unfold valV at hv';obtain⟨x,hx,_⟩:=zw1.mp hv';refine⟨x,List.mem_of_find?_eq_some hx,?_⟩;have:=List.find?_some hx;intro z;exact of_decide_eq_true z (of_decide_eq_true this)
  omega
theorem R4(h:X2 gv n=some p):gv[p]?=#[e,n]:=by
 unfold X2 at h;have h2:decide (gv[p]?=#[a,V.int,n])=true:=List.find?_some (p:=fun i=>decide (gv[i]?=some (V.int n))) h;exact of_decide_eq_true h2
theorem Tj:mayS (X0 S (atV S) n) ms=without (mayS S ms) n:=by
 unfold mayS without;rw[zwn];refine zwo fun m _=>?_;show Ff (X0 S (atV S) n) m=(Ff S m).filter fun x=>decide (x≠n);unfold Ff;rw[List.filter_map,List.filter_filter]
 congr 1
 refine List.filter_congr fun x _=>?_;show (whyS S.led x.1 x.2.1 x.2.2 m.1 m.2.1 m.2.2 (pIn (S.out++[(atV S,n)]) (atV S) x) S.rest).isEmpty=(decide (x.1≠n)&&(whyS S.led x.1 x.2.1 x.2.2 m.1 m.2.1 m.2.2 (pIn S.out (atV S) x) S.rest).isEmpty);unfold pIn;by_cases e:x.1=n
 ·have h1:decide ((atV S,x.1)∈S.out++[(atV S,n)])=true:=zva (by rw[e];simp);rw[h1,zvf fun z=>z e,Bool.false_and];unfold whyS bw;simp
 ·have h1:decide ((atV S,x.1)∈S.out++[(atV S,n)])=decide ((atV S,x.1)∈S.out):=by
   by_cases hm:(atV S,x.1)∈S.out
   ·rw[zva hm,zva (zvq _ hm)]
   ·rw[zvf hm,zvf];intro z;rcases zve.mp z with q|q
    ·exact hm q
    ·have:=zu6.mp q;cases this;exact e rfl
  rw[h1,zva e,Bool.true_and]
def Cb(S:Sea)(s:Zz):Sea:={ S with led:=S.led++[Z5 s],old:=S.old++[s],cur:=none,std:=[] }
inductive zcq(ca:CA)(vs:#[b])(H:Hp)(Q:VK)(E:XK):Prop where
 | mk(A:SAd)(S:Sea)(_:vs=[.ref A.p])(_:Zy ca H A S)(_:2*(tot S.led+1000)<=100000)(_:S.led.length<=1000)(_:S.old.length<=1000)(_:(∀ s,S.cur=some s->(∀ x∈s.gv,oneV x)/\s.gv.length=s.ms.length/\s.ms.length<=1000))(_:if S.len<=S.led.length then E (.ref ca.seaOver) none H else (S.cur=none->E (.ref ca.notDrawn) none H)/\∀ s x H',S.cur=some s->Zy ca H' { A with lt:=x } (Cb S s)->FrS A H H'->H x=none->Q (.int (atV S)) H')
theorem Zy.freshStd(h:Zy ca H A S)(hx:H x=none)(hp:H A.p=some (.ins ca.season dx (seaF A S.len S.rest v)))(hv:ShO ca.sheet (·∉A.fp) H v S.cur)
  (e:H'=upd (upd H x (.lst [])) A.p (.ins ca.season dx (putF "standing" (.ref x) (seaF A S.len S.rest v)))):Zy ca H' { A with lt:=x } { S with std:=[] }/\FrS A H H':=by
 have hpx:A.p≠x:=Zh hp hx;have k:∀ b o,H b=some o->b≠A.p->H' b=some o:=fun b o q n=>by rw[e,Zi n,Zi (Zh q hx)];exact q
 have f:FrS A H H':=.one (by simp[SAd.fp]) k;have kt:=h.tups f;have hnx:∀ y,(∃ o,H y=some o)->y≠x:=fun y ⟨o,q⟩=>Zh q hx;have okk:∀ y,(∃ o,H' y=some o)->y∉A.fp->(∃ o,H y=some o)->y∉({ A with lt:=x }:SAd).fp:=fun y _ hy hH hm=>by
  simp only[SAd.fp,zu7,zv7,or_false] at hm hy;rcases hm with q|q|q|q|q|q|q
  ·exact hy (.inl q)
  ·exact hy (.inr (.inl q))
  ·exact hy (.inr (.inr (.inl q)))
  ·exact hy (.inr (.inr (.inr (.inl q))))
  ·exact hy (.inr (.inr (.inr (.inr (.inl q)))))
  ·exact hy (.inr (.inr (.inr (.inr (.inr (.inl q))))))
  ·exact hnx y hH q
 have ok2:∀ y,(∃ o,H y=some o)->y∉A.fp->y∉({ A with lt:=x }:SAd).fp:=fun y hH hy hm=>by
  simp only[SAd.fp,zu7,zv7,or_false] at hm hy;rcases hm with q|q|q|q|q|q|q
  ·exact hy (.inl q)
  ·exact hy (.inr (.inl q))
  ·exact hy (.inr (.inr (.inl q)))
  ·exact hy (.inr (.inr (.inr (.inl q))))
  ·exact hy (.inr (.inr (.inr (.inr (.inl q)))))
  ·exact hy (.inr (.inr (.inr (.inr (.inr (.inl q))))))
  ·exact hnx y hH q
 have ko:∀ y o,y∉({ A with lt:=x }:SAd).fp->H y=some o->H' y=some o:=fun y o hy q=>k y o q fun z=>hy (by rw[z];simp[SAd.fp]);have there:=h.there;obtain⟨⟨n1,n2,n3,n4,n5,n6⟩,⟨n7,n8,n9,n10,n11⟩,⟨n12,n13,n14,n15⟩,⟨n16,n17,n18⟩,⟨n19,n20⟩,n21⟩:=Iy h.nd;have np:=Ko h (show A.p∈A.fp by simp[SAd.fp]);have npp:=h.np;obtain⟨⟨dx',v',a1,a2⟩,b,c,⟨kvs',d1,d2⟩,⟨vs,f1,f2⟩,⟨us,g1,g2⟩,nd,np'⟩:=h;have hpr:∃ o,H A.pr=some o:=by obtain⟨⟨_,_,q,_⟩,_⟩:=b;exact⟨_,q⟩
 have hpl:∃ o,H A.pl=some o:=by obtain⟨⟨_,q⟩,_⟩:=c;exact⟨_,q⟩
 refine⟨⟨⟨dx,v,?_,(hv.imp ok2).keep ko kt⟩,b.keep (fun o q=>k _ o q np.1) (fun o q=>k _ o q (Ne.symm n1)) kt,c.keep (fun o q=>k _ o q np.2) (fun o q=>k _ o q (Ne.symm n2)) (fun o q=>k _ o q (Ne.symm n3)) kt,⟨kvs',k _ _ d1 (Ne.symm n4),d2⟩,⟨vs,k _ _ f1 (Ne.symm n5),(f2.imp ok2).keep ko kt⟩,⟨[],?_,?_⟩,?_,⟨ok2 _ hpr npp.1,ok2 _ hpl npp.2⟩⟩,f⟩
 ·rw[e,Zd];exact congrArg (fun z=>some (HO.ins ca.season dx z)) Fg
 ·show H' x=#[a,.lst,[]];rw[e,Zi (Ne.symm hpx),Zd]
 ·exact .nil
 ·show [A.p,A.dr,A.lr,A.ld,A.da,A.ls,x].Nodup;have m:∀ y∈A.fp,y≠x:=fun y hy=>hnx y (there y hy);simp only[zvt,zu7,zv7,or_false,not_or];exact⟨⟨n1,n2,n3,n4,n5,m _ (by simp[SAd.fp])⟩,⟨n7,n8,n9,n10,m _ (by simp[SAd.fp])⟩,⟨n12,n13,n14,m _ (by simp[SAd.fp])⟩,⟨n16,n17,m _ (by simp[SAd.fp])⟩,⟨n19,m _ (by simp[SAd.fp])⟩,m _ (by simp[SAd.fp]),by simp,zww⟩
def zgh(S:Sea)(d:Rh)(ppl:RL)(out:List (Int×Int)):Prop:=(d.1="enrol"/\(∃ g c,S.ppl=ppl++[(d.2.1,g,c)])/\out=S.out)\/(d.1="away"/\ppl=S.ppl/\S.out=out++[(d.2.2,d.2.1)]/\(d.2.2,d.2.1)∉out)\/(d.1="draw up"/\ppl=S.ppl/\out=S.out)
inductive O9(ca:CA)(vs:#[b])(H:Hp)(Q:VK)(E:XK):Prop where
 | mk(A:SAd)(S:Sea)(_:vs=[.ref A.p])(_:Zy ca H A S)(_:(S.std=[]->E (.ref ca.nothing) none H))(_:∀ std d s,S.std=std++[(d,s)]->∃ ppl out,zgh S d ppl out/\∀ t H',H' t=some (.tup (Oh d))->Zy ca H' A { S with ppl:=ppl,out:=out,cur:=s,std:=std }->FrS A H H'->Q (.ref t) H')
def Sf(ca:CA)(H:Hp)(S:Sea)(i:Int)(E:XK)(k:Zz->Prop):Prop:=Yl i/\S.old.length=S.led.length/\if i<1\/(S.len:Int)<i then E (.ref ca.noRound) none H else (Wg S i=none->E (.ref ca.notDrawn) none H)/\∀ s,Wg S i=some s->k s
inductive Dc(ca:CA)(vs:#[b])(H:Hp)(Q:VK)(E:XK):Prop where
 | mk(A:SAd)(S:Sea)(i:Int)(_:vs=[.ref A.p,.int i])(_:Zy ca H A S)(_:Sf ca H S i E fun s=>∀ l ts H',H' l=#[a,.lst,ts]->Z9 H' ts (s.ms.map pV)->Same H H'->H l=none->Q (.ref l) H')
inductive za8(ca:CA)(vs:#[b])(H:Hp)(Q:VK)(E:XK):Prop where
 | mk(A:SAd)(S:Sea)(i:Int)(_:vs=[.ref A.p,.int i])(_:Zy ca H A S)(_:Sf ca H S i E fun s=>∀ l H',H' l=#[a,.lst,s.gv]->Same H H'->H l=none->Q (.ref l) H')
inductive Ae(ca:CA)(vs:#[b])(H:Hp)(Q:VK)(E:XK):Prop where
 | mk(A:SAd)(S:Sea)(i:Int)(_:vs=[.ref A.p,.int i])(_:Zy ca H A S)(_:Sf ca H S i E fun s=>(∀ x∈s.gv,oneV x)/\s.gv.length<=100/\∀ l H',H' l=some (.lst ((Xr s.gv).map fun i=>V.int (i:Nat)))->Same H H'->H l=none->Q (.ref l) H')
inductive zii(ca:CA)(vs:#[b])(H:Hp)(Q:VK)(E:XK):Prop where
 | mk(A:SAd)(S:Sea)(i:Int)(_:vs=[.ref A.p,.int i])(_:Zy ca H A S)(_:Sf ca H S i E fun s=>(∃ nu,Ql s.may nu)/\Yk s.may s.gv/\Bv s.may s.gv/\∀ t lp lr ps rs H',H' t=#[a,.tup,[.ref lp,.ref lr]]->H' lp=some (.lst (W0 ps))->H' lr=some (.lst (rs.map V.int))->Ip s.may s.gv ps rs->Same H H'->H t=none->H lp=none->H lr=none->lp≠lr->Q (.ref t) H')
inductive Ma(ca:CA)(vs:#[b])(H:Hp)(Q:VK)(E:XK):Prop where
 | mk(A:SAd)(S:Sea)(i:Int)(_:vs=[.ref A.p,.int i])(_:Zy ca H A S)(_:Sf ca H S i E fun s=>s.gaps.length<=1000/\∀ l ts H',H' l=#[a,.lst,ts]->Xz (fun x=>H x=none/\x≠l) H' ts s.gaps->Same H H'->H l=none->Q (.ref l) H')
inductive zcr(ca:CA)(vs:#[b])(H:Hp)(Q:VK)(E:XK):Prop where
 | mk(A:SAd)(S:Sea)(i n:Int)(_:vs=[.ref A.p,.int i,.int n])(_:Zy ca H A S)(_:Yl n)(_:Sf ca H S i E fun s=>(∀ x∈s.gv,oneV x)/\s.gv.length<=100/\if n∈S.ppl.map (·.1) then ∀ H',Same H H'->Q (oN (X2 s.gv n)) H' else E (.ref ca.unk) none H)
theorem Tn(ks:List Str):∀ {fs:List (Str×V)},fs.map (·.1)=ks->(ks.all fun x=>!decide (x=f))=true->putF f v fs=fs++[(f,v)]:=by
 intro fs hk h;subst hk
 induction fs with
 | nil=>rfl
 | cons x fs ih =>
   rw[zvg,List.all_cons,zwm,Bool.not_eq_true',decide_eq_false_iff_not] at h;obtain⟨k,y⟩:=x;show (if k=f then _ else _)=_;rw[if_neg h.1,ih h.2];rfl
def sF1(l:V):List (Str×V):=[("length",l)]
def sF2(l r:V):List (Str×V):=[("length",l),("rest",r)]
def sF3(l r a:V):List (Str×V):=[("length",l),("rest",r),("roster",a)]
def sF4(l r a b:V):List (Str×V):=[("length",l),("rest",r),("roster",a),("ledger",b)]
def sF5(l r a b c:V):List (Str×V):=[("length",l),("rest",r),("roster",a),("ledger",b),("absent",c)]
def sF6(l r a b c d:V):List (Str×V):=[("length",l),("rest",r),("roster",a),("ledger",b),("absent",c),("sheets",d)]
def sF7(l r a b c d e:V):List (Str×V):=[("length",l),("rest",r),("roster",a),("ledger",b),("absent",c),("sheets",d),("sheet",e)]
def sF8(l r a b c d e f:V):List (Str×V):=[("length",l),("rest",r),("roster",a),("ledger",b),("absent",c),("sheets",d),("sheet",e),("standing",f)]
theorem pF1:putF "length" l []=sF1 l:=rfl
theorem pF2:putF "rest" r (sF1 l)=sF2 l r:=Tn ["length"] rfl ⋯
theorem pF3:putF "roster" a (sF2 l r)=sF3 l r a:=Tn ["length","rest"] rfl ⋯
theorem pF4:putF "ledger" b (sF3 l r a)=sF4 l r a b:=Tn ["length","rest","roster"] rfl ⋯
theorem pF5:putF "absent" c (sF4 l r a b)=sF5 l r a b c:=Tn ["length","rest","roster","ledger"] rfl ⋯
theorem pF6:putF "sheets" d (sF5 l r a b c)=sF6 l r a b c d:=Tn ["length","rest","roster","ledger","absent"] rfl ⋯
theorem pF7:putF "sheet" e (sF6 l r a b c d)=sF7 l r a b c d e:=Tn ["length","rest","roster","ledger","absent","sheets"] rfl ⋯
theorem pF8:putF "standing" f (sF7 l r a b c d e)=sF8 l r a b c d e f:=Tn ["length","rest","roster","ledger","absent","sheets","sheet"] rfl ⋯
theorem Vy.free{p:Addr}{H H':Hp}{x:Addr}(hb:∀ b o,H b=some o->b≠p->H' b=some o)(hp:∃ o,H' p=some o)(hx:H' x=none):H x=none:=by
 cases e:H x with
 | none=>rfl
 | some o =>
   by_cases z:x=p
   ·subst z;obtain⟨o',q⟩:=hp;rw[q] at hx;cases hx
   ·rw[hb x o e z] at hx;cases hx
def Vy(p:Addr)(H H':Hp):Prop:=∀ b o,H b=some o->b≠p->H' b=some o
theorem Vy.trans(a:Vy p H1 H2)(b:Vy p H2 H3):Vy p H1 H3:=fun x o e n=>b x o (a x o e n) n
theorem Vy.of(a:Same H1 H2):Vy p H1 H2:=fun x o e _=>a x o e
theorem Vy.put:Vy p H (upd H p o):=fun x o e n=>by rw[Zi n];exact e
end G
namespace L2
open PySem PySem.Spec PyProof.Rows
theorem za9:Vs X (.type "dict") (fun xs H Q=>∃ a kvs,xs=[.ref a]/\Rd H a (.dK kvs)/\∀ p,H p=none->Q (.ref p) (upd H p (.dK kvs))):=by
 intro pins s σ H xs us Q I r h;obtain⟨a,kvs,rfl,ha,q⟩:=h;obtain⟨u,rfl,ru⟩:=Qi r;cases (show u=Value.ref a from ru);exact zfb I ha fun p s' hp I'=>⟨.ref p,_,I',rfl,q p hp⟩
end L2
namespace G
open PySem PySem.Spec PyProof.Rows L2
def Kp:List Int:=[0,1,2,3,4,5,6,7,8,9,10,0,0,0,1,1,1,2,2,0,1,3]
inductive Af(K:Frag)(vs:#[b])(H:Hp)(Q:VK)(_:XK):Prop where
 | mk(b:Addr)(ns:List Int)(_:vs=[.ref b])(_:SqL K H b (ns.map V.int))(_:∀ (q:Nat) H',q=(Kp.getD (X5 ns 1%22).toNat 0).toNat->q<=10->Same H H'->Q (.int q) H')
inductive Ag(K:Frag)(vs:#[b])(H:Hp)(Q:VK)(_:XK):Prop where
 | mk(b:Addr)(ns:List Int)(k:Nat)(_:vs=[.ref b,.int k])(_:SqL K H b (ns.map V.int))(_:k<ns.length)(_:∀ c H',Same H H'->Q (.int c) H')
structure Na(H:Hp)(t lc ln:Addr)(cs nu:List Int):Prop where
 tup:H t=#[a,.tup,[.ref lc,.ref ln]]
 clubs:H lc=some (.lst (cs.map V.int))
 nums:H ln=some (.lst (nu.map V.int))
 few:3<=cs.length/\cs.length<=10
 cnd:cs.Nodup
 crng:∀ c∈cs,1<=c/\c<=99
 nfew:1<=nu.length/\nu.length<=30
 nnd:nu.Nodup
 nrng:∀ n∈nu,1<=n/\n<=999
theorem Na.same{H H':Hp}{t lc ln:Addr}{cs nu:List Int}(h:Na H t lc ln cs nu)(e:Same H H'):Na H' t lc ln cs nu:=⟨e _ _ h.tup,e _ _ h.clubs,e _ _ h.nums,h.few,h.cnd,h.crng,h.nfew,h.nnd,h.nrng⟩
inductive Ah(K:Frag)(vs:#[b])(H:Hp)(Q:VK)(_:XK):Prop where
 | mk(b:Addr)(ns:List Int)(cr:Nat)(_:vs=[.ref b,.int cr])(_:SqL K H b (ns.map V.int))(_:1<=cr)(_:cr<=30)(_:∀ t lc ln cs nu H',Na H' t lc ln cs nu->nu.length=cr->Same H H'->H t=none->H lc=none->H ln=none->Q (.ref t) H')
theorem Ai(c:Int)(hi:i<10)(hj:j<10)(h:Ep c i=Ep c j):i=j:=by
 unfold Ep at h;have hs:Dw c=1\/Dw c=2\/Dw c=5\/Dw c=10\/Dw c=50\/Dw c=97\/Dw c=98:=by
  unfold Dw;have h0:0<=c%7:=by omega
  have h1:c%7<7:=by omega
  generalize c%7=r at h0 h1;obtain⟨k,rfl⟩:∃ k:Nat,r=k:=⟨r.toNat,by omega⟩;rw[zvj];have hk:k<7:=by omega
  match k,hk with
  | 0,_=>simp
  | 1,_=>simp
  | 2,_=>simp
  | 3,_=>simp
  | 4,_=>simp
  | 5,_=>simp
  | 6,_=>simp
 generalize c/7=x at h;rcases hs with e|e|e|e|e|e|e<;>rw[e] at h<;>omega
theorem Aj(c:Int)(hm:m<=10):(Qz c m).Nodup:=by
 unfold Qz;rw[zwt,List.pairwise_map];refine List.Pairwise.imp_of_mem (fun {i j} hi hj (hne:i≠j) z=>?_) (zwt.mp List.nodup_range);exact hne (Ai c (by have:=zv9.mp hi;omega) (by have:=zv9.mp hj;omega) z)
theorem zdz(c:Int)(m:Nat):∀ n∈Qz c m,1<=n/\n<=99:=fun n hn=>by
 unfold Qz at hn;obtain⟨j,_,rfl⟩:=zvb.mp hn;unfold Ep;omega
theorem Ak(c:Int)(hm:m<=40):(Ki c m).Nodup:=by
 unfold Ki;rw[zwt,List.pairwise_map];refine List.Pairwise.imp_of_mem (fun {i j} hi hj (hne:i≠j) z=>?_) (zwt.mp List.nodup_range);exact hne (zfu c (by have:=zv9.mp hi;omega) (by have:=zv9.mp hj;omega) z)
theorem zd0(c:Int)(m:Nat):∀ n∈Ki c m,1<=n/\n<=999:=fun n hn=>by
 unfold Ki at hn;obtain⟨j,_,rfl⟩:=zvb.mp hn;unfold zdh;omega
inductive Rj where
 | enrol (n g c:Int)|away (i n:Int)|draw (ms:List P3)|close|back
def Wv(ok:Addr->Prop)(H:Hp)(t:Addr):Rj->Prop
 | .enrol n g c=>H t=#[a,.tup,[.str "enrol",.int n,.int g,.int c]]
 | .away i n=>H t=#[a,.tup,[.str "away",.int i,.int n]]
 | .draw ms=>∃ l ts,H t=#[a,.tup,[.str "draw up",.ref l]]/\H l=#[a,.lst,ts]/\Z9 H ts (ms.map pV)/\ok l
 | .close=>H t=#[a,.tup,[.str "close"]]
 | .back=>H t=#[a,.tup,[.str "take back"]]
def zgi(S:Sea):Prop:=∀ s,S.cur=some s->s.ms.length<=20/\Yk s.may s.gv/\Vv s.may s.gv/\s.may=mayS S s.ms/\s.gaps.length<=S.std.length
def Kq(S S':Sea):Prop:=∃ d:Rh,S'.std=S.std++[(d,S.cur)]/\zgh S' d S.ppl S.out/\S'.len=S.len/\S'.rest=S.rest/\S'.led=S.led/\S'.old=S.old
def Kr(S:Sea):Rj->Prop
 | .enrol n g c=>S.led.length<S.len/\S.cur=none/\¬ badI n g c/\n∉S.ppl.map (·.1)/\S.ppl.length<30
 | .away i n=>(S.led.length:Int)<i/\i<=S.len/\n∈S.ppl.map (·.1)/\(i,n)∉S.out
 | .draw ms=>S.led.length<S.len/\S.cur=none/\ms.length<=20/\(∀ m∈ms,¬ badM m)/\∀ m∈ms,m.1≠m.2.1
 | .close=>S.led.length<S.len/\S.cur≠none
 | .back=>S.std≠[]
inductive Sg(H':Hp)(S:Sea):Rj->Sea->V->Prop where
 | enrol (n g c:Int):Sg H' S (.enrol n g c) { S with ppl:=S.ppl++[(n,g,c)],std:=S.std++[(((("enrol":Str),n,atV S):Rh),S.cur)] } .non
 | awayN {i n:Int} {l:Addr} (h:S.cur=none\/atV S<i) (hl:H' l=#[a,.lst,[]]):Sg H' S (.away i n) (X0 S i n) (.ref l)
 | awayF {n:Int} {s:Zz} {l:Addr} (h:S.cur=some s) (hp:X2 s.gv n=none) (hl:H' l=#[a,.lst,[]]):Sg H' S (.away (atV S) n) { X0 S (atV S) n with cur:=some { s with may:=mayS (X0 S (atV S) n) s.ms } } (.ref l)
 | awayC {n:Int} {s:Zz} {p e:Nat} {l:Addr} {us:#[b]} {st:#[i]} {w:Option Int} (h:S.cur=some s) (hp:X2 s.gv n=some p) (hl:H' l=#[a,.lst,us]) (tl:Z9 H' us (st.map Vn)) (CR:Xo (mayS (X0 S (atV S) n) s.ms) (s.gv.set p .non) p st e w) :
   Sg H' S (.away (atV S) n) { X0 S (atV S) n with cur:=some ⟨s.ms,mayS (X0 S (atV S) n) s.ms,Yu st (s.gv.set p .non),s.gaps++[(n,st)]⟩ } (.ref l)
 | draw {ms:List P3} {gv:#[b]} {l:Addr} (hl:H' l=#[a,.lst,gv]) (F:Yk (mayS S ms) gv) (T:Vv (mayS S ms) gv):Sg H' S (.draw ms) (zgg S ms gv) (.ref l)
 | close {s:Zz} (h:S.cur=some s):Sg H' S .close (Cb S s) (.int (atV S))
 | back {S0:Sea} {d:Rh} {t:Addr} (h:S.std=S0.std++[(d,S0.cur)]) (ht:H' t=some (.tup (Oh d))) (hs:Kq S0 S):Sg H' S .back S0 (.ref t)
def Iz(A A':SAd)(H:Hp):Prop:=∃ x,A'={ A with lt:=x }/\(x=A.lt\/H x=none)
inductive zjz(K:Frag)(ca:CA)(vs:#[b])(H:Hp)(Q:VK)(_:XK):Prop where
 | mk(A:SAd)(S:Sea)(t:Addr)(d:Rj)(_:vs=[.ref A.p,.ref t])(_:Zy ca H A S)(_:Wv (·∉A.fp) H t d)(_:Kr S d)(_:zgi S)(_:Ri S)(_:S.std.length<100)(_:S.out.length<=100000)(_:2*(tot S.led+1000)<=100000)(_:S.led.length<=1000)(_:S.old.length<=1000)(_:S.len<=1000)(_:(∀ i n,d=.away i n->Yl n))(_:(d=.back->∃ S0,Kq S0 S))(_:∀ v A' S' H',Sg H' S d S' v->Zy ca H' A' S'->Iz A A' H->FrS A H H'->(∀ l,v=.ref l->(∃ xs,H' l=some (.lst xs))->H l=none)->Q v H')
abbrev Xq(b:List Stmt)(i:Nat):Stmt:=b.getD i (.Pass ⟨0,0,0,0⟩)
def zhu:Stmt->Expr|.Return (some e) _=>e|_=>.Constant .none 0 ⟨0,0,0,0⟩
def stP:Stmt->Pos|.Return _ p=>p|.Assign _ _ p=>p|_=>⟨0,0,0,0⟩
def zgj:Stmt->List Expr|.Assign ts _ _=>ts|_=>[]
def P8:Stmt->Expr|.Assign _ v _=>v|_=>.Constant .none 0 ⟨0,0,0,0⟩
def Al:Expr->Expr|.Subscript a _ _=>a|e=>e
def zhv:Expr->Expr|.Subscript _ b _=>b|e=>e
def zhw:Expr->Pos|.Subscript _ _ p=>p|_=>⟨0,0,0,0⟩
def zd1:Expr->List Expr|.List es _=>es|_=>[]
def zd2:Expr->Pos|.List _ p=>p|_=>⟨0,0,0,0⟩
def Ks:List Int->TA
 | []=>G4
 | x :: xs=>Ef (tC (.int x)) (Ks xs)
theorem Dd:∀ (xs:List Int) (σ:L2.St) (H:Hp) (Q:List V->Hp->Prop),Q (xs.map V.int) H->Ks xs σ H Q
 | [],_,_,_,h=>h
 | x :: xs,σ,H,Q,h=>Dd xs σ H (fun ys H2=>Q (.int x :: ys) H2) h
structure I9(es:List Expr)(xs:List Int):Prop where
 len:es.length=xs.length
 same:List.zipWith (fun i (e:Expr)=>Expr.Constant (.int i) 0 e.pos) xs es=es
theorem Py(xs:List Int)(h:I9 es xs):PA X es (Ks xs):=by
 obtain⟨h1,h2⟩:=h
 induction xs generalizing es with
 | nil =>
   have:=zwl.mp h1;subst this;exact Zc
 | cons x xs ih =>
   cases es with
   | nil=>cases h1
   | cons e es =>
     rw[List.zipWith_cons_cons] at h2;obtain⟨e1,e2⟩:=List.cons.inj h2;rw[<- e1];exact Za Zg (ih (Nat.succ.inj h1) e2) rfl
theorem Am(xs:List Int)(hz:xs.length<=1000)(h:∀ l,H l=none->Q (.ref l) (upd H l (.lst (xs.map V.int)))):zak (Ks xs) σ H Q:=by
 refine Dd xs σ H _ ⟨?_,h⟩;rw[zu2];exact szN hz
theorem zcs{K:Frag}(xs:List Int){ti:TE}{σ:L2.St}{H:Hp}{Q:VK}(hz:xs.length<=1000)(h:∀ l H1,H1 l=some (.lst (xs.map V.int))->Same H H1->H l=none->ti σ H1 fun y H2=>G6 K (.ref l) y H2 Q):tOp (G6 K) (zak (Ks xs)) ti σ H Q :=
 Am xs hz fun l hl=>h l _ Zd (Zf hl) hl
theorem zj0{K:Frag}(xs:List Int){ti:TE}{D:P5}{σ:L2.St}{H:Hp}(hz:xs.length<=1000)(h:∀ l H1,H1 l=some (.lst (xs.map V.int))->Same H H1->H l=none->ti σ H1 fun y H2=>G6 K (.ref l) y H2 D.rt):zkb (tOp (G6 K) (zak (Ks xs)) ti) D σ H:=zcs (Q:=D.rt) xs hz h
theorem zj1{K:Frag}(xs:List Int){ti:TE}{i:Nat}{u:TS}{D:P5}{σ:L2.St}{H:Hp}(hz:xs.length<=1000)(h:∀ l H1,H1 l=some (.lst (xs.map V.int))->Same H H1->H l=none->ti σ H1 fun y H2=>G6 K (.ref l) y H2 fun x H3=>u D (σ.set i (some x)) H3):tSeq (zcy (tOp (G6 K) (zak (Ks xs)) ti) (Wl i)) u D σ H:=zcs xs hz h
theorem An(xs:List Int)(hz:xs.length<=1000)(h:∀ l H1,H1 l=some (.lst (xs.map V.int))->Same H H1->H l=none->u D (σ.set i #[c,l]) H1):tSeq (zcy (zak (Ks xs)) (Wl i)) u D σ H :=
 Am (σ:=σ) (H:=H) (Q:=fun x H3=>u D (σ.set i (some x)) H3) xs hz fun l hl=>h l _ Zd (Zf hl) hl
theorem He:decide (V.str a=V.str a)=true:=zva rfl
theorem U9(h:decide (a=b)=false):decide (V.str a=V.str b)=false:=zvf fun z=>of_decide_eq_false h (V.str.inj z)
theorem Iz.refl(A:SAd)(H:Hp):Iz A A H:=⟨A.lt,rfl,.inl rfl⟩
abbrev zgk:=List (Int×#[i])
structure Pg where
 len:Nat
 rest:Nat
 ppl:RL
 out:List (Int×Int)
 over:List Zz
 deed:Option Rh
 lis:Option (List P3)
 gv:#[b]
 mv:zgk
def pgF(len rest:Nat)(lp lo lv:Addr)(dv li:V)(lg lm:Addr):List (Key×V):=[(.inr "rounds",.int len),(.inr "rest",.int rest),(.inr "people",.ref lp),(.inr "out",.ref lo),(.inr "over",.ref lv),(.inr "deed",dv),(.inr "listed",li),(.inr "goes",.ref lg),(.inr "moves",.ref lm)]
def oiV(x:Int×Int):#[b]:=[.int x.1,.int x.2]
def Lb(ok:Addr->Prop)(H:Hp)(v:V):Option (List P3)->Prop
 | none=>v=.non
 | some ms=>∃ l ts,v=.ref l/\H l=#[a,.lst,ts]/\Z9 H ts (ms.map pV)/\ok l
def Ao(H:Hp)(v:V):Option Rh->Prop
 | none=>v=.non
 | some d=>∃ t,v=.ref t/\H t=some (.tup (Oh d))
inductive Y9(ok:Addr->Prop)(H:Hp):#[b]->List Zz->Prop where
 | nil:Y9 ok H [] []
 | cons {t l g m y:Addr} {ts mts:#[b]} {ls:List Addr} {s:Zz} {vs:#[b]} {ss:List Zz} (h:H t=#[a,.tup,[.ref l,.ref g,.ref m,.ref y]]) (hl:H l=#[a,.lst,ts]) (tl:Z9 H ts (s.ms.map pV)) (hg:H g=#[a,.lst,s.gv]) (hm:H m=#[a,.lst,mts]) (gm:Xz ok H mts s.gaps)
   (hy:H y=some (.lst (ls.map V.ref))) (iy:ILs H ls s.may) (o:ok l/\ok g/\ok m/\ok y/\∀ x∈ls,ok x) (r:Y9 ok H vs ss):Y9 ok H (.ref t :: vs) (s :: ss)
theorem Lb.keep(h:Lb ok H v x)(k:∀ x o,ok x->H x=some o->H' x=some o)(kt:#[j]):Lb ok H' v x:=by
 cases x with
 | none=>exact h
 | some ms=>obtain⟨l,ts,e,a,b,o⟩:=h;exact⟨l,ts,e,k _ _ o a,b.mono kt,o⟩
theorem Lb.imp(h:Lb ok H v x)(k:∀ x,(∃ o,H x=some o)->ok x->ok' x):Lb ok' H v x:=by
 cases x with
 | none=>exact h
 | some ms=>obtain⟨l,ts,e,a,b,o⟩:=h;exact⟨l,ts,e,a,b,k _ ⟨_,a⟩ o⟩
theorem Ao.keep(h:Ao H v x)(kt:#[j]):Ao H' v x:=by
 cases x with
 | none=>exact h
 | some d=>obtain⟨t,e,a⟩:=h;exact⟨t,e,kt _ _ a⟩
theorem Y9.keep(k:∀ x o,ok x->H x=some o->H' x=some o)(kt:#[j]):∀ {vs:List V} {ss:List Zz},Y9 ok H vs ss->Y9 ok H' vs ss
 | _,_,.nil=>.nil
 | _,_,.cons h hl tl hg hm gm hy iy o r=>.cons (kt _ _ h) (k _ _ o.1 hl) (tl.mono kt) (k _ _ o.2.1 hg) (k _ _ o.2.2.1 hm) (gm.keep k kt) (k _ _ o.2.2.2.1 hy) (iy.keep fun x hx _ q=>k _ _ (o.2.2.2.2 x hx) q) o (Y9.keep k kt r)
theorem Y9.imp(k:∀ x,(∃ o,H x=some o)->ok x->ok' x):∀ {vs:List V} {ss:List Zz},Y9 ok H vs ss->Y9 ok' H vs ss
 | _,_,.nil=>.nil
 | _,_,.cons h hl tl hg hm gm hy iy o r=>.cons h hl tl hg hm (gm.imp k) hy iy ⟨k _ ⟨_,hl⟩ o.1,k _ ⟨_,hg⟩ o.2.1,k _ ⟨_,hm⟩ o.2.2.1,k _ ⟨_,hy⟩ o.2.2.2.1,fun x hx=>k _ (let ⟨_,z⟩:=iy.has hx;⟨_,z⟩) (o.2.2.2.2 x hx)⟩ (Y9.imp k r)
theorem Y9.length:∀ {vs:List V} {ss:List Zz},Y9 ok H vs ss->vs.length=ss.length
 | _,_,.nil=>rfl
 | _,_,.cons _ _ _ _ _ _ _ _ _ r=>by simp[Y9.length r]
theorem Y9.snoc(h:H t=#[a,.tup,[.ref l,.ref g,.ref m,.ref y]])(hl:H l=#[a,.lst,ts])(tl:Z9 H ts (s.ms.map pV))(hg:H g=#[a,.lst,s.gv])(hm:H m=#[a,.lst,mts])(gm:Xz ok H mts s.gaps)
   (hy:H y=some (.lst (ls.map V.ref))) (iy:ILs H ls s.may) (o:ok l/\ok g/\ok m/\ok y/\∀ x∈ls,ok x):∀ {vs:List V} {ss:List Zz},Y9 ok H vs ss->Y9 ok H (vs++[.ref t]) (ss++[s])
 | _,_,.nil=>.cons h hl tl hg hm gm hy iy o .nil
 | _,_,.cons h' hl' tl' hg' hm' gm' hy' iy' o' r=>.cons h' hl' tl' hg' hm' gm' hy' iy' o' (Y9.snoc h hl tl hg hm gm hy iy o r)
theorem Y9.get:∀ {vs:List V} {ss:List Zz} {i:Nat} {x:V},Y9 ok H vs ss->vs[i]?=some x->∃ t l g m y ts s,x=.ref t/\ss[i]?=some s/\H t=#[a,.tup,[.ref l,.ref g,.ref m,.ref y]]/\H l=#[a,.lst,ts]/\Z9 H ts (s.ms.map pV)/\H g=#[a,.lst,s.gv]/\ok l/\ok g
 | _,_,_,_,.nil,e=>by simp at e
 | _,_,0,_,.cons h hl tl hg _ _ _ _ o _,e=>by simp at e;subst e;exact⟨_,_,_,_,_,_,_,rfl,rfl,h,hl,tl,hg,o.1,o.2.1⟩
 | _,_,i+1,x,.cons _ _ _ _ _ _ _ _ _ r,e=>by
   obtain⟨t,l,g,m,y,ts,s,h1,h2,h3⟩:=Y9.get (i:=i) (x:=x) r (by simpa using e);exact⟨t,l,g,m,y,ts,s,h1,by simpa using h2,h3⟩
structure PgAt(ok:Addr->Prop)(H:Hp)(d:Addr)(P:Pg):Prop where
 ex:∃ lp lo lv dv li lg lm pts ots vts mts,H d=#[a,.dK,pgF P.len P.rest lp lo lv dv li lg lm]/\H lp=#[a,.lst,pts]/\Z9 H pts (P.ppl.map pV)/\H lo=#[a,.lst,ots]/\Z9 H ots (P.out.map oiV)/\H lv=#[a,.lst,vts]/\Y9 ok H vts P.over/\Ao H dv P.deed/\Lb ok H li P.lis/\H lg=#[a,.lst,P.gv]/\H lm=#[a,.lst,mts]/\Xz ok H mts P.mv /\
  (ok d/\ok lp/\ok lo/\ok lv/\ok lg/\ok lm)
theorem PgAt.keep(h:PgAt ok H d P)(k:∀ x o,ok x->H x=some o->H' x=some o)(kt:#[j]):PgAt ok H' d P:=by
 obtain⟨lp,lo,lv,dv,li,lg,lm,pts,ots,vts,mts,a1,a2,a3,a4,a5,a6,a7,a8,a9,b1,b2,b3,o1,o2,o3,o4,o5,o6⟩:=h;exact⟨lp,lo,lv,dv,li,lg,lm,pts,ots,vts,mts,k _ _ o1 a1,k _ _ o2 a2,a3.mono kt,k _ _ o3 a4,a5.mono kt,k _ _ o4 a6,a7.keep k kt,a8.keep kt,a9.keep k kt,k _ _ o5 b1,k _ _ o6 b2,b3.keep k kt,o1,o2,o3,o4,o5,o6⟩
theorem PgAt.imp(h:PgAt ok H d P)(k:∀ x,(∃ o,H x=some o)->ok x->ok' x):PgAt ok' H d P:=by
 obtain⟨lp,lo,lv,dv,li,lg,lm,pts,ots,vts,mts,a1,a2,a3,a4,a5,a6,a7,a8,a9,b1,b2,b3,o1,o2,o3,o4,o5,o6⟩:=h;exact⟨lp,lo,lv,dv,li,lg,lm,pts,ots,vts,mts,a1,a2,a3,a4,a5,a6,a7.imp k,a8,a9.imp k,b1,b2,b3.imp k,k _ ⟨_,a1⟩ o1,k _ ⟨_,a2⟩ o2,k _ ⟨_,a4⟩ o3,k _ ⟨_,a6⟩ o4,k _ ⟨_,b1⟩ o5,k _ ⟨_,b2⟩ o6⟩
theorem PgAt.same(h:PgAt ok H d P)(e:Same H H'):PgAt ok H' d P:=h.keep (fun _ _ _ q=>e _ _ q) fun _ _ q=>e _ _ q
section
variable{len rest:Nat}{lp lo lv lg lm:Addr}{dv li:V}
theorem zba:putK (pgF len rest lp lo lv dv li lg lm) (.inr "people") (.ref x)=pgF len rest x lo lv dv li lg lm:=rfl
theorem zhx:putK (pgF len rest lp lo lv dv li lg lm) (.inr "out") (.ref x)=pgF len rest lp x lv dv li lg lm:=rfl
theorem zgl:putK (pgF len rest lp lo lv dv li lg lm) (.inr "over") (.ref x)=pgF len rest lp lo x dv li lg lm:=rfl
theorem Hf:putK (pgF len rest lp lo lv dv li lg lm) (.inr "deed") v=pgF len rest lp lo lv v li lg lm:=rfl
theorem Hg:putK (pgF len rest lp lo lv dv li lg lm) (.inr "listed") v=pgF len rest lp lo lv dv v lg lm:=rfl
theorem Ap:putK (pgF len rest lp lo lv dv li lg lm) (.inr "goes") (.ref x)=pgF len rest lp lo lv dv li x lm:=rfl
theorem De:putK (pgF len rest lp lo lv dv li lg lm) (.inr "moves") (.ref x)=pgF len rest lp lo lv dv li lg x:=rfl
end
theorem zbb{len rest:Nat}{lp lo lv lg lm:Addr}{dv li:V}:(pgF len rest lp lo lv dv li lg lm).length<sizeLine:=by rw[sizeLine_eq];show 9<_;decide
def pg6(len rest:Nat)(lp lo lv:Addr)(dv:V):List (Key×V):=[(.inr "rounds",.int len),(.inr "rest",.int rest),(.inr "people",.ref lp),(.inr "out",.ref lo),(.inr "over",.ref lv),(.inr "deed",dv)]
theorem zd3{len rest:Nat}{lp lo lv:Addr}{dv:V}:Ud [] (pg6 len rest lp lo lv dv)=pg6 len rest lp lo lv dv:=rfl
theorem zhy{len rest:Nat}{lp lo lv:Addr}{dv x y z:V}:putK (putK (putK (pg6 len rest lp lo lv dv) (.inr "listed") x) (.inr "goes") y) (.inr "moves") z=pg6 len rest lp lo lv dv++[(.inr "listed",x),(.inr "goes",y),(.inr "moves",z)]:=rfl
theorem Lc{len rest:Nat}{lp lo lv:Addr}{dv x y:V}:(pg6 len rest lp lo lv dv).length<sizeLine/\(putK (pg6 len rest lp lo lv dv) (.inr "listed") x).length<sizeLine/\(putK (putK (pg6 len rest lp lo lv dv) (.inr "listed") x) (.inr "goes") y).length<sizeLine:=by
 rw[sizeLine_eq];exact⟨by show 6<_;decide,by show 7<_;decide,by show 8<_;decide⟩
def zbc(r q:Nat):Pg:=⟨r,q,[],[],[],none,none,[],[]⟩
inductive zct(vs:#[b])(H:Hp)(Q:VK)(_:XK):Prop where
 | mk(r q:Nat)(_:vs=[.int r,.int q])(_:∀ d H',PgAt (fun x=>H x=none) H' d (zbc r q)->Same H H'->H d=none->Q (.ref d) H')
def Ld(P:Pg):Prop:=P.over.length<=100/\P.rest<=100/\∀ s∈P.over,s.ms.length<=20/\s.gv.length=s.ms.length/\∀ x∈s.gv,oneV x
def zgm(kvs:List (List Key×V))(P:Pg):Prop:=∀ n c:Int,(valV kvs [inl n,inl c]).isSome=Qk (P.over.map Z5) n c P.rest
inductive zcu(K:Frag)(vs:#[b])(H:Hp)(Q:VK)(_:XK):Prop where
 | mk(ok:Addr->Prop)(d:Addr)(P:Pg)(_:vs=[.ref d])(_:PgAt ok H d P)(_:Ld P)(_:∀ m kvs H',H' m=#[a,.dT,kvs]->zgm kvs P->Same H H'->H m=none->Q (.ref m) H')
theorem zgn(xs:#[b])(n r:Nat):G5 xs (some (if ((n:Int)-r)>0 then (n:Int)-r else 0)) none=xs.drop ((n:Int)-r).toNat:=by
 have e:(if ((n:Int)-r)>0 then (n:Int)-r else 0)=((((n:Int)-r).toNat:Nat):Int):=by split<;>omega
 rw[e];exact zdo xs _
theorem Y9.drop:∀ (k:Nat) {vs:List V} {ss:List Zz},Y9 ok H vs ss->Y9 ok H (vs.drop k) (ss.drop k)
 | 0,_,_,h=>h
 | _+1,_,_,.nil=>.nil
 | k+1,_,_,.cons _ _ _ _ _ _ _ _ _ r=>Y9.drop k r
def HitI(ss:List Zz)(i j:Nat)(n c:Int):Prop:=(∃ s∈ss.take i,∃ r∈Z5 s,hit n c r=true)\/∃ s,ss[i]?=some s/\∃ r∈(Z5 s).take j,hit n c r=true
def Nb(kvs:List (List Key×V))(ss:List Zz)(i j:Nat):Prop:=∀ n c:Int,(valV kvs [inl n,inl c]).isSome=true↔HitI ss i j n c
theorem Xv{α:Type}{l:List α}{j:Nat}{x:α}(h:l[j]?=some x):l.take (j+1)=l.take j++[x]:=by rw[zwg,h];rfl
theorem Nb.zero(ss:List Zz):Nb [] ss 0 0:=fun n c=>by
 unfold HitI;simp[ze5]
theorem Nb.next{kvs:List (List Key×V)}{ss:List Zz}{i:Nat}{s:Zz}(h:Nb kvs ss i (Z5 s).length)(hs:ss[i]?=some s):Nb kvs ss (i+1) 0:=fun n c=>by
 rw[h n c];unfold HitI;rw[Xv hs,hs];constructor
 ·rintro(⟨s',h1,h2⟩|⟨s',h1,r,h2,h3⟩)
  ·exact .inl ⟨s',zvq _ h1,h2⟩
  ·cases h1;exact .inl ⟨s,zvr _ (zw0 _),r,zwx h2,h3⟩
 ·rintro(⟨s',h1,r,h2,h3⟩|⟨s',h1,r,h2,h3⟩)
  ·rcases zve.mp h1 with h1|h1
   ·exact .inl ⟨s',h1,r,h2,h3⟩
   ·cases zu6.mp h1;exact .inr ⟨_,rfl,r,by rw[zvk];exact h2,h3⟩
  ·simp at h2
theorem HitI.succ{ss:List Zz}{i j:Nat}{n c:Int}{s:Zz}{r:Row}(hs:ss[i]?=some s)(hr:(Z5 s)[j]?=some r):HitI ss i (j+1) n c↔HitI ss i j n c\/hit n c r=true:=by
 unfold HitI;rw[hs];constructor
 ·rintro(z|⟨s',h1,r',h2,h3⟩)
  ·exact .inl (.inl z)
  ·cases h1;rw[Xv hr] at h2;rcases zve.mp h2 with h2|h2
   ·exact .inl (.inr ⟨_,rfl,r',h2,h3⟩)
   ·cases zu6.mp h2;exact .inr h3
 ·rintro((z|⟨s',h1,r',h2,h3⟩)|z)
  ·exact .inl z
  ·cases h1;exact .inr ⟨_,rfl,r',by rw[Xv hr];exact zvq _ h2,h3⟩
  ·exact .inr ⟨_,rfl,r,by rw[Xv hr];exact zvr _ (zw0 _),z⟩
theorem Nb.none(h:Nb kvs ss i j)(hs:ss[i]?=some s)(hr:(Z5 s)[j]?=some r)(hw:r.w=none):Nb kvs ss i (j+1):=fun n c=>by
 rw[h n c,HitI.succ hs hr];unfold hit;rw[hw];simp
theorem Nb.some(h:Nb kvs ss i j)(hs:ss[i]?=some s)(hr:(Z5 s)[j]?=some r)(hw:r.w=some w):Nb (putK (putK kvs [inl w,inl r.h] v) [inl w,inl r.g] v') ss i (j+1):=fun n c=>by
 rw[HitI.succ hs hr,<- h n c,Vt,Vt];unfold hit;rw[hw];by_cases e1:([inl n,inl c]:List Key)=[inl w,inl r.g]
 ·rw[if_pos e1];have:=e1;simp at this;obtain⟨rfl,rfl⟩:=this;simp
 ·rw[if_neg e1];by_cases e2:([inl n,inl c]:List Key)=[inl w,inl r.h]
  ·rw[if_pos e2];have:=e2;simp at this;obtain⟨rfl,rfl⟩:=this;simp
  ·rw[if_neg e2];constructor
   ·exact .inl
   ·rintro(z|z)
    ·exact z
    ·exfalso
     simp at z e1 e2;obtain⟨z1,z2|z2⟩:=z
     ·exact e2 z1.symm z2.symm
     ·exact e1 z1.symm z2.symm
theorem Nb.all(h:Nb kvs (P.over.drop k) (P.over.drop k).length 0)(hk:k=((P.over.length:Int)-P.rest).toNat):zgm kvs P:=fun n c=>by
 apply zxb.mpr;rw[h n c,zdn (Int.natCast_nonneg _),zu2,<- hk,<- List.map_drop];unfold HitI;rw[zvk];constructor
 ·rintro(⟨s,h1,h2⟩|⟨s,h1,r,h2,_⟩)
  ·exact⟨Z5 s,zvb.mpr ⟨s,h1,rfl⟩,h2⟩
  ·simp at h2
 ·rintro⟨rs,h1,h2⟩;obtain⟨s,h3,rfl⟩:=zvb.mp h1;exact .inl ⟨s,h3,h2⟩
end G
namespace L2
open PySem PySem.Spec PyProof.Rows G
def Uc(x:Int×Int):Dt:=.tup [.int x.1,.int x.2]
theorem Hh{K:Frag}{H:Hp}:∀ {ts:List V} {ps:List (Int×Int)},Z9 H ts (ps.map oiV)->Wc K H ts (ps.map Uc)
 | _,[],h=>by cases h;exact .nil
 | _,p :: ps,h=>by
   rw[zvg] at h;cases h with
   | cons e r=>exact .cons (.tup (SqT.of e) (.cons (.int _) (.cons (.int _) .nil))) (Hh r)
theorem Le:∀ ps:List (Int×Int),PyData.canLayAll0 (Wd (ps.map Uc))=true
 | []=>rfl
 | p :: ps=>by
   rw[zvg,Wd,PyData.canLayAll0,Le ps];rfl
theorem Lg:∀ ps:List (Int×Int),((Wd (ps.map Uc)).any fun y=>PyData.eqv y (toPy (Uc (a,b))))=decide ((a,b)∈ps)
 | []=>by simp[Wd]
 | p :: ps=>by
   rw[zvg,Wd,zw4,Lg ps,N1];obtain⟨p1,p2⟩:=p;have e:eqD (Uc (p1,p2)) (Uc (a,b))=decide ((a,b)=(p1,p2)):=by
    rw[Uc,Uc,eqD,P6,P6,P6,eqD,eqD];by_cases h1:p1=a
    ·by_cases h2:p2=b
     ·subst h1;subst h2;simp
     ·rw[zvf fun z=>h2 (Prod.mk.inj z).2.symm];simp[h2]
    ·rw[zvf fun z=>h1 (Prod.mk.inj z).1.symm];simp[h1]
   rw[e,<- Bool.decide_or];exact decide_eq_decide.mpr zu7.symm
inductive zhz(K:Frag)(neg:Bool)(x:V)(y:V)(H:Hp)(Q:VK):Prop where
 | mk(t p:Addr)(ts:#[b])(a b:Int)(ps:List (Int×Int))(_:x=.ref t)(_:y=.ref p)(_:SqT K H t [.int a,.int b])(_:SqL K H p ts)(_:Z9 H ts (ps.map oiV))(_:Q (.bl (if neg then !decide ((a,b)∈ps) else decide ((a,b)∈ps))) H)
section
variable{X:Cx}{K:Frag}
theorem Aq(hu:X.A.units+64<cLine):OpR X (compareOp .In) (zhz X.K false):=by
 intro pins s σ H x y v u Q I rx ry h;obtain⟨t,p,ts,a,b,ps,rfl,rfl,ht,hp,tl,q⟩:=h;obtain⟨as,r1⟩:=Is.reads I (Is.tup ht (.cons (.int a) (.cons (.int b) .nil)):Is X.K H (.ref t) (Uc (a,b))) rx;have r1:Reads s.heap v (toPy (Uc (a,b))) as:=r1;obtain⟨bs,r2⟩:=Is.reads I (Is.lst hp (Hh tl)) ry;rw[toPy] at r2;have hd:(toPy (Uc (a,b))).depth=1:=rfl;refine SeqAt.in_list_reads r2 r1 (Le ps) rfl ?_ ?_
 ·have:=Nat.min_le_right (PyData.depthAll (Wd (ps.map Uc))) (toPy (Uc (a,b))).depth;rw[hd] at this ⊢;omega
 ·rw[Lg];exact⟨.bl _,H,I,rfl,q⟩
theorem Hi(hu:X.A.units+64<cLine):OpR X (compareOp .NotIn) (zhz X.K true):=by
 intro pins s σ H x y v u Q I rx ry h;obtain⟨t,p,ts,a,b,ps,rfl,rfl,ht,hp,tl,q⟩:=h;obtain⟨as,r1⟩:=Is.reads I (Is.tup ht (.cons (.int a) (.cons (.int b) .nil)):Is X.K H (.ref t) (Uc (a,b))) rx;have r1:Reads s.heap v (toPy (Uc (a,b))) as:=r1;obtain⟨bs,r2⟩:=Is.reads I (Is.lst hp (Hh tl)) ry;rw[toPy] at r2;have hd:(toPy (Uc (a,b))).depth=1:=rfl;refine SeqAt.notIn_list_reads r2 r1 (Le ps) rfl ?_ ?_
 ·have:=Nat.min_le_right (PyData.depthAll (Wd (ps.map Uc))) (toPy (Uc (a,b))).depth;rw[hd] at this ⊢;omega
 ·rw[Lg];exact⟨.bl _,H,I,rfl,q⟩
theorem Cc(hK:X.K=K)(hu:X.A.units+64<cLine):OpR X (compareOp .In) (zhz K false):=hK▸Aq hu
theorem K4(hK:X.K=K)(hu:X.A.units+64<cLine):OpR X (compareOp .NotIn) (zhz K true):=hK▸Hi hu
end
end L2
namespace G
open PySem PySem.Spec PyProof.Rows L2
def P9(P:Pg)(x m:P3):List Str:=whyS (P.over.map Z5) x.1 x.2.1 x.2.2 m.1 m.2.1 m.2.2 (decide (((P.over.length:Int)+1,x.1)∈P.out)) P.rest
inductive Ar(K:Frag)(vs:#[b])(H:Hp)(Q:VK)(_:XK):Prop where
 | mk(ok:Addr->Prop)(d m t1 t2:Addr)(P:Pg)(kvs:List (List Key×V))(x y:P3)(_:vs=[.ref d,.ref m,.ref t1,.ref t2])(_:PgAt ok H d P)(_:H m=#[a,.dT,kvs])(_:zgm kvs P)(_:H t1=some (.tup (pV x)))(_:H t2=some (.tup (pV y)))(_:∀ l H',H' l=some (.lst ((P9 P x y).map V.str))->Same H H'->H l=none->Q (.ref l) H')
def Q7(P:Pg)(ms:List P3):List (List Int):=ms.map fun m=>(P.ppl.filter fun x=>(P9 P x m).isEmpty).map (·.1)
theorem zd4(h1:P.ppl=S.ppl)(h2:P.over.map Z5=S.led)(h3:P.out=S.out)(h4:P.rest=S.rest)(h5:((P.over.length:Int)+1)=atV S)(ms:List P3):Q7 P ms=mayS S ms:=by
 unfold Q7 mayS;refine zwo fun m _=>?_;unfold Ff P9 pIn;rw[h1,h2,h3,h4,h5]
inductive zbd(K:Frag)(vs:#[b])(H:Hp)(Q:VK)(_:XK):Prop where
 | mk(ok:Addr->Prop)(d:Addr)(P:Pg)(ms:List P3)(_:vs=[.ref d])(_:PgAt ok H d P)(_:Ld P)(_:P.lis=some ms)(_:ms.length<=100)(_:P.ppl.length<=100)(_:∀ l ls H',H' l=some (.lst (ls.map V.ref))->ILs H' ls (Q7 P ms)->Same H H'->H l=none->(∀ x∈ls,H x=none)->Q (.ref l) H')
theorem zh0(r:List Str)(ok:∀ w∈r,PyData.strOk w=true):shD (.lst (r.map Dt.str)):=by
 have h:PyData.canLayAll0 (Wd (r.map Dt.str))=true/\PyData.depthAll (Wd (r.map Dt.str))<=1:=by
  induction r with
  | nil=>exact⟨rfl,by decide⟩
  | cons x r ih =>
    obtain⟨h1,h2⟩:=ih fun w hw=>ok w (zvm _ hw);have h0:=ok x (zvy);refine⟨?_,?_⟩
    ·rw[zvg,Wd,PyData.canLayAll0,h1];simp[toPy,PyData.canLay0,h0]
    ·rw[zvg,Wd,PyData.depthAll];have:PyData.depth (toPy (Dt.str x))<=1:=by simp[toPy,PyData.depth]
     omega
 unfold shD SeqAt.shaped;rw[toPy,PyData.canLay0,h.1,Bool.true_and];refine zva ?_;rw[PyData.depth];have:=h.2;omega
theorem Hj{K:Frag}{H:Hp}:∀ ws:List Str,Wc K H (ws.map V.str) (ws.map Dt.str)
 | []=>.nil
 | w :: ws=>.cons (.str w) (Hj ws)
theorem zj2(h:x∈bw b w):x=w:=by
 cases b<;>simp[bw] at h;exact h
theorem zh1{Rs:List (List Row)}{n g c h gu d:Int}{o:Bool}{rest:Int}:∀ w∈whyS Rs n g c h gu d o rest,PyData.strOk w=true:=fun w hw=>by
 unfold whyS at hw;simp only[zve] at hw;rcases hw with z|z|z|z<;>rw[zj2 z]<;>decide +kernel
def Xi(H H':Hp):Prop:=(∀ x ys,H x=some (.lst ys)->H' x=some (.lst ys))/\∀ x ys,H x=#[a,.tup,ys]->H' x=#[a,.tup,ys]
theorem Xi.dict(h:H d=#[a,.dK,kvs]):Xi H (upd H d (.dK kvs')) :=
 ⟨fun x ys e=>by rw[Zi (Yw e h (by intro z;cases z))];exact e,fun x ys e=>by rw[Zi (Yw e h (by intro z;cases z))];exact e⟩
theorem Xi.trans(a:Xi H H')(b:Xi H' H''):Xi H H'':=⟨fun x ys e=>b.1 _ _ (a.1 _ _ e),fun x ys e=>b.2 _ _ (a.2 _ _ e)⟩
theorem Xi.of(e:Same H H'):Xi H H':=⟨fun x ys z=>e _ _ z,fun x ys z=>e _ _ z⟩
theorem Xz.keepL(k:Xi H H'):∀ {ts:List V} {G:zgk},Xz ok H ts G->Xz ok H' ts G
 | _,_,.nil=>.nil
 | _,_,.cons h hl tl o r=>.cons (k.2 _ _ h) (k.1 _ _ hl) (tl.mono k.2) o (Xz.keepL k r)
theorem ILs.keepL(k:Xi H H'):∀ {ls:List Addr} {R:List (List Int)},ILs H ls R->ILs H' ls R
 | _,_,.nil=>.nil
 | _,_,.cons h n=>.cons (k.1 _ _ h) (ILs.keepL k n)
theorem Lb.keepL(k:Xi H H')(h:Lb ok H v x):Lb ok H' v x:=by
 cases x with
 | none=>exact h
 | some ms=>obtain⟨l,ts,e,a,b,o⟩:=h;exact⟨l,ts,e,k.1 _ _ a,b.mono k.2,o⟩
theorem Y9.keepL(k:Xi H H'):∀ {vs:List V} {ss:List Zz},Y9 ok H vs ss->Y9 ok H' vs ss
 | _,_,.nil=>.nil
 | _,_,.cons h hl tl hg hm gm hy iy o r=>.cons (k.2 _ _ h) (k.1 _ _ hl) (tl.mono k.2) (k.1 _ _ hg) (k.1 _ _ hm) (gm.keepL k) (k.1 _ _ hy) (ILs.keepL k iy) o (Y9.keepL k r)
structure PgB(ok:Addr->Prop)(H:Hp)(P:Pg)(lp lo lv:Addr)(dv li:V)(lg lm:Addr):Prop where
 pp:∃ pts,H lp=#[a,.lst,pts]/\Z9 H pts (P.ppl.map pV)/\ok lp
 oo:∃ ots,H lo=#[a,.lst,ots]/\Z9 H ots (P.out.map oiV)/\ok lo
 vv:∃ vts,H lv=#[a,.lst,vts]/\Y9 ok H vts P.over/\ok lv
 dd:Ao H dv P.deed
 li:Lb ok H li P.lis
 gg:H lg=#[a,.lst,P.gv]/\ok lg
 mm:∃ mts,H lm=#[a,.lst,mts]/\Xz ok H mts P.mv/\ok lm
theorem PgB.keepL{ok:Addr->Prop}{H H':Hp}{P:Pg}{lp lo lv:Addr}{dv li:V}{lg lm:Addr}(h:PgB ok H P lp lo lv dv li lg lm)(k:Xi H H'):PgB ok H' P lp lo lv dv li lg lm:=by
 obtain⟨⟨p1,p2,p3,p4⟩,⟨o1,o2,o3,o4⟩,⟨v1,v2,v3,v4⟩,dd,li,⟨g1,g2⟩,m1,m2,m3,m4⟩:=h;exact⟨⟨p1,k.1 _ _ p2,p3.mono k.2,p4⟩,⟨o1,k.1 _ _ o2,o3.mono k.2,o4⟩,⟨v1,k.1 _ _ v2,v3.keepL k,v4⟩,dd.keep k.2,li.keepL k,⟨k.1 _ _ g1,g2⟩,m1,k.1 _ _ m2,m3.keepL k,m4⟩
theorem PgB.imp{ok ok':Addr->Prop}{H:Hp}{P:Pg}{lp lo lv:Addr}{dv li:V}{lg lm:Addr}(h:PgB ok H P lp lo lv dv li lg lm)(k:∀ x,(∃ o,H x=some o)->ok x->ok' x):PgB ok' H P lp lo lv dv li lg lm:=by
 obtain⟨⟨p1,p2,p3,p4⟩,⟨o1,o2,o3,o4⟩,⟨v1,v2,v3,v4⟩,dd,li,⟨g1,g2⟩,m1,m2,m3,m4⟩:=h;exact⟨⟨p1,p2,p3,k _ ⟨_,p2⟩ p4⟩,⟨o1,o2,o3,k _ ⟨_,o2⟩ o4⟩,⟨v1,v2,v3.imp k,k _ ⟨_,v2⟩ v4⟩,dd,li.imp k,⟨g1,k _ ⟨_,g1⟩ g2⟩,m1,m2,m3.imp k,k _ ⟨_,m2⟩ m4⟩
theorem PgAt.split(h:PgAt ok H d P):∃ lp lo lv dv li lg lm,H d=#[a,.dK,pgF P.len P.rest lp lo lv dv li lg lm]/\PgB ok H P lp lo lv dv li lg lm/\ok d:=by
 obtain⟨lp,lo,lv,dv,li,lg,lm,pts,ots,vts,mts,a1,a2,a3,a4,a5,a6,a7,a8,a9,b1,b2,b3,o1,o2,o3,o4,o5,o6⟩:=h;exact⟨lp,lo,lv,dv,li,lg,lm,a1,⟨⟨_,a2,a3,o2⟩,⟨_,a4,a5,o3⟩,⟨_,a6,a7,o4⟩,a8,a9,⟨b1,o5⟩,_,b2,b3,o6⟩,o1⟩
theorem PgAt.join{ok:Addr->Prop}{H:Hp}{d:Addr}{P:Pg}{lp lo lv:Addr}{dv li:V}{lg lm:Addr}(hd:H d=#[a,.dK,pgF P.len P.rest lp lo lv dv li lg lm])(h:PgB ok H P lp lo lv dv li lg lm)(o:ok d):PgAt ok H d P:=by
 obtain⟨⟨p1,p2,p3,p4⟩,⟨o1,o2,o3,o4⟩,⟨v1,v2,v3,v4⟩,dd,li',⟨g1,g2⟩,m1,m2,m3,m4⟩:=h;exact⟨lp,lo,lv,dv,li,lg,lm,p1,o1,v1,m1,hd,p2,p3,o2,o3,v2,v3,dd,li',g1,m2,m3,o,p4,o4,v4,g2,m4⟩
theorem PgAt.other(h:PgAt ok H d P)(n:d≠e)(he:H e=#[a,.dK,kvs]):PgAt ok (upd H e (.dK kvs')) d P:=by
 obtain⟨lp,lo,lv,dv,li,lg,lm,a1,a2,a3⟩:=h.split;exact .join (by rw[Zi n];exact a1) (a2.keepL (.dict he)) a3
theorem PgAt.setGoes(h:PgAt ok H d P)(hl:H l=#[a,.lst,xs])(ol:ok l):∃ kvs,H d=#[a,.dK,kvs]/\kvs.length<sizeLine/\PgAt ok (upd H d (.dK (putK kvs (.inr "goes") (.ref l)))) d { P with gv:=xs }:=by
 obtain⟨lp,lo,lv,dv,li,lg,lm,a1,a2,a3⟩:=h.split;refine⟨_,a1,zbb,?_⟩;rw[Ap];have b:=a2.keepL (.dict a1 (kvs':=pgF P.len P.rest lp lo lv dv li l lm));exact .join (P:={ P with gv:=xs }) Zd ⟨b.pp,b.oo,b.vv,b.dd,b.li,⟨(Xi.dict a1).1 _ _ hl,ol⟩,b.mm⟩ a3
def Vz(P:Pg):Rj->Pg
 | .enrol n g c=>{ P with ppl:=P.ppl++[(n,g,c)],deed:=some ("enrol",n,(P.over.length:Int)+1) }
 | .away i n=>{ P with out:=P.out++[(i,n)],deed:=some ("away",n,i) }
 | .draw ms=>{ P with lis:=some ms,deed:=some ("draw up",(ms.length:Int),(P.over.length:Int)+1) }
 | .close=>{ P with over:=P.over++[⟨P.lis.getD [],Q7 P (P.lis.getD []),P.gv,P.mv⟩],lis:=none,gv:=[],mv:=[] }
 | .back=>P
def zbe(ds:List Addr)(d d':Addr):Rj->List Addr
 | .back=>ds
 | .close=>[d']
 | _=>ds++[d]++[d']
inductive Cd(K:Frag)(vs:#[b])(H:Hp)(Q:VK)(_:XK):Prop where
 | mk(ok:Addr->Prop)(l t:Addr)(ds:List Addr)(d:Addr)(P:Pg)(D:Rj)(_:vs=[.ref l,.ref t])(_:H l=some (.lst ((ds++[d]).map V.ref)))(_:PgAt ok H d P)(_:Wv ok H t D)(_:Ld P)(_:P.ppl.length<=100)(_:P.out.length<=900)(_:ds.length<=900)(_:(D=.close->∃ ms,P.lis=some ms/\ms.length<=100))(_:∀ l' d' H',H' l'=some (.lst ((zbe ds d d' D).map V.ref))->(D≠.back->PgAt (fun x=>ok x\/H x=none) H' d' (Vz P D))->Same H H'->H l'=none->H d'=none->Q (.ref l') H')
theorem zgo(xs:#[b])(x:V):G5 (xs++[x]) none (some (-1))=xs:=by
 unfold G5 HT.sIx;simp;rw[show (-1+((xs.length:Int)+1)).toNat=xs.length by omega,List.take_left]
def zbf(ms:List P3):Prop:=(∀ m∈ms,¬ badM m)/\∀ m∈ms,m.1≠m.2.1
inductive Kt(K:Frag)(vs:#[b])(H:Hp)(Q:VK)(_:XK):Prop where
 | mk(b:Addr)(ns:List Int)(cell:Int)(most mixed:Nat)(_:vs=[.int cell,.ref b,.int most,.int mixed])(_:H b=some (.lst (ns.map V.int)))(_:2<=ns.length)(_:ns.length<=100)(_:ns.Nodup)(_:(∀ n∈ns,1<=n/\n<=99))(_:most<=20)(_:mixed<=1)(_:∀ l ts ms H',H' l=#[a,.lst,ts]->Z9 H' ts (ms.map pV)->ms.length<=most->zbf ms->Same H H'->H l=none->Q (.ref l) H')
def enV(x:P3):#[b]:=[.str "enrol",.int x.1,.int x.2.1,.int x.2.2]
inductive Hk(K:Frag)(vs:#[b])(H:Hp)(Q:VK)(_:XK):Prop where
 | mk(b t lc ln:Addr)(ns cs nu:List Int)(_:vs=[.ref b,.ref t])(_:SqL K H b (ns.map V.int))(_:Na H t lc ln cs nu)(_:∀ l ts (es:List P3) H',H' l=#[a,.lst,ts]->Z9 H' ts (es.map enV)->es.map (·.1)=nu.take es.length->es.length<=nu.length->(∀ x∈es,1<=x.2.1/\x.2.1<=9/\x.2.2∈cs)->Same H H'->H l=none->Q (.ref l) H')
def zgp(P:Pg)(ds:List Addr)(cs nu:List Int)(most:Nat):Rj->Prop
 | .enrol n g c=>P.lis=none/\n∈nu/\n∉P.ppl.map (·.1)/\1<=g/\g<=9/\c∈cs
 | .away i n=>(P.over.length:Int)<i/\i<=P.len/\n∈P.ppl.map (·.1)/\(i,n)∉P.out
 | .draw ms=>P.lis=none/\ms.length<=most/\zbf ms
 | .close=>P.lis≠none
 | .back=>ds≠[]
inductive As(K:Frag)(vs:#[b])(H:Hp)(Q:VK)(_:XK):Prop where
 | mk(ok:Addr->Prop)(l t lc ln:Addr)(ds:List Addr)(d:Addr)(P:Pg)(cell:Int)(cs nu:List Int)(most mixed:Nat)(_:vs=[.ref l,.int cell,.ref t,.int most,.int mixed])(_:H l=some (.lst ((ds++[d]).map V.ref)))(_:PgAt ok H d P)(_:Na H t lc ln cs nu)(_:most<=20)(_:mixed<=1)(_:P.over.length<P.len)(_:P.ppl.length<=100)(_:∀ t' D H',Wv (fun x=>H x=none) H' t' D->zgp P ds cs nu most D->Same H H'->H t'=none->Q (.ref t') H')
theorem Df(h1:Gr t σ H b)(h2:∀ H1,Same H H1->Gr u σ H1 c):Gr (zio t u) σ H (b&&c):=fun Q h=>by
 refine h1 _ fun H1 s1=>?_;cases b with
 | true=>exact h2 H1 s1 _ fun H2 s2=>h H2 (s1.trans s2)
 | false=>exact h H1 s1
theorem Ku{K:Frag}{H:Hp}:∀ ns:List Int,Wc K H (ns.map V.int) (ns.map Dt.int)
 | []=>.nil
 | w :: ws=>.cons (.int w) (Ku ws)
theorem Kv{K:Frag}{σ:L2.St}{H:Hp}{i:Nat}{l:Addr}{ns:List Int}(hv:σ[i]?=some #[c,l])(hl:H l=some (.lst (ns.map V.int))):Gr (zh7 (tOp (zfn K true) (Dk i) (zak G4))) σ H (!ns.isEmpty):=fun Q q=>by
 refine⟨_,hv,zvw _,fun le hle=>?_⟩;have s:=Zf (o:=.lst []) hle;refine⟨_,_,.lst (SqL.of (s _ _ hl)) (Ku _),.lst (SqL.of Zd) .nil,Dz _,D1,_,rfl,?_⟩;rw[if_pos rfl,D2];exact q _ s
theorem Lb.some(h:Lb ok H v x):(!decide (v=V.non))=x.isSome:=by
 cases x with
 | none=>cases (show v=V.non from h);rfl
 | some ms=>obtain⟨l,ts,rfl,_⟩:=h;rfl
theorem zgq{h y n:Int}(h0:0<=h)(h1:h<n)(y0:1<=y)(y1:y<=n-1):0<=(h+y)%n/\(h+y)%n<n/\(h+y)%n≠h:=by
 have hn:0<n:=by omega
 refine⟨zv8 _ ⋯,zv0 _ hn,?_⟩;by_cases c:h+y<n
 ·rw[Int.emod_eq_of_lt ⋯ c];omega
 ·have e:(h+y)%n=h+y-n:=by
   rw[<- Int.sub_emod_right,Int.emod_eq_of_lt ⋯ ⋯]
  omega
theorem at2(x y:Int){k:Nat}(h:k<=1):∃ z,atI [V.int x,V.int y] (k:Int)=#[e,z]:=by
 match k,h with
 | 0,_=>exact⟨x,rfl⟩
 | 1,_=>exact⟨y,rfl⟩
def Ce:List Int:=[1,2,3,4,5,6,7,8,9,1,1,1,1,2,2,3,3,4]
theorem zbg:∀ k,k<18->1<=Ce.getD k 0/\Ce.getD k 0<=9:=by decide
def Cf:List Int:=[1,2,3,4,5,6,7,8,9,9,9,9,9,8,8,7,6,5]
theorem zbh:∀ k,k<18->1<=Cf.getD k 0/\Cf.getD k 0<=9:=by decide
theorem Cg{ns:List Int}{i:Nat}(hi:i<ns.length):ns.getD i 0=ns[i]:=by
 rw[zvu,zu3 hi];rfl
theorem zgr{ns:List Int}(nd:ns.Nodup){i j:Nat}(hi:i<ns.length)(hj:j<ns.length)(h:ns.getD i 0=ns.getD j 0):i=j:=by
 rw[Cg hi,Cg hj] at h;exact(List.getElem_inj nd).mp h
theorem Tc{ns:List Int}{i:Nat}(hi:i<ns.length):ns.getD i 0∈ns:=by
 rw[Cg hi];exact zvx hi
def To(mb:Bool)(s:Zz):Zz:=if mb then s else { s with gaps:=[] }
theorem zh2(h:To mb s=To mb s'):s.ms=s'.ms/\s.may=s'.may/\s.gv=s'.gv/\(mb=true->s=s'):=by
 unfold To at h;cases mb with
 | true=>simp at h;subst h;exact⟨rfl,rfl,rfl,fun _=>rfl⟩
 | false=>simp at h;exact⟨h.1,h.2.1,h.2.2,fun z=>nomatch z⟩
theorem zd5(mb:Bool)(s:Zz):Z5 (To mb s)=Z5 s:=by
 unfold To;cases mb<;>rfl
structure RelB(mb:Bool)(P:Pg)(S:Sea):Prop where
 len:P.len=S.len
 rest:P.rest=S.rest
 ppl:P.ppl=S.ppl
 out:P.out=S.out
 over:P.over.map (To mb)=S.old.map (To mb)
 lis:P.lis=S.cur.map (·.ms)
def Mb(S:Sea):zgk:=match S.cur with|some s=>s.gaps|none=>[]
theorem Hl(h:S.cur=some s):Mb S=s.gaps:=by unfold Mb;rw[h]
theorem Vg(h:S.cur=none):Mb S=[]:=by unfold Mb;rw[h]
structure Rel(mb:Bool)(P:Pg)(S:Sea):Prop where
 b:RelB mb P S
 gv:∀ s,S.cur=some s->P.gv=s.gv
 mv:mb=true->P.mv=Mb S
structure SOk(nu:List Int)(n:Nat)(S:Sea):Prop where
 cur:zgi S
 nd:(S.ppl.map (·.1)).Nodup
 ppl:∀ x∈S.ppl,x.1∈nu/\¬ badI x.1 x.2.1 x.2.2
 few:S.ppl.length<=30
 led:S.led=S.old.map Z5
 old:∀ s∈S.old,s.ms.length<=20/\s.gv.length=s.ms.length/\∀ x∈s.gv,oneV x
 len:S.led.length<=S.len/\S.len<=60/\S.rest<=10
 lt:S.cur≠none->S.led.length<S.len
 num:S.out.length<=n/\S.std.length<=n
 gp:∀ s,S.cur=some s\/s∈S.old->s.gaps.length<=n/\∀ x∈s.gaps,x.2.length<=100
theorem SOk.mono(h:SOk nu n S)(e:n<=m):SOk nu m S:=⟨h.cur,h.nd,h.ppl,h.few,h.led,h.old,h.len,h.lt,⟨zvh h.num.1 e,zvh h.num.2 e⟩,fun s hs=>⟨zvh (h.gp s hs).1 e,(h.gp s hs).2⟩⟩
theorem SOk.pok(h:SOk nu n S):Ri S:=⟨fun x hx=>(h.ppl x hx).2,h.few⟩
theorem SOk.olen(h:SOk nu n S):S.old.length=S.led.length:=by rw[h.led,zu2]
theorem zgs:∀ (Rs:List (List Row)),(∀ rs∈Rs,rs.length<=k)->tot Rs<=k*Rs.length
 | [],_=>by simp[tot]
 | rs :: Rs,h=>by
   have h1:=h rs (zvy);have h2:=zgs Rs fun x hx=>h x (zvm _ hx);unfold tot at *;simp only[zvg,List.sum_cons,zvp,Nat.mul_succ];omega
theorem SOk.tot(h:SOk nu n S):G.tot S.led<=1200:=by
 have h1:=zgs (k:=20) S.led fun rs hrs=>by
  rw[h.led] at hrs;obtain⟨s,hs,rfl⟩:=zvb.mp hrs;have:=h.old s hs;unfold Z5;rw[zxa];omega
 have:=h.len;omega
theorem RelB.rows(r:RelB mb P S):P.over.map Z5=S.old.map Z5:=by
 have e:∀ l:List Zz,l.map Z5=(l.map (To mb)).map Z5:=fun l=>by
  rw[zwn];exact zwo fun s _=>(zd5 mb s).symm
 rw[e,r.over,<- e]
theorem RelB.olen(r:RelB mb P S):P.over.length=S.old.length:=by
 have:=congrArg List.length r.over
 simpa using this
theorem RelB.ovok(r:RelB mb P S)(o:SOk nu n S):Ld P:=by
 have h1:=r.olen;have h2:=o.olen;have h3:=o.len;refine⟨by omega,by rw[r.rest];omega,fun s hs=>?_⟩;have:To mb s∈S.old.map (To mb):=by rw[<- r.over];exact zvb.mpr ⟨s,hs,rfl⟩
 obtain⟨s',hs',e⟩:=zvb.mp this;obtain⟨e1,e2,e3,_⟩:=zh2 e;rw[<- e1,<- e3];exact o.old s' hs'
theorem RelB.may(r:RelB mb P S)(o:SOk nu n S)(ms:List P3):Q7 P ms=mayS S ms :=
 zd4 r.ppl (by rw[r.rows,o.led]) r.out r.rest (by unfold atV;rw[r.olen,o.olen]) ms
theorem RelB.at(r:RelB mb P S)(o:SOk nu n S):(P.over.length:Int)+1=atV S:=by unfold atV;rw[r.olen,o.olen]
theorem RelB.undrawn(r:RelB mb P S)(h:P.lis=none):S.cur=none:=by
 have:=r.lis;rw[h] at this;cases e:S.cur with
 | none=>rfl
 | some s=>rw[e] at this;cases this
theorem RelB.drawn(r:RelB mb P S)(h:P.lis=some ms):∃ s,S.cur=some s/\s.ms=ms:=by
 have:=r.lis;rw[h] at this;cases e:S.cur with
 | none=>rw[e] at this;cases this
 | some s=>rw[e] at this;exact⟨s,rfl,(Option.some.inj this).symm⟩
theorem Ci{l m:List Int}(nd:l.Nodup)(h:∀ x∈l,x∈m):l.length<=m.length:=by
 induction l generalizing m with
 | nil=>exact zvw _
 | cons x l ih =>
   have hx:=h x (zvy);obtain⟨h1,h2⟩:=zvt.mp nd;have:=ih (m:=m.erase x) h2 fun y hy=>(List.mem_erase_of_ne (fun z=>h1 (by rw[<- z];exact hy))).mpr (h y (zvm _ hy));rw[List.length_erase_of_mem hx] at this;have:=List.length_pos_of_mem hx;simp only[zvp];omega
theorem zh3{mb:Bool}{P:Pg}{S:Sea}{nu cs:List Int}{n most:Nat}{ds:List Addr}{D:Rj}(r:RelB mb P S)(o:SOk nu n S)(g:zgp P ds cs nu most D)(hlt:P.over.length<P.len)(hm:most<=20)(hnu:nu.length<=30/\∀ n∈nu,1<=n/\n<=999)(hcs:∀ c∈cs,1<=c/\c<=99)(hb:ds≠[]->S.std≠[]):Kr S D:=by
 have h1:=r.olen;have h2:=o.olen;have h3:=r.len;cases D with
 | enrol k gr c =>
   obtain⟨g1,g2,g3,g4,g5,g6⟩:=g;rw[r.ppl] at g3;refine⟨by omega,r.undrawn g1,?_,g3,?_⟩
   ·have:=hnu.2 k g2;have:=hcs c g6;unfold badI;omega
   ·have:=Ci (l:=k :: S.ppl.map (·.1)) (m:=nu) (zvt.mpr ⟨g3,o.nd⟩) fun x hx=>by
     rcases zu7.mp hx with rfl|hx
     ·exact g2
     ·obtain⟨y,hy,rfl⟩:=zvb.mp hx;exact(o.ppl y hy).1
    rw[zvp,zu2] at this;omega
 | away i k =>
   obtain⟨g1,g2,g3,g4⟩:=g;rw[r.ppl] at g3;rw[r.out] at g4;exact⟨by omega,by omega,g3,g4⟩
 | draw ms =>
   obtain⟨g1,g2,g3⟩:=g;exact⟨by omega,r.undrawn g1,by omega,g3.1,g3.2⟩
 | close =>
   refine⟨by omega,fun z=>g ?_⟩;rw[r.lis,z];rfl
 | back=>exact hb g
theorem zd6(F:Yk rows gs)(hn:∀ i:Nat,gs[i]?≠#[a,V.int,n]):Yk (without rows n) gs:=by
 refine⟨by unfold without;rw[zu2];exact F.len,F.one,fun k m h=>?_,F.inj⟩;obtain⟨r,h1,h2⟩:=F.may k m h;refine⟨r.filter fun x=>decide (x≠n),by unfold without;rw[zu8,h1];rfl,zv3.mpr ⟨h2,?_⟩⟩;refine zva fun z=>hn k ?_;rw[h,z]
theorem zbi(T:Vv rows gs):Vv (without rows n) gs:=fun p hp=>by
 obtain⟨S,h1,h2⟩:=T p hp;refine⟨S,h1,fun q hq=>⟨by unfold without;rw[zu2];exact(h2 q hq).1,fun r hr m hm=>?_⟩⟩;unfold without at hr;rw[zu8] at hr;obtain⟨r0,e1,rfl⟩:=zw1.mp hr;exact(h2 q hq).2 r0 e1 m (zv3.mp hm).1
theorem zd7(h:atV S<i)(ms:List P3):mayS (X0 S i n) ms=mayS S ms:=by
 unfold mayS;refine zwo fun m _=>?_;unfold Ff;have:∀ x:P3,pIn (X0 S i n).out (atV (X0 S i n)) x=pIn S.out (atV S) x:=fun x=>by
  show decide ((atV S,x.1)∈S.out++[(i,n)])=decide ((atV S,x.1)∈S.out);have:((atV S,x.1)∈S.out++[(i,n)])↔((atV S,x.1)∈S.out):=by
   simp only[zve,zu6,Prod.mk.injEq];constructor
   ·rintro(h|⟨h,_⟩)
    ·exact h
    ·omega
   ·exact .inl
  exact decide_eq_decide.mpr this
 simp only[this];rfl
theorem zgt(o:SOk nu n S)(g:Kr S D)(af:Sg H' S D S' v)(hb:D≠.back)(hn:∀ k gr c,D=.enrol k gr c->k∈nu):SOk nu (n+1) S'/\((D=.close/\S'.std=[]/\S'.cur=none)\/(D≠.close/\Kq S S')):=by
 obtain⟨n1,n2⟩:=o.num;cases af with
 | enrol k gr c =>
   obtain⟨g1,g2,g3,g4,g5⟩:=g;refine⟨⟨fun s hs=>?_,?_,fun x hx=>?_,?_,o.led,o.old,o.len,fun _=>g1,⟨?_,?_⟩,fun s hs=>⟨zwp (o.gp s hs).1,(o.gp s hs).2⟩⟩,.inr ⟨nofun,(("enrol":Str),k,atV S),rfl,.inl ⟨rfl,⟨gr,c,rfl⟩,rfl⟩,rfl,rfl,rfl,rfl⟩⟩
   ·have hs:S.cur=some s:=hs;rw[g2] at hs;cases hs
   ·show (List.map (·.1) (S.ppl++[(k,gr,c)])).Nodup;rw[zu9,List.nodup_append];refine⟨o.nd,by simp,fun x hx y hy=>?_⟩;rw[zvg,List.map_nil,zu6] at hy;subst hy;rintro rfl;exact g4 hx
   ·rcases zve.mp hx with hx|hx
    ·exact o.ppl x hx
    ·rw[zu6.mp hx];exact⟨hn k gr c rfl,g3⟩
   ·show (S.ppl++[(k,gr,c)]).length<=30;rw[zu5];show S.ppl.length+1<=30;omega
   ·show S.out.length<=n+1;omega
   ·show (S.std++[_]).length<=n+1;rw[zu5];show S.std.length+1<=n+1;omega
 | @awayN i k l h hl =>
   obtain⟨g1,g2,g3,g4⟩:=g;refine⟨⟨fun s hs=>?_,o.nd,o.ppl,o.few,o.led,o.old,o.len,o.lt,⟨?_,?_⟩,fun s hs=>⟨zwp (o.gp s hs).1,(o.gp s hs).2⟩⟩,.inr ⟨nofun,(("away":Str),k,i),rfl,.inr (.inl ⟨rfl,rfl,rfl,g4⟩),rfl,rfl,rfl,rfl⟩⟩
   ·have hs:S.cur=some s:=hs;rcases h with h|h
    ·rw[h] at hs;cases hs
    ·obtain⟨c1,c2,c3,c4,c5⟩:=o.cur s hs;refine⟨c1,c2,c3,by rw[zd7 h];exact c4,?_⟩;show s.gaps.length<=(S.std++[_]).length;rw[zu5];omega
   ·show (S.out++[_]).length<=n+1;rw[zu5];show S.out.length+1<=n+1;omega
   ·show (S.std++[_]).length<=n+1;rw[zu5];show S.std.length+1<=n+1;omega
 | @awayF k s l h hp hl =>
   obtain⟨g1,g2,g3,g4⟩:=g;obtain⟨c1,c2,c3,c4,c5⟩:=o.cur s h;refine⟨⟨fun s' hs=>?_,o.nd,o.ppl,o.few,o.led,o.old,o.len,fun _=>o.lt (by rw[h];exact nofun),⟨?_,?_⟩,fun s' hs=>?_⟩,.inr ⟨nofun,(("away":Str),k,atV S),rfl,.inr (.inl ⟨rfl,rfl,rfl,g4⟩),rfl,rfl,rfl,rfl⟩⟩
   ·have hs:some { s with may:=mayS (X0 S (atV S) k) s.ms }=some s':=hs;cases hs;have hno:∀ i:Nat,s.gv[i]?≠some (V.int k):=by
     rcases Kk s.gv k with z|⟨i,z,_⟩
     ·exact z.2
     ·rw[hp] at z;cases z
    refine⟨c1,?_,?_,rfl,?_⟩
    ·show Yk (mayS (X0 S (atV S) k) s.ms) s.gv;rw[Tj,<- c4];exact zd6 c2 hno
    ·show Vv (mayS (X0 S (atV S) k) s.ms) s.gv;rw[Tj,<- c4];exact zbi c3
    ·show s.gaps.length<=(S.std++[_]).length;rw[zu5];omega
   ·show (S.out++[_]).length<=n+1;rw[zu5];show S.out.length+1<=n+1;omega
   ·show (S.std++[_]).length<=n+1;rw[zu5];show S.std.length+1<=n+1;omega
   ·have old:=o.gp s (.inl h);rcases hs with hs|hs
    ·have hs:some { s with may:=mayS (X0 S (atV S) k) s.ms }=some s':=hs;cases hs;exact⟨zwp old.1,old.2⟩
    ·have:=o.gp s' (.inr hs);exact⟨zwp this.1,this.2⟩
 | @awayC k s p e l us st w h hp hl tl CR =>
   obtain⟨g1,g2,g3,g4⟩:=g;obtain⟨c1,c2,c3,c4,c5⟩:=o.cur s h;refine⟨⟨fun s' hs=>?_,o.nd,o.ppl,o.few,o.led,o.old,o.len,fun _=>o.lt (by rw[h];exact nofun),⟨?_,?_⟩,fun s' hs=>?_⟩,.inr ⟨nofun,(("away":Str),k,atV S),rfl,.inr (.inl ⟨rfl,rfl,rfl,g4⟩),rfl,rfl,rfl,rfl⟩⟩
   ·have hs:some (⟨s.ms,mayS (X0 S (atV S) k) s.ms,Yu st (s.gv.set p .non),s.gaps++[(k,st)]⟩:Zz)=some s':=hs;cases hs;have hx:=R4 hp;rw[Tj,<- c4] at CR;have F0:=U7 c2 hx;have hpl:p<(without s.may k).length:=by
     unfold without;rw[zu2,<- c2.len];exact(zu4.mp hx).1
    refine⟨c1,?_,?_,rfl,?_⟩
    ·show Yk (mayS (X0 S (atV S) k) s.ms) _;rw[Tj,<- c4];exact CR.fill F0 hpl
    ·show Vv (mayS (X0 S (atV S) k) s.ms) _;rw[Tj,<- c4];exact Bu c2 c3 hx CR
    ·show (s.gaps++[_]).length<=(S.std++[_]).length;rw[zu5,zu5];show s.gaps.length+1<=S.std.length+1;omega
   ·show (S.out++[_]).length<=n+1;rw[zu5];show S.out.length+1<=n+1;omega
   ·show (S.std++[_]).length<=n+1;rw[zu5];show S.std.length+1<=n+1;omega
   ·have old:=o.gp s (.inl h);rcases hs with hs|hs
    ·have hs:some (⟨s.ms,mayS (X0 S (atV S) k) s.ms,Yu st (s.gv.set p .non),s.gaps++[(k,st)]⟩:Zz)=some s':=hs;cases hs;have hx:=R4 hp;rw[Tj,<- c4] at CR;have hpl:p<(without s.may k).length:=by
      unfold without;rw[zu2,<- c2.len];exact(zu4.mp hx).1
     have hcl:=CR.len (U7 c2 hx) hpl;have hwl:(without s.may k).length=s.may.length:=by unfold without;rw[zu2]
     have hml:s.may.length=s.ms.length:=by rw[c4];unfold mayS;rw[zu2]
     refine⟨by show (s.gaps++[_]).length<=n+1;rw[zu5];show s.gaps.length+1<=n+1;omega,fun x hx'=>?_⟩;rcases zve.mp hx' with z|z
     ·exact old.2 x z
     ·rw[zu6.mp z];show st.length<=100;omega
    ·have:=o.gp s' (.inr hs);exact⟨zwp this.1,this.2⟩
 | @draw ms gv l hl F T =>
   obtain⟨g1,g2,g3,g4,g5⟩:=g;refine⟨⟨fun s' hs=>?_,o.nd,o.ppl,o.few,o.led,o.old,o.len,fun _=>g1,⟨?_,?_⟩,fun s' hs=>?_⟩,.inr ⟨nofun,(("draw up":Str),(ms.length:Int),atV S),rfl,.inr (.inr ⟨rfl,rfl,rfl⟩),rfl,rfl,rfl,rfl⟩⟩
   ·have hs:some (⟨ms,mayS S ms,gv,[]⟩:Zz)=some s':=hs;cases hs;exact⟨g3,F,T,rfl,zvw _⟩
   ·show S.out.length<=n+1;omega
   ·show (S.std++[_]).length<=n+1;rw[zu5];show S.std.length+1<=n+1;omega
   ·rcases hs with hs|hs
    ·have hs:some (⟨ms,mayS S ms,gv,[]⟩:Zz)=some s':=hs;cases hs;exact⟨zvw _,nofun⟩
    ·have:=o.gp s' (.inr hs);exact⟨zwp this.1,this.2⟩
 | @close s h =>
   obtain⟨g1,g2⟩:=g;obtain⟨c1,c2,c3,c4,c5⟩:=o.cur s h;refine⟨⟨fun s' hs=>(by cases hs),o.nd,o.ppl,o.few,?_,fun x hx=>?_,⟨?_,o.len.2⟩,fun z=>absurd rfl z,⟨?_,zvw _⟩,fun s' hs=>?_⟩,.inl ⟨rfl,rfl,rfl⟩⟩
   ·show S.led++[Z5 s]=List.map Z5 (S.old++[s]);rw[zu9,o.led];rfl
   ·rcases zve.mp hx with hx|hx
    ·exact o.old x hx
    ·rw[zu6.mp hx];refine⟨c1,?_,c2.one⟩;rw[c2.len,c4];unfold mayS;rw[zu2]
   ·show (S.led++[_]).length<=S.len;rw[zu5];exact g1
   ·show S.out.length<=n+1;omega
   ·rcases hs with hs|hs
    ·cases hs
    ·have hs:s'∈S.old++[s]:=hs;rcases zve.mp hs with z|z
     ·have:=o.gp s' (.inr z);exact⟨zwp this.1,this.2⟩
     ·rw[zu6.mp z];have:=o.gp s (.inl h);exact⟨zwp this.1,this.2⟩
 | back h ht hs=>exact absurd rfl hb
theorem zd8(r:Rel mb P S)(o:SOk nu n S)(g:Kr S D)(af:Sg H' S D S' v)(hb:D≠.back):RelB mb (Vz P D) S':=by
 obtain⟨⟨r1,r2,r3,r4,r5,r6⟩,rg,rm⟩:=id r;cases af with
 | enrol k gr c=>exact⟨r1,r2,by show P.ppl++_=S.ppl++_;rw[r3],r4,r5,r6⟩
 | @awayN i k l h hl=>exact⟨r1,r2,r3,by show P.out++_=S.out++_;rw[r4],r5,r6⟩
 | @awayF k s l h hp hl=>exact⟨r1,r2,r3,by show P.out++_=S.out++_;rw[r4],r5,by show P.lis=_;rw[r6,h];rfl⟩
 | @awayC k s p e l us st w h hp hl tl CR=>exact⟨r1,r2,r3,by show P.out++_=S.out++_;rw[r4],r5,by show P.lis=_;rw[r6,h];rfl⟩
 | @draw ms gv l hl F T=>exact⟨r1,r2,r3,r4,r5,rfl⟩
 | @close s h =>
   have hl:P.lis=some s.ms:=by rw[r6,h];rfl
   refine⟨r1,r2,r3,r4,?_,rfl⟩;show List.map (To mb) (P.over++[⟨P.lis.getD [],Q7 P (P.lis.getD []),P.gv,P.mv⟩])=List.map (To mb) (S.old++[s]);rw[zu9,zu9,r5,hl]
   congr 1
   have e1:=(o.cur s h).2.2.2.1;have e2:=r.b.may o s.ms;have e3:=rg s h;unfold To;cases mb with
   | true =>
     have e4:P.mv=s.gaps:=by rw[rm rfl,Hl h]
     show [(⟨s.ms,Q7 P s.ms,P.gv,P.mv⟩:Zz)]=[s];rw[e2,e3,e4,<- e1]
   | false =>
     show [(⟨s.ms,Q7 P s.ms,P.gv,[]⟩:Zz)]=[(⟨s.ms,s.may,s.gv,[]⟩:Zz)];rw[e2,e3,<- e1]
 | back h ht hs=>exact absurd rfl hb
theorem zd9(h1:Kq S1 S)(h2:Kq S2 S):S1=S2:=by
 obtain⟨d1,a1,a2,a3,a4,a5,a6⟩:=h1;obtain⟨d2,b1,b2,b3,b4,b5,b6⟩:=h2;have e:=a1.symm.trans b1;obtain⟨e1,e2⟩:=List.append_inj' e rfl;have e3:=List.cons.inj e2;obtain⟨e4,e5⟩:=Prod.mk.inj e3.1;subst e4;have w1:("enrol":Str)≠"away":=by decide +kernel
 have w2:("enrol":Str)≠"draw up":=by decide +kernel
 have w3:("away":Str)≠"draw up":=by decide +kernel
 have e6:S1.ppl=S2.ppl/\S1.out=S2.out:=by
  rcases a2 with ⟨x1,⟨g,c,x2⟩,x3⟩|⟨x1,x2,x3,_⟩|⟨x1,x2,x3⟩<;>rcases b2 with ⟨y1,⟨g',c',y2⟩,y3⟩|⟨y1,y2,y3,_⟩|⟨y1,y2,y3⟩
  ·exact⟨(List.append_inj' (x2.symm.trans y2) rfl).1,x3.trans y3.symm⟩
  ·exact absurd (x1.symm.trans y1) w1
  ·exact absurd (x1.symm.trans y1) w2
  ·exact absurd (y1.symm.trans x1) w1
  ·exact⟨x2.trans y2.symm,(List.append_inj' (x3.symm.trans y3) rfl).1⟩
  ·exact absurd (x1.symm.trans y1) w3
  ·exact absurd (y1.symm.trans x1) w2
  ·exact absurd (y1.symm.trans x1) w3
  ·exact⟨x2.trans y2.symm,x3.trans y3.symm⟩
 obtain⟨l1,q1,p1,d1',o1,ol1,c1,s1⟩:=S1;obtain⟨l2,q2,p2,d2',o2,ol2,c2,s2⟩:=S2;simp only at *;obtain⟨e7,e8⟩:=e6;subst e1 e5 e7 e8;rw[<- a3,<- b3,<- a4,<- b4,<- a5,<- b5,<- a6,<- b6]
structure FrN(A A':SAd)(H H':Hp):Prop where
 p:A'.p=A.p
 k:∀ b o,H b=some o->b∉A.fp->H' b=some o/\b∉A'.fp
 kt:#[j]
theorem FrN.refl(A:SAd)(H:Hp):FrN A A H H:=⟨rfl,fun b o e n=>⟨e,n⟩,fun _ _ e=>e⟩
theorem FrN.of(e:Same H H'):FrN A A H H':=⟨rfl,fun b o z n=>⟨e _ _ z,n⟩,fun _ _ z=>e _ _ z⟩
theorem FrN.trans(h1:FrN A A1 H H1)(h2:FrN A1 A2 H1 H2):FrN A A2 H H2:=⟨h2.p.trans h1.p,fun b o e n=>by
 obtain⟨a1,a2⟩:=h1.k b o e n;exact h2.k b o a1 a2,fun t xs e=>h2.kt _ _ (h1.kt _ _ e)⟩
theorem Iz.out(nx:Iz A A' H)(e:H b=some o)(n:b∉A.fp):b∉A'.fp:=by
 obtain⟨x,rfl,hx⟩:=nx;simp only[SAd.fp,zu7,zv7,or_false] at n ⊢;rcases hx with rfl|hx
 ·exact n
 ·have:b≠x:=Zh e hx;rintro(z|z|z|z|z|z|z)
  ·exact n (.inl z)
  ·exact n (.inr (.inl z))
  ·exact n (.inr (.inr (.inl z)))
  ·exact n (.inr (.inr (.inr (.inl z))))
  ·exact n (.inr (.inr (.inr (.inr (.inl z)))))
  ·exact n (.inr (.inr (.inr (.inr (.inr (.inl z))))))
  ·exact this z
theorem FrN.next(SA:Zy ca H A S)(nx:Iz A A' H)(f:FrS A H H'):FrN A A' H H':=⟨by obtain⟨x,rfl,_⟩:=nx;rfl,fun b o e n=>⟨f b o e n,nx.out e n⟩,SA.tups f⟩
def Rk(K:Frag)(A:SAd)(H:Hp)(b:Addr)(xs:#[b]):Prop:=(Rd H b (.lst xs)/\b∉A.fp)\/∀ H',SqL K H' b xs
theorem Rk.sq{K:Frag}{A:SAd}{H:Hp}{b:Addr}{xs:#[b]}(h:Rk K A H b xs):SqL K H b xs:=by
 rcases h with h|h
 ·exact .inl h.1
 ·exact h H
theorem Rk.fr{K:Frag}{A A':SAd}{H H':Hp}{b:Addr}{xs:#[b]}(f:FrN A A' H H')(h:Rk K A H b xs):Rk K A' H' b xs:=by
 rcases h with ⟨h,n⟩|h
 ·rcases h with h|⟨o,h⟩
  ·exact .inl ⟨.inl (f.k _ _ h n).1,(f.k _ _ h n).2⟩
  ·exact .inl ⟨.inr ⟨o,(f.k _ _ h n).1⟩,(f.k _ _ h n).2⟩
 ·exact .inr h
theorem Rk.make{K:Frag}{H:Hp}{b:Addr}{xs:#[b]}(h:SqL K H b xs)(A:SAd)(H':Hp)(s:Same H H')(hf:∀ x∈A.fp,H x=none):Rk K A H' b xs:=by
 rcases h with h|h
 ·have hn:b∉A.fp:=fun z=>by
   have:=hf b z;rcases h with h|⟨o,h⟩<;>(rw[this] at h;cases h)
  rcases h with h|⟨o,h⟩
  ·exact .inl ⟨.inl (s _ _ h),hn⟩
  ·exact .inl ⟨.inr ⟨o,s _ _ h⟩,hn⟩
 ·exact .inr fun _=>.inr h
structure Mc(A:SAd)(H:Hp)(t lc ln:Addr)(cs nu:List Int):Prop where
 at_:Na H t lc ln cs nu
 o:t∉A.fp/\lc∉A.fp/\ln∉A.fp
theorem Mc.fr{A A':SAd}{H H':Hp}{t lc ln:Addr}{cs nu:List Int}(f:FrN A A' H H')(h:Mc A H t lc ln cs nu):Mc A' H' t lc ln cs nu:=by
 obtain⟨⟨a1,a2,a3,a4,a5,a6,a7,a8,a9⟩,o1,o2,o3⟩:=h;exact⟨⟨(f.k _ _ a1 o1).1,(f.k _ _ a2 o2).1,(f.k _ _ a3 o3).1,a4,a5,a6,a7,a8,a9⟩,(f.k _ _ a1 o1).2,(f.k _ _ a2 o2).2,(f.k _ _ a3 o3).2⟩
inductive Bk(mb:Bool)(ok:Addr->Prop)(H:Hp)(nu:List Int)(n:Nat):List Addr->Sea->Prop where
 | one {d:Addr} {P:Pg} {S:Sea} (h:PgAt ok H d P) (r:Rel mb P S) (o:SOk nu n S) (e:S.std=[]):Bk mb ok H nu n [d] S
 | snoc {ds:List Addr} {d:Addr} {P:Pg} {S S':Sea} (b:Bk mb ok H nu n ds S) (nd:d∉ds) (h:PgAt ok H d P) (r:Rel mb P S') (o:SOk nu n S') (st:Kq S S') (hd:∃ x,P.deed=some x/\S'.std=S.std++[(x,S.cur)]):Bk mb ok H nu n (ds++[d]) S'
section
variable{mb:Bool}{ok ok':Addr->Prop}{H H':Hp}{nu:List Int}{n m:Nat}{ds:List Addr}{d:Addr}{P:Pg}{S S':Sea}
theorem Bk.keep(b:Bk mb ok H nu n ds S)(k:∀ x o,ok x->H x=some o->H' x=some o)(kt:#[j]):Bk mb ok H' nu n ds S:=by
 induction b with
 | one h r o e=>exact .one (h.keep k kt) r o e
 | snoc b nd h r o st hd ih=>exact .snoc ih nd (h.keep k kt) r o st hd
theorem Bk.imp(b:Bk mb ok H nu n ds S)(k:∀ x,(∃ o,H x=some o)->ok x->ok' x):Bk mb ok' H nu n ds S:=by
 induction b with
 | one h r o e=>exact .one (h.imp k) r o e
 | snoc b nd h r o st hd ih=>exact .snoc ih nd (h.imp k) r o st hd
theorem Bk.mono(b:Bk mb ok H nu n ds S)(e:n<=m):Bk mb ok H nu m ds S:=by
 induction b with
 | one h r o e'=>exact .one h r (o.mono e) e'
 | snoc b nd h r o st hd ih=>exact .snoc ih nd h r (o.mono e) st hd
theorem Bk.there(b:Bk mb ok H nu n ds S):∀ d∈ds,∃ kvs,H d=#[a,.dK,kvs]:=by
 induction b with
 | one h r o e =>
   intro d hd;rw[zu6.mp hd];obtain⟨_,_,_,_,_,_,_,a,_⟩:=h.split;exact⟨_,a⟩
 | snoc b nd h r o st hd ih =>
   intro d' hd';rcases zve.mp hd' with z|z
   ·exact ih d' z
   ·rw[zu6.mp z];obtain⟨_,_,_,_,_,_,_,a,_⟩:=h.split;exact⟨_,a⟩
theorem Bk.other(b:Bk mb ok H nu n ds S)(he:H e=#[a,.dK,kvs])(hn:e∉ds):Bk mb ok (upd H e (.dK kvs')) nu n ds S:=by
 induction b with
 | one h r o e'=>exact .one (h.other (fun z=>hn (by rw[z];exact zw0 _)) he) r o e'
 | snoc b nd h r o st hd ih=>exact .snoc (ih fun z=>hn (zvq _ z)) nd (h.other (fun z=>hn (by rw[z];exact zvr _ (zw0 _))) he) r o st hd
structure zgu(mb:Bool)(ok:Addr->Prop)(H:Hp)(nu:List Int)(n:Nat)(ds:List Addr)(d:Addr)(dd:Option Rh)(S:Sea):Prop where
 nd:d∉ds
 ex:(ds=[]/\S.std=[])\/∃ S0,Bk mb ok H nu n ds S0/\Kq S0 S/\∃ x,dd=some x/\S.std=S0.std++[(x,S0.cur)]
structure Nd(mb:Bool)(ok:Addr->Prop)(H:Hp)(nu:List Int)(n:Nat)(ds:List Addr)(d:Addr)(P:Pg)(S:Sea):Prop where
 pg:PgAt ok H d P
 rb:RelB mb P S
 so:SOk nu n S
 tl:zgu mb ok H nu n ds d P.deed S
structure Full(mb:Bool)(ok:Addr->Prop)(H:Hp)(nu:List Int)(n:Nat)(ds:List Addr)(d:Addr)(P:Pg)(S:Sea):Prop where
 pg:PgAt ok H d P
 re:Rel mb P S
 so:SOk nu n S
 tl:zgu mb ok H nu n ds d P.deed S
theorem Full.pend(h:Full mb ok H nu n ds d P S):Nd mb ok H nu n ds d P S:=⟨h.pg,h.re.b,h.so,h.tl⟩
theorem Full.bk(h:Full mb ok H nu n ds d P S):Bk mb ok H nu n (ds++[d]) S:=by
 obtain⟨nd,⟨rfl,e⟩|⟨S0,b,st,hd⟩⟩:=h.tl
 ·exact .one h.pg h.re h.so e
 ·exact .snoc b nd h.pg h.re h.so st hd
theorem Bk.full(b:Bk mb ok H nu n xs S):∃ ds d P,xs=ds++[d]/\Full mb ok H nu n ds d P S:=by
 cases b with
 | one h r o e=>exact⟨[],_,_,rfl,h,r,o,nofun,.inl ⟨rfl,e⟩⟩
 | snoc b nd h r o st hd=>exact⟨_,_,_,rfl,h,r,o,nd,.inr ⟨_,b,st,hd⟩⟩
theorem zgu.keep(h:zgu mb ok H nu n ds d dd S)(k:∀ x o,ok x->H x=some o->H' x=some o)(kt:#[j]):zgu mb ok H' nu n ds d dd S:=by
 obtain⟨nd,e|⟨S0,b,r⟩⟩:=h
 ·exact⟨nd,.inl e⟩
 ·exact⟨nd,.inr ⟨S0,b.keep k kt,r⟩⟩
theorem Nd.same(h:Nd mb ok H nu n ds d P S)(e:Same H H'):Nd mb ok H' nu n ds d P S:=⟨h.pg.same e,h.rb,h.so,h.tl.keep (fun _ _ _ q=>e _ _ q) fun _ _ q=>e _ _ q⟩
theorem Full.same(h:Full mb ok H nu n ds d P S)(e:Same H H'):Full mb ok H' nu n ds d P S:=⟨h.pg.same e,h.re,h.so,h.tl.keep (fun _ _ _ q=>e _ _ q) fun _ _ q=>e _ _ q⟩
theorem Nd.full(h:Nd mb ok H nu n ds d P S)(hg:∀ s,S.cur=some s->P.gv=s.gv)(hm:mb=true->P.mv=Mb S):Full mb ok H nu n ds d P S:=⟨h.pg,⟨h.rb,hg,hm⟩,h.so,h.tl⟩
end
theorem zgv(r:RelB mb P S)(o:SOk nu n S)(af:Sg H' S D S' v)(hb:D≠.back)(hc:D≠.close):∃ x,(Vz P D).deed=some x/\S'.std=S.std++[(x,S.cur)]:=by
 have e:=r.at o;cases af with
 | enrol k gr c=>exact⟨_,rfl,by rw[e]⟩
 | awayN h hl=>exact⟨_,rfl,rfl⟩
 | awayF h hp hl=>exact⟨_,rfl,rfl⟩
 | awayC h hp hl tl CR=>exact⟨_,rfl,rfl⟩
 | draw hl F T=>exact⟨_,rfl,by rw[e];rfl⟩
 | close h=>exact absurd rfl hc
 | back h ht hs=>exact absurd rfl hb
theorem turn(F:Full mb (·∉A.fp) H nu n ds d P S)(SA:Zy ca H A S)(af:Sg H1 S D S' v)(SA1:Zy ca H1 A' S')(nx:Iz A A' H)(fr:FrS A H H1)(g:Kr S D)(hn:∀ k gr c,D=.enrol k gr c->k∈nu)
  (pg:D≠.back->PgAt (fun x=>x∉A'.fp\/H1 x=none) H2 d' (Vz P D)) (s2:Same H1 H2) (fd:H1 d'=none) :
  ∃ ds2 d2 P2,zbe ds d d' D=ds2++[d2]/\Nd mb (·∉A'.fp) H2 nu (n+1) ds2 d2 P2 S'/\(D≠.back->P2=Vz P D)/\(D=.back\/D=.close->(∀ s,S'.cur=some s->P2.gv=s.gv)/\(mb=true->P2.mv=Mb S')):=by
 have mv:∀ {xs:List Addr} {S0:Sea},Bk mb (·∉A.fp) H nu n xs S0->Bk mb (·∉A'.fp) H2 nu (n+1) xs S0:=fun b=>by
  have b1:=b.imp (ok':=fun x=>x∉A.fp/\x∉A'.fp) fun x ⟨o,e⟩ z=>⟨z,nx.out e z⟩
  have b2:=b1.keep (H':=H2) (fun x o z e=>s2 _ _ (fr x o e z.1)) fun t xs e=>s2 _ _ (SA.tups fr t xs e);exact(b2.imp fun x _ z=>z.2).mono (Nat.le_succ n)
 have hd1:∀ x∈ds++[d],x≠d':=fun x hx z=>by
  have b1:=F.bk.imp (ok':=fun x=>x∉A.fp/\x∉A'.fp) fun x ⟨o,e⟩ z=>⟨z,nx.out e z⟩
  have b2:=b1.keep (H':=H1) (fun x o z e=>fr x o e z.1) fun t xs e=>SA.tups fr t xs e;obtain⟨kvs,e⟩:=b2.there x hx;rw[z,fd] at e;cases e
 by_cases hb:D=.back
 ·subst hb;cases af with
  | @back S0' dd t h ht hs =>
    obtain⟨nd,⟨_,e⟩|⟨S0,b,st,_⟩⟩:=F.tl
    ·exact absurd e g
    ·have es:=zd9 hs st;subst es;obtain⟨ds2,d2,P2,e,F2⟩:=(mv b).full;exact⟨ds2,d2,P2,e,F2.pend,fun z=>absurd rfl z,fun _=>⟨F2.re.gv,F2.re.mv⟩⟩
 ·have pg':PgAt (·∉A'.fp) H2 d' (Vz P D):=(pg hb).imp fun x hx z=>by
   rcases z with z|z
   ·exact z
   ·exact SA1.newOk x z
  obtain⟨o',ho⟩:=zgt F.so g af hb hn;have rb:=zd8 F.re F.so g af hb;rcases ho with ⟨rfl,e1,e2⟩|⟨hc,st⟩
  ·exact⟨[],d',_,rfl,⟨pg',rb,o',nofun,.inl ⟨rfl,e1⟩⟩,fun _=>rfl,fun _=>⟨fun s hs=>(by rw[e2] at hs;cases hs),fun _=>(by rw[Vg e2];rfl)⟩⟩
  ·have hk:zbe ds d d' D=(ds++[d])++[d']:=by
    cases D with
    | back=>exact absurd rfl hb
    | close=>exact absurd rfl hc
    | enrol _ _ _=>rfl
    | away _ _=>rfl
    | draw _=>rfl
   refine⟨ds++[d],d',_,hk,⟨pg',rb,o',fun z=>hd1 d' z rfl,.inr ⟨S,mv F.bk,st,zgv F.re.b F.so af hb hc⟩⟩,fun _=>rfl,?_⟩;rintro(z|z)
   ·exact absurd z hb
   ·exact absurd z hc
section
variable{mb:Bool}{ok ok':Addr->Prop}{A A':SAd}{H H':Hp}{nu:List Int}{n m:Nat}{ds:List Addr}{d:Addr}{P:Pg}{S S':Sea}{D:Rj}
theorem PgAt.fr(f:FrN A A' H H')(h:PgAt (·∉A.fp) H d P):PgAt (·∉A'.fp) H' d P:=by
 have b1:=h.imp (ok':=fun x=>x∉A.fp/\x∉A'.fp) fun x ⟨o,e⟩ z=>⟨z,(f.k x o e z).2⟩
 have b2:=b1.keep (H':=H') (fun x o z e=>(f.k x o e z.1).1) f.kt;exact b2.imp fun x _ z=>z.2
theorem Wv.fr(f:FrN A A' H H')(h:Wv (·∉A.fp) H t D):Wv (·∉A'.fp) H' t D:=by
 cases D with
 | enrol a b c=>exact f.kt _ _ h
 | away a b=>exact f.kt _ _ h
 | draw ms =>
   obtain⟨l,ts,a1,a2,a3,a4⟩:=h;exact⟨l,ts,f.kt _ _ a1,(f.k _ _ a2 a4).1,a3.mono f.kt,(f.k _ _ a2 a4).2⟩
 | close=>exact f.kt _ _ h
 | back=>exact f.kt _ _ h
theorem Wv.same(e:Same H H')(h:Wv ok H t D):Wv ok H' t D:=by
 cases D with
 | enrol a b c=>exact e _ _ h
 | away a b=>exact e _ _ h
 | draw ms =>
   obtain⟨l,ts,a1,a2,a3,a4⟩:=h;exact⟨l,ts,e _ _ a1,e _ _ a2,a3.mono fun _ _ z=>e _ _ z,a4⟩
 | close=>exact e _ _ h
 | back=>exact e _ _ h
theorem Wv.imp(k:∀ x,ok x->ok' x)(h:Wv ok H t D):Wv ok' H t D:=by
 cases D with
 | enrol a b c=>exact h
 | away a b=>exact h
 | draw ms =>
   obtain⟨l,ts,a1,a2,a3,a4⟩:=h;exact⟨l,ts,a1,a2,a3,k _ a4⟩
 | close=>exact h
 | back=>exact h
theorem Bk.len(b:Bk mb ok H nu n ds S):ds.length=S.std.length+1:=by
 induction b with
 | one h r o e=>rw[e];rfl
 | snoc b nd h r o st hd ih =>
   obtain⟨x,_,e⟩:=hd;rw[e,zu5,zu5,ih];rfl
theorem Full.len(F:Full mb ok H nu n ds d P S):ds.length=S.std.length:=by
 have:=F.bk.len;rw[zu5] at this;have h1:[d].length=1:=rfl;omega
theorem Full.pre(F:Full mb ok H nu n ds d P S)(g:Kr S D)(hn:n<100):zgi S/\Ri S/\S.std.length<100/\S.out.length<=100000/\2*(tot S.led+1000)<=100000/\S.led.length<=1000/\S.old.length<=1000/\S.len<=1000/\(∀ i k,D=.away i k->Yl k)/\(D=.back->∃ S0,Kq S0 S):=by
 have h1:=F.so.num;have h2:=F.so.len;have h3:=F.so.olen;have h4:=F.so.tot;refine⟨F.so.cur,F.so.pok,by omega,by omega,by omega,by omega,by omega,by omega,?_,?_⟩
 ·rintro i k rfl;obtain⟨_,_,g3,_⟩:=g;obtain⟨x,hx,rfl⟩:=zvb.mp g3;exact F.so.pok.small x hx
 ·rintro rfl;obtain⟨nd,⟨_,e⟩|⟨S0,b,st,_⟩⟩:=F.tl
  ·exact absurd e g
  ·exact⟨S0,st⟩
theorem Full.pre2(F:Full mb ok H nu n ds d P S)(g:Kr S D)(hn:n<100):Ld P/\P.ppl.length<=100/\P.out.length<=900/\ds.length<=900/\(D=.close->∃ ms,P.lis=some ms/\ms.length<=100):=by
 have h1:=F.so.num;have h2:=F.len;have h3:=F.so.few;refine⟨F.re.b.ovok F.so,by rw[F.re.b.ppl];omega,by rw[F.re.b.out];omega,by omega,?_⟩;rintro rfl;obtain⟨_,g2⟩:=g;cases e:S.cur with
 | none=>exact absurd e g2
 | some s=>exact⟨s.ms,by rw[F.re.b.lis,e];rfl,zvh (F.so.cur s e).1 ⋯⟩
theorem Full.back(F:Full mb ok H nu n ds d P S)(h:ds≠[]):S.std≠[]:=by
 obtain⟨nd,⟨e,_⟩|⟨S0,b,st,x,_,e⟩⟩:=F.tl
 ·exact absurd e h
 ·rw[e];simp
end
inductive Hm(K:Frag)(ca:CA)(vs:#[b])(H:Hp)(Q:VK)(_:XK):Prop where
 | mk(mb:Bool)(A:SAd)(l le:Addr)(ts:#[b])(es:List P3)(ds:List Addr)(d:Addr)(P:Pg)(S:Sea)(nu:List Int)(n:Nat)(_:vs=[.ref A.p,.ref l,.ref le])(_:Zy ca H A S)(_:H l=some (.lst ((ds++[d]).map V.ref)))(_:l∉A.fp)(_:Full mb (·∉A.fp) H nu n ds d P S)(_:H le=#[a,.lst,ts])(_:le∉A.fp)(_:Z9 H ts (es.map enV))(_:(es.map (·.1)).Nodup)(_:(∀ x∈es,x.1∈nu/\¬ badI x.1 x.2.1 x.2.2/\x.1∉S.ppl.map (·.1)))(_:S.ppl.length+es.length<=30)(_:n+es.length<=90)(_:S.cur=none)(_:S.led.length<S.len)(_:∀ A' l' ds' d' P' S' H',Zy ca H' A' S'->H' l'=some (.lst ((ds'++[d']).map V.ref))->l'∉A'.fp->Full mb (·∉A'.fp) H' nu (n+es.length) ds' d' P' S'->FrN A A' H H'->S'.cur=none->S'.led=S.led->S'.len=S.len->Q (.ref l') H')
theorem zbj(pg:PgAt ok H d (zbc r q))(hr:r<=60)(hq:q<=10):Full mb ok H nu n [] d (zbc r q) (zgf r q) :=
 ⟨pg,⟨⟨rfl,rfl,rfl,rfl,rfl,rfl⟩,nofun,fun _=>rfl⟩,⟨nofun,.nil,nofun,zvw _,rfl,nofun,⟨zvw _,hr,hq⟩,fun z=>absurd rfl z,⟨zvw _,zvw _⟩,fun s hs=>(by rcases hs with z|z<;>cases z)⟩,nofun,.inl ⟨rfl,rfl⟩⟩
theorem Cj{lo:Int}{n:Nat}{g:TG}{tb:TS}{D:P5}{σ:L2.St}{H:Hp}(Pv:Nat->L2.St->Hp->Prop)(h0:Pv 0 σ H)
  (hs:∀ N:L2.St->Hp->Prop,(∀ i σ H,Pv i σ H->N σ H)->∀ i σ H,i<n->Pv i σ H->g (.int (lo+i)) σ H fun σ2 H2=>tb { D with nx:=Pv (i+1),ct:=Pv (i+1),bk:=N } σ2 H2) (hd:∀ i σ H,Pv i σ H->D.nx σ H) :
  ∃ W:Nat->Nat->L2.St->Hp->Prop,(∃ m,W 0 m σ H)/\∀ i m σ H,W i m σ H ->
    ((Itr lo n).stop i H/\D.nx σ H)\/((Itr lo n).go i H/\∃ N:L2.St->Hp->Prop,(∀ σ' H',N σ' H'->∃ m',m' < m/\W (i+1) m' σ' H')/\∀ x H',(Itr lo n).yld i H x H'->g x σ H' fun σ2 H2=>tb { D with nx:=N,ct:=N,bk:=D.nx } σ2 H2) :=
 Xu Pv h0 (hs D.nx hd) (fun σ H p=>hd n σ H p)
theorem zea(S:Sea):Wg S (atV S)=S.cur:=by
 unfold Wg atV;rw[if_neg ⋯,if_neg ⋯]
theorem zgw(o:SOk nu n S)(h:S.cur=some s)(hk:k s):Sf ca H S (atV S) E k:=by
 have h1:=o.len;have h2:=o.lt (by rw[h];exact nofun);have h3:atV S=(S.led.length:Int)+1:=rfl;refine⟨Ye ⋯ ⋯,o.olen,?_⟩;rw[if_neg ⋯,zea];exact⟨fun z=>(by rw[h] at z;cases z),fun s' hs=>(by rw[h] at hs;cases hs;exact hk)⟩
theorem zh4(SA:Zy ca H A S)(h:Wv (fun x=>H x=none) H' t D):Wv (·∉A.fp) H' t D:=h.imp fun x hx=>SA.newOk x hx
def Hn(H H':Hp):Prop:=Xi H H'/\∀ x c e f,H x=some (.ins c e f)->H' x=some (.ins c e f)
theorem Hn.dict(h:H d=#[a,.dK,kvs]):Hn H (upd H d (.dK kvs')) :=
 ⟨.dict h,fun x c e f z=>by rw[Zi (Yw z h (by intro z;cases z))];exact z⟩
theorem ShAt.keepI(k:Hn H H')(h:ShAt C ok H q s):ShAt C ok H' q s:=by
 obtain⟨dx,l1,l2,l3,l4,ts,ls,gts,a1,a2,a3,a4,a5,a6,a7,a8,o1,o2,o3,o4,o5,o6⟩:=h;exact⟨dx,l1,l2,l3,l4,ts,ls,gts,k.2 _ _ _ _ a1,k.1.1 _ _ a2,a3.mono k.1.2,k.1.1 _ _ a4,ILs.keepL k.1 a5,k.1.1 _ _ a6,k.1.1 _ _ a7,a8.keepL k.1,o1,o2,o3,o4,o5,o6⟩
theorem ShO.keepI(k:Hn H H')(h:ShO C ok H v s):ShO C ok H' v s:=by
 cases s with
 | none=>exact h
 | some s=>obtain⟨q,e,h⟩:=h;exact⟨q,e,h.keepI k⟩
theorem ShL.keepI(k:Hn H H'):∀ {vs:List V} {ss:List Zz},ShL C ok H vs ss->ShL C ok H' vs ss
 | _,_,.nil=>.nil
 | _,_,.cons h r=>.cons (h.keepI k) (ShL.keepI k r)
theorem Ux.keepI(k:Hn H H'):∀ {vs:List V} {ss:List (Rh×Option Zz)},Ux C ok H vs ss->Ux C ok H' vs ss
 | _,_,.nil=>.nil
 | _,_,.cons h hu hs r=>.cons (k.1.2 _ _ h) (k.1.2 _ _ hu) (hs.keepI k) (Ux.keepI k r)
theorem Zy.dictW(h:Zy ca H A S)(hd:H d=#[a,.dK,kvs])(n:d∉A.fp):Zy ca (upd H d (.dK kvs')) A S:=by
 have k:=Hn.dict hd (kvs':=kvs');have hn:∀ x∈A.fp,∀ o,H x=some o->upd H d (.dK kvs') x=some o:=fun x hx o e=>by rw[Zi fun z=>n (by rw[<- z];exact hx)];exact e
 obtain⟨⟨dx,v,a1,a2⟩,b,c,⟨kvs0,d1,d2⟩,⟨vs,f1,f2⟩,⟨us,g1,g2⟩,nd,np⟩:=h;have hp:A.p∈A.fp:=by simp[SAd.fp]
 have hdr:A.dr∈A.fp:=by simp[SAd.fp]
 have hlr:A.lr∈A.fp:=by simp[SAd.fp]
 have hld:A.ld∈A.fp:=by simp[SAd.fp]
 have hda:A.da∈A.fp:=by simp[SAd.fp]
 have hls:A.ls∈A.fp:=by simp[SAd.fp]
 have hlt:A.lt∈A.fp:=by simp[SAd.fp]
 obtain⟨⟨dxr,kvr,r1,r2,r3⟩,ndr⟩:=b;obtain⟨⟨dxl,l1⟩,l2,l3⟩:=id c;refine⟨⟨dx,v,hn _ hp _ a1,a2.keepI k⟩,⟨⟨dxr,kvr,k.2 _ _ _ _ r1,hn _ hdr _ r2,r3.mono k.1.2⟩,ndr⟩,c.keep (fun o e=>?_) (hn _ hlr) (hn _ hld) k.1.2,⟨kvs0,hn _ hda _ d1,d2⟩,⟨vs,hn _ hls _ f1,f2.keepI k⟩,⟨us,hn _ hlt _ g1,g2.keepI k⟩,nd,np⟩;rw[l1] at e;cases e;exact k.2 _ _ _ _ l1
theorem FrN.dictW{A:SAd}{H:Hp}{d:Addr}{kvs kvs':List (Key×V)}(hd:H d=#[a,.dK,kvs]){b:Addr}{o:HO}(e:H b=some o)(h:∀ k,o≠.dK k):upd H d (.dK kvs') b=some o:=by
 rw[Zi (Yw e hd (by intro z;exact h _ z))];exact e
theorem Rk.dictW{K:Frag}{A:SAd}{H:Hp}{d b:Addr}{kvs kvs':List (Key×V)}{xs:#[b]}(h:Rk K A H b xs)(hd:H d=#[a,.dK,kvs]):Rk K A (upd H d (.dK kvs')) b xs:=by
 rcases h with ⟨h|⟨o,h⟩,n⟩|h
 ·exact .inl ⟨.inl (FrN.dictW (A:=A) hd h (by intro k z;cases z)),n⟩
 ·exact .inl ⟨.inr ⟨o,FrN.dictW (A:=A) hd h (by intro k z;cases z)⟩,n⟩
 ·exact .inr h
theorem Mc.dictW{A:SAd}{H:Hp}{d t lc ln:Addr}{cs nu:List Int}{kvs kvs':List (Key×V)}(h:Mc A H t lc ln cs nu)(hd:H d=#[a,.dK,kvs]):Mc A (upd H d (.dK kvs')) t lc ln cs nu:=by
 have k:=Xi.dict hd (kvs':=kvs');obtain⟨⟨a1,a2,a3,a4,a5,a6,a7,a8,a9⟩,o⟩:=h;exact⟨⟨k.2 _ _ a1,k.1 _ _ a2,k.1 _ _ a3,a4,a5,a6,a7,a8,a9⟩,o⟩
theorem Au(FP:Yk rows gs)(T:Vv rows gs):Bv rows gs:=fun p hp q k hw hf=>by
 obtain⟨S,h1,h2⟩:=T p hp;have hS:S q:=by
  clear hf
  induction hw with
  | nil=>exact h1
  | snoc w a ih =>
    obtain⟨⟨r,e1,e2⟩,e3⟩:=a;obtain⟨q',_,e4,e5⟩:=(h2 _ ih).2 r e1 _ e2;rw[FP.inj _ _ _ e3 e4];exact e5
 obtain⟨n,⟨r,e1,e2⟩,e3⟩:=hf;obtain⟨q',_,e4,_⟩:=(h2 q hS).2 r e1 n e2;exact e3 q' e4
theorem Av(F:Yk rows gs)(n:Int):(List.range gs.length).filter (fun k=>decide (gs[k]?=#[e,n]))=(X2 gs n).toList:=by
 cases hp:X2 gs n with
 | none =>
   rw[Option.toList_none,List.filter_eq_nil_iff];intro k hk;rcases Kk gs n with z|⟨i,z,_⟩
   ·have:=z.2 k
    simpa using this
   ·rw[hp] at z;cases z
 | some p =>
   have hx:=R4 hp;have:(fun k=>decide (gs[k]?=#[a,V.int,n]))=fun k=>decide (k=p):=by
    funext k
    apply decide_eq_decide.mpr;exact⟨fun h=>F.inj k p n h hx,fun h=>by rw[h];exact hx⟩
   rw[this,Option.toList_some];have hlt:=(zu4.mp hx).1;generalize gs.length=m at hlt;clear this hx hp
   induction m with
   | zero=>omega
   | succ m ih =>
     rw[List.range_succ,zwi];by_cases e:p=m
     ·subst e;have:(List.range p).filter (fun k=>decide (k=p))=[]:=by
       rw[List.filter_eq_nil_iff];intro k hk;have:=zv9.mp hk;simp;omega
      rw[this];simp
     ·rw[ih ⋯];have:¬ m=p:=fun z=>e z.symm;simp[this]
end G
namespace L2
open PySem PySem.Spec PyProof.Rows
theorem fnS(a:sc.kind=.function:=by rfl)(b:sc.isCoroutine=false:=by rfl)(c:sc.isGenerator=false:=by rfl)(d:N.Nodup:=by decide +kernel)(e:N.take P.length=P:=by rfl)(f:∀ x∈P,sc.names.lookup x=some .local\/sc.names.lookup x=some .cell:=by decide +kernel)(g:∀ y∈sc.names,y.2≠.free:=by decide +kernel):Zl N P sc:=⟨a,b,c,d,e,f,g⟩
section
variable{X:Cx}{k j:Nat}{C:Addr}{ps:List Str}{sp:Sp}{E:XK}{x m:Str}{p pos pos' apos:Pos}{e o a b:Expr}{es:List Expr}{ta tb te:TE}{t:TA}{r:R2}
theorem pS(i:Nat)(hN:X.N.Nodup)(he:PE X e te)(hi:X.N[i]?=some x:=by rfl)(hx:Loc X.env.scope x:=by first|exact Or.inl rfl|exact Or.inr rfl)(hs:swapsWith e (some (.Name x pos')) pos.line X.env=pure false:=by rfl)(hf:zac X i x:=by first|exact⟨.inl rfl,Ws⟩|exact⟨.inr rfl,Ws⟩|assumption|exact⟨.inl rfl,by assumption⟩|exact⟨.inr rfl,by assumption⟩) :
  PS X (.Assign [.Name x pos'] e pos) (zcy te (Wl i)):=zix hN hi hx he hs hf
theorem pN(i:Nat)(hN:X.N.Nodup)(hi:X.N[i]?=some x:=by rfl)(hx:Loc X.env.scope x:=by first|exact Or.inl rfl|exact Or.inr rfl)(hf:zac X i x:=by first|exact⟨.inl rfl,Ws⟩|exact⟨.inr rfl,Ws⟩|assumption|exact⟨.inl rfl,by assumption⟩|exact⟨.inr rfl,by assumption⟩):PG X (.Name x pos) (Wl i):=Vr hN hi hx hf
theorem pI(hr:IxR X r)(ha:PE X a ta)(hb:PE X b tb)(hs:zb2 b:=by exact fun _ _=>rfl):PE X (.Subscript a b pos) (tOp r ta tb):=zkw hr ha hb hs
theorem pD(hu:X.A.units+1<cLine)(ho:PE X a ta)(hi:PE X b tb)(hs:zi3 b:=by exact fun _ _=>rfl):PE X (.Subscript a b pos) (zia ta tb):=zhb hu ho hi hs
theorem pF(D:Z4 X.prog X.w X.K X.mg X.base x k ps sp)(hr:W6 j X.A)(ha:PA X (e :: es) t)(hk:k<=j:=by decide)(hx:W2 (CX1 X.prog X.w) X E:=by exact Zk)(hg:Gl X x:=by rfl)(hdb:(x == ("__debug__":Str))=false:=by decide)
  (he:starEach (e :: es) X.env=(false,eval e X.env) :: starEach es X.env:=by rfl) (hpl:(backTo pos (starEach es X.env)).any (·.1)=false:=by rfl):PE X (.Call (.Name x p) (e :: es) [] pos) (ze2 sp [] E t):=zb5 D (hr.mono hk) hx hg ha hdb he hpl
theorem iL(K:Frag)(h:X.K=K:=by rfl):IxR X (G6 K):=zfo h
theorem iU(K:Frag)(h:X.K=K:=by rfl):IxR X (zjc K):=zhl h
theorem cL(K:Frag)(h:X.K=K:=by rfl):Vs X (.builtin "len") (fun xs H Q=>∃ p ys,xs=[.ref p]/\(SqL K H p ys\/SqT K H p ys)/\Q (.int ys.length) H):=Fc h
end
theorem cT(ys:List Str)(js:List Nat)(a:closureFor scope X.env=pure cl:=by rfl)(b:scope.kind=.function:=by rfl)(c:∀ y∈scope.names,y.2=.local->scope.names.lookup y.1=some .local:=by decide +kernel)(d:∀ y∈scope.names,y.2≠.cell:=by decide +kernel)(e:scope.names.lookup x=some .local:=by rfl)(f:(x :: ys).Nodup:=by decide +kernel)(g:js.map (X.N[·]?)=ys.map some:=by rfl)
  (h:Fb (fun y=>X.env.kindOf y=some .cell/\(relabel scope X.env).names.lookup y=some .cell/\cl.lookup y=X.env.cells.lookup y) ys:=by repeat' (first|exact True.intro|apply And.intro|rfl)) (i:Fb (fun p=>X.env.cells.lookup p.1=some p.2) cl:=by repeat' (first|exact True.intro|apply And.intro|rfl)) (j:∀ y∈scope.names,y.2=.free->y.1∈ys:=by decide +kernel):zb4 X x scope cl ys js:=⟨a,b,c,d,e,f,g,h,i,j⟩
abbrev LkF(K:Frag)(f:Addr)(x q:Str)(st:Stmt)(oc kV dc pm cd ct:Value)(od an:Option Addr)(sl:Array (Option Value)):Prop:=K.lookup f=some ⟨oc,od,.func (PySem.W.fnOf x q (T9 st) (Zv st) (Zj st) .none kV dc pm an cd ct),sl⟩
abbrev NsB(K:Frag)(x:Str)(f:Addr):Prop:=PySem.W.nsIn K mainGlobals x=some #[c,f]
abbrev FdB(K:Frag)(c:Addr)(x:Str)(f:Addr):Prop:=PySem.W.findIn K (.ref c) x=some #[c,f]
abbrev BnA(x q:Str)(st:Stmt)(ps:List Str):Prop:=∀ (kV doc pm:Value) (an:Option Addr) (cdv ct:Value) (us:List Value),us.length=ps.length->bindArgs (PySem.W.fnOf x q (T9 st) (Zv st) (Zj st) .none kV doc pm an cdv ct) ⟨us,[]⟩=pure (ps.zip us)
abbrev BnE(x q:Str)(st:Stmt)(ps:List Str)(us:List Value):Prop:=∀ (kV doc pm:Value) (an:Option Addr) (cdv ct:Value),bindArgs (PySem.W.fnOf x q (T9 st) (Zv st) (Zj st) .none kV doc pm an cdv ct) ⟨us,[]⟩=pure (ps.zip us)
section
variable{x q a b c d e g:Str}{st:Stmt}
theorem bn1(h:∀ u,BnE x q st [a] [u]:=by intros _ _ _ _ _ _ _;rfl):BnA x q st [a]:=fun _ _ _ _ _ _ us hl=>match us,hl with|[_],_=>h _ _ _ _ _ _ _
theorem bn2(h:∀ u v,BnE x q st [a,b] [u,v]:=by intros _ _ _ _ _ _ _ _;rfl):BnA x q st [a,b]:=fun _ _ _ _ _ _ us hl=>match us,hl with|[_,_],_=>h _ _ _ _ _ _ _ _
theorem bn3(h:∀ u v w,BnE x q st [a,b,c] [u,v,w]:=by intros _ _ _ _ _ _ _ _ _;rfl):BnA x q st [a,b,c]:=fun _ _ _ _ _ _ us hl=>match us,hl with|[_,_,_],_=>h _ _ _ _ _ _ _ _ _
theorem bn4(h:∀ u v w y,BnE x q st [a,b,c,d] [u,v,w,y]:=by intros _ _ _ _ _ _ _ _ _ _;rfl):BnA x q st [a,b,c,d]:=fun _ _ _ _ _ _ us hl=>match us,hl with|[_,_,_,_],_=>h _ _ _ _ _ _ _ _ _ _
theorem bn5(h:∀ u v w y z,BnE x q st [a,b,c,d,e] [u,v,w,y,z]:=by intros _ _ _ _ _ _ _ _ _ _ _;rfl):BnA x q st [a,b,c,d,e]:=fun _ _ _ _ _ _ us hl=>match us,hl with|[_,_,_,_,_],_=>h _ _ _ _ _ _ _ _ _ _ _
end
section
variable{K:Frag}{mg:Str->Option Value}{x y q m:Str}{k:Nat}{ps:List Str}{sp:Sp}{C:Addr}{st:Stmt}{f:Addr}{fd:FuncData}
theorem dMk(P:Program)(w:World)(base:Heap)(F:#[f,x,q,st])(ok:FnOk P w K mg base (CX1 P w) k f fd ps sp)(b:mg y=#[a,.ref,f])(hb:BnA x q st ps:=by first|exact bn1|exact bn2|exact bn3|exact bn4|exact bn5):Z4 P w K mg base y k ps sp:=⟨f,fd,ok,b,F.kp,F.binds hb⟩
theorem mMk(P:Program)(w:World)(base:Heap)(F:#[f,x,q,st])(ok:FnOk P w K mg base (CX1 P w) k f fd ps sp)(b:ze1 K C m f)(hb:BnA x q st ps:=by first|exact bn1|exact bn2|exact bn3|exact bn4|exact bn5):Zs P w K mg base C m k ps sp:=⟨f,fd,ok,b,F.binds hb⟩
theorem nMk(P:Program)(w:World)(base:Heap)(F:#[f,x,q,st])(ok:FnOk P w K mg base (CX1 P w) k f fd ps sp)(b:Mk K C f)(c:mg y=#[a,.ref,C])(hb:BnA x q st ps:=by first|exact bn1|exact bn2|exact bn3|exact bn4|exact bn5):Sn P w K mg base y C k ps sp:=⟨f,fd,ok,b,c,F.binds hb⟩
end
structure LN(K:Frag)(x q:Str)(st:Stmt)(f:Addr)(oc kV dc pm cd ct:Value)(od an:Option Addr)(sl:Array (Option Value)):Prop where
 b:NsB K x f
 l:LkF K f x q st oc kV dc pm cd ct od an sl
 c:PySem.W.codeIn K cd q=true
 k:PySem.W.keepIn K (.ref f)=true
structure LM(K:Frag)(C:Addr)(x q:Str)(st:Stmt)(f:Addr)(oc kV dc pm cd ct:Value)(od an:Option Addr)(sl:Array (Option Value)):Prop where
 b:FdB K C x f
 l:LkF K f x q st oc kV dc pm cd ct od an sl
 c:PySem.W.codeIn K cd q=true
 k:PySem.W.keepIn K (.ref f)=true
 i:PySem.W.isFn K (.ref f)=true
abbrev XcB(K:Frag)(c:Addr):Prop:=PySem.W.excIn K c [.type "ValueError",.type "Exception",.type "BaseException",.type "object"] "ValueError.__new__"=true
abbrev NzB(K:Frag)(x:Str):Prop:=PySem.W.nsIn K mainGlobals x=some none
structure XG(P:Program)(w:World)(base:Heap)(K:Frag)(mg:Str->Option Value)(h:Heap):Prop where
 X:K.In h
 G:h.Ns mainGlobals mg
section
variable{P:Program}{w:World}{base h:Heap}{K:Frag}{mg:Str->Option Value}{x y q:Str}{k:Nat}{ps:List Str}{sp:Sp}{C:Addr}{st:Stmt}{f:Addr}{oc kV dc pm cd ct:Value}{od an:Option Addr}{sl:Array (Option Value)}
theorem dN(Z:XG P w base K mg h)(l:LN K x q st f oc kV dc pm cd ct od an sl)(ok:∀ {fd},#[f,x,q,st]->FnOk P w K mg base (CX1 P w) k f fd ps sp)(hb:BnA x q st ps:=by first|exact bn1|exact bn2|exact bn3|exact bn4|exact bn5):Z4 P w K mg base x k ps sp :=
 dMk P w base (Ox l.l l.c l.k) (ok (Ox l.l l.c l.k)) (PySem.W.mg_of Z.X Z.G l.b) hb
theorem mM(_:XG P w base K mg h)(l:LM K C x q st f oc kV dc pm cd ct od an sl)(ok:∀ {fd},#[f,x,q,st]->FnOk P w K mg base (CX1 P w) k f fd ps sp)(hb:BnA x q st ps:=by first|exact bn1|exact bn2|exact bn3|exact bn4|exact bn5):Zs P w K mg base C x k ps sp :=
 mMk P w base (Ox l.l l.c l.k) (ok (Ox l.l l.c l.k)) ⟨l.b,l.i,l.k⟩ hb
theorem nM(Z:XG P w base K mg h)(l:LM K C "__init__" q st f oc kV dc pm cd ct od an sl)(m:PySem.W.makesIn K C=true)(kc:PySem.W.keepIn K (.ref C)=true)(c:PySem.W.nsIn K mainGlobals y=some #[c,C])(ok:∀ {fd},#[f,"__init__",q,st]->FnOk P w K mg base (CX1 P w) k f fd ps sp)(hb:BnA "__init__" q st ps:=by first|exact bn1|exact bn2|exact bn3|exact bn4|exact bn5):Sn P w K mg base y C k ps sp :=
 nMk P w base (Ox l.l l.c l.k) (ok (Ox l.l l.c l.k)) ⟨m,l.b,l.i,kc⟩ (PySem.W.mg_of Z.X Z.G c) hb
end
section
variable{X:Cx}{elt iter:Expr}{x:Str}{px pos:Pos}{ifs:List Expr}{scope:Scope}{cl:List (Str×Addr)}{ys:List Str}{js:List Nat}
theorem Ho{pins:#[h]}{σ:St}{H:Hp}{s:Shared}{tt:TT}{te:TE}{it:Addr}{fp:List Addr}{tn:Nat->Heap->Prop}{J:It}{W:Nat->Nat->#[b]->Hp->Prop}{m0:Nat}{Q:VK}{E:Value->Shared->Prop}{RR:Value->Addr->Result->Shared->Prop}
  (hcm:X.calm=true) (c:zb4 X x scope cl ys js) (ht:∀ pn s₀ H₀ fp C,PTs (Y0 X pn (x :: ys) scope cl s₀ H₀ fp C) ifs tt) (hgt:∀ pn s₀ H₀ fp C,PG (Y0 X pn (x :: ys) scope cl s₀ H₀ fp C) (.Name x px) (Wl 0)) (he:∀ pn s₀ H₀ fp C,PE (Y0 X pn (x :: ys) scope cl s₀ H₀ fp C) elt te)
  (I:#[d]) (T:C2 X.prog X.w X.K (.Name x px) J fp it tn) (st0:tn 0 s.heap) (hf:∀ b∈fp,FpOk X pins H b) (w0:W 0 m0 [] H)
  (turn:∀ i m ys H,W i m ys H->(J.stop i H/\ys.length<=sizeLine/\∀ p,H p=none->Q (.ref p) (upd H p (.lst ys))) \/
   (J.go i H/\ys.length<sizeLine/\∃ N:#[b]->Hp->Prop,(∀ ys' H',N ys' H'->∃ m',m' < m/\W (i+1) m' ys' H')/\∀ x H',J.yld i H x H'->tt (cs js σ x) H' fun b H2=>if b=true then te (cs js σ x) H2 fun y H3=>N (ys++[y]) H3 else N ys H2))
  (hRR:∀ D C s' m,s'.heap.Ns C m->(∀ h',Heap.SameBut C s'.heap h'->∃ H',Inv X pins σ H' { s' with heap:=h' }/\Q (.ref D) H')->(∃ H',Inv X pins σ H' s'/\Q (.ref D) H'/\H' C=none)->s.heap.objs.size<=C->RR (.ref D) C (.ok .next) s') :
  wpAny (model X.prog X.w) X.A (newList []) (fun acc s₃=>wpAny (model X.prog X.w) X.A (newFunctionEnv scope X.env.globals cl [] X.env.qual none .none (some X.env)) (fun cenv s₄ =>
   codeAny (model X.prog X.w) X.A (.compStart (.ListComp elt [⟨.Name x px,iter,ifs,0⟩] scope pos) 0 (.ref it) acc { cenv with scope:=relabel scope X.env }) (RR acc cenv.locals) s₄) E s₃) E s :=
 Ii (xo:=[x]) (g:=Wl 0) hcm ⟨c.clos,c.kind,c.names,c.nocell,c.at_,c.free,c.only,c.vis⟩ ht hgt he I T st0 hf w0 (fun i m ys H w=>(turn i m ys H w).imp id fun ⟨a,b,N,n1,n2⟩=>⟨a,b,N,n1,fun y H' hy=>⟨⟨[some y],rfl,rfl⟩,n2 y H' hy⟩⟩) hRR
variable{wi:TI}{tt:TT}{te:TE}
theorem W7(hcm:X.calm=true)(c:zb4 X x scope cl ys js)(hi:PI X (.Name x px) iter wi)(ht:∀ pn s₀ H₀ fp C,PTs (Y0 X pn (x :: ys) scope cl s₀ H₀ fp C) ifs tt)(he:∀ pn s₀ H₀ fp C,PE (Y0 X pn (x :: ys) scope cl s₀ H₀ fp C) elt te)
  (hx:∀ C,(compEnvC scope cl C X.env).scope.names.lookup x=some .local:=by intro _;rfl) (hs:∀ x,foldedSetIterable iter X.env x=pure x:=by intro _;rfl):PE X (.ListComp elt [⟨.Name x px,iter,ifs,0⟩] scope pos) (zif wi js tt te):=by
 intro pins s σ H Q I h;rw[eval_ListComp];refine wpAny_comprehension_free (use:=none) rfl hs c.clos c.kind c.names (thn (hi pins s σ H _ I h) fun v s1 h1=>thn h1 fun itv s2 h2=>?_);obtain⟨it,fp,tn,J,H2,e,I2,T,st2,f2,W,⟨m0,w0⟩,turn⟩:=h2;subst e;exact Ho (RR:=fun acc C=>compPost (model X.prog X.w) X.A X.xe none (EP X pins σ Q) acc C) hcm c ht (fun _ _ _ _ C=>Vr (X:=Y0 X _ (x :: ys) scope cl _ _ _ C) c.nd rfl (.inl (hx C)) ⟨.inr (hx C),Ws⟩) he I2 T st2 f2 w0 turn fun D C s' m hn hS _ _=>⟨m,hn,fun h' hs'=>let ⟨H',I',q⟩:=hS h' hs';⟨.ref D,H',I',rfl,q⟩⟩
theorem Vp{y:Str}{py spos:Pos}{i:Nat}(hN:X.N.Nodup)(hy:X.N[i]?=some y)(hk:X.env.scope.names.lookup y=some .local)(hcm:X.calm=true)(c:zb4 X x scope cl ys js)(hi:PI X (.Name x px) iter wi)(ht:∀ pn s₀ H₀ fp C,PTs (Y0 X pn (x :: ys) scope cl s₀ H₀ fp C) ifs tt)
  (he:∀ pn s₀ H₀ fp C,PE (Y0 X pn (x :: ys) scope cl s₀ H₀ fp C) elt te)
  (hx:∀ C,(compEnvC scope cl C X.env).scope.names.lookup x=some .local:=by intro _;rfl) (hsw:swapsWith (.ListComp elt [⟨.Name x px,iter,ifs,0⟩] scope pos) (some (.Name y py)) spos.line X.env=pure true:=by rfl) (hs:∀ x,foldedSetIterable iter X.env x=pure x:=by intro _;rfl)
  (hf:zac X i y:=by first|exact⟨.inr rfl,Ws⟩|assumption|exact⟨.inr rfl,by assumption⟩) :
  PS X (.Assign [.Name y py] (.ListComp elt [⟨.Name x px,iter,ifs,0⟩] scope pos) spos) (zcy (zif wi js tt te) (Wl i)):=by
 intro pins s σ H D0 I h;rw[exec_Assign_Name_used _ _ _ _ hsw];refine wpAny_bind (wpAny_standAt (wpAny_bind ?_));show wpAny _ X.A (do let _ <- comprehension (.ListComp elt [⟨.Name x px,iter,ifs,0⟩] scope pos) scope X.env _ (newList []) false (eval iter X.env) (some (assign (.Name y py) X.env))) _ _ s;refine wpAny_bind (wpAny_mono (wpAny_comprehension_free (use:=some (assign (.Name y py) X.env)) (Q:=fun _ s'=>SP X pins D0 .next s') rfl hs c.clos c.kind c.names
  (thn (hi pins s σ H _ I h) fun v s1 h1=>thn h1 fun itv s2 h2=>?_)) (fun _ s' hq=>wpAny_pure (wpAny_pure hq)) fun _ _ e=>e)
 obtain⟨it,fp,tn,J,H2,e,I2,T,st2,f2,W,⟨m0,w0⟩,turn⟩:=h2;subst e;refine Ho (Q:=fun x H1=>D0.nx (σ.set i (some x)) H1) (RR:=fun acc C=>compPost (model X.prog X.w) X.A X.xe (some (assign (.Name y py) X.env)) (fun _ s'=>SP X pins D0 .next s') acc C) hcm c ht (fun _ _ _ _ C=>Vr (X:=Y0 X _ (x :: ys) scope cl _ _ _ C) c.nd rfl (.inl (hx C)) ⟨.inr (hx C),Ws⟩) he I2 T st2 f2 w0 turn fun D C s' m hn _ hS hC=>?_;obtain⟨H',I',q,fC⟩:=hS;show wpAny _ X.A (assign (.Name y py) X.env (.ref D)) _ _ _;have ltC:∀ b o,s2.heap.get? b=some o->b≠C:=fun b o e=>zvv (zvn (Heap.lt_size e) hC);have neL:C≠X.env.locals:=by
  obtain⟨_,⟨o,_,_,ho,_⟩,_⟩:=I2.loc;exact Ne.symm (ltC _ o ho)
 have neK:∀ z a,X.env.cells.lookup z=some a->a≠C:=fun z a e=>by
  obtain⟨_,o,ho,_⟩:=I2.cell z a e;exact ltC a o ho
 refine wpAny_assign_Name (Eb I' hN hy (.inl hk) (v:=.ref D) (show RelV (.ref D) (.ref D) from rfl) (fun s4 I4 ⟨a,hs4,ha⟩=>?_) hf);have naC:C≠a:=by
  rcases ha with ha|ha
  ·rw[ha];exact neL
  ·exact Ne.symm (neK _ _ ha)
 refine⟨m,hn.sameBut hs4 naC,fun h5 hs5=>⟨_,H',?_,q⟩⟩;refine I4.turned (t':=s4.toks) (it:=C) (fun b o hb e=>hs5.extBut b o hb e) fC neL (.inr (zvh I2.sz hC)) neK fun p hp=>?_;obtain⟨e,_⟩:=I2.pin p hp;exact ltC _ _ e
end
end L2
namespace G
open PySem PySem.Spec PyProof.Rows L2
def Kw:Rj->Str
 | .enrol _ _ _=>"enrol"
 | .away _ _=>"away"
 | .draw _=>"draw up"
 | .close=>"close"
 | .back=>"take back"
theorem Wv.word(h:Wv ok H t D):∃ r,H t=#[a,.tup,.str (Kw D) :: r]:=by
 cases D with
 | enrol a b c=>exact⟨_,h⟩
 | away a b=>exact⟨_,h⟩
 | draw ms=>obtain⟨l,ts,a1,_⟩:=h;exact⟨_,a1⟩
 | close=>exact⟨_,h⟩
 | back=>exact⟨_,h⟩
inductive Hq(K:Frag)(vs:#[b])(H:Hp)(Q:VK)(_:XK):Prop where
 | mk(ok ok':Addr->Prop)(b c:Addr)(ts us:#[b])(G0:zgk)(_:vs=[.ref b,.ref c])(_:H b=#[a,.lst,ts])(_:H c=#[a,.lst,us])(_:Xz ok H ts G0)(_:Xz ok' H us G0)(_:G0.length<=1000)(_:(∀ x∈G0,x.2.length<=1000))(_:Q (.bl true) H)
theorem PgAt.setMoves(h:PgAt ok H d P)(hl:H l=#[a,.lst,ts])(gl:Xz ok H ts G0)(ol:ok l):∃ kvs,H d=#[a,.dK,kvs]/\kvs.length<sizeLine/\PgAt ok (upd H d (.dK (putK kvs (.inr "moves") (.ref l)))) d { P with mv:=G0 }:=by
 obtain⟨lp,lo,lv,dv,li,lg,lm,a1,a2,a3⟩:=h.split;refine⟨_,a1,zbb,?_⟩;rw[De];have b:=a2.keepL (.dict a1 (kvs':=pgF P.len P.rest lp lo lv dv li lg l));exact .join (P:={ P with mv:=G0 }) Zd ⟨b.pp,b.oo,b.vv,b.dd,b.li,b.gg,_,(Xi.dict a1).1 _ _ hl,gl.keepL (.dict a1),ol⟩ a3
theorem RelB.setGv(h:RelB mb P S)(gv:#[b]):RelB mb { P with gv:=gv } S:=⟨h.len,h.rest,h.ppl,h.out,h.over,h.lis⟩
theorem RelB.setMv(h:RelB mb P S)(mv:zgk):RelB mb { P with mv:=mv } S:=⟨h.len,h.rest,h.ppl,h.out,h.over,h.lis⟩
theorem Nd.setGoes(h:Nd mb ok H nu n ds d P S)(hl:H l=#[a,.lst,xs])(ol:ok l):∃ kvs,H d=#[a,.dK,kvs]/\kvs.length<sizeLine/\Nd mb ok (upd H d (.dK (putK kvs (.inr "goes") (.ref l)))) nu n ds d { P with gv:=xs } S:=by
 obtain⟨kvs,a1,a2,a3⟩:=h.pg.setGoes hl ol;refine⟨kvs,a1,a2,a3,h.rb.setGv xs,h.so,?_⟩;obtain⟨nd,e|⟨S0,b,r⟩⟩:=h.tl
 ·exact⟨nd,.inl e⟩
 ·exact⟨nd,.inr ⟨S0,b.other a1 nd,r⟩⟩
theorem Nd.setMoves(h:Nd mb ok H nu n ds d P S)(hl:H l=#[a,.lst,ts])(gl:Xz ok H ts G0)(ol:ok l):∃ kvs,H d=#[a,.dK,kvs]/\kvs.length<sizeLine/\Nd mb ok (upd H d (.dK (putK kvs (.inr "moves") (.ref l)))) nu n ds d { P with mv:=G0 } S:=by
 obtain⟨kvs,a1,a2,a3⟩:=h.pg.setMoves hl gl ol;refine⟨kvs,a1,a2,a3,h.rb.setMv G0,h.so,?_⟩;obtain⟨nd,e|⟨S0,b,r⟩⟩:=h.tl
 ·exact⟨nd,.inl e⟩
 ·exact⟨nd,.inr ⟨S0,b.other a1 nd,r⟩⟩
end G
namespace G
open PySem PySem.Spec PyProof.Rows L2
inductive RwL(H:Hp):List Addr->List (List Row)->Prop where
 | nil:RwL H [] []
 | cons {l:Addr} {ls:List Addr} {ts:#[b]} {rs:List Row} {Rs:List (List Row)} (h:H l=#[a,.lst,ts]) (t:Z9 H ts (rs.map row4)) (n:RwL H ls Rs):RwL H (l :: ls) (rs :: Rs)
theorem RwL.same(e:Same H H'):∀ {ls:List Addr} {Rs:List (List Row)},RwL H ls Rs->RwL H' ls Rs
 | _,_,.nil=>.nil
 | _,_,.cons h t n=>.cons (e _ _ h) (t.same e) (RwL.same e n)
theorem RwL.length:∀ {ls:List Addr} {Rs:List (List Row)},RwL H ls Rs->ls.length=Rs.length
 | _,_,.nil=>rfl
 | _,_,.cons _ _ n=>by simp[RwL.length n]
theorem RwL.snoc(h:H l=#[a,.lst,ts])(t:Z9 H ts (rs.map row4)):∀ {ls:List Addr} {Rs:List (List Row)},RwL H ls Rs->RwL H (ls++[l]) (Rs++[rs])
 | _,_,.nil=>.cons h t .nil
 | _,_,.cons h' t' n=>.cons h' t' (RwL.snoc h t n)
theorem RwL.getR:∀ {ls:List Addr} {Rs:List (List Row)} {i:Nat} {rs:List Row},RwL H ls Rs->Rs[i]?=some rs->∃ l ts,ls[i]?=some l/\H l=#[a,.lst,ts]/\Z9 H ts (rs.map row4)
 | _,_,_,_,.nil,e=>by simp at e
 | _,_,0,_,.cons h t n,e=>by simp at e;subst e;exact⟨_,_,rfl,h,t⟩
 | _,_,i+1,rs,.cons h t n,e=>by
   obtain⟨l,ts,h1,h2⟩:=RwL.getR (i:=i) (rs:=rs) n (by simpa using e);exact⟨l,ts,by simpa using h1,h2⟩
inductive Dg(ca:CA)(vs:#[b])(H:Hp)(Q:VK)(_:XK):Prop where
 | mk(A:SAd)(S:Sea)(_:vs=[.ref A.p])(_:Zy ca H A S)(_:S.led.length<=900)(_:∀ l ls H',H' l=some (.lst (ls.map V.ref))->RwL H' ls S.led->Same H H'->H l=none->(∀ x∈ls,H x=none)->Q (.ref l) H')
inductive Hr(K:Frag)(vs:#[b])(H:Hp)(Q:VK)(_:XK):Prop where
 | mk(ok:Addr->Prop)(l d:Addr)(ls:List Addr)(P:Pg)(_:vs=[.ref l,.ref d])(_:H l=some (.lst (ls.map V.ref)))(_:PgAt ok H d P)(_:Ld P)(_:RwL H ls (P.over.map Z5))(_:∀ H',Same H H'->Q (.bl true) H')
end G
namespace G
open PySem PySem.Spec PyProof.Rows L2
inductive Ref where
 | out|known|many|unk|manyM|same|noMatch|noRound|over|seaOver|away|drawn|notDrawn|nothing|manyD
 deriving DecidableEq
end G
namespace G
open PySem PySem.Spec PyProof.Rows L2
structure I21(r i:Nat)(noted:List Int)(S:Sea):Prop where
 len:S.len=r
 led:S.led=[]
 cur:S.cur=none
 old:S.old=[]
 std:∀ x∈S.std,x.2=none
 sl:S.std.length<=i
 ol:S.out.length<=i
 z:(noted=[]/\S.ppl=[]/\S.std=[]/\S.out=[])\/∃ ds,noted=0 :: ds/\S.ppl=[(5,5,5)]/\S.out=ds.map fun i=>(i,5)
 e:i<=10->noted=[]
end G
namespace G
open PySem PySem.Spec PyProof.Rows L2
structure ShOk(n:Nat)(s:Zz):Prop where
 ms:s.ms.length<=20
 ml:s.may.length=s.ms.length
 fi:Yk s.may s.gv
 st:Vv s.may s.gv
 mo:∃ nu,Ql s.may nu
 gp:s.gaps.length<=n/\∀ x∈s.gaps,x.2.length<=100
theorem ShOk.mono(h:ShOk n s)(e:n<=m):ShOk m s:=⟨h.ms,h.ml,h.fi,h.st,h.mo,zvh h.gp.1 e,h.gp.2⟩
theorem SOk.shOk(o:SOk nu n S)(h:S.cur=some s):ShOk n s:=by
 obtain⟨k1,k2,k3,k4,k5⟩:=o.cur s h;exact⟨k1,by rw[k4];unfold mayS;rw[zu2],k2,k3,⟨_,by rw[k4];exact o.pok.may o.nd k1⟩,o.gp s (.inl h)⟩
def Kx(n:Nat)(S:Sea):Prop:=∀ s∈S.old,ShOk n s
theorem Kx.mono(h:Kx n S)(e:n<=m):Kx m S:=fun s hs=>(h s hs).mono e
theorem zeb(o:SOk nu n S)(h:Kx n S)(af:Sg H S D S' v):Kx n S':=by
 cases af with
 | enrol k g c=>exact h
 | awayN hh hl=>exact h
 | awayF hh hp hl=>exact h
 | awayC hh hp hl tl CR=>exact h
 | draw hl F T=>exact h
 | close hc =>
   intro s hs;rcases zve.mp hs with z|z
   ·exact h s z
   ·rw[zu6.mp z];exact o.shOk hc
 | back hh ht hs =>
   obtain⟨d,a1,a2,a3,a4,a5,a6⟩:=hs;intro s hs';rw[<- a6] at hs';exact h s hs'
theorem Rl(h1:Yl i)(h2:S.old.length=S.led.length)(h3:1<=i/\i<=S.len)(h:Wg S i=some s)(hk:k s):Sf ca H S i E k:=by
 refine⟨h1,h2,?_⟩;rw[if_neg ⋯];exact⟨fun z=>(by rw[h] at z;cases z),fun s' hs=>(by rw[h] at hs;cases hs;exact hk)⟩
theorem zec{S:Sea}{j:Nat}{s:Zz}(h:S.old.length=S.led.length)(hs:S.old[j]?=some s):Wg S ((j:Int)+1)=some s:=by
 have hj:=(zu4.mp hs).1;unfold Wg;rw[if_pos ⋯,show (((j:Int)+1)-1).toNat=j by omega];exact hs
inductive Md(K:Frag)(ca:CA)(vs:#[b])(H:Hp)(Q:VK)(_:XK):Prop where
 | mk(ok:Addr->Prop)(A:SAd)(S:Sea)(i:Int)(t lp ll lg lm lw:Addr)(ts mts pts:#[b])(ls:List Addr)(sh:Zz)(_:vs=[.ref A.p,.int i,.ref t,.ref lp])(_:Zy ca H A S)(_:(Yl i/\S.old.length=S.led.length/\1<=i/\i<=S.len))(_:Wg S i=some sh)(_:H t=#[a,.tup,[.ref ll,.ref lg,.ref lm,.ref lw]])(_:H ll=#[a,.lst,ts])(_:Z9 H ts (sh.ms.map pV))(_:H lg=#[a,.lst,sh.gv])(_:H lm=#[a,.lst,mts])(_:Xz ok H mts sh.gaps)(_:H lw=some (.lst (ls.map V.ref)))(_:ILs H ls sh.may)(_:H lp=#[a,.lst,pts])(_:Z9 H pts (S.ppl.map pV))(_:Ri S)(_:ShOk 500 sh)(_:∀ H',Same H H'->Q (.bl true) H')
inductive Aw(K:Frag)(ca:CA)(vs:#[b])(H:Hp)(Q:VK)(_:XK):Prop where
 | mk(A:SAd)(S:Sea)(i:Int)(ln:Addr)(ns:List Int)(_:vs=[.ref A.p,.int i,.ref ln])(_:Zy ca H A S)(_:Yl i)(_:1<=i)(_:i<=S.led.length)(_:S.led.length<=S.len)(_:S.std=[])(_:S.cur=none)(_:Ri S)(_:S.out.length<=100000)(_:H ln=some (.lst (ns.map V.int)))(_:(∀ n∈ns,Yl n))(_:ns.length<=1000)(_:∀ H',Same H H'->Q (.bl true) H')
theorem Y9.all:∀ {vs:List V} {ss:List Zz} {i:Nat} {s:Zz},Y9 ok H vs ss->ss[i]?=some s->∃ (t l g m y:Addr) (ts mts:List V) (ls:List Addr),vs[i]?=#[c,t]/\H t=#[a,.tup,[.ref l,.ref g,.ref m,.ref y]]/\H l=#[a,.lst,ts]/\Z9 H ts (s.ms.map pV)/\H g=#[a,.lst,s.gv]/\H m=#[a,.lst,mts]/\Xz ok H mts s.gaps/\H y=some (.lst (ls.map V.ref))/\ILs H ls s.may
 | _,_,_,_,.nil,e=>by simp at e
 | _,_,0,_,.cons h hl tl hg hm gm hy iy o r,e=>by
   simp at e;subst e;exact⟨_,_,_,_,_,_,_,_,rfl,h,hl,tl,hg,hm,gm,hy,iy⟩
 | _,_,i+1,s,.cons _ _ _ _ _ _ _ _ _ r,e=>by
   obtain⟨t,l,g,m,y,ts,mts,ls,h1,h2⟩:=Y9.all (i:=i) (s:=s) r (by simpa using e);exact⟨t,l,g,m,y,ts,mts,ls,by simpa using h1,h2⟩
theorem RelB.overT(h:RelB true P S):P.over=S.old:=by
 have e:=h.over;have k:∀ l:List Zz,l.map (To true)=l:=fun l=>by
  rw[show To true=id from funext fun s=>rfl,List.map_id]
 rwa [k,k] at e
theorem zed(af:Sg H S D S' v):S'.len=S.len:=by
 cases af with
 | back h ht hs =>
   obtain⟨d,a1,a2,a3,a4⟩:=hs;exact a3.symm
 | _=>rfl
theorem zbk:decide (V.str (Kw D)=V.str "close")=match D with|.close=>true|_=>false:=by
 cases D with
 | close=>exact He
 | enrol n g c=>exact U9 (show decide (("enrol":Str)="close")=false by decide +kernel)
 | away i n=>exact U9 (show decide (("away":Str)="close")=false by decide +kernel)
 | draw ms=>exact U9 (show decide (("draw up":Str)="close")=false by decide +kernel)
 | back=>exact U9 ⋯
theorem Ax(h:D≠.close):decide (V.str (Kw D)=V.str "close")=false:=by
 rw[zbk];cases D<;>first|rfl|exact absurd rfl h
theorem zh5(re:Rel mb P S)(eP:D≠.back->P7=Vz P D)(eR:D=.back\/D=.close->(∀ s,S3.cur=some s->P7.gv=s.gv)/\(mb=true->P7.mv=Mb S3))(hno:P7.lis=none)(hcn:S3.cur=none)(h:mb=true):P7.mv=Mb S3:=by
 cases D with
 | back=>exact(eR (.inl rfl)).2 h
 | close=>exact(eR (.inr rfl)).2 h
 | draw ms=>rw[eP nofun] at hno;cases hno
 | enrol n g c =>
   rw[eP nofun] at hno ⊢;rw[Vg hcn];show P.mv=[];rw[re.mv h,Vg (re.b.undrawn hno)]
 | away i n =>
   rw[eP nofun] at hno ⊢;rw[Vg hcn];show P.mv=[];rw[re.mv h,Vg (re.b.undrawn hno)]
end G
namespace K36
open PySem PySem.Spec PyProof.Rows L2 G
def top(i:Nat):Stmt:=PySem.Challenge.pw_whistlebook_k36_whole_rounds_over_stay.main.body.getD i (.Pass ⟨0,0,0,0⟩)
structure Ad where
 zp5:Addr
 zmw:Addr
 zni:Addr
 zm2:Addr
 zm8:Addr
 zm7:Addr
 zos:Addr
 zoi:Addr
 zm9:Addr
 zmu:Addr
 zny:Addr
 znr:Addr
 zpl:Addr
 zow:Addr
 zme:Addr
 znh:Addr
 zl9:Addr
 zmd:Addr
 zmb:Addr
 zl7:Addr
abbrev ca(a:Ad):CA:=⟨a.zl7,a.zmb,a.zmd,a.zl9,a.zmw,a.zni,a.zm2,a.zm8,a.zm7,a.zos,a.zoi,a.zm9,a.zmu,a.zny,a.znr,a.zpl,a.zow,a.zme,a.znh⟩
structure Tx(K:Frag)(mg:Str->Option Value)(a:Ad):Prop where
 zmz:Cls K a.zl9
 zoc:X1 K a.zl9 "rounds"
 znx:X1 K a.zl9 "meetings"
 zmv:Cls K a.zmd
 znc:X1 K a.zmd "entries"
 zmj:Cls K a.zmb
 zoo:X1 K a.zmb "listed"
 zqr:X1 K a.zmb "lists"
 zod:X1 K a.zmb "given"
 zqm:X1 K a.zmb "gaps"
 zl8:Cls K a.zl7
 zpd:X1 K a.zl7 "length"
 zrl:X1 K a.zl7 "rest"
 znq:X1 K a.zl7 "roster"
 zns:X1 K a.zl7 "ledger"
 zoj:X1 K a.zl7 "absent"
 zpp:X1 K a.zl7 "sheets"
 zm4:X1 K a.zl7 "sheet"
 znj:X1 K a.zl7 "standing"
 zqu:Qx K mg "NoSuchRound" a.zm9
 zsj:Qx K mg "OutOfRange" a.zmw
 zrh:Qx K mg "TooManyMatches" a.zm7
 zso:Qx K mg "SameClub" a.zos
 zsc:Qx K mg "KnownReferee" a.zni
 zq6:Qx K mg "TooManyReferees" a.zm2
 zro:Qx K mg "UnknownReferee" a.zm8
 zsk:Qx K mg "SeasonOver" a.zny
 zsp:Qx K mg "DrawnUp" a.zpl
 zrz:Qx K mg "TooManyDeeds" a.znh
 zr0:Qx K mg "NotDrawn" a.zow
 zsm:Qx K mg "RoundOver" a.zmu
 zse:Qx K mg "AwayAlready" a.znr
 zqt:Qx K mg "NothingToTakeBack" a.zme
 zsd:mg "max"=none
 zmg:mg "len"=none
 zpt:mg "tuple"=none
 zno:mg "list"=none
 zog:mg "enumerate"=none
 zmx:mg "range"=none
 zph:mg "sorted"=none
 zsl:mg "zip"=none
 zmm:mg "isinstance"=none
 zsg:mg "int"=none
 zr6:mg "bool"=none
 zr3:mg "dict"=none
 zsf:mg "min"=none
 gc_BookError:mg "BookError"=#[a,.ref,a.zp5]
 gc_OutOfRange:mg "OutOfRange"=#[a,.ref,a.zmw]
 gc_KnownReferee:mg "KnownReferee"=#[a,.ref,a.zni]
 gc_TooManyReferees:mg "TooManyReferees"=#[a,.ref,a.zm2]
 gc_UnknownReferee:mg "UnknownReferee"=#[a,.ref,a.zm8]
 gc_TooManyMatches:mg "TooManyMatches"=#[a,.ref,a.zm7]
 gc_SameClub:mg "SameClub"=#[a,.ref,a.zos]
 gc_NoSuchMatch:mg "NoSuchMatch"=#[a,.ref,a.zoi]
 gc_NoSuchRound:mg "NoSuchRound"=#[a,.ref,a.zm9]
 zsi:mg "RoundOver"=#[a,.ref,a.zmu]
 gc_SeasonOver:mg "SeasonOver"=#[a,.ref,a.zny]
 gc_AwayAlready:mg "AwayAlready"=#[a,.ref,a.znr]
 gc_DrawnUp:mg "DrawnUp"=#[a,.ref,a.zpl]
 gc_NotDrawn:mg "NotDrawn"=#[a,.ref,a.zow]
 zqn:mg "NothingToTakeBack"=#[a,.ref,a.zme]
 gc_TooManyDeeds:mg "TooManyDeeds"=#[a,.ref,a.znh]
 gc_Ledger:mg "Ledger"=#[a,.ref,a.zl9]
 gc_Roster:mg "Roster"=#[a,.ref,a.zmd]
 gc_Sheet:mg "Sheet"=#[a,.ref,a.zmb]
 gc_Season:mg "Season"=#[a,.ref,a.zl7]
 zql:zb3 K a.zme
 zsh:zb3 K a.zmu
 zmy:PySem.W.mroIn K a.zmu (.ref a.zmu)=some true
 zmf:PySem.W.mroIn K a.zme (.ref a.zme)=some true
 zoa:∃ t,mg "MOST_NUMBER"=some (.int 999 t)
 zn6:∃ t,mg "MOST_GRADE"=some (.int 9 t)
 zn0:∃ t,mg "MOST_CLUB"=some (.int 99 t)
 znb:∃ t,mg "MOST_REFEREES"=some (.int 30 t)
 znp:∃ t,mg "MOST_MATCHES"=some (.int 20 t)
 zob:∃ t,mg "MOST_ROUNDS"=some (.int 60 t)
 zo1:∃ t,mg "MOST_REST"=some (.int 10 t)
 zn4:∃ t,mg "MOST_DEEDS"=some (.int 100 t)
end K36
set_option maxHeartbeats 64000000
namespace K36
open PySem PySem.Spec PyProof.Rows L2 G
local macro_rules | `(tactic| walk_at "rd")=>`(tactic| repeat (first|(refine⟨_,rfl,?_⟩)|(refine⟨_,_,rfl,rfl,?_⟩)|(refine And.intro (show CMul _ _ from Or.inr (And.intro (by decide) (by decide))) ?_)|(refine And.intro (show CMul _ _ from Or.inl (And.intro (by decide) (by decide))) ?_)|(refine And.intro (show CDiv _ _ from(And.intro (by decide) (by decide))) ?_)|(refine And.intro (show CPow _ _ from(And.intro (by decide) (And.intro (by decide) (by decide)))) ?_)|(refine And.intro (show (0:Int)<_ from(by decide)) ?_)))
local macro_rules | `(tactic| walk_at "if")=>`(tactic| dsimp only[Wl,List.set])
local macro_rules | `(tactic| walk_at "ar")=>`(tactic| (intro _ _ _ _ h;first|(cases h;subst_vars;rfl)|repeat (first|(obtain⟨h1,_⟩:=h;subst h1;rfl)|(obtain⟨_,h⟩:=h))))
section
variable{P:Program}{w:World}{K:Frag}{mg:Str->Option Value}{base:Heap}{a:Ad}{f:Addr}{fd:FuncData}
abbrev R6:Stmt:=top 2
theorem Oi:Zl ["number","club","ledger","rest","rested"] ["number","club","ledger","rest"] (Zj R6):=fnS
theorem Fh(F:#[f,"met_lately","met_lately",R6])(T:Tx K mg a)(zmi:Zs P w K mg base a.zl9 "over" 1 ["self"] (M4 a.zl9))(zp8:Zs P w K mg base a.zl9 "met" 1 ["self","number","club"] (zig a.zl9)):FnOk P w K mg base (CX1 P w) 2 f fd ["number","club","ledger","rest"] (Bo a.zl9):=by
 refine #[g,Oi];obtain⟨p,lr,ld,Rs,n,c,rest,rfl,LA,h⟩:=h;refine⟨_,(Zb (pS 4 Oi.nd (Zm (Ed rfl) (by rfl) T.zsd PyProof.Rows.boot_max (Za (Zu Sl (Yh (pv 2) T.zmz zmi (hr.mono ⋯) Zk) (pv 3)) (Za Zg Zc))))
 (Ze (Zn (U5 T8 (Yo (pv 2) T.zmz zp8 (hr.mono ⋯) Zk (Za (pv 0) (Za (pv 1) Zc))) (pv 4) (Zt _))))),?_⟩
 obtain⟨⟨dx,hp⟩,_,_⟩:=id LA;refine⟨_,rfl,p,dx,_,rfl,hp,Kj ⋯ ⋯,p,lr,ld,Rs,rfl,LA,_,rfl,_,_,rfl,rfl,_,_,rfl,?_⟩;refine⟨_,rfl,p,dx,_,rfl,hp,Kj ⋯ ⋯,_,rfl,_,rfl,p,lr,ld,Rs,n,c,rfl,LA,fun H' s'=>⟨_,rfl,_,_,rfl,rfl,h H' s'⟩⟩
abbrev Lh:Stmt:=top 3
theorem Ww:Zl ["referee","match","out","ledger","rest","number","grade","club","home","guest","asked","told"] ["referee","match","out","ledger","rest"] (Zj Lh):=fnS
theorem zbl(F:#[f,"reasons","reasons",Lh])(T:Tx K mg a)(zpa:Z4 P w K mg base "met_lately" 2 ["number","club","ledger","rest"] (Bo a.zl9)):FnOk P w K mg base (CX1 P w) 3 f fd ["referee","match","out","ledger","rest"] (Eu K a.zl9):=by
 refine #[g,Ww];obtain⟨t1,t2,p,lr,ld,Rs,n,g,c,h,gu,d,rest,o,rfl,h1,h2,LA,hq⟩:=h;refine⟨_,(Zb (pS 5 Ww.nd (pI (iU K) (pv 0) Zg))
 (Zb (pS 6 Ww.nd (pI (iU K) (pv 0) Zg))
 (Zb (pS 7 Ww.nd (pI (iU K) (pv 0) Zg))
 (Zb (pS 8 Ww.nd (pI (iU K) (pv 1) Zg))
 (Zb (pS 9 Ww.nd (pI (iU K) (pv 1) Zg))
 (Zb (pS 10 Ww.nd (pI (iU K) (pv 1) Zg))
 (Zb (pS 11 Ww.nd (Ya Zc))
 (Zb (Z3 (Yr (pv 2))
  (Ze (Y4 (pv 11) Zq))
  Zp)
 (Zb (Z3 (Zo T8 (pv 10) (pv 6) (Zt _))
  (Ze (Y4 (pv 11) Zq))
  Zp)
 (Zb (Z3 (PW.pt (Wk (Zo X8 (pv 7) (pv 8) (Zt _)) (Xs (Zo X8 (pv 7) (pv 9) (Zt _)))))
  (Ze (Y4 (pv 11) Zq))
  Zp)
 (Zb (Z3 (PW.pt (Wk (Yr (pF zpa hr (Za (pv 5) (Za (pv 8) (Za (pv 3) (Za (pv 4) Zc)))))) (Xs (Yr (pF zpa hr (Za (pv 5) (Za (pv 9) (Za (pv 3) (Za (pv 4) Zc)))))))))
  (Ze (Y4 (pv 11) Zq))
  Zp)
 (Ze (Zn (pv 11)))))))))))))),?_⟩
 show let y1:TS:=_;let y2:TS:=tSeq _ y1;let y3:TS:=tSeq _ y2;let y4:TS:=tSeq _ y3;let y5:TS:=tSeq _ y4;let y6:TS:=tSeq _ y5;let y7:TS:=tSeq _ y6;let y8:TS:=tSeq _ y7;let y9:TS:=tSeq _ y8;let y10:TS:=tSeq _ y9;let y11:TS:=tSeq _ y10;tSeq _ y11 _ _ _;intro y1 y2 y3 y4 y5 y6 y7 y8 y9 y10 y11;refine⟨_,rfl,t1,_,_,_,rfl,rfl,SqT.of h1,show atI [V.int n,V.int g,V.int c] 0=some _ from rfl,_,rfl,t1,_,_,_,rfl,rfl,SqT.of h1,show atI [V.int n,V.int g,V.int c] 1=some _ from rfl,_,rfl,t1,_,_,_,rfl,rfl,SqT.of h1,show atI [V.int n,V.int g,V.int c] 2=some _ from rfl,?_⟩;refine⟨_,rfl,t2,_,_,_,rfl,rfl,SqT.of h2,show atI [V.int h,V.int gu,V.int d] 0=some _ from rfl,_,rfl,t2,_,_,_,rfl,rfl,SqT.of h2,show atI [V.int h,V.int gu,V.int d] 1=some _ from rfl,_,rfl,t2,_,_,_,rfl,rfl,SqT.of h2,show atI [V.int h,V.int gu,V.int d] 2=some _ from rfl,?_⟩;refine⟨by show 0<=sizeLine;decide,fun l hl=>?_⟩;have s1:=Zf (o:=.lst []) hl;have q1:upd H l (.lst []) l=some (.lst (([]:List Str).map V.str)):=Zd;generalize upd H l (.lst [])=H1 at s1 q1;walk_at "if";have b1:=M6 o "away";have b2:=M6 (decide (g<d)) "grade";have b3:=M6 (decide (c=h)||decide (c=gu)) "club";refine Sb (b:=o) (H0:=H) (Rw fun Q q=>⟨_,rfl,_,rfl,q⟩) hl s1 q1 ⋯ rfl fun H2 s2 q2 _=>?_;rw[List.nil_append] at q2;refine Sb (b:=decide (g<d)) (H0:=H) (Rw fun Q q=>⟨_,rfl,_,rfl,_,_,rfl,rfl,_,rfl,q⟩) hl s2 q2 ⋯ rfl fun H3 s3 q3 _=>?_;refine Sb (b:=decide (c=h)||decide (c=gu)) (H0:=H) (Rw (Vu (fun Q q=>⟨_,rfl,_,rfl,rfl,_,rfl,Rf▸q⟩) fun Q q=>⟨_,rfl,_,rfl,rfl,_,rfl,Rf▸q⟩)) hl s3 q3 (by rw[zu5];omega) rfl fun H4 s4 q4 _=>?_;refine Sb (b:=Qk Rs n h rest||Qk Rs n gu rest) (H0:=H) (Bp (fun Q q=>⟨_,rfl,_,rfl,_,rfl,_,rfl,p,lr,ld,Rs,n,h,rest,rfl,LA.same s4,fun H5 s5=>⟨_,rfl,q H5 s5⟩⟩) fun H5 s5 Q q=>⟨_,rfl,_,rfl,_,rfl,_,rfl,p,lr,ld,Rs,n,gu,rest,rfl,LA.same (s4.trans s5),fun H6 s6=>⟨_,rfl,q H6 s6⟩⟩) hl s4 q4 (by rw[zu5,zu5];omega) rfl fun H5 s5 q5 _=>?_;refine⟨_,rfl,hq l H5 ?_ s5 hl⟩;unfold whyS;rw[q5,zwy,zwy]
abbrev V0:Stmt:=Z1 (top 23) 0
theorem Nf:Zl ["self"] ["self"] (Zj V0):=fnS
theorem Ng(F:#[f,"__init__","Ledger.__init__",V0])(T:Tx K mg a):FnOk P w K mg base (CX1 P w) 1 f fd ["self"] (zcc a.zl9):=by
 refine #[g,Nf];obtain⟨p,dx,rfl,hp,h⟩:=h;refine⟨_,(Zb (Xb (K:=K) rfl (pv 0) (Ya Zc) rfl)
 (Ze (Xb (K:=K) rfl (pv 0) J7 rfl))),?_⟩
 refine⟨by show 0<=sizeLine;decide,fun lr hlr=>?_⟩;have np:p≠lr:=Zh hp hlr;refine⟨_,rfl,p,a.zl9,dx,[],rfl,(by rw[Zi np];exact hp),T.zmz,T.zoc,⋯,?_⟩;intro ld hld;have n1:ld≠p:=fun z=>by rw[z,Zd] at hld;cases hld
 have n2:ld≠lr:=fun z=>by rw[z,Zi (Ne.symm np),Zd] at hld;cases hld
 have hld0:H ld=none:=by rw[Zi n1,Zi n2] at hld;exact hld
 refine⟨_,rfl,p,a.zl9,dx,[("rounds",.ref lr)],rfl,(by rw[Zi (Ne.symm n1),Zd];rfl),T.zmz,T.znx,(by show 1<1000;decide),?_⟩;rw[zk9];refine h lr ld _ ⟨⟨dx,Zd⟩,⟨[],?_,.nil⟩,⟨[],?_,fun n c=>rfl,zvw _⟩⟩ (fun b o e hb=>?_) hlr hld0 (Ne.symm n2)
 ·rw[Zi (Ne.symm np),Zi (Ne.symm n2),Zi (Ne.symm np),Zd]
 ·rw[Zi n1,Zd]
 ·rw[Zi hb,Zi (Zh e hld0),Zi hb,Zi (Zh e hlr)];exact e
abbrev Tp:Stmt:=Z1 (top 23) 1
theorem Xw:Zl ["self","rows","at","home","guest","grade","referee"] ["self","rows"] (Zj Tp):=fnS
theorem K5(F:#[f,"write","Ledger.write",Tp])(T:Tx K mg a):FnOk P w K mg base (CX1 P w) 1 f fd ["self","rows"] (B2 a.zl9):=by
 refine #[g,Xw];obtain⟨p,lr,ld,Rs,b,ts,rs,rfl,LA,hb,nb,tl,hl,hl2,h⟩:=h;have hu:=Wq hr;refine⟨_,(Zb (Y4 (Zr (K:=K) rfl (pv 0) rfl) (Xm (Ib (K:=K) rfl) (by rfl) T.zpt PyProof.Rows.boot_tuple (Za (pv 1) Zc)))
 (Zb (pS 2 Xw.nd (Zm (cL K) (by rfl) T.zmg PySem.boot_len (Za (Zr (K:=K) rfl (pv 0) rfl) Zc)))
 (Ze (Ys PassesOwn.leaving rfl (Yc (K:=K) rfl (pv 1)) (Xy (K:=K) (n:=4) rfl rfl (Zw (pN 3 Xw.nd) (Zw (pN 4 Xw.nd) (Zw (pN 5 Xw.nd) (Zw (pN 6 Xw.nd) Xx)))))
  (Ze (Z3 (Zo Ur (pv 6) Yx (Zt _))
   (Zb (Ym hu (Zr (K:=K) rfl (pv 0) rfl) (Yd (Za (pv 6) (Za (pv 3) Zc))) (pv 2) rfl)
   (Ze (Ym hu (Zr (K:=K) rfl (pv 0) rfl) (Yd (Za (pv 6) (Za (pv 4) Zc))) (pv 2) rfl)))
   Zp)))))),?_⟩
 obtain⟨⟨dx,hp⟩,⟨rr,hlr,rl⟩,⟨kvs,hd,mt,kl⟩⟩:=LA;have hlen:ts.length=rs.length:=by rw[tl.length,zu2]
 have nrd:lr≠ld:=Yw hlr hd (by intro z;cases z);have nrp:p≠lr:=Yw hp hlr (by intro z;cases z);have npd:p≠ld:=Yw hp hd (by intro z;cases z);have nbd:b≠ld:=Yw hb hd (by intro z;cases z);refine⟨_,rfl,p,a.zl9,dx,_,_,rfl,hp,T.zmz,T.zoc,Rg,lr,rr,rfl,hlr,_,rfl,b,ts,rfl,.inl ⟨SqL.of hb,fun t ht=>⟨rr,(by rw[Zi (Zh hlr ht)];exact hlr),Vm (by rw[rl.length];omega),?_⟩⟩⟩;have ntr:t≠lr:=Ne.symm (Zh hlr ht);have k1:∀ x o,H x=some o->x≠lr->upd (upd H t (.tup ts)) lr (.lst (rr++[.ref t])) x=some o:=fun x o e n=>by rw[Zi n,Zi (Zh e ht)];exact e
 have t1:∀ x xs,H x=#[a,.tup,xs]->upd (upd H t (.tup ts)) lr (.lst (rr++[.ref t])) x=#[a,.tup,xs]:=fun x xs e=>k1 x _ e (Yw e hlr (by intro z;cases z));have r1:upd (upd H t (.tup ts)) lr (.lst (rr++[.ref t])) lr=#[a,.lst,rr++[.ref t]]:=Zd;have rl1:Rv (upd (upd H t (.tup ts)) lr (.lst (rr++[.ref t]))) (rr++[.ref t]) (Rs++[rs]):=(rl.mono t1).snoc (by rw[Zi ntr,Zd]) (tl.mono t1);have tl1:=tl.mono t1;generalize upd (upd H t (.tup ts)) lr (.lst (rr++[.ref t]))=H1 at k1 t1 r1 rl1 tl1;have hp1:=k1 _ _ hp nrp;have hb1:=k1 _ _ hb nb;have hd1:=k1 _ _ hd (Ne.symm nrd);refine⟨_,rfl,p,a.zl9,dx,_,_,rfl,hp1,T.zmz,T.zoc,Rg,lr,_,rfl,.inl (SqL.of r1),?_⟩;have hN:(((rr++[V.ref t]).length:Nat):Int)=((Rs.length+1:Nat):Int):=by rw[zu5,rl.length];rfl
 rw[hN];refine⟨_,rfl,b,rfl,⟨_,SqL.of hb1⟩,Xn (K:=K) (a:=b) (xs:=ts) (fun i σ H'=>(∃ v1 v2 v3 v4,σ=[#[c,p],#[c,b],#[e,((Rs.length+1:Nat):Int)],v1,v2,v3,v4])/\(∀ x o,H1 x=some o->x≠ld->H' x=some o) /\
  ∃ kvs',H' ld=#[a,.dT,kvs']/\Bn kvs' (M5 Rs rs i)/\kvs'.length<=2*(tot Rs+i)) ⟨⟨_,_,_,_,rfl⟩,fun _ _ e _=>e,kvs,hd1,by rw[zdj];exact mt,by omega⟩ (fun i σ H' _ ⟨_,k,_⟩=>SqL.of (k _ _ hb1 nbd)) ?_ ?_⟩
 ·rintro i x σ H' hx ⟨⟨v1,v2,v3,v4,rfl⟩,k2,kvs',hd2,mt2,kl2⟩;obtain⟨tr,r,rfl,hr3,htr⟩:=zjq tl1 hx;have hi:i<rs.length:=(zu4.mp hr3).1;have htr2:=k2 _ _ htr (Yw htr hd1 (by intro z;cases z));refine⟨tr,_,rfl,SqT.of htr2,rfl,_,_,rfl,_,_,rfl,_,_,rfl,_,_,rfl,rfl,?_⟩;refine⟨_,rfl,rfl,_,rfl,?_⟩;cases hw:r.w with
  | none =>
    refine iteF ?_;exact⟨⟨_,_,_,_,rfl⟩,k2,kvs',hd2,by rw[zdk hr3 hw];exact mt2,by omega⟩
  | some w =>
    refine iteT ?_;have hp2:=k2 _ _ hp1 npd;refine⟨_,rfl,_,rfl,p,a.zl9,dx,_,_,rfl,hp2,T.zmz,T.znx,Q0,_,rfl,_,rfl,sz2,fun t2 ht2=>⟨ld,_,rfl,DPut.t (k:=[inl w,inl r.h]) (by rw[Zi (Zh hd2 ht2)];exact hd2) Zd ((Nat.lt_trans (zwr (show _<=200000 by omega) ⋯) Th)),?_⟩⟩;have k3:∀ x o,H1 x=some o->x≠ld->upd (upd H' t2 (.tup [oV (some w),.int r.h])) ld (.dT (putK kvs' [inl w,inl r.h] (.int ((Rs.length+1:Nat):Int)))) x=some o:=fun x o e n=>by
     have:=k2 x o e n;rw[Zi n,Zi (Zh this ht2)];exact this
    have hd3:upd (upd H' t2 (.tup [oV (some w),.int r.h])) ld (.dT (putK kvs' [inl w,inl r.h] (.int ((Rs.length+1:Nat):Int)))) ld=#[a,.dT,putK kvs' [inl w,inl r.h] (.int ((Rs.length+1:Nat):Int))]:=Zd;have l3:=Xk kvs' ([inl w,inl r.h]:List Key) (.int ((Rs.length+1:Nat):Int));generalize upd (upd H' t2 (.tup [oV (some w),.int r.h])) ld (.dT (putK kvs' [inl w,inl r.h] (.int ((Rs.length+1:Nat):Int))))=H3 at k3 hd3;have hp3:=k3 _ _ hp1 npd;refine⟨_,rfl,_,rfl,p,a.zl9,dx,_,_,rfl,hp3,T.zmz,T.znx,Q0,_,rfl,_,rfl,sz2,fun t4 ht4=>⟨ld,_,rfl,DPut.t (k:=[inl w,inl r.g]) (by rw[Zi (Zh hd3 ht4)];exact hd3) Zd ((Nat.lt_trans (zwr (show _<=200000 by omega) ⋯) Th)),?_⟩⟩;refine⟨⟨_,_,_,_,rfl⟩,fun x o e n=>?_,_,Zd,?_,?_⟩
    ·have:=k3 x o e n;rw[Zi n,Zi (Zh this ht4)];exact this
    ·rw[<- zdl hr3 hw];exact(mt2.put w r.h _ (Nat.succ_pos _)).put w r.g _ (Nat.succ_pos _)
    ·have:=Xk (putK kvs' ([inl w,inl r.h]:List Key) (.int ((Rs.length+1:Nat):Int))) ([inl w,inl r.g]:List Key) (.int ((Rs.length+1:Nat):Int));omega
 ·rintro σ H' ⟨⟨v1,v2,v3,v4,rfl⟩,k2,kvs',hd2,mt2,kl2⟩;rw[hlen] at mt2 kl2;rw[zfr] at mt2;refine h H' ⟨⟨dx,k2 _ _ hp1 npd⟩,⟨_,k2 _ _ r1 nrd,rl1.mono fun x xs e=>k2 _ _ e (Yw e hd1 (by intro z;cases z))⟩,kvs',hd2,mt2,by rw[zfq];exact kl2⟩ fun x o e n1 n2=>k2 x o (k1 x o e n1) n2
abbrev So:Stmt:=Z1 (top 23) 2
theorem Hs:Zl ["self"] ["self"] (Zj So):=fnS
theorem Hu(F:#[f,"over","Ledger.over",So])(T:Tx K mg a):FnOk P w K mg base (CX1 P w) 1 f fd ["self"] (M4 a.zl9):=by
 refine #[g,Hs];obtain⟨p,lr,ld,Rs,rfl,LA,h⟩:=h;refine⟨_,Ze (Zn (Zm (cL K) (by rfl) T.zmg PySem.boot_len (Za (Zr (K:=K) rfl (pv 0) rfl) Zc))),?_⟩;obtain⟨⟨dx,hp⟩,⟨rr,hlr,rl⟩,_⟩:=LA;refine⟨_,rfl,p,a.zl9,dx,_,_,rfl,hp,T.zmz,T.zoc,Rg,lr,_,rfl,.inl (SqL.of hlr),?_⟩;rw[rl.length];exact h
abbrev Tq:Stmt:=Z1 (top 23) 3
theorem K6:Zl ["self","at"] ["self","at"] (Zj Tq):=fnS
theorem K7(F:#[f,"facts","Ledger.facts",Tq])(T:Tx K mg a):FnOk P w K mg base (CX1 P w) 1 f fd ["self","at"] (zcd a.zl9 a.zm9):=by
 refine #[g,K6];obtain⟨p,lr,ld,Rs,i,rfl,LA,si,h1,h2⟩:=h;refine⟨_,(Zb (Z3 (PW.pt (Wk (Zo C4 (pv 1) Zg (Zt _)) (Xs (Zo T8 (pv 1) (Zm (cL K) (by rfl) T.zmg PySem.boot_len (Za (Zr (K:=K) rfl (pv 0) rfl) Zc)) (Zt _)))))
  (Ze (Xh Xg rfl T.zqu rfl (Za (Va (Z2 (Xt ⋯) (Z2 (W3 (pv 1)) (Z2 (Xt ⋯) W9))) ⋯) Zc)))
  Zp)
 (Ze (Zn (Xm (Xa (K:=K) rfl) (by rfl) T.zno PyProof.Rows.boot_list (Za (pI (iL K) (Zr (K:=K) rfl (pv 0) rfl) (Zu Sl (pv 1) Zg)) Zc))))),?_⟩
 obtain⟨⟨dx,hp⟩,⟨rr,hlr,rl⟩,_⟩:=LA;refine⟨_,rfl,_,_,rfl,rfl,_,rfl,?_⟩;refine itD (fun hc=>?_) fun hc=>?_
 ·refine iteT ?_;exact⟨_,rfl,.inl ⟨_,rfl,si⟩,fun z=>⟨sz1,h1 (.inl hc)⟩⟩
 refine⟨_,rfl,_,rfl,p,a.zl9,dx,_,_,rfl,hp,T.zmz,T.zoc,Rg,lr,_,rfl,.inl (SqL.of hlr),_,_,rfl,rfl,_,rfl,?_⟩;rw[rl.length];refine itD (fun hc2=>?_) fun hc2=>?_
 ·exact⟨_,rfl,.inl ⟨_,rfl,si⟩,fun z=>⟨sz1,h1 (.inr hc2)⟩⟩
 obtain⟨k,rfl⟩:∃ k:Nat,i=(k:Int)+1:=⟨(i-1).toNat,by omega⟩;have hk:k<Rs.length:=by omega
 obtain⟨t,xs,e1,e2,e3⟩:=rl.getR (zu3 hk);refine⟨_,rfl,p,a.zl9,dx,_,_,rfl,hp,T.zmz,T.zoc,Rg,_,rfl,_,_,rfl,rfl,lr,_,_,_,rfl,rfl,SqL.of hlr,(show atI rr ((k:Int)+1-1)=some (.ref t) by rw[show (k:Int)+1-1=(k:Int) by omega];exact Z0 e1),t,xs,rfl,.inr (SqT.of e2),fun l hl=>h2 k _ rfl (zu3 hk) l xs hl e3⟩
abbrev R7:Stmt:=Z1 (top 23) 4
theorem Fi:Zl ["self","number","club"] ["self","number","club"] (Zj R7):=fnS
theorem Fj(F:#[f,"met","Ledger.met",R7])(T:Tx K mg a):FnOk P w K mg base (CX1 P w) 1 f fd ["self","number","club"] (zig a.zl9):=by
 refine #[g,Fi];obtain⟨p,lr,ld,Rs,n,c,rfl,LA,h⟩:=h;have hu:=Wq hr;refine⟨_,Ze (Zn (ze9 hu (Zr (K:=K) rfl (pv 0) rfl) (Yd (Za (pv 1) (Za (pv 2) Zc))) Zg ⟨rfl,rfl,rfl,rfl⟩)),?_⟩;obtain⟨⟨dx,hp⟩,_,⟨kvs,hd,mt,kl⟩⟩:=LA;refine⟨_,rfl,p,a.zl9,dx,_,_,rfl,hp,T.zmz,T.znx,Q0,ld,rfl,.inr ⟨kvs,.inl hd⟩,_,rfl,_,rfl,sz2,fun t ht=>⟨_,DGet.t (k:=[inl n,inl c]) (by rw[Zi (Zh hd ht)];exact hd) Zd,?_⟩⟩;have e:((valV kvs ([inl n,inl c]:List Key)).getD (.int 0))=.int (metS Rs n c:Nat):=by
  rw[mt n c];split
  ·rename_i z;rw[z];rfl
  ·rfl
 rw[e];exact h _ (Zf ht)
abbrev Sr:Stmt:=top 25
theorem Hv:Zl ["value","least","most"] ["value","least","most"] (Zj Sr):=fnS
theorem Ga(F:#[f,"check_range","check_range",Sr])(T:Tx K mg a):FnOk P w K mg base (CX1 P w) 1 f fd ["value","least","most"] (N8 a.zmw):=by
 refine #[g,Hv];obtain⟨v,lo,m,rfl,s1,s2,s3,h⟩:=h;refine⟨_,(Ze (Z3 (PW.pt (Wk (Zo C4 (pv 0) (pv 1) (Zt _)) (Xs (Zo T8 (pv 0) (pv 2) (Zt _)))))
  (Ze (Xh Xg rfl T.zsj rfl (Za (Va (Z2 (W3 (pv 0)) (Z2 (Xt ⋯) (Z2 (W3 (pv 1)) (Z2 (Xt ⋯) (Z2 (W3 (pv 2)) W9))))) ⋯) Zc)))
  Zp)),?_⟩
 walk_at "rd";refine itD (fun h1=>?_) fun h1=>?_
 ·rw[if_pos (Or.inl h1)] at h;refine iteT ?_;walk_at "rd";refine⟨.inl ⟨_,rfl,s1⟩,_,rfl,.inl ⟨_,rfl,s2⟩,_,rfl,.inl ⟨_,rfl,s3⟩,fun z=>⟨sz1,h⟩⟩
 ·walk_at "rd";refine itD (fun h2=>?_) fun h2=>?_
  ·rw[if_pos (Or.inr h2)] at h;walk_at "rd";refine⟨.inl ⟨_,rfl,s1⟩,_,rfl,.inl ⟨_,rfl,s2⟩,_,rfl,.inl ⟨_,rfl,s3⟩,fun z=>⟨sz1,h⟩⟩
  ·rw[if_neg fun z=>z.elim h1 h2] at h;exact h
abbrev Ss:Stmt:=top 35
theorem Q8:Zl ["matches","count"] ["matches"] (Zj Ss):=fnS
theorem Gb(F:#[f,"check_count","check_count",Ss])(T:Tx K mg a):FnOk P w K mg base (CX1 P w) 1 f fd ["matches"] (B9 K (ca a)):=by
 refine #[g,Q8];obtain⟨b,ts,rfl,hs,hl,h1,h2⟩:=h;refine⟨_,(Zb (pS 1 Q8.nd (Zm (cL K) (by rfl) T.zmg PySem.boot_len (Za (pv 0) Zc)))
 (Ze (Z3 (Zo T8 (pv 1) (Wr rfl T.znp) (Zt _))
  (Ze (Xh Xg rfl T.zrh rfl (Za (Va (Z2 (W3 (pv 1)) (Z2 (Xt ⋯) (Z2 (W3 (Wr rfl T.znp)) W9))) ⋯) Zc)))
  Zp))),?_⟩
 refine⟨_,rfl,b,_,rfl,.inl hs,?_⟩;walk_at "rd";refine itD (fun hc=>?_) fun hc=>?_
 ·walk_at "rd";exact⟨.inl ⟨_,rfl,Ye ⋯ ⋯⟩,.inl ⟨_,rfl,Yi ⋯⟩,fun z=>⟨sz1,h1 ⋯⟩⟩
 ·exact h2 ⋯
abbrev Tr:Stmt:=top 36
theorem Vc:Zl ["matches","home","guest","grade"] ["matches"] (Zj Tr):=fnS
theorem K8(F:#[f,"check_ranges","check_ranges",Tr])(T:Tx K mg a)(zml:Z4 P w K mg base "check_range" 1 ["value","least","most"] (N8 a.zmw)):FnOk P w K mg base (CX1 P w) 2 f fd ["matches"] (E9 K (ca a)):=by
 refine #[g,Vc];obtain⟨b,ts,Ms,rfl,hs,tl,sm,h1,h2⟩:=h;refine⟨_,(Ze (Ys PassesOwn.leaving rfl (Yc (K:=K) rfl (pv 0)) (Xy (K:=K) (n:=3) rfl rfl (Zw (pN 1 Vc.nd) (Zw (pN 2 Vc.nd) (Zw (pN 3 Vc.nd) Xx))))
  (Zb (Z7 (pF zml hr (Za (pv 1) (Za Zg (Za (Wr rfl T.zn0) Zc)))))
  (Zb (Z7 (pF zml hr (Za (pv 2) (Za Zg (Za (Wr rfl T.zn0) Zc)))))
  (Ze (Z7 (pF zml hr (Za (pv 3) (Za Zg (Za (Wr rfl T.zn6) Zc)))))))))),?_⟩
 have hlen:ts.length=Ms.length:=by rw[tl.length,zu2]
 let jv1:Nat->L2.St->Hp->Prop:=fun i σ H'=>H'=H/\(∃ v1 v2 v3,σ=[some (.ref b),v1,v2,v3])/\∀ m∈Ms.take i,¬ badM m
 refine⟨_,rfl,b,rfl,⟨_,hs⟩,Xn (K:=K) (a:=b) (xs:=ts) jv1 ⟨rfl,⟨_,_,_,rfl⟩,by simp⟩ (fun i σ H' _ ⟨e,_⟩=>e▸hs) ?_ ?_⟩
 ·rintro i x σ H' hx ⟨rfl,⟨v1,v2,v3,rfl⟩,hi⟩;obtain⟨t,m,rfl,hm,ht⟩:=K2 tl hx;have hmem:=zvc hm;obtain⟨s1,s2,s3⟩:=sm m hmem;have bad:badM m->E (.ref a.zmw) none H':=fun hb=>h1 ⟨m,hmem,hb⟩;refine⟨t,_,rfl,SqT.of ht,rfl,_,_,rfl,_,_,rfl,_,_,rfl,rfl,?_⟩;refine⟨_,rfl,_,1,99,rfl,s1,Yi ⋯,Yi ⋯,?_⟩;refine Bf (fun b1=>bad (by unfold badM;omega)) fun b1=>?_;refine⟨_,rfl,_,1,99,rfl,s2,Yi ⋯,Yi ⋯,?_⟩;refine Bf (fun b2=>bad (by unfold badM;omega)) fun b2=>?_;refine⟨_,rfl,_,1,9,rfl,s3,Yi ⋯,Yi ⋯,?_⟩;refine Bf (fun b3=>bad (by unfold badM;omega)) fun b3=>?_;exact⟨rfl,⟨_,_,_,rfl⟩,E8 hm hi (by unfold badM;omega)⟩
 ·rintro σ H' ⟨rfl,⟨v1,v2,v3,rfl⟩,hi⟩;rw[hlen,zvk] at hi;exact h2 fun ⟨m,hm,hb⟩=>hi m hm hb
abbrev Su:Stmt:=top 37
theorem V1:Zl ["matches","home","guest","grade"] ["matches"] (Zj Su):=fnS
theorem Gd(F:#[f,"check_clubs","check_clubs",Su])(T:Tx K mg a):FnOk P w K mg base (CX1 P w) 1 f fd ["matches"] (Aa K (ca a)):=by
 refine #[g,V1];obtain⟨b,ts,Ms,rfl,hs,tl,sm,h1,h2⟩:=h;refine⟨_,(Ze (Ys PassesOwn.leaving rfl (Yc (K:=K) rfl (pv 0)) (Xy (K:=K) (n:=3) rfl rfl (Zw (pN 1 V1.nd) (Zw (pN 2 V1.nd) (Zw (pN 3 V1.nd) Xx))))
  (Ze (Z3 (Zo X8 (pv 1) (pv 2) (Zt _))
   (Ze (Xh Xg rfl T.zso rfl (Za (Va (Z2 (Xt ⋯) (Z2 (W3 (pv 1)) (Z2 (Xt ⋯) W9))) ⋯) Zc)))
   Zp)))),?_⟩
 have hlen:ts.length=Ms.length:=by rw[tl.length,zu2]
 let jv2:Nat->L2.St->Hp->Prop:=fun i σ H'=>H'=H/\(∃ v1 v2 v3,σ=[some (.ref b),v1,v2,v3])/\∀ m∈Ms.take i,¬ (m.1=m.2.1)
 refine⟨_,rfl,b,rfl,⟨_,hs⟩,Xn (K:=K) (a:=b) (xs:=ts) jv2 ⟨rfl,⟨_,_,_,rfl⟩,by simp⟩ (fun i σ H' _ ⟨e,_⟩=>e▸hs) ?_ ?_⟩
 ·rintro i x σ H' hx ⟨rfl,⟨v1,v2,v3,rfl⟩,hi⟩;obtain⟨t,m,rfl,hm,ht⟩:=K2 tl hx;have hmem:=zvc hm;obtain⟨s1,s2,s3⟩:=sm m hmem;refine⟨t,_,rfl,SqT.of ht,rfl,_,_,rfl,_,_,rfl,_,_,rfl,rfl,?_⟩;refine⟨_,rfl,_,rfl,rfl,_,rfl,?_⟩;refine itV (fun he=>?_) fun he=>?_
  ·exact⟨_,rfl,.inl ⟨_,rfl,s1⟩,fun z=>⟨sz1,h1 ⟨m,hmem,he⟩⟩⟩
  ·exact⟨rfl,⟨_,_,_,rfl⟩,E8 (p:=fun m=>m.1=m.2.1) hm hi he⟩
 ·rintro σ H' ⟨rfl,⟨v1,v2,v3,rfl⟩,hi⟩;rw[hlen,zvk] at hi;exact h2 fun ⟨m,hm,hb⟩=>hi m hm hb
abbrev Li:Stmt:=top 38
theorem zbm:Zl ["matches"] ["matches"] (Zj Li):=fnS
theorem zbn(F:#[f,"checked","checked",Li])(T:Tx K mg a)(zpx:Z4 P w K mg base "check_count" 1 ["matches"] (B9 K (ca a)))(zpb:Z4 P w K mg base "check_ranges" 2 ["matches"] (E9 K (ca a)))(zp2:Z4 P w K mg base "check_clubs" 1 ["matches"] (Aa K (ca a))):FnOk P w K mg base (CX1 P w) 3 f fd ["matches"] (Iw K (ca a)):=by
 refine #[g,zbm];obtain⟨b,ts,Ms,rfl,hs,tl,sm,hl,h1,h2,h3,h4⟩:=h;refine⟨_,(Zb (Z7 (pF zpx hr (Za (pv 0) Zc)))
 (Zb (Z7 (pF zpb hr (Za (pv 0) Zc)))
 (Zb (Z7 (pF zp2 hr (Za (pv 0) Zc)))
 (Ze (Zn (Xm (Xa (K:=K) rfl) (by rfl) T.zno PyProof.Rows.boot_list (Za (pv 0) Zc))))))),?_⟩
 have hlen:ts.length=Ms.length:=by rw[tl.length,zu2]
 refine⟨_,rfl,b,ts,rfl,hs,by omega,fun hc=>h1 ⋯,fun hc=>?_⟩;refine⟨_,rfl,b,ts,Ms,rfl,hs,tl,sm,fun hb=>h2 ⋯ hb,fun hb=>?_⟩;refine⟨_,rfl,b,ts,Ms,rfl,hs,tl,sm,fun hb2=>h3 ⋯ hb hb2,fun hb2=>?_⟩;exact⟨_,rfl,b,ts,rfl,.inl hs,h4 ⋯ hb hb2⟩
abbrev V2:Stmt:=Z1 (top 40) 0
theorem Nh:Zl ["self"] ["self"] (Zj V2):=fnS
theorem Ni(F:#[f,"__init__","Roster.__init__",V2])(T:Tx K mg a):FnOk P w K mg base (CX1 P w) 1 f fd ["self"] (zck (ca a)):=by
 refine #[g,Nh];obtain⟨p,dx,rfl,hp,h⟩:=h;refine⟨_,Ze (Xb (K:=K) rfl (pv 0) Ra rfl),?_⟩;intro d hd;exact⟨_,rfl,p,a.zmd,dx,[],rfl,(by rw[Zi (Zh hp hd)];exact hp),T.zmv,T.znc,⋯,h d hd⟩
abbrev Vh:Stmt:=Z1 (top 40) 1
theorem Oa:Zl ["self","number","grade","club"] ["self","number","grade","club"] (Zj Vh):=fnS
theorem Ob(F:#[f,"check_new","Roster.check_new",Vh])(T:Tx K mg a)(zml:Z4 P w K mg base "check_range" 1 ["value","least","most"] (N8 a.zmw)):FnOk P w K mg base (CX1 P w) 2 f fd ["self","number","grade","club"] (O3 (ca a)):=by
 refine #[g,Oa];obtain⟨p,d,R,n,g,c,rfl,RA,sm,h⟩:=h;have hu:=Wq hr;refine⟨_,(Zb (Z7 (pF zml hr (Za (pv 1) (Za Zg (Za (Wr rfl T.zoa) Zc)))))
 (Zb (Z7 (pF zml hr (Za (pv 2) (Za Zg (Za (Wr rfl T.zn6) Zc)))))
 (Zb (Z7 (pF zml hr (Za (pv 3) (Za Zg (Za (Wr rfl T.zn0) Zc)))))
 (Zb (Z3 (Sk (Ov hu (pv 1) (Zr (K:=K) rfl (pv 0) rfl)))
  (Ze (Xh Xg rfl T.zsc rfl (Za (Va (Z2 (Xt ⋯) (Z2 (W3 (pv 1)) (Z2 (Xt ⋯) W9))) ⋯) Zc)))
  Zp)
 (Ze (Z3 (Zo zew (Zm zdc (by rfl) T.zmg PySem.boot_len (Za (Zr (K:=K) rfl (pv 0) rfl) Zc)) (Wr rfl T.znb) (Zt _))
  (Ze (Xh Xg rfl T.zq6 rfl (Za (Va (Z2 (Xt ⋯) (Z2 (W3 (Wr rfl T.znb)) (Z2 (Xt ⋯) W9))) ⋯) Zc)))
  Zp)))))),?_⟩
 obtain⟨sn,sg,sc⟩:=sm;obtain⟨⟨dx,kvs,hp,hd,en⟩,nd⟩:=id RA;have bad:∀ {A B:Prop},(badI n g c->(if badI n g c then A else B)->A):=fun hb z=>by rw[if_pos hb] at z;exact z
 refine⟨_,rfl,n,1,999,rfl,sn,Yi ⋯,Yi ⋯,?_⟩;refine Bf (fun b1=>bad (by unfold badI;omega) h) fun b1=>?_;refine⟨_,rfl,g,1,9,rfl,sg,Yi ⋯,Yi ⋯,?_⟩;refine Bf (fun b2=>bad (by unfold badI;omega) h) fun b2=>?_;refine⟨_,rfl,c,1,99,rfl,sc,Yi ⋯,Yi ⋯,?_⟩;refine Bf (fun b3=>bad (by unfold badI;omega) h) fun b3=>?_;rw[if_neg (by unfold badI;omega)] at h;refine⟨_,rfl,_,rfl,p,a.zmd,dx,_,_,rfl,hp,T.zmv,T.znc,Vf,d,_,rfl,DGet.k (k:=inl n) hd,_,rfl,?_⟩;rw[en.isSome nd];refine itD (fun hn=>?_) fun hn=>?_
 ·rw[if_pos hn] at h;exact⟨_,rfl,.inl ⟨_,rfl,sn⟩,fun z=>⟨sz1,h⟩⟩
 rw[if_neg hn] at h;refine⟨_,rfl,p,a.zmd,dx,_,_,rfl,hp,T.zmv,T.znc,Vf,d,_,rfl,hd,_,_,rfl,rfl,_,rfl,?_⟩;rw[en.length];refine itD (fun hz=>?_) fun hz=>?_
 ·rw[if_pos ⋯] at h;exact⟨.inl ⟨_,rfl,Yi ⋯⟩,fun z=>⟨sz1,h⟩⟩
 rw[if_neg ⋯] at h;exact h
abbrev Wx:Stmt:=Z1 (top 40) 2
theorem Qr:Zl ["self","number"] ["self","number"] (Zj Wx):=fnS
theorem Qs(F:#[f,"check_known","Roster.check_known",Wx])(T:Tx K mg a):FnOk P w K mg base (CX1 P w) 1 f fd ["self","number"] (U8 (ca a)):=by
 refine #[g,Qr];obtain⟨p,d,R,n,rfl,RA,sn,h⟩:=h;have hu:=Wq hr;refine⟨_,(Ze (Z3 (Sk (Mx hu (pv 1) (Zr (K:=K) rfl (pv 0) rfl)))
  (Ze (Xh Xg rfl T.zro rfl (Za (Va (Z2 (Xt ⋯) (Z2 (W3 (pv 1)) (Z2 (Xt ⋯) W9))) ⋯) Zc)))
  Zp)),?_⟩
 obtain⟨⟨dx,kvs,hp,hd,en⟩,nd⟩:=id RA;refine⟨_,rfl,_,rfl,p,a.zmd,dx,_,_,rfl,hp,T.zmv,T.znc,Vf,d,_,rfl,DGet.k (k:=inl n) hd,_,rfl,?_⟩;rw[en.isSome nd];by_cases hn:n∈R.map (·.1)
 ·rw[zva hn];rw[if_pos hn] at h;exact iteF h
 ·rw[zvf hn];rw[if_neg hn] at h;exact iteT ⟨_,rfl,.inl ⟨_,rfl,sn⟩,fun z=>⟨sz1,h⟩⟩
abbrev R8:Stmt:=Z1 (top 40) 3
theorem Fl:Zl ["self","number","grade","club"] ["self","number","grade","club"] (Zj R8):=fnS
theorem Fm(F:#[f,"add","Roster.add",R8])(T:Tx K mg a)(zm3:Zs P w K mg base a.zmd "check_new" 2 ["self","number","grade","club"] (O3 (ca a))):FnOk P w K mg base (CX1 P w) 3 f fd ["self","number","grade","club"] (zgc (ca a)):=by
 refine #[g,Fl];obtain⟨p,d,R,n,g,c,rfl,RA,sm,hl,h⟩:=h;have hu:=Wq hr;refine⟨_,(Zb (Z7 (Yo (pv 0) T.zmv zm3 (hr.mono ⋯) Zk (Za (pv 1) (Za (pv 2) (Za (pv 3) Zc)))))
 (Ze (Ym hu (Zr (K:=K) rfl (pv 0) rfl) (pv 1) (Yd (Za (pv 2) (Za (pv 3) Zc))) rfl))),?_⟩
 obtain⟨⟨dx,kvs,hp,hd,en⟩,nd⟩:=id RA;refine⟨_,rfl,p,dx,_,rfl,hp,Xl.no ⋯,_,rfl,_,rfl,_,rfl,p,d,R,n,g,c,rfl,RA,sm,?_⟩;refine it2 h (fun _ z=>z) fun hb h=>it2 h (fun _ z=>z) fun hn h=>it2 h (fun _ z=>z) fun hz h=>?_;refine⟨_,rfl,_,rfl,sz2,fun t ht=>?_⟩;have ntp:p≠t:=Zh hp ht;have ntd:d≠t:=Zh hd ht;have npd:p≠d:=Yw hp hd (by intro z;cases z);refine⟨_,rfl,p,a.zmd,dx,_,_,rfl,(by rw[Zi ntp];exact hp),T.zmv,T.znc,Vf,_,rfl,d,_,rfl,DPut.k (k:=inl n) (by rw[Zi ntd];exact hd) (Vm (by rw[en.length];exact hl)),?_⟩;rw[zdw (en.val_none hn)];refine h _ ⟨⟨dx,_,(by rw[Zi npd,Zi ntp];exact hp),Zd,?_⟩,?_⟩ fun b o e hb=>(by rw[Zi hb,Zi (Zh e ht)];exact e)
 ·refine Ve.snoc (by rw[Zi (Ne.symm ntd)];exact Zd) (en.mono fun b xs e=>?_);rw[Zi (Yw e hd (by intro z;cases z)),Zi (Zh e ht)];exact e
 ·rw[zu9];exact Ds nd hn
abbrev Uy:Stmt:=Z1 (top 40) 4
theorem Lj:Zl ["self","number"] ["self","number"] (Zj Uy):=fnS
theorem Ll(F:#[f,"strike","Roster.strike",Uy])(T:Tx K mg a):FnOk P w K mg base (CX1 P w) 1 f fd ["self","number"] (By (ca a)):=by
 refine #[g,Lj];obtain⟨p,d,R,n,g,c,rfl,RA,h⟩:=h;refine⟨_,Ze (Z7 (zfa (Zr (K:=K) rfl (pv 0) rfl) (pv 1) ⟨rfl,rfl,rfl,rfl⟩)),?_⟩;obtain⟨⟨dx,kvs,hp,hd,en⟩,nd⟩:=id RA;have npd:p≠d:=Yw hp hd (by intro z;cases z);obtain⟨t,e1,e2⟩:=en.val_some nd (show (n,g,c)∈R++[(n,g,c)] by simp);have hn:n∉R.map (·.1):=by
  rw[zu9,List.nodup_append] at nd;exact fun z=>nd.2.2 n z n (by simp) rfl
 refine⟨_,rfl,p,a.zmd,dx,_,_,rfl,hp,T.zmv,T.znc,Vf,d,rfl,.inl ⟨kvs,.inl hd⟩,_,rfl,kvs,inl n,_,hd,rfl,e1,?_⟩;refine h _ ⟨⟨dx,_,(by rw[Zi npd];exact hp),Zd,(en.unsnoc hn).mono fun b xs e=>?_⟩,?_⟩ fun b o e hb=>(by rw[Zi hb];exact e)
 ·rw[Zi (Yw e hd (by intro z;cases z))];exact e
 ·rw[zu9,List.nodup_append] at nd;exact nd.1
abbrev Ui:Stmt:=Z1 (top 40) 6
theorem Me:Zl ["self"] ["self"] (Zj Ui):=fnS
theorem Mf(F:#[f,"numbers","Roster.numbers",Ui])(T:Tx K mg a):FnOk P w K mg base (CX1 P w) 1 f fd ["self"] (Iq (ca a)):=by
 refine #[g,Me];obtain⟨p,d,R,rfl,RA,h⟩:=h;refine⟨_,Ze (Zn (Xm (zav rfl) (by rfl) T.zno PyProof.Rows.boot_list (Za (Zr (K:=K) rfl (pv 0) rfl) Zc))),?_⟩;obtain⟨⟨dx,kvs,hp,hd,en⟩,nd⟩:=id RA;refine⟨_,rfl,p,a.zmd,dx,_,_,rfl,hp,T.zmv,T.znc,Vf,d,kvs,rfl,.inl hd,fun l hl=>?_⟩;rw[en.keys];exact h l hl
abbrev Ts:Stmt:=Z1 (top 40) 7
theorem K9:Zl ["self","number"] ["self","number"] (Zj Ts):=fnS
theorem Ja(F:#[f,"entry","Roster.entry",Ts])(T:Tx K mg a)(zmh:Zs P w K mg base a.zmd "check_known" 1 ["self","number"] (U8 (ca a))):FnOk P w K mg base (CX1 P w) 2 f fd ["self","number"] (Bz (ca a)):=by
 refine #[g,K9];obtain⟨p,d,R,n,rfl,RA,sn,h1,h2⟩:=h;have hu:=Wq hr;refine⟨_,(Zb (Z7 (Yo (pv 0) T.zmv zmh (hr.mono ⋯) Zk (Za (pv 1) Zc)))
 (Ze (Zn (pD hu (Zr (K:=K) rfl (pv 0) rfl) (pv 1))))),?_⟩
 obtain⟨⟨dx,kvs,hp,hd,en⟩,nd⟩:=id RA;refine⟨_,rfl,p,dx,_,rfl,hp,Xl.no ⋯,_,rfl,p,d,R,n,rfl,RA,sn,?_⟩;refine Bf (fun hn=>?_) fun hn=>h1 hn;obtain⟨⟨m,g,c⟩,q,rfl⟩:=zvb.mp hn;obtain⟨t,e1,e2⟩:=en.val_some nd q;exact⟨_,rfl,p,a.zmd,dx,_,_,rfl,hp,T.zmv,T.znc,Vf,_,rfl,d,_,rfl,(by rw[<- e1];exact DGet.k (k:=inl m) hd),h2 g c t q e2⟩
abbrev Uz:Stmt:=Z1 (top 40) 10
theorem Ln:Zl ["self","number"] ["self","number"] (Zj Uz):=fnS
theorem Lo(F:#[f,"person","Roster.person",Uz])(T:Tx K mg a)(zpc:Zs P w K mg base a.zmd "entry" 2 ["self","number"] (Bz (ca a))):FnOk P w K mg base (CX1 P w) 3 f fd ["self","number"] (B0 (ca a)):=by
 refine #[g,Ln];obtain⟨p,d,R,n,rfl,RA,sn,h1,h2⟩:=h;refine⟨_,Ze (Zn (Zu (B1 (K:=K) rfl) (Yd (Za (pv 1) Zc)) (Yo (pv 0) T.zmv zpc (hr.mono ⋯) Zk (Za (pv 1) Zc)))),?_⟩;obtain⟨⟨dx,kvs,hp,hd,en⟩,nd⟩:=id RA;refine⟨_,rfl,sz1,fun t1 ht1=>?_⟩;have s1:=Zf (o:=.tup [.int n]) ht1;have q1:upd H t1 (.tup [.int n]) t1=#[a,.tup,[.int n]]:=Zd;generalize upd H t1 (.tup [.int n])=H1 at s1 q1;refine⟨_,rfl,p,dx,_,rfl,s1 _ _ hp,Xl.no ⋯,_,rfl,p,d,R,n,rfl,RA.same s1,sn,fun hn=>h1 hn H1 s1,fun g c t q ht=>?_⟩;refine⟨t1,t,_,_,rfl,rfl,SqT.of q1,SqT.of ht,by simp,by show 1+2<=sizeLine;exact sz3,fun z=>absurd z (by simp),fun _ t2 ht2=>?_⟩;exact h2 g c t2 _ q Zd (s1.trans (Zf ht2)) (s1.free ht2)
abbrev Ge:Stmt:=top 4
theorem zee:Zl ["people","match","out","ledger","rest"] ["people","match","out","ledger","rest"] (Zj Ge):=fnS
theorem zef(F:#[f,"takers","takers",Ge])(T:Tx K mg a)(zrs:Z4 P w K mg base "reasons" 3 ["referee","match","out","ledger","rest"] (Eu K a.zl9)):FnOk P w K mg base (CX1 P w) 4 f fd ["people","match","out","ledger","rest"] (Bq K a.zl9):=by
 refine #[g,zee];obtain⟨lp,lo,tm,p,lr,ld,Rs,ts,Ms,os,h,gu,d,rest,rfl,hp,tl,ho,hoo,ht,LA,hl,hq⟩:=h;refine⟨_,Ze (Zn (W7 rfl (cT ["match","ledger","rest","out"] [1,3,4,2]) (Yc (K:=K) rfl (pv 0)) (fun _ _ _ _ _=>Sa (Yy (Eo (K:=K) rfl (zb5 zrs (hr.mono ⋯) Bl rfl (Za (pv 0) (Za (pv 1) (Za (U5 (Ia (K:=K) rfl) (pI (iU K) (pv 0) Zg) (pv 4) (by with_unfolding_all rfl)) (Za (pv 2) (Za (pv 3) Zc)))))) fun _=>rfl))) fun _ _ _ _ _=>(pI (iU K) (pv 0) Zg))),?_⟩;have hlen:ts.length=Ms.length:=by rw[tl.length,zu2]
 refine⟨_,rfl,lp,rfl,⟨_,SqL.of hp⟩,?_⟩;refine Wn (K:=K) (a:=lp) (xs:=ts) (fun i ys H'=>Same H H'/\ys=((Ms.take i).filter (Q4 Rs h gu d os rest)).map fun m=>V.int m.1) ⟨Same.refl _,rfl⟩ (fun i ys H' _ ⟨s,_⟩=>SqL.of (s _ _ hp)) (by rw[hlen];exact szN hl) (fun i ys H' ⟨_,e⟩=>by rw[e,zu2];exact zvh (zvz _ _) (zwq _ _)) ?_ ?_
 ·rintro i x ys H' hx ⟨sm,rfl⟩;obtain⟨t,m,rfl,hm,htt⟩:=K2 tl hx;have htt':=sm _ _ htt;refine⟨_,rfl,_,rfl,_,rfl,t,_,_,_,rfl,rfl,SqT.of htt',show atI (pV m) 0=some _ from rfl,_,rfl,lo,os,rfl,.inl (SqL.of (sm _ _ ho)),rfl,zw8.mpr fun y hy=>zft (hoo y hy),_,rfl,_,rfl,t,tm,p,lr,ld,Rs,m.1,m.2.1,m.2.2,h,gu,d,rest,inV (.int m.1) os,rfl,htt',sm _ _ ht,LA.same sm,fun l H2 hl2 s2 _=>?_⟩;refine⟨_,.inl ⟨_,SqL.of hl2,rfl⟩,?_⟩;have e:((whyS Rs m.1 m.2.1 m.2.2 h gu d (inV (.int m.1) os) rest).map V.str).isEmpty=Q4 Rs h gu d os rest m:=by unfold Q4;rw[List.isEmpty_map]
  have hys:∀ ys',((Ms.take (i+1)).filter (Q4 Rs h gu d os rest)).map (fun m=>V.int m.1)=((Ms.take i).filter (Q4 Rs h gu d os rest)).map (fun m=>V.int m.1)++ys'↔ys'=if Q4 Rs h gu d os rest m then [V.int m.1] else []:=fun ys'=>by
   rw[zwg,hm,zwi,zu9,List.append_cancel_left_eq];cases q:Q4 Rs h gu d os rest m<;>simp[q,eq_comm]
  dsimp only;rw[e];refine itB (fun hb=>?_) fun hb=>?_
  ·rw[Bool.not_not] at hb;refine⟨_,rfl,t,_,_,_,rfl,rfl,SqT.of (s2 _ _ htt'),show atI (pV m) 0=some _ from rfl,sm.trans s2,?_⟩;exact((hys [V.int m.1]).mpr (by rw[hb];rfl)).symm
  ·rw[Bool.not_not] at hb;refine⟨sm.trans s2,?_⟩;have:=(hys []).mpr (by rw[hb];rfl);rw[zxc] at this;exact this.symm
 ·rintro ys H' ⟨sm,rfl⟩ l hl';rw[hlen,zvk];exact hq l _ Zd (sm.trans (Zf hl')) (sm.free hl')
abbrev Tt:Stmt:=top 42
theorem Vd:Zl ["given","taken","place","number"] ["given"] (Zj Tt):=fnS
theorem Jb(F:#[f,"places_taken","places_taken",Tt])(T:Tx K mg a):FnOk P w K mg base (CX1 P w) 1 f fd ["given"] (D5 K):=by
 refine #[g,Vd];obtain⟨b,gs,rfl,hb,ho,hinj,hl,h⟩:=h;have hu:=Wq hr;refine⟨_,(Zb (pS 1 Vd.nd Ra)
 (Zb (Ys PassesOwn.leaving rfl (zcf (K:=K) rfl rfl T.zog (Za (pv 0) Zc)) (Xy (K:=K) (n:=2) rfl rfl (Zw (pN 2 Vd.nd) (Zw (pN 3 Vd.nd) Xx)))
  (Ze (Z3 (Zo Ur (pv 3) Yx (Zt _))
   (Ze (Ym hu (pv 1) (pv 3) (pv 2) rfl))
   Zp)))
 (Ze (Zn (pv 1))))),?_⟩
 have line:100<sizeLine:=by rw[sizeLine_eq];decide
 intro d hd
 let jv1:Nat->L2.St->Hp->Prop:=fun i σ' H'=>(∃ u v,σ'=[some (.ref b),some (.ref d),u,v])/\Same H H'/\∃ kvs,H' d=#[a,.dK,kvs]/\kvs.length<=i/\(∀ (n:Int) (j:Nat),j<i->gs[j]?=some (.int n)->valV kvs (inl n:Key)=some (.int (j:Nat)))/\(∀ n:Int,(∀ j:Nat,j<i->gs[j]?≠some (.int n))->valV kvs (inl n:Key)=none)
 refine⟨_,rfl,b,rfl,⟨gs,SqL.of (Zf hd _ _ hb)⟩,zf1 (xs:=gs) jv1
  ⟨⟨none,none,rfl⟩,Zf hd,[],Zd,zvd _,fun n j hj=>absurd hj (zxd _),fun n _=>rfl⟩ (fun i σ' H' hi p=>SqL.of (p.2.1 _ _ hb)) (fun i x t σ' H' hx p htn=>?_) (fun σ' H' p=>?_)⟩
 ·obtain⟨⟨u,v,rfl⟩,hs,kvs,hk,hkl,h1,h2⟩:=p;have s2:=hs.trans (Zf (o:=.tup [.int (i:Nat),x]) htn);have hk2:=Zf (o:=.tup [.int (i:Nat),x]) htn _ _ hk;refine⟨t,_,rfl,SqT.of Zd,rfl,_,_,rfl,_,_,rfl,rfl,?_⟩;generalize upd H' t (.tup [.int (i:Nat),x])=H2 at s2 hk2;have hi:i<gs.length:=(zu4.mp hx).1;refine Vb (b:=!decide (x=.non)) (fun Q k=>⟨_,rfl,rfl,_,rfl,k⟩) ?_;rcases ho x (zvc hx) with rfl|⟨n,rfl⟩
  ·refine iteF (Zx ⟨⟨_,_,rfl⟩,s2,kvs,hk2,by omega,fun n j hj hg=>?_,fun n hn=>h2 n fun j hj=>hn j ⋯⟩);by_cases e:j=i
   ·subst e;rw[hx] at hg;cases hg
   ·exact h1 n j ⋯ hg
  ·refine iteT ⟨_,rfl,_,rfl,_,rfl,d,_,rfl,DPut.k (k:=inl n) hk2 ⋯,⟨_,_,rfl⟩,?_,_,Zd,?_,fun m j hj hg=>?_,fun m hm=>?_⟩
   ·exact Z6 hd s2
   ·exact zvh (Xk kvs _ _) ⋯
   ·rw[Vt];by_cases e:j=i
    ·subst e;rw[hx] at hg;cases hg;rw[if_pos rfl]
    ·have hne:¬ ((inl m:Key)=inl n):=fun z=>by
      rw[inl.inj z] at hg;exact e (hinj j i n hg hx)
     rw[if_neg hne];exact h1 m j ⋯ hg
   ·have hne:¬ ((inl m:Key)=inl n):=fun z=>by
     rw[inl.inj z] at hm;exact hm i ⋯ hx
    rw[Vt,if_neg hne];exact h2 m fun j hj=>hm j ⋯
 ·obtain⟨⟨u,v,rfl⟩,hs,kvs,hk,hkl,h1,h2⟩:=p;exact⟨_,rfl,h d kvs H' hk ⟨fun n j hj=>h1 n j (zu4.mp hj).1 hj,fun n hn=>h2 n fun j _=>hn j⟩ hs hd⟩
abbrev R9:Stmt:=top 43
theorem X4:Zl ["may","taken","start","into","waiting","done","place","number"] ["may","taken","start"] (Zj R9):=fnS
theorem Fn(F:#[f,"steps_into","steps_into",R9])(T:Tx K mg a):FnOk P w K mg base (CX1 P w) 1 f fd ["may","taken","start"] (za2 K):=by
 refine #[g,X4];obtain⟨l,d,ls,rows,kvs,gs,p,rfl,hl,il,hrl,hd,tk,FP,hp,h⟩:=h;have hu:=Wq hr;refine⟨_,(Zb (pS 3 X4.nd (zbx (Td (pv 2) Yx zbw) rfl rfl (by simp) ⋯))
 (Zb (pS 4 X4.nd (Ya (Za (pv 2) Zc)))
 (Zb (pS 5 X4.nd Zg)
 (Zb (C0 PassesOwn.leaving (Zo C4 (pv 5) (Zm (cL K) (by rfl) T.zmg PySem.boot_len (Za (pv 4) Zc)) (Zt _))
  (Zb (pS 6 X4.nd (pI (iL K) (pv 4) (pv 5)))
  (Zb (pS 5 X4.nd (Zu Yt (pv 5) Zg))
  (Ze (Ys PassesOwn.leaving rfl (Yc (K:=K) rfl (pI (iL K) (pv 0) (pv 6))) (pN 7 X4.nd)
   (Ze (Z3 (PW.pt (Om (Sk (Ov hu (pv 7) (pv 1))) (Rr (Sk (Mx hu (pD hu (pv 1) (pv 7)) (pv 3))))))
    (Zb (Ym hu (pv 3) (pD hu (pv 1) (pv 7)) (Yd (Za (pv 6) (Za (pv 7) Zc))) rfl)
    (Ze (Y4 (pv 4) (pD hu (pv 1) (pv 7)))))
    Zp)))))))
 (Ze (Zn (pv 3))))))),?_⟩
 show let y1:TS:=_;let y2:TS:=tSeq _ y1;let y3:TS:=_;let y4:TS:=tSeq (zep _ (tSeq _ y2)) y3;let y5:TS:=tSeq _ y4;let y6:TS:=tSeq _ y5;tSeq _ y6 _ _ _;intro y1 y2 y3 y4 y5 y6;have line0:200<sizeLine:=by rw[sizeLine_eq];decide
 intro ld hld;refine⟨_,rfl,Zd,[(inl (p:Int),.non)],rfl,(by show 1<=15;decide),?_⟩;have s0:Same H (upd (upd H ld (.dK [])) ld (.dK (Ud [] [(inl (p:Int),.non)]))):=Z6 hld (Zf hld);have q0:upd (upd H ld (.dK [])) ld (.dK (Ud [] [(inl (p:Int),.non)])) ld=#[a,.dK,[((inl (p:Int):Key),V.non)]]:=Zd;generalize upd (upd H ld (.dK [])) ld (.dK (Ud [] [(inl (p:Int),.non)]))=H1 at s0 q0;refine⟨_,rfl,sz1,fun ln hln=>?_⟩;have s1:=Zf (o:=.lst [.int p]) hln;have e1:upd H1 ln (.lst [.int p]) ln=some (.lst (W0 [p])):=Zd;have q1:=s1 _ _ q0;have s01:=s0.trans s1;have nln:ld≠ln:=Zh q0 hln;have fln:H ln=none:=s0.free hln;generalize upd H1 ln (.lst [.int p])=H2 at s1 e1 q1 s01;have hbound:∀ line:List Nat,line.Nodup->(∀ c∈line,c<rows.length)->line.length<=rows.length:=fun line nd hc=>by
  have:=nd.length_le_of_subset (l₂:=List.range rows.length) fun c hcc=>zv9.mpr (hc c hcc);rw[zv4] at this;exact this
 refine⟨fun m σ' H'=>∃ (line:List Nat) (dep:Nat->Nat) (fr:Nat->Option (Nat×Int)) (into:List (Key×V)) (dn:Nat) (v6 v7:Option V),m=rows.length-dn/\dn<=line.length/\σ'=[#[c,l],#[c,d],#[e,p],#[c,ld],#[c,ln],#[e,(dn:Nat)],v6,v7]/\Same H H'/\H' ld=#[a,.dK,into]/\H' ln=some (.lst (W0 line))/\X3 H' into line fr/\Bfs rows gs p line dep/\Done rows gs line dep dn/\Tf rows gs p line dep fr/\(∀ q∈line,q<rows.length)/\∀ here,line[dn]?=some here->∀ x∈line,dep x<=dep here+1,
  ⟨_,[p],fun _=>0,fun _=>none,_,0,_,_,rfl,zvw _,rfl,s01,q1,e1,za3 _ _,zdq rows gs p,fun i q hi=>absurd hi (zxd _),za4,by simpa using hp,fun here _ x _=>zvw _⟩,?_⟩
 rintro m σ Ha ⟨line,dep,fr,into,dn,v6,v7,rfl,hdn,rfl,sa,hda,hna,io,B,Dn,fo,hlt,near⟩;have hll:=hbound _ B.nodup hlt;have hnl:(W0 line).length=line.length:=by unfold W0;rw[zu2]
 refine⟨_,rfl,_,rfl,ln,_,rfl,.inl (SqL.of hna),_,_,rfl,rfl,_,rfl,?_⟩;rw[hnl];by_cases hlt2:dn<line.length
 ·rw[zva (show ((dn:Nat):Int)<(line.length:Nat) by omega)];refine iteT ?_;obtain⟨here,hh⟩:∃ here,line[dn]?=some here:=⟨_,zu3 hlt2⟩;have hhm:=zvc hh;have hhere:=hlt here hhm;have hhv:(W0 line)[dn]?=#[e,(here:Nat)]:=by unfold W0;rw[zu8,hh];rfl
  refine⟨fun σ' H'=>∃ (line:List Nat) (dep:Nat->Nat) (fr:Nat->Option (Nat×Int)) (into:List (Key×V)) (v6 v7:Option V),dn+1<=line.length/\σ'=[#[c,l],#[c,d],#[e,p],#[c,ld],#[c,ln],#[e,((dn+1:Nat):Int)],v6,v7]/\Same H H'/\H' ld=#[a,.dK,into]/\H' ln=some (.lst (W0 line))/\X3 H' into line fr/\Bfs rows gs p line dep/\Done rows gs line dep (dn+1)/\Tf rows gs p line dep fr/\(∀ q∈line,q<rows.length)/\∀ here,line[dn+1]?=some here->∀ x∈line,dep x<=dep here+1,
   fun σ' H' ⟨line,dep,fr,into,v6,v7,a1,a2,a3,a4,a5,a6,a7,a8,a9,a10,a11⟩=>⟨rows.length-(dn+1),by omega,line,dep,fr,into,dn+1,v6,v7,rfl,a1,a2,a3,a4,a5,a6,a7,a8,a9,a10,a11⟩,?_⟩
  have hr':rows[here]?=some (rows[here]'hhere):=zu3 hhere;generalize (rows[here]'hhere)=r at hr';obtain⟨lr,e2,e3⟩:=il.getR hr';have hl':(ls.map V.ref)[here]?=#[c,lr]:=by rw[zu8,e2];rfl
  refine⟨_,rfl,_,rfl,ln,_,_,_,rfl,rfl,SqL.of hna,Z0 hhv,?_⟩;refine⟨_,rfl,_,_,rfl,rfl,?_⟩;refine⟨_,rfl,_,rfl,l,_,_,_,rfl,rfl,SqL.of (sa _ _ hl),Z0 hl',lr,rfl,⟨_,SqL.of (sa _ _ e3)⟩,?_⟩
  let jv2:Nat->L2.St->Hp->Prop:=fun j σ' H'=>∃ (line:List Nat) (dep:Nat->Nat) (fr:Nat->Option (Nat×Int)) (into:List (Key×V)) (v7:Option V),σ'=[#[c,l],#[c,d],#[e,p],#[c,ld],#[c,ln],#[e,((dn+1:Nat):Int)],#[e,(here:Nat)],v7]/\Same H H'/\H' ld=#[a,.dK,into]/\H' ln=some (.lst (W0 line))/\X3 H' into line fr/\Bfs rows gs p line dep/\Done rows gs line dep dn/\Tf rows gs p line dep fr/\(∀ q∈line,q<rows.length)/\line[dn]?=some here/\(∀ x∈line,dep x<=dep here+1)/\∀ n∈r.take j,∀ q':Nat,gs[q']?=#[e,n]->q'∈line
  refine Xn (K:=K) (a:=lr) (xs:=r.map V.int) jv2
   ⟨line,dep,fr,into,_,rfl,sa,hda,hna,io,B,Dn,fo,hlt,hh,near here hh,by simp⟩ (fun j σ' H' _ ⟨_,_,_,_,_,_,z,_⟩=>SqL.of (z _ _ e3)) ?_ ?_
  ·rintro j y σ' Hx hy ⟨line,dep,fr,into,w7,rfl,sx,hdx,hnx,io,B,Dn,fo,hlt,hh,near,pr⟩;have hj:j<r.length:=by have:=(zu4.mp hy).1;rw[zu2] at this;exact this
   have hhm:=zvc hh;have hrj:r[j]?=some (r[j]'hj):=zu3 hj;have etk:r.take (j+1)=r.take j++[r[j]'hj]:=zvl hj;generalize (r[j]'hj)=n at hrj etk;have ey:y=.int n:=by rw[zu8,hrj] at hy;exact(Option.some.inj hy).symm
   subst ey;have hnr:=zvc hrj;have hll:=hbound _ B.nodup hlt;have prev:(∀ q':Nat,gs[q']?=#[e,n]->q'∈line)->∀ m∈r.take (j+1),∀ q':Nat,gs[q']?=#[e,m]->q'∈line:=fun k m hm=>by
    rw[etk] at hm;rcases zve.mp hm with z|z
    ·exact pr m z
    ·rw[zu6.mp z];exact k
   rcases tk.iff n with ⟨q',hq',hv⟩|⟨hno,hv⟩
   ·by_cases hin:q'∈line
    ·refine Vb (b:=false) (fun Q k=>?_) (iteF (Zx ⟨line,dep,fr,into,_,rfl,sx,hdx,hnx,io,B,Dn,fo,hlt,hh,near,prev fun q2 h2=>by rw[FP.inj q2 q' n h2 hq'];exact hin⟩));refine⟨_,rfl,_,rfl,d,_,rfl,DGet.k (k:=inl n) (sx _ _ hd),_,rfl,?_⟩;rw[hv];refine iteT ⟨_,rfl,_,rfl,d,_,rfl,hv▸DGet.k (k:=inl n) (sx _ _ hd),_,rfl,ld,_,rfl,DGet.k (k:=inl (q':Int)) hdx,_,rfl,?_⟩;rw[(io.has q').mpr hin];exact k
    ·have hnin:(valV into (inl (q':Int):Key)).isSome=false:=by
      rw[Bool.eq_false_iff];exact fun z=>hin ((io.has q').mp z)
     have hq'l:q' < rows.length:=by
      have:=(zu4.mp hq').1;rw[FP.len] at this;exact this
     have ha:adjN rows gs here n q':=⟨⟨r,hr',hnr⟩,hq'⟩;obtain⟨B',old,all⟩:=B.app (dn:=dn) hh near ha hin;refine Vb (b:=true) (fun Q k=>?_) (iteT ?_)
     ·refine⟨_,rfl,_,rfl,d,_,rfl,DGet.k (k:=inl n) (sx _ _ hd),_,rfl,?_⟩;rw[hv];refine iteT ⟨_,rfl,_,rfl,d,_,rfl,hv▸DGet.k (k:=inl n) (sx _ _ hd),_,rfl,ld,_,rfl,DGet.k (k:=inl (q':Int)) hdx,_,rfl,?_⟩;rw[hnin];exact k
     ·refine⟨_,rfl,_,rfl,sz2,fun t ht=>?_⟩;have t1:=Zf (o:=.tup [.int (here:Nat),.int n]) ht;have st:=sx.trans t1;have hdt:=t1 _ _ hdx;have hnt:=t1 _ _ hnx;have et:upd Hx t (.tup [.int (here:Nat),.int n]) t=#[a,.tup,[.int (here:Nat),.int n]]:=Zd;have iot:=io.same t1;generalize upd Hx t (.tup [.int (here:Nat),.int n])=Ht at t1 st hdt hnt et iot;refine⟨_,rfl,_,rfl,_,rfl,d,_,rfl,hv▸DGet.k (k:=inl n) (st _ _ hd),ld,_,rfl,DPut.k (k:=inl (q':Int)) hdt ?_,?_⟩
      ·have:=io.len;omega
      have sd:Same H (upd Ht ld (.dK (putK into (inl (q':Int)) (.ref t)))):=Z6 hld st;have ed:upd Ht ld (.dK (putK into (inl (q':Int)) (.ref t))) ld=#[a,.dK,putK into (inl (q':Int)) (.ref t)]:=Zd;have en:upd Ht ld (.dK (putK into (inl (q':Int)) (.ref t))) ln=some (.lst (W0 line)):=by rw[Zi (Ne.symm nln)];exact hnt
      have iod:X3 (upd Ht ld (.dK (putK into (inl (q':Int)) (.ref t)))) (putK into (inl (q':Int)) (.ref t)) (line++[q']) (Km fr q' (here,n)) :=
       (iot.app hin et).mono fun c xs e=>by rw[Zi (Yw e hdt (fun z=>nomatch z))];exact e
      generalize upd Ht ld (.dK (putK into (inl (q':Int)) (.ref t)))=Hd at sd ed en iod;have hsz:(W0 line).length<sizeLine:=by unfold W0;rw[zu2];omega
      refine⟨_,rfl,ln,_,rfl,en,_,rfl,_,rfl,d,_,rfl,hv▸DGet.k (k:=inl n) (sd _ _ hd),_,en,hsz,line++[q'],Vw dep q' (dep here+1),Km fr q' (here,n),putK into (inl (q':Int)) (.ref t),_,rfl,Z6 fln sd,?_,?_,?_,B',Dn.app ?_ ⟨_,rfl⟩ old,fo.app hin B.memp hhm ha,?_,?_,?_,?_⟩
      ·rw[Zi nln];exact ed
      ·rw[Zd];unfold W0;rw[zu9];rfl
      ·exact iod.mono fun c xs e=>by rw[Zi (Yw e en (fun z=>nomatch z))];exact e
      ·have:=(zu4.mp hh).1;omega
      ·intro q hq;rcases zve.mp hq with z|z
       ·exact hlt q z
       ·rw[zu6.mp z];exact hq'l
      ·rw[zwa (zu4.mp hh).1];exact hh
      ·intro x hx;rw[old here hhm];exact all x hx
      ·intro m hm q2 h2;rw[etk] at hm;rcases zve.mp hm with z|z
       ·exact zvq _ (pr m z q2 h2)
       ·rw[zu6.mp z] at h2;rw[FP.inj q2 q' n h2 hq'];exact zvr _ (zu6.mpr rfl)
   ·refine Vb (b:=false) (fun Q k=>?_) (iteF (Zx ⟨line,dep,fr,into,_,rfl,sx,hdx,hnx,io,B,Dn,fo,hlt,hh,near,prev fun q2 h2=>absurd h2 (hno q2)⟩));refine⟨_,rfl,_,rfl,d,_,rfl,DGet.k (k:=inl n) (sx _ _ hd),_,rfl,?_⟩;rw[hv];exact iteF k
  ·rintro σ' Hx ⟨line,dep,fr,into,w7,rfl,sx,hdx,hnx,io,B,Dn,fo,hlt,hh,near,pr⟩;rw[zu2,zvk] at pr;have hlt3:=(zu4.mp hh).1;refine⟨line,dep,fr,into,_,_,by omega,rfl,sx,hdx,hnx,io,B,fun i q hi hq n q' ha=>?_,fo,hlt,fun here2 hh2 x hx=>?_⟩
   ·by_cases e:i=dn
    ·rw[e,hh] at hq;cases hq;obtain⟨⟨r2,h1,h2⟩,h3⟩:=ha;rw[hr'] at h1;cases h1;have hm:=pr n h2 q' h3;exact⟨hm,near q' hm⟩
    ·exact Dn i q ⋯ hq n q' ha
   ·have:=B.sorted dn (dn+1) here here2 ⋯ hh hh2;have:=near x hx;omega
 ·rw[zvf (show ¬ (((dn:Nat):Int)<(line.length:Nat)) by omega)];refine iteF ⟨_,rfl,?_⟩;have e:dn=line.length:=by omega
  subst e;exact h ld into line dep fr Ha hda io B Dn fo hlt sa hld
abbrev Tu:Stmt:=top 44
theorem Qm:Zl ["numbers","taken","number"] ["numbers","taken"] (Zj Tu):=fnS
theorem Jc(F:#[f,"free_referee","free_referee",Tu])(T:Tx K mg a):FnOk P w K mg base (CX1 P w) 1 f fd ["numbers","taken"] (Ez K):=by
 refine #[g,Qm];obtain⟨l,d,r,kvs,rfl,hl,hd,h⟩:=h;have hu:=Wq hr;refine⟨_,(Zb (Ys PassesOwn.leaving rfl (Yc (K:=K) rfl (pv 0)) (pN 2 Qm.nd)
  (Ze (Z3 (Sk (Mx hu (pv 2) (pv 1)))
   (Ze (Zn (pv 2)))
   Zp)))
 (Ze (Zn Yx))),?_⟩
 let jv3:Nat->L2.St->Hp->Prop:=fun i σ' H'=>(∃ u,σ'=[some (.ref l),some (.ref d),u])/\H'=H/\∀ n∈r.take i,(valV kvs (inl n:Key)).isSome=true
 refine⟨_,rfl,l,rfl,⟨_,SqL.of hl⟩,Xn (xs:=r.map V.int) jv3
  ⟨⟨none,rfl⟩,rfl,by simp⟩ (fun i σ' H' hi p=>by rw[p.2.1];exact SqL.of hl) (fun i x σ' H' hx p=>?_) (fun σ' H' p=>?_)⟩
 ·obtain⟨⟨u,rfl⟩,rfl,hp⟩:=p;have hi:i<r.length:=by have:=(zu4.mp hx).1;rw[zu2] at this;exact this
  have e:x=.int (r[i]'hi):=by
   rw[zu8,zu3 hi] at hx;exact(Option.some.inj hx).symm
  subst e;refine Vb (b:=!(valV kvs (inl (r[i]'hi):Key)).isSome) (fun Q k=>⟨_,rfl,_,rfl,d,_,rfl,DGet.k (k:=inl (r[i]'hi)) hd,_,rfl,k⟩) ?_;cases hv:valV kvs (inl (r[i]'hi):Key) with
  | none=>exact iteT ⟨_,rfl,h (some (r[i]'hi)) (fun n hn=>by cases hn;exact⟨zvx hi,hv⟩) (fun z=>nomatch z)⟩
  | some y =>
    refine iteF (Zx ⟨⟨_,rfl⟩,rfl,fun n hn=>?_⟩);rw[zvl hi] at hn;rcases zve.mp hn with z|z
    ·exact hp n z
    ·rw[zu6.mp z,hv];rfl
 ·obtain⟨⟨u,rfl⟩,rfl,hp⟩:=p;rw[zu2,zvk] at hp;exact h none (fun n z=>nomatch z) fun _=>hp
abbrev Gf:Stmt:=top 45
theorem P4:Zl ["into","place","number","steps","step"] ["into","place","number"] (Zj Gf):=fnS
theorem zeg(F:#[f,"traced","traced",Gf])(T:Tx K mg a):FnOk P w K mg base (CX1 P w) 1 f fd ["into","place","number"] (Bt K):=by
 refine #[g,P4];obtain⟨t,q,p,w,rows,gs,into,line,dep,fr,rfl,ht,io,fo,d0,hp,hq,hdq,h⟩:=h;have hu:=Wq hr;refine⟨_,(Zb (pS 3 P4.nd (Ya (Za (Yd (Za (pv 1) (Za (pv 2) Zc))) Zc)))
 (Zb (pS 4 P4.nd (pD hu (pv 0) (pv 1)))
 (Zb (C0 PassesOwn.leaving (Zo Ur (pv 4) Yx (Zt _))
  (Zb (Y4 (pv 3) (pv 4))
  (Ze (pS 4 P4.nd (pD hu (pv 0) (pI (iU K) (pv 4) Zg))))))
 (Zb (Z7 (zfd PySem.F.plainAttrs_list PySem.F.slot_list_reverse PySem.F.type_list_reverse zat (pv 3)))
 (Ze (Zn (pv 3))))))),?_⟩
 have line0:200<sizeLine:=by rw[sizeLine_eq];decide
 have get:∀ {H':Hp},Same H H'->∀ k:Nat,DGet H' t (.int (k:Nat)) (valV into (inl (k:Int):Key)):=fun {H'} hs k=>.inl ⟨into,inl (k:Int),ht.imp (hs _ _) fun ⟨o,e⟩=>⟨o,hs _ _ e⟩,rfl,rfl⟩;have fr0:∀ c∈line,fr c=none->c=p:=fun c hc hf=>by
  by_cases e:c=p
  ·exact e
  ·obtain⟨par,n,h1,_⟩:=fo.2 c hc e;rw[hf] at h1;cases h1
 have some_of:∀ c∈line,∃ v,valV into (inl (c:Int):Key)=some v:=fun c hc=>zwf.mp ((io.has c).mpr hc);refine⟨_,rfl,_,rfl,sz2,fun m hm=>⟨sz1,fun lt hlt=>?_⟩⟩;have s1:=Zf (o:=.tup [.int (q:Nat),oV w]) hm;have e1:upd H m (.tup [.int (q:Nat),oV w]) m=some (.tup (Vn (q,w))):=Zd;generalize upd H m (.tup [.int (q:Nat),oV w])=H1 at s1 e1 hlt;have s2:=Zf (o:=.lst [V.ref m]) hlt;have e2:upd H1 lt (.lst [V.ref m]) lt=#[a,.lst,[V.ref m]]:=Zd;have e3:=s2 _ _ e1;have s3:=s1.trans s2;have hltn:H lt=none:=s1.free hlt;generalize upd H1 lt (.lst [V.ref m])=H2 at s2 e2 e3 s3;obtain⟨v0,hv0⟩:=some_of q hq;refine⟨_,rfl,_,rfl,t,v0,rfl,hv0▸get s3 q,?_⟩;refine⟨fun mm σ' H'=>∃ (cur:Nat) (st:#[i]) (ts:#[b]) (v:V),mm=dep cur/\cur∈line/\valV into (inl (cur:Int):Key)=some v/\σ'=[#[c,t],#[e,(q:Nat)],#[a,oV,w],#[c,lt],some v]/\Same H H'/\H' lt=#[a,.lst,ts]/\Z9 H' ts (st.reverse.map Vn)/\Ch rows gs cur st q w/\st.length+dep cur=dep q+1,
  ⟨_,q,[(q,w)],_,v0,rfl,hq,hv0,rfl,s3,e2,.cons e3 .nil,.one q w,by show 1+dep q=_;omega⟩,?_⟩
 rintro mm σ' Ha ⟨cur,st,ts,v,rfl,hc,hv,rfl,sa,hta,htl,hch,hlen⟩;have htsl:ts.length=st.length:=by have:=htl.length;rw[zu2,List.length_reverse] at this;exact this
 refine⟨_,rfl,rfl,_,rfl,?_⟩;cases hf:fr cur with
 | none =>
   have hcp:=fr0 cur hc hf;subst hcp;have hvn:=io.none cur hc hf;rw[hv] at hvn;cases hvn;refine iteF ?_;refine⟨_,rfl,.inl ⟨rfl,_,SqL.of hta⟩,lt,ts,rfl,rfl,hta,_,rfl,?_⟩;refine h lt ts.reverse st _ Zd ?_ hch ⋯ (Z6 hltn sa) hltn;have hr:=htl.reverse;rw[<- List.map_reverse,List.reverse_reverse] at hr;exact hr.mono fun c xs e=>by rw[Zi (Yw e hta (fun z=>nomatch z))];exact e
 | some x =>
   obtain⟨par,n⟩:=x;obtain⟨tt,h1,h2⟩:=io.some cur hc par n hf;rw[hv] at h1;cases h1;have hcp:cur≠p:=fun z=>by rw[z,fo.1] at hf;cases hf
   obtain⟨par',n',h3,h4,h5,h6⟩:=fo.2 cur hc hcp;rw[hf] at h3;cases h3;obtain⟨v',hv'⟩:=some_of par h4;refine iteT ?_;refine⟨fun σ' H'=>∃ (st:#[i]) (ts:#[b]),σ'=[#[c,t],#[e,(q:Nat)],#[a,oV,w],#[c,lt],some v']/\Same H H'/\H' lt=#[a,.lst,ts]/\Z9 H' ts (st.reverse.map Vn)/\Ch rows gs par st q w/\st.length+dep par=dep q+1,
    fun σ' H' ⟨st,ts,a1,a2,a3,a4,a5,a6⟩=>⟨dep par,by omega,par,st,ts,v',rfl,h4,hv',a1,a2,a3,a4,a5,a6⟩,?_⟩
   have s4:Same H (upd Ha lt (.lst (ts++[V.ref tt]))):=Z6 hltn sa;refine⟨_,rfl,lt,_,rfl,hta,_,rfl,_,hta,by omega,?_⟩;refine⟨_,rfl,_,rfl,tt,_,_,_,rfl,rfl,SqT.of (s4 _ _ h2),rfl,t,v',rfl,hv'▸get s4 par,(par,some n) :: st,ts++[V.ref tt],rfl,s4,Zd,?_,.step h5 hch,?_⟩
   ·rw[zw5,zu9];exact(htl.mono fun c xs e=>by rw[Zi (Yw e hta (fun z=>nomatch z))];exact e).snoc (s4 _ _ h2)
   ·rw[zvp];omega
abbrev Ck:Stmt:=top 46
theorem Q9:Zl ["may","given","place","taken","into","reached","number"] ["may","given","place"] (Zj Ck):=fnS
theorem zgx(F:#[f,"chain","chain",Ck])(T:Tx K mg a)(znl:Z4 P w K mg base "places_taken" 1 ["given"] (D5 K))(zn5:Z4 P w K mg base "steps_into" 1 ["may","taken","start"] (za2 K))(zpo:Z4 P w K mg base "free_referee" 1 ["numbers","taken"] (Ez K))(zq7:Z4 P w K mg base "traced" 1 ["into","place","number"] (Bt K)):FnOk P w K mg base (CX1 P w) 2 f fd ["may","given","place"] (D3 K):=by
 refine #[g,Q9];obtain⟨l,lg,ls,rows,nu,gs,p,rfl,hl,il,mo,hg,FP,hp,hgp,h⟩:=h;refine⟨_,(Zb (pS 3 Q9.nd (pF znl hr (Za (pv 1) Zc)))
 (Zb (pS 4 Q9.nd (pF zn5 hr (Za (pv 0) (Za (pv 3) (Za (pv 2) Zc)))))
 (Zb (Ys PassesOwn.leaving rfl (zcg (pv 4)) (pN 5 Q9.nd)
  (Zb (pS 6 Q9.nd (pF zpo hr (Za (pI (iL K) (pv 0) (pv 5)) (Za (pv 3) Zc))))
  (Ze (Z3 (Zo Ur (pv 6) Yx (Zt _))
   (Ze (Zn (pF zq7 hr (Za (pv 4) (Za (pv 5) (Za (pv 6) Zc))))))
   Zp))))
 (Ze (Zn (pF zq7 hr (Za (pv 4) (Za (Zm (zdt rfl) (by rfl) T.zsd PyProof.Rows.boot_max (Za (pv 4) Zc)) (Za Yx Zc))))))))),?_⟩
 have hrl:rows.length<=100:=zvh mo.few ⋯;refine⟨_,rfl,lg,gs,rfl,hg,FP.one,FP.inj,by rw[FP.len];exact hrl,fun d kvs H1 hd1 tk s1 hdn=>?_⟩;refine⟨_,rfl,_,rfl,_,rfl,l,d,ls,rows,kvs,gs,p,rfl,s1 _ _ hl,il.same s1,hrl,hd1,tk,FP,hp,fun t into line dep fr H2 ht io B Dn fo hlt s2 htn=>?_⟩;have hbound:line.length<=rows.length:=by
  have:=B.nodup.length_le_of_subset (l₂:=List.range rows.length) fun c hcc=>zv9.mpr (hlt c hcc);rw[zv4] at this;exact this
 have hd2:=s2 _ _ hd1;have s02:=s1.trans s2;have hfree:∀ q n,(∃ r,rows[q]?=some r/\n∈r)->valV kvs (inl n:Key)=none->Oy rows gs q n:=fun q n hr hv=>⟨hr,fun j hj=>by rw[tk.has n j hj] at hv;cases hv⟩
 have hdep:∀ q∈line,dep q<=100:=fun q hq=>by
  obtain⟨pre,hc,hlp⟩:=fo.back B.d0 (dep q) q q none [(q,none)] rfl hq (.one q none);have nd:=hc.nodup fun k hk=>by
   rw[zu5,hlp];have:=(B.full Dn hk).2;show dep q+1<=k+1;omega
  have hlt':=hc.lt FP hp;have:=nd.length_le_of_subset (l₂:=List.range rows.length) fun x hx=>by
   obtain⟨s,hs,rfl⟩:=zvb.mp hx;exact zv9.mpr (hlt' s hs)
  rw[zu2,zv4,zu5,hlp] at this;omega
 have htH:H t=none:=s1.free htn;refine⟨_,rfl,t,into,rfl,ht,fun o=>?_⟩;have e0:upd H2 t (.frz o (.dK into)) t=some (.frz o (.dK into)):=Zd;have s3:Same H (upd H2 t (.frz o (.dK into))):=Z6 htH s02;have hd3:upd H2 t (.frz o (.dK into)) d=#[a,.dK,kvs]:=by rw[Zi (Zh hd1 htn)];exact hd2
 have io3:X3 (upd H2 t (.frz o (.dK into))) into line fr:=io.mono fun c xs e=>by rw[Zi (Yw e ht (fun z=>nomatch z))];exact e
 generalize upd H2 t (.frz o (.dK into))=H3 at e0 s3 hd3 io3;have hil:into.length=line.length:=io.len;have key:∀ (i:Nat) (k:Key) (v:V),into[i]?=some (k,v)->∃ q:Nat,line[i]?=some q/\k=inl (q:Int):=fun i k v e=>by
  have:=congrArg (·[i]?) io.keys;simp only[zu8,e,zv6] at this;cases hq:line[i]? with
  | none=>rw[hq] at this;cases this
  | some q=>rw[hq] at this;exact⟨q,rfl,Option.some.inj this⟩
 let jv4:Nat->L2.St->Hp->Prop:=fun i σ' H'=>(∃ u v,σ'=[some (.ref l),some (.ref lg),some (.int p),some (.ref d),some (.ref t),u,v])/\H'=H3/\∀ (j q:Nat),j<i->line[j]?=some q->¬ Us rows gs q
 refine Bs (a:=t) (o:=o) (kvs:=into) jv4 ⟨⟨none,none,rfl⟩,rfl,fun j q hj=>absurd hj (zxd _)⟩ (fun i σ' H' _ p=>by rw[p.2.1];exact e0) (fun i k v σ' H' hk hP=>?_) fun σ' H' hP=>?_
 ·obtain⟨⟨u,v',rfl⟩,rfl,hno⟩:=hP;obtain⟨q,hq,rfl⟩:=key i k v hk;have hqm:=zvc hq;have hqr:rows[q]?=some (rows[q]'(hlt q hqm)):=zu3 (hlt q hqm);generalize (rows[q]'(hlt q hqm))=r at hqr;obtain⟨lr,e2,e3⟩:=il.getR hqr;have hl':(ls.map V.ref)[q]?=#[c,lr]:=by rw[zu8,e2];rfl
  refine⟨_,rfl,_,rfl,l,_,_,_,rfl,rfl,SqL.of (s3 _ _ hl),Z0 hl',_,rfl,lr,d,r,kvs,rfl,s3 _ _ e3,hd3,fun w hw1 hw2=>?_⟩;walk_at "if";refine Vb (b:=!decide (oV w=.non)) (fun Q k=>⟨_,rfl,rfl,_,rfl,k⟩) ?_;cases w with
  | none =>
    refine iteF (Zx ⟨⟨_,_,rfl⟩,rfl,fun j q2 hj hq2=>?_⟩);by_cases e:j=i
    ·rw[e,hq] at hq2;cases hq2;rintro⟨n,⟨r2,h1,h2⟩,h3⟩;rw[hqr] at h1;cases h1;have:=hw2 rfl n h2;rw[tk.not n h3] at this;cases this
    ·exact hno j q2 ⋯ hq2
  | some n =>
    obtain⟨hn1,hn2⟩:=hw1 n rfl;refine iteT ⟨_,rfl,_,rfl,_,rfl,t,q,p,some n,rows,gs,into,line,dep,fr,rfl,.inr ⟨o,e0⟩,io3,fo,B.d0,B.memp,hqm,hdep q hqm,fun lt ts st H4 h1 h2 h3 h4 s4 hltn=>?_⟩;have hf:=hfree q n ⟨r,hqr,hn1⟩ hn2;have Di:Done rows gs line dep i:=fun j x hj=>Dn j x (Nat.lt_trans hj (zu4.mp hq).1);exact h lt ts st q (some n) H4 h1 h2 (zaz B Di hq hno hf h3 h4) (s3.trans s4) (s3.free hltn)
 ·obtain⟨⟨u,v',rfl⟩,rfl,hno⟩:=hP;have hpos:0<line.length:=List.length_pos_of_mem B.memp;refine⟨_,rfl,⟨_,rfl,t,into,line.map fun q:Nat=>(q:Int),rfl,.inr ⟨o,e0⟩,by rw[io.keys,zwn];rfl,by rw[zu2];exact hpos,fun M hM hmax=>?_⟩⟩;obtain⟨e,he,rfl⟩:=zvb.mp hM;refine⟨t,e,p,none,rows,gs,into,line,dep,fr,rfl,.inr ⟨o,e0⟩,io3,fo,B.d0,B.memp,he,hdep e he,fun lt ts st H4 h1 h2 h3 h4 s4 hltn=>?_⟩;refine h lt ts st e none H4 h1 h2 (za0 B Dn (fun q hq=>?_) (fun q hq=>?_) h3 h4) (s3.trans s4) (s3.free hltn)
  ·obtain⟨j,hj,e2⟩:=zwe hq;exact hno j q ⋯ (by rw[zu3 hj,e2])
  ·have:=hmax _ (zvb.mpr ⟨q,hq,rfl⟩);omega
abbrev Lp:Stmt:=top 47
theorem Qa:Zl ["given","steps","behind","place","number"] ["given","steps"] (Zj Lp):=fnS
theorem zbo(F:#[f,"stepped","stepped",Lp])(T:Tx K mg a):FnOk P w K mg base (CX1 P w) 1 f fd ["given","steps"] (M7 K):=by
 refine #[g,Qa];obtain⟨b,c,xs,ts,st,rfl,hb,hc,ht,hst,ho,hl,hls,h⟩:=h;refine⟨_,(Zb (pS 2 Qa.nd (Xm (Xa (K:=K) rfl) (by rfl) T.zno PyProof.Rows.boot_list (Za (pv 0) Zc)))
 (Zb (Ys PassesOwn.leaving rfl (Yc (K:=K) rfl (pv 1)) (Xy (K:=K) (n:=2) rfl rfl (Zw (pN 3 Qa.nd) (Zw (pN 4 Qa.nd) Xx)))
  (Ze (Oo (pv 4) (ziw (pv 2) (pv 3) zfc))))
 (Ze (Zn (pv 2))))),?_⟩
 have htl:ts.length=st.length:=by have:=ht.length;rw[zu2] at this;exact this
 refine⟨_,rfl,b,_,rfl,.inl (SqL.of hb),fun l hln=>?_⟩
 let jv5:Nat->L2.St->Hp->Prop:=fun i σ' H'=>(∃ u v,σ'=[some (.ref b),some (.ref c),some (.ref l),u,v])/\H' l=#[a,.lst,Yu (st.take i) xs]/\(∀ a o,H a=some o->H' a=some o)
 refine⟨_,rfl,c,rfl,⟨ts,SqL.of (Zf hln _ _ hc)⟩,Xn (xs:=ts) jv5 ⟨⟨none,none,rfl⟩,Zd,Zf hln⟩ (fun i σ' H' hi p=>SqL.of (p.2.2 _ _ hc)) (fun i x σ' H' hx p=>?_) fun σ' H' p=>?_⟩
 ·obtain⟨⟨u,v,rfl⟩,hl2,hs⟩:=p;have hi:i<st.length:=by rw[<- htl];exact(zu4.mp hx).1
  obtain⟨t,e1,e2⟩:=zla ht (zu3 hi);rw[hx] at e1;cases e1;refine⟨t,_,rfl,SqT.of (hs _ _ e2),rfl,_,_,rfl,_,_,rfl,rfl,?_⟩;have hlen:(Yu (st.take i) xs).length=xs.length:=Wf _ _;have hp:(st[i]'hi).1<xs.length:=hst _ (zvx hi);have e3:Yu (st.take (i+1)) xs=(Yu (st.take i) xs).set (st[i]'hi).1 (oV (st[i]'hi).2):=by
   rw[zvl hi,Ey];rfl
  refine⟨_,rfl,_,rfl,_,rfl,l,_,_,(st[i]'hi).1,rfl,rfl,hl2,(show ixN _ (((st[i]'hi).1:Nat):Int)=some _ by unfold ixN;rw[if_pos ⋯,if_pos ⋯,zvj]),⟨_,_,rfl⟩,?_,fun a o q=>?_⟩
  ·rw[e3];exact Zd
  ·rw[Zi (Zh q hln)];exact hs a o q
 ·obtain⟨⟨u,v,rfl⟩,hl2,hs⟩:=p;rw[htl,zvk] at hl2;exact⟨_,rfl,h l H' hl2 hs hln⟩
abbrev zbp:Stmt:=top 49
theorem Jz:Zl ["may","given","place"] ["may"] (Zj zbp):=fnS
theorem zh6(F:#[f,"fill","fill",zbp])(T:Tx K mg a)(zor:Z4 P w K mg base "stepped" 1 ["given","steps"] (M7 K))(zqq:Z4 P w K mg base "chain" 2 ["may","given","place"] (D3 K)):FnOk P w K mg base (CX1 P w) 3 f fd ["may"] (zfv K):=by
 refine #[g,Jz];obtain⟨l,ls,rows,nu,rfl,hl,il,mo,h⟩:=h;refine⟨_,(Zb (Vp (i:=1) Jz.nd rfl rfl rfl (cT [] []) (Yc (K:=K) rfl (pv 0)) (fun _ _ _ _ _=>W8) fun _ _ _ _ _=>Yx)
 (Zb (Ys PassesOwn.leaving rfl (Y3 rfl T.zmx (Za (Zm (cL K) (by rfl) T.zmg PySem.boot_len (Za (pv 0) Zc)) Zc)) (pN 2 Jz.nd)
  (Ze (pS 1 Jz.nd (pF zor hr (Za (pv 1) (Za (pF zqq hr (Za (pv 0) (Za (pv 1) (Za (pv 2) Zc)))) Zc))))))
 (Ze (Zn (pv 1))))),?_⟩
 have hlen:=il.length;have hrl:rows.length<=100:=zvh mo.few ⋯;refine⟨_,rfl,l,rfl,⟨_,SqL.of hl⟩,?_⟩;refine Wn (K:=K) (a:=l) (xs:=ls.map V.ref) (fun i ys H'=>H'=H/\ys=(rows.take i).map fun _=>V.non) ⟨rfl,by simp⟩ (fun i ys H' _ z=>by rw[z.1];exact SqL.of hl) (szN (by rw[zu2];omega)) (fun i ys H' z=>by rw[z.2,zu2,zw7];omega) ?_ ?_
 ·rintro i x ys H' hx ⟨rfl,rfl⟩;have hi:i<rows.length:=by
   have:=(zu4.mp hx).1;rw[zu2] at this;omega
  unfold tYes;dsimp only;rw[if_pos rfl];refine⟨rfl,?_⟩;rw[zvl hi,zu9];rfl
 ·rintro ys H' ⟨rfl,rfl⟩ lg hlg;rw[zu2,hlen,zvk];have s1:=Zf (o:=.lst (rows.map fun _=>V.non)) hlg;have e1:upd H' lg (.lst (rows.map fun _=>V.non)) lg=some (.lst (rows.map fun _=>V.non)):=Zd;generalize upd H' lg (.lst (rows.map fun _=>V.non))=H1 at s1 e1;refine⟨_,rfl,l,_,rfl,.inl (SqL.of (s1 _ _ hl)),_,rfl,by omega,by rw[zu2];omega,?_⟩;rw[zu2,hlen,zvj]
  let jv6:Nat->L2.St->Hp->Prop:=fun i σ' Hx=>∃ (lg:Addr) (gs:List V) (v2:Option V),σ'=[#[c,l],#[c,lg],v2]/\Same H' Hx/\Hx lg=#[a,.lst,gs]/\U6 rows gs i/\H' lg=none
  refine Xu jv6 ⟨lg,_,_,rfl,s1,e1,Fe rows,hlg⟩ ?_ ?_
  ·rintro i σ' Hx hi ⟨lg,gs,v2,rfl,sx,hgx,F,hn⟩;rw[zwb];refine⟨_,rfl,⟨_,rfl,_,rfl,_,rfl,l,lg,ls,rows,nu,gs,i,rfl,sx _ _ hl,il.same sx,mo,hgx,F.fill,hi,F.non (zvd _) hi,fun lt ts st e w H2 h1 h2 c s2 hltn=>?_⟩⟩;refine⟨lg,lt,gs,ts,st,rfl,s2 _ _ hgx,h1,h2,fun s hs=>?_,F.fill.one,by rw[F.fill.len];omega,?_,fun l' H3 h3 s3 hl'=>?_⟩
   ·rw[F.fill.len];exact c.ch.lt F.fill hi s hs
   ·have:=c.len F.fill hi;omega
   ·exact⟨l',_,_,rfl,(sx.trans s2).trans s3,h3,F.step hi c,(sx.trans s2).free hl'⟩
  ·rintro σ' Hx ⟨lg,gs,v2,rfl,sx,hgx,F,hn⟩;exact⟨_,rfl,h lg gs Hx hgx F.fill F.last sx hn⟩
abbrev Tv:Stmt:=top 50
theorem Jd:Zl ["given"] ["given"] (Zj Tv):=fnS
theorem Je(F:#[f,"left_without","left_without",Tv])(T:Tx K mg a):FnOk P w K mg base (CX1 P w) 1 f fd ["given"] (zay K):=by
 refine #[g,Jd];obtain⟨b,xs,rfl,hb,ho,hl,h⟩:=h;refine⟨_,Ze (Zn (N5 rfl (Og.mk (xo:=["place","number"]) (ys:=[]) (js:=[]) rfl rfl ⋯ ⋯ rfl (by repeat' (first|exact True.intro|apply And.intro|rfl)) (by repeat' (first|exact True.intro|apply And.intro|rfl)) ⋯) (zcf (K:=K) rfl rfl T.zog (Za (pv 0) Zc)) (fun _ _ _ _ _=>Sa (Zo Oq (pv 1) Yx (Zt _))) (fun _ _ _ _ _=>(Xy (K:=K) (n:=2) rfl rfl (Zw (Vr (i:=0) (show List.Nodup [("place":Str),("number":Str)] by decide +kernel) rfl (by first|exact Or.inl rfl|exact Or.inr rfl)) (Zw (Vr (i:=1) (show List.Nodup [("place":Str),("number":Str)] by decide +kernel) rfl (by first|exact Or.inl rfl|exact Or.inr rfl)) Xx)))) fun _ _ _ _ _=>(pv 0))),?_⟩;refine⟨_,rfl,b,rfl,⟨_,SqL.of hb⟩,za1 (fun i=>decide (xs[i]?=some .non)) (fun i=>.int (i:Nat)) ⋯ (SqL.of hb) (fun i x t H' N ys hx hs ht k=>?_) fun H' l hs hl'=>?_⟩
 ·refine⟨t,_,rfl,SqT.of Zd,rfl,?_⟩;have k':=k _ (hs.trans (Zf (o:=.tup [.int (i:Nat),x]) ht));refine⟨_,_,rfl,_,_,rfl,rfl,⟨[#[e,(i:Nat)],some x],rfl,rfl⟩,?_⟩;rw[hx] at k';have e2:decide (some x=some V.non)=decide (x=V.non):=by
   by_cases z:x=V.non
   ·rw[zva z,zva (congrArg some z)]
   ·rw[zvf z,zvf fun q=>z (Option.some.inj q)]
  rw[e2] at k';refine⟨_,rfl,rfl,_,rfl,?_⟩;by_cases z:x=V.non
  ·rw[zva z] at k' ⊢;exact⟨_,rfl,k'⟩
  ·rw[zvf z] at k' ⊢;exact k'
 ·exact h l _ Zd (hs.trans (Zf hl')) (hs.free hl')
abbrev Nj:Stmt:=top 51
theorem Ay:Zl ["given","number"] ["given","number"] (Zj Nj):=fnS
theorem Az(F:#[f,"place_of","place_of",Nj])(T:Tx K mg a):FnOk P w K mg base (CX1 P w) 1 f fd ["given","number"] (Ew K):=by
 refine #[g,Ay];obtain⟨b,xs,n,rfl,hb,ho,hl,h⟩:=h;refine⟨_,Ze (Zn (Cy (Zo (Ia (K:=K) rfl) (pv 1) (pv 0) (by with_unfolding_all rfl)) (zid PySem.F.plainAttrs_list PySem.F.slot_list_index PySem.F.type_list_index zfz (pv 0) (Za (pv 1) Zc)) Yx)),?_⟩;have fl:xs.all Rb=true:=zw8.mpr fun x hx=>by rcases ho x hx with rfl|⟨_,rfl⟩<;>rfl
 refine⟨_,rfl,_,rfl,b,xs,rfl,.inl (SqL.of hb),rfl,fl,_,rfl,?_⟩;have key:=@zf0 xs n ho;show if inV (V.int n) xs=true then _ else _
 cases hp:X2 xs n with
 | none =>
   rw[hp] at h;have hno:¬ inV (V.int n) xs=true:=fun z=>by
    obtain⟨j,hj⟩:=key.mp z;have:=List.find?_eq_none.mp hp j (zv9.mpr (zu4.mp hj).1);exact this (zva hj)
   rw[if_neg hno];exact h H (Same.refl H)
 | some j =>
   rw[hp] at h;obtain⟨h1,h2,h3⟩:=List.find?_range_eq_some.mp hp;have hj:xs[j]?=#[e,n]:=of_decide_eq_true h1;rw[if_pos (key.mpr ⟨j,hj⟩)];refine⟨_,rfl,?_,_,rfl,b,xs,.int n,j,rfl,rfl,hb,rfl,fl,⟨_,hj,(Jx (.inr ⟨_,rfl⟩)).mpr rfl⟩,fun m z hm hz=>?_,h H (Same.refl H)⟩
   ·exact .inl ⟨rfl,xs,SqL.of hb⟩
   ·have:=h3 m hm;have hne:¬ z=.int n:=fun q=>by
     rw[q] at hz;rw[zva hz] at this;cases this
    cases hb2:eqV z (.int n) with
    | false=>rfl
    | true=>exact absurd ((Jx (ho z (zvc hz))).mp hb2) hne
abbrev Nk:Stmt:=top 53
theorem Wy:Zl ["may","given","taken","places","gap","referees","place","number"] ["may","given"] (Zj Nk):=fnS
theorem A0(F:#[f,"shortage","shortage",Nk])(T:Tx K mg a)(znl:Z4 P w K mg base "places_taken" 1 ["given"] (D5 K))(znm:Z4 P w K mg base "left_without" 1 ["given"] (zay K))(zn5:Z4 P w K mg base "steps_into" 1 ["may","taken","start"] (za2 K)):FnOk P w K mg base (CX1 P w) 2 f fd ["may","given"] (zcj K):=by
 refine #[g,Wy];obtain⟨l,lg,ls,rows,nu,gs,rfl,hl,il,mo,hg,FP,NA,h⟩:=h;have hu:=Wq hr;refine⟨_,(Zb (pS 2 Wy.nd (pF znl hr (Za (pv 1) Zc)))
 (Zb (pS 3 Wy.nd Ra)
 (Zb (Ys PassesOwn.leaving rfl (Yc (K:=K) rfl (pF znm hr (Za (pv 1) Zc))) (pN 4 Wy.nd)
  (Ze (Z7 (zid PySem.F.plainAttrs_dict PySem.F.slot_dict_update PySem.F.type_dict_update zdv (pv 3) (Za (pF zn5 hr (Za (pv 0) (Za (pv 2) (Za (pv 4) Zc)))) Zc)))))
 (Zb (pS 5 Wy.nd Ra)
 (Zb (Ys PassesOwn.leaving rfl (zcg (pv 3)) (pN 6 Wy.nd)
  (Ze (Ys PassesOwn.leaving rfl (Yc (K:=K) rfl (pI (iL K) (pv 0) (pv 6))) (pN 7 Wy.nd)
   (Ze (Ym hu (pv 5) (pv 7) Xc rfl)))))
 (Ze (Zn (Yd (Za (Zm (Ry rfl) (by rfl) T.zph PyProof.Rows.boot_sorted (Za (pv 3) Zc)) (Za (Zm (Ry rfl) (by rfl) T.zph PyProof.Rows.boot_sorted (Za (pv 5) Zc)) Zc)))))))))),?_⟩
 have hrl:rows.length<=100:=zvh mo.few ⋯;have hgl:gs.length<=100:=by rw[FP.len];exact hrl
 have line0:1000<sizeLine:=Vm ⋯;refine⟨_,rfl,lg,gs,rfl,hg,FP.one,FP.inj,hgl,fun d kvs H1 hd1 tk s1 hdn=>?_⟩;intro lp hlp;have s2:=Zf (o:=.dK []) hlp;have e2:upd H1 lp (.dK []) lp=#[a,.dK,[]]:=Zd;have hlpn:H lp=none:=s1.free hlp;have npd:lp≠d:=Ne.symm (Zh hd1 hlp);have s02:=s1.trans s2;generalize upd H1 lp (.dK [])=H2 at s2 e2 s02;have hd2:=s2 _ _ hd1;have hlft:=@Tg gs;refine⟨_,rfl,lg,gs,rfl,s02 _ _ hg,FP.one,hgl,fun ln H3 hln s3 fln=>?_⟩;refine⟨ln,rfl,⟨_,SqL.of hln⟩,?_⟩;have nln:ln≠lp:=Ne.symm (Zh e2 fln);have hbound:∀ line:List Nat,line.Nodup->(∀ c∈line,c<rows.length)->line.length<=rows.length:=fun line nd hc=>by
  have:=nd.length_le_of_subset (l₂:=List.range rows.length) fun c hcc=>zv9.mpr (hc c hcc);rw[zv4] at this;exact this
 have hwlt:∀ g q k,g<rows.length->Walk rows gs g q k->q<rows.length:=fun g q k hg' hw=>by
  cases hw with
  | nil=>exact hg'
  | snoc _ a=>rw[<- FP.len];exact(zu4.mp a.2).1
 refine Xn (K:=K) (a:=ln) (xs:=(Xr gs).map fun i=>V.int (i:Nat)) (fun i σ' H'=>∃ (v4:Option V) (kp:List (Key×V)) (pl:List Nat),σ'=[#[c,l],#[c,lg],#[c,d],#[c,lp],v4,none,none,none]/\Same H H'/\(∀ b o,H3 b=some o->b≠lp->H' b=some o)/\H' lp=#[a,.dK,kp]/\kp.map (·.1)=pl.map (fun q:Nat=>(inl (q:Int):Key))/\pl.Nodup/\∀ q,q∈pl↔∃ g k,g∈(Xr gs).take i/\Walk rows gs g q k)
  ⟨_,[],[],rfl,s02.trans s3,fun _ _ e _=>e,s3 _ _ e2,rfl,zww,by simp⟩ (fun i σ' H' _ ⟨_,_,_,_,_,z,_⟩=>SqL.of (z _ _ hln nln)) ?_ ?_
 ·rintro i x σ' Ha hx ⟨v4,kp,pl,rfl,sa,k3,hpa,kk,nd,mem⟩;have hi:i<(Xr gs).length:=by have:=(zu4.mp hx).1;rw[zu2] at this;exact this
  have etk:(Xr gs).take (i+1)=(Xr gs).take i++[(Xr gs)[i]'hi]:=zvl hi;have hgm:(Xr gs)[i]'hi∈Xr gs:=zvx hi;have ex:x=.int (((Xr gs)[i]'hi:Nat):Int):=by rw[zu8,zu3 hi] at hx;exact(Option.some.inj hx).symm
  generalize ((Xr gs)[i]'hi)=g at etk hgm ex;subst ex;have hgr:g<rows.length:=by rw[<- FP.len];exact(zu4.mp (Tg.mp hgm)).1
  have hda:=k3 _ _ (s3 _ _ hd2) (Ne.symm npd);have hkl:kp.length<=100:=by
   have:=congrArg List.length kk;rw[zu2,zu2] at this;rw[this];refine zvh (hbound pl nd fun q hq=>?_) hrl;obtain⟨g',k,h1,h2⟩:=(mem q).mp hq;refine hwlt g' q k ?_ h2;rw[<- FP.len];exact(zu4.mp (Tg.mp (zwx h1))).1
  refine⟨_,rfl,.inr (.inr (.inl ⟨rfl,.inl ⟨_,hpa⟩⟩)),_,rfl,_,rfl,_,rfl,l,d,ls,rows,kvs,gs,g,rfl,sa _ _ hl,il.same sa,hrl,hda,tk,FP,hgr,fun t into line dep fr Hb ht io B Dn fo hlt sb htn=>?_⟩;have hll:=hbound line B.nodup hlt;have hil:=io.len;have hpb:=sb _ _ hpa;refine⟨lp,t,kp,into,rfl,rfl,Zh hpa htn,hpb,ht,by omega,?_⟩;have kb:∀ b o,H3 b=some o->b≠lp->upd Hb lp (.dK (Ud kp into)) b=some o:=fun b o e n=>by rw[Zi n];exact sb _ _ (k3 b o e n)
  refine⟨_,Ud kp into,E2 pl line,rfl,Z6 hlpn (sa.trans sb),kb,Zd,Il zlz kk io.keys,Kn nd,fun q=>?_⟩;rw[E3,mem,etk];constructor
  ·rintro(⟨g',k,h1,h2⟩|hq)
   ·exact⟨g',k,zvq _ h1,h2⟩
   ·exact⟨g,dep q,by simp,B.walk q hq⟩
  ·rintro⟨g',k,h1,h2⟩;rcases zve.mp h1 with z|z
   ·exact .inl ⟨g',k,z,h2⟩
   ·rw[zu6.mp z] at h2;exact .inr (B.full Dn h2).1
 ·rintro σ' Ha ⟨v4,kp,pl,rfl,sa,k3,hpa,kk,nd,mem⟩;rw[zu2,zvk] at mem;have mem:∀ q,q∈pl↔∃ g k,gs[g]?=some .non/\Walk rows gs g q k:=fun q=>by
   rw[mem q];exact⟨fun ⟨g,k,a,b⟩=>⟨g,k,Tg.mp a,b⟩,fun ⟨g,k,a,b⟩=>⟨g,k,Tg.mpr a,b⟩⟩
  have hplt:∀ q∈pl,q<rows.length:=fun q hq=>by
   obtain⟨g,k,h1,h2⟩:=(mem q).mp hq;exact hwlt g q k (by rw[<- FP.len];exact(zu4.mp h1).1) h2
  have hpl20:pl.length<=20:=zvh (hbound pl nd hplt) mo.few;intro lr hlr;have e5:upd Ha lr (.dK []) lr=#[a,.dK,[]]:=Zd;have s5:=sa.trans (Zf (o:=.dK []) hlr);have hp5:=Zf (o:=.dK []) hlr _ _ hpa;have nlr:lr≠lp:=Ne.symm (Zh hpa hlr);have hlrn:H lr=none:=sa.free hlr;generalize upd Ha lr (.dK [])=H5 at e5 s5 hp5;refine⟨_,rfl,lp,kp,rfl,hp5,fun o=>?_⟩;have e6:upd H5 lp (.frz o (.dK kp)) lp=some (.frz o (.dK kp)):=Zd;have r6:upd H5 lp (.frz o (.dK kp)) lr=#[a,.dK,[]]:=by rw[Zi nlr];exact e5
  have s6:Same H (upd H5 lp (.frz o (.dK kp))):=Z6 hlpn s5;generalize upd H5 lp (.frz o (.dK kp))=H6 at e6 r6 s6;have key:∀ (i:Nat) (k:Key) (v:V),kp[i]?=some (k,v)->∃ q:Nat,pl[i]?=some q/\k=inl (q:Int):=fun i k v e=>by
   have:=congrArg (·[i]?) kk;simp only[zu8,e,zv6] at this;cases hq:pl[i]? with
   | none=>rw[hq] at this;cases this
   | some q=>rw[hq] at this;exact⟨q,rfl,Option.some.inj this⟩
  have hkpl:kp.length=pl.length:=by have:=congrArg List.length kk;rw[zu2,zu2] at this;exact this
  have rbound:∀ rl:List Int,rl.Nodup->(∀ n∈rl,n∈nu)->rl.length<=30:=fun rl n1 n2=>zvh (n1.length_le_of_subset n2) mo.crowd
  let jv7:Nat->L2.St->Hp->Prop:=fun i σ' H'=>∃ (v6 v7:Option V) (kr:List (Key×V)) (rl:List Int),σ'=[#[c,l],#[c,lg],#[c,d],#[c,lp],v4,#[c,lr],v6,v7]/\Same H H'/\H' lp=some (.frz o (.dK kp))/\H' lr=#[a,.dK,kr]/\kr.map (·.1)=rl.map (inl:Int->Key)/\rl.Nodup/\∀ n,n∈rl↔∃ p∈pl.take i,∃ r,rows[p]?=some r/\n∈r
  refine Bs (a:=lp) (o:=o) (kvs:=kp) jv7
   ⟨_,_,[],[],rfl,s6,e6,r6,rfl,zww,by simp⟩ (fun i σ' H' _ ⟨_,_,_,_,_,_,z,_⟩=>z) (fun i k v σ' Hc hk hP=>?_) (fun σ' Hc hP=>?_)
  ·obtain⟨v6,v7,kr,rl,rfl,sc,hpc,hrc,kkr,ndr,memr⟩:=hP;obtain⟨q,hq,rfl⟩:=key i k v hk;have hqm:=zvc hq;have hi:i<pl.length:=(zu4.mp hq).1;have etk:pl.take (i+1)=pl.take i++[q]:=by
    rw[zvl hi];rw[zu3 hi] at hq;rw[Option.some.inj hq]
   have hqr:rows[q]?=some (rows[q]'(hplt q hqm)):=zu3 (hplt q hqm);have hrm:rows[q]'(hplt q hqm)∈rows:=zvx _;generalize (rows[q]'(hplt q hqm))=r at hqr hrm;obtain⟨lq,e2',e3⟩:=il.getR hqr;have hl':(ls.map V.ref)[q]?=#[c,lq]:=by rw[zu8,e2'];rfl
   refine⟨_,rfl,_,rfl,l,_,_,_,rfl,rfl,SqL.of (sc _ _ hl),Z0 hl',lq,rfl,⟨_,SqL.of (sc _ _ e3)⟩,?_⟩
   let jv8:Nat->L2.St->Hp->Prop:=fun j σ' H'=>∃ (v7:Option V) (kr:List (Key×V)) (rl:List Int),σ'=[#[c,l],#[c,lg],#[c,d],#[c,lp],v4,#[c,lr],#[e,(q:Nat)],v7]/\Same H H'/\H' lp=some (.frz o (.dK kp))/\H' lr=#[a,.dK,kr]/\kr.map (·.1)=rl.map (inl:Int->Key)/\rl.Nodup/\∀ n,n∈rl↔(∃ p∈pl.take i,∃ r,rows[p]?=some r/\n∈r)\/n∈r.take j
   refine Xn (K:=K) (a:=lq) (xs:=r.map V.int) jv8
    ⟨_,kr,rl,rfl,sc,hpc,hrc,kkr,ndr,fun n=>by rw[memr];simp⟩ (fun j σ' H' _ ⟨_,_,_,_,z,_⟩=>SqL.of (z _ _ e3)) ?_ ?_
   ·rintro j y σ' Hd hy ⟨w7,kr,rl,rfl,sd,hpd,hrd,kkr,ndr,memr⟩;have hj:j<r.length:=by have:=(zu4.mp hy).1;rw[zu2] at this;exact this
    have hrj:r[j]?=some (r[j]'hj):=zu3 hj;have etj:r.take (j+1)=r.take j++[r[j]'hj]:=zvl hj;generalize (r[j]'hj)=n at hrj etj;have ey:y=.int n:=by rw[zu8,hrj] at hy;exact(Option.some.inj hy).symm
    subst ey;have hsub:∀ m∈rl,m∈nu:=fun m hm=>by
     rcases(memr m).mp hm with ⟨p,_,r',h1,h2⟩|h1
     ·exact(mo.sub r' (zvc h1)).2 m h2
     ·exact(mo.sub r hrm).2 m (zwx h1)
    have hkr:kr.length<=30:=by
     have:=congrArg List.length kkr;rw[zu2,zu2] at this;rw[this];exact rbound rl ndr hsub
    refine⟨_,rfl,_,rfl,lr,_,rfl,DPut.k (k:=inl n) hrd ⋯,_,putK kr (inl n) (.bl true),Ij rl n,rfl,Z6 hlrn sd,by rw[Zi (Ne.symm nlr)];exact hpd,Zd,Ik zle kkr n _,O1 ndr,fun m=>?_⟩;rw[Im,memr,etj,zve,zu6,or_assoc]
   ·rintro σ' Hd ⟨w7,kr,rl,rfl,sd,hpd,hrd,kkr,ndr,memr⟩;rw[zu2,zvk] at memr;refine⟨_,_,kr,rl,rfl,sd,hpd,hrd,kkr,ndr,fun n=>?_⟩;rw[memr,etk];constructor
    ·rintro(⟨p,h1,h2⟩|h1)
     ·exact⟨p,zvq _ h1,h2⟩
     ·exact⟨q,by simp,r,hqr,h1⟩
    ·rintro⟨p,h1,r',h2,h3⟩;rcases zve.mp h1 with z|z
     ·exact .inl ⟨p,z,r',h2,h3⟩
     ·rw[zu6.mp z,hqr] at h2;cases h2;exact .inr h3
  ·obtain⟨v6,v7,kr,rl,rfl,sc,hpc,hrc,kkr,ndr,memr⟩:=hP;rw[hkpl,zvk] at memr;have hsub:∀ m∈rl,m∈nu:=fun m hm=>by
    obtain⟨p,_,r',h1,h2⟩:=(memr m).mp hm;exact(mo.sub r' (zvc h1)).2 m h2
   have hrl30:=rbound rl ndr hsub;refine⟨_,rfl,lp,kp,pl.map (fun q:Nat=>(q:Int)),rfl,.inr ⟨o,hpc⟩,by rw[kk,zwn];rfl,by rw[zu2];omega,fun l1 pi hl1 p1 p2=>?_⟩;have s7:=Zf (o:=.lst (pi.map V.int)) hl1;have q7:upd Hc l1 (.lst (pi.map V.int)) l1=some (.lst (pi.map V.int)):=Zd;have hr7:=s7 _ _ hrc;have sc7:=sc.trans s7;generalize upd Hc l1 (.lst (pi.map V.int))=H7 at s7 q7 hr7 sc7;refine⟨_,rfl,lr,kr,rl,rfl,.inl hr7,kkr,by omega,fun l2 rs hl2 p3 p4=>?_⟩;obtain⟨ps,rfl,SP⟩:=zga FP NA nd mem ndr memr p1 p2 p3 p4;refine⟨sz2,fun t ht=>?_⟩;have s8:=Zf (o:=.lst (rs.map V.int)) hl2;have q8:upd H7 l2 (.lst (rs.map V.int)) l2=some (.lst (rs.map V.int)):=Zd;have q78:=s8 _ _ q7;generalize upd H7 l2 (.lst (rs.map V.int))=H8 at s8 q8 q78 ht;have s9:=Zf (o:=.tup [.ref l1,.ref l2]) ht;refine h t l1 l2 ps rs _ Zd (s9 _ _ (by rw[q78];unfold W0;rw[zwn];rfl)) (s9 _ _ q8) SP (sc7.trans (s8.trans s9)) ((sc7.trans s8).free ht) (sc.free hl1) (sc7.free hl2) (Zh q7 hl2)
abbrev Uj:Stmt:=Z1 (top 55) 0
theorem Mg:Zl ["self","listed","lists","given","gaps"] ["self","listed","lists","given","gaps"] (Zj Uj):=fnS
theorem Mh(F:#[f,"__init__","Sheet.__init__",Uj])(T:Tx K mg a):FnOk P w K mg base (CX1 P w) 1 f fd ["self","listed","lists","given","gaps"] (N9 (ca a)):=by
 refine #[g,Mg];obtain⟨q,dx,l1,l2,l3,l4,rfl,hq,h⟩:=h;refine⟨_,(Zb (Xb (K:=K) rfl (pv 0) (pv 1) rfl)
 (Zb (Xb (K:=K) rfl (pv 0) (pv 2) rfl)
 (Zb (Xb (K:=K) rfl (pv 0) (pv 3) rfl)
 (Ze (Xb (K:=K) rfl (pv 0) (pv 4) rfl))))),?_⟩
 refine⟨_,rfl,_,rfl,q,a.zmb,dx,[],rfl,hq,T.zmj,T.zoo,⋯,?_⟩;refine⟨_,rfl,_,rfl,q,a.zmb,dx,[("listed",.ref l1)],rfl,Zd,T.zmj,T.zqr,(by show 1<1000;decide),?_⟩;rw[zl0];refine⟨_,rfl,_,rfl,q,a.zmb,dx,_,rfl,Zd,T.zmj,T.zod,(by show 2<1000;decide),?_⟩;rw[zl1];refine⟨_,rfl,_,rfl,q,a.zmb,dx,_,rfl,Zd,T.zmj,T.zqm,(by show 3<1000;decide),?_⟩;rw[zl2];refine h _ ?_;rw[Ju,Ju,Ju];rfl
abbrev Tw:Stmt:=Z1 (top 55) 1
theorem Jf:Zl ["self","lists"] ["self","lists"] (Zj Tw):=fnS
theorem Jg(F:#[f,"barred","Sheet.barred",Tw])(T:Tx K mg a)(zo6:Sn P w K mg base "Sheet" a.zmb 1 ["self","listed","lists","given","gaps"] (N9 (ca a))):FnOk P w K mg base (CX1 P w) 3 f fd ["self","lists"] (B3 (ca a)):=by
 refine #[g,Jf];obtain⟨ok,q,l2,ls,rows,s,rfl,SA,hl2,il,ok2,okl,no,h⟩:=h;refine⟨_,Ze (Zn (Dv zo6 (hr.mono ⋯) Zk rfl (Za (Zr (K:=K) rfl (pv 0) rfl) (Za (pv 1) (Za (Zr (K:=K) rfl (pv 0) rfl) (Za (Zr (K:=K) rfl (pv 0) rfl) Zc)))))),?_⟩;obtain⟨dx,m1,m2,m3,m4,ts,ms,gts,a1,a2,a3,a4,a5,a6,a7,a8,o1,o2,o3,o4,o5,o6⟩:=id SA;refine⟨_,rfl,q,a.zmb,dx,_,_,rfl,a1,T.zmj,T.zoo,Pu,_,rfl,_,rfl,q,a.zmb,dx,_,_,rfl,a1,T.zmj,T.zod,Ti,_,rfl,q,a.zmb,dx,_,_,rfl,a1,T.zmj,T.zqm,D6,?_⟩;intro q' dx' hq' hdx' ne;refine⟨q',dx',m1,l2,m3,m4,rfl,Zd,fun H' e=>⟨rfl,?_⟩⟩;obtain⟨s1,q1⟩:=O4 (C:=a.zmb) (l1:=m1) (l2:=l2) (l3:=m3) (l4:=m4) hq' hdx' ne;rw[<- e] at s1 q1;exact h q' H' ⟨dx',m1,l2,m3,m4,ts,ls,gts,q1,s1 _ _ a2,a3.same s1,s1 _ _ hl2,il.same s1,s1 _ _ a6,s1 _ _ a7,a8.keep (fun _ _ _ z=>s1 _ _ z) fun _ _ z=>s1 _ _ z,no _ hq',o2,ok2,o4,o5,okl⟩ s1 hq'
abbrev Vi:Stmt:=Z1 (top 55) 2
theorem X6:Zl ["self","number","lists","place","gap","steps"] ["self","number","lists"] (Zj Vi):=fnS
theorem Oc(F:#[f,"fallen_out","Sheet.fallen_out",Vi])(T:Tx K mg a)(zm6:Zs P w K mg base a.zmb "where" 2 ["self","number"] (Pw (ca a)))(zor:Z4 P w K mg base "stepped" 1 ["given","steps"] (M7 K))(zqq:Z4 P w K mg base "chain" 2 ["may","given","place"] (D3 K))(zo6:Sn P w K mg base "Sheet" a.zmb 1 ["self","listed","lists","given","gaps"] (N9 (ca a))):FnOk P w K mg base (CX1 P w) 3 f fd ["self","number","lists"] (B4 (ca a)):=by
 refine #[g,X6];obtain⟨ok,q,l2,ls,rows,nu,s,n,p,rfl,SA,hl2,il,ok2,okl,no,mo,ho,hgp,hun,FP,hgz,h⟩:=h;refine⟨_,(Zb (pS 3 X6.nd (Yo (pv 0) T.zmj zm6 (hr.mono ⋯) Zk (Za (pv 1) Zc)))
 (Zb (pS 4 X6.nd (pF zor hr (Za (Zr (K:=K) rfl (pv 0) rfl) (Za (Ya (Za (Yd (Za (pv 3) (Za Yx Zc))) Zc)) Zc))))
 (Zb (pS 5 X6.nd (pF zqq hr (Za (pv 2) (Za (pv 4) (Za (pv 3) Zc)))))
 (Ze (Zn (Dv zo6 (hr.mono ⋯) Zk rfl (Za (Zr (K:=K) rfl (pv 0) rfl) (Za (pv 2) (Za (pF zor hr (Za (pv 4) (Za (pv 5) Zc))) (Za (Zu Ow (Zr (K:=K) rfl (pv 0) rfl) (Ya (Za (Yd (Za (pv 1) (Za (pv 5) Zc))) Zc))) Zc)))))))))),?_⟩
 obtain⟨dx,m1,m2,m3,m4,ts,ms,gts,a1,a2,a3,a4,a5,a6,a7,a8,o1,o2,o3,o4,o5,o6⟩:=id SA;have hrl:rows.length<=100:=zvh mo.few ⋯;have hgl:s.gv.length<=100:=by have:=FP.len;rw[zws] at this;omega
 have hpl:p<s.gv.length:=(zu4.mp hgp).1;have hpr:p<rows.length:=by have:=FP.len;rw[zws] at this;omega
 have hplace:X2 s.gv n=some p:=by
  unfold X2;rw[List.find?_eq_some_iff_getElem];refine⟨zva hgp,p,by rw[zv4];exact hpl,by rw[List.getElem_range],fun j hj=>?_⟩;rw[List.getElem_range,Bool.not_eq_true',decide_eq_false_iff_not];exact fun z=>absurd (hun j z) ⋯
 refine⟨_,rfl,q,dx,_,rfl,a1,Vx ⋯ ⋯ ⋯ ⋯,_,rfl,ok,q,s,n,rfl,SA,ho,hgl,fun H1 s1=>?_⟩;rw[hplace,show oN (some p)=V.int (p:Nat) from rfl];have SA1:=SA.same s1;refine⟨_,rfl,q,a.zmb,dx,_,_,rfl,s1 _ _ a1,T.zmj,T.zod,Ti,_,rfl,sz2,fun t1 ht1=>⟨sz1,fun lx hlx=>?_⟩⟩;have s2:=Zf (o:=.tup [.int (p:Nat),.non]) ht1;have q2:upd H1 t1 (.tup [.int (p:Nat),.non]) t1=some (.tup (Vn (p,none))):=Zd;generalize upd H1 t1 (.tup [.int (p:Nat),.non])=H2 at s2 q2 hlx;have s3:=Zf (o:=.lst [V.ref t1]) hlx;have q3:upd H2 lx (.lst [V.ref t1]) lx=#[a,.lst,[V.ref t1]]:=Zd;have q23:=s3 _ _ q2;generalize upd H2 lx (.lst [V.ref t1])=H3 at s3 q3 q23;have s13:=s1.trans (s2.trans s3);refine⟨m3,lx,s.gv,[V.ref t1],[(p,none)],rfl,s13 _ _ a6,q3,.cons q23 .nil,fun st hst=>by rw[zu6.mp hst];exact hpl,ho,hgl,by show 1<=100;decide,fun lg H4 hg4 s4 f4=>?_⟩;have s14:=s13.trans s4;have hg4:H4 lg=#[a,.lst,s.gv.set p .non]:=hg4;refine⟨_,rfl,_,rfl,_,rfl,l2,lg,ls,rows,nu,s.gv.set p .non,p,rfl,s14 _ _ hl2,il.same s14,mo,hg4,FP,hpr,by rw[zwc hpl],fun lt us st e w H5 hlt tl CR s5 f5=>?_⟩;have s15:=s14.trans s5;have hst100:st.length<=100:=zvh (CR.len FP hpr) hrl;refine⟨_,rfl,q,a.zmb,dx,_,_,rfl,s15 _ _ a1,T.zmj,T.zoo,Pu,_,rfl,_,rfl,_,rfl,lg,lt,s.gv.set p .non,us,st,rfl,s5 _ _ hg4,hlt,tl,fun x hx=>?_,FP.one,by rw[FP.len];exact hrl,hst100,fun l3 H6 h6 s6 f6=>?_⟩
 ·rw[FP.len];exact CR.ch.lt FP hpr x hx
 have s16:=s15.trans s6;refine⟨_,rfl,q,a.zmb,dx,_,_,rfl,s16 _ _ a1,T.zmj,T.zqm,D6,_,rfl,_,rfl,sz2,fun t2 ht2=>⟨sz1,fun ly hly=>?_⟩⟩;have s7:=Zf (o:=.tup [.int n,.ref lt]) ht2;have q7:upd H6 t2 (.tup [.int n,.ref lt]) t2=#[a,.tup,[.int n,.ref lt]]:=Zd;generalize upd H6 t2 (.tup [.int n,.ref lt])=H7 at s7 q7 hly;have s8:=Zf (o:=.lst [V.ref t2]) hly;have q8:upd H7 ly (.lst [V.ref t2]) ly=#[a,.lst,[V.ref t2]]:=Zd;have q78:=s8 _ _ q7;generalize upd H7 ly (.lst [V.ref t2])=H8 at s8 q8 q78;have s18:=s16.trans (s7.trans s8);refine⟨m4,ly,gts,[V.ref t2],rfl,rfl,s18 _ _ a7,q8,by have:=a8.length;show gts.length+1<=sizeLine;have:=Th;omega,fun l4 hl4=>?_⟩;have s9:=Zf (o:=.lst (gts++[V.ref t2])) hl4;have q9:upd H8 l4 (.lst (gts++[V.ref t2])) l4=#[a,.lst,gts++[V.ref t2]]:=Zd;generalize upd H8 l4 (.lst (gts++[V.ref t2]))=H9 at s9 q9;have s19:=s18.trans s9;intro q' dx' hq' hdx' ne;refine⟨q',dx',m1,l2,l3,l4,rfl,Zd,fun H' e'=>⟨rfl,?_⟩⟩;obtain⟨s10,q10⟩:=O4 (C:=a.zmb) (l1:=m1) (l2:=l2) (l3:=l3) (l4:=l4) hq' hdx' ne;rw[<- e'] at s10 q10;have s:=s19.trans s10;have s6x:=s7.trans (s8.trans (s9.trans s10));have s5x:=s6.trans s6x;refine h q' st e w H' ⟨dx',m1,l2,l3,l4,ts,ls,gts++[V.ref t2],q10,s _ _ a2,a3.same s,s _ _ hl2,il.same s,s6x _ _ h6,s10 _ _ q9,?_,no _ (s19.free hq'),o2,ok2,no _ (s15.free f6),no _ (s18.free hl4),okl⟩ CR s (s19.free hq');exact(a8.keep (fun _ _ _ z=>s _ _ z) (fun _ _ z=>s _ _ z)).snoc ((s9.trans s10) _ _ q78) (s5x _ _ hlt) (tl.same s5x) (no _ (s14.free f5))
abbrev U0:Stmt:=Z1 (top 55) 3
theorem Lq:Zl ["self"] ["self"] (Zj U0):=fnS
theorem Lr(F:#[f,"matches","Sheet.matches",U0])(T:Tx K mg a):FnOk P w K mg base (CX1 P w) 1 f fd ["self"] (Q6 (ca a)):=by
 refine #[g,Lq];obtain⟨ok,q,s,rfl,SA,h⟩:=h;refine⟨_,Ze (Zn (Xm (Xa (K:=K) rfl) (by rfl) T.zno PyProof.Rows.boot_list (Za (Zr (K:=K) rfl (pv 0) rfl) Zc))),?_⟩;obtain⟨dx,m1,m2,m3,m4,ts,ms,gts,a1,a2,a3,a4,a5,a6,a7,a8,o1,o2,o3,o4,o5,o6⟩:=id SA;refine⟨_,rfl,q,a.zmb,dx,_,_,rfl,a1,T.zmj,T.zoo,Pu,m1,_,rfl,.inl (SqL.of a2),fun l hl=>?_⟩;exact h l ts _ Zd (a3.same (Zf hl)) (Zf hl) hl
abbrev Qb:Stmt:=Z1 (top 55) 7
theorem Fo:Zl ["self"] ["self"] (Zj Qb):=fnS
theorem Fp(F:#[f,"goes","Sheet.goes",Qb])(T:Tx K mg a):FnOk P w K mg base (CX1 P w) 1 f fd ["self"] (Ir (ca a)):=by
 refine #[g,Fo];obtain⟨ok,q,s,rfl,SA,h⟩:=h;refine⟨_,Ze (Zn (Xm (Xa (K:=K) rfl) (by rfl) T.zno PyProof.Rows.boot_list (Za (Zr (K:=K) rfl (pv 0) rfl) Zc))),?_⟩;obtain⟨dx,m1,m2,m3,m4,ts,ms,gts,a1,a2,a3,a4,a5,a6,a7,a8,o1,o2,o3,o4,o5,o6⟩:=id SA;refine⟨_,rfl,q,a.zmb,dx,_,_,rfl,a1,T.zmj,T.zod,Ti,m3,_,rfl,.inl (SqL.of a6),fun l hl=>?_⟩;exact h l _ Zd (Zf hl) hl
abbrev Sv:Stmt:=Z1 (top 55) 8
theorem Gg:Zl ["self","number"] ["self","number"] (Zj Sv):=fnS
theorem Gh(F:#[f,"where","Sheet.where",Sv])(T:Tx K mg a)(zqz:Z4 P w K mg base "place_of" 1 ["given","number"] (Ew K)):FnOk P w K mg base (CX1 P w) 2 f fd ["self","number"] (Pw (ca a)):=by
 refine #[g,Gg];obtain⟨ok,q,s,n,rfl,SA,ho,hgl,h⟩:=h;refine⟨_,Ze (Zn (pF zqz hr (Za (Zr (K:=K) rfl (pv 0) rfl) (Za (pv 1) Zc)))),?_⟩;obtain⟨dx,m1,m2,m3,m4,ts,ms,gts,a1,a2,a3,a4,a5,a6,a7,a8,o1,o2,o3,o4,o5,o6⟩:=id SA;exact⟨_,rfl,q,a.zmb,dx,_,_,rfl,a1,T.zmj,T.zod,Ti,_,rfl,m3,s.gv,n,rfl,a6,ho,hgl,fun H' s'=>h H' s'⟩
abbrev Qc:Stmt:=Z1 (top 55) 9
theorem Fq:Zl ["self"] ["self"] (Zj Qc):=fnS
theorem Fs(F:#[f,"left","Sheet.left",Qc])(T:Tx K mg a)(znm:Z4 P w K mg base "left_without" 1 ["given"] (zay K)):FnOk P w K mg base (CX1 P w) 2 f fd ["self"] (B5 (ca a)):=by
 refine #[g,Fq];obtain⟨ok,q,s,rfl,SA,ho,hgl,h⟩:=h;refine⟨_,Ze (Zn (pF znm hr (Za (Zr (K:=K) rfl (pv 0) rfl) Zc))),?_⟩;obtain⟨dx,m1,m2,m3,m4,ts,ms,gts,a1,a2,a3,a4,a5,a6,a7,a8,o1,o2,o3,o4,o5,o6⟩:=id SA;exact⟨_,rfl,q,a.zmb,dx,_,_,rfl,a1,T.zmj,T.zod,Ti,m3,s.gv,rfl,a6,ho,hgl,fun l H' h1 s' h2=>h l H' h1 s' h2⟩
abbrev Pa:Stmt:=Z1 (top 55) 10
theorem Cm:Zl ["self"] ["self"] (Zj Pa):=fnS
theorem Cn(F:#[f,"why","Sheet.why",Pa])(T:Tx K mg a)(zq0:Z4 P w K mg base "shortage" 2 ["may","given"] (zcj K)):FnOk P w K mg base (CX1 P w) 3 f fd ["self"] (zcn (ca a)):=by
 refine #[g,Cm];obtain⟨ok,q,s,nu,rfl,SA,mo,FP,NA,h⟩:=h;refine⟨_,Ze (Zn (pF zq0 hr (Za (Zr (K:=K) rfl (pv 0) rfl) (Za (Zr (K:=K) rfl (pv 0) rfl) Zc)))),?_⟩;obtain⟨dx,m1,m2,m3,m4,ts,ms,gts,a1,a2,a3,a4,a5,a6,a7,a8,o1,o2,o3,o4,o5,o6⟩:=id SA;exact⟨_,rfl,q,a.zmb,dx,_,_,rfl,a1,T.zmj,T.zqr,zgd,_,rfl,q,a.zmb,dx,_,_,rfl,a1,T.zmj,T.zod,Ti,m2,m3,ms,s.may,nu,s.gv,rfl,a4,a5,mo,a6,FP,NA,fun t lp lr ps rs H'=>h t lp lr ps rs H'⟩
abbrev Tz:Stmt:=Z1 (top 55) 11
theorem Jh:Zl ["self"] ["self"] (Zj Tz):=fnS
theorem Ji(F:#[f,"chains","Sheet.chains",Tz])(T:Tx K mg a):FnOk P w K mg base (CX1 P w) 1 f fd ["self"] (O5 (ca a)):=by
 refine #[g,Jh];obtain⟨ok,q,s,rfl,SA,hgz,h⟩:=h;refine⟨_,Ze (Zn (N5 rfl (Og.mk (xo:=["number","steps"]) (ys:=[]) (js:=[]) rfl rfl ⋯ ⋯ rfl (by repeat' (first|exact True.intro|apply And.intro|rfl)) (by repeat' (first|exact True.intro|apply And.intro|rfl)) ⋯) (Yc (K:=K) rfl (Zr (K:=K) rfl (pv 0) rfl)) (fun _ _ _ _ _=>W8) (fun _ _ _ _ _=>(Xy (K:=K) (n:=2) rfl rfl (Zw (Vr (i:=0) (show List.Nodup [("number":Str),("steps":Str)] by decide +kernel) rfl (by first|exact Or.inl rfl|exact Or.inr rfl)) (Zw (Vr (i:=1) (show List.Nodup [("number":Str),("steps":Str)] by decide +kernel) rfl (by first|exact Or.inl rfl|exact Or.inr rfl)) Xx)))) fun _ _ _ _ _=>(Yd (Za (pv 0) (Za (Xm (Xa (K:=K) rfl) (by rfl) T.zno PyProof.Rows.boot_list (Za (pv 1) Zc)) Zc))))),?_⟩;obtain⟨dx,m1,m2,m3,m4,ts,ms,gts,a1,a2,a3,a4,a5,a6,a7,a8,o1,o2,o3,o4,o5,o6⟩:=id SA;have hgts:=a8.length;refine⟨_,rfl,q,a.zmb,dx,_,_,rfl,a1,T.zmj,T.zqm,D6,m4,rfl,⟨_,SqL.of a7⟩,?_⟩;refine Iv (K:=K) (xs:=gts) (fun i ys H'=>Same H H'/\Xz (fun x=>H x=none) H' ys (s.gaps.take i)/\ys.length=i) ⟨Same.refl _,.nil,rfl⟩ (fun i ys H' _ ⟨s',_⟩=>SqL.of (s' _ _ a7)) (szN ⋯) (fun i ys H' ⟨_,_,e⟩=>by omega) ?_ ?_
 ·rintro i x ys H' hx ⟨s1,gl,hyl⟩;obtain⟨t,l,n,us,st,rfl,hgi,ht,hl,tl,_⟩:=a8.get hx;have ht1:=s1 _ _ ht;have hl1:=s1 _ _ hl;refine⟨t,_,rfl,SqT.of ht1,rfl,_,_,rfl,_,_,rfl,rfl,⟨[#[e,n],#[c,l]],rfl,rfl⟩,?_⟩;unfold tYes;dsimp only;rw[if_pos rfl];refine⟨_,rfl,_,rfl,l,_,rfl,.inl (SqL.of hl1),fun l2 hl2=>?_⟩;have s2:=Zf (o:=.lst us) hl2;have q2:upd H' l2 (.lst us) l2=#[a,.lst,us]:=Zd;have f2:H l2=none:=s1.free hl2;generalize upd H' l2 (.lst us)=H2 at s2 q2;refine⟨sz2,fun t2 ht2=>?_⟩;have s3:=Zf (o:=.tup [.int n,.ref l2]) ht2;have s23:=s2.trans s3;refine⟨s1.trans s23,?_,by rw[zu5,hyl];rfl⟩;have e:s.gaps.take (i+1)=s.gaps.take i++[(n,st)]:=by rw[zwg,hgi];rfl
  rw[e];exact(gl.keep (fun _ _ _ z=>s23 _ _ z) (fun _ _ z=>s23 _ _ z)).snoc Zd (s3 _ _ q2) (tl.same (s1.trans s23)) f2
 ·rintro ys H' ⟨s1,gl,hyl⟩ l hl;rw[hgts,zvk] at gl;refine h l ys _ Zd ?_ (s1.trans (Zf hl)) (s1.free hl);exact(gl.imp (ok':=fun x=>H x=none/\x≠l) fun x ⟨o,e⟩ z=>⟨z,Zh e hl⟩).keep (fun _ _ _ z=>Zf hl _ _ z) fun _ _ z=>Zf hl _ _ z
abbrev Qd:Stmt:=Z1 (top 55) 12
theorem Ft:Zl ["self"] ["self"] (Zj Qd):=fnS
theorem Fu(F:#[f,"rows","Sheet.rows",Qd])(T:Tx K mg a):FnOk P w K mg base (CX1 P w) 1 f fd ["self"] (B6 (ca a)):=by
 refine #[g,Ft];obtain⟨ok,q,s,rfl,SA,ho,hgl,hml,h⟩:=h;refine⟨_,Ze (Zn (N5 rfl (Og.mk (xo:=["match","number"]) (ys:=[]) (js:=[]) rfl rfl ⋯ ⋯ rfl (by repeat' (first|exact True.intro|apply And.intro|rfl)) (by repeat' (first|exact True.intro|apply And.intro|rfl)) ⋯) (zjt (K:=K) rfl rfl T.zsl (Za (Zr (K:=K) rfl (pv 0) rfl) (Za (Zr (K:=K) rfl (pv 0) rfl) Zc))) (fun _ _ _ _ _=>W8) (fun _ _ _ _ _=>(Xy (K:=K) (n:=2) rfl rfl (Zw (Vr (i:=0) (show List.Nodup [("match":Str),("number":Str)] by decide +kernel) rfl (by first|exact Or.inl rfl|exact Or.inr rfl)) (Zw (Vr (i:=1) (show List.Nodup [("match":Str),("number":Str)] by decide +kernel) rfl (by first|exact Or.inl rfl|exact Or.inr rfl)) Xx)))) fun _ _ _ _ _=>(Zu (B1 (K:=K) rfl) (pv 0) (Yd (Za (pv 1) Zc))))),?_⟩;obtain⟨dx,m1,m2,m3,m4,ts,ms,gts,a1,a2,a3,a4,a5,a6,a7,a8,o1,o2,o3,o4,o5,o6⟩:=id SA;have hts:ts.length=s.ms.length:=by rw[a3.length,zu2]
 refine⟨_,rfl,q,a.zmb,dx,_,_,rfl,a1,T.zmj,T.zoo,Pu,_,rfl,q,a.zmb,dx,_,_,rfl,a1,T.zmj,T.zod,Ti,m1,m3,rfl,⟨_,SqL.of a2⟩,⟨_,SqL.of a6⟩,?_⟩;refine zdx (K:=K) (xs:=ts) (zs:=s.gv) (fun i ys H'=>Same H H'/\Z9 H' ys (((Z5 s).take i).map row4)/\ys.length=i) ⟨Same.refl _,.nil,rfl⟩ ⋯ (fun i ys H' _ ⟨s',_⟩=>⟨SqL.of (s' _ _ a2),SqL.of (s' _ _ a6)⟩) (szN ⋯) (fun i ys H' ⟨_,_,e⟩=>by omega) ?_ ?_
 ·rintro i x z t ys H' hx hz ⟨s1,tl,hyl⟩ ht;obtain⟨tm,m,rfl,hm,htm⟩:=K2 a3 hx;have oz:=ho z (zvc hz);have s2:=s1.trans (Zf (o:=.tup [.ref tm,z]) ht);have tl2:=tl.same (Zf (o:=.tup [.ref tm,z]) ht);have q2:upd H' t (.tup [.ref tm,z]) t=#[a,.tup,[.ref tm,z]]:=Zd;generalize upd H' t (.tup [.ref tm,z])=H2 at s2 tl2 q2;refine⟨t,_,rfl,SqT.of q2,rfl,_,_,rfl,_,_,rfl,rfl,⟨[#[c,tm],some z],rfl,rfl⟩,?_⟩;unfold tYes;dsimp only;rw[if_pos rfl];refine⟨_,rfl,_,rfl,sz1,fun t1 ht1=>?_⟩;have s3:=Zf (o:=.tup [z]) ht1;have q3:upd H2 t1 (.tup [z]) t1=#[a,.tup,[z]]:=Zd;generalize upd H2 t1 (.tup [z])=H3 at s3 q3;refine⟨tm,t1,_,_,rfl,rfl,SqT.of ((s2.trans s3) _ _ htm),SqT.of q3,by unfold pV;simp,by show 3+1<=sizeLine;exact sz4,fun z=>absurd z (by simp),fun _ t2 ht2=>?_⟩;have s4:=Zf (o:=.tup (pV m++[z])) ht2;refine⟨s2.trans (s3.trans s4),?_,by rw[zu5,hyl];rfl⟩;rw[zdy hm hz,zu9];refine((tl2.same s3).same s4).snoc ?_;rw[Zd,zjx m oz];rfl
 ·rintro ys H' ⟨s1,tl,hyl⟩ l hl;rw[hts,<- B7 hgl,zvk] at tl;exact h l ys _ Zd (tl.same (Zf hl)) (s1.trans (Zf hl)) (s1.free hl)
abbrev Sw:Stmt:=top 56
theorem Gi:Zl ["listed","lists"] ["listed","lists"] (Zj Sw):=fnS
theorem Gj(F:#[f,"drawn_sheet","drawn_sheet",Sw])(T:Tx K mg a)(zo6:Sn P w K mg base "Sheet" a.zmb 1 ["self","listed","lists","given","gaps"] (N9 (ca a)))(zsn:Z4 P w K mg base "fill" 3 ["may"] (zfv K)):FnOk P w K mg base (CX1 P w) 4 f fd ["listed","lists"] (zcm (ca a)):=by
 refine #[g,Gi];obtain⟨ok,l1,l2,ts,ls,ms,rows,nu,rfl,hl1,tl,hl2,il,ok1,ok2,okl,no,mo,h⟩:=h;refine⟨_,Ze (Zn (Dv zo6 (hr.mono ⋯) Zk rfl (Za (pv 0) (Za (pv 1) (Za (pF zsn hr (Za (pv 1) Zc)) (Za (Ya Zc) Zc)))))),?_⟩;refine⟨_,rfl,_,rfl,_,rfl,l2,ls,rows,nu,rfl,hl2,il,mo,fun l3 gv H1 h3 FP SP s1 f3=>?_⟩;refine⟨by show 0<=sizeLine;decide,fun l4 hl4=>?_⟩;have s2:=Zf (o:=.lst []) hl4;have q2:upd H1 l4 (.lst []) l4=#[a,.lst,[]]:=Zd;generalize upd H1 l4 (.lst [])=H2 at s2 q2;have s12:=s1.trans s2;intro q dx hq hdx ne;refine⟨q,dx,l1,l2,l3,l4,rfl,Zd,fun H' e=>⟨rfl,?_⟩⟩;obtain⟨s3,q3⟩:=O4 (C:=a.zmb) (l1:=l1) (l2:=l2) (l3:=l3) (l4:=l4) hq hdx ne;rw[<- e] at s3 q3;have s:=s12.trans s3;exact h q gv H' ⟨dx,l1,l2,l3,l4,ts,ls,[],q3,s _ _ hl1,tl.same s,s _ _ hl2,il.same s,s3 _ _ (s2 _ _ h3),s3 _ _ q2,.nil,no _ (s12.free hq),ok1,ok2,no _ f3,no _ (s1.free hl4),okl⟩ FP SP s (s12.free hq)
abbrev V3:Stmt:=Z1 (top 58) 0
theorem Nl:Zl ["self","rounds","rest"] ["self","rounds","rest"] (Zj V3):=fnS
theorem Nm(F:#[f,"__init__","Season.__init__",V3])(T:Tx K mg a)(zml:Z4 P w K mg base "check_range" 1 ["value","least","most"] (N8 a.zmw))(zr7:Sn P w K mg base "Roster" a.zmd 1 ["self"] (zck (ca a)))(zsa:Sn P w K mg base "Ledger" a.zl9 1 ["self"] (zcc a.zl9)):FnOk P w K mg base (CX1 P w) 3 f fd ["self","rounds","rest"] (zco (ca a)):=by
 refine #[g,Nl];obtain⟨p,dx,r,q,rfl,hp,sr,sq,h⟩:=h;refine⟨_,(Zb (Z7 (pF zml hr (Za (pv 1) (Za Zg (Za (Wr rfl T.zob) Zc)))))
 (Zb (Z7 (pF zml hr (Za (pv 2) (Za Zg (Za (Wr rfl T.zo1) Zc)))))
 (Zb (Xb (K:=K) rfl (pv 0) (pv 1) rfl)
 (Zb (Xb (K:=K) rfl (pv 0) (pv 2) rfl)
 (Zb (Xb (K:=K) rfl (pv 0) (zb6 zr7 (hr.mono ⋯) Zk rfl) rfl)
 (Zb (Xb (K:=K) rfl (pv 0) (zb6 zsa (hr.mono ⋯) Zk rfl) rfl)
 (Zb (Xb (K:=K) rfl (pv 0) J7 rfl)
 (Zb (Xb (K:=K) rfl (pv 0) (Ya Zc) rfl)
 (Zb (Xb (K:=K) rfl (pv 0) Yx rfl)
 (Ze (Xb (K:=K) rfl (pv 0) (Ya Zc) rfl))))))))))),?_⟩
 show let y1:TS:=_;let y2:TS:=tSeq _ y1;let y3:TS:=tSeq _ y2;let y4:TS:=tSeq _ y3;let y5:TS:=tSeq _ y4;let y6:TS:=tSeq _ y5;let y7:TS:=tSeq _ y6;let y8:TS:=tSeq _ y7;let y9:TS:=tSeq _ y8;tSeq _ y9 _ _ _;intro y1 y2 y3 y4 y5 y6 y7 y8 y9;refine⟨_,rfl,r,0,60,rfl,sr,Yi ⋯,Yi ⋯,?_⟩;refine it2 h (fun _ z=>z) fun h1 h=>?_;refine⟨_,rfl,q,0,10,rfl,sq,Yi ⋯,Yi ⋯,?_⟩;refine it2 h (fun _ z=>z) fun h2 hF=>?_;have er:r=((r.toNat:Nat):Int):=by omega
 have eq':q=((q.toNat:Nat):Int):=by omega
 generalize r.toNat=rn at hF er;generalize q.toNat=qn at hF eq';subst er eq';refine⟨_,rfl,_,rfl,p,a.zl7,dx,_,rfl,hp,T.zl8,T.zpd,(by show 0<1000;decide),?_⟩;rw[pF1];refine⟨_,rfl,_,rfl,p,a.zl7,dx,_,rfl,Zd,T.zl8,T.zrl,(by show 1<1000;decide),?_⟩;rw[pF2,Ju];have b1:Vy p H (upd H p (.ins a.zl7 dx (sF2 (.int rn) (.int qn)))):=.put;have q1:upd H p (.ins a.zl7 dx (sF2 (.int rn) (.int qn))) p=some (.ins a.zl7 dx (sF2 (.int rn) (.int qn))):=Zd;generalize upd H p (.ins a.zl7 dx (sF2 (.int rn) (.int qn)))=H1 at b1 q1;intro pr dxr hpr hdxr ne;refine⟨pr,dxr,rfl,Zd,fun dr hdr=>⟨rfl,?_⟩⟩;have ndp:dr≠pr:=fun z=>by rw[z,Zd] at hdr;cases hdr
 have ndx:dr≠dxr:=fun z=>by rw[z,Zi ne,Zd] at hdr;cases hdr
 have hdr1:H1 dr=none:=by rw[Zi ndp,Zi ndx] at hdr;exact hdr
 have s2:Same H1 (upd (upd (upd (upd H1 dxr (.own pr)) pr (.ins a.zmd dxr [])) dr (.dK [])) pr (.ins a.zmd dxr [("entries",.ref dr)])):=fun b o e=>by
  rw[Zi (Zh e hpr),Zi (Zh e hdr1),Zi (Zh e hpr),Zi (Zh e hdxr)];exact e
 have R2:Xl a.zmd (upd (upd (upd (upd H1 dxr (.own pr)) pr (.ins a.zmd dxr [])) dr (.dK [])) pr (.ins a.zmd dxr [("entries",.ref dr)])) pr dr []:=⟨⟨dxr,[],Zd,by rw[Zi ndp,Zd],.nil⟩,zww⟩;generalize upd (upd (upd (upd H1 dxr (.own pr)) pr (.ins a.zmd dxr [])) dr (.dK [])) pr (.ins a.zmd dxr [("entries",.ref dr)])=H2 at s2 R2;refine⟨_,rfl,p,a.zl7,dx,_,rfl,s2 _ _ q1,T.zl8,T.znq,(by show 2<1000;decide),?_⟩;rw[pF3];have np2:pr≠p/\dr≠p:=⟨Ne.symm (Zh q1 hpr),Ne.symm (Zh q1 hdr1)⟩;have b3:Vy p H (upd H2 p (.ins a.zl7 dx (sF3 (.int rn) (.int qn) (.ref pr)))):=b1.trans ((Vy.of s2).trans .put);have q3:upd H2 p (.ins a.zl7 dx (sF3 (.int rn) (.int qn) (.ref pr))) p=some (.ins a.zl7 dx (sF3 (.int rn) (.int qn) (.ref pr))):=Zd;have kt3:∀ t xs,H2 t=#[a,.tup,xs]->upd H2 p (.ins a.zl7 dx (sF3 (.int rn) (.int qn) (.ref pr))) t=#[a,.tup,xs]:=fun t xs e=>by rw[Zi (Yw e (s2 _ _ q1) (fun z=>nomatch z))];exact e
 have R3:=R2.keep (H':=upd H2 p (.ins a.zl7 dx (sF3 (.int rn) (.int qn) (.ref pr)))) (fun o e=>by rw[Zi np2.1];exact e) (fun o e=>by rw[Zi np2.2];exact e) kt3;have fdr:H dr=none:=Vy.free b1 ⟨_,q1⟩ hdr1;have hr2:H2 dr=#[a,.dK,[]]/\∃ o,H2 pr=some o:=by
  obtain⟨⟨x,kv,z1,z2,z3⟩,_⟩:=R2;cases z3;exact⟨z2,_,z1⟩
 generalize upd H2 p (.ins a.zl7 dx (sF3 (.int rn) (.int qn) (.ref pr)))=H3 at b3 q3 R3;intro pl dxl hpl hdxl nel;refine⟨pl,dxl,rfl,Zd,fun lr ld H4 L0 k0 f0 g0 n0=>⟨rfl,?_⟩⟩;obtain⟨s4,fr0,fd0⟩:=zfs hpl hdxl nel k0 f0 g0;refine⟨_,rfl,p,a.zl7,dx,_,rfl,s4 _ _ q3,T.zl8,T.zns,(by show 3<1000;decide),?_⟩;rw[pF4];have q4:=s4 _ _ q3;have np4:pl≠p/\lr≠p/\ld≠p:=⟨Ne.symm (Zh q3 hpl),Ne.symm (Zh q3 fr0),Ne.symm (Zh q3 fd0)⟩;have b5:Vy p H (upd H4 p (.ins a.zl7 dx (sF4 (.int rn) (.int qn) (.ref pr) (.ref pl)))):=b3.trans ((Vy.of s4).trans .put);have q5:upd H4 p (.ins a.zl7 dx (sF4 (.int rn) (.int qn) (.ref pr) (.ref pl))) p=some (.ins a.zl7 dx (sF4 (.int rn) (.int qn) (.ref pr) (.ref pl))):=Zd;have kt5:∀ t xs,H4 t=#[a,.tup,xs]->upd H4 p (.ins a.zl7 dx (sF4 (.int rn) (.int qn) (.ref pr) (.ref pl))) t=#[a,.tup,xs]:=fun t xs e=>by rw[Zi (Yw e q4 (fun z=>nomatch z))];exact e
 have R5:=(R3.same s4).keep (H':=upd H4 p (.ins a.zl7 dx (sF4 (.int rn) (.int qn) (.ref pr) (.ref pl)))) (fun o e=>by rw[Zi np2.1];exact e) (fun o e=>by rw[Zi np2.2];exact e) kt5;have L5:=L0.keep (H':=upd H4 p (.ins a.zl7 dx (sF4 (.int rn) (.int qn) (.ref pr) (.ref pl)))) (fun o e=>by rw[Zi np4.1];exact e) (fun o e=>by rw[Zi np4.2.1];exact e) (fun o e=>by rw[Zi np4.2.2];exact e) kt5;have flr:H lr=none:=Vy.free b3 ⟨_,q3⟩ fr0;have fld:H ld=none:=Vy.free b3 ⟨_,q3⟩ fd0;have nrp:pr≠pl/\dr≠pl/\pr≠lr/\dr≠lr/\pr≠ld/\dr≠ld:=by
  obtain⟨⟨x,kv,z1,z2,_⟩,_⟩:=R3;exact⟨Zh z1 hpl,Zh z2 hpl,Zh z1 fr0,Zh z2 fr0,Zh z1 fd0,Zh z2 fd0⟩
 generalize upd H4 p (.ins a.zl7 dx (sF4 (.int rn) (.int qn) (.ref pr) (.ref pl)))=H5 at b5 q5 R5 L5;intro da hda;have npa:da≠p:=Ne.symm (Zh q5 hda);refine⟨_,rfl,p,a.zl7,dx,_,rfl,Zf (o:=.dT []) hda _ _ q5,T.zl8,T.zoj,(by show 4<1000;decide),?_⟩;rw[pF5];have b7:Vy p H5 (upd (upd H5 da (.dT [])) p (.ins a.zl7 dx (sF5 (.int rn) (.int qn) (.ref pr) (.ref pl) (.ref da)))):=(Vy.of (Zf hda)).trans .put;have q7:upd (upd H5 da (.dT [])) p (.ins a.zl7 dx (sF5 (.int rn) (.int qn) (.ref pr) (.ref pl) (.ref da))) p=some (.ins a.zl7 dx (sF5 (.int rn) (.int qn) (.ref pr) (.ref pl) (.ref da))):=Zd;have d7:upd (upd H5 da (.dT [])) p (.ins a.zl7 dx (sF5 (.int rn) (.int qn) (.ref pr) (.ref pl) (.ref da))) da=#[a,.dT,[]]:=by rw[Zi npa,Zd]
 generalize upd (upd H5 da (.dT [])) p (.ins a.zl7 dx (sF5 (.int rn) (.int qn) (.ref pr) (.ref pl) (.ref da)))=H7 at b7 q7 d7;refine⟨by show 0<=sizeLine;decide,fun ls hls=>?_⟩;have nps:ls≠p:=Ne.symm (Zh q7 hls);refine⟨_,rfl,p,a.zl7,dx,_,rfl,Zf (o:=.lst []) hls _ _ q7,T.zl8,T.zpp,(by show 5<1000;decide),?_⟩;rw[pF6];have b9:Vy p H7 (upd (upd H7 ls (.lst [])) p (.ins a.zl7 dx (sF6 (.int rn) (.int qn) (.ref pr) (.ref pl) (.ref da) (.ref ls)))):=(Vy.of (Zf hls)).trans .put;have q9:upd (upd H7 ls (.lst [])) p (.ins a.zl7 dx (sF6 (.int rn) (.int qn) (.ref pr) (.ref pl) (.ref da) (.ref ls))) p=some (.ins a.zl7 dx (sF6 (.int rn) (.int qn) (.ref pr) (.ref pl) (.ref da) (.ref ls))):=Zd;have l9:upd (upd H7 ls (.lst [])) p (.ins a.zl7 dx (sF6 (.int rn) (.int qn) (.ref pr) (.ref pl) (.ref da) (.ref ls))) ls=#[a,.lst,[]]:=by rw[Zi nps,Zd]
 generalize upd (upd H7 ls (.lst [])) p (.ins a.zl7 dx (sF6 (.int rn) (.int qn) (.ref pr) (.ref pl) (.ref da) (.ref ls)))=H9 at b9 q9 l9;refine⟨_,rfl,p,a.zl7,dx,_,rfl,q9,T.zl8,T.zm4,(by show 6<1000;decide),?_⟩;rw[pF7];have b10:Vy p H9 (upd H9 p (.ins a.zl7 dx (sF7 (.int rn) (.int qn) (.ref pr) (.ref pl) (.ref da) (.ref ls) .non))):=.put;have q10:upd H9 p (.ins a.zl7 dx (sF7 (.int rn) (.int qn) (.ref pr) (.ref pl) (.ref da) (.ref ls) .non)) p=some (.ins a.zl7 dx (sF7 (.int rn) (.int qn) (.ref pr) (.ref pl) (.ref da) (.ref ls) .non)):=Zd;generalize upd H9 p (.ins a.zl7 dx (sF7 (.int rn) (.int qn) (.ref pr) (.ref pl) (.ref da) (.ref ls) .non))=H10 at b10 q10;refine⟨by show 0<=sizeLine;decide,fun lt hlt=>?_⟩;have npt:lt≠p:=Ne.symm (Zh q10 hlt);refine⟨_,rfl,p,a.zl7,dx,_,rfl,Zf (o:=.lst []) hlt _ _ q10,T.zl8,T.znj,(by show 7<1000;decide),?_⟩;rw[pF8];have b12:Vy p H10 (upd (upd H10 lt (.lst [])) p (.ins a.zl7 dx (sF8 (.int rn) (.int qn) (.ref pr) (.ref pl) (.ref da) (.ref ls) .non (.ref lt)))):=(Vy.of (Zf hlt)).trans .put;have q12:upd (upd H10 lt (.lst [])) p (.ins a.zl7 dx (sF8 (.int rn) (.int qn) (.ref pr) (.ref pl) (.ref da) (.ref ls) .non (.ref lt))) p=some (.ins a.zl7 dx (sF8 (.int rn) (.int qn) (.ref pr) (.ref pl) (.ref da) (.ref ls) .non (.ref lt))):=Zd;have l12:upd (upd H10 lt (.lst [])) p (.ins a.zl7 dx (sF8 (.int rn) (.int qn) (.ref pr) (.ref pl) (.ref da) (.ref ls) .non (.ref lt))) lt=#[a,.lst,[]]:=by rw[Zi npt,Zd]
 generalize upd (upd H10 lt (.lst [])) p (.ins a.zl7 dx (sF8 (.int rn) (.int qn) (.ref pr) (.ref pl) (.ref da) (.ref ls) .non (.ref lt)))=H12 at b12 q12 l12;have b912:=b10.trans b12;have b712:=b9.trans b912;have b512:=b7.trans b712;have bb:=b5.trans b512;have kt:∀ t xs,H5 t=#[a,.tup,xs]->H12 t=#[a,.tup,xs]:=fun t xs e=>b512 t _ e (Yw e q5 (fun z=>nomatch z));have R12:=R5.keep (fun o e=>b512 _ o e np2.1) (fun o e=>b512 _ o e np2.2) kt;have L12:=L5.keep (fun o e=>b512 _ o e np4.1) (fun o e=>b512 _ o e np4.2.1) (fun o e=>b512 _ o e np4.2.2) kt;have d12:=b712 _ _ d7 npa;have l912:=b912 _ _ l9 nps;have fda:H da=none:=Vy.free b5 ⟨_,q5⟩ hda;have fls:H ls=none:=Vy.free (b5.trans b7) ⟨_,q7⟩ hls;have flt:H lt=none:=Vy.free (b5.trans (b7.trans (b9.trans b10))) ⟨_,q10⟩ hlt;have ex5:(∃ o,H5 pr=some o)/\(∃ o,H5 dr=some o)/\(∃ o,H5 pl=some o)/\(∃ o,H5 lr=some o)/\(∃ o,H5 ld=some o):=by
  obtain⟨⟨x,kv,z1,z2,_⟩,_⟩:=id R5;obtain⟨⟨y,w1⟩,⟨rs,w2,_⟩,⟨ks,w3,_⟩⟩:=id L5;exact⟨⟨_,z1⟩,⟨_,z2⟩,⟨_,w1⟩,⟨_,w2⟩,⟨_,w3⟩⟩
 have n5:∀ {x y:Addr},(∃ o,H5 x=some o)->H5 y=none->x≠y:=fun ⟨o,e⟩ hy=>Zh e hy;have fls5:H5 ls=none:=Vy.free b7 ⟨_,q7⟩ hls;have flt5:H5 lt=none:=Vy.free (b7.trans (b9.trans b10)) ⟨_,q10⟩ hlt;have ndas:da≠ls:=Zh d7 hls;have ndat:da≠lt:=Zh (b10 _ _ (b9 _ _ d7 npa) npa) hlt;have nst:ls≠lt:=Zh (b10 _ _ l9 nps) hlt;obtain⟨e1,e2,e3,e4,e5⟩:=ex5;have nrl:lr≠ld:=n0;refine hF ⟨p,pr,dr,pl,lr,ld,da,ls,lt⟩ H12 rfl ⟨⟨dx,.non,q12,rfl⟩,R12,L12,⟨[],d12,fun i n=>rfl,zvd _⟩,⟨[],l912,.nil⟩,⟨[],l12,.nil⟩,?_,?_⟩ bb ?_
 ·show [p,dr,lr,ld,da,ls,lt].Nodup;simp only[zvt,zu7,zv7,or_false,not_or];exact⟨⟨Ne.symm np2.2,Ne.symm np4.2.1,Ne.symm np4.2.2,Ne.symm npa,Ne.symm nps,Ne.symm npt⟩,⟨nrp.2.2.2.1,nrp.2.2.2.2.2,n5 e2 hda,n5 e2 fls5,n5 e2 flt5⟩,⟨nrl,n5 e4 hda,n5 e4 fls5,n5 e4 flt5⟩,⟨n5 e5 hda,n5 e5 fls5,n5 e5 flt5⟩,⟨ndas,ndat⟩,nst,by simp,zww⟩
 ·have hpr5:∃ x fs,H5 pr=some (.ins a.zmd x fs):=by obtain⟨⟨x,kv,z1,_⟩,_⟩:=R5;exact⟨_,_,z1⟩
  have hdr5:∃ kv,H5 dr=#[a,.dK,kv]:=by obtain⟨⟨x,kv,_,z2,_⟩,_⟩:=R5;exact⟨_,z2⟩
  have hpl5:∃ x fs,H5 pl=some (.ins a.zl9 x fs):=by obtain⟨⟨y,w1⟩,_⟩:=L5;exact⟨_,_,w1⟩
  obtain⟨x1,y1,z1⟩:=hpr5;obtain⟨y2,z2⟩:=hdr5;obtain⟨x3,y3,z3⟩:=hpl5;obtain⟨_,⟨rs,w2,_⟩,⟨ks,w3,_⟩⟩:=id L5;have nm:∀ m,m∈([p,dr,lr,ld,da,ls,lt]:List Addr)↔m=p\/m=dr\/m=lr\/m=ld\/m=da\/m=ls\/m=lt:=fun m=>by simp
  refine⟨fun hm=>?_,fun hm=>?_⟩
  ·rcases(nm _).mp hm with q|q|q|q|q|q|q
   ·exact np2.1 q
   ·exact Yw z1 z2 (fun z=>nomatch z) q
   ·exact nrp.2.2.1 q
   ·exact nrp.2.2.2.2.1 q
   ·exact n5 e1 hda q
   ·exact n5 e1 fls5 q
   ·exact n5 e1 flt5 q
  ·rcases(nm _).mp hm with q|q|q|q|q|q|q
   ·exact np4.1 q
   ·exact nrp.2.1 q.symm
   ·exact Yw z3 w2 (fun z=>nomatch z) q
   ·exact Yw z3 w3 (fun z=>nomatch z) q
   ·exact n5 e3 hda q
   ·exact n5 e3 fls5 q
   ·exact n5 e3 flt5 q
 ·intro x hx hxp;simp only[SAd.fp,zu7,zv7,or_false] at hx;rcases hx with q|q|q|q|q|q|q
  ·exact absurd q hxp
  ·rw[q];exact fdr
  ·rw[q];exact flr
  ·rw[q];exact fld
  ·rw[q];exact fda
  ·rw[q];exact fls
  ·rw[q];exact flt
abbrev Wb:Stmt:=Z1 (top 58) 1
theorem Sx:Zl ["self"] ["self"] (Zj Wb):=fnS
theorem Sy(F:#[f,"check_not_over","Season.check_not_over",Wb])(T:Tx K mg a)(zma:Zs P w K mg base a.zl7 "at_hand" 2 ["self"] (Uu (ca a))):FnOk P w K mg base (CX1 P w) 3 f fd ["self"] (M8 (ca a)):=by
 refine #[g,Sx];obtain⟨A',S,rfl,SA,h⟩:=h;refine⟨_,(Ze (Z3 (Zo T8 (Yh (pv 0) T.zl8 zma (hr.mono ⋯) Zk) (Zr (K:=K) rfl (pv 0) rfl) (Zt _))
  (Ze (Xh Xg rfl T.zsk rfl (Za Zq Zc)))
  Zp)),?_⟩
 obtain⟨⟨dx,v,a1,a2⟩,b,c,_⟩:=id SA;refine⟨_,rfl,A'.p,dx,_,rfl,a1,Z8 ⋯,A',S,rfl,SA,_,rfl,A'.p,a.zl7,dx,_,_,rfl,a1,T.zl8,T.zpd,E6,_,_,rfl,rfl,_,rfl,?_⟩;refine itD (fun hc=>?_) fun hc=>?_
 ·rw[if_pos (by unfold atV at hc;omega)] at h;exact⟨sz1,h⟩
 ·rw[if_neg (by unfold atV at hc;omega)] at h;exact h
abbrev Wh:Stmt:=Z1 (top 58) 2
theorem Rm:Zl ["self"] ["self"] (Zj Wh):=fnS
theorem Rn(F:#[f,"check_undrawn","Season.check_undrawn",Wh])(T:Tx K mg a)(zmo:Zs P w K mg base a.zl7 "check_not_over" 3 ["self"] (M8 (ca a))):FnOk P w K mg base (CX1 P w) 4 f fd ["self"] (M9 (ca a)):=by
 refine #[g,Rm];obtain⟨A',S,rfl,SA,h⟩:=h;refine⟨_,(Zb (Z7 (Yh (pv 0) T.zl8 zmo (hr.mono ⋯) Zk))
 (Ze (Z3 (Zo Ur (Zr (K:=K) rfl (pv 0) rfl) Yx (Zt _))
  (Ze (Xh Xg rfl T.zsp rfl (Za Zq Zc)))
  Zp))),?_⟩
 obtain⟨⟨dx,v,a1,a2⟩,b,c,_⟩:=id SA;refine⟨_,rfl,A'.p,dx,_,rfl,a1,Z8 ⋯,A',S,rfl,SA,?_⟩;refine it2 h (fun _ z=>z) fun hn h=>?_;refine⟨_,rfl,A'.p,a.zl7,dx,_,_,rfl,a1,T.zl8,T.zm4,Wu,rfl,_,rfl,?_⟩;cases hc:S.cur with
 | none =>
   rw[hc] at a2 h;have a2:v=.non:=a2;rw[a2];exact iteF h
 | some s =>
   rw[hc] at a2 h;obtain⟨q,rfl,_⟩:=a2;exact iteT ⟨sz1,h⟩
abbrev Wz:Stmt:=Z1 (top 58) 3
theorem Qt:Zl ["self","at"] ["self","at"] (Zj Wz):=fnS
theorem Qu(F:#[f,"check_round","Season.check_round",Wz])(T:Tx K mg a):FnOk P w K mg base (CX1 P w) 1 f fd ["self","at"] (D7 (ca a)):=by
 refine #[g,Qt];obtain⟨A',S,i,rfl,SA,si,h⟩:=h;refine⟨_,(Ze (Z3 (PW.pt (Wk (Zo C4 (pv 1) Zg (Zt _)) (Xs (Zo T8 (pv 1) (Zr (K:=K) rfl (pv 0) rfl) (Zt _)))))
  (Ze (Xh Xg rfl T.zqu rfl (Za (Va (Z2 (W3 (pv 1)) (Z2 (Xt ⋯) W9)) ⋯) Zc)))
  Zp)),?_⟩
 obtain⟨⟨dx,v,a1,a2⟩,b,c,_⟩:=id SA;refine⟨_,rfl,_,_,rfl,rfl,_,rfl,?_⟩;refine itD (fun hc=>?_) fun hc=>?_
 ·rw[if_pos (.inl hc)] at h;refine iteT ?_;exact⟨_,rfl,.inl ⟨_,rfl,si⟩,fun z=>⟨sz1,h⟩⟩
 refine⟨_,rfl,_,rfl,A'.p,a.zl7,dx,_,_,rfl,a1,T.zl8,T.zpd,E6,_,_,rfl,rfl,_,rfl,?_⟩;refine itD (fun hc2=>?_) fun hc2=>?_
 ·rw[if_pos (.inr hc2)] at h;exact⟨_,rfl,.inl ⟨_,rfl,si⟩,fun z=>⟨sz1,h⟩⟩
 ·rw[if_neg fun z=>z.elim hc hc2] at h;exact h
abbrev W4:Stmt:=Z1 (top 58) 4
theorem Pb:Zl ["self"] ["self"] (Zj W4):=fnS
theorem Pc(F:#[f,"check_room","Season.check_room",W4])(T:Tx K mg a):FnOk P w K mg base (CX1 P w) 1 f fd ["self"] (D8 (ca a)):=by
 refine #[g,Pb];obtain⟨A',S,rfl,SA,h⟩:=h;refine⟨_,(Ze (Z3 (Zo zew (Zm (cL K) (by rfl) T.zmg PySem.boot_len (Za (Zr (K:=K) rfl (pv 0) rfl) Zc)) (Wr rfl T.zn4) (Zt _))
  (Ze (Xh Xg rfl T.zrz rfl (Za (Va (Z2 (W3 (Wr rfl T.zn4)) (Z2 (Xt ⋯) W9)) ⋯) Zc)))
  Zp)),?_⟩
 obtain⟨⟨dx,v,a1,a2⟩,b,c,d,f,⟨us,g1,g2⟩,nd,np⟩:=id SA;refine⟨_,rfl,A'.p,a.zl7,dx,_,_,rfl,a1,T.zl8,T.znj,Se,A'.lt,_,rfl,.inl (SqL.of g1),_,_,rfl,rfl,_,rfl,?_⟩;rw[g2.length];refine itD (fun hc=>?_) fun hc=>?_
 ·rw[if_pos ⋯] at h;exact⟨.inl ⟨_,rfl,Yi ⋯⟩,fun z=>⟨sz1,h⟩⟩
 ·rw[if_neg ⋯] at h;exact h
abbrev Sz:Stmt:=Z1 (top 58) 5
theorem Gk:Zl ["self","word","number","at"] ["self","word","number","at"] (Zj Sz):=fnS
theorem Gm(F:#[f,"note","Season.note",Sz])(T:Tx K mg a):FnOk P w K mg base (CX1 P w) 1 f fd ["self","word","number","at"] (D9 (ca a)):=by
 refine #[g,Gk];obtain⟨A',S,w',n,i,rfl,SA,hz,h⟩:=h;refine⟨_,Ze (Y4 (Zr (K:=K) rfl (pv 0) rfl) (Yd (Za (Yd (Za (pv 1) (Za (pv 2) (Za (pv 3) Zc)))) (Za (Zr (K:=K) rfl (pv 0) rfl) Zc)))),?_⟩;obtain⟨⟨dx,v,a1,a2⟩,b,c,⟨kvs,d1,d2⟩,⟨vs,f1,f2⟩,⟨us,g1,g2⟩,nd,np⟩:=id SA;refine⟨_,rfl,A'.p,a.zl7,dx,_,_,rfl,a1,T.zl8,T.znj,Se,A'.lt,us,rfl,g1,?_⟩;refine⟨_,rfl,_,rfl,_,rfl,sz3,fun t1 ht1=>?_⟩;have s1:=Zf (o:=.tup [.str w',.int n,.int i]) ht1;have q1:upd H t1 (.tup [.str w',.int n,.int i]) t1=some (.tup (Oh (w',n,i))):=Zd;generalize upd H t1 (.tup [.str w',.int n,.int i])=H1 at s1 q1;refine⟨_,rfl,A'.p,a.zl7,dx,_,_,rfl,s1 _ _ a1,T.zl8,T.zm4,Wu,sz2,fun t2 ht2=>?_⟩;have s2:=Zf (o:=.tup [.ref t1,v]) ht2;have q2:upd H1 t2 (.tup [.ref t1,v]) t2=#[a,.tup,[.ref t1,v]]:=Zd;have q12:=s2 _ _ q1;have s12:=s1.trans s2;generalize upd H1 t2 (.tup [.ref t1,v])=H2 at s2 q2 q12 s12;refine⟨us,s12 _ _ g1,by have:=g2.length;have:=Th;omega,?_⟩;have fr:FrS A' H (upd H2 A'.lt (.lst (us++[.ref t2]))):=fun b o e hb=>by
  rw[Zi fun z=>hb (by rw[z];simp[SAd.fp])];exact s12 _ _ e
 have kt:=SA.tups fr;have kp:∀ x o,x≠A'.lt->H x=some o->upd H2 A'.lt (.lst (us++[.ref t2])) x=some o:=fun x o hx e=>by rw[Zi hx];exact s12 _ _ e
 have kt2:∀ t xs,H2 t=#[a,.tup,xs]->upd H2 A'.lt (.lst (us++[.ref t2])) t=#[a,.tup,xs]:=fun t xs e=>by
  rw[Zi (Yw e (s12 _ _ g1) (fun z=>nomatch z))];exact e
 have ko:∀ x o,x∉A'.fp->H x=some o->upd H2 A'.lt (.lst (us++[.ref t2])) x=some o:=fun x o hx e=>fr x o e hx;have nd':=nd;simp only[SAd.fp,zvt,zu7,zv7,or_false,not_or] at nd';obtain⟨⟨n1,n2,n3,n4,n5,n6⟩,⟨n7,n8,n9,n10,n11⟩,⟨n12,n13,n14,n15⟩,⟨n16,n17,n18⟩,⟨n19,n20⟩,n21,_⟩:=nd';have npt:A'.pr≠A'.lt/\A'.pl≠A'.lt:=⟨fun z=>np.1 (by rw[z];simp[SAd.fp]),fun z=>np.2 (by rw[z];simp[SAd.fp])⟩;refine h _ ⟨⟨dx,v,kp _ _ n6 a1,a2.keep ko kt⟩,b.keep (fun o e=>kp _ o npt.1 e) (fun o e=>kp _ o n11 e) kt,c.keep (fun o e=>kp _ o npt.2 e) (fun o e=>kp _ o n15 e) (fun o e=>kp _ o n18 e) kt,⟨kvs,kp _ _ n20 d1,d2⟩,⟨vs,kp _ _ n21 f1,f2.keep ko kt⟩,⟨us++[.ref t2],Zd,?_⟩,nd,np⟩ fr;exact(g2.keep ko kt).snoc (kt2 _ _ q2) (kt2 _ _ q12) (a2.keep ko kt)
abbrev Wi:Stmt:=Z1 (top 58) 6
theorem Ro:Zl ["self"] ["self"] (Zj Wi):=fnS
theorem Rp(F:#[f,"sheet_at_hand","Season.sheet_at_hand",Wi])(T:Tx K mg a):FnOk P w K mg base (CX1 P w) 1 f fd ["self"] (O6 (ca a)):=by
 refine #[g,Ro];obtain⟨A',S,rfl,SA,h1,h2⟩:=h;refine⟨_,(Zb (Z3 (Zo Oq (Zr (K:=K) rfl (pv 0) rfl) Yx (Zt _))
  (Ze (Xh Xg rfl T.zr0 rfl (Za Zq Zc)))
  Zp)
 (Ze (Zn (Zr (K:=K) rfl (pv 0) rfl)))),?_⟩
 obtain⟨⟨dx,v,a1,a2⟩,b,c,_⟩:=id SA;refine⟨_,rfl,A'.p,a.zl7,dx,_,_,rfl,a1,T.zl8,T.zm4,Wu,rfl,_,rfl,?_⟩;cases hc:S.cur with
 | none =>
   rw[hc] at a2;have a2:v=.non:=a2;rw[a2];exact iteT ⟨sz1,h1 hc⟩
 | some s =>
   rw[hc] at a2;obtain⟨q,rfl,hs⟩:=a2;refine iteF ?_;exact⟨_,rfl,A'.p,a.zl7,dx,_,_,rfl,a1,T.zl8,T.zm4,Wu,h2 s q hc hs⟩
abbrev V4:Stmt:=Z1 (top 58) 7
theorem Nn:Zl ["self","at"] ["self","at"] (Zj V4):=fnS
theorem Np(F:#[f,"sheet_of","Season.sheet_of",V4])(T:Tx K mg a)(zms:Zs P w K mg base a.zl7 "check_round" 1 ["self","at"] (D7 (ca a)))(zmi:Zs P w K mg base a.zl9 "over" 1 ["self"] (M4 a.zl9))(zma:Zs P w K mg base a.zl7 "at_hand" 2 ["self"] (Uu (ca a)))(zmp:Zs P w K mg base a.zl7 "sheet_at_hand" 1 ["self"] (O6 (ca a))):FnOk P w K mg base (CX1 P w) 3 f fd ["self","at"] (Uh (ca a)):=by
 refine #[g,Nn];obtain⟨A',S,i,rfl,SA,si,hol,h⟩:=h;refine⟨_,(Zb (Z7 (Yo (pv 0) T.zl8 zms (hr.mono ⋯) Zk (Za (pv 1) Zc)))
 (Zb (Z3 (Zo zeu (pv 1) (Yh (Zr (K:=K) rfl (pv 0) rfl) T.zmz zmi (hr.mono ⋯) Zk) (Zt _))
  (Ze (Zn (pI (iL K) (Zr (K:=K) rfl (pv 0) rfl) (Zu Sl (pv 1) Zg))))
  Zp)
 (Zb (Z3 (Zo T8 (pv 1) (Yh (pv 0) T.zl8 zma (hr.mono ⋯) Zk) (Zt _))
  (Ze (Xh Xg rfl T.zr0 rfl (Za (Va (Z2 (Xt ⋯) (Z2 (W3 (pv 1)) (Z2 (Xt ⋯) W9))) ⋯) Zc)))
  Zp)
 (Ze (Zn (Yh (pv 0) T.zl8 zmp (hr.mono ⋯) Zk)))))),?_⟩
 obtain⟨⟨dx,v,a1,a2⟩,b,c,d,⟨vs,f1,f2⟩,_⟩:=id SA;obtain⟨⟨dxl,hpl⟩,_⟩:=id c;refine⟨_,rfl,A'.p,dx,_,rfl,a1,Z8 ⋯,_,rfl,A',S,i,rfl,SA,si,?_⟩;refine it2 h (fun _ z=>z) fun hn h=>?_;refine⟨_,rfl,_,rfl,A'.p,a.zl7,dx,_,_,rfl,a1,T.zl8,T.zns,Ug,A'.pl,dxl,_,rfl,hpl,Kj ⋯ ⋯,A'.pl,A'.lr,A'.ld,S.led,rfl,c,_,_,rfl,rfl,_,rfl,?_⟩;refine itD (fun hc=>?_) fun hc=>?_
 ·have hk:(i-1).toNat<S.old.length:=by omega
  have hs:Wg S i=some (S.old[(i-1).toNat]'hk):=by unfold Wg;rw[if_pos hc];exact zu3 hk
  obtain⟨q,e1,e2⟩:=f2.getR (zu3 hk);exact⟨_,rfl,A'.p,a.zl7,dx,_,_,rfl,a1,T.zl8,T.zpp,E7,_,rfl,_,_,rfl,rfl,A'.ls,_,_,_,rfl,rfl,SqL.of f1,(show atI vs (i-1)=some (.ref q) by rw[show i-1=(((i-1).toNat:Nat):Int) by omega];exact Z0 e1),h.2 _ q hs e2⟩
 ·refine Zx ?_;refine⟨_,rfl,_,rfl,A'.p,dx,_,rfl,a1,Z8 ⋯,A',S,rfl,SA,_,_,rfl,rfl,_,rfl,?_⟩;refine itD (fun hc2=>?_) fun hc2=>?_
  ·exact⟨_,rfl,.inl ⟨_,rfl,si⟩,fun z=>⟨sz1,h.1 (by unfold Wg;rw[if_neg hc,if_pos (by unfold atV at hc2;omega)])⟩⟩
  ·have hs:Wg S i=S.cur:=by unfold Wg;rw[if_neg hc,if_neg (by unfold atV at hc2;omega)]
   exact⟨_,rfl,A'.p,dx,_,rfl,a1,Z8 ⋯,A',S,rfl,SA,fun hz=>h.1 (by rw[hs];exact hz),fun s q hz hq=>h.2 s q (by rw[hs];exact hz) hq⟩
abbrev Vj:Stmt:=Z1 (top 58) 8
theorem X7:Zl ["self","listed","people","at","out"] ["self","listed"] (Zj Vj):=fnS
theorem Od(F:#[f,"takers_of","Season.takers_of",Vj])(T:Tx K mg a)(zn8:Zs P w K mg base a.zmd "numbers" 1 ["self"] (Iq (ca a)))(zo2:Zs P w K mg base a.zmd "person" 3 ["self","number"] (B0 (ca a)))(zma:Zs P w K mg base a.zl7 "at_hand" 2 ["self"] (Uu (ca a)))(zr9:Z4 P w K mg base "takers" 4 ["people","match","out","ledger","rest"] (Bq K a.zl9)):FnOk P w K mg base (CX1 P w) 5 f fd ["self","listed"] (O7 (ca a)):=by
 refine #[g,X7];obtain⟨A',S,l,ts,ms,rfl,SA,hl,tl,hml,hpl,hsm,h⟩:=h;have hu:=Wq hr;refine⟨_,(Zb (pS 2 X7.nd (W7 rfl (cT ["self"] [0]) (Yc (K:=K) rfl (Yh (Zr (K:=K) rfl (pv 0) rfl) T.zmv zn8 (hr.mono ⋯) Zk)) (fun _ _ _ _ _=>W8) fun _ _ _ _ _=>(Yo (Zr (K:=K) rfl (pv 1) rfl) T.zmv zo2 (hr.mono ⋯) Bl (Za (pv 0) Zc))))
 (Zb (pS 3 X7.nd (Yh (pv 0) T.zl8 zma (hr.mono ⋯) Zk))
 (Zb (pS 4 X7.nd (W7 rfl (cT ["at","self"] [3,0]) (Yc (K:=K) rfl (Yh (Zr (K:=K) rfl (pv 0) rfl) T.zmv zn8 (hr.mono ⋯) Zk)) (fun _ _ _ _ _=>Sa (Sk (Ov hu (Yd (Za (pv 1) (Za (pv 0) Zc))) (Zr (K:=K) rfl (pv 2) rfl)))) (fun _ _ _ _ _=>(pv 0))))
 (Ze (Zn (W7 rfl (cT ["people","out","self"] [2,4,0]) (Yc (K:=K) rfl (pv 1)) (fun _ _ _ _ _=>W8) (fun _ _ _ _ _=>(zb5 zr9 (hr.mono ⋯) Bl rfl (Za (pv 1) (Za (pv 0) (Za (pv 2) (Za (Zr (K:=K) rfl (pv 3) rfl) (Za (Zr (K:=K) rfl (pv 3) rfl) Zc))))))))))))),?_⟩
 obtain⟨⟨dx,v,a1,a2⟩,b,c,⟨kvs,d1,d2⟩,_⟩:=id SA;obtain⟨⟨dxr,kvr,hpr,hdr,en⟩,ndr⟩:=id b;refine⟨_,rfl,A'.p,a.zl7,dx,_,_,rfl,a1,T.zl8,T.znq,Vo,A'.pr,dxr,_,rfl,hpr,Xl.no ⋯,A'.pr,A'.dr,S.ppl,rfl,b,fun ln hln=>?_⟩;have s1:=Zf (o:=.lst (S.ppl.map fun x=>V.int x.1)) hln;have q1:upd H ln (.lst (S.ppl.map fun x=>V.int x.1)) ln=some (.lst (S.ppl.map fun x=>V.int x.1)):=Zd;generalize upd H ln (.lst (S.ppl.map fun x=>V.int x.1))=H1 at s1 q1;have hnl:(S.ppl.map fun x=>V.int x.1).length=S.ppl.length:=by rw[zu2]
 refine⟨ln,rfl,⟨_,SqL.of q1⟩,Wn (K:=K) (xs:=S.ppl.map fun x=>V.int x.1) (fun i ys H'=>Same H H'/\Same H1 H'/\Z9 H' ys ((S.ppl.take i).map pV)/\ys.length=i) ⟨s1,Same.refl _,.nil,rfl⟩ (fun i ys H' _ ⟨_,z,_⟩=>SqL.of (z _ _ q1)) (szN ⋯) (fun i ys H' ⟨_,_,_,e⟩=>by omega) ?_ ?_⟩
 ·rintro i x ys H' hx ⟨sh,s1',tl',hyl⟩;have hi:i<S.ppl.length:=by have:=(zu4.mp hx).1;omega
  have hpi:S.ppl[i]?=some (S.ppl[i]'hi):=zu3 hi;have etk:S.ppl.take (i+1)=S.ppl.take i++[S.ppl[i]'hi]:=zvl hi;have hmem:S.ppl[i]'hi∈S.ppl:=zvx hi;have ex:x=.int (S.ppl[i]'hi).1:=by rw[zu8,hpi] at hx;exact(Option.some.inj hx).symm
  generalize (S.ppl[i]'hi)=pp at hpi etk hmem ex;subst ex;unfold tYes;dsimp only;rw[if_pos rfl];refine⟨_,rfl,A'.p,a.zl7,dx,_,_,rfl,sh _ _ a1,T.zl8,T.znq,Vo,A'.pr,dxr,_,rfl,sh _ _ hpr,Xl.no ⋯,_,rfl,A'.pr,A'.dr,S.ppl,pp.1,rfl,b.same sh,hsm pp hmem,fun z=>absurd (zvb.mpr ⟨pp,hmem,rfl⟩) z,fun g c' t H2 hm ht s2 _=>?_⟩;have epp:=zhs b.nd hm hmem rfl;rw[epp] at ht;refine⟨sh.trans s2,s1'.trans s2,?_,by rw[zu5,hyl];rfl⟩;rw[etk,zu9];exact(tl'.same s2).snoc ht
 rintro ys H2 ⟨sh2,s12,tl2,hyl⟩ lp hlp;rw[hnl,zvk] at tl2;have s3:=sh2.trans (Zf (o:=.lst ys) hlp);have q3:upd H2 lp (.lst ys) lp=#[a,.lst,ys]:=Zd;have tl3:=tl2.same (Zf (o:=.lst ys) hlp);generalize upd H2 lp (.lst ys)=H3 at s3 q3 tl3;have SA3:=SA.same s3;refine⟨_,rfl,A'.p,dx,_,rfl,s3 _ _ a1,Z8 ⋯,A',S,rfl,SA3,?_⟩;refine⟨_,rfl,A'.p,a.zl7,dx,_,_,rfl,s3 _ _ a1,T.zl8,T.znq,Vo,A'.pr,dxr,_,rfl,s3 _ _ hpr,Xl.no ⋯,A'.pr,A'.dr,S.ppl,rfl,b.same s3,fun ln4 hln4=>?_⟩;have s4:=Zf (o:=.lst (S.ppl.map fun x=>V.int x.1)) hln4;have q4:upd H3 ln4 (.lst (S.ppl.map fun x=>V.int x.1)) ln4=some (.lst (S.ppl.map fun x=>V.int x.1)):=Zd;generalize upd H3 ln4 (.lst (S.ppl.map fun x=>V.int x.1))=H4 at s4 q4;refine⟨ln4,rfl,⟨_,SqL.of q4⟩,Wn (K:=K) (xs:=S.ppl.map fun x=>V.int x.1) (fun i ys H'=>Same H4 H'/\ys=((S.ppl.take i).filter (pIn S.out (atV S))).map fun x=>V.int x.1) ⟨Same.refl _,rfl⟩ (fun i ys H' _ ⟨z,_⟩=>SqL.of (z _ _ q4)) (szN ⋯) (fun i ys H' ⟨_,e⟩=>by rw[e,zu2];exact zvh (zvz _ _) (zwq _ _)) ?_ ?_⟩
 ·rintro i x zs H' hx ⟨s4',rfl⟩;have hi:i<S.ppl.length:=by have:=(zu4.mp hx).1;omega
  have hpi:S.ppl[i]?=some (S.ppl[i]'hi):=zu3 hi;have etk:S.ppl.take (i+1)=S.ppl.take i++[S.ppl[i]'hi]:=zvl hi;have ex:x=.int (S.ppl[i]'hi).1:=by rw[zu8,hpi] at hx;exact(Option.some.inj hx).symm
  generalize (S.ppl[i]'hi)=pp at hpi etk ex;subst ex;refine⟨_,rfl,_,rfl,sz2,fun t ht=>?_⟩;have s5:=Zf (o:=.tup [.int (atV S),.int pp.1]) ht;have q5:upd H' t (.tup [.int (atV S),.int pp.1]) t=some (.tup (([inl (atV S),inl pp.1]:List Key).map kV)):=Zd;generalize upd H' t (.tup [.int (atV S),.int pp.1])=H5 at s5 q5;have sh5:=s3.trans (s4.trans (s4'.trans s5));refine⟨_,rfl,A'.p,a.zl7,dx,_,_,rfl,sh5 _ _ a1,T.zl8,T.zoj,Px,A'.da,_,rfl,DGet.t (k:=[inl (atV S),inl pp.1]) (sh5 _ _ d1) q5,_,rfl,?_⟩;rw[d2.isSome];have e2:∀ ws,((S.ppl.take (i+1)).filter (pIn S.out (atV S))).map (fun x=>V.int x.1)=((S.ppl.take i).filter (pIn S.out (atV S))).map (fun x=>V.int x.1)++ws↔ws=if pIn S.out (atV S) pp then [V.int pp.1] else []:=fun ws=>by
   rw[etk,zwi,zu9,List.append_cancel_left_eq];cases q:pIn S.out (atV S) pp<;>simp[q,eq_comm]
  refine itB (fun hb=>?_) fun hb=>?_
  ·exact⟨_,rfl,s4'.trans s5,((e2 [V.int pp.1]).mpr (by rw[show pIn S.out (atV S) pp=true from hb];rfl)).symm⟩
  ·refine⟨s4'.trans s5,?_⟩;have:=(e2 []).mpr (by rw[show pIn S.out (atV S) pp=false from hb];rfl);rw[zxc] at this;exact this.symm
 rintro zs H5 ⟨s45,rfl⟩ lo hlo;rw[hnl,zvk];have s6:=s45.trans (Zf (o:=.lst (outV S)) hlo);have q6:upd H5 lo (.lst (outV S)) lo=some (.lst (outV S)):=Zd;show Wl 4 (V.ref lo) _ (upd H5 lo (.lst (outV S))) _;generalize upd H5 lo (.lst (outV S))=H6 at s6 q6;have s36:=s4.trans s6;have s06:=s3.trans s36;have hl6:=s06 _ _ hl;have hts:ts.length=ms.length:=by rw[tl.length,zu2]
 refine⟨_,rfl,l,rfl,⟨_,SqL.of hl6⟩,Wn (K:=K) (xs:=ts) (fun i ys H'=>Same H6 H'/\∃ ls,ys=ls.map V.ref/\ILs H' ls ((mayS S ms).take i)/\ls.length=i/\∀ x∈ls,H x=none) ⟨Same.refl _,[],rfl,.nil,rfl,by simp⟩ (fun i ys H' _ ⟨z,_⟩=>SqL.of (z _ _ hl6)) (szN ⋯) (fun i ys H' ⟨_,ls,e1,_,e2,_⟩=>by rw[e1,zu2];omega) ?_ ?_⟩
 ·rintro i x ys' H' hx ⟨s6',ls,rfl,il,hll,hfr⟩;obtain⟨tm,m,rfl,hm,htm⟩:=K2 tl hx;have s0:=s06.trans s6';unfold tYes;dsimp only;rw[if_pos rfl];refine⟨_,rfl,_,rfl,_,rfl,_,rfl,A'.p,a.zl7,dx,_,_,rfl,s0 _ _ a1,T.zl8,T.zns,Ug,_,rfl,A'.p,a.zl7,dx,_,_,rfl,s0 _ _ a1,T.zl8,T.zrl,zhr,lp,lo,tm,A'.pl,A'.lr,A'.ld,S.led,ys,S.ppl,outV S,m.1,m.2.1,m.2.2,S.rest,rfl,(s36.trans s6') _ _ q3,tl3.same (s36.trans s6'),s6' _ _ q6,zge S,s0 _ _ htm,c.same s0,by omega,fun l2 H2 hl2 s2 f2=>?_⟩;rw[zjy] at hl2;refine⟨s6'.trans s2,ls++[l2],by rw[zu9];rfl,?_,by rw[zu5,hll];rfl,fun y hy=>?_⟩
  ·have e:(mayS S ms).take (i+1)=(mayS S ms).take i++[Ff S m]:=by
    unfold mayS;rw[zwg,zu8,hm];rfl
   rw[e];exact(il.same s2).snoc hl2
  ·rcases zve.mp hy with z|z
   ·exact hfr y z
   ·rw[zu6.mp z];exact s0.free f2
 ·rintro ys' H' ⟨s6',ls,rfl,il,hll,hfr⟩ l' hl';have hmy:(mayS S ms).length=ms.length:=by unfold mayS;rw[zu2]
  rw[hts,<- hmy,zvk] at il;have s0:=s06.trans s6';exact h l' ls _ Zd (il.same (Zf hl')) (s0.trans (Zf hl')) (s0.free hl') hfr
abbrev T1:Stmt:=Z1 (top 58) 9
theorem Jj:Zl ["self","number","grade","club"] ["self","number","grade","club"] (Zj T1):=fnS
theorem Jk(F:#[f,"enrol","Season.enrol",T1])(T:Tx K mg a)(zmq:Zs P w K mg base a.zl7 "check_undrawn" 4 ["self"] (M9 (ca a)))(zm3:Zs P w K mg base a.zmd "check_new" 2 ["self","number","grade","club"] (O3 (ca a)))(zmk:Zs P w K mg base a.zl7 "check_room" 1 ["self"] (D8 (ca a)))(zm5:Zs P w K mg base a.zl7 "note" 1 ["self","word","number","at"] (D9 (ca a)))(zma:Zs P w K mg base a.zl7 "at_hand" 2 ["self"] (Uu (ca a)))(zqe:Zs P w K mg base a.zmd "add" 3 ["self","number","grade","club"] (zgc (ca a))):FnOk P w K mg base (CX1 P w) 5 f fd ["self","number","grade","club"] (zcp (ca a)):=by
 refine #[g,Jj];obtain⟨A',S,n,g,c0,rfl,SA,sm,hz,hz2,h⟩:=h;refine⟨_,(Zb (Z7 (Yh (pv 0) T.zl8 zmq (hr.mono ⋯) Zk))
 (Zb (Z7 (Yo (Zr (K:=K) rfl (pv 0) rfl) T.zmv zm3 (hr.mono ⋯) Zk (Za (pv 1) (Za (pv 2) (Za (pv 3) Zc)))))
 (Zb (Z7 (Yh (pv 0) T.zl8 zmk (hr.mono ⋯) Zk))
 (Zb (Z7 (Yo (pv 0) T.zl8 zm5 (hr.mono ⋯) Zk (Za Zq (Za (pv 1) (Za (Yh (pv 0) T.zl8 zma (hr.mono ⋯) Zk) Zc)))))
 (Ze (Z7 (Yo (Zr (K:=K) rfl (pv 0) rfl) T.zmv zqe (hr.mono ⋯) Zk (Za (pv 1) (Za (pv 2) (Za (pv 3) Zc)))))))))),?_⟩
 obtain⟨⟨dx,v,a1,a2⟩,b,c,_⟩:=id SA;obtain⟨⟨dxr,kvr,hpr,hdr,en⟩,ndr⟩:=id b;refine⟨_,rfl,A'.p,dx,_,rfl,a1,Z8 ⋯,A',S,rfl,SA,?_⟩;refine it2 h (fun _ z=>z) fun h1 h=>it2 h (fun _ z=>z) fun h2 h=>?_;refine⟨_,rfl,A'.p,a.zl7,dx,_,_,rfl,a1,T.zl8,T.znq,Vo,A'.pr,dxr,_,rfl,hpr,Xl.no ⋯,_,rfl,_,rfl,_,rfl,A'.pr,A'.dr,S.ppl,n,g,c0,rfl,b,sm,?_⟩;refine it2 h (fun _ z=>z) fun h3 h=>it2 h (fun _ z=>z) fun h4 h=>it2 h (fun _ z=>z) fun h5 h=>?_;refine⟨_,rfl,A'.p,dx,_,rfl,a1,Z8 ⋯,A',S,rfl,SA,?_⟩;refine it2 h (fun _ z=>z) fun h6 h=>?_;refine⟨_,rfl,A'.p,dx,_,rfl,a1,Z8 ⋯,_,rfl,_,rfl,A'.p,dx,_,rfl,a1,Z8 ⋯,A',S,rfl,SA,A',S,"enrol",n,atV S,rfl,SA,hz,fun H1 SA1 f1=>?_⟩;obtain⟨⟨dx1,v1,a11,a12⟩,b1,c1,_⟩:=id SA1;obtain⟨⟨dxr1,kvr1,hpr1,hdr1,en1⟩,ndr1⟩:=id b1;refine⟨_,rfl,A'.p,a.zl7,dx1,_,_,rfl,a11,T.zl8,T.znq,Vo,A'.pr,dxr1,_,rfl,hpr1,Xl.no ⋯,_,rfl,_,rfl,_,rfl,A'.pr,A'.dr,S.ppl,n,g,c0,rfl,b1,sm,hz2,?_⟩;rw[if_neg h3,if_neg h4,if_neg h5];intro H2 R2 k2;obtain⟨SA2,f2⟩:=SA1.setRos R2 k2;exact h H2 SA2 (f1.trans f2)
abbrev Uk:Stmt:=Z1 (top 58) 10
theorem Sh:Zl ["self","matches","listed"] ["self","matches"] (Zj Uk):=fnS
theorem Mi(F:#[f,"draw_up","Season.draw_up",Uk])(T:Tx K mg a)(zmq:Zs P w K mg base a.zl7 "check_undrawn" 4 ["self"] (M9 (ca a)))(zrt:Z4 P w K mg base "checked" 3 ["matches"] (Iw K (ca a)))(zmk:Zs P w K mg base a.zl7 "check_room" 1 ["self"] (D8 (ca a)))(zm5:Zs P w K mg base a.zl7 "note" 1 ["self","word","number","at"] (D9 (ca a)))(zma:Zs P w K mg base a.zl7 "at_hand" 2 ["self"] (Uu (ca a)))(zp0:Z4 P w K mg base "drawn_sheet" 4 ["listed","lists"] (zcm (ca a)))(zm0:Zs P w K mg base a.zl7 "takers_of" 5 ["self","listed"] (O7 (ca a)))(zn1:Zs P w K mg base a.zmb "goes" 1 ["self"] (Ir (ca a))):FnOk P w K mg base (CX1 P w) 6 f fd ["self","matches"] (Ab K (ca a)):=by
 refine #[g,Sh];obtain⟨A',S,b,ts,ms,rfl,SA,hs,tl,sm,hml,hz,po,h⟩:=h;refine⟨_,(Zb (Z7 (Yh (pv 0) T.zl8 zmq (hr.mono ⋯) Zk))
 (Zb (pS 2 Sh.nd (pF zrt hr (Za (pv 1) Zc)))
 (Zb (Z7 (Yh (pv 0) T.zl8 zmk (hr.mono ⋯) Zk))
 (Zb (Z7 (Yo (pv 0) T.zl8 zm5 (hr.mono ⋯) Zk (Za Zq (Za (Zm (cL K) (by rfl) T.zmg PySem.boot_len (Za (pv 2) Zc)) (Za (Yh (pv 0) T.zl8 zma (hr.mono ⋯) Zk) Zc)))))
 (Zb (Xb (K:=K) rfl (pv 0) (pF zp0 hr (Za (pv 2) (Za (Yo (pv 0) T.zl8 zm0 (hr.mono ⋯) Zk (Za (pv 2) Zc)) Zc))) rfl)
 (Ze (Zn (Yh (Zr (K:=K) rfl (pv 0) rfl) T.zmj zn1 (hr.mono ⋯) Zk)))))))),?_⟩
 obtain⟨⟨dx,v,a1,a2⟩,br,cl,_⟩:=id SA;have hts:ts.length=ms.length:=by rw[tl.length,zu2]
 refine⟨_,rfl,A'.p,dx,_,rfl,a1,Z8 ⋯,A',S,rfl,SA,?_⟩;refine it2 h (fun _ z=>z) fun h1 h=>it2 h (fun _ z=>z) fun h2 h=>?_;refine⟨_,rfl,b,ts,ms,rfl,hs,tl,sm,hml,h.1,h.2.1,h.2.2.1,fun g1 g2 g3 l1 hl1=>?_⟩;have h4:=h.2.2.2 g1 g2 g3;have s1:=Zf (o:=.lst ts) hl1;have q1:upd H l1 (.lst ts) l1=#[a,.lst,ts]:=Zd;generalize upd H l1 (.lst ts)=H1 at s1 q1;have SA1:=SA.same s1;have a11:=s1 _ _ a1;refine⟨_,rfl,A'.p,dx,_,rfl,a11,Z8 ⋯,A',S,rfl,SA1,?_⟩;refine Bf (fun z=>h4.1 z H1 s1) fun hroom=>?_;refine⟨_,rfl,A'.p,dx,_,rfl,a11,Z8 ⋯,_,rfl,l1,_,rfl,.inl (SqL.of q1),_,rfl,A'.p,dx,_,rfl,a11,Z8 ⋯,A',S,rfl,SA1,A',S,"draw up",(ts.length:Nat),atV S,rfl,SA1,hz,fun H2 SA2 f2=>?_⟩;rw[hts] at SA2;have ok1:l1∉A'.fp:=SA.newOk l1 hl1;have q12:=f2 _ _ q1 ok1;have tl2:=(tl.same s1).mono (SA1.tups f2);obtain⟨⟨dx2,v2,a21,a22⟩,br2,_⟩:=id SA2;refine⟨_,rfl,_,rfl,A'.p,dx2,_,rfl,a21,Z8 ⋯,_,rfl,A',_,l1,ts,ms,rfl,SA2,q12,tl2,by omega,zvh po.2 ⋯,po.small,fun l2 ls H3 h3 il3 s3 f3 fl3=>?_⟩;have SA3:=SA2.same s3;have mo:Ql (mayS S ms) (S.ppl.map (·.1)):=po.may br2.nd g1;refine⟨(·∉A'.fp),l1,l2,ts,ls,ms,mayS S ms,_,rfl,s3 _ _ q12,tl2.same s3,h3,il3,ok1,SA2.newOk l2 f3,fun x hx=>SA2.newOk x (fl3 x hx),SA3.newOk,mo,fun q gv H4 ShA FP SP s4 fq=>?_⟩;have SA4:=SA3.same s4;obtain⟨⟨dx4,v4,a41,a42⟩,_⟩:=id SA4;refine⟨_,rfl,A'.p,a.zl7,dx4,_,rfl,a41,T.zl8,T.zm4,(by show 8<1000;decide),?_⟩;obtain⟨SA5,f5,Sh5⟩:=SA4.newSheet a41 ShA;generalize upd H4 A'.p (.ins a.zl7 dx4 (putF "sheet" (.ref q) (seaF A' S.len S.rest v4)))=H5 at SA5 f5 Sh5;obtain⟨⟨dx5,v5,a51,a52⟩,_⟩:=id SA5;obtain⟨q',rfl,Sq⟩:=a52;obtain⟨dxq,m1,m2,m3,m4,hq'⟩:=ShAt.ins Sq;refine⟨_,rfl,A'.p,a.zl7,dx5,_,_,rfl,a51,T.zl8,T.zm4,Wu,q',dxq,_,rfl,hq',Vx ⋯ ⋯ ⋯ ⋯,(·∉A'.fp),q',_,rfl,Sq,fun l H6 hl s6 fl=>?_⟩;have fr5:FrS A' H H5:=(FrS.of A' s1).trans (f2.trans ((FrS.of A' (s3.trans s4)).trans f5));exact h4.2 ⋯ l gv H6 hl (SA5.same s6) FP SP (fr5.trans (FrS.of A' s6)) (fr5.free SA5 fl)
abbrev S4:Stmt:=Z1 (top 58) 11
theorem Gn:Zl ["self","at","number"] ["self","at","number"] (Zj S4):=fnS
theorem Gp(F:#[f,"away","Season.away",S4])(T:Tx K mg a)(zms:Zs P w K mg base a.zl7 "check_round" 1 ["self","at"] (D7 (ca a)))(zmi:Zs P w K mg base a.zl9 "over" 1 ["self"] (M4 a.zl9))(zmh:Zs P w K mg base a.zmd "check_known" 1 ["self","number"] (U8 (ca a)))(zmk:Zs P w K mg base a.zl7 "check_room" 1 ["self"] (D8 (ca a)))(zm5:Zs P w K mg base a.zl7 "note" 1 ["self","word","number","at"] (D9 (ca a)))(zma:Zs P w K mg base a.zl7 "at_hand" 2 ["self"] (Uu (ca a)))(zoq:Zs P w K mg base a.zl7 "step_in" 6 ["self","number"] (Ac (ca a))):FnOk P w K mg base (CX1 P w) 7 f fd ["self","at","number"] (za7 (ca a)):=by
 refine #[g,Gn];obtain⟨A',S,i,n,rfl,SA,si,sn,hz,hoz,po,hcur,h⟩:=h;have hu:=Wq hr;refine⟨_,(Zb (Z7 (Yo (pv 0) T.zl8 zms (hr.mono ⋯) Zk (Za (pv 1) Zc)))
 (Zb (Z3 (Zo zeu (pv 1) (Yh (Zr (K:=K) rfl (pv 0) rfl) T.zmz zmi (hr.mono ⋯) Zk) (Zt _))
  (Ze (Xh Xg rfl T.zsm rfl (Za (Va (Z2 (Xt ⋯) (Z2 (W3 (pv 1)) (Z2 (Xt ⋯) W9))) ⋯) Zc)))
  Zp)
 (Zb (Z7 (Yo (Zr (K:=K) rfl (pv 0) rfl) T.zmv zmh (hr.mono ⋯) Zk (Za (pv 2) Zc)))
 (Zb (Z3 (Sk (Ov hu (Yd (Za (pv 1) (Za (pv 2) Zc))) (Zr (K:=K) rfl (pv 0) rfl)))
  (Ze (Xh Xg rfl T.zse rfl (Za (Va (Z2 (Xt ⋯) (Z2 (W3 (pv 2)) (Z2 (Xt ⋯) (Z2 (W3 (pv 1)) (Z2 (Xt ⋯) W9))))) ⋯) Zc)))
  Zp)
 (Zb (Z7 (Yh (pv 0) T.zl8 zmk (hr.mono ⋯) Zk))
 (Zb (Z7 (Yo (pv 0) T.zl8 zm5 (hr.mono ⋯) Zk (Za Zq (Za (pv 2) (Za (pv 1) Zc)))))
 (Zb (Ym hu (Zr (K:=K) rfl (pv 0) rfl) (Yd (Za (pv 1) (Za (pv 2) Zc))) Xc rfl)
 (Zb (Z3 (PW.pt (Wk (Zo T8 (pv 1) (Yh (pv 0) T.zl8 zma (hr.mono ⋯) Zk) (Zt _)) (Xs (Zo Oq (Zr (K:=K) rfl (pv 0) rfl) Yx (Zt _)))))
  (Ze (Zn (Ya Zc)))
  Zp)
 (Ze (Zn (Yo (pv 0) T.zl8 zoq (hr.mono ⋯) Zk (Za (pv 2) Zc)))))))))))),?_⟩
 show let y1:TS:=_;let y2:TS:=tSeq _ y1;let y3:TS:=tSeq _ y2;let y4:TS:=tSeq _ y3;let y5:TS:=tSeq _ y4;let y6:TS:=tSeq _ y5;let y7:TS:=tSeq _ y6;let y8:TS:=tSeq _ y7;tSeq _ y8 _ _ _;intro y1 y2 y3 y4 y5 y6 y7 y8;obtain⟨⟨dx,v,a1,a2⟩,br,cl,⟨kvs,d1,d2⟩,_⟩:=id SA;obtain⟨⟨dxl,hpl⟩,_⟩:=id cl;obtain⟨⟨dxr,kvr,hpr,hdr,en⟩,ndr⟩:=id br;refine⟨_,rfl,A'.p,dx,_,rfl,a1,Z8 ⋯,_,rfl,A',S,i,rfl,SA,si,?_⟩;refine it2 h (fun _ z=>z) fun h1 h=>?_;refine⟨_,rfl,_,rfl,A'.p,a.zl7,dx,_,_,rfl,a1,T.zl8,T.zns,Ug,A'.pl,dxl,_,rfl,hpl,Kj ⋯ ⋯,A'.pl,A'.lr,A'.ld,S.led,rfl,cl,_,_,rfl,rfl,_,rfl,?_⟩;refine itD (fun hc=>?_) fun hc=>?_
 ·rw[if_pos hc] at h;exact⟨_,rfl,.inl ⟨_,rfl,si⟩,fun z=>⟨sz1,h⟩⟩
 rw[if_neg hc] at h;refine Zx ?_;refine⟨_,rfl,A'.p,a.zl7,dx,_,_,rfl,a1,T.zl8,T.znq,Vo,A'.pr,dxr,_,rfl,hpr,Xl.no ⋯,_,rfl,A'.pr,A'.dr,S.ppl,n,rfl,br,sn,?_⟩;refine it2 h (fun hk h=>?_) fun _ z=>z;refine⟨_,rfl,_,rfl,sz2,fun t ht=>?_⟩;have s1:=Zf (o:=.tup [.int i,.int n]) ht;have q1:upd H t (.tup [.int i,.int n]) t=some (.tup (([inl i,inl n]:List Key).map kV)):=Zd;generalize upd H t (.tup [.int i,.int n])=H1 at s1 q1;have SA1:=SA.same s1;have a11:=s1 _ _ a1;refine⟨_,rfl,A'.p,a.zl7,dx,_,_,rfl,a11,T.zl8,T.zoj,Px,A'.da,_,rfl,DGet.t (k:=[inl i,inl n]) (s1 _ _ d1) q1,_,rfl,?_⟩;rw[d2.isSome];refine itD (fun hm=>?_) fun hm=>?_
 ·rw[if_pos hm] at h;exact⟨_,rfl,.inl ⟨_,rfl,sn⟩,_,rfl,.inl ⟨_,rfl,si⟩,fun z=>⟨sz1,h H1 s1⟩⟩
 rw[if_neg hm] at h;refine Zx ?_;refine⟨_,rfl,A'.p,dx,_,rfl,a11,Z8 ⋯,A',S,rfl,SA1,?_⟩;refine it2 h (fun _ z=>z H1 s1) fun h6 h=>?_;refine⟨_,rfl,A'.p,dx,_,rfl,a11,Z8 ⋯,_,rfl,_,rfl,A',S,"away",n,i,rfl,SA1,hz,fun H2 SA2 f2=>?_⟩;obtain⟨⟨dx2,v2,a21,a22⟩,br2,cl2,⟨kvs2,d21,d22⟩,_⟩:=id SA2;refine⟨_,rfl,A'.p,a.zl7,dx2,_,_,rfl,a21,T.zl8,T.zoj,Px,_,rfl,_,rfl,sz2,fun t2 ht2=>?_⟩;have s3:=Zf (o:=.tup [.int i,.int n]) ht2;have q3:upd H2 t2 (.tup [.int i,.int n]) t2=some (.tup (([inl i,inl n]:List Key).map kV)):=Zd;generalize upd H2 t2 (.tup [.int i,.int n])=H3 at s3 q3;have SA3:=SA2.same s3;refine⟨A'.da,_,rfl,DPut.t (k:=[inl i,inl n]) (s3 _ _ d21) q3 (by have:=d22.2;have h9:kvs2.length<=S.out.length:=this;have:=Th;omega),?_⟩;obtain⟨SA4,f4⟩:=SA3.setOut (out:=S.out++[(i,n)]) Zd (d22.put i n) (fun b o e hb=>by rw[Zi hb];exact e);generalize upd H3 A'.da (.dT (putK kvs2 [inl i,inl n] (.bl true)))=H4 at SA4 f4;have SA4:Zy (ca a) H4 A' (X0 S i n):=SA4;have fr4:FrS A' H H4:=(FrS.of A' s1).trans (f2.trans ((FrS.of A' s3).trans f4));obtain⟨⟨dx4,v4,a41,a42⟩,br4,_⟩:=id SA4;have empty:(S.cur=none\/atV S<i)->∀ l,H4 l=none->Q (.ref l) (upd H4 l (.lst [])):=fun hz l hl=>h.1 hz l _ Zd (SA4.same (Zf hl)) (fr4.trans (FrS.of A' (Zf hl))) (fr4.free SA4 hl);refine⟨_,rfl,_,rfl,A'.p,dx4,_,rfl,a41,Z8 ⋯,A',_,rfl,SA4,_,_,rfl,rfl,_,rfl,?_⟩;refine itD (fun hgt=>?_) fun hle=>?_
 ·refine iteT ?_;exact⟨by show 0<=sizeLine;decide,fun l hl=>empty (.inr hgt) l hl⟩
 have hat:i=atV S:=by
  have hle:¬ (atV S<i):=hle;unfold atV at hle ⊢;omega
 refine⟨_,rfl,A'.p,a.zl7,dx4,_,_,rfl,a41,T.zl8,T.zm4,Wu,rfl,_,rfl,?_⟩;cases hc4:S.cur with
 | none =>
   have e4:v4=.non:=by
    have:ShO a.zmb (·∉A'.fp) H4 v4 S.cur:=a42;rw[hc4] at this;exact this
   rw[e4];refine iteT ?_;exact⟨by show 0<=sizeLine;decide,fun l hl=>empty (.inl hc4) l hl⟩
 | some s =>
   have e4:∃ q,v4=.ref q:=by
    have:ShO a.zmb (·∉A'.fp) H4 v4 S.cur:=a42;rw[hc4] at this;obtain⟨q,e,_⟩:=this;exact⟨q,e⟩
   obtain⟨q4,rfl⟩:=e4;refine iteF (Zx ?_);obtain⟨hm20,FP,emay,hgz⟩:=hcur s hc4;have po4:Ri (X0 S i n):=po;have hgl:s.gv.length<=100:=by rw[FP.len,emay];unfold mayS;rw[zu2];omega
   refine⟨_,rfl,A'.p,dx4,_,rfl,a41,Z8 ⋯,_,rfl,A',X0 S i n,n,s,(X0 S i n).ppl.map (·.1),rfl,SA4,hc4,po4,hm20,FP.one,hgl,hgz,po4.may br4.nd hm20,fun hp l H5 hl SA5 f5 fl=>?_,fun p hp=>?_⟩
   ·exact h.2.1 s hat hc4 hp l H5 hl SA5 (fr4.trans f5) (fr4.free SA4 fl)
   ·have hgp:=R4 hp;refine⟨hgp,fun j hj=>FP.inj j p n hj hgp,?_,fun l us st e w' H5 hl tl CR SA5 f5 fl=>?_⟩
    ·rw[hat,Tj,<- emay];exact U7 FP hgp
    ·exact h.2.2 s p hat hc4 hp l us st e w' H5 hl tl CR SA5 (fr4.trans f5) (fr4.free SA4 fl)
abbrev Ul:Stmt:=Z1 (top 58) 12
theorem V5:Zl ["self","number","lists","fallen"] ["self","number"] (Zj Ul):=fnS
theorem Mj(F:#[f,"step_in","Season.step_in",Ul])(T:Tx K mg a)(zm0:Zs P w K mg base a.zl7 "takers_of" 5 ["self","listed"] (O7 (ca a)))(zna:Zs P w K mg base a.zmb "matches" 1 ["self"] (Q6 (ca a)))(zm6:Zs P w K mg base a.zmb "where" 2 ["self","number"] (Pw (ca a)))(zpj:Zs P w K mg base a.zmb "barred" 3 ["self","lists"] (B3 (ca a)))(zoe:Zs P w K mg base a.zmb "fallen_out" 3 ["self","number","lists"] (B4 (ca a)))(znn:Zs P w K mg base a.zmb "chains" 1 ["self"] (O5 (ca a))):FnOk P w K mg base (CX1 P w) 6 f fd ["self","number"] (Ac (ca a)):=by
 refine #[g,V5];obtain⟨A',S,n,s,nu,rfl,SA,hc,po,hml,ho,hgl,hgz,mo,h1,h2⟩:=h;refine⟨_,(Zb (pS 2 V5.nd (Yo (pv 0) T.zl8 zm0 (hr.mono ⋯) Zk (Za (Yh (Zr (K:=K) rfl (pv 0) rfl) T.zmj zna (hr.mono ⋯) Zk) Zc)))
 (Zb (Z3 (Zo Oq (Yo (Zr (K:=K) rfl (pv 0) rfl) T.zmj zm6 (hr.mono ⋯) Zk (Za (pv 1) Zc)) Yx (Zt _))
  (Zb (Xb (K:=K) rfl (pv 0) (Yo (Zr (K:=K) rfl (pv 0) rfl) T.zmj zpj (hr.mono ⋯) Zk (Za (pv 2) Zc)) rfl)
  (Ze (Zn (Ya Zc))))
  Zp)
 (Zb (Xb (K:=K) rfl (pv 0) (Yo (Zr (K:=K) rfl (pv 0) rfl) T.zmj zoe (hr.mono ⋯) Zk (Za (pv 1) (Za (pv 2) Zc))) rfl)
 (Zb (pS 3 V5.nd (Yh (Zr (K:=K) rfl (pv 0) rfl) T.zmj znn (hr.mono ⋯) Zk))
 (Ze (Zn (pI (iU K) (pI (iL K) (pv 3) (Ka Qw Zg)) Zg))))))),?_⟩
 obtain⟨⟨dx,v,a1,a2⟩,br,cl,_⟩:=id SA;rw[hc] at a2;obtain⟨q,rfl,Sq⟩:=a2;obtain⟨dxq,m1,m2,m3,m4,hq⟩:=ShAt.ins Sq;refine⟨_,rfl,A'.p,dx,_,rfl,a1,Z8 ⋯,_,rfl,A'.p,a.zl7,dx,_,_,rfl,a1,T.zl8,T.zm4,Wu,q,dxq,_,rfl,hq,Vx ⋯ ⋯ ⋯ ⋯,(·∉A'.fp),q,s,rfl,Sq,fun l1 ts H1 hl1 tl s1 f1=>?_⟩;have SA1:=SA.same s1;refine⟨A',S,l1,ts,s.ms,rfl,SA1,hl1,tl,by omega,zvh po.2 ⋯,po.small,fun l2 ls H2 h3 il3 s2 f3 fl3=>?_⟩;have s12:=s1.trans s2;have SA2:=SA1.same s2;have Sq2:=Sq.same s12;refine⟨_,rfl,A'.p,a.zl7,dx,_,_,rfl,s12 _ _ a1,T.zl8,T.zm4,Wu,q,dxq,_,rfl,s12 _ _ hq,Vx ⋯ ⋯ ⋯ ⋯,_,rfl,(·∉A'.fp),q,s,n,rfl,Sq2,ho,hgl,fun H3 s3=>?_⟩;have s13:=s12.trans s3;have SA3:=SA2.same s3;have Sq3:=Sq2.same s3;have il4:=il3.same s3;refine⟨rfl,_,rfl,?_⟩;cases hp:X2 s.gv n with
 | none =>
   refine iteT ?_;refine⟨_,rfl,A'.p,a.zl7,dx,_,_,rfl,s13 _ _ a1,T.zl8,T.zm4,Wu,q,dxq,_,rfl,s13 _ _ hq,Vx ⋯ ⋯ ⋯ ⋯,_,rfl,(·∉A'.fp),q,l2,ls,mayS S s.ms,s,rfl,Sq3,s3 _ _ h3,il4,SA1.newOk l2 f3,fun x hx=>SA1.newOk x (fl3 x hx),SA3.newOk,fun q' H4 ShA s4 fq=>?_⟩;have SA4:=SA3.same s4;obtain⟨⟨dx4,v4,a41,a42⟩,_⟩:=id SA4;refine⟨_,rfl,A'.p,a.zl7,dx4,_,rfl,a41,T.zl8,T.zm4,(by show 8<1000;decide),?_⟩;obtain⟨SA5,f5,Sh5⟩:=SA4.newSheet a41 ShA;generalize upd H4 A'.p (.ins a.zl7 dx4 (putF "sheet" (.ref q') (seaF A' S.len S.rest v4)))=H5 at SA5 f5 Sh5;have fr5:FrS A' H H5:=(FrS.of A' (s13.trans s4)).trans f5;refine⟨by show 0<=sizeLine;decide,fun l hl=>?_⟩;exact h1 hp l _ Zd (SA5.same (Zf hl)) (fr5.trans (FrS.of A' (Zf hl))) (fr5.free SA5 hl)
 | some p =>
   refine iteF (Zx ?_);obtain⟨hgp,hun,FP,h3'⟩:=h2 p hp;refine⟨_,rfl,A'.p,a.zl7,dx,_,_,rfl,s13 _ _ a1,T.zl8,T.zm4,Wu,q,dxq,_,rfl,s13 _ _ hq,Vx ⋯ ⋯ ⋯ ⋯,_,rfl,_,rfl,(·∉A'.fp),q,l2,ls,mayS S s.ms,nu,s,n,p,rfl,Sq3,s3 _ _ h3,il4,SA1.newOk l2 f3,fun x hx=>SA1.newOk x (fl3 x hx),SA3.newOk,mo,ho,hgp,hun,FP,by omega,fun q' st e w' H4 ShA CR s4 fq=>?_⟩;have SA4:=SA3.same s4;obtain⟨⟨dx4,v4,a41,a42⟩,_⟩:=id SA4;refine⟨_,rfl,A'.p,a.zl7,dx4,_,rfl,a41,T.zl8,T.zm4,(by show 8<1000;decide),?_⟩;obtain⟨SA5,f5,Sh5⟩:=SA4.newSheet a41 ShA;generalize upd H4 A'.p (.ins a.zl7 dx4 (putF "sheet" (.ref q') (seaF A' S.len S.rest v4)))=H5 at SA5 f5 Sh5;have fr5:FrS A' H H5:=(FrS.of A' (s13.trans s4)).trans f5;obtain⟨⟨dx5,v5,a51,a52⟩,_⟩:=id SA5;obtain⟨q5,rfl,Sq5⟩:=a52;obtain⟨dxq5,m51,m52,m53,m54,hq5⟩:=ShAt.ins Sq5;refine⟨_,rfl,A'.p,a.zl7,dx5,_,_,rfl,a51,T.zl8,T.zm4,Wu,q5,dxq5,_,rfl,hq5,Vx ⋯ ⋯ ⋯ ⋯,(·∉A'.fp),q5,_,rfl,Sq5,by show (s.gaps++[(n,st)]).length<=1000;rw[zu5];show s.gaps.length+1<=1000;omega,fun l us H6 hl gl s6 fl=>?_⟩;obtain⟨vs',t,l',us',rfl,ht,hl',tl',ok',_⟩:=Xz.unsnoc gl;refine⟨_,rfl,_,rfl,l,_,_,_,rfl,rfl,SqL.of hl,atI_last,t,_,_,_,rfl,rfl,SqT.of ht,rfl,?_⟩;exact h3' l' us' st e w' H6 hl' tl' CR (SA5.same s6) (fr5.trans (FrS.of A' s6)) (fr5.free SA5 ok')
abbrev T2:Stmt:=Z1 (top 58) 13
theorem Qn:Zl ["self","sheet"] ["self"] (Zj T2):=fnS
theorem Jl(F:#[f,"close","Season.close",T2])(T:Tx K mg a)(zmo:Zs P w K mg base a.zl7 "check_not_over" 3 ["self"] (M8 (ca a)))(zmp:Zs P w K mg base a.zl7 "sheet_at_hand" 1 ["self"] (O6 (ca a)))(zpr:Zs P w K mg base a.zl9 "write" 1 ["self","rows"] (B2 a.zl9))(zp6:Zs P w K mg base a.zmb "rows" 1 ["self"] (B6 (ca a)))(zmi:Zs P w K mg base a.zl9 "over" 1 ["self"] (M4 a.zl9)):FnOk P w K mg base (CX1 P w) 4 f fd ["self"] (zcq (ca a)):=by
 refine #[g,Qn];obtain⟨A',S,rfl,SA,ht,hl,hol,hcur,h⟩:=h;refine⟨_,(Zb (Z7 (Yh (pv 0) T.zl8 zmo (hr.mono ⋯) Zk))
 (Zb (pS 1 Qn.nd (Yh (pv 0) T.zl8 zmp (hr.mono ⋯) Zk))
 (Zb (Z7 (Yo (Zr (K:=K) rfl (pv 0) rfl) T.zmz zpr (hr.mono ⋯) Zk (Za (Yh (pv 1) T.zmj zp6 (hr.mono ⋯) Zk) Zc)))
 (Zb (Y4 (Zr (K:=K) rfl (pv 0) rfl) (pv 1))
 (Zb (Xb (K:=K) rfl (pv 0) Yx rfl)
 (Zb (Xb (K:=K) rfl (pv 0) (Ya Zc) rfl)
 (Ze (Zn (Yh (Zr (K:=K) rfl (pv 0) rfl) T.zmz zmi (hr.mono ⋯) Zk))))))))),?_⟩
 obtain⟨⟨dx,v,a1,a2⟩,br,cl,_⟩:=id SA;obtain⟨⟨dxl,hpl⟩,_⟩:=id cl;refine⟨_,rfl,A'.p,dx,_,rfl,a1,Z8 ⋯,A',S,rfl,SA,?_⟩;refine it2 h (fun _ z=>z) fun h1 h=>?_;refine⟨_,rfl,A'.p,dx,_,rfl,a1,Z8 ⋯,A',S,rfl,SA,h.1,fun s q hc Sq=>?_⟩;obtain⟨ho,hgl,hml⟩:=hcur s hc;obtain⟨dxq,m1,m2,m3,m4,hq⟩:=ShAt.ins Sq;refine⟨_,rfl,A'.p,a.zl7,dx,_,_,rfl,a1,T.zl8,T.zns,Ug,A'.pl,dxl,_,rfl,hpl,Kj ⋯ ⋯,_,rfl,q,dxq,_,rfl,hq,Vx ⋯ ⋯ ⋯ ⋯,(·∉A'.fp),q,s,rfl,Sq,ho,hgl,hml,fun l1 ts H1 hl1 tl s1 f1=>?_⟩;have SA1:=SA.same s1;have ok1:l1∉A'.fp:=SA.newOk l1 f1;refine⟨A'.pl,A'.lr,A'.ld,S.led,l1,ts,Z5 s,rfl,SA1.led,hl1,fun z=>ok1 (by rw[z];simp[SAd.fp]),tl,by rw[B7 hgl];omega,hl,fun H2 L2' k2=>?_⟩;obtain⟨SA2,f2⟩:=SA1.setLed L2' k2;obtain⟨⟨dx2,v2,a21,a22⟩,br2,cl2,d2,⟨vs,f21,f22⟩,_⟩:=id SA2;have Sq2:=(Sq.same s1).keep (fun x o hx e=>f2 x o e hx) (SA1.tups f2);refine⟨_,rfl,A'.p,a.zl7,dx2,_,_,rfl,a21,T.zl8,T.zpp,E7,A'.ls,vs,rfl,f21,_,rfl,vs,f21,by have:=f22.length;have h9:vs.length=S.old.length:=this;have:=Th;omega,?_⟩;have k3:∀ b o,H2 b=some o->b≠A'.ls->upd H2 A'.ls (.lst (vs++[.ref q])) b=some o:=fun b o e hb=>by rw[Zi hb];exact e
 have kt3:∀ t xs,H2 t=#[a,.tup,xs]->upd H2 A'.ls (.lst (vs++[.ref q])) t=#[a,.tup,xs]:=fun t xs e=>k3 t _ e (Yw e f21 (fun z=>nomatch z));have ko3:∀ x o,x∉A'.fp->H2 x=some o->upd H2 A'.ls (.lst (vs++[.ref q])) x=some o:=fun x o hx e=>k3 x o e fun z=>hx (by rw[z];simp[SAd.fp]);obtain⟨SA3,f3⟩:=SA2.setOld (old:=S.old++[s]) Zd ((f22.keep ko3 kt3).snoc (Sq2.keep ko3 kt3)) k3;generalize upd H2 A'.ls (.lst (vs++[.ref q]))=H3 at SA3 f3;obtain⟨⟨dx3,v3,a31,a32⟩,_⟩:=id SA3;refine⟨_,rfl,A'.p,a.zl7,dx3,_,rfl,a31,T.zl8,T.zm4,(by show 8<1000;decide),?_⟩;obtain⟨SA4,f4⟩:=SA3.setCur (H':=upd H3 A'.p (.ins a.zl7 dx3 (putF "sheet" .non (seaF A' S.len S.rest v3)))) (cur:=none) (v:=.non) ⟨dx3,by rw[Zd];exact congrArg (fun x=>some (HO.ins a.zl7 dx3 x)) O8⟩ rfl (fun b o e hb=>by rw[Zi hb];exact e);generalize upd H3 A'.p (.ins a.zl7 dx3 (putF "sheet" .non (seaF A' S.len S.rest v3)))=H4 at SA4 f4;obtain⟨⟨dx4,v4,a41,a42⟩,_⟩:=id SA4;refine⟨by show 0<=sizeLine;decide,fun x hx=>?_⟩;have npx:A'.p≠x:=Zh a41 hx;refine⟨_,rfl,A'.p,a.zl7,dx4,_,rfl,(by rw[Zi npx];exact a41),T.zl8,T.znj,(by show 8<1000;decide),?_⟩;obtain⟨SA5,f5⟩:=SA4.freshStd hx a41 a42 rfl;have fr4:FrS A' H H4:=(FrS.of A' s1).trans (f2.trans (f3.trans f4));have fx:H x=none:=fr4.free SA4 hx;generalize upd (upd H4 x (.lst [])) A'.p (.ins a.zl7 dx4 (putF "standing" (.ref x) (seaF A' S.len S.rest v4)))=H5 at SA5 f5;have SA5:Zy (ca a) H5 { A' with lt:=x } (Cb S s):=SA5;obtain⟨⟨dx5,v5,a51,a52⟩,br5,cl5,_⟩:=id SA5;obtain⟨⟨dxl5,hpl5⟩,_⟩:=id cl5;refine⟨_,rfl,A'.p,a.zl7,dx5,_,_,rfl,a51,T.zl8,T.zns,Ug,A'.pl,dxl5,_,rfl,hpl5,Kj ⋯ ⋯,A'.pl,A'.lr,A'.ld,S.led++[Z5 s],rfl,cl5,?_⟩;have hfin:=h.2 s x H5 hc SA5 (fr4.trans f5) fx;have e:(((S.led++[Z5 s]).length:Nat):Int)=atV S:=by rw[zu5];rfl
 rw[e];exact hfin
abbrev Vk:Stmt:=Z1 (top 58) 14
theorem W5:Zl ["self","last","deed"] ["self"] (Zj Vk):=fnS
theorem Oe(F:#[f,"take_back","Season.take_back",Vk])(T:Tx K mg a)(zo3:Zs P w K mg base a.zmd "strike" 1 ["self","number"] (By (ca a))):FnOk P w K mg base (CX1 P w) 2 f fd ["self"] (O9 (ca a)):=by
 refine #[g,W5];obtain⟨A',S,rfl,SA,h1,h2⟩:=h;have hu:=Wq hr;refine⟨_,(Zb (Z3 (Yy (Eo (K:=K) rfl (Zr (K:=K) rfl (pv 0) rfl) fun _=>rfl))
  (Ze (Xh Xg rfl T.zqt rfl (Za Zq Zc)))
  Zp)
 (Zb (pS 1 W5.nd (zfd PySem.F.plainAttrs_list PySem.F.slot_list_pop PySem.F.type_list_pop zjf (Zr (K:=K) rfl (pv 0) rfl)))
 (Zb (pS 2 W5.nd (pI (iU K) (pv 1) Zg))
 (Zb (Xb (K:=K) rfl (pv 0) (pI (iU K) (pv 1) Zg) rfl)
 (Zb (Z3 (Zo X8 (pI (iU K) (pv 2) Zg) Zq (Zt _))
  (Ze (Z7 (Yo (Zr (K:=K) rfl (pv 0) rfl) T.zmv zo3 (hr.mono ⋯) Zk (Za (pI (iU K) (pv 2) Zg) Zc))))
  Zp)
 (Zb (Z3 (Zo X8 (pI (iU K) (pv 2) Zg) Zq (Zt _))
  (Ze (Z7 (zgb hu (Zr (K:=K) rfl (pv 0) rfl) (Yd (Za (pI (iU K) (pv 2) Zg) (Za (pI (iU K) (pv 2) Zg) Zc))) ⟨rfl,rfl,rfl,rfl⟩)))
  Zp)
 (Ze (Zn (pv 2))))))))),?_⟩
 show let y1:TS:=_;let y2:TS:=tSeq _ y1;let y3:TS:=tSeq _ y2;let y4:TS:=tSeq _ y3;let y5:TS:=tSeq _ y4;let y6:TS:=tSeq _ y5;tSeq _ y6 _ _ _;intro y1 y2 y3 y4 y5 y6;obtain⟨⟨dx,v,a1,a2⟩,br,cl,d0,f0,⟨us,g1,g2⟩,_⟩:=id SA;refine⟨_,rfl,A'.p,a.zl7,dx,_,_,rfl,a1,T.zl8,T.znj,Se,_,.inl ⟨_,SqL.of g1,rfl⟩,?_⟩;have hul:=g2.length;rcases List.eq_nil_or_concat S.std with hn|⟨std',⟨d,s⟩,he⟩
 ·rw[hn] at hul;have hu0:us=[]:=zwl.mp hul;rw[hu0];exact iteT ⟨sz1,h1 hn⟩
 have he:S.std=std'++[(d,s)]:=by rw[he,List.concat_eq_append]
 rw[he] at g2;obtain⟨vs',t,u,v',rfl,ht,hu',hs,g3⟩:=Ux.unsnoc g2;have hne:(vs'++[V.ref t]).isEmpty=false:=by cases vs'<;>rfl
 rw[hne];refine iteF (Zx ?_);obtain⟨ppl,out,hbk,hfin⟩:=h2 std' d s he;refine⟨_,rfl,A'.p,a.zl7,dx,_,_,rfl,a1,T.zl8,T.znj,Se,.inl ⟨rfl,_,SqL.of g1⟩,A'.lt,_,V.ref t,rfl,rfl,g1,by simp,?_⟩;rw[List.dropLast_concat];have k1:∀ b o,H b=some o->b≠A'.lt->upd H A'.lt (.lst vs') b=some o:=fun b o e hb=>by rw[Zi hb];exact e
 have kt1:∀ t xs,H t=#[a,.tup,xs]->upd H A'.lt (.lst vs') t=#[a,.tup,xs]:=fun t xs e=>k1 t _ e (Yw e g1 (fun z=>nomatch z));have ko1:∀ x o,x∉A'.fp->H x=some o->upd H A'.lt (.lst vs') x=some o:=fun x o hx e=>k1 x o e fun z=>hx (by rw[z];simp[SAd.fp]);obtain⟨SA1,f1⟩:=SA.setStd (std:=std') Zd (g3.keep ko1 kt1) k1;have ht1:=kt1 _ _ ht;have hu1:=kt1 _ _ hu';have hs1:=hs.keep ko1 kt1;generalize upd H A'.lt (.lst vs')=H1 at SA1 f1 ht1 hu1 hs1;refine⟨_,rfl,t,_,_,_,rfl,rfl,SqT.of ht1,rfl,?_⟩;obtain⟨⟨dx1,v1,a11,a12⟩,_⟩:=id SA1;refine⟨_,rfl,t,_,_,_,rfl,rfl,SqT.of ht1,rfl,_,rfl,A'.p,a.zl7,dx1,_,rfl,a11,T.zl8,T.zm4,(by show 8<1000;decide),?_⟩;have k2:∀ b o,H1 b=some o->b≠A'.p->upd H1 A'.p (.ins a.zl7 dx1 (putF "sheet" v' (seaF A' S.len S.rest v1))) b=some o:=fun b o e hb=>by rw[Zi hb];exact e
 have kt2:∀ t xs,H1 t=#[a,.tup,xs]->upd H1 A'.p (.ins a.zl7 dx1 (putF "sheet" v' (seaF A' S.len S.rest v1))) t=#[a,.tup,xs]:=fun t xs e=>k2 t _ e (Yw e a11 (fun z=>nomatch z));obtain⟨SA2,f2⟩:=SA1.setCur (cur:=s) (v:=v') ⟨dx1,by rw[Zd];exact congrArg (fun x=>some (HO.ins a.zl7 dx1 x)) O8⟩ (hs1.keep (fun x o hx e=>k2 x o e fun z=>hx (by rw[z];simp[SAd.fp])) kt2) k2;have hu2:=kt2 _ _ hu1;generalize upd H1 A'.p (.ins a.zl7 dx1 (putF "sheet" v' (seaF A' S.len S.rest v1)))=H2 at SA2 f2 hu2;have fr2:=f1.trans f2;have d0:atI (Oh d) 0=#[a,.str,d.1]:=rfl;have d1:atI (Oh d) 1=#[a,.int,d.2.1]:=rfl;have d2:atI (Oh d) 2=#[a,.int,d.2.2]:=rfl;have es:∀ w:Str,decide (V.str d.1=V.str w)=decide (d.1=w):=fun w=>by
  by_cases z:d.1=w
  ·rw[zva z,zva (congrArg V.str z)]
  ·rw[zvf z,zvf fun q=>z (V.str.inj q)]
 walk_at "if";refine Ue ?_;refine⟨_,rfl,u,_,_,_,rfl,rfl,SqT.of hu2,d0,rfl,_,rfl,?_⟩;rw[es];obtain⟨⟨dx2,v2,a21,a22⟩,br2,cl2,⟨kvs2,e21,e22⟩,_⟩:=id SA2;have n1:¬ (("enrol":Str)="away"):=by decide +kernel
 have n2:¬ (("draw up":Str)="away"):=by decide +kernel
 have n3:¬ (("draw up":Str)="enrol"):=by decide +kernel
 have n4:¬ (("away":Str)="enrol"):=by decide +kernel
 rcases hbk with ⟨hd,⟨g,c0,hp⟩,ho⟩|⟨hd,hp,ho,hno⟩|⟨hd,hp,ho⟩
 ·rw[zva hd];refine iteT ?_;obtain⟨⟨dxr,kvr,hpr,hdr,en⟩,ndr⟩:=id br2;refine⟨_,rfl,A'.p,a.zl7,dx2,_,_,rfl,a21,T.zl8,T.znq,Vo,A'.pr,dxr,_,rfl,hpr,Xl.no ⋯,_,rfl,u,_,_,_,rfl,rfl,SqT.of hu2,d1,A'.pr,A'.dr,ppl,d.2.1,g,c0,rfl,(show Xl a.zmd H2 A'.pr A'.dr (ppl++[(d.2.1,g,c0)]) by have:Xl a.zmd H2 A'.pr A'.dr S.ppl:=br2;rw[hp] at this;exact this),fun H3 R3 k3=>?_⟩;obtain⟨SA3,f3⟩:=SA2.setRos R3 k3;have hu3:=SA2.tups f3 _ _ hu2;refine⟨_,rfl,u,_,_,_,rfl,rfl,SqT.of hu3,d0,rfl,_,rfl,?_⟩;rw[es,zvf (by rw[hd];exact n1)];refine iteF (Zx ⟨_,rfl,?_⟩);refine hfin u H3 hu3 ?_ (fr2.trans f3);rw[ho];exact SA3
 ·rw[zvf (by rw[hd];exact n4)];refine iteF (Zx ?_);refine⟨_,rfl,u,_,_,_,rfl,rfl,SqT.of hu2,d0,rfl,_,rfl,?_⟩;rw[es,zva hd];refine iteT ?_;refine⟨_,rfl,A'.p,a.zl7,dx2,_,_,rfl,a21,T.zl8,T.zoj,Px,A'.da,rfl,.inr ⟨kvs2,.inl e21⟩,_,rfl,u,_,_,_,rfl,rfl,SqT.of hu2,d2,_,rfl,u,_,_,_,rfl,rfl,SqT.of hu2,d1,sz2,fun tk htk=>?_⟩;have s3:=Zf (o:=.tup [.int d.2.2,.int d.2.1]) htk;have q3:upd H2 tk (.tup [.int d.2.2,.int d.2.1]) tk=some (.tup (([inl d.2.2,inl d.2.1]:List Key).map kV)):=Zd;generalize upd H2 tk (.tup [.int d.2.2,.int d.2.1])=H3 at s3 q3;have SA3:=SA2.same s3;have e22:Q5 kvs2 S.out:=e22;rw[ho] at e22;have hv:∃ vv,valV kvs2 [inl d.2.2,inl d.2.1]=some vv:=zwf.mp (by rw[e22.1,zva (by simp)]);obtain⟨vv,hv⟩:=hv;refine⟨kvs2,[inl d.2.2,inl d.2.1],tk,vv,s3 _ _ e21,rfl,q3,hv,?_⟩;obtain⟨SA4,f4⟩:=SA3.setOut (out:=out) Zd (e22.drop hno) (fun b o e hb=>by rw[Zi hb];exact e);have hu4:=SA3.tups f4 _ _ (s3 _ _ hu2);refine⟨_,rfl,hfin u _ hu4 ?_ (fr2.trans ((FrS.of A' s3).trans f4))⟩;rw[hp];exact SA4
 ·rw[zvf (by rw[hd];exact n3)];refine iteF (Zx ?_);refine⟨_,rfl,u,_,_,_,rfl,rfl,SqT.of hu2,d0,rfl,_,rfl,?_⟩;rw[es,zvf (by rw[hd];exact n2)];refine iteF (Zx ⟨_,rfl,hfin u H2 hu2 ?_ fr2⟩);rw[hp,ho];exact SA2
abbrev Um:Stmt:=Z1 (top 58) 15
theorem Ml:Zl ["self"] ["self"] (Zj Um):=fnS
theorem Mm(F:#[f,"at_hand","Season.at_hand",Um])(T:Tx K mg a)(zmi:Zs P w K mg base a.zl9 "over" 1 ["self"] (M4 a.zl9)):FnOk P w K mg base (CX1 P w) 2 f fd ["self"] (Uu (ca a)):=by
 refine #[g,Ml];obtain⟨A',S,rfl,SA,h⟩:=h;refine⟨_,Ze (Zn (Zu Yt (Yh (Zr (K:=K) rfl (pv 0) rfl) T.zmz zmi (hr.mono ⋯) Zk) Zg)),?_⟩;obtain⟨⟨dx,v,a1,a2⟩,b,c,_⟩:=id SA;obtain⟨⟨dxl,hpl⟩,_⟩:=id c;refine⟨_,rfl,A'.p,a.zl7,dx,_,_,rfl,a1,T.zl8,T.zns,Ug,A'.pl,dxl,_,rfl,hpl,Kj ⋯ ⋯,A'.pl,A'.lr,A'.ld,S.led,rfl,c,_,_,rfl,rfl,?_⟩;exact h
abbrev Uo:Stmt:=Z1 (top 58) 20
theorem Mn:Zl ["self","at"] ["self","at"] (Zj Uo):=fnS
theorem Mo(F:#[f,"matches","Season.matches",Uo])(T:Tx K mg a)(zmc:Zs P w K mg base a.zl7 "sheet_of" 3 ["self","at"] (Uh (ca a)))(zna:Zs P w K mg base a.zmb "matches" 1 ["self"] (Q6 (ca a))):FnOk P w K mg base (CX1 P w) 4 f fd ["self","at"] (Dc (ca a)):=by
 refine #[g,Mn];obtain⟨A',S,i,rfl,SA,hr0⟩:=h;refine⟨_,Ze (Zn (Yh (Yo (pv 0) T.zl8 zmc (hr.mono ⋯) Zk (Za (pv 1) Zc)) T.zmj zna (hr.mono ⋯) Zk)),?_⟩;obtain⟨si,hol,h⟩:=hr0;obtain⟨⟨dx,v,a1,a2⟩,_⟩:=id SA;refine⟨_,rfl,A'.p,dx,_,rfl,a1,Z8 ⋯,_,rfl,A',S,i,rfl,SA,si,hol,it2 h (fun _ z=>z) fun hn h=>⟨h.1,fun s q hs Sq=>?_⟩⟩;obtain⟨dxq,m1,m2,m3,m4,hq⟩:=ShAt.ins Sq;exact⟨q,dxq,_,rfl,hq,Vx ⋯ ⋯ ⋯ ⋯,(·∉A'.fp),q,s,rfl,Sq,fun l ts H' a b c d=>h.2 s hs l ts H' a b c d⟩
abbrev S5:Stmt:=Z1 (top 58) 21
theorem Gq:Zl ["self","at"] ["self","at"] (Zj S5):=fnS
theorem Gs(F:#[f,"goes","Season.goes",S5])(T:Tx K mg a)(zmc:Zs P w K mg base a.zl7 "sheet_of" 3 ["self","at"] (Uh (ca a)))(zn1:Zs P w K mg base a.zmb "goes" 1 ["self"] (Ir (ca a))):FnOk P w K mg base (CX1 P w) 4 f fd ["self","at"] (za8 (ca a)):=by
 refine #[g,Gq];obtain⟨A',S,i,rfl,SA,hr0⟩:=h;refine⟨_,Ze (Zn (Yh (Yo (pv 0) T.zl8 zmc (hr.mono ⋯) Zk (Za (pv 1) Zc)) T.zmj zn1 (hr.mono ⋯) Zk)),?_⟩;obtain⟨si,hol,h⟩:=hr0;obtain⟨⟨dx,v,a1,a2⟩,_⟩:=id SA;refine⟨_,rfl,A'.p,dx,_,rfl,a1,Z8 ⋯,_,rfl,A',S,i,rfl,SA,si,hol,it2 h (fun _ z=>z) fun hn h=>⟨h.1,fun s q hs Sq=>?_⟩⟩;obtain⟨dxq,m1,m2,m3,m4,hq⟩:=ShAt.ins Sq;exact⟨q,dxq,_,rfl,hq,Vx ⋯ ⋯ ⋯ ⋯,(·∉A'.fp),q,s,rfl,Sq,fun l H' a b c=>h.2 s hs l H' a b c⟩
abbrev T3:Stmt:=Z1 (top 58) 22
theorem Qo:Zl ["self","at","number","sheet"] ["self","at","number"] (Zj T3):=fnS
theorem Jm(F:#[f,"where","Season.where",T3])(T:Tx K mg a)(zmc:Zs P w K mg base a.zl7 "sheet_of" 3 ["self","at"] (Uh (ca a)))(zmh:Zs P w K mg base a.zmd "check_known" 1 ["self","number"] (U8 (ca a)))(zm6:Zs P w K mg base a.zmb "where" 2 ["self","number"] (Pw (ca a))):FnOk P w K mg base (CX1 P w) 4 f fd ["self","at","number"] (zcr (ca a)):=by
 refine #[g,Qo];obtain⟨A',S,i,n,rfl,SA,sn,hr0⟩:=h;refine⟨_,(Zb (pS 3 Qo.nd (Yo (pv 0) T.zl8 zmc (hr.mono ⋯) Zk (Za (pv 1) Zc)))
 (Zb (Z7 (Yo (Zr (K:=K) rfl (pv 0) rfl) T.zmv zmh (hr.mono ⋯) Zk (Za (pv 2) Zc)))
 (Ze (Zn (Yo (pv 3) T.zmj zm6 (hr.mono ⋯) Zk (Za (pv 2) Zc)))))),?_⟩
 obtain⟨si,hol,h⟩:=hr0;obtain⟨⟨dx,v,a1,a2⟩,br,_⟩:=id SA;obtain⟨⟨dxr,kvr,hpr,hdr,en⟩,ndr⟩:=id br;refine⟨_,rfl,A'.p,dx,_,rfl,a1,Z8 ⋯,_,rfl,A',S,i,rfl,SA,si,hol,it2 h (fun _ z=>z) fun hn h=>⟨h.1,fun s q hs Sq=>?_⟩⟩;obtain⟨dxq,m1,m2,m3,m4,hq⟩:=ShAt.ins Sq;obtain⟨k1,k2,k3⟩:=h.2 s hs;refine⟨_,rfl,A'.p,a.zl7,dx,_,_,rfl,a1,T.zl8,T.znq,Vo,A'.pr,dxr,_,rfl,hpr,Xl.no ⋯,_,rfl,A'.pr,A'.dr,S.ppl,n,rfl,br,sn,?_⟩;refine it2 k3 (fun hk k3=>?_) fun _ z=>z;exact⟨_,rfl,q,dxq,_,rfl,hq,Vx ⋯ ⋯ ⋯ ⋯,_,rfl,(·∉A'.fp),q,s,n,rfl,Sq,k1,k2,fun H' s'=>k3 H' s'⟩
abbrev S6:Stmt:=Z1 (top 58) 23
theorem Gu:Zl ["self","at"] ["self","at"] (Zj S6):=fnS
theorem Gv(F:#[f,"left","Season.left",S6])(T:Tx K mg a)(zmc:Zs P w K mg base a.zl7 "sheet_of" 3 ["self","at"] (Uh (ca a)))(zqa:Zs P w K mg base a.zmb "left" 2 ["self"] (B5 (ca a))):FnOk P w K mg base (CX1 P w) 4 f fd ["self","at"] (Ae (ca a)):=by
 refine #[g,Gu];obtain⟨A',S,i,rfl,SA,hr0⟩:=h;refine⟨_,Ze (Zn (Yh (Yo (pv 0) T.zl8 zmc (hr.mono ⋯) Zk (Za (pv 1) Zc)) T.zmj zqa (hr.mono ⋯) Zk)),?_⟩;obtain⟨si,hol,h⟩:=hr0;obtain⟨⟨dx,v,a1,a2⟩,_⟩:=id SA;refine⟨_,rfl,A'.p,dx,_,rfl,a1,Z8 ⋯,_,rfl,A',S,i,rfl,SA,si,hol,it2 h (fun _ z=>z) fun hn h=>⟨h.1,fun s q hs Sq=>?_⟩⟩;obtain⟨dxq,m1,m2,m3,m4,hq⟩:=ShAt.ins Sq;obtain⟨k1,k2,k3⟩:=h.2 s hs;exact⟨q,dxq,_,rfl,hq,Vx ⋯ ⋯ ⋯ ⋯,(·∉A'.fp),q,s,rfl,Sq,k1,k2,fun l H' a b c=>k3 l H' a b c⟩
abbrev Qe:Stmt:=Z1 (top 58) 24
theorem Fv:Zl ["self","at"] ["self","at"] (Zj Qe):=fnS
theorem Fw(F:#[f,"why","Season.why",Qe])(T:Tx K mg a)(zmc:Zs P w K mg base a.zl7 "sheet_of" 3 ["self","at"] (Uh (ca a)))(zqk:Zs P w K mg base a.zmb "why" 3 ["self"] (zcn (ca a))):FnOk P w K mg base (CX1 P w) 4 f fd ["self","at"] (zii (ca a)):=by
 refine #[g,Fv];obtain⟨A',S,i,rfl,SA,hr0⟩:=h;refine⟨_,Ze (Zn (Yh (Yo (pv 0) T.zl8 zmc (hr.mono ⋯) Zk (Za (pv 1) Zc)) T.zmj zqk (hr.mono ⋯) Zk)),?_⟩;obtain⟨si,hol,h⟩:=hr0;obtain⟨⟨dx,v,a1,a2⟩,_⟩:=id SA;refine⟨_,rfl,A'.p,dx,_,rfl,a1,Z8 ⋯,_,rfl,A',S,i,rfl,SA,si,hol,it2 h (fun _ z=>z) fun hn h=>⟨h.1,fun s q hs Sq=>?_⟩⟩;obtain⟨dxq,m1,m2,m3,m4,hq⟩:=ShAt.ins Sq;obtain⟨⟨nu,k0⟩,k1,k2,k3⟩:=h.2 s hs;exact⟨q,dxq,_,rfl,hq,Vx ⋯ ⋯ ⋯ ⋯,(·∉A'.fp),q,s,nu,rfl,Sq,k0,k1,k2,fun t lp lr ps rs H'=>k3 t lp lr ps rs H'⟩
abbrev U1:Stmt:=Z1 (top 58) 25
theorem Ls:Zl ["self","at"] ["self","at"] (Zj U1):=fnS
theorem Lu(F:#[f,"chains","Season.chains",U1])(T:Tx K mg a)(zmc:Zs P w K mg base a.zl7 "sheet_of" 3 ["self","at"] (Uh (ca a)))(znn:Zs P w K mg base a.zmb "chains" 1 ["self"] (O5 (ca a))):FnOk P w K mg base (CX1 P w) 4 f fd ["self","at"] (Ma (ca a)):=by
 refine #[g,Ls];obtain⟨A',S,i,rfl,SA,hr0⟩:=h;refine⟨_,Ze (Zn (Yh (Yo (pv 0) T.zl8 zmc (hr.mono ⋯) Zk (Za (pv 1) Zc)) T.zmj znn (hr.mono ⋯) Zk)),?_⟩;obtain⟨si,hol,h⟩:=hr0;obtain⟨⟨dx,v,a1,a2⟩,_⟩:=id SA;refine⟨_,rfl,A'.p,dx,_,rfl,a1,Z8 ⋯,_,rfl,A',S,i,rfl,SA,si,hol,it2 h (fun _ z=>z) fun hn h=>⟨h.1,fun s q hs Sq=>?_⟩⟩;obtain⟨dxq,m1,m2,m3,m4,hq⟩:=ShAt.ins Sq;obtain⟨k1,k3⟩:=h.2 s hs;exact⟨q,dxq,_,rfl,hq,Vx ⋯ ⋯ ⋯ ⋯,(·∉A'.fp),q,s,rfl,Sq,k1,fun l ts H' a b c d=>k3 l ts H' a b c d⟩
abbrev T4:Stmt:=Z1 (top 58) 28
theorem Jn:Zl ["self"] ["self"] (Zj T4):=fnS
theorem Jo(F:#[f,"facts","Season.facts",T4])(T:Tx K mg a)(zma:Zs P w K mg base a.zl7 "at_hand" 2 ["self"] (Uu (ca a)))(zpq:Zs P w K mg base a.zl9 "facts" 1 ["self","at"] (zcd a.zl9 a.zm9)):FnOk P w K mg base (CX1 P w) 3 f fd ["self"] (Dg (ca a)):=by
 refine #[g,Jn];obtain⟨A',S,rfl,SA,hl,h⟩:=h;refine⟨_,Ze (Zn (W7 rfl (cT ["self"] [0]) (Ec rfl T.zmx (Za Zg (Za (Yh (pv 0) T.zl8 zma (hr.mono ⋯) Zk) Zc))) (fun _ _ _ _ _=>W8) fun _ _ _ _ _=>(Yo (Zr (K:=K) rfl (pv 1) rfl) T.zmz zpq (hr.mono ⋯) Bl (Za (pv 0) Zc)))),?_⟩;obtain⟨⟨dx,v,a1,a2⟩,b,c,_⟩:=id SA;obtain⟨⟨dxl,lp⟩,_⟩:=id c;have eat:(atV S-1).toNat=S.led.length:=by unfold atV;omega
 refine⟨_,rfl,A'.p,dx,_,rfl,a1,Z8 ⋯,A',S,rfl,SA,1,atV S,rfl,⟨by omega,by omega,by unfold atV;omega,by unfold atV;omega⟩,?_⟩;rw[eat];refine Ru (fun i ys H'=>Same H H'/\∃ ls,ys=ls.map V.ref/\RwL H' ls (S.led.take i)/\ls.length=i/\∀ x∈ls,H x=none) ⟨Same.refl _,[],rfl,.nil,rfl,by simp⟩ (szN ⋯) (fun i ys H' ⟨_,ls,e1,_,e2,_⟩=>by rw[e1,zu2];omega) (fun i ys H' hi p=>?_) fun ys H' p l' hl'=>?_
 ·obtain⟨s1,ls,rfl,rl,hll,hfr⟩:=p;have hri:S.led[i]?=some (S.led[i]'hi):=zu3 hi;unfold tYes;dsimp only;rw[if_pos rfl];refine⟨_,rfl,A'.p,a.zl7,dx,_,_,rfl,s1 _ _ a1,T.zl8,T.zns,Ug,A'.pl,dxl,_,rfl,s1 _ _ lp,Kj ⋯ ⋯,_,rfl,A'.pl,A'.lr,A'.ld,S.led,1+(i:Int),rfl,c.same s1,Ye ⋯ ⋯,fun z=>by omega,fun k rs hk hrs l2 ts hl2 tl2=>?_⟩;have ek:k=i:=by omega
  subst ek;have s2:=Zf (o:=.lst ts) hl2;refine⟨s1.trans s2,ls++[l2],by rw[zu9];rfl,?_,by rw[zu5,hll];rfl,fun y hy=>?_⟩
  ·rw[Xv hrs];exact(rl.same s2).snoc Zd (tl2.same s2)
  ·rcases zve.mp hy with z|z
   ·exact hfr y z
   ·rw[zu6.mp z];exact s1.free hl2
 ·obtain⟨s1,ls,rfl,rl,hll,hfr⟩:=p;rw[zvk] at rl;exact h l' ls _ Zd (rl.same (Zf hl')) (s1.trans (Zf hl')) (s1.free hl') hfr
abbrev Pd:Stmt:=top 60
theorem Co:Zl ["_law_found"] ["_law_found"] (Zj Pd):=fnS
theorem Cp(F:#[f,"_law_whole","_law_whole",Pd])(T:Tx K mg a):FnOk P w K mg base (CX1 P w) 1 f fd ["_law_found"] Jw:=by
 refine #[g,Co];obtain⟨i,rfl,h⟩:=h;refine⟨_,Ze (Zn (zad (Zm (Wa (K:=K) rfl) (by rfl) T.zmm PyProof.Rows.boot_isinstance (Za (pv 0) (Za (Vq rfl T.zsg PyProof.Rows.boot_int (show RelV (.ty "int") _ from rfl)) Zc))) (Dl (zis (Zm (Wa (K:=K) rfl) (by rfl) T.zmm PyProof.Rows.boot_isinstance (Za (pv 0) (Za (Vq rfl T.zr6 PyProof.Rows.boot_bool (show RelV (.ty "bool") _ from rfl)) Zc))))))),?_⟩;refine⟨_,rfl,_,_,_,_,rfl,.of (.int i),.inl ⟨_,rfl⟩,zjm K,_,rfl,?_⟩;refine iteT ?_;exact⟨_,rfl,_,_,_,_,rfl,.of (.int i),.inl ⟨_,rfl⟩,zjn K,_,rfl,h⟩
abbrev Gw:Stmt:=top 61
theorem zeh:Zl ["_law_script","_law_k"] ["_law_script","_law_k"] (Zj Gw):=fnS
theorem zei(F:#[f,"_law_at","_law_at",Gw])(T:Tx K mg a):FnOk P w K mg base (CX1 P w) 1 f fd ["_law_script","_law_k"] (zdg K):=by
 refine #[g,zeh];obtain⟨b,ns,k,rfl,hs,h⟩:=h;refine⟨_,(Zb (Z3 (Zo C4 (pv 1) (Zm (cL K) (by rfl) T.zmg PySem.boot_len (Za (pv 0) Zc)) (Zt _))
  (Ze (Zn (pI (iL K) (pv 0) (pv 1))))
  Zp)
 (Ze (Zn Zg))),?_⟩
 refine⟨_,rfl,_,rfl,b,_,rfl,.inl hs,_,_,rfl,rfl,_,rfl,?_⟩;rw[zu2];refine itD (fun hk=>?_) fun hk=>?_
 ·have hk':k<ns.length:=by omega
  refine⟨_,rfl,_,rfl,b,_,_,_,rfl,rfl,hs,Z0 (show (ns.map V.int)[k]?=#[e,X5 ns k] from ?_),h⟩;unfold X5;rw[zu8,zu3 hk'];rfl
 ·have e:X5 ns k=0:=by unfold X5;rw[List.getElem?_eq_none ⋯];rfl
  rw[e] at h;exact h
abbrev Lv:Stmt:=top 62
theorem Qf:Zl ["_law_cell_here","_law_k","_law_one","_law_two","_law_three"] ["_law_cell_here","_law_k"] (Zj Lv):=fnS
theorem zbq(F:#[f,"_law_mix","_law_mix",Lv])(T:Tx K mg a):FnOk P w K mg base (CX1 P w) 1 f fd ["_law_cell_here","_law_k"] zb9:=by
 refine #[g,Qf];obtain⟨c,k,rfl,h⟩:=h;refine⟨_,(Zb (pS 2 Qf.nd (Zu Yz (Zu Yt (Zu Qv (pv 0) Zg) (pv 1)) Zg))
 (Zb (pS 3 Qf.nd (Zu Yz (Zu Yt (Zu Qv (pv 2) Zg) (Zu Qv Zg (pv 1))) Zg))
 (Zb (pS 4 Qf.nd (Zu Yz (Zu Yt (Zu Qv (pv 3) Zg) (pv 2)) Zg))
 (Ze (Zn (Zu Yt (Zu Qv (Zu Yt (Zu Qv (pv 2) Zg) (pv 3)) Zg) (pv 4))))))),?_⟩
 walk_at "rd";exact h
abbrev Yp:Stmt:=top 63
theorem Pf:Zl ["_law_cell_here","_law_many","_law_step"] ["_law_cell_here","_law_many"] (Zj Yp):=fnS
@[irreducible] def V6:List Expr:=zd1 (Al (P8 (Xq (Zv Yp) 0)))
@[irreducible] def Ph:Pos:=zd2 (Al (P8 (Xq (Zv Yp) 0)))
theorem Lw:Zv Yp=[.Assign (zgj (Xq (Zv Yp) 0)) (.Subscript (.List V6 Ph) (zhv (P8 (Xq (Zv Yp) 0))) (zhw (P8 (Xq (Zv Yp) 0)))) (stP (Xq (Zv Yp) 0)),Xq (Zv Yp) 1]:=by unfold V6 Ph;kernel_rfl
theorem Ly:I9 V6 [1,2,5,10,100,500,998]:=by unfold V6;exact⟨by kernel_rfl,by kernel_rfl⟩
theorem Gx(F:#[f,"_law_numbers","_law_numbers",Yp])(T:Tx K mg a):FnOk P w K mg base (CX1 P w) 1 f fd ["_law_cell_here","_law_many"] Ig:=by
 refine #[g,Pf];obtain⟨c,m,rfl,hm,h⟩:=h;rw[Lw];refine⟨_,(Zb (pS 2 Pf.nd (pI (iL K) (Ya (Py [1,2,5,10,100,500,998] Ly)) (Zu Yz (pv 0) Zg)))
 (Ze (Zn (W7 rfl (cT ["_law_cell_here","_law_step"] [0,2]) (Y3 rfl T.zmx (Za (pv 1) Zc)) (fun _ _ _ _ _=>W8) (fun _ _ _ _ _=>(Zu Yt Zg (Zu Yz (Zu Yt (Zu Xj (pv 1) Zg) (Zu Qv (pv 2) (pv 0))) Zg))))))),?_⟩
 refine⟨by show 7<=sizeLine;decide,fun p0 hp0=>?_⟩;walk_at "rd";refine⟨p0,_,_,_,rfl,rfl,SqL.of Zd,Wm (xs:=[1,2,5,10,100,500,998]) ⋯ (by show c%7<7;omega),?_⟩;refine⟨_,rfl,_,rfl,by omega,by omega,En (fun j=>V.int (zdh c j)) (by rw[zvj];exact zvh hm ⋯) (fun i R hi k=>?_) fun p hp=>?_⟩
 ·rw[zvj] at hi;walk_at "rd";refine⟨.inr ⟨by omega,by omega⟩,?_⟩;walk_at "rd";rw[zwb];exact k
 ·rw[zvj];refine h p _ ?_ ((Zf hp0).trans (Zf hp)) ((Zf hp0).free hp);rw[Zd];unfold Ki;rw[zwn];rfl
abbrev Xe:Stmt:=top 64
theorem Mp:Zl ["_law_cell_here","_law_many","_law_step"] ["_law_cell_here","_law_many"] (Zj Xe):=fnS
@[irreducible] def Ta:List Expr:=zd1 (Al (P8 (Xq (Zv Xe) 0)))
@[irreducible] def Mq:Pos:=zd2 (Al (P8 (Xq (Zv Xe) 0)))
theorem Gy:Zv Xe=[.Assign (zgj (Xq (Zv Xe) 0)) (.Subscript (.List Ta Mq) (zhv (P8 (Xq (Zv Xe) 0))) (zhw (P8 (Xq (Zv Xe) 0)))) (stP (Xq (Zv Xe) 0)),Xq (Zv Xe) 1]:=by unfold Ta Mq;kernel_rfl
theorem Gz:I9 Ta [1,2,5,10,50,97,98]:=by unfold Ta;exact⟨by kernel_rfl,by kernel_rfl⟩
theorem Cq(F:#[f,"_law_clubs","_law_clubs",Xe])(T:Tx K mg a):FnOk P w K mg base (CX1 P w) 1 f fd ["_law_cell_here","_law_many"] zca:=by
 refine #[g,Mp];obtain⟨c,m,rfl,hm,h⟩:=h;rw[Gy];refine⟨_,(Zb (pS 2 Mp.nd (pI (iL K) (Ya (Py [1,2,5,10,50,97,98] Gz)) (Zu Yz (pv 0) Zg)))
 (Ze (Zn (W7 rfl (cT ["_law_cell_here","_law_step"] [0,2]) (Y3 rfl T.zmx (Za (pv 1) Zc)) (fun _ _ _ _ _=>W8) (fun _ _ _ _ _=>(Zu Yt Zg (Zu Yz (Zu Yt (Zu Xj (pv 1) Zg) (Zu Qv (pv 2) (pv 0))) Zg))))))),?_⟩
 refine⟨by show 7<=sizeLine;decide,fun p0 hp0=>?_⟩;walk_at "rd";refine⟨p0,_,_,_,rfl,rfl,SqL.of Zd,Wm (xs:=[1,2,5,10,50,97,98]) ⋯ (by show c%7<7;omega),?_⟩;refine⟨_,rfl,_,rfl,by omega,by omega,En (fun j=>V.int (Ep c j)) (by rw[zvj];exact zvh hm ⋯) (fun i R hi k=>?_) fun p hp=>?_⟩
 ·rw[zvj] at hi;walk_at "rd";refine⟨.inr ⟨by omega,by omega⟩,?_⟩;walk_at "rd";rw[zwb];exact k
 ·rw[zvj];refine h p _ ?_ ((Zf hp0).trans (Zf hp)) ((Zf hp0).free hp);rw[Zd];unfold Qz;rw[zwn];rfl
abbrev Qg:Stmt:=top 65
theorem Fy:Zl ["_law_found","_law_due"] ["_law_found","_law_due"] (Zj Qg):=fnS
theorem F3(F:#[f,"_law_one_is","_law_one_is",Qg])(T:Tx K mg a)(znf:Z4 P w K mg base "_law_whole" 1 ["_law_found"] Jw):FnOk P w K mg base (CX1 P w) 2 f fd ["_law_found","_law_due"] Pp:=by
 refine #[g,Fy];obtain⟨x,rfl,hx,h⟩:=h;refine⟨_,Ze (Zn (Cy (Zo Oq (pv 1) Yx (Zt _)) (U5 Oq (pv 0) Yx (Zt _)) (zad (pF znf hr (Za (pv 0) Zc)) (Dl (U5 X8 (pv 0) (pv 1) (Zt _)))))),?_⟩;rcases hx with rfl|⟨i,rfl⟩
 ·refine⟨_,rfl,rfl,_,rfl,?_⟩;refine iteT ?_;exact⟨_,rfl,rfl,h⟩
 ·refine⟨_,rfl,rfl,_,rfl,?_⟩;refine iteF ?_;refine⟨_,rfl,i,rfl,_,rfl,?_⟩;refine iteT ?_;refine⟨_,rfl,_,rfl,rfl,?_⟩;rw[zva rfl];exact h
abbrev S7:Stmt:=top 66
theorem Pj:Zl ["_law_found","_law_due","_law_k"] ["_law_found","_law_due"] (Zj S7):=fnS
theorem G1(F:#[f,"_law_list_is","_law_list_is",S7])(T:Tx K mg a)(zmn:Z4 P w K mg base "_law_one_is" 2 ["_law_found","_law_due"] Pp):FnOk P w K mg base (CX1 P w) 3 f fd ["_law_found","_law_due"] (Ih K):=by
 refine #[g,Pj];obtain⟨b,c,xs,rfl,hb,hc,ho,hl,h⟩:=h;refine⟨_,(Zb (Z3 (PW.pt (Wk (Yy (Yr (Zm (Wa (K:=K) rfl) (by rfl) T.zmm PyProof.Rows.boot_isinstance (Za (pv 0) (Za (Vq rfl T.zno PyProof.Rows.boot_list (show RelV (.ty "list") _ from rfl)) Zc))))) (Xs (Zo Kb (Zm (cL K) (by rfl) T.zmg PySem.boot_len (Za (pv 0) Zc)) (Zm (cL K) (by rfl) T.zmg PySem.boot_len (Za (pv 1) Zc)) (Zt _)))))
  (Ze (Zn Xc))
  Zp)
 (Zb (Ys PassesOwn.leaving rfl (Y3 rfl T.zmx (Za (Zm (cL K) (by rfl) T.zmg PySem.boot_len (Za (pv 1) Zc)) Zc)) (pN 2 Pj.nd)
  (Ze (Z3 (Yy (Yr (pF zmn hr (Za (pI (iL K) (pv 0) (pv 2)) (Za (pI (iL K) (pv 1) (pv 2)) Zc)))))
   (Ze (Zn Xc))
   Zp)))
 (Ze (Zn Xc)))),?_⟩
 refine⟨_,rfl,_,_,_,_,rfl,.of (.lst hb),.inl ⟨_,rfl⟩,M3 K,_,rfl,?_⟩;refine iteF ?_;refine⟨_,rfl,b,_,rfl,.inl (SqL.of hb),_,rfl,c,_,rfl,.inl hc,rfl,_,rfl,?_⟩;rw[zva rfl];refine iteF ?_;refine⟨_,rfl,c,_,rfl,.inl hc,_,rfl,by omega,by omega,Xu (fun i σ H'=>H'=H/\(∃ v,σ=[some (.ref b),some (.ref c),v])) ⟨rfl,⟨_,rfl⟩⟩ (fun i σ H' hi ⟨e,⟨v,hv⟩⟩=>?_) fun σ H' ⟨e,⟨v,hv⟩⟩=>?_⟩
 ·subst e hv;rw[zvj] at hi;have h1:xs[i]?=some (xs[i]'hi):=zu3 hi;rw[zwb];refine⟨_,rfl,_,rfl,b,_,_,_,rfl,rfl,SqL.of hb,Z0 h1,_,rfl,_,rfl,c,_,_,_,rfl,rfl,hc,Z0 h1,_,rfl,ho _ (zvx hi),_,rfl,?_⟩;exact iteF ⟨rfl,⟨_,rfl⟩⟩
 ·subst e hv;exact h
abbrev T5:Stmt:=top 67
theorem Qp:Zl ["_law_found","_law_due","_law_k"] ["_law_found","_law_due"] (Zj T5):=fnS
theorem Jp(F:#[f,"_law_tuple_is","_law_tuple_is",T5])(T:Tx K mg a)(zmn:Z4 P w K mg base "_law_one_is" 2 ["_law_found","_law_due"] Pp):FnOk P w K mg base (CX1 P w) 3 f fd ["_law_found","_law_due"] (Er K):=by
 refine #[g,Qp];obtain⟨b,c,xs,rfl,hb,hc,ho,hl,h⟩:=h;refine⟨_,(Zb (Z3 (PW.pt (Wk (Yy (Yr (Zm (Wa (K:=K) rfl) (by rfl) T.zmm PyProof.Rows.boot_isinstance (Za (pv 0) (Za (Vq rfl T.zpt PyProof.Rows.boot_tuple (show RelV (.ty "tuple") _ from rfl)) Zc))))) (Xs (Zo Kb (Zm (cL K) (by rfl) T.zmg PySem.boot_len (Za (pv 0) Zc)) (Zm (cL K) (by rfl) T.zmg PySem.boot_len (Za (pv 1) Zc)) (Zt _)))))
  (Ze (Zn Xc))
  Zp)
 (Zb (Ys PassesOwn.leaving rfl (Y3 rfl T.zmx (Za (Zm (cL K) (by rfl) T.zmg PySem.boot_len (Za (pv 1) Zc)) Zc)) (pN 2 Qp.nd)
  (Ze (Z3 (Yy (Yr (pF zmn hr (Za (pI (iU K) (pv 0) (pv 2)) (Za (pI (iU K) (pv 1) (pv 2)) Zc)))))
   (Ze (Zn Xc))
   Zp)))
 (Ze (Zn Xc)))),?_⟩
 refine⟨_,rfl,_,_,_,_,rfl,.of (.tup hb),.inl ⟨_,rfl⟩,zaw K,_,rfl,?_⟩;refine iteF ?_;refine⟨_,rfl,b,_,rfl,.inr (SqT.of hb),_,rfl,c,_,rfl,.inr hc,rfl,_,rfl,?_⟩;rw[zva rfl];refine iteF ?_;refine⟨_,rfl,c,_,rfl,.inr hc,_,rfl,by omega,by omega,Xu (fun i σ H'=>H'=H/\(∃ v,σ=[some (.ref b),some (.ref c),v])) ⟨rfl,⟨_,rfl⟩⟩ (fun i σ H' hi ⟨e,⟨v,hv⟩⟩=>?_) fun σ H' ⟨e,⟨v,hv⟩⟩=>?_⟩
 ·subst e hv;rw[zvj] at hi;have h1:xs[i]?=some (xs[i]'hi):=zu3 hi;rw[zwb];refine⟨_,rfl,_,rfl,b,_,_,_,rfl,rfl,SqT.of hb,Z0 h1,_,rfl,_,rfl,c,_,_,_,rfl,rfl,hc,Z0 h1,_,rfl,ho _ (zvx hi),_,rfl,?_⟩;exact iteF ⟨rfl,⟨_,rfl⟩⟩
 ·subst e hv;exact h
abbrev T6:Stmt:=top 68
theorem Qq:Zl ["_law_found","_law_due","_law_k"] ["_law_found","_law_due"] (Zj T6):=fnS
theorem Jq(F:#[f,"_law_rows_are","_law_rows_are",T6])(T:Tx K mg a)(zpi:Z4 P w K mg base "_law_tuple_is" 3 ["_law_found","_law_due"] (Er K)):FnOk P w K mg base (CX1 P w) 4 f fd ["_law_found","_law_due"] (Pq K):=by
 refine #[g,Qq];obtain⟨b,c,ts,us,R,rfl,hb,hc,tl,ul,ho,hl,h⟩:=h;refine⟨_,(Zb (Z3 (PW.pt (Wk (Yy (Yr (Zm (Wa (K:=K) rfl) (by rfl) T.zmm PyProof.Rows.boot_isinstance (Za (pv 0) (Za (Vq rfl T.zno PyProof.Rows.boot_list (show RelV (.ty "list") _ from rfl)) Zc))))) (Xs (Zo Kb (Zm (cL K) (by rfl) T.zmg PySem.boot_len (Za (pv 0) Zc)) (Zm (cL K) (by rfl) T.zmg PySem.boot_len (Za (pv 1) Zc)) (Zt _)))))
  (Ze (Zn Xc))
  Zp)
 (Zb (Ys PassesOwn.leaving rfl (Y3 rfl T.zmx (Za (Zm (cL K) (by rfl) T.zmg PySem.boot_len (Za (pv 1) Zc)) Zc)) (pN 2 Qq.nd)
  (Ze (Z3 (Yy (Yr (pF zpi hr (Za (pI (iL K) (pv 0) (pv 2)) (Za (pI (iL K) (pv 1) (pv 2)) Zc)))))
   (Ze (Zn Xc))
   Zp)))
 (Ze (Zn Xc)))),?_⟩
 have el:ts.length=us.length:=by rw[tl.length,ul.length]
 have hul:=ul.length;refine⟨_,rfl,_,_,_,_,rfl,.of (.lst hb),.inl ⟨_,rfl⟩,M3 K,_,rfl,?_⟩;refine iteF ?_;refine⟨_,rfl,b,_,rfl,.inl (SqL.of hb),_,rfl,c,_,rfl,.inl hc,rfl,_,rfl,?_⟩;rw[el,zva rfl];refine iteF ?_;refine⟨_,rfl,c,_,rfl,.inl hc,_,rfl,by omega,by omega,Xu (fun i σ H'=>H'=H/\(∃ v,σ=[some (.ref b),some (.ref c),v])) ⟨rfl,⟨_,rfl⟩⟩ (fun i σ H' hi ⟨e,⟨v,hv⟩⟩=>?_) fun σ H' ⟨e,⟨v,hv⟩⟩=>?_⟩
 ·subst e hv;rw[zvj] at hi;have hR:i<R.length:=by rw[<- ul.length];exact hi
  obtain⟨t1,e1,q1⟩:=tl.getR (zu3 hR);obtain⟨t2,e2,q2⟩:=ul.getR (zu3 hR);obtain⟨o1,o2⟩:=ho _ (zvx hR);rw[zwb];refine⟨_,rfl,_,rfl,b,_,_,_,rfl,rfl,SqL.of hb,Z0 e1,_,rfl,_,rfl,c,_,_,_,rfl,rfl,hc,Z0 e2,t1,t2,_,rfl,q1,SqT.of q2,o2,o1,_,rfl,?_⟩;exact iteF ⟨rfl,⟨_,rfl⟩⟩
 ·subst e hv;exact h
abbrev Up:Stmt:=top 69
theorem V7:Zl ["_law_may","_law_given","_law_seen","_law_k"] ["_law_may","_law_given"] (Zj Up):=fnS
theorem Mr(F:#[f,"_law_is_filling","_law_is_filling",Up])(T:Tx K mg a)(znf:Z4 P w K mg base "_law_whole" 1 ["_law_found"] Jw):FnOk P w K mg base (CX1 P w) 2 f fd ["_law_may","_law_given"] (Kl K):=by
 refine #[g,V7];obtain⟨l,lg,ls,rows,gs,rfl,hl,il,hrl,hg,FP,h⟩:=h;have hu:=Wq hr;refine⟨_,(Zb (Z3 (PW.pt (Wk (Yy (Yr (Zm (Wa (K:=K) rfl) (by rfl) T.zmm PyProof.Rows.boot_isinstance (Za (pv 1) (Za (Vq rfl T.zno PyProof.Rows.boot_list (show RelV (.ty "list") _ from rfl)) Zc))))) (Xs (Zo Kb (Zm (cL K) (by rfl) T.zmg PySem.boot_len (Za (pv 1) Zc)) (Zm (cL K) (by rfl) T.zmg PySem.boot_len (Za (pv 0) Zc)) (Zt _)))))
  (Ze (Zn Xc))
  Zp)
 (Zb (pS 2 V7.nd Ra)
 (Zb (Ys PassesOwn.leaving rfl (Y3 rfl T.zmx (Za (Zm (cL K) (by rfl) T.zmg PySem.boot_len (Za (pv 0) Zc)) Zc)) (pN 3 V7.nd)
  (Ze (Z3 (Zo Ur (pI (iL K) (pv 1) (pv 3)) Yx (Zt _))
   (Zb (Z3 (PW.pt (Wk (Yy (Yr (pF znf hr (Za (pI (iL K) (pv 1) (pv 3)) Zc)))) (Wk (Zo (Of (K:=K) rfl) (pI (iL K) (pv 1) (pv 3)) (pI (iL K) (pv 0) (pv 3)) (by with_unfolding_all rfl)) (Xs (Sk (Ov hu (pI (iL K) (pv 1) (pv 3)) (pv 2)))))))
    (Ze (Zn Xc))
    Zp)
   (Ze (Ym hu (pv 2) (pI (iL K) (pv 1) (pv 3)) Xc rfl)))
   Zp)))
 (Ze (Zn Xc))))),?_⟩
 refine⟨_,rfl,_,_,_,_,rfl,.of (.lst hg),.inl ⟨_,rfl⟩,M3 K,_,rfl,?_⟩;refine iteF ?_;refine⟨_,rfl,lg,_,rfl,.inl (SqL.of hg),_,rfl,l,_,rfl,.inl (SqL.of hl),rfl,_,rfl,?_⟩;rw[zu2,il.length,FP.len,zva rfl];refine iteF ?_;intro ld hld;have s0:=Zf (o:=.dK []) hld;have q0:upd H ld (.dK []) ld=#[a,.dK,[]]:=Zd;generalize upd H ld (.dK [])=H1 at s0 q0;refine⟨_,rfl,l,_,rfl,.inl (SqL.of (s0 _ _ hl)),_,rfl,by omega,by rw[zu2,il.length];omega,?_⟩;rw[zu2,il.length,zvj]
 let jv1:Nat->L2.St->Hp->Prop:=fun i σ H'=>(∃ v3,σ=[#[c,l],#[c,lg],#[c,ld],v3])/\Same H H'/\∃ kvs,H' ld=#[a,.dK,kvs]/\kvs.length<=i/\∀ n:Int,(valV kvs (inl n:Key)).isSome=true->∃ j,j<i/\gs[j]?=some (.int n)
 refine Xu jv1 ⟨⟨_,rfl⟩,s0,[],q0,zvd _,fun n z=>(nomatch z)⟩ ?_ ?_
 ·rintro i σ H' hi ⟨⟨v3,rfl⟩,sm,kvs,hd,hkl,hks⟩;rw[zwb];have hgi:i<gs.length:=by rw[FP.len];exact hi
  have hx:gs[i]?=some (gs[i]'hgi):=zu3 hgi;have hone:=FP.one _ (zvx hgi);generalize (gs[i]'hgi)=x at hx hone;refine⟨_,rfl,_,rfl,lg,_,_,_,rfl,rfl,SqL.of (sm _ _ hg),Z0 hx,rfl,_,rfl,?_⟩;rcases hone with rfl|⟨n,rfl⟩
  ·refine iteF ?_;refine⟨⟨_,rfl⟩,sm,kvs,hd,by omega,fun n hn=>?_⟩;obtain⟨j,h1,h2⟩:=hks n hn;exact⟨j,by omega,h2⟩
  ·refine iteT ?_;obtain⟨r,hr',hnr⟩:=FP.may i n hx;obtain⟨lr,e1,e2⟩:=il.getR hr';have hl':(ls.map V.ref)[i]?=#[c,lr]:=by rw[zu8,e1];rfl
   have hno:valV kvs (inl n:Key)=none:=by
    cases q:valV kvs (inl n:Key) with
    | none=>rfl
    | some v =>
      obtain⟨j,h1,h2⟩:=hks n (by rw[q];rfl);exact absurd (FP.inj j i n h2 hx) ⋯
   have gx:∀ {Q:VK},Q (.int n) H'->∃ v,([some (V.ref l),some (V.ref lg),some (V.ref ld),some (V.int (i:Int))]:L2.St)[1]?=#[a,some,v]/\∃ w,([some (V.ref l),some (V.ref lg),some (V.ref ld),some (V.int (i:Int))]:L2.St)[3]?=#[a,some,w]/\G6 K v w H' Q:=fun q=>⟨_,rfl,_,rfl,lg,_,_,_,rfl,rfl,SqL.of (sm _ _ hg),Z0 hx,q⟩
   walk_at "if";refine Ue (Vb (b:=false) (Vu (b:=false) (c:=false) (fun Q q=>⟨_,rfl,_,rfl,lg,_,_,_,rfl,rfl,SqL.of (sm _ _ hg),Z0 hx,n,rfl,_,rfl,q⟩) (Vu (b:=false) (c:=false) (fun Q q=>⟨_,rfl,_,rfl,lg,_,_,_,rfl,rfl,SqL.of (sm _ _ hg),Z0 hx,_,rfl,_,rfl,l,_,_,_,rfl,rfl,SqL.of (sm _ _ hl),Z0 hl',lr,_,rfl,.inl (SqL.of (sm _ _ e2)),rfl,zdp r,_,rfl,by rw[Dy,zva hnr];exact q⟩)
    (fun Q q=>⟨_,rfl,_,rfl,lg,_,_,_,rfl,rfl,SqL.of (sm _ _ hg),Z0 hx,_,rfl,ld,_,rfl,DGet.k (k:=inl n) hd,_,rfl,by rw[hno];exact q⟩))) (iteF (Zx ?_)))
   refine⟨_,rfl,_,rfl,_,rfl,lg,_,_,_,rfl,rfl,SqL.of (sm _ _ hg),Z0 hx,ld,_,rfl,DPut.k (k:=inl n) hd (Vm ⋯),?_⟩;refine⟨⟨_,rfl⟩,Z6 hld sm,_,Zd,zvh (Xk _ _ _) ⋯,fun n' hn'=>?_⟩;rw[Vt] at hn';by_cases e:(inl n':Key)=inl n
   ·cases e;exact⟨i,Nat.lt_succ_self _,hx⟩
   ·rw[if_neg e] at hn';obtain⟨j,h1,h2⟩:=hks n' hn';exact⟨j,by omega,h2⟩
 ·rintro σ H' ⟨⟨v3,rfl⟩,sm,_⟩;exact h H' sm
abbrev V8:Stmt:=top 70
theorem Y6:Zl ["_law_found","_law_may","_law_left","_law_past","_law_due","_law_place","_law_number"] ["_law_found","_law_may","_law_left"] (Zj V8):=fnS
theorem Nq(F:#[f,"_law_is_shortage","_law_is_shortage",V8])(T:Tx K mg a)(znf:Z4 P w K mg base "_law_whole" 1 ["_law_found"] Jw)(zng:Z4 P w K mg base "_law_list_is" 3 ["_law_found","_law_due"] (Ih K)):FnOk P w K mg base (CX1 P w) 4 f fd ["_law_found","_law_may","_law_left"] (E4 K):=by
 refine #[g,Y6];obtain⟨t,l,lp,lr,ls,rows,nu,gs,ps,rs,rfl,ht,hl,il,mo,hp,hrs,SP,h⟩:=h;have hu:=Wq hr;refine⟨_,(Zb (Z3 (PW.pt (Wk (Yy (Yr (Zm (Wa (K:=K) rfl) (by rfl) T.zmm PyProof.Rows.boot_isinstance (Za (pv 0) (Za (Vq rfl T.zpt PyProof.Rows.boot_tuple (show RelV (.ty "tuple") _ from rfl)) Zc))))) (Wk (Zo Kb (Zm (cL K) (by rfl) T.zmg PySem.boot_len (Za (pv 0) Zc)) Zg (Zt _)) (Xs (Yy (Yr (Zm (Wa (K:=K) rfl) (by rfl) T.zmm PyProof.Rows.boot_isinstance (Za (pI (iU K) (pv 0) Zg) (Za (Vq rfl T.zno PyProof.Rows.boot_list (show RelV (.ty "list") _ from rfl)) Zc)))))))))
  (Ze (Zn Xc))
  Zp)
 (Zb (pS 3 Y6.nd (Ka Qw Zg))
 (Zb (pS 4 Y6.nd Ra)
 (Zb (Ys PassesOwn.leaving rfl (Yc (K:=K) rfl (pI (iU K) (pv 0) Zg)) (pN 5 Y6.nd)
  (Zb (Z3 (PW.pt (Wk (Yy (Yr (pF znf hr (Za (pv 5) Zc)))) (Wk (Zo zeu (pv 5) (pv 3) (Zt _)) (Xs (Zo zew (pv 5) (Zm (cL K) (by rfl) T.zmg PySem.boot_len (Za (pv 1) Zc)) (Zt _))))))
   (Ze (Zn Xc))
   Zp)
  (Zb (pS 3 Y6.nd (pv 5))
  (Ze (Ys PassesOwn.leaving rfl (Yc (K:=K) rfl (pI (iL K) (pv 1) (pv 5))) (pN 6 Y6.nd)
   (Ze (Ym hu (pv 4) (pv 6) Xc rfl)))))))
 (Zb (Z3 (Yy (Yr (pF zng hr (Za (pI (iU K) (pv 0) Zg) (Za (Zm (Ry rfl) (by rfl) T.zph PyProof.Rows.boot_sorted (Za (pv 4) Zc)) Zc)))))
  (Ze (Zn Xc))
  Zp)
 (Ze (Zn (zad (U5 X8 (Zm (cL K) (by rfl) T.zmg PySem.boot_len (Za (pI (iU K) (pv 0) Zg) Zc)) (Zu Yt (Zm (cL K) (by rfl) T.zmg PySem.boot_len (Za (pI (iU K) (pv 0) Zg) Zc)) (pv 2)) (Zt _)) (Dl (zj9 (U5 T8 (pv 2) Zg (Zt _)) (Dl (U5 (zb7 (K:=K) rfl hr.units) (pI (iU K) (pv 0) Zg) (Ya Zc) (Zt _))))))))))))),?_⟩
 show let y1:TS:=_;let y2:TS:=tSeq _ y1;let y3:TS:=_;let y4:TS:=tSeq _ y3;let y5:TS:=tSeq (zes _ _ (tSeq _ y2)) y4;let y6:TS:=tSeq _ y5;let y7:TS:=tSeq _ y6;tSeq _ y7 _ _ _;intro y1 y2 y3 y4 y5 y6 y7;have line0:1000<sizeLine:=Vm ⋯;have hll:(ls.map V.ref).length=rows.length:=by rw[zu2];exact il.length
 have hnl:(W0 ps).length=ps.length:=by unfold W0;rw[zu2]
 refine Ue (Vb (b:=false) (Vu (b:=false) (c:=false) (fun Q k=>⟨_,rfl,_,_,_,_,rfl,.of (.tup ht),.inl ⟨_,rfl⟩,zaw K,_,rfl,k⟩) (Vu (b:=false) (c:=false) (fun Q k=>⟨_,rfl,t,_,rfl,.inr (SqT.of ht),rfl,_,rfl,k⟩) fun Q k=>⟨_,rfl,t,_,_,_,rfl,rfl,SqT.of ht,rfl,_,_,_,_,rfl,.of (.lst hp),.inl ⟨_,rfl⟩,M3 K,_,rfl,k⟩)) (iteF (Zx ?_)));refine⟨_,rfl,fun ld hld=>?_⟩;have s1:=Zf (o:=.dK []) hld;have q1:upd H ld (.dK []) ld=#[a,.dK,[]]:=Zd;have fld:H ld=none:=hld;generalize upd H ld (.dK [])=H1 at s1 q1;refine⟨_,rfl,t,_,_,_,rfl,rfl,SqT.of (s1 _ _ ht),rfl,lp,rfl,⟨_,SqL.of (s1 _ _ hp)⟩,?_⟩
 let jv2:Nat->L2.St->Hp->Prop:=fun i σ' H'=>∃ (pst:Int) (kr:List (Key×V)) (rl:List Int) (v5 v6:Option V),σ'=[#[c,t],#[c,l],#[e,((Xr gs).length:Nat)],#[e,pst],#[c,ld],v5,v6]/\Same H H'/\H' ld=#[a,.dK,kr]/\kr.map (·.1)=rl.map (inl:Int->Key)/\rl.Nodup/\(∀ p∈ps.drop i,pst<(p:Nat))/\∀ n,n∈rl↔∃ p∈ps.take i,∃ r,rows[p]?=some r/\n∈r
 refine Xn (K:=K) (a:=lp) (xs:=W0 ps) jv2
  ⟨-1,[],[],_,_,rfl,s1,q1,rfl,zww,fun p _=>by omega,by simp⟩ (fun i σ' H' _ ⟨_,_,_,_,_,_,z,_⟩=>SqL.of (z _ _ hp)) ?_ ?_
 ·rintro i x σ' Ha hx ⟨pst,kr,rl,v5,v6,rfl,sa,hda,kkr,ndr,past,memr⟩;have hi:i<ps.length:=by have:=(zu4.mp hx).1;rw[hnl] at this;exact this
  have hq0:ps[i]?=some (ps[i]'hi):=zu3 hi;have etk:ps.take (i+1)=ps.take i++[ps[i]'hi]:=zvl hi;have edr:ps.drop i=ps[i]'hi :: ps.drop (i+1):=List.drop_eq_getElem_cons hi;generalize (ps[i]'hi)=q at hq0 etk edr;have ex:x=.int (q:Nat):=by unfold W0 at hx;rw[zu8,hq0] at hx;exact(Option.some.inj hx).symm
  subst ex;have hqm:=zvc hq0;have hqr0:=SP.lt q hqm;have hpast:pst<(q:Nat):=past q (by rw[edr];simp);have hnext:∀ p∈ps.drop (i+1),((q:Nat):Int)<(p:Nat):=fun p hp'=>by
   have h1:(ps.drop i).Pairwise (· < ·):=SP.up.sublist (List.drop_sublist _ _);rw[edr,List.pairwise_cons] at h1;have:=h1.1 p hp';omega
  have hqr:rows[q]?=some (rows[q]'hqr0):=zu3 hqr0;have hrm:rows[q]'hqr0∈rows:=zvx _;generalize (rows[q]'hqr0)=r at hqr hrm;obtain⟨lq,e2',e3⟩:=il.getR hqr;have hl':(ls.map V.ref)[q]?=#[c,lq]:=by rw[zu8,e2'];rfl
  walk_at "if";refine Ue (Vb (b:=false) (Vu (b:=false) (c:=false) (fun Q k=>⟨_,rfl,_,rfl,_,rfl,k⟩) (Vu (b:=false) (c:=false) (fun Q k=>⟨_,rfl,_,rfl,_,_,rfl,rfl,_,rfl,by rw[zvf (show ¬ (((q:Nat):Int)<=pst) by omega)];exact k⟩) fun Q k=>⟨_,rfl,_,rfl,l,_,rfl,.inl (SqL.of (sa _ _ hl)),_,_,rfl,rfl,_,rfl,by rw[hll,zvf (show ¬ (((rows.length:Nat):Int)<=(q:Nat)) by omega)];exact k⟩)) (iteF (Zx ?_)));refine⟨_,rfl,?_⟩;refine⟨_,rfl,_,rfl,l,_,_,_,rfl,rfl,SqL.of (sa _ _ hl),Z0 hl',lq,rfl,⟨_,SqL.of (sa _ _ e3)⟩,?_⟩
  let jv3:Nat->L2.St->Hp->Prop:=fun j σ' H'=>∃ (kr:List (Key×V)) (rl:List Int) (v6:Option V),σ'=[#[c,t],#[c,l],#[e,((Xr gs).length:Nat)],#[e,(q:Nat)],#[c,ld],#[e,(q:Nat)],v6]/\Same H H'/\H' ld=#[a,.dK,kr]/\kr.map (·.1)=rl.map (inl:Int->Key)/\rl.Nodup/\∀ n,n∈rl↔(∃ p∈ps.take i,∃ r,rows[p]?=some r/\n∈r)\/n∈r.take j
  refine Xn (K:=K) (a:=lq) (xs:=r.map V.int) jv3
   ⟨kr,rl,_,rfl,sa,hda,kkr,ndr,fun n=>by rw[memr];simp⟩ (fun j σ' H' _ ⟨_,_,_,_,z,_⟩=>SqL.of (z _ _ e3)) ?_ ?_
  ·rintro j y σ' Hd hy ⟨kr,rl,w6,rfl,sd,hrd,kkr,ndr,memr⟩;have hj:j<r.length:=by have:=(zu4.mp hy).1;rw[zu2] at this;exact this
   have hrj:r[j]?=some (r[j]'hj):=zu3 hj;have etj:r.take (j+1)=r.take j++[r[j]'hj]:=zvl hj;generalize (r[j]'hj)=n at hrj etj;have ey:y=.int n:=by rw[zu8,hrj] at hy;exact(Option.some.inj hy).symm
   subst ey;have hsub:∀ m∈rl,m∈nu:=fun m hm=>by
    rcases(memr m).mp hm with ⟨p,_,r',h1,h2⟩|h1
    ·exact(mo.sub r' (zvc h1)).2 m h2
    ·exact(mo.sub r hrm).2 m (zwx h1)
   have hkr:kr.length<=30:=by
    have:=congrArg List.length kkr;rw[zu2,zu2] at this;rw[this];exact zvh (ndr.length_le_of_subset hsub) mo.crowd
   refine⟨_,rfl,_,rfl,ld,_,rfl,DPut.k (k:=inl n) hrd ⋯,putK kr (inl n) (.bl true),Ij rl n,_,rfl,Z6 fld sd,Zd,Ik zle kkr n _,O1 ndr,fun m=>?_⟩;rw[Im,memr,etj,zve,zu6,or_assoc]
  ·rintro σ' Hd ⟨kr,rl,w6,rfl,sd,hrd,kkr,ndr,memr⟩;rw[zu2,zvk] at memr;refine⟨_,kr,rl,_,_,rfl,sd,hrd,kkr,ndr,hnext,fun n=>?_⟩;rw[memr,etk];constructor
   ·rintro(⟨p,h1,h2⟩|h1)
    ·exact⟨p,zvq _ h1,h2⟩
    ·exact⟨q,by simp,r,hqr,h1⟩
   ·rintro⟨p,h1,r',h2,h3⟩;rcases zve.mp h1 with z|z
    ·exact .inl ⟨p,z,r',h2,h3⟩
    ·rw[zu6.mp z,hqr] at h2;cases h2;exact .inr h3
 ·rintro σ' Ha ⟨pst,kr,rl,v5,v6,rfl,sa,hda,kkr,ndr,past,memr⟩;rw[hnl,zvk] at memr;have hsub:∀ m∈rl,m∈nu:=fun m hm=>by
   obtain⟨p,_,r',h1,h2⟩:=(memr m).mp hm;exact(mo.sub r' (zvc h1)).2 m h2
  have hrl30:rl.length<=30:=zvh (ndr.length_le_of_subset hsub) mo.crowd;have hrr:∀ n,n∈rl↔n∈rs:=fun n=>by rw[memr,SP.all]
  have hrs30:rs.length<=30:=by
   rw[<- Io ndr (SP.rup.imp fun h z=>by omega) hrr];exact hrl30
  refine⟨_,rfl,t,_,_,_,rfl,rfl,SqT.of (sa _ _ ht),rfl,_,rfl,ld,kr,rl,rfl,.inl hda,kkr,by omega,fun l2 ns hl2 p3 p4=>?_⟩;have ens:=Bx p3 p4 ndr SP.rup hrr;subst ens;have s8:=Zf (o:=.lst (ns.map V.int)) hl2;have q8:upd Ha l2 (.lst (ns.map V.int)) l2=some (.lst (ns.map V.int)):=Zd;generalize upd Ha l2 (.lst (ns.map V.int))=H8 at s8 q8;have s08:=sa.trans s8;refine⟨lr,l2,_,rfl,s08 _ _ hrs,SqL.of q8,zfw,by rw[zu2];omega,_,rfl,?_⟩;refine iteF (Zx ?_);refine⟨_,rfl,t,_,_,_,rfl,rfl,SqT.of (s08 _ _ ht),rfl,lp,_,rfl,.inl (SqL.of (s08 _ _ hp)),_,rfl,t,_,_,_,rfl,rfl,SqT.of (s08 _ _ ht),rfl,lr,_,rfl,.inl (SqL.of (s08 _ _ hrs)),_,rfl,_,_,rfl,rfl,rfl,_,rfl,?_⟩;have hcnt:=SP.cnt;rw[hnl,zu2,Rf,zva (show ((ps.length:Nat):Int)=((ns.length:Nat):Int)+(((Xr gs).length:Nat):Int) by omega)];refine iteT ?_;refine⟨_,rfl,_,_,rfl,rfl,_,rfl,?_⟩;refine itD (fun hz=>h H8 s08) fun hz=>?_;have hl0:Xr gs=[]:=zwl.mp ⋯;have hps:=SP.nil hl0;refine⟨_,rfl,t,_,_,_,rfl,rfl,SqT.of (s08 _ _ ht),rfl,by show 0<=sizeLine;decide,fun m0 hm0=>⟨.lst ((ps.map fun (k:Nat)=>((k:Nat):Int)).map Dt.int),.lst [],.lst (SqL.of (Zf hm0 _ _ (s08 _ _ hp))) (zce ps),.lst (SqL.of Zd) .nil,Dz _,D1,?_⟩⟩;rw[if_neg ⋯,D2,hps];exact h _ (s08.trans (Zf hm0))
abbrev U2:Stmt:=top 71
theorem Rq:Zl ["_law_found","_law_due","_law_k"] ["_law_found","_law_due"] (Zj U2):=fnS
theorem Lz(F:#[f,"_law_moves_are","_law_moves_are",U2])(T:Tx K mg a)(zmn:Z4 P w K mg base "_law_one_is" 2 ["_law_found","_law_due"] Pp)(zmt:Z4 P w K mg base "_law_rows_are" 4 ["_law_found","_law_due"] (Pq K)):FnOk P w K mg base (CX1 P w) 5 f fd ["_law_found","_law_due"] (Hq K):=by
 refine #[g,Rq];obtain⟨ok,ok',b,c,ts,us,G0,rfl,hb,hc,g1,g2,hl1,hl2,h⟩:=h;refine⟨_,(Zb (Z3 (PW.pt (Wk (Yy (Yr (Zm (Wa (K:=K) rfl) (by rfl) T.zmm PyProof.Rows.boot_isinstance (Za (pv 0) (Za (Vq rfl T.zno PyProof.Rows.boot_list (show RelV (.ty "list") _ from rfl)) Zc))))) (Xs (Zo Kb (Zm (cL K) (by rfl) T.zmg PySem.boot_len (Za (pv 0) Zc)) (Zm (cL K) (by rfl) T.zmg PySem.boot_len (Za (pv 1) Zc)) (Zt _)))))
  (Ze (Zn Xc))
  Zp)
 (Zb (Ys PassesOwn.leaving rfl (Y3 rfl T.zmx (Za (Zm (cL K) (by rfl) T.zmg PySem.boot_len (Za (pv 1) Zc)) Zc)) (pN 2 Rq.nd)
  (Zb (Z3 (PW.pt (Wk (Yy (Yr (Zm (Wa (K:=K) rfl) (by rfl) T.zmm PyProof.Rows.boot_isinstance (Za (pI (iL K) (pv 0) (pv 2)) (Za (Vq rfl T.zpt PyProof.Rows.boot_tuple (show RelV (.ty "tuple") _ from rfl)) Zc))))) (Xs (Zo Kb (Zm (cL K) (by rfl) T.zmg PySem.boot_len (Za (pI (iL K) (pv 0) (pv 2)) Zc)) Zg (Zt _)))))
   (Ze (Zn Xc))
   Zp)
  (Ze (Z3 (PW.pt (Wk (Yy (Yr (pF zmn hr (Za (pI (iU K) (pI (iL K) (pv 0) (pv 2)) Zg) (Za (pI (iU K) (pI (iL K) (pv 1) (pv 2)) Zg) Zc))))) (Xs (Yy (Yr (pF zmt hr (Za (pI (iU K) (pI (iL K) (pv 0) (pv 2)) Zg) (Za (pI (iU K) (pI (iL K) (pv 1) (pv 2)) Zg) Zc))))))))
   (Ze (Zn Xc))
   Zp))))
 (Ze (Zn Xc)))),?_⟩
 have e1:=g1.length;have e2:=g2.length;have el:ts.length=us.length:=by omega
 refine⟨_,rfl,_,_,_,_,rfl,.of (.lst hb),.inl ⟨_,rfl⟩,M3 K,_,rfl,?_⟩;refine iteF ?_;refine⟨_,rfl,b,_,rfl,.inl (SqL.of hb),_,rfl,c,_,rfl,.inl (SqL.of hc),rfl,_,rfl,?_⟩;rw[el,zva rfl];refine iteF (Zx ?_);dsimp only;refine⟨_,rfl,c,_,rfl,.inl (SqL.of hc),_,rfl,by omega,by omega,Xu (fun i σ H'=>H'=H/\(∃ v,σ=[some (.ref b),some (.ref c),v])) ⟨rfl,⟨_,rfl⟩⟩ (fun i σ H' hi ⟨e,⟨v,hv⟩⟩=>?_) fun σ H' ⟨e,⟨v,hv⟩⟩=>?_⟩
 ·subst e hv;rw[zvj] at hi;have hi1:i<ts.length:=by omega
  obtain⟨t1,l1,n1,us1,st1,x1,x2,x3,x4,x5,_⟩:=g1.get (zu3 hi1);obtain⟨t2,l2,n2,us2,st2,y1,y2,y3,y4,y5,_⟩:=g2.get (zu3 hi);rw[x2] at y2;cases y2;have w1:ts[i]?=#[c,t1]:=by rw[zu3 hi1,x1]
  have w2:us[i]?=#[c,t2]:=by rw[zu3 hi,y1]
  have hsl:=hl2 _ (zvc x2);rw[zwb];walk_at "if";refine Ue ?_;refine⟨_,rfl,_,rfl,b,_,_,_,rfl,rfl,SqL.of hb,Z0 w1,_,_,_,_,rfl,.of (.tup x3),.inl ⟨_,rfl⟩,zaw K,_,rfl,?_⟩;refine iteF ?_;refine⟨_,rfl,_,rfl,b,_,_,_,rfl,rfl,SqL.of hb,Z0 w1,t1,_,rfl,.inr (SqT.of x3),rfl,_,rfl,?_⟩;refine(show if (!decide (V.int ((2:Nat):Int)=V.int 2))=true then _ else _ from ?_);rw[zva (show V.int ((2:Nat):Int)=V.int 2 from rfl)];refine iteF (Zx ?_);dsimp only;refine⟨_,rfl,_,rfl,b,_,_,_,rfl,rfl,SqL.of hb,Z0 w1,t1,_,_,_,rfl,rfl,SqT.of x3,rfl,_,rfl,_,rfl,c,_,_,_,rfl,rfl,SqL.of hc,Z0 w2,t2,_,_,_,rfl,rfl,SqT.of y3,rfl,.int n1,rfl,.inr ⟨_,rfl⟩,true,rfl,?_⟩;refine iteF ?_;refine⟨_,rfl,_,rfl,b,_,_,_,rfl,rfl,SqL.of hb,Z0 w1,t1,_,_,_,rfl,rfl,SqT.of x3,rfl,_,rfl,_,rfl,c,_,_,_,rfl,rfl,SqL.of hc,Z0 w2,t2,_,_,_,rfl,rfl,SqT.of y3,rfl,l1,l2,us1,us2,st1.map Vn,rfl,x4,SqL.of y4,x5,y5,fun r hr=>?_,by rw[zu2];omega,true,rfl,?_⟩
  ·obtain⟨s,_,rfl⟩:=zvb.mp hr;refine⟨by show 2<=1000;decide,fun x hx=>?_⟩;simp[Vn] at hx;rcases hx with rfl|rfl
   ·exact .inr ⟨_,rfl⟩
   ·cases s.2 with
    | none=>exact .inl rfl
    | some n=>exact .inr ⟨_,rfl⟩
  exact iteF (Zx ⟨rfl,⟨_,rfl⟩⟩)
 ·subst e hv;exact h
abbrev Pk:Stmt:=top 72
theorem Mt:Zl ["_law_rounds","_law_rest_here","_law_page"] ["_law_rounds","_law_rest_here"] (Zj Pk):=fnS
theorem Cr(F:#[f,"_law_first","_law_first",Pk])(T:Tx K mg a):FnOk P w K mg base (CX1 P w) 1 f fd ["_law_rounds","_law_rest_here"] zct:=by
 refine #[g,Mt];obtain⟨r,q,rfl,h⟩:=h;have hu:=Wq hr;refine⟨_,(Zb (pS 2 Mt.nd (zbx (Td Zq (pv 0) (Td Zq (pv 1) (Td Zq (Ya Zc) (Td Zq (Ya Zc) (Td Zq (Ya Zc) (Td Zq Yx zbw)))))) rfl rfl (by simp) ⋯))
 (Zb (Ym hu (pv 2) Zq Yx rfl)
 (Zb (Ym hu (pv 2) Zq (Ya Zc) rfl)
 (Zb (Ym hu (pv 2) Zq (Ya Zc) rfl)
 (Ze (Zn (pv 2))))))),?_⟩
 have sz0:([]:List V).length<=sizeLine:=zvw _;refine fun p fp=>?_;have s1:=Zf (o:=.dK []) fp;have p1:(upd H p (.dK [])) p=#[a,.dK,[]]:=Zd;generalize upd H p (.dK [])=H1 at s1 p1 ⊢;refine⟨_,rfl,_,rfl,sz0,fun l1 f1=>?_⟩;have s2:=Zf (o:=.lst []) f1;have a1:(upd H1 l1 (.lst [])) l1=#[a,.lst,[]]:=Zd;have n1:l1≠p:=fun z=>by rw[z,p1] at f1;cases f1
 generalize upd H1 l1 (.lst [])=H2 at s2 a1 ⊢;refine⟨sz0,fun l2 f2=>?_⟩;have s3:=Zf (o:=.lst []) f2;have a2:(upd H2 l2 (.lst [])) l2=#[a,.lst,[]]:=Zd;have n2:l2≠p:=fun z=>by rw[z,s2 _ _ p1] at f2;cases f2
 generalize upd H2 l2 (.lst [])=H3 at s3 a2 ⊢;refine⟨sz0,fun l3 f3=>?_⟩;have s4:=Zf (o:=.lst []) f3;have a3:(upd H3 l3 (.lst [])) l3=#[a,.lst,[]]:=Zd;have n3:l3≠p:=fun z=>by rw[z,s3 _ _ (s2 _ _ p1)] at f3;cases f3
 generalize upd H3 l3 (.lst [])=H4 at s4 a3 ⊢;refine⟨s4 _ _ (s3 _ _ (s2 _ _ p1)),pg6 r q l1 l2 l3 .non,rfl,(show 6<=15 by decide),?_⟩;rw[zd3];have s5:=Z6 (o:=.dK (pg6 r q l1 l2 l3 .non)) fp (s1.trans (s2.trans (s3.trans s4)));have p5:(upd H4 p (.dK (pg6 r q l1 l2 l3 .non))) p=#[a,.dK,pg6 r q l1 l2 l3 .non]:=Zd;have b1:(upd H4 p (.dK (pg6 r q l1 l2 l3 .non))) l1=#[a,.lst,[]]:=by rw[Zi n1];exact s4 _ _ (s3 _ _ a1)
 have b2:(upd H4 p (.dK (pg6 r q l1 l2 l3 .non))) l2=#[a,.lst,[]]:=by rw[Zi n2];exact s4 _ _ a2
 have b3:(upd H4 p (.dK (pg6 r q l1 l2 l3 .non))) l3=#[a,.lst,[]]:=by rw[Zi n3];exact a3
 generalize upd H4 p (.dK (pg6 r q l1 l2 l3 .non))=H5 at s5 p5 b1 b2 b3 ⊢;walk_at "if";refine⟨_,rfl,p,_,rfl,DPut.k (k:=inr "listed") p5 (Lc (x:=.non) (y:=.non)).1,?_⟩;have s6:=Z6 (o:=.dK (putK (pg6 r q l1 l2 l3 .non) (.inr "listed") .non)) fp s5;have p6:(upd H5 p (.dK (putK (pg6 r q l1 l2 l3 .non) (.inr "listed") .non))) p=#[a,.dK,putK (pg6 r q l1 l2 l3 .non) (.inr "listed") .non]:=Zd;have c1:=(Zi (H:=H5) (o:=.dK (putK (pg6 r q l1 l2 l3 .non) (.inr "listed") .non)) n1).trans b1;have c2:=(Zi (H:=H5) (o:=.dK (putK (pg6 r q l1 l2 l3 .non) (.inr "listed") .non)) n2).trans b2;have c3:=(Zi (H:=H5) (o:=.dK (putK (pg6 r q l1 l2 l3 .non) (.inr "listed") .non)) n3).trans b3;generalize upd H5 p (.dK (putK (pg6 r q l1 l2 l3 .non) (.inr "listed") .non))=H6 at s6 p6 c1 c2 c3 ⊢;refine⟨sz0,fun l4 f4=>?_⟩;have s7:=Zf (o:=.lst []) f4;have a4:(upd H6 l4 (.lst [])) l4=#[a,.lst,[]]:=Zd;have n4:l4≠p:=fun z=>by rw[z,p6] at f4;cases f4
 generalize upd H6 l4 (.lst [])=H7 at s7 a4 ⊢;refine⟨_,rfl,p,_,rfl,DPut.k (k:=inr "goes") (s7 _ _ p6) (Lc (y:=.non)).2.1,?_⟩;have s8:=Z6 (o:=.dK (putK (putK (pg6 r q l1 l2 l3 .non) (.inr "listed") .non) (.inr "goes") (.ref l4))) fp (s6.trans s7);have p8:(upd H7 p (.dK (putK (putK (pg6 r q l1 l2 l3 .non) (.inr "listed") .non) (.inr "goes") (.ref l4)))) p=#[a,.dK,putK (putK (pg6 r q l1 l2 l3 .non) (.inr "listed") .non) (.inr "goes") (.ref l4)]:=Zd;have d1:=(Zi (H:=H7) (o:=.dK (putK (putK (pg6 r q l1 l2 l3 .non) (.inr "listed") .non) (.inr "goes") (.ref l4))) n1).trans (s7 _ _ c1);have d2:=(Zi (H:=H7) (o:=.dK (putK (putK (pg6 r q l1 l2 l3 .non) (.inr "listed") .non) (.inr "goes") (.ref l4))) n2).trans (s7 _ _ c2);have d3:=(Zi (H:=H7) (o:=.dK (putK (putK (pg6 r q l1 l2 l3 .non) (.inr "listed") .non) (.inr "goes") (.ref l4))) n3).trans (s7 _ _ c3);have d4:=(Zi (H:=H7) (o:=.dK (putK (putK (pg6 r q l1 l2 l3 .non) (.inr "listed") .non) (.inr "goes") (.ref l4))) n4).trans a4;generalize upd H7 p (.dK (putK (putK (pg6 r q l1 l2 l3 .non) (.inr "listed") .non) (.inr "goes") (.ref l4)))=H8 at s8 p8 d1 d2 d3 d4 ⊢;refine⟨sz0,fun l5 f5=>?_⟩;have s9:=Zf (o:=.lst []) f5;have a5:(upd H8 l5 (.lst [])) l5=#[a,.lst,[]]:=Zd;have n5:l5≠p:=fun z=>by rw[z,p8] at f5;cases f5
 generalize upd H8 l5 (.lst [])=H9 at s9 a5 ⊢;refine⟨_,rfl,p,_,rfl,DPut.k (k:=inr "moves") (s9 _ _ p8) Lc.2.2,?_⟩;rw[zhy];refine⟨_,rfl,h p _ ?_ (Z6 fp (s8.trans s9)) fp⟩;have fr:∀ x,H4 x=none->H x=none:=fun x hx=>s1.free (s2.free (s3.free (s4.free hx)));exact⟨l1,l2,l3,.non,.non,l4,l5,[],[],[],[],Zd,(Zi n1).trans (s9 _ _ d1),.nil,(Zi n2).trans (s9 _ _ d2),.nil,(Zi n3).trans (s9 _ _ d3),.nil,rfl,rfl,(Zi n4).trans (s9 _ _ d4),(Zi n5).trans a5,.nil,
  fp,s1.free f1,s1.free (s2.free f2),s1.free (s2.free (s3.free f3)),s6.free f4,s8.free f5⟩
abbrev L6:Stmt:=top 73
theorem Vl:Zl ["_law_page","_law_met_here","_law_listed","_law_goes","_law_moves","_law_may","_law_k"] ["_law_page"] (Zj L6):=fnS
theorem zbr(F:#[f,"_law_met","_law_met",L6])(T:Tx K mg a):FnOk P w K mg base (CX1 P w) 1 f fd ["_law_page"] (zcu K):=by
 refine #[g,Vl];obtain⟨ok,d,P0,rfl,PA,PO,h⟩:=h;have hu:=Wq hr;refine⟨_,(Zb (pS 1 Vl.nd J7)
 (Zb (Ys PassesOwn.leaving rfl (Yc (K:=K) rfl (Bd (Bm (K:=K) rfl) (pD hu (pv 0) Zq) (zbz (Zm (Ed rfl) (by rfl) T.zsd PyProof.Rows.boot_max (Za Zg (Za (Zu Sl (Zm (cL K) (by rfl) T.zmg PySem.boot_len (Za (pD hu (pv 0) Zq) Zc)) (pD hu (pv 0) Zq)) Zc)))) zby)) (Xy (K:=K) (n:=4) rfl rfl (Zw (pN 2 Vl.nd) (Zw (pN 3 Vl.nd) (Zw (pN 4 Vl.nd) (Zw (pN 5 Vl.nd) Xx)))))
  (Ze (Ys PassesOwn.leaving rfl (Y3 rfl T.zmx (Za (Zm (cL K) (by rfl) T.zmg PySem.boot_len (Za (pv 2) Zc)) Zc)) (pN 6 Vl.nd)
   (Ze (Z3 (Zo Ur (pI (iL K) (pv 3) (pv 6)) Yx (Zt _))
    (Zb (Ym hu (pv 1) (Yd (Za (pI (iL K) (pv 3) (pv 6)) (Za (pI (iU K) (pI (iL K) (pv 2) (pv 6)) Zg) Zc))) Xc rfl)
    (Ze (Ym hu (pv 1) (Yd (Za (pI (iL K) (pv 3) (pv 6)) (Za (pI (iU K) (pI (iL K) (pv 2) (pv 6)) Zg) Zc))) Xc rfl)))
    Zp)))))
 (Ze (Zn (pv 1))))),?_⟩
 obtain⟨lp,lo,lv,dv,li,lg,lm,pts,ots,vts,mts,a1,a2,a3,a4,a5,a6,a7,a8,a9,b1,b2,b3,o1,o2,o3,o4,o5,o6⟩:=PA;refine fun m fm=>?_;have s1:=Zf (o:=.dT []) fm;have m1:(upd H m (.dT [])) m=#[a,.dT,[]]:=Zd;generalize upd H m (.dT [])=H1 at s1 m1 ⊢;walk_at "if";refine⟨_,rfl,d,_,rfl,DGet.k (k:=.inr "over") (s1 _ _ a1),?_⟩;refine⟨_,rfl,d,_,rfl,DGet.k (k:=.inr "over") (s1 _ _ a1),lv,vts,rfl,.inl (SqL.of (s1 _ _ a6)),_,rfl,d,_,rfl,DGet.k (k:=.inr "rest") (s1 _ _ a1),_,_,rfl,rfl,_,_,rfl,_,rfl,lv,vts,rfl,SqL.of (s1 _ _ a6),fun c fc=>?_⟩;have e0:=zgn vts vts.length P0.rest;rw[a7.length] at e0;have ez:(vts.length:Int)=(P0.over.length:Int):=by rw[a7.length]
 rw[ez,e0];obtain⟨k0,hk0⟩:∃ k:Nat,k=((P0.over.length:Int)-P0.rest).toNat:=⟨_,rfl⟩;rw[<- hk0];have s2:=Zf (o:=.lst (vts.drop k0)) fc;have c2:(upd H1 c (.lst (vts.drop k0))) c=some (.lst (vts.drop k0)):=Zd;have ncm:c≠m:=fun z=>by rw[z,m1] at fc;cases fc
 have OV:Y9 ok (upd H1 c (.lst (vts.drop k0))) (vts.drop k0) (P0.over.drop k0):=(a7.drop k0).keep (fun x o _ z=>s2 _ _ (s1 _ _ z)) fun x o z=>s2 _ _ (s1 _ _ z);have m2:=s2 _ _ m1;generalize upd H1 c (.lst (vts.drop k0))=H2 at s2 c2 OV m2 ⊢;have hin:∀ s∈P0.over.drop k0,s∈P0.over:=fun s hs=>List.mem_of_mem_drop hs;have hlen:(P0.over.drop k0).length<=100:=by rw[List.length_drop];have:=PO.1;omega
 generalize vts.drop k0=ds at c2 OV ⊢;refine⟨c,rfl,⟨_,SqL.of c2⟩,Xn (K:=K) (a:=c) (xs:=ds) (fun i σ H'=>(∃ v1 v2 v3 v4 v5,σ=[#[c,d],#[c,m],v1,v2,v3,v4,v5])/\(∀ x o,H2 x=some o->x≠m->H' x=some o) /\
  ∃ kvs,H' m=#[a,.dT,kvs]/\Nb kvs (P0.over.drop k0) i 0/\kvs.length<=40*i) ⟨⟨_,_,_,_,_,rfl⟩,fun _ _ e _=>e,[],m2,.zero _,by simp⟩ (fun i σ H' _ ⟨_,k,_⟩=>SqL.of (k _ _ c2 ncm)) ?_ ?_⟩
 ·rintro i x σ H' hx ⟨⟨v1,v2,v3,v4,v5,rfl⟩,k2,kvs,hm,mi,kl⟩;obtain⟨t,l,g,mm,y,ts,s,rfl,hs,ht,hl,tl,hg,_,_⟩:=OV.get hx;have htn:t≠m:=Yw ht m2 (by intro z;cases z);have hln:l≠m:=Yw hl m2 (by intro z;cases z);have hgn:g≠m:=Yw hg m2 (by intro z;cases z);refine⟨t,_,rfl,SqT.of (k2 _ _ ht htn),rfl,_,_,rfl,_,_,rfl,_,_,rfl,_,_,rfl,rfl,?_⟩;have hsz:=PO.2.2 s (hin s (zvc hs));have hi:i<ds.length:=(zu4.mp hx).1;have hdl:=OV.length;have tln:ts.length=s.ms.length:=by rw[tl.length,zu2]
  have rln:(Z5 s).length=s.ms.length:=by unfold Z5;rw[zxa,hsz.2.1,Nat.min_self]
  refine⟨_,rfl,l,ts,rfl,.inl (SqL.of (k2 _ _ hl hln)),_,rfl,by omega,by omega,Xu (fun j σ H'=>(∃ v,σ=[#[c,d],#[c,m],#[c,l],#[c,g],#[c,mm],#[c,y],v])/\(∀ x o,H2 x=some o->x≠m->H' x=some o) /\
   ∃ kvs,H' m=#[a,.dT,kvs]/\Nb kvs (P0.over.drop k0) i j/\kvs.length<=40*i+2*j) ⟨⟨_,rfl⟩,k2,kvs,hm,mi,by omega⟩ ?_ ?_⟩
  ·rintro j σ H3 hj ⟨⟨v,rfl⟩,k3,kvs3,hm3,mi3,kl3⟩;rw[zvj] at hj;rw[zwb];have hj2:j<s.gv.length:=by omega
   have hg3:s.gv[j]?=some (s.gv[j]'hj2):=zu3 hj2;have hone:=hsz.2.2 _ (zvx hj2);generalize s.gv[j]'hj2=xv at hg3 hone;have ht3:ts[j]?=some (ts[j]'hj):=zu3 hj;obtain⟨tj,mj,e1,hmj,htj⟩:=K2 tl ht3;rw[e1] at ht3;have htjn:tj≠m:=Yw htj m2 (by intro z;cases z);have hr3:(Z5 s)[j]?=some (Iu mj xv):=by unfold Z5;rw[List.getElem?_zipWith,hmj,hg3]
   refine⟨_,rfl,_,rfl,g,_,_,_,rfl,rfl,SqL.of (k3 _ _ hg hgn),Z0 hg3,rfl,_,rfl,?_⟩;rcases hone with rfl|⟨w,rfl⟩
   ·refine iteF ?_;exact⟨⟨_,rfl⟩,k3,kvs3,hm3,mi3.none hs hr3 rfl,by omega⟩
   ·refine iteT ?_;refine⟨_,rfl,_,rfl,_,rfl,g,_,_,_,rfl,rfl,SqL.of (k3 _ _ hg hgn),Z0 hg3,?_⟩;have big:∀ n:Nat,n<=200000->n<sizeLine:=fun n hn=>Nat.lt_trans (zwr hn ⋯) Th;refine⟨_,rfl,_,rfl,l,_,_,_,rfl,rfl,SqL.of (k3 _ _ hl hln),Z0 ht3,tj,_,_,_,rfl,rfl,SqT.of (k3 _ _ htj htjn),rfl,sz2,fun t2 ht2=>⟨m,_,rfl,DPut.t (k:=[inl w,inl mj.1]) (by rw[Zi (Zh hm3 ht2)];exact hm3) Zd (big _ ⋯),?_⟩⟩;have k4:∀ x o,H2 x=some o->x≠m->upd (upd H3 t2 (.tup [.int w,.int mj.1])) m (.dT (putK kvs3 [inl w,inl mj.1] (.bl true))) x=some o:=fun x o e n=>by
     have:=k3 x o e n;rw[Zi n,Zi (Zh this ht2)];exact this
    have hm4:upd (upd H3 t2 (.tup [.int w,.int mj.1])) m (.dT (putK kvs3 [inl w,inl mj.1] (.bl true))) m=#[a,.dT,putK kvs3 [inl w,inl mj.1] (.bl true)]:=Zd;have l4:=Xk kvs3 ([inl w,inl mj.1]:List Key) (.bl true);generalize upd (upd H3 t2 (.tup [.int w,.int mj.1])) m (.dT (putK kvs3 [inl w,inl mj.1] (.bl true)))=H4 at k4 hm4 ⊢;refine⟨_,rfl,_,rfl,_,rfl,g,_,_,_,rfl,rfl,SqL.of (k4 _ _ hg hgn),Z0 hg3,?_⟩;refine⟨_,rfl,_,rfl,l,_,_,_,rfl,rfl,SqL.of (k4 _ _ hl hln),Z0 ht3,tj,_,_,_,rfl,rfl,SqT.of (k4 _ _ htj htjn),rfl,sz2,fun t4 ht4=>⟨m,_,rfl,DPut.t (k:=[inl w,inl mj.2.1]) (by rw[Zi (Zh hm4 ht4)];exact hm4) Zd (big _ ⋯),?_⟩⟩;have l5:=Xk (putK kvs3 ([inl w,inl mj.1]:List Key) (.bl true)) ([inl w,inl mj.2.1]:List Key) (.bl true);refine⟨⟨_,rfl⟩,fun x o e n=>?_,_,Zd,mi3.some hs hr3 rfl,by omega⟩;have:=k4 x o e n;rw[Zi n,Zi (Zh this ht4)];exact this
  ·rintro σ H3 ⟨⟨v,rfl⟩,k3,kvs3,hm3,mi3,kl3⟩;rw[zvj] at mi3 kl3;rw[tln,<- rln] at mi3;exact⟨⟨_,_,_,_,_,rfl⟩,k3,kvs3,hm3,mi3.next hs,by omega⟩
 ·rintro σ H' ⟨⟨v1,v2,v3,v4,v5,rfl⟩,k2,kvs,hm,mi,kl⟩;rw[OV.length] at mi;refine⟨_,rfl,h m kvs H' hm (mi.all hk0) (fun x o e=>k2 _ _ (s2 _ _ (s1 _ _ e)) (Zh e fm)) fm⟩
abbrev Nr:Stmt:=top 74
theorem We:Zl ["_law_page","_law_met_here","_law_person","_law_match","_law_number","_law_grade","_law_club","_law_home","_law_guest","_law_asked","_law_told"] ["_law_page","_law_met_here","_law_person","_law_match"] (Zj Nr):=fnS
theorem A4(F:#[f,"_law_bars","_law_bars",Nr])(T:Tx K mg a):FnOk P w K mg base (CX1 P w) 1 f fd ["_law_page","_law_met_here","_law_person","_law_match"] (Ar K):=by
 refine #[g,We];obtain⟨ok,d,m,t1,t2,P0,kvs,x,y,rfl,PA,hm,mo,h1,h2,h⟩:=h;have hu:=Wq hr;refine⟨_,(Zb (Oo (pv 2) (Xy (K:=K) (n:=3) rfl rfl (Zw (pN 4 We.nd) (Zw (pN 5 We.nd) (Zw (pN 6 We.nd) Xx)))))
 (Zb (Oo (pv 3) (Xy (K:=K) (n:=3) rfl rfl (Zw (pN 7 We.nd) (Zw (pN 8 We.nd) (Zw (pN 9 We.nd) Xx)))))
 (Zb (pS 10 We.nd (Ya Zc))
 (Zb (Z3 (Zo (Cc (K:=K) rfl hr.units) (Yd (Za (Zu Yt (Zm (cL K) (by rfl) T.zmg PySem.boot_len (Za (pD hu (pv 0) Zq) Zc)) Zg) (Za (pv 4) Zc))) (pD hu (pv 0) Zq) (by with_unfolding_all rfl))
  (Ze (Y4 (pv 10) Zq))
  Zp)
 (Zb (Z3 (Zo T8 (pv 9) (pv 5) (Zt _))
  (Ze (Y4 (pv 10) Zq))
  Zp)
 (Zb (Z3 (PW.pt (Wk (Zo X8 (pv 6) (pv 7) (Zt _)) (Xs (Zo X8 (pv 6) (pv 8) (Zt _)))))
  (Ze (Y4 (pv 10) Zq))
  Zp)
 (Zb (Z3 (PW.pt (Wk (Sk (Ov hu (Yd (Za (pv 4) (Za (pv 7) Zc))) (pv 1))) (Xs (Sk (Ov hu (Yd (Za (pv 4) (Za (pv 8) Zc))) (pv 1))))))
  (Ze (Y4 (pv 10) Zq))
  Zp)
 (Ze (Zn (pv 10)))))))))),?_⟩
 show let y1:TS:=_;let y2:TS:=tSeq _ y1;let y3:TS:=tSeq _ y2;let y4:TS:=tSeq _ y3;let y5:TS:=tSeq _ y4;let y6:TS:=tSeq _ y5;let y7:TS:=tSeq _ y6;tSeq _ y7 _ _ _;intro y1 y2 y3 y4 y5 y6 y7;obtain⟨n,g,c⟩:=x;obtain⟨ho,gu,as⟩:=y;have h1:H t1=#[a,.tup,[.int n,.int g,.int c]]:=h1;have h2:H t2=#[a,.tup,[.int ho,.int gu,.int as]]:=h2;obtain⟨lp,lo,lv,dv,li,lg,lm,pts,ots,vts,mts,a1,a2,a3,a4,a5,a6,a7,a8,a9,c1,c2,c3,o1,o2,o3,o4,o5,o6⟩:=PA;refine⟨_,rfl,t1,_,rfl,SqT.of h1,rfl,_,_,rfl,_,_,rfl,_,_,rfl,rfl,?_⟩;refine⟨_,rfl,t2,_,rfl,SqT.of h2,rfl,_,_,rfl,_,_,rfl,_,_,rfl,rfl,?_⟩;refine⟨by show 0<=sizeLine;decide,fun l hl=>?_⟩;have s1:=Zf (o:=.lst []) hl;have q1:upd H l (.lst []) l=some (.lst (([]:List Str).map V.str)):=Zd;generalize upd H l (.lst [])=H1 at s1 q1;walk_at "if";have b1:=M6 (decide (((P0.over.length:Int)+1,n)∈P0.out)) "away";have b2:=M6 (decide (g<as)) "grade";have b3:=M6 (decide (c=ho)||decide (c=gu)) "club";refine Sb (b:=decide (((P0.over.length:Int)+1,n)∈P0.out)) (H0:=H) (fun Q q=>?_) hl s1 q1 ⋯ rfl fun H2 s2 q2 _=>?_
 ·refine⟨_,rfl,d,_,rfl,DGet.k (k:=.inr "over") (s1 _ _ a1),lv,vts,rfl,.inl (SqL.of (s1 _ _ a6)),_,_,rfl,rfl,_,rfl,sz2,fun t ht=>?_⟩;have s3:=Zf (o:=.tup [.int ((vts.length:Int)+1),.int n]) ht;refine⟨_,rfl,d,_,rfl,DGet.k (k:=.inr "out") (s3 _ _ (s1 _ _ a1)),t,lo,ots,_,_,P0.out,rfl,rfl,SqT.of Zd,SqL.of (s3 _ _ (s1 _ _ a4)),a5.mono fun _ _ z=>s3 _ _ (s1 _ _ z),_,rfl,?_⟩;rw[a7.length] at s3 ⊢;exact q _ s3
 rw[List.nil_append] at q2;have din:∀ (H3:Hp) (cc:Int) (Q3:Bool->Hp->Prop),Same H H3->(∀ H4,Same H3 H4->Q3 (Qk (P0.over.map Z5) n cc P0.rest) H4)->∀ t,H3 t=none->Q3 (valV kvs [inl n,inl cc]).isSome (upd H3 t (.tup [.int n,.int cc])):=fun H3 cc Q3 s3 q3 t ht=>by
  rw[mo n cc];exact q3 _ (Zf ht)
 refine Sb (b:=decide (g<as)) (H0:=H) (Rw fun Q q=>⟨_,rfl,_,rfl,_,_,rfl,rfl,_,rfl,q⟩) hl s2 q2 ⋯ rfl fun H3 s3 q3 _=>?_;refine Sb (b:=decide (c=ho)||decide (c=gu)) (H0:=H) (Rw (Vu (fun Q q=>⟨_,rfl,_,rfl,rfl,_,rfl,Rf▸q⟩) fun Q q=>⟨_,rfl,_,rfl,rfl,_,rfl,Rf▸q⟩)) hl s3 q3 (by rw[zu5];omega) rfl fun H4 s4 q4 _=>?_;refine Sb (b:=Qk (P0.over.map Z5) n ho P0.rest||Qk (P0.over.map Z5) n gu P0.rest) (H0:=H) (Bp (fun Q q=>?_) fun H5 s5 Q q=>?_) hl s4 q4 (by rw[zu5,zu5];omega) rfl fun H5 s5 q5 _=>?_
 ·exact⟨_,rfl,_,rfl,sz2,fun t ht=>⟨_,rfl,m,_,rfl,DGet.t (k:=[inl n,inl ho]) (Zf ht _ _ (s4 _ _ hm)) Zd,_,rfl,din _ ho _ s4 q t ht⟩⟩
 ·exact⟨_,rfl,_,rfl,sz2,fun t ht=>⟨_,rfl,m,_,rfl,DGet.t (k:=[inl n,inl gu]) (Zf ht _ _ (s5 _ _ (s4 _ _ hm))) Zd,_,rfl,din _ gu _ (s4.trans s5) q t ht⟩⟩
 refine⟨_,rfl,h l H5 ?_ s5 hl⟩;unfold P9 whyS;rw[q5,zwy,zwy]
abbrev Nt:Stmt:=top 75
theorem Uv:Zl ["_law_page","_law_met_here","_law_may","_law_match","_law_fit"] ["_law_page"] (Zj Nt):=fnS
theorem A5(F:#[f,"_law_open","_law_open",Nt])(T:Tx K mg a)(zre:Z4 P w K mg base "_law_met" 1 ["_law_page"] (zcu K))(zqv:Z4 P w K mg base "_law_bars" 1 ["_law_page","_law_met_here","_law_person","_law_match"] (Ar K)):FnOk P w K mg base (CX1 P w) 2 f fd ["_law_page"] (zbd K):=by
 refine #[g,Uv];obtain⟨ok,d,P0,ms,rfl,PA,PO,hms,hl1,hl2,h⟩:=h;have hu:=Wq hr;refine⟨_,(Zb (pS 1 Uv.nd (pF zre hr (Za (pv 0) Zc)))
 (Zb (pS 2 Uv.nd (Ya Zc))
 (Zb (Ys PassesOwn.leaving rfl (Yc (K:=K) rfl (pD hu (pv 0) Zq)) (pN 3 Uv.nd)
  (Zb (Vp (i:=4) Uv.nd rfl rfl rfl (cT ["_law_page","_law_met_here","_law_match"] [0,1,3]) (Yc (K:=K) rfl (pD hu (pv 0) Zq)) (fun _ _ _ _ _=>Sa (Zo (zb7 (K:=K) rfl hr.units) (zb5 zqv (hr.mono ⋯) Bl rfl (Za (pv 1) (Za (pv 2) (Za (pv 0) (Za (pv 3) Zc))))) (Ya Zc) (Zt _))) (fun _ _ _ _ _=>(pv 0)))
  (Ze (Y4 (pv 2) (W7 rfl (cT [] []) (Yc (K:=K) rfl (pv 4)) (fun _ _ _ _ _=>W8) (fun _ _ _ _ _=>(pI (iU K) (pv 0) Zg)))))))
 (Ze (Zn (pv 2)))))),?_⟩
 refine⟨_,rfl,ok,d,P0,rfl,PA,PO,fun m kvs H1 hm mo s1 fm=>?_⟩;obtain⟨lp,lo,lv,dv,li,lg,lm,pts,ots,vts,mts,a1,a2,a3,a4,a5,a6,a7,a8,a9,c1,c2,c3,o1,o2,o3,o4,o5,o6⟩:=id PA;refine⟨by show 0<=sizeLine;decide,fun r hr'=>?_⟩;have s2:=s1.trans (Zf (o:=.lst []) hr');have q2:upd H1 r (.lst []) r=#[a,.lst,[]]:=Zd;have hm2:upd H1 r (.lst []) m=#[a,.dT,kvs]:=Zf hr' _ _ hm;have fr:=s1.free hr';walk_at "if";generalize upd H1 r (.lst [])=H2 at s2 q2 hm2 ⊢;rw[hms] at a9;obtain⟨ll,ts,rfl,hll,tl,_⟩:=a9;have htl:ts.length=ms.length:=by rw[tl.length,zu2]
 have hpl:pts.length=P0.ppl.length:=by rw[a3.length,zu2]
 have hmr:m≠r:=fun z=>by rw[z,q2] at hm2;cases hm2
 refine⟨_,rfl,d,_,rfl,DGet.k (k:=.inr "listed") (s2 _ _ a1),ll,rfl,⟨_,SqL.of (s2 _ _ hll)⟩,Xn (K:=K) (a:=ll) (xs:=ts) (fun i σ H'=>(∃ v1 v2,σ=[#[c,d],#[c,m],#[c,r],v1,v2])/\(∀ x o,H2 x=some o->x≠r->H' x=some o) /\
  ∃ ls,H' r=some (.lst (ls.map V.ref))/\ILs H' ls ((Q7 P0 ms).take i)/\ls.length=i/\∀ x∈ls,H x=none/\x≠r) ⟨⟨_,_,rfl⟩,fun _ _ e _=>e,[],q2,.nil,rfl,by simp⟩ (fun i σ H' _ ⟨_,k,_⟩=>SqL.of (k _ _ (s2 _ _ hll) (Zh hll fr))) ?_ ?_⟩
 ·rintro i x σ H' hx ⟨⟨v1,v2,rfl⟩,k2,ls,hr3,il,hln,hfr⟩;obtain⟨t,mm,rfl,hmm,ht⟩:=K2 tl hx;have sh:Same H H':=fun x o e=>k2 _ _ (s2 _ _ e) (Zh e fr);refine⟨_,rfl,d,_,rfl,DGet.k (k:=.inr "people") (sh _ _ a1),lp,rfl,⟨_,SqL.of (sh _ _ a2)⟩,?_⟩;refine Wn (K:=K) (a:=lp) (xs:=pts) (fun i ys H''=>Same H' H''/\Z9 H'' ys (((P0.ppl.take i).filter fun x=>(P9 P0 x mm).isEmpty).map pV)) ⟨Same.refl _,.nil⟩ (fun i ys H'' _ ⟨z,_⟩=>SqL.of (z _ _ (sh _ _ a2))) (szN ⋯) (fun i ys H' ⟨_,e⟩=>by rw[e.length,zu2];exact zvh (zvz _ _) (zwq _ _)) ?_ ?_
  ·rintro j x ys H3 hx3 ⟨s3,tl3⟩;obtain⟨tp,pp,rfl,hpp,htp⟩:=K2 a3 hx3;have sh3:=sh.trans s3;refine⟨_,rfl,_,rfl,_,rfl,_,rfl,ok,d,m,tp,t,P0,kvs,pp,mm,rfl,PA.same sh3,s3 _ _ (k2 _ _ hm2 hmr),mo,sh3 _ _ htp,sh3 _ _ ht,fun lw H4 hlw s4 fw=>?_⟩;refine⟨by show 0<=sizeLine;decide,fun le hle=>?_⟩;have s5:=s4.trans (Zf (o:=.lst []) hle);refine⟨_,_,.lst (SqL.of (Zf hle _ _ hlw)) (Hj _),.lst (SqL.of Zd) .nil,zh0 _ zh1,D1,_,rfl,?_⟩;generalize upd H4 le (.lst [])=H5 at s5 ⊢;rw[if_neg (show ¬ false=true by decide),D2];have e:P0.ppl.take (j+1)=P0.ppl.take j++[pp]:=Xv hpp;rw[e,zwi,zu9];refine itB (fun hb=>?_) fun hb=>?_
   ·refine⟨_,rfl,s3.trans s5,?_⟩;rw[zwj (p:=fun x=>(P9 P0 x mm).isEmpty) (a:=pp) hb,zw3];exact(tl3.same s5).snoc (s5 _ _ (sh3 _ _ htp))
   ·refine⟨s3.trans s5,?_⟩;rw[zwk (p:=fun x=>(P9 P0 x mm).isEmpty) (a:=pp) (by rw[hb];decide),zw3,List.map_nil,zxc];exact tl3.same s5
  ·rintro ys H3 ⟨s3,tl3⟩ lf hlf;rw[hpl,zvk] at tl3;have s4:=s3.trans (Zf (o:=.lst ys) hlf);have q4:upd H3 lf (.lst ys) lf=#[a,.lst,ys]:=Zd;have tl4:=tl3.same (Zf (o:=.lst ys) hlf);show Wl 4 (V.ref lf) _ (upd H3 lf (.lst ys)) _;generalize upd H3 lf (.lst ys)=H4 at s4 q4 tl4 ⊢;have hfl:ys.length<=100:=by rw[tl3.length,zu2];exact zvh (zvz _ _) hl2
   walk_at "if";refine⟨_,rfl,r,_,rfl,s4 _ _ hr3,_,rfl,lf,rfl,⟨_,SqL.of q4⟩,Wn (K:=K) (a:=lf) (xs:=ys) (fun i zs H''=>Same H4 H''/\zs=((P0.ppl.filter fun x=>(P9 P0 x mm).isEmpty).take i).map fun x=>V.int x.1) ⟨Same.refl _,rfl⟩ (fun i zs H'' _ ⟨z,_⟩=>SqL.of (z _ _ q4)) (szN ⋯) (fun i zs H'' ⟨_,e⟩=>by rw[e,zu2];exact zwq _ _) ?_ ?_⟩
   ·rintro j x zs H5 hx5 ⟨s5,rfl⟩;obtain⟨tp,pp,rfl,hpp,htp⟩:=K2 tl4 hx5;unfold tYes;dsimp only;rw[if_pos rfl];refine⟨_,rfl,tp,_,_,_,rfl,rfl,SqT.of (s5 _ _ htp),show atI (pV pp) 0=some _ from rfl,s5,?_⟩;rw[Xv hpp,zu9];rfl
   ·rintro zs H5 ⟨s5,rfl⟩ ln hln';have hyl:ys.length=(P0.ppl.filter fun x=>(P9 P0 x mm).isEmpty).length:=by rw[tl3.length,zu2]
    rw[hyl,zvk];have er:(P0.ppl.filter fun x=>(P9 P0 x mm).isEmpty).map (fun x=>V.int x.1)=((P0.ppl.filter fun x=>(P9 P0 x mm).isEmpty).map (·.1)).map V.int:=by rw[zwn];rfl
    rw[er];have s6:=(s4.trans s5).trans (Zf (o:=.lst (((P0.ppl.filter fun x=>(P9 P0 x mm).isEmpty).map (·.1)).map V.int)) hln');have q6:upd H5 ln (.lst (((P0.ppl.filter fun x=>(P9 P0 x mm).isEmpty).map (·.1)).map V.int)) ln=some (.lst (((P0.ppl.filter fun x=>(P9 P0 x mm).isEmpty).map (·.1)).map V.int)):=Zd;have fl:H' ln=none:=(s4.trans s5).free hln';dsimp only;generalize upd H5 ln (.lst (((P0.ppl.filter fun x=>(P9 P0 x mm).isEmpty).map (·.1)).map V.int))=H6 at s6 q6 ⊢;refine⟨_,s6 _ _ hr3,szN (by rw[zu2];have:=(zu4.mp hx).1;omega),⟨_,_,rfl⟩,fun x o e n=>by rw[Zi n];exact s6 _ _ (k2 _ _ e n),ls++[ln],by rw[zu9];exact Zd,?_,by rw[zu5,hln];rfl,fun y hy=>?_⟩
    ·have e:(Q7 P0 ms).take (i+1)=(Q7 P0 ms).take i++[(P0.ppl.filter fun x=>(P9 P0 x mm).isEmpty).map (·.1)]:=by
      unfold Q7;rw[zwg,zu8,hmm];rfl
     rw[e];refine ILs.snoc (by rw[Zi (Zh hr3 fl).symm];exact q6) (il.keep fun x hx' o q=>?_);rw[Zi (hfr x hx').2];exact s6 _ _ q
    ·rcases zve.mp hy with z|z
     ·exact hfr y z
     ·rw[zu6.mp z];exact⟨sh.free fl,(Zh hr3 fl).symm⟩
 ·rintro σ H' ⟨⟨v1,v2,rfl⟩,k2,ls,hr3,il,hln,hfr⟩;have sh:Same H H':=fun x o e=>k2 _ _ (s2 _ _ e) (Zh e fr);have hml:(Q7 P0 ms).length=ms.length:=by unfold Q7;rw[zu2]
  rw[htl,<- hml,zvk] at il;exact⟨_,rfl,h r ls H' hr3 il sh fr fun x hx=>(hfr x hx).1⟩
abbrev Pl:Stmt:=top 76
theorem Tb:Zl ["_law_pages","_law_deed_here","_law_page","_law_at_here","_law_kept"] ["_law_pages","_law_deed_here"] (Zj Pl):=fnS
theorem Cs(F:#[f,"_law_paged","_law_paged",Pl])(T:Tx K mg a)(zou:Z4 P w K mg base "_law_open" 2 ["_law_page"] (zbd K)):FnOk P w K mg base (CX1 P w) 3 f fd ["_law_pages","_law_deed_here"] (Cd K):=by
 refine #[g,Tb];obtain⟨ok,l,t,ds,d,P0,D,rfl,hl,PA,hD,PO,hpl,hol,hdl,hcl,h⟩:=h;have hu:=Wq hr;refine⟨_,(Zb (pS 2 Tb.nd (Xm za9 (by rfl) T.zr3 PyProof.Rows.boot_dict (Za (pI (iL K) (pv 0) (Ka Qw Zg)) Zc)))
 (Zb (pS 3 Tb.nd (Zu Yt (Zm (cL K) (by rfl) T.zmg PySem.boot_len (Za (pD hu (pv 2) Zq) Zc)) Zg))
 (Zb (Z3 (Zo X8 (pI (iU K) (pv 1) Zg) Zq (Zt _))
  (Ze (Zn (Bd (Bm (K:=K) rfl) (pv 0) zby (zbz (Ka Qw Zg)))))
  Zp)
 (Zb (Z3 (Zo X8 (pI (iU K) (pv 1) Zg) Zq (Zt _))
  (Zb (pS 4 Tb.nd (Yd (Za (pD hu (pv 2) Zq) (Za (pD hu (pv 2) Zq) (Za (pD hu (pv 2) Zq) (Za (pF zou hr (Za (pv 2) Zc)) Zc))))))
  (Zb (Ym hu (pv 2) Zq (Zu Ow (pD hu (pv 2) Zq) (Ya (Za (pv 4) Zc))) rfl)
  (Zb (Ym hu (pv 2) Zq Yx rfl)
  (Zb (Ym hu (pv 2) Zq (Ya Zc) rfl)
  (Zb (Ym hu (pv 2) Zq (Ya Zc) rfl)
  (Ze (Zn (Ya (Za (pv 2) Zc)))))))))
  Zp)
 (Zb (Z3 (Zo X8 (pI (iU K) (pv 1) Zg) Zq (Zt _))
  (Zb (Ym hu (pv 2) Zq (Zu Ow (pD hu (pv 2) Zq) (Ya (Za (Yd (Za (pI (iU K) (pv 1) Zg) (Za (pI (iU K) (pv 1) Zg) (Za (pI (iU K) (pv 1) Zg) Zc)))) Zc))) rfl)
  (Ze (Ym hu (pv 2) Zq (Yd (Za Zq (Za (pI (iU K) (pv 1) Zg) (Za (pv 3) Zc)))) rfl)))
  (Ze (Z3 (Zo X8 (pI (iU K) (pv 1) Zg) Zq (Zt _))
   (Zb (Ym hu (pv 2) Zq (pI (iU K) (pv 1) Zg) rfl)
   (Ze (Ym hu (pv 2) Zq (Yd (Za Zq (Za (Zm (cL K) (by rfl) T.zmg PySem.boot_len (Za (pI (iU K) (pv 1) Zg) Zc)) (Za (pv 3) Zc)))) rfl)))
   (Zb (Ym hu (pv 2) Zq (Zu Ow (pD hu (pv 2) Zq) (Ya (Za (Yd (Za (pI (iU K) (pv 1) Zg) (Za (pI (iU K) (pv 1) Zg) Zc))) Zc))) rfl)
   (Ze (Ym hu (pv 2) Zq (Yd (Za Zq (Za (pI (iU K) (pv 1) Zg) (Za (pI (iU K) (pv 1) Zg) Zc)))) rfl))))))
 (Ze (Zn (Zu Ow (pv 0) (Ya (Za (pv 2) Zc)))))))))),?_⟩
 show let y1:TS:=_;let y2:TS:=tSeq _ y1;let y3:TS:=tSeq _ y2;let y4:TS:=tSeq _ y3;let y5:TS:=tSeq _ y4;let y6:TS:=_;let y7:TS:=tSeq _ y6;let y8:TS:=tSeq (Cz _ (tSeq _ y5) _) y7;let y9:TS:=tSeq _ y8;let y10:TS:=tSeq _ y9;tSeq _ y10 _ _ _;intro y1 y2 y3 y4 y5 y6 y7 y8 y9 y10;obtain⟨lp,lo,lv,dv,li,lg,lm,a1,PB,okd⟩:=id PA.split;have hat:atI ((ds++[d]).map V.ref) (-1)=#[a,V.ref,d]:=by rw[zu9];exact L2.atI_last _ _
 refine⟨_,rfl,_,rfl,l,_,_,_,rfl,rfl,SqL.of hl,hat,d,_,rfl,.inl a1,fun d' fd'=>?_⟩;obtain⟨ok1,hok1⟩:∃ ok1:Addr->Prop,ok1=fun x=>ok x\/H x=none:=⟨_,rfl⟩;have okf:∀ x,H x=none->ok1 x:=fun x hx=>by rw[hok1];exact .inr hx
 have oko:∀ x,ok x->ok1 x:=fun x hx=>by rw[hok1];exact .inl hx
 rw[<- hok1] at h;have s1:=Zf (o:=.dK (pgF P0.len P0.rest lp lo lv dv li lg lm)) fd';have q1:upd H d' (.dK (pgF P0.len P0.rest lp lo lv dv li lg lm)) d'=#[a,.dK,pgF P0.len P0.rest lp lo lv dv li lg lm]:=Zd;have PB1:=(PB.imp (fun x _ o=>oko x o)).keepL (.of s1);walk_at "if";generalize upd H d' (.dK (pgF P0.len P0.rest lp lo lv dv li lg lm))=H1 at s1 q1 PB1 ⊢;have PA1:PgAt ok1 H1 d' P0:=.join q1 PB1 (okf _ fd');obtain⟨vts,v1,v2,v3⟩:=PB1.vv;refine⟨_,rfl,d',_,rfl,DGet.k (k:=.inr "over") q1,lv,vts,rfl,.inl (SqL.of v1),_,_,rfl,rfl,?_⟩;rw[v2.length];have wr:∀ {H:Hp} {lp lo lv:Addr} {dv li:V} {lg lm:Addr} {x:V} {k:Str},H d'=#[a,.dK,pgF P0.len P0.rest lp lo lv dv li lg lm]->DPut H d' (.str k) x (upd H d' (.dK (putK (pgF P0.len P0.rest lp lo lv dv li lg lm) (.inr k) x))):=fun q=>DPut.k (k:=.inr _) q zbb;have sz0:([]:List V).length<=sizeLine:=zvw _;have sz1:∀ x:V,[x].length<=sizeLine:=fun x=>by show 1<=sizeLine;rw[sizeLine_eq];decide
 walk_at "if";cases D with
 | back =>
   have ht:H t=#[a,.tup,[.str "take back"]]:=hD;refine⟨_,rfl,t,_,_,_,rfl,rfl,SqT.of (s1 _ _ ht),rfl,rfl,_,rfl,?_⟩;rw[He];refine iteT ?_;refine⟨_,rfl,_,rfl,_,rfl,l,_,rfl,SqL.of (s1 _ _ hl),fun c fc=>?_⟩;rw[zu9,show G5 (ds.map V.ref++[d].map V.ref) none (some (-1))=ds.map V.ref from zgo _ _];exact h c d' _ Zd (fun z=>absurd rfl z) (s1.trans (Zf fc)) (s1.free fc) fd'
 | close =>
   have ht:H t=#[a,.tup,[.str "close"]]:=hD;refine⟨_,rfl,t,_,_,_,rfl,rfl,SqT.of (s1 _ _ ht),rfl,rfl,_,rfl,?_⟩;rw[U9 ⋯];refine iteF (Zx ?_);refine⟨_,rfl,t,_,_,_,rfl,rfl,SqT.of (s1 _ _ ht),rfl,rfl,_,rfl,?_⟩;rw[He];refine iteT ?_;obtain⟨ms,hms,hml⟩:=hcl rfl;refine⟨_,rfl,d',_,rfl,DGet.k (k:=.inr "listed") q1,_,rfl,d',_,rfl,DGet.k (k:=.inr "goes") q1,_,rfl,d',_,rfl,DGet.k (k:=.inr "moves") q1,_,rfl,ok1,d',P0,ms,rfl,PA1,PO,hms,hml,hpl,fun ly ls H2 hly ily s2 fly fls=>?_⟩;obtain⟨ll,ts,rfl,b1,b2,b3⟩:∃ l ts,li=.ref l/\H1 l=#[a,.lst,ts]/\Z9 H1 ts (ms.map pV)/\ok1 l:=by have:=PB1.li;rw[hms] at this;exact this
   obtain⟨mts,c1,c2,c3⟩:=PB1.mm;obtain⟨g1,g2⟩:=PB1.gg;have sh2:=s1.trans s2;refine⟨by show 4<=sizeLine;rw[sizeLine_eq];decide,fun tk ftk=>?_⟩;have s3:=s2.trans (Zf (o:=.tup [.ref ll,.ref lg,.ref lm,.ref ly]) ftk);have t3:=Zd (H:=H2) (a:=tk) (o:=.tup [.ref ll,.ref lg,.ref lm,.ref ly]);have y3:=Zf (o:=.tup [.ref ll,.ref lg,.ref lm,.ref ly]) ftk _ _ hly;have i3:=ily.same (Zf (o:=.tup [.ref ll,.ref lg,.ref lm,.ref ly]) ftk);generalize upd H2 tk (.tup [.ref ll,.ref lg,.ref lm,.ref ly])=H3 at s3 t3 y3 i3 ⊢;walk_at "if";refine⟨_,rfl,d',_,rfl,DGet.k (k:=.inr "over") (s3 _ _ q1),_,rfl,sz1 _,fun l1 f1=>?_⟩;have s4:=Zf (o:=.lst [.ref tk]) f1;have t4:=Zd (H:=H3) (a:=l1) (o:=.lst [.ref tk]);generalize upd H3 l1 (.lst [.ref tk])=H4 at s4 t4 ⊢;have s04:=s3.trans s4;refine⟨lv,l1,vts,_,rfl,rfl,s04 _ _ v1,t4,szN (by rw[v2.length];have:=PO.1;show P0.over.length+1<=1000;omega),fun lv' fv'=>?_⟩;have s5:=s4.trans (Zf (o:=.lst (vts++[.ref tk])) fv');have t5:=Zd (H:=H4) (a:=lv') (o:=.lst (vts++[.ref tk]));generalize upd H4 lv' (.lst (vts++[.ref tk]))=H5 at s5 t5 ⊢;have s15:=s3.trans s5;refine⟨_,rfl,d',_,rfl,wr (s15 _ _ q1),?_⟩;rw[zgl];have s6:=Z6 (o:=.dK (pgF P0.len P0.rest lp lo lv' dv (.ref ll) lg lm)) fd' (s1.trans s15);have q6:=Zd (H:=H5) (a:=d') (o:=.dK (pgF P0.len P0.rest lp lo lv' dv (.ref ll) lg lm));have k6:=Xi.dict (s15 _ _ q1) (kvs':=pgF P0.len P0.rest lp lo lv' dv (.ref ll) lg lm);generalize upd H5 d' (.dK (pgF P0.len P0.rest lp lo lv' dv (.ref ll) lg lm))=H6 at s6 q6 k6 ⊢;refine⟨_,rfl,d',_,rfl,wr q6,?_⟩;rw[Hg];have s7:=Z6 (o:=.dK (pgF P0.len P0.rest lp lo lv' dv .non lg lm)) fd' s6;have q7:=Zd (H:=H6) (a:=d') (o:=.dK (pgF P0.len P0.rest lp lo lv' dv .non lg lm));have k7:=k6.trans (Xi.dict q6 (kvs':=pgF P0.len P0.rest lp lo lv' dv .non lg lm));generalize upd H6 d' (.dK (pgF P0.len P0.rest lp lo lv' dv .non lg lm))=H7 at s7 q7 k7 ⊢;refine⟨sz0,fun lg' fg'=>?_⟩;have s8:=Zf (o:=.lst []) fg';have t8:=Zd (H:=H7) (a:=lg') (o:=.lst []);generalize upd H7 lg' (.lst [])=H8 at s8 t8 ⊢;refine⟨_,rfl,d',_,rfl,wr (s8 _ _ q7),?_⟩;rw[Ap];have s9:=Z6 (o:=.dK (pgF P0.len P0.rest lp lo lv' dv .non lg' lm)) fd' (s7.trans s8);have q9:=Zd (H:=H8) (a:=d') (o:=.dK (pgF P0.len P0.rest lp lo lv' dv .non lg' lm));have k9':=Xi.dict (s8 _ _ q7) (kvs':=pgF P0.len P0.rest lp lo lv' dv .non lg' lm);generalize upd H8 d' (.dK (pgF P0.len P0.rest lp lo lv' dv .non lg' lm))=H9 at s9 q9 k9' ⊢;have k9:=(k7.trans (.of s8)).trans k9';refine⟨sz0,fun lm' fm'=>?_⟩;have s10:=Zf (o:=.lst []) fm';have t10:=Zd (H:=H9) (a:=lm') (o:=.lst []);generalize upd H9 lm' (.lst [])=H10 at s10 t10 ⊢;refine⟨_,rfl,d',_,rfl,wr (s10 _ _ q9),?_⟩;rw[De];have s11:=Z6 (o:=.dK (pgF P0.len P0.rest lp lo lv' dv .non lg' lm')) fd' (s9.trans s10);have q11:=Zd (H:=H10) (a:=d') (o:=.dK (pgF P0.len P0.rest lp lo lv' dv .non lg' lm'));have k11':=Xi.dict (s10 _ _ q9) (kvs':=pgF P0.len P0.rest lp lo lv' dv .non lg' lm');generalize upd H10 d' (.dK (pgF P0.len P0.rest lp lo lv' dv .non lg' lm'))=H11 at s11 q11 k11' ⊢;have k11:=(k9.trans (.of s10)).trans k11';refine⟨_,rfl,sz1 _,fun lr flr=>?_⟩;have s12:=Zf (o:=.lst [.ref d']) flr;have t12:=Zd (H:=H11) (a:=lr) (o:=.lst [.ref d']);have k12:=k11.trans (.of s12);have k1:=(Xi.of s15).trans k12;have k3:=(Xi.of s5).trans k12;generalize upd H11 lr (.lst [.ref d'])=H12 at s12 t12 k12 k1 k3 ⊢;refine h lr d' H12 t12 (fun _=>?_) (s11.trans s12) (s11.free flr) fd';have b:=PB1.keepL k1;have e:Vz P0 .close={ P0 with over:=P0.over++[⟨ms,Q7 P0 ms,P0.gv,P0.mv⟩],lis:=none,gv:=[],mv:=[] }:=by unfold Vz;rw[hms];rfl
   rw[e];have fr2:∀ x,H2 x=none->H x=none:=fun x hx=>sh2.free hx;refine .join (P:={ P0 with over:=P0.over++[⟨ms,Q7 P0 ms,P0.gv,P0.mv⟩],lis:=none,gv:=[],mv:=[] }) (s12 _ _ q11) ⟨b.pp,b.oo,⟨_,k12.1 _ _ t5,Y9.snoc (s:=⟨ms,Q7 P0 ms,P0.gv,P0.mv⟩) (k3.2 _ _ t3) (k1.1 _ _ b1) (b2.mono k1.2) (k1.1 _ _ g1) (k1.1 _ _ c1) (c2.keepL k1) (k3.1 _ _ y3) (ILs.keepL k3 i3) ⟨b3,g2,c3,okf _ (s1.free fly),fun x hx=>okf _ (s1.free (fls x hx))⟩ (v2.keepL k1),okf _ (s1.free (s04.free fv'))⟩,b.dd,rfl,⟨?_,okf _ (s7.free fg')⟩,[],?_,.nil,okf _ (s9.free fm')⟩ (okf _ fd')
   ·exact s12 _ _ (k11'.1 _ _ (s10 _ _ (k9'.1 _ _ t8)))
   ·exact s12 _ _ (k11'.1 _ _ t10)
 | enrol n g c =>
   have ht:H t=#[a,.tup,[.str "enrol",.int n,.int g,.int c]]:=hD;have ht1:=s1 _ _ ht;have sz3:∀ x y z:V,[x,y,z].length<=sizeLine:=fun x y z=>by show 3<=sizeLine;rw[sizeLine_eq];decide
   refine⟨_,rfl,t,_,_,_,rfl,rfl,SqT.of ht1,rfl,rfl,_,rfl,?_⟩;rw[U9 ⋯];refine iteF (Zx ?_);refine⟨_,rfl,t,_,_,_,rfl,rfl,SqT.of ht1,rfl,rfl,_,rfl,?_⟩;rw[U9 ⋯];refine iteF (Zx ?_);refine⟨_,rfl,t,_,_,_,rfl,rfl,SqT.of ht1,rfl,rfl,_,rfl,?_⟩;rw[He];refine iteT ?_;obtain⟨pts,p1,p2,p3⟩:=PB1.pp;refine⟨_,rfl,d',_,rfl,DGet.k (k:=.inr "people") q1,_,rfl,t,_,_,_,rfl,rfl,SqT.of ht1,rfl,_,rfl,t,_,_,_,rfl,rfl,SqT.of ht1,rfl,_,rfl,t,_,_,_,rfl,rfl,SqT.of ht1,rfl,sz3 _ _ _,fun tp ftp=>?_⟩;have s2:=Zf (o:=.tup [.int n,.int g,.int c]) ftp;have t2:=Zd (H:=H1) (a:=tp) (o:=.tup [.int n,.int g,.int c]);generalize upd H1 tp (.tup [.int n,.int g,.int c])=H2 at s2 t2 ⊢;refine⟨sz1 _,fun l1 f1=>?_⟩;have s3:=Zf (o:=.lst [.ref tp]) f1;have t3:=Zd (H:=H2) (a:=l1) (o:=.lst [.ref tp]);generalize upd H2 l1 (.lst [.ref tp])=H3 at s3 t3 ⊢;have s13:=s2.trans s3;refine⟨lp,l1,pts,_,rfl,rfl,s13 _ _ p1,t3,szN (by rw[p2.length,zu2];show _+1<=1000;omega),fun lp' fp'=>?_⟩;have s4:=s13.trans (Zf (o:=.lst (pts++[.ref tp])) fp');have t4:=Zd (H:=H3) (a:=lp') (o:=.lst (pts++[.ref tp]));have t2':=(s3.trans (Zf (o:=.lst (pts++[.ref tp])) fp')) _ _ t2;generalize upd H3 lp' (.lst (pts++[.ref tp]))=H4 at s4 t4 t2' ⊢;refine⟨_,rfl,d',_,rfl,wr (s4 _ _ q1),?_⟩;rw[zba];have s5:=Z6 (o:=.dK (pgF P0.len P0.rest lp' lo lv dv li lg lm)) fd' (s1.trans s4);have q5:=Zd (H:=H4) (a:=d') (o:=.dK (pgF P0.len P0.rest lp' lo lv dv li lg lm));have k5':=Xi.dict (s4 _ _ q1) (kvs':=pgF P0.len P0.rest lp' lo lv dv li lg lm);generalize upd H4 d' (.dK (pgF P0.len P0.rest lp' lo lv dv li lg lm))=H5 at s5 q5 k5' ⊢;have k5:=(Xi.of s4).trans k5';refine⟨_,rfl,t,_,_,_,rfl,rfl,SqT.of (s5 _ _ ht),rfl,_,rfl,sz3 _ _ _,fun td ftd=>?_⟩;have s6:=Zf (o:=.tup [.str "enrol",.int n,.int ((P0.over.length:Int)+1)]) ftd;have t6:=Zd (H:=H5) (a:=td) (o:=.tup [.str "enrol",.int n,.int ((P0.over.length:Int)+1)]);generalize upd H5 td (.tup [.str "enrol",.int n,.int ((P0.over.length:Int)+1)])=H6 at s6 t6 ⊢;refine⟨_,rfl,d',_,rfl,wr (s6 _ _ q5),?_⟩;rw[Hf];have s7:=Z6 (o:=.dK (pgF P0.len P0.rest lp' lo lv (.ref td) li lg lm)) fd' (s5.trans s6);have q7:=Zd (H:=H6) (a:=d') (o:=.dK (pgF P0.len P0.rest lp' lo lv (.ref td) li lg lm));have k7':=Xi.dict (s6 _ _ q5) (kvs':=pgF P0.len P0.rest lp' lo lv (.ref td) li lg lm);generalize upd H6 d' (.dK (pgF P0.len P0.rest lp' lo lv (.ref td) li lg lm))=H7 at s7 q7 k7' ⊢;have k7:=(k5.trans (.of s6)).trans k7';refine⟨_,rfl,_,rfl,sz1 _,fun l2 f2=>?_⟩;have s8:=Zf (o:=.lst [.ref d']) f2;have t8:=Zd (H:=H7) (a:=l2) (o:=.lst [.ref d']);generalize upd H7 l2 (.lst [.ref d'])=H8 at s8 t8 ⊢;refine⟨l,l2,_,_,rfl,rfl,s8 _ _ (s7 _ _ hl),t8,szN (by rw[zu2,zu5];show ds.length+1+1<=1000;omega),fun lr flr=>?_⟩;have er:(ds++[d]).map V.ref++[.ref d']=(ds++[d]++[d']).map V.ref:=by rw[zu9 (l₁:=ds++[d])];rfl
   rw[er];have s9:=s8.trans (Zf (o:=.lst ((ds++[d]++[d']).map V.ref)) flr);have t9:=Zd (H:=H8) (a:=lr) (o:=.lst ((ds++[d]++[d']).map V.ref));generalize upd H8 lr (.lst ((ds++[d]++[d']).map V.ref))=H9 at s9 t9 ⊢;have k9:=k7.trans (.of s9);have t6':=s9 _ _ (k7'.2 _ _ t6);refine h lr d' H9 t9 (fun _=>?_) (s7.trans s9) (s7.free (s8.free flr)) fd';have b:=PB1.keepL k9;refine .join (P:=Vz P0 (.enrol n g c)) (s9 _ _ q7) ⟨⟨_,s9 _ _ (k7'.1 _ _ (s6 _ _ (k5'.1 _ _ t4))),?_,okf _ (s1.free (s13.free fp'))⟩,b.oo,b.vv,⟨td,rfl,t6'⟩,b.li,b.gg,b.mm⟩ (okf _ fd');unfold Vz;dsimp only;rw[zu9];exact(p2.mono k9.2).snoc (s9 _ _ (k7'.2 _ _ (s6 _ _ (k5'.2 _ _ t2'))))
 | draw ms =>
   obtain⟨ll,ts,ht,hll,tl,okl⟩:∃ l ts,H t=#[a,.tup,[.str "draw up",.ref l]]/\H l=#[a,.lst,ts]/\Z9 H ts (ms.map pV)/\ok l:=hD;have ht1:=s1 _ _ ht;have sz3:∀ x y z:V,[x,y,z].length<=sizeLine:=fun x y z=>by show 3<=sizeLine;rw[sizeLine_eq];decide
   refine⟨_,rfl,t,_,_,_,rfl,rfl,SqT.of ht1,rfl,rfl,_,rfl,?_⟩;rw[U9 ⋯];refine iteF (Zx ?_);refine⟨_,rfl,t,_,_,_,rfl,rfl,SqT.of ht1,rfl,rfl,_,rfl,?_⟩;rw[U9 ⋯];refine iteF (Zx ?_);refine⟨_,rfl,t,_,_,_,rfl,rfl,SqT.of ht1,rfl,rfl,_,rfl,?_⟩;rw[U9 ⋯];refine iteF ?_;refine⟨_,rfl,t,_,_,_,rfl,rfl,SqT.of ht1,rfl,rfl,_,rfl,?_⟩;rw[He];refine iteT ?_;refine⟨_,rfl,t,_,_,_,rfl,rfl,SqT.of ht1,rfl,_,rfl,d',_,rfl,wr q1,?_⟩;rw[Hg];have s5:=Z6 (o:=.dK (pgF P0.len P0.rest lp lo lv dv (.ref ll) lg lm)) fd' s1;have q5:=Zd (H:=H1) (a:=d') (o:=.dK (pgF P0.len P0.rest lp lo lv dv (.ref ll) lg lm));have k5:=Xi.dict q1 (kvs':=pgF P0.len P0.rest lp lo lv dv (.ref ll) lg lm);generalize upd H1 d' (.dK (pgF P0.len P0.rest lp lo lv dv (.ref ll) lg lm))=H5 at s5 q5 k5 ⊢;have ez:(ts.length:Int)=(ms.length:Int):=by rw[tl.length,zu2]
   refine⟨_,rfl,t,_,_,_,rfl,rfl,SqT.of (s5 _ _ ht),rfl,ll,ts,rfl,.inl (SqL.of (s5 _ _ hll)),_,rfl,sz3 _ _ _,fun td ftd=>?_⟩;have s6:=Zf (o:=.tup [.str "draw up",.int (ts.length:Int),.int ((P0.over.length:Int)+1)]) ftd;have t6:=Zd (H:=H5) (a:=td) (o:=.tup [.str "draw up",.int (ts.length:Int),.int ((P0.over.length:Int)+1)]);generalize upd H5 td (.tup [.str "draw up",.int (ts.length:Int),.int ((P0.over.length:Int)+1)])=H6 at s6 t6 ⊢;refine⟨_,rfl,d',_,rfl,wr (s6 _ _ q5),?_⟩;rw[Hf];have s7:=Z6 (o:=.dK (pgF P0.len P0.rest lp lo lv (.ref td) (.ref ll) lg lm)) fd' (s5.trans s6);have q7:=Zd (H:=H6) (a:=d') (o:=.dK (pgF P0.len P0.rest lp lo lv (.ref td) (.ref ll) lg lm));have k7':=Xi.dict (s6 _ _ q5) (kvs':=pgF P0.len P0.rest lp lo lv (.ref td) (.ref ll) lg lm);generalize upd H6 d' (.dK (pgF P0.len P0.rest lp lo lv (.ref td) (.ref ll) lg lm))=H7 at s7 q7 k7' ⊢;have k7:=(k5.trans (.of s6)).trans k7';refine⟨_,rfl,_,rfl,sz1 _,fun l2 f2=>?_⟩;have s8:=Zf (o:=.lst [.ref d']) f2;have t8:=Zd (H:=H7) (a:=l2) (o:=.lst [.ref d']);generalize upd H7 l2 (.lst [.ref d'])=H8 at s8 t8 ⊢;refine⟨l,l2,_,_,rfl,rfl,s8 _ _ (s7 _ _ hl),t8,szN (by rw[zu2,zu5];show ds.length+1+1<=1000;omega),fun lr flr=>?_⟩;have er:(ds++[d]).map V.ref++[.ref d']=(ds++[d]++[d']).map V.ref:=by rw[zu9 (l₁:=ds++[d])];rfl
   rw[er];have s9:=s8.trans (Zf (o:=.lst ((ds++[d]++[d']).map V.ref)) flr);have t9:=Zd (H:=H8) (a:=lr) (o:=.lst ((ds++[d]++[d']).map V.ref));generalize upd H8 lr (.lst ((ds++[d]++[d']).map V.ref))=H9 at s9 t9 ⊢;have k9:=k7.trans (.of s9);have t6':=s9 _ _ (k7'.2 _ _ t6);refine h lr d' H9 t9 (fun _=>?_) (s7.trans s9) (s7.free (s8.free flr)) fd';have b:=PB1.keepL k9;rw[ez] at t6';exact .join (P:=Vz P0 (.draw ms)) (s9 _ _ q7) ⟨b.pp,b.oo,b.vv,⟨td,rfl,t6'⟩,⟨ll,ts,rfl,s9 _ _ (s7 _ _ hll),tl.mono fun x xs z=>s9 _ _ (s7 _ _ z),oko _ okl⟩,b.gg,b.mm⟩ (okf _ fd')
 | away i n =>
   have ht:H t=#[a,.tup,[.str "away",.int i,.int n]]:=hD;have ht1:=s1 _ _ ht;have sz3:∀ x y z:V,[x,y,z].length<=sizeLine:=fun x y z=>by show 3<=sizeLine;rw[sizeLine_eq];decide
   refine⟨_,rfl,t,_,_,_,rfl,rfl,SqT.of ht1,rfl,rfl,_,rfl,?_⟩;rw[U9 ⋯];refine iteF (Zx ?_);refine⟨_,rfl,t,_,_,_,rfl,rfl,SqT.of ht1,rfl,rfl,_,rfl,?_⟩;rw[U9 ⋯];refine iteF (Zx ?_);refine⟨_,rfl,t,_,_,_,rfl,rfl,SqT.of ht1,rfl,rfl,_,rfl,?_⟩;rw[U9 ⋯];refine iteF ?_;refine⟨_,rfl,t,_,_,_,rfl,rfl,SqT.of ht1,rfl,rfl,_,rfl,?_⟩;rw[U9 ⋯];refine iteF ?_;obtain⟨pts,p1,p2,p3⟩:=PB1.oo;refine⟨_,rfl,d',_,rfl,DGet.k (k:=.inr "out") q1,_,rfl,t,_,_,_,rfl,rfl,SqT.of ht1,rfl,_,rfl,t,_,_,_,rfl,rfl,SqT.of ht1,rfl,sz2,fun tp ftp=>?_⟩;have s2:=Zf (o:=.tup [.int i,.int n]) ftp;have t2:=Zd (H:=H1) (a:=tp) (o:=.tup [.int i,.int n]);generalize upd H1 tp (.tup [.int i,.int n])=H2 at s2 t2 ⊢;refine⟨sz1 _,fun l1 f1=>?_⟩;have s3:=Zf (o:=.lst [.ref tp]) f1;have t3:=Zd (H:=H2) (a:=l1) (o:=.lst [.ref tp]);generalize upd H2 l1 (.lst [.ref tp])=H3 at s3 t3 ⊢;have s13:=s2.trans s3;refine⟨lo,l1,pts,_,rfl,rfl,s13 _ _ p1,t3,szN (by rw[p2.length,zu2];show _+1<=1000;omega),fun lo' fp'=>?_⟩;have s4:=s13.trans (Zf (o:=.lst (pts++[.ref tp])) fp');have t4:=Zd (H:=H3) (a:=lo') (o:=.lst (pts++[.ref tp]));have t2':=(s3.trans (Zf (o:=.lst (pts++[.ref tp])) fp')) _ _ t2;generalize upd H3 lo' (.lst (pts++[.ref tp]))=H4 at s4 t4 t2' ⊢;refine⟨_,rfl,d',_,rfl,wr (s4 _ _ q1),?_⟩;rw[zhx];have s5:=Z6 (o:=.dK (pgF P0.len P0.rest lp lo' lv dv li lg lm)) fd' (s1.trans s4);have q5:=Zd (H:=H4) (a:=d') (o:=.dK (pgF P0.len P0.rest lp lo' lv dv li lg lm));have k5':=Xi.dict (s4 _ _ q1) (kvs':=pgF P0.len P0.rest lp lo' lv dv li lg lm);generalize upd H4 d' (.dK (pgF P0.len P0.rest lp lo' lv dv li lg lm))=H5 at s5 q5 k5' ⊢;have k5:=(Xi.of s4).trans k5';refine⟨_,rfl,t,_,_,_,rfl,rfl,SqT.of (s5 _ _ ht),rfl,_,rfl,t,_,_,_,rfl,rfl,SqT.of (s5 _ _ ht),rfl,sz3 _ _ _,fun td ftd=>?_⟩;have s6:=Zf (o:=.tup [.str "away",.int n,.int i]) ftd;have t6:=Zd (H:=H5) (a:=td) (o:=.tup [.str "away",.int n,.int i]);generalize upd H5 td (.tup [.str "away",.int n,.int i])=H6 at s6 t6 ⊢;refine⟨_,rfl,d',_,rfl,wr (s6 _ _ q5),?_⟩;rw[Hf];have s7:=Z6 (o:=.dK (pgF P0.len P0.rest lp lo' lv (.ref td) li lg lm)) fd' (s5.trans s6);have q7:=Zd (H:=H6) (a:=d') (o:=.dK (pgF P0.len P0.rest lp lo' lv (.ref td) li lg lm));have k7':=Xi.dict (s6 _ _ q5) (kvs':=pgF P0.len P0.rest lp lo' lv (.ref td) li lg lm);generalize upd H6 d' (.dK (pgF P0.len P0.rest lp lo' lv (.ref td) li lg lm))=H7 at s7 q7 k7' ⊢;have k7:=(k5.trans (.of s6)).trans k7';refine⟨_,rfl,_,rfl,sz1 _,fun l2 f2=>?_⟩;have s8:=Zf (o:=.lst [.ref d']) f2;have t8:=Zd (H:=H7) (a:=l2) (o:=.lst [.ref d']);generalize upd H7 l2 (.lst [.ref d'])=H8 at s8 t8 ⊢;refine⟨l,l2,_,_,rfl,rfl,s8 _ _ (s7 _ _ hl),t8,szN (by rw[zu2,zu5];show ds.length+1+1<=1000;omega),fun lr flr=>?_⟩;have er:(ds++[d]).map V.ref++[.ref d']=(ds++[d]++[d']).map V.ref:=by rw[zu9 (l₁:=ds++[d])];rfl
   rw[er];have s9:=s8.trans (Zf (o:=.lst ((ds++[d]++[d']).map V.ref)) flr);have t9:=Zd (H:=H8) (a:=lr) (o:=.lst ((ds++[d]++[d']).map V.ref));generalize upd H8 lr (.lst ((ds++[d]++[d']).map V.ref))=H9 at s9 t9 ⊢;have k9:=k7.trans (.of s9);have t6':=s9 _ _ (k7'.2 _ _ t6);refine h lr d' H9 t9 (fun _=>?_) (s7.trans s9) (s7.free (s8.free flr)) fd';have b:=PB1.keepL k9;refine .join (P:=Vz P0 (.away i n)) (s9 _ _ q7) ⟨b.pp,⟨_,s9 _ _ (k7'.1 _ _ (s6 _ _ (k5'.1 _ _ t4))),?_,okf _ (s1.free (s13.free fp'))⟩,b.vv,⟨td,rfl,t6'⟩,b.li,b.gg,b.mm⟩ (okf _ fd');unfold Vz;dsimp only;rw[zu9];exact(p2.mono k9.2).snoc (s9 _ _ (k7'.2 _ _ (s6 _ _ (k5'.2 _ _ t2'))))
abbrev Yg:Stmt:=top 77
theorem Y1:Zl ["_law_cell_here","_law_clubs_here","_law_most","_law_mixed","_law_matches_here","_law_many","_law_grades","_law_rest_here","_law_k","_law_home","_law_guest"] ["_law_cell_here","_law_clubs_here","_law_most","_law_mixed"] (Zj Yg):=fnS
@[irreducible] def V9:List Expr:=zd1 (P8 (Xq (Zv Yg) 2))
@[irreducible] def Pm:Pos:=zd2 (P8 (Xq (Zv Yg) 2))
theorem L7:Zv Yg=[Xq (Zv Yg) 0,Xq (Zv Yg) 1,.Assign (zgj (Xq (Zv Yg) 2)) (.List V9 Pm) (stP (Xq (Zv Yg) 2)),Xq (Zv Yg) 3,Xq (Zv Yg) 4,Xq (Zv Yg) 5]:=by unfold V9 Pm;kernel_rfl
theorem L8:I9 V9 [1,2,3,4,5,6,7,8,9,1,1,1,1,2,2,3,3,4]:=by unfold V9;exact⟨by kernel_rfl,by kernel_rfl⟩
theorem G2(F:#[f,"_law_matches","_law_matches",Yg])(T:Tx K mg a)(zn3:Z4 P w K mg base "_law_mix" 1 ["_law_cell_here","_law_k"] zb9):FnOk P w K mg base (CX1 P w) 2 f fd ["_law_cell_here","_law_clubs_here","_law_most","_law_mixed"] (Kt K):=by
 refine #[g,Y1];obtain⟨b,ns,cell,most,mixed,rfl,hb,hl1,hl2,nd,rng,hm1,hmx,h⟩:=h;rw[L7];refine⟨_,(Zb (pS 4 Y1.nd (Ya Zc))
 (Zb (pS 5 Y1.nd (Zm (cL K) (by rfl) T.zmg PySem.boot_len (Za (pv 1) Zc)))
 (Zb (pS 6 Y1.nd (Ya (Py [1,2,3,4,5,6,7,8,9,1,1,1,1,2,2,3,3,4] L8)))
 (Zb (pS 7 Y1.nd (Zu Xj (pv 0) (Zu Yt (pv 2) Zg)))
 (Zb (Ys PassesOwn.leaving rfl (Y3 rfl T.zmx (Za (Zu Yz (pv 0) (Zu Yt (pv 2) Zg)) Zc)) (pN 8 Y1.nd)
  (Zb (pS 9 Y1.nd (Zu Yz (pv 7) (pv 5)))
  (Zb (pS 10 Y1.nd (Zu Yz (Zu Yt (Zu Yt (pv 9) Zg) (Zu Yz (Zu Xj (pv 7) (pv 5)) (Zu Sl (pv 5) Zg))) (pv 5)))
  (Zb (Y4 (pv 4) (Yd (Za (pI (iL K) (pv 1) (pv 9)) (Za (pI (iL K) (pv 1) (pv 10)) (Za (pI (iL K) (pv 6) (Zu Yz (Zu Xj (Zu Xj (pv 7) (pv 5)) (Zu Sl (pv 5) Zg)) Zg)) Zc)))))
  (Ze (pS 7 Y1.nd (pI (iL K) (Ya (Za (Zu Xj (Zu Xj (Zu Xj (pv 7) (pv 5)) (Zu Sl (pv 5) Zg)) Zg) (Za (pF zn3 hr (Za (pv 7) (Za (pv 8) Zc))) Zc))) (pv 3))))))))
 (Ze (Zn (pv 4)))))))),?_⟩
 show let y1:TS:=_;let y2:TS:=tSeq _ y1;let y3:TS:=tSeq _ y2;let y4:TS:=_;let y5:TS:=tSeq (zes _ _ (tSeq _ y3)) y4;let y6:TS:=tSeq _ y5;let y7:TS:=tSeq _ y6;let y8:TS:=tSeq _ y7;tSeq _ y8 _ _ _;intro y1 y2 y3 y4 y5 y6 y7 y8;have sz0:([]:List V).length<=sizeLine:=zvw _;have sz3:∀ x y z:V,[x,y,z].length<=sizeLine:=fun x y z=>by show 3<=sizeLine;rw[sizeLine_eq];decide
 refine⟨sz0,fun r fr=>?_⟩;have s1:=Zf (o:=.lst []) fr;have q1:=Zd (H:=H) (a:=r) (o:=.lst []);walk_at "if";generalize upd H r (.lst [])=H1 at s1 q1 ⊢;refine⟨_,rfl,b,_,rfl,.inl (SqL.of (s1 _ _ hb)),?_⟩;rw[zu2];walk_at "if";refine An [1,2,3,4,5,6,7,8,9,1,1,1,1,2,2,3,3,4] ⋯ fun lg H2 hg s2 fg=>?_;have frg:lg≠r:=(Zh q1 fg).symm;have hc:(0:Int)<(most:Int)+1:=by omega
 refine⟨_,rfl,_,rfl,_,_,rfl,rfl,_,_,rfl,rfl,⟨hc,by omega⟩,?_⟩;walk_at "if";refine⟨_,rfl,_,rfl,_,_,rfl,rfl,_,_,rfl,rfl,hc,_,rfl,?_⟩;have c0:=zv8 cell (show ((most:Int)+1)≠0 by omega);have c1:=zv0 cell hc;have hn0:(0:Int)<(ns.length:Int):=by omega
 have hn1:(0:Int)<(ns.length:Int)-1:=by omega
 let jv4:Nat->L2.St->Hp->Prop:=fun i σ H'=>(∃ v8 v9 v10 R,σ=[some (.int cell),some (.ref b),some (.int most),some (.int mixed),some (.ref r),some (.int ns.length),some (.ref lg),some (.int R),v8,v9,v10])/\(∀ x o,H2 x=some o->x≠r->H' x=some o)/\∃ ts ms,H' r=#[a,.lst,ts]/\Z9 H' ts (ms.map pV)/\ms.length=i/\zbf ms
 refine⟨by omega,by omega,Xu jv4
  ⟨⟨_,_,_,_,rfl⟩,fun _ _ e _=>e,[],[],s2 _ _ q1,.nil,rfl,(fun m z=>nomatch z),(fun m z=>nomatch z)⟩ ?_ ?_⟩
 ·rintro i σ H' hi ⟨⟨v8,v9,v10,R,rfl⟩,k,ts,ms,hr',tl,hml,gm⟩;have hb':=k _ _ (s2 _ _ (s1 _ _ hb)) (Zh hb fr);have hg':=k _ _ hg frg;have e0:=zv8 R (show (ns.length:Int)≠0 by omega);have e1:=zv0 R hn0;have f0:=zv8 (R/(ns.length:Int)) (show (ns.length:Int)-1≠0 by omega);have f1:=zv0 (R/(ns.length:Int)) hn1;have w0:=zv8 (R/(ns.length:Int)/((ns.length:Int)-1)) (show (18:Int)≠0 by omega);have w1:=zv0 (R/(ns.length:Int)/((ns.length:Int)-1)) (show (0:Int)<18 by omega);obtain⟨g0,g1,g2⟩:=zgq e0 e1 (y:=1+R/(ns.length:Int)%((ns.length:Int)-1)) ⋯ ⋯;rw[<- Int.add_assoc] at g0 g1 g2;refine⟨_,rfl,_,rfl,_,_,rfl,rfl,hn0,?_⟩;walk_at "if";refine⟨_,rfl,_,_,rfl,rfl,_,rfl,_,rfl,_,_,rfl,rfl,⟨hn0,by omega⟩,_,rfl,_,_,rfl,rfl,_,_,rfl,rfl,hn1,_,_,rfl,rfl,_,rfl,_,_,rfl,rfl,hn0,?_⟩;walk_at "if";generalize hG:(R%(ns.length:Int)+1+R/(ns.length:Int)%((ns.length:Int)-1))%(ns.length:Int)=gu at g0 g1 g2 ⊢;generalize hHo:R%(ns.length:Int)=ho at e0 e1 g2 ⊢;refine⟨_,rfl,r,_,rfl,hr',?_⟩;have hgr:=Wm (xs:=Ce) w0 (by show _<((18:Nat):Int);omega);have rgr:=zbg (R/(ns.length:Int)/((ns.length:Int)-1)%18).toNat ⋯;generalize hgv:Ce.getD (R/(ns.length:Int)/((ns.length:Int)-1)%18).toNat 0=gv at hgr rgr;have hho:=Wm (xs:=ns) e0 ⋯;have hgu:=Wm (xs:=ns) g0 ⋯;have mho:=Tc (ns:=ns) (i:=ho.toNat) ⋯;have mgu:=Tc (ns:=ns) (i:=gu.toNat) ⋯;have hne:ns.getD ho.toNat 0≠ns.getD gu.toNat 0:=fun z=>by
   have:=zgr nd ⋯ ⋯ z;omega
  generalize ns.getD ho.toNat 0=a1 at hho mho hne;generalize ns.getD gu.toNat 0=a2 at hgu mgu hne;refine⟨_,rfl,_,rfl,b,_,_,_,rfl,rfl,SqL.of hb',hho,_,rfl,_,rfl,b,_,_,_,rfl,rfl,SqL.of hb',hgu,?_⟩;refine⟨_,rfl,_,rfl,_,rfl,_,_,rfl,rfl,⟨hn0,by omega⟩,_,rfl,_,_,rfl,rfl,_,_,rfl,rfl,⟨hn1,by omega⟩,_,_,rfl,rfl,⋯,lg,_,_,_,rfl,rfl,SqL.of hg',hgr,sz3 _ _ _,fun t ft=>?_⟩;have s3:=Zf (o:=.tup [.int a1,.int a2,.int gv]) ft;have q3:=Zd (H:=H') (a:=t) (o:=.tup [.int a1,.int a2,.int gv]);generalize upd H' t (.tup [.int a1,.int a2,.int gv])=H3 at s3 q3 ⊢;have tln:=tl.length;rw[zu2] at tln;refine⟨ts,s3 _ _ hr',szN ⋯,?_⟩;have hi':i<21:=by omega
  have k4:∀ x o,H3 x=some o->x≠r->upd H3 r (.lst (ts++[.ref t])) x=some o:=fun x o e n=>by rw[Zi n];exact e
  have q4:=Zd (H:=H3) (a:=r) (o:=.lst (ts++[.ref t]));have kt4:∀ x ys,H3 x=#[a,.tup,ys]->upd H3 r (.lst (ts++[.ref t])) x=#[a,.tup,ys]:=fun x ys e=>k4 _ _ e (Yw e (s3 _ _ hr') (by intro z;cases z));dsimp only;generalize upd H3 r (.lst (ts++[.ref t]))=H4 at k4 q4 kt4 ⊢;obtain⟨z,hz⟩:=at2 (R/(ns.length:Int)/((ns.length:Int)-1)/18) (zax R (0+(i:Int))) hmx;refine⟨_,rfl,_,rfl,_,_,rfl,rfl,⟨hn0,by omega⟩,_,rfl,_,_,rfl,rfl,_,_,rfl,rfl,⟨hn1,by omega⟩,_,_,rfl,rfl,⟨by omega,by omega⟩,_,rfl,_,rfl,_,_,rfl,sz2,fun l2 f2=>⟨_,rfl,l2,_,_,_,rfl,rfl,SqL.of Zd,hz,?_⟩⟩;have s5:=Zf (o:=.lst [.int (R/(ns.length:Int)/((ns.length:Int)-1)/18),.int (zax R (0+(i:Int)))]) f2;refine⟨⟨_,_,_,_,rfl⟩,fun x o e n=>s5 _ _ (k4 _ _ (s3 _ _ (k _ _ e n)) n),ts++[.ref t],ms++[(a1,a2,gv)],s5 _ _ q4,?_,by rw[zu5,hml];rfl,?_,?_⟩
  ·rw[zu9];exact(tl.mono fun x ys e=>s5 _ _ (kt4 _ _ (s3 _ _ e))).snoc (s5 _ _ (kt4 _ _ q3))
  ·intro m hm;rcases zve.mp hm with hm|hm
   ·exact gm.1 m hm
   ·rw[zu6.mp hm];have:=rng _ mho;have:=rng _ mgu;unfold badM;dsimp only;omega
  ·intro m hm;rcases zve.mp hm with hm|hm
   ·exact gm.2 m hm
   ·rw[zu6.mp hm];exact hne
 ·rintro σ H' ⟨⟨v8,v9,v10,R,rfl⟩,k,ts,ms,hr',tl,hml,gm⟩;refine⟨_,rfl,h r ts ms H' hr' tl ⋯ gm (fun x o e=>k _ _ (s2 _ _ (s1 _ _ e)) (Zh e fr)) fr⟩
abbrev G3:Stmt:=top 78
theorem zej:Zl ["_law_season","_law_deed_here"] ["_law_season","_law_deed_here"] (Zj G3):=fnS
theorem zek(F:#[f,"_law_do","_law_do",G3])(T:Tx K mg a)(zpn:Zs P w K mg base a.zl7 "enrol" 5 ["self","number","grade","club"] (zcp (ca a)))(znu:Zs P w K mg base a.zl7 "away" 7 ["self","at","number"] (za7 (ca a)))(zop:Zs P w K mg base a.zl7 "draw_up" 6 ["self","matches"] (Ab K (ca a)))(zpk:Zs P w K mg base a.zl7 "close" 4 ["self"] (zcq (ca a)))(zm1:Zs P w K mg base a.zl7 "take_back" 2 ["self"] (O9 (ca a))):FnOk P w K mg base (CX1 P w) 8 f fd ["_law_season","_law_deed_here"] (zjz K (ca a)):=by
 refine #[g,zej];obtain⟨A',S,t,d,rfl,SA,hd,gd,co,po,hz,hoz,htot,hl,hol,hln,hsn,hbk,h⟩:=h;refine⟨_,(Zb (Z3 (Zo X8 (pI (iU K) (pv 1) Zg) Zq (Zt _))
  (Ze (Zn (Yo (pv 0) T.zl8 zpn (hr.mono ⋯) Zk (Za (pI (iU K) (pv 1) Zg) (Za (pI (iU K) (pv 1) Zg) (Za (pI (iU K) (pv 1) Zg) Zc))))))
  Zp)
 (Zb (Z3 (Zo X8 (pI (iU K) (pv 1) Zg) Zq (Zt _))
  (Ze (Zn (Yo (pv 0) T.zl8 znu (hr.mono ⋯) Zk (Za (pI (iU K) (pv 1) Zg) (Za (pI (iU K) (pv 1) Zg) Zc)))))
  Zp)
 (Zb (Z3 (Zo X8 (pI (iU K) (pv 1) Zg) Zq (Zt _))
  (Ze (Zn (Yo (pv 0) T.zl8 zop (hr.mono ⋯) Zk (Za (Xm (Xa (K:=K) rfl) (by rfl) T.zno PyProof.Rows.boot_list (Za (pI (iU K) (pv 1) Zg) Zc)) Zc))))
  Zp)
 (Zb (Z3 (Zo X8 (pI (iU K) (pv 1) Zg) Zq (Zt _))
  (Ze (Zn (Yh (pv 0) T.zl8 zpk (hr.mono ⋯) Zk)))
  Zp)
 (Ze (Zn (Yh (pv 0) T.zl8 zm1 (hr.mono ⋯) Zk))))))),?_⟩
 obtain⟨⟨dx,v,a1,a2⟩,_⟩:=id SA;cases d with
 | enrol n g c0 =>
   have ht:H t=#[a,.tup,[.str "enrol",.int n,.int g,.int c0]]:=hd;obtain⟨g1,g2,g3,g4,g5⟩:=gd;have hb:=g3;unfold badI at hb;refine⟨_,rfl,t,_,_,_,rfl,rfl,SqT.of ht,rfl,rfl,_,rfl,?_⟩;rw[He];refine iteT ?_;refine⟨_,rfl,A'.p,dx,_,rfl,a1,Z8 ⋯,_,rfl,t,_,_,_,rfl,rfl,SqT.of ht,rfl,_,rfl,t,_,_,_,rfl,rfl,SqT.of ht,rfl,_,rfl,t,_,_,_,rfl,rfl,SqT.of ht,rfl,A',S,n,g,c0,rfl,SA,⟨Ye ⋯ ⋯,Ye ⋯ ⋯,Ye ⋯ ⋯⟩,by omega,by omega,?_⟩;rw[if_neg ⋯,if_neg (by rw[g2];decide),if_neg g3,if_neg g4,if_neg ⋯,if_neg ⋯];exact fun H' SA' f'=>h .non A' _ H' (.enrol n g c0) SA' (.refl A' H) f' (fun l z=>nomatch z)
 | away i n =>
   have ht:H t=#[a,.tup,[.str "away",.int i,.int n]]:=hd;obtain⟨g1,g2,g3,g4⟩:=gd;refine⟨_,rfl,t,_,_,_,rfl,rfl,SqT.of ht,rfl,rfl,_,rfl,?_⟩;rw[U9 ⋯];refine iteF (Zx ?_);refine⟨_,rfl,t,_,_,_,rfl,rfl,SqT.of ht,rfl,rfl,_,rfl,?_⟩;rw[He];refine iteT ?_;have si:Yl i:=Ye ⋯ ⋯;refine⟨_,rfl,A'.p,dx,_,rfl,a1,Z8 ⋯,_,rfl,t,_,_,_,rfl,rfl,SqT.of ht,rfl,_,rfl,t,_,_,_,rfl,rfl,SqT.of ht,rfl,A',S,i,n,rfl,SA,si,hsn i n rfl,by omega,hoz,po,fun s hs=>?_,?_⟩
   ·obtain⟨c1,c2,c3,c4,c5⟩:=co s hs;exact⟨c1,c2,c4,by omega⟩
   rw[if_neg ⋯,if_neg ⋯,if_pos g3,if_neg g4,if_neg ⋯];refine⟨fun hc l H' hl' SA' f' fl=>h _ A' _ H' (.awayN hc hl') SA' (.refl A' H) f' (fun l2 z _=>by cases z;exact fl),fun s hi hs hp l H' hl' SA' f' fl=>?_,fun s p hi hs hp l us st e w' H' hl' tl CR SA' f' fl=>?_⟩
   ·subst hi;exact h _ A' _ H' (.awayF hs hp hl') SA' (.refl A' H) f' (fun l2 z _=>by cases z;exact fl)
   ·subst hi;exact h _ A' _ H' (.awayC hs hp hl' tl CR) SA' (.refl A' H) f' (fun l2 z _=>by cases z;exact fl)
 | draw ms =>
   obtain⟨l0,ts,ht,hl0,tl,okl⟩:∃ l ts,H t=#[a,.tup,[.str "draw up",.ref l]]/\H l=#[a,.lst,ts]/\Z9 H ts (ms.map pV)/\l∉A'.fp:=hd;obtain⟨g1,g2,g3,g4,g5⟩:=gd;refine⟨_,rfl,t,_,_,_,rfl,rfl,SqT.of ht,rfl,rfl,_,rfl,?_⟩;rw[U9 ⋯];refine iteF (Zx ?_);refine⟨_,rfl,t,_,_,_,rfl,rfl,SqT.of ht,rfl,rfl,_,rfl,?_⟩;rw[U9 ⋯];refine iteF (Zx ?_);refine⟨_,rfl,t,_,_,_,rfl,rfl,SqT.of ht,rfl,rfl,_,rfl,?_⟩;rw[He];refine iteT ?_;refine⟨_,rfl,A'.p,dx,_,rfl,a1,Z8 ⋯,_,rfl,t,_,_,_,rfl,rfl,SqT.of ht,rfl,l0,ts,rfl,.inl (SqL.of hl0),fun l1 hl1=>?_⟩;have s1:=Zf (o:=.lst ts) hl1;have q1:upd H l1 (.lst ts) l1=#[a,.lst,ts]:=Zd;generalize upd H l1 (.lst ts)=H1 at s1 q1;have nb:¬ R0 ms:=fun ⟨m,hm,hb⟩=>g4 m hm hb;have ns:¬ R1 ms:=fun ⟨m,hm,hb⟩=>g5 m hm hb;refine⟨A',S,l1,ts,ms,rfl,SA.same s1,SqL.of q1,tl.same s1,fun m hm=>?_,by omega,by omega,po,?_⟩
   ·have:=g4 m hm;unfold badM at this;exact⟨Ye ⋯ ⋯,Ye ⋯ ⋯,Ye ⋯ ⋯⟩
   rw[if_neg ⋯,if_neg (by rw[g2];decide)];refine⟨fun z=>absurd z ⋯,fun _ z=>absurd z nb,fun _ _ z=>absurd z ns,fun _ _ _=>⟨fun z=>absurd z ⋯,fun _ l gv H' hl' SA' FP SP f' fl=>?_⟩⟩;exact h _ A' _ H' (.draw hl' FP SP) SA' (.refl A' H) ((FrS.of A' s1).trans f') (fun l2 z _=>by cases z;exact s1.free fl)
 | close =>
   have ht:H t=#[a,.tup,[.str "close"]]:=hd;obtain⟨g1,g2⟩:=gd;refine⟨_,rfl,t,_,_,_,rfl,rfl,SqT.of ht,rfl,rfl,_,rfl,?_⟩;rw[U9 ⋯];refine iteF (Zx ?_);refine⟨_,rfl,t,_,_,_,rfl,rfl,SqT.of ht,rfl,rfl,_,rfl,?_⟩;rw[U9 ⋯];refine iteF (Zx ?_);refine⟨_,rfl,t,_,_,_,rfl,rfl,SqT.of ht,rfl,rfl,_,rfl,?_⟩;rw[U9 ⋯];refine iteF (Zx ?_);refine⟨_,rfl,t,_,_,_,rfl,rfl,SqT.of ht,rfl,rfl,_,rfl,?_⟩;rw[He];refine iteT ?_;refine⟨_,rfl,A'.p,dx,_,rfl,a1,Z8 ⋯,A',S,rfl,SA,htot,hl,hol,fun s hs=>?_,?_⟩
   ·obtain⟨c1,c2,c3,c4,c5⟩:=co s hs;refine⟨c2.one,?_,by omega⟩;rw[c2.len,c4];unfold mayS;rw[zu2]
   rw[if_neg ⋯];exact⟨fun z=>absurd z g2,fun s x H' hs SA' f' fx=>h _ { A' with lt:=x } _ H' (.close hs) SA' ⟨x,rfl,.inr fx⟩ f' (fun l2 z=>nomatch z)⟩
 | back =>
   have ht:H t=#[a,.tup,[.str "take back"]]:=hd;refine⟨_,rfl,t,_,_,_,rfl,rfl,SqT.of ht,rfl,rfl,_,rfl,?_⟩;rw[U9 ⋯];refine iteF (Zx ?_);refine⟨_,rfl,t,_,_,_,rfl,rfl,SqT.of ht,rfl,rfl,_,rfl,?_⟩;rw[U9 ⋯];refine iteF (Zx ?_);refine⟨_,rfl,t,_,_,_,rfl,rfl,SqT.of ht,rfl,rfl,_,rfl,?_⟩;rw[U9 ⋯];refine iteF (Zx ?_);refine⟨_,rfl,t,_,_,_,rfl,rfl,SqT.of ht,rfl,rfl,_,rfl,?_⟩;rw[U9 ⋯];refine iteF (Zx ?_);obtain⟨S0,hs0⟩:=hbk rfl;obtain⟨d0,e1,e2,e3,e4,e5,e6⟩:=id hs0;refine⟨_,rfl,A'.p,dx,_,rfl,a1,Z8 ⋯,A',S,rfl,SA,fun z=>absurd z gd,fun std d s he=>?_⟩;rw[e1] at he;obtain⟨he1,he2⟩:=List.append_inj' he rfl;have he2:(d0,S0.cur)=(d,s):=by simpa using he2
   cases he2;subst he1;refine⟨S0.ppl,S0.out,e2,fun t' H' ht' SA' f'=>?_⟩;have eS:{ S with ppl:=S0.ppl,out:=S0.out,cur:=S0.cur,std:=S0.std }=S0:=by
    cases S;cases S0;simp only at e3 e4 e5 e6 ⊢;subst e3 e4 e5 e6;rfl
   rw[eS] at SA';exact h _ A' S0 H' (.back e1 ht' hs0) SA' (.refl A' H) f' (fun l2 z hx=>by cases z;obtain⟨xs,hx⟩:=hx;rw[ht'] at hx;cases hx)
abbrev Nu:Stmt:=top 79
theorem Y5:Zl ["_law_pages","_law_cell_here","_law_pool_here","_law_most","_law_mixed","_law_clubs_here","_law_numbers_here","_law_page","_law_at_here","_law_kind","_law_rest_here","_law_day","_law_here","_law_known","_law_fresh","_law_club"] ["_law_pages","_law_cell_here","_law_pool_here","_law_most","_law_mixed"] (Zj Nu):=fnS
theorem A6(F:#[f,"_law_deed","_law_deed",Nu])(T:Tx K mg a)(zp1:Z4 P w K mg base "_law_matches" 2 ["_law_cell_here","_law_clubs_here","_law_most","_law_mixed"] (Kt K)):FnOk P w K mg base (CX1 P w) 3 f fd ["_law_pages","_law_cell_here","_law_pool_here","_law_most","_law_mixed"] (As K):=by
 refine #[g,Y5];obtain⟨ok,l,t,lc,ln,ds,d,P0,cell,cs,nu,most,mixed,rfl,hl,PA,PL,hm1,hmx,hov,hpp,h⟩:=h;have hu:=Wq hr;refine⟨_,(Zb (Oo (pv 2) (Xy (K:=K) (n:=2) rfl rfl (Zw (pN 5 Y5.nd) (Zw (pN 6 Y5.nd) Xx))))
 (Zb (pS 7 Y5.nd (pI (iL K) (pv 0) (Ka Qw Zg)))
 (Zb (pS 8 Y5.nd (Zu Yt (Zm (cL K) (by rfl) T.zmg PySem.boot_len (Za (pD hu (pv 7) Zq) Zc)) Zg))
 (Zb (pS 9 Y5.nd (Zu Yz (pv 1) Zg))
 (Zb (pS 10 Y5.nd (Zu Xj (pv 1) Zg))
 (Zb (Z3 (PW.pt (Om (Zo X8 (pv 9) Zg (Zt _)) (Rr (Zo T8 (Zm (cL K) (by rfl) T.zmg PySem.boot_len (Za (pv 0) Zc)) Zg (Zt _)))))
  (Ze (Zn (Yd (Za Zq Zc))))
  Zp)
 (Zb (pS 11 Y5.nd (Zm (Ee rfl) (by rfl) T.zsf PyProof.Rows.boot_min (Za (pD hu (pv 7) Zq) (Za (Zu Yt (pv 8) (pI (iL K) (Ya (Za Zg (Za (Zu Yt Zg (Zu Yz (Zu Xj (pv 10) Zg) Zg)) Zc))) (Xm zc1 (by rfl) T.zsg PyProof.Rows.boot_int (Za (U5 X8 (pv 9) Zg (Zt _)) Zc)))) Zc))))
 (Zb (Vp (i:=12) Y5.nd rfl rfl rfl (cT ["_law_day","_law_page"] [11,7]) (Yc (K:=K) rfl (pD hu (pv 7) Zq)) (fun _ _ _ _ _=>Sa (Zo (K4 (K:=K) rfl hr.units) (Yd (Za (pv 1) (Za (pI (iU K) (pv 0) Zg) Zc))) (pD hu (pv 2) Zq) (by with_unfolding_all rfl))) (fun _ _ _ _ _=>(pI (iU K) (pv 0) Zg)))
 (Zb (Z3 (PW.pt (Om (Zo (zb8 (K:=K) rfl hr.units) (pv 12) (Ya Zc) (Zt _)) (Rr (PW.pt (Wk (Zo T8 (pv 9) Zg (Zt _)) (Xs (PW.pt (Om (Zo T8 (pv 9) Zg (Zt _)) (Rr (Zo Ur (pD hu (pv 7) Zq) Yx (Zt _)))))))))))
  (Ze (Zn (Yd (Za Zq (Za (pv 11) (Za (pI (iL K) (pv 12) (Zu Yz (pv 10) (Zm (cL K) (by rfl) T.zmg PySem.boot_len (Za (pv 12) Zc)))) Zc))))))
  Zp)
 (Zb (Z3 (Zo Ur (pD hu (pv 7) Zq) Yx (Zt _))
  (Ze (Zn (Yd (Za Zq Zc))))
  Zp)
 (Zb (pS 13 Y5.nd (W7 rfl (cT [] []) (Yc (K:=K) rfl (pD hu (pv 7) Zq)) (fun _ _ _ _ _=>W8) (fun _ _ _ _ _=>(pI (iU K) (pv 0) Zg))))
 (Zb (Vp (i:=14) Y5.nd rfl rfl rfl (cT ["_law_known"] [13]) (Yc (K:=K) rfl (pv 6)) (fun _ _ _ _ _=>Sa (Zo (Of (K:=K) rfl) (pv 0) (pv 1) (by with_unfolding_all rfl))) (fun _ _ _ _ _=>(pv 0)))
 (Zb (Z3 (PW.pt (Om (Zo X8 (pv 9) Zg (Zt _)) (Rr (Zo (zb8 (K:=K) rfl hr.units) (pv 14) (Ya Zc) (Zt _)))))
  (Zb (pS 15 Y5.nd (pI (iL K) (pv 5) (Zu Yz (Zu Xj (pv 10) Zg) (Zm (cL K) (by rfl) T.zmg PySem.boot_len (Za (pv 5) Zc)))))
  (Ze (Zn (Yd (Za Zq (Za (pI (iL K) (pv 14) (Zu Yz (pv 10) (Zm (cL K) (by rfl) T.zmg PySem.boot_len (Za (pv 14) Zc)))) (Za (Zu Yt Zg (Zu Yz (Zu Xj (pv 10) Zg) Zg)) (Za (pv 15) Zc))))))))
  Zp)
 (Ze (Zn (Yd (Za Zq (Za (pF zp1 hr (Za (pv 10) (Za (pv 5) (Za (pv 3) (Za (pv 4) Zc))))) Zc)))))))))))))))))),?_⟩
 show let y1:TS:=_;let y2:TS:=tSeq _ y1;let y3:TS:=tSeq _ y2;let y4:TS:=tSeq _ y3;let y5:TS:=tSeq _ y4;let y6:TS:=tSeq _ y5;let y7:TS:=tSeq _ y6;let y8:TS:=tSeq _ y7;let y9:TS:=tSeq _ y8;let y10:TS:=tSeq _ y9;let y11:TS:=tSeq _ y10;let y12:TS:=tSeq _ y11;let y13:TS:=tSeq _ y12;tSeq _ y13 _ _ _;intro y1 y2 y3 y4 y5 y6 y7 y8 y9 y10 y11 y12 y13;have sz0:([]:List V).length<=sizeLine:=zvw _;obtain⟨lp,lo,lv,dv,li,lg,lm,a1,PB,okd⟩:=id PA.split;have hat:atI ((ds++[d]).map V.ref) (-1)=#[a,V.ref,d]:=by rw[zu9];exact L2.atI_last _ _
 obtain⟨vts,v1,v2,v3⟩:=PB.vv;refine⟨_,rfl,t,_,rfl,SqT.of PL.tup,rfl,_,_,rfl,_,_,rfl,rfl,?_⟩;walk_at "if";refine⟨_,rfl,_,rfl,l,_,_,_,rfl,rfl,SqL.of hl,hat,?_⟩;walk_at "if";refine⟨_,rfl,d,_,rfl,DGet.k (k:=.inr "over") a1,lv,vts,rfl,.inl (SqL.of v1),_,_,rfl,rfl,?_⟩;rw[v2.length];walk_at "if";refine⟨_,rfl,_,_,rfl,rfl,⋯,?_⟩;walk_at "if";refine⟨_,rfl,_,_,rfl,rfl,⟨by omega,by omega⟩,?_⟩;walk_at "if";obtain⟨kd,hkd⟩:∃ kd,kd=cell%8:=⟨_,rfl⟩;obtain⟨R,hR⟩:∃ R,R=cell/8:=⟨_,rfl⟩;rw[<- hkd,<- hR];show tSeq _ _ _ [#[c,l],#[e,cell],#[c,t],#[e,most],#[e,mixed],#[c,lc],#[c,ln],#[c,d],#[e,(P0.over.length:Int)+1],#[e,kd],#[e,R],none,none,none,none,none] H;have hdl:((((ds++[d]).map V.ref).length:Nat):Int)=(ds.length:Int)+1:=by rw[zu2,zu5];rfl
 have tup1:∀ (w:Str),([V.str w]).length<=sizeLine:=fun w=>by show 1<=sizeLine;rw[sizeLine_eq];decide
 refine Ue (Vb (b:=decide (V.int kd=V.int 7)&&decide (1<(ds.length:Int)+1)) (Et (fun Q q=>⟨_,rfl,rfl,_,rfl,q⟩) fun Q q=>⟨_,rfl,l,_,rfl,.inl (SqL.of hl),_,_,rfl,rfl,_,rfl,by rw[hdl];exact q⟩) (itB (fun hb=>?_) fun _=>Zx ?_))
 ·refine⟨tup1 _,fun tt ft=>?_⟩;refine h tt .back _ (show upd H tt _ tt=_ from Zd) ?_ (Zf ft) ft;rw[zwm,decide_eq_true_eq,decide_eq_true_eq] at hb;intro z;rw[z] at hb;have:=hb.2;simp at this
 refine⟨_,rfl,d,_,rfl,DGet.k (k:=.inr "rounds") a1,_,rfl,_,rfl,_,_,rfl,rfl,⟨by omega,by omega⟩,_,_,rfl,rfl,⋯,_,_,rfl,rfl,sz2,fun l2 f2=>?_⟩;have s2:=Zf (o:=.lst [.int 0,.int (1+R/60%3)]) f2;have q2:=Zd (H:=H) (a:=l2) (o:=.lst [.int 0,.int (1+R/60%3)]);generalize upd H l2 (.lst [.int 0,.int (1+R/60%3)])=H2 at s2 q2 ⊢;obtain⟨z,hz,hz0⟩:∃ z:Int,atI [V.int 0,V.int (1+R/60%3)] (if decide (V.int kd=V.int 6)=true then 1 else 0)=#[e,z]/\0<=z:=by
  cases decide (V.int kd=V.int 6) with
  | true=>exact⟨_,rfl,by omega⟩
  | false=>exact⟨0,rfl,by omega⟩
 refine⟨_,rfl,rfl,.inr ⟨_,rfl,l2,_,_,_,rfl,rfl,SqL.of q2,hz,_,_,rfl,rfl,_,_,rfl,?_⟩⟩;obtain⟨day,hday,hd1,hd2⟩:∃ day:Int,(if ((P0.over.length:Int)+1+z)<(P0.len:Int) then ((P0.over.length:Int)+1+z) else (P0.len:Int))=day/\(P0.over.length:Int)<day/\day<=P0.len:=⟨_,rfl,by split<;>omega,by split<;>omega⟩;rw[hday];walk_at "if";obtain⟨pts,p1,p2,p3⟩:=PB.pp;obtain⟨ots,o1,o2,o3⟩:=PB.oo;have hpl:pts.length=P0.ppl.length:=by rw[p2.length,zu2]
 have hls:=PB.li.some;refine⟨_,rfl,d,_,rfl,DGet.k (k:=.inr "people") (s2 _ _ a1),lp,rfl,⟨_,SqL.of (s2 _ _ p1)⟩,Wn (K:=K) (a:=lp) (xs:=pts) (fun i ys H'=>Same H2 H'/\ys=(((P0.ppl.take i).filter fun x=>!decide ((day,x.1)∈P0.out)).map (·.1)).map V.int) ⟨Same.refl _,rfl⟩ (fun i ys H' _ ⟨z,_⟩=>SqL.of (z _ _ (s2 _ _ p1))) (szN ⋯) (fun i ys H' ⟨_,e⟩=>by rw[e,zu2,zu2];exact zvh (zvz _ _) (zwq _ _)) ?_ ?_⟩
 ·rintro j x ys H3 hx3 ⟨s3,rfl⟩;obtain⟨tp,pp,rfl,hpp',htp⟩:=K2 p2 hx3;have sh3:=s2.trans s3;refine⟨_,rfl,_,rfl,tp,_,_,_,rfl,rfl,SqT.of (sh3 _ _ htp),show atI (pV pp) 0=some _ from rfl,sz2,fun t3 f3=>?_⟩;have s4:=Zf (o:=.tup [.int day,.int pp.1]) f3;have q4:=Zd (H:=H3) (a:=t3) (o:=.tup [.int day,.int pp.1]);generalize upd H3 t3 (.tup [.int day,.int pp.1])=H4 at s4 q4 ⊢;have sh4:=sh3.trans s4;refine⟨_,rfl,d,_,rfl,DGet.k (k:=.inr "out") (sh4 _ _ a1),t3,lo,ots,_,_,P0.out,rfl,rfl,SqT.of q4,SqL.of (sh4 _ _ o1),o2.same sh4,_,rfl,?_⟩;rw[if_pos rfl,Xv hpp',zwi,zu9,zu9];refine itB (fun hb=>?_) fun hb=>?_
  ·refine⟨_,rfl,tp,_,_,_,rfl,rfl,SqT.of (sh4 _ _ htp),show atI (pV pp) 0=some _ from rfl,s3.trans s4,?_⟩;rw[zwj (p:=fun x:P3=>!decide ((day,x.1)∈P0.out)) (a:=pp) hb,zw3];rfl
  ·refine⟨s3.trans s4,?_⟩;rw[zwk (p:=fun x:P3=>!decide ((day,x.1)∈P0.out)) (a:=pp) (by rw[hb];decide),zw3];simp
 rintro ys H3 ⟨s3,rfl⟩ lh flh;rw[hpl,zvk];obtain⟨he,hhe⟩:∃ he,he=(P0.ppl.filter fun x=>!decide ((day,x.1)∈P0.out)).map (·.1):=⟨_,rfl⟩;rw[<- hhe];have hel:he.length<=100:=by rw[hhe,zu2];exact zvh (zvz _ _) hpp
 have hem:∀ n∈he,n∈P0.ppl.map (·.1)/\(day,n)∉P0.out:=fun n hn=>by
  rw[hhe] at hn;obtain⟨x,hx,rfl⟩:=zvb.mp hn;obtain⟨hx1,hx2⟩:=zv3.mp hx;exact⟨zvb.mpr ⟨x,hx1,rfl⟩,by simpa using hx2⟩
 have s4:=(s2.trans s3).trans (Zf (o:=.lst (he.map V.int)) flh);have q4:=Zd (H:=H3) (a:=lh) (o:=.lst (he.map V.int));show Wl 12 (V.ref lh) _ (upd H3 lh (.lst (he.map V.int))) _;generalize upd H3 lh (.lst (he.map V.int))=H4 at s4 q4 ⊢;walk_at "if";refine Ue (Br (b:=!he.isEmpty&&(decide (3<kd)||(decide (0<kd)&&P0.lis.isSome))) (Df (Kv rfl q4) fun H5 s5=>Rw (Vu (fun Q q=>⟨_,rfl,_,_,rfl,rfl,_,rfl,q⟩) (Et (fun Q q=>⟨_,rfl,_,_,rfl,rfl,_,rfl,q⟩) fun Q q=>⟨_,rfl,d,_,rfl,DGet.k (k:=.inr "listed") (s5 _ _ (s4 _ _ a1)),rfl,_,rfl,by rw[hls];exact q⟩))) fun H5 s5=>itB (fun hb=>?_) fun _=>Zx ?_)
 ·rw[zwm] at hb;have hne:he.length≠0:=by have:=hb.1;intro z;rw[zwl.mp z] at this;exact absurd this ⋯
  have hpos:(0:Int)<(he.length:Int):=by omega
  have y0:=zv8 R (show (he.length:Int)≠0 by omega);have y1:=zv0 R hpos;have hix:=Wm (xs:=he) y0 ⋯;have mix:=Tc (ns:=he) (i:=(R%(he.length:Int)).toNat) ⋯;generalize he.getD (R%(he.length:Int)).toNat 0=n at hix mix;refine⟨_,rfl,_,rfl,_,rfl,_,rfl,lh,_,rfl,.inl (SqL.of (s5 _ _ q4)),?_⟩;rw[zu2];refine⟨_,_,rfl,rfl,hpos,lh,_,_,_,rfl,rfl,SqL.of (s5 _ _ q4),hix,(by show 3<=sizeLine;rw[sizeLine_eq];decide),fun tt ft=>?_⟩;exact h tt (.away day n) _ (show upd H5 tt _ tt=_ from Zd) ⟨hd1,hd2,(hem n mix).1,(hem n mix).2⟩ ((s4.trans s5).trans (Zf ft)) ((s4.trans s5).free ft)
 have s05:=s4.trans s5;dsimp only;refine Ue (Vb (b:=P0.lis.isSome) (fun Q q=>⟨_,rfl,d,_,rfl,DGet.k (k:=.inr "listed") (s05 _ _ a1),rfl,_,rfl,by rw[hls];exact q⟩) (itB (fun hb=>?_) fun hb=>Zx ?_))
 ·refine⟨tup1 _,fun tt ft=>?_⟩;exact h tt .close _ (show upd H5 tt _ tt=_ from Zd) (fun z=>by rw[z] at hb;cases hb) (s05.trans (Zf ft)) (s05.free ft)
 have hno:P0.lis=none:=by
  cases hq:P0.lis with
  | none=>rfl
  | some ms=>rw[hq] at hb;cases hb
 dsimp only;have nul:=PL.nfew;have csl:=PL.few;refine⟨_,rfl,d,_,rfl,DGet.k (k:=.inr "people") (s05 _ _ a1),lp,rfl,⟨_,SqL.of (s05 _ _ p1)⟩,Wn (K:=K) (a:=lp) (xs:=pts) (fun i ys H'=>Same H5 H'/\ys=((P0.ppl.take i).map (·.1)).map V.int) ⟨Same.refl _,rfl⟩ (fun i ys H' _ ⟨z,_⟩=>SqL.of (z _ _ (s05 _ _ p1))) (szN ⋯) (fun i ys H' ⟨_,e⟩=>by rw[e,zu2,zu2];exact zwq _ _) ?_ ?_⟩
 ·rintro j x ys H6 hx6 ⟨s6,rfl⟩;obtain⟨tp,pp,rfl,hpp',htp⟩:=K2 p2 hx6;unfold tYes;dsimp only;rw[if_pos rfl];refine⟨_,rfl,tp,_,_,_,rfl,rfl,SqT.of (s6 _ _ (s05 _ _ htp)),show atI (pV pp) 0=some _ from rfl,s6,?_⟩;rw[Xv hpp',zu9,zu9];rfl
 rintro ys H6 ⟨s6,rfl⟩ lk flk;rw[hpl,zvk];obtain⟨kn,hkn⟩:∃ kn,kn=P0.ppl.map (·.1):=⟨_,rfl⟩;rw[<- hkn];have s7:=(s05.trans s6).trans (Zf (o:=.lst (kn.map V.int)) flk);have q7:=Zd (H:=H6) (a:=lk) (o:=.lst (kn.map V.int));show Wl 13 (V.ref lk) _ (upd H6 lk (.lst (kn.map V.int))) _;generalize upd H6 lk (.lst (kn.map V.int))=H7 at s7 q7 ⊢;walk_at "if";refine⟨_,rfl,ln,rfl,⟨_,SqL.of (s7 _ _ PL.nums)⟩,Wn (K:=K) (a:=ln) (xs:=nu.map V.int) (fun i ys H'=>H'=H7/\ys=((nu.take i).filter fun n=>!decide (n∈kn)).map V.int) ⟨rfl,rfl⟩ (fun i ys H' _ ⟨z,_⟩=>by rw[z];exact SqL.of (s7 _ _ PL.nums)) (szN (by rw[zu2];omega)) (fun i ys H' ⟨_,e⟩=>by rw[e,zu2];exact zvh (zvz _ _) (zwq _ _)) ?_ ?_⟩
 ·rintro j x ys H8 hx8 ⟨rfl,rfl⟩;rw[zu8] at hx8;obtain⟨n,hn,rfl⟩:=zw1.mp hx8;refine⟨_,rfl,_,rfl,lk,_,rfl,.inl (SqL.of q7),rfl,(zw8.mpr fun y hy=>by obtain⟨i,_,rfl⟩:=zvb.mp hy;rfl),_,rfl,?_⟩;rw[if_pos rfl,Dy,Xv hn,zwi,zu9];refine itB (fun hb=>?_) fun hb=>?_
  ·refine⟨_,rfl,rfl,?_⟩;rw[zwj (p:=fun n:Int=>!decide (n∈kn)) (a:=n) hb,zw3];rfl
  ·refine⟨rfl,?_⟩;rw[zwk (p:=fun n:Int=>!decide (n∈kn)) (a:=n) (by rw[hb];decide),zw3];simp
 rintro ys H8 ⟨rfl,rfl⟩ lf flf;rw[zu2,zvk];obtain⟨fs,hfs⟩:∃ fs,fs=nu.filter fun n=>!decide (n∈kn):=⟨_,rfl⟩;rw[<- hfs];have hfm:∀ n∈fs,n∈nu/\n∉P0.ppl.map (·.1):=fun n hn=>by
  rw[hfs] at hn;obtain⟨hx1,hx2⟩:=zv3.mp hn;exact⟨hx1,by rw[<- hkn];simpa using hx2⟩
 have hfl:fs.length<=100:=by rw[hfs];exact zvh (zvz _ _) ⋯
 have s9:=s7.trans (Zf (o:=.lst (fs.map V.int)) flf);have q9:=Zd (H:=H8) (a:=lf) (o:=.lst (fs.map V.int));show Wl 14 (V.ref lf) _ (upd H8 lf (.lst (fs.map V.int))) _;generalize upd H8 lf (.lst (fs.map V.int))=H9 at s9 q9 ⊢;walk_at "if";refine Ue (Br (b:=decide (V.int kd=V.int 3) && !fs.isEmpty) (Df (Rw fun Q q=>⟨_,rfl,rfl,_,rfl,q⟩) fun H10 s10=>Kv rfl (s10 _ _ q9)) fun H10 s10=>itB (fun hb=>?_) fun _=>Zx ?_)
 ·rw[zwm] at hb;have hne:fs.length≠0:=by have:=hb.2;intro z;rw[zwl.mp z] at this;exact absurd this ⋯
  have hpos:(0:Int)<(fs.length:Int):=by omega
  have y0:=zv8 R (show (fs.length:Int)≠0 by omega);have y1:=zv0 R hpos;have hix:=Wm (xs:=fs) y0 ⋯;have mix:=Tc (ns:=fs) (i:=(R%(fs.length:Int)).toNat) ⋯;generalize fs.getD (R%(fs.length:Int)).toNat 0=n at hix mix;have hcl:(0:Int)<(cs.length:Int):=by omega
  have w0:=zv8 (R/360) (show (cs.length:Int)≠0 by omega);have w1:=zv0 (R/360) hcl;have hcs:=Wm (xs:=cs) w0 ⋯;have mcs:=Tc (ns:=cs) (i:=(R/360%(cs.length:Int)).toNat) ⋯;generalize cs.getD (R/360%(cs.length:Int)).toNat 0=c at hcs mcs;have s010:=s9.trans s10;refine⟨_,rfl,_,rfl,_,_,rfl,rfl,⟨by omega,by omega⟩,_,rfl,lc,_,rfl,.inl (SqL.of (s010 _ _ PL.clubs)),?_⟩;rw[zu2];refine⟨_,_,rfl,rfl,hcl,lc,_,_,_,rfl,rfl,SqL.of (s010 _ _ PL.clubs),hcs,?_⟩;walk_at "if";refine⟨_,rfl,_,rfl,_,rfl,lf,_,rfl,.inl (SqL.of (s10 _ _ q9)),?_⟩;rw[zu2];refine⟨_,_,rfl,rfl,hpos,lf,_,_,_,rfl,rfl,SqL.of (s10 _ _ q9),hix,_,rfl,_,_,rfl,rfl,⟨by omega,by omega⟩,_,_,rfl,rfl,⋯,_,_,rfl,rfl,_,rfl,(by show 4<=sizeLine;rw[sizeLine_eq];decide),fun tt ft=>?_⟩;exact h tt (.enrol n (1+R/40%9) c) _ (show upd H10 tt _ tt=_ from Zd) ⟨hno,(hfm n mix).1,(hfm n mix).2,by omega,by omega,mcs⟩ (s010.trans (Zf ft)) (s010.free ft)
 have s010:=s9.trans s10;dsimp only;refine⟨_,rfl,_,rfl,_,rfl,_,rfl,lc,cs,R,most,mixed,rfl,s010 _ _ PL.clubs,by omega,by omega,PL.cnd,PL.crng,hm1,hmx,fun lm' ts ms H11 hlm tl hml gm s11 flm=>⟨sz2,fun tt ft=>?_⟩⟩;have s12:=Zf (o:=.tup [.str "draw up",.ref lm']) ft;exact h tt (.draw ms) _ ⟨lm',ts,Zd,s12 _ _ hlm,tl.same s12,s010.free flm⟩ ⟨hno,hml,gm⟩ ((s010.trans s11).trans s12) ((s010.trans s11).free ft)
abbrev Xp:Stmt:=top 80
theorem Ky:Zl ["_law_script","_law_crowd","_law_many"] ["_law_script","_law_crowd"] (Zj Xp):=fnS
@[irreducible] def Si:List Expr:=zd1 (Al (P8 (Xq (Zv Xp) 0)))
@[irreducible] def Kz:Pos:=zd2 (Al (P8 (Xq (Zv Xp) 0)))
theorem F5:Zv Xp=[.Assign (zgj (Xq (Zv Xp) 0)) (.Subscript (.List Si Kz) (zhv (P8 (Xq (Zv Xp) 0))) (zhw (P8 (Xq (Zv Xp) 0)))) (stP (Xq (Zv Xp) 0)),Xq (Zv Xp) 1]:=by unfold Si Kz;kernel_rfl
theorem F6:I9 Si [4,3,5,4,6,10,4,8]:=by unfold Si;exact⟨by kernel_rfl,by kernel_rfl⟩
theorem A7(F:#[f,"_law_pool","_law_pool",Xp])(T:Tx K mg a)(zmr:Z4 P w K mg base "_law_at" 1 ["_law_script","_law_k"] (zdg K))(zqj:Z4 P w K mg base "_law_clubs" 1 ["_law_cell_here","_law_many"] zca)(zpy:Z4 P w K mg base "_law_numbers" 1 ["_law_cell_here","_law_many"] Ig):FnOk P w K mg base (CX1 P w) 2 f fd ["_law_script","_law_crowd"] (Ah K):=by
 refine #[g,Ky];obtain⟨b,ns,cr,rfl,hS,hc1,hc2,h⟩:=h;rw[F5];refine⟨_,(Zb (pS 2 Ky.nd (pI (iL K) (Ya (Py [4,3,5,4,6,10,4,8] F6)) (Zu Yz (Zu Xj (pF zmr hr (Za (pv 0) (Za Zg Zc))) Zg) Zg)))
 (Ze (Zn (Yd (Za (pF zqj hr (Za (pF zmr hr (Za (pv 0) (Za Zg Zc))) (Za (pv 2) Zc))) (Za (pF zpy hr (Za (pF zmr hr (Za (pv 0) (Za Zg Zc))) (Za (pv 1) Zc))) Zc)))))),?_⟩
 refine zj1 [4,3,5,4,6,10,4,8] ⋯ fun l H1 q1 s1 fl=>?_;have h0:=zv8 (X5 ns 0/4) (show (8:Int)≠0 by decide);have h1:=zv0 (X5 ns 0/4) (show (0:Int)<8 by decide);refine⟨_,rfl,b,ns,0,rfl,s1.seq hS,_,_,rfl,rfl,⟨by decide,by decide⟩,_,_,rfl,rfl,(show (0:Int)<8 by decide),l,_,_,_,rfl,rfl,SqL.of q1,Wm (xs:=[4,3,5,4,6,10,4,8]) h0 (by show _<((8:Nat):Int);omega),?_⟩;obtain⟨m,hm,hm1,hm2⟩:∃ m:Nat,([4,3,5,4,6,10,4,8]:List Int).getD (X5 ns 0/4%8).toNat 0=m/\3<=m/\m<=10:=by
  have hk:(X5 ns 0/4%8).toNat<8:=by omega
  generalize (X5 ns 0/4%8).toNat=k at hk
  match k,hk with
  | 0,_=>exact⟨4,rfl,by decide,by decide⟩
  | 1,_=>exact⟨3,rfl,by decide,by decide⟩
  | 2,_=>exact⟨5,rfl,by decide,by decide⟩
  | 3,_=>exact⟨4,rfl,by decide,by decide⟩
  | 4,_=>exact⟨6,rfl,by decide,by decide⟩
  | 5,_=>exact⟨10,rfl,by decide,by decide⟩
  | 6,_=>exact⟨4,rfl,by decide,by decide⟩
  | 7,_=>exact⟨8,rfl,by decide,by decide⟩
 rw[hm];refine⟨_,rfl,b,ns,3,rfl,s1.seq hS,_,rfl,_,m,rfl,by omega,fun lc H2 hlc s2 f2=>?_⟩;refine⟨_,rfl,b,ns,2,rfl,(s1.trans s2).seq hS,_,rfl,_,cr,rfl,by omega,fun ln H3 hln s3 f3=>?_⟩;refine⟨sz2,fun t ht=>?_⟩;have s4:=Zf (o:=.tup [.ref lc,.ref ln]) ht;have s13:=s1.trans (s2.trans s3);refine h t lc ln _ _ _ ⟨Zd,s4 _ _ (s3 _ _ hlc),s4 _ _ hln,by rw[Fd];exact⟨hm1,hm2⟩,Aj _ hm2,zdz _ _,by rw[N2];exact⟨hc1,hc2⟩,Ak _ ⋯,zd0 _ _⟩ (N2 _ _) (s13.trans s4) (s13.free ht) (s1.free f2) ((s1.trans s2).free f3)
abbrev Yf:Stmt:=top 81
theorem Yv:Zl ["_law_script","_law_pool_here","_law_clubs_here","_law_numbers_here","_law_many","_law_grades","_law_rest_here","_law_deeds","_law_k"] ["_law_script","_law_pool_here"] (Zj Yf):=fnS
@[irreducible] def Ut:List Expr:=zd1 (P8 (Xq (Zv Yf) 3))
@[irreducible] def Oj:Pos:=zd2 (P8 (Xq (Zv Yf) 3))
theorem Jr:Zv Yf=[Xq (Zv Yf) 0,Xq (Zv Yf) 1,Xq (Zv Yf) 2,.Assign (zgj (Xq (Zv Yf) 3)) (.List Ut Oj) (stP (Xq (Zv Yf) 3)),Xq (Zv Yf) 4,Xq (Zv Yf) 5,Xq (Zv Yf) 6,Xq (Zv Yf) 7]:=by unfold Ut Oj;kernel_rfl
theorem Js:I9 Ut [1,2,3,4,5,6,7,8,9,9,9,9,9,8,8,7,6,5]:=by unfold Ut;exact⟨by kernel_rfl,by kernel_rfl⟩
theorem F7(F:#[f,"_law_people","_law_people",Yf])(T:Tx K mg a)(zmr:Z4 P w K mg base "_law_at" 1 ["_law_script","_law_k"] (zdg K))(zn3:Z4 P w K mg base "_law_mix" 1 ["_law_cell_here","_law_k"] zb9):FnOk P w K mg base (CX1 P w) 2 f fd ["_law_script","_law_pool_here"] (Hk K):=by
 refine #[g,Yv];obtain⟨b,t,lc,ln,ns,cs,nu,rfl,hS,PA,h⟩:=h;rw[Jr];refine⟨_,(Zb (Oo (pv 1) (Xy (K:=K) (n:=2) rfl rfl (Zw (pN 2 Yv.nd) (Zw (pN 3 Yv.nd) Xx))))
 (Zb (pS 4 Yv.nd (Zu Yz (pF zmr hr (Za (pv 0) (Za Zg Zc))) (Zu Yt (Zm (cL K) (by rfl) T.zmg PySem.boot_len (Za (pv 3) Zc)) Zg)))
 (Zb (Z3 (Zo X8 (Zu Yz (Zu Xj (pF zmr hr (Za (pv 0) (Za Zg Zc))) (Zu Yt (Zm (cL K) (by rfl) T.zmg PySem.boot_len (Za (pv 3) Zc)) Zg)) Zg) Zg (Zt _))
  (Ze (pS 4 Yv.nd (Zu Sl (Zm (cL K) (by rfl) T.zmg PySem.boot_len (Za (pv 3) Zc)) (Zu Yz (pv 4) Zg))))
  Zp)
 (Zb (pS 5 Yv.nd (Ya (Py [1,2,3,4,5,6,7,8,9,9,9,9,9,8,8,7,6,5] Js)))
 (Zb (pS 6 Yv.nd (pF zmr hr (Za (pv 0) (Za Zg Zc))))
 (Zb (pS 7 Yv.nd (Ya Zc))
 (Zb (Ys PassesOwn.leaving rfl (Y3 rfl T.zmx (Za (pv 4) Zc)) (pN 8 Yv.nd)
  (Zb (Y4 (pv 7) (Yd (Za Zq (Za (pI (iL K) (pv 3) (pv 8)) (Za (pI (iL K) (pv 5) (Zu Yz (pv 6) Zg)) (Za (pI (iL K) (pv 2) (Zu Yz (Zu Xj (pv 6) Zg) (Zm (cL K) (by rfl) T.zmg PySem.boot_len (Za (pv 2) Zc)))) Zc))))))
  (Ze (pS 6 Yv.nd (pI (iL K) (Ya (Za (Zu Xj (Zu Xj (pv 6) Zg) (Zm (cL K) (by rfl) T.zmg PySem.boot_len (Za (pv 2) Zc))) (Za (pF zn3 hr (Za (pv 6) (Za (pv 8) Zc))) Zc))) (Zu Yz (pF zmr hr (Za (pv 0) (Za Zg Zc))) Zg))))))
 (Ze (Zn (pv 7)))))))))),?_⟩
 show let y1:TS:=_;let y2:TS:=tSeq _ y1;let y3:TS:=tSeq _ y2;let y4:TS:=tSeq _ y3;let y5:TS:=tSeq _ y4;let y6:TS:=tSeq _ y5;let y7:TS:=tSeq _ y6;tSeq _ y7 _ _ _;intro y1 y2 y3 y4 y5 y6 y7;have sz0:([]:List V).length<=sizeLine:=zvw _;have hw:(0:Int)<(nu.length:Int)+1:=by omega
 obtain⟨c1,c2⟩:=PA.few;obtain⟨n1,n2⟩:=PA.nfew;refine⟨_,rfl,t,_,rfl,SqT.of PA.tup,rfl,_,_,rfl,_,_,rfl,rfl,?_⟩;walk_at "if";refine⟨_,rfl,b,ns,4,rfl,hS,_,rfl,ln,_,rfl,.inl (SqL.of PA.nums),_,_,rfl,rfl,?_⟩;rw[zu2];refine⟨_,_,rfl,rfl,hw,?_⟩;walk_at "if";have u0:=zv8 (X5 ns 4) (show (nu.length:Int)+1≠0 by omega);have u1:=zv0 (X5 ns 4) hw
 let jv5:L2.St->Hp->Prop:=fun σ' H'=>H'=H/\∃ m:Nat,σ'=[#[c,b],#[c,t],#[c,lc],#[c,ln],#[e,m],none,none,none,none]/\m<=nu.length
 refine Kh (b:=decide (V.int (X5 ns 4/((nu.length:Int)+1)%2)=V.int 1)) jv5 (fun Q q=>?_) (fun _ N hN=>?_) (fun _ N hN=>?_) ?_
 ·refine⟨_,rfl,b,ns,4,rfl,hS,_,rfl,ln,_,rfl,.inl (SqL.of PA.nums),_,_,rfl,rfl,?_⟩;rw[zu2];exact⟨_,_,rfl,rfl,⟨hw,by omega⟩,_,_,rfl,rfl,by omega,rfl,_,rfl,q⟩
 ·refine⟨_,rfl,ln,_,rfl,.inl (SqL.of PA.nums),?_⟩;rw[zu2];refine⟨_,rfl,_,_,rfl,rfl,by omega,_,_,rfl,rfl,hN _ _ ⟨rfl,((nu.length:Int)-X5 ns 4%((nu.length:Int)+1)%2).toNat,?_,by omega⟩⟩;rw[zw9 ⋯];rfl
 ·refine Zx (hN _ _ ⟨rfl,(X5 ns 4%((nu.length:Int)+1)).toNat,?_,by omega⟩);rw[zw9 ⋯];rfl
 rintro σ H' ⟨rfl,m,rfl,hm⟩;refine An [1,2,3,4,5,6,7,8,9,9,9,9,9,8,8,7,6,5] ⋯ fun lg H2 hg s2 fg=>?_;refine⟨_,rfl,b,ns,5,rfl,s2.seq hS,sz0,fun r fr=>?_⟩;have s1:=s2.trans (Zf (o:=.lst []) fr);have q1:=Zd (H:=H2) (a:=r) (o:=.lst []);have hg1:=Zf (o:=.lst []) fr _ _ hg;walk_at "if";generalize upd H2 r (.lst [])=H1 at s1 q1 hg1 ⊢;have fr0:=s2.free fr;have frg:lg≠r:=Zh hg fr
 let jv6:Nat->L2.St->Hp->Prop:=fun i σ H3=>(∃ v8 R,σ=[some (.ref b),some (.ref t),some (.ref lc),some (.ref ln),some (.int m),some (.ref lg),some (.int R),some (.ref r),v8])/\(∀ x o,H1 x=some o->x≠r->H3 x=some o)/\∃ ts es,H3 r=#[a,.lst,ts]/\Z9 H3 ts ((es:List P3).map enV)/\es.length=i/\es.map (·.1)=nu.take i/\(∀ x∈es,1<=x.2.1/\x.2.1<=9/\x.2.2∈cs)
 refine⟨_,rfl,_,rfl,by omega,by omega,Xu jv6
  ⟨⟨_,_,rfl⟩,fun _ _ e _=>e,[],[],q1,.nil,rfl,rfl,(fun m z=>nomatch z)⟩ ?_ ?_⟩
 ·rintro i σ H3 hi ⟨⟨v8,R,rfl⟩,k,ts,es,hr',tl,hml,enu,eok⟩;rw[zvj] at hi;rw[zwb];have s3:Same H' H3:=fun x o e=>k _ _ (s1 _ _ e) (Zh e fr0);have hg3:=k _ _ hg1 frg;have PA3:=PA.same s3;have hcl:(0:Int)<(cs.length:Int):=by omega
  have w0:=zv8 R (show (18:Int)≠0 by omega);have w1:=zv0 R (show (0:Int)<18 by omega);have y0:=zv8 (R/18) (show (cs.length:Int)≠0 by omega);have y1:=zv0 (R/18) hcl;have hgr:=Wm (xs:=Cf) w0 (by show _<((18:Nat):Int);omega);have rgr:=zbh (R%18).toNat ⋯;generalize hgv:Cf.getD (R%18).toNat 0=gv at hgr rgr;have hcs:=Wm (xs:=cs) y0 ⋯;have mcs:=Tc (ns:=cs) (i:=(R/18%(cs.length:Int)).toNat) ⋯;generalize cs.getD (R/18%(cs.length:Int)).toNat 0=c at hcs mcs;have hni:i<nu.length:=by omega
  have hnu:nu[i]?=some (nu[i]'hni):=zu3 hni;have etk:nu.take (i+1)=nu.take i++[nu[i]'hni]:=zvl hni;generalize nu[i]'hni=n at hnu etk;walk_at "if";refine⟨_,rfl,r,_,rfl,hr',?_⟩;refine⟨_,rfl,_,rfl,ln,_,_,_,rfl,rfl,SqL.of PA3.nums,Z0 (by rw[zu8,hnu];rfl),_,rfl,_,rfl,_,_,rfl,rfl,⋯,lg,_,_,_,rfl,rfl,SqL.of hg3,hgr,?_⟩;refine⟨_,rfl,_,rfl,_,_,rfl,rfl,⟨by omega,by omega⟩,_,rfl,lc,_,rfl,.inl (SqL.of PA3.clubs),?_⟩;rw[zu2];refine⟨_,_,rfl,rfl,hcl,lc,_,_,_,rfl,rfl,SqL.of PA3.clubs,hcs,(by show 4<=sizeLine;rw[sizeLine_eq];decide),fun tt ft=>?_⟩;have s4:=Zf (o:=.tup [.str "enrol",.int n,.int gv,.int c]) ft;have q4:=Zd (H:=H3) (a:=tt) (o:=.tup [.str "enrol",.int n,.int gv,.int c]);generalize upd H3 tt (.tup [.str "enrol",.int n,.int gv,.int c])=H4 at s4 q4 ⊢;have tln:=tl.length;rw[zu2] at tln;refine⟨ts,s4 _ _ hr',szN ⋯,?_⟩;have k5:∀ x o,H4 x=some o->x≠r->upd H4 r (.lst (ts++[.ref tt])) x=some o:=fun x o e n=>by rw[Zi n];exact e
  have q5:=Zd (H:=H4) (a:=r) (o:=.lst (ts++[.ref tt]));have kt5:∀ x ys,H4 x=#[a,.tup,ys]->upd H4 r (.lst (ts++[.ref tt])) x=#[a,.tup,ys]:=fun x ys e=>k5 _ _ e (Yw e (s4 _ _ hr') (by intro z;cases z));dsimp only;generalize upd H4 r (.lst (ts++[.ref tt]))=H5 at k5 q5 kt5 ⊢;have s05:Same H' H5:=fun x o e=>k5 _ _ (s4 _ _ (s3 _ _ e)) (Zh e fr0);have PA5:=PA.same s05;obtain⟨mx,hmx,hmx1⟩:∃ mx:Nat,X5 ns 0%2=mx/\mx<=1:=⟨(X5 ns 0%2).toNat,by omega,by omega⟩;obtain⟨z,hz⟩:=at2 (R/18/(cs.length:Int)) (zax R (i:Int)) hmx1;refine⟨_,rfl,_,_,rfl,rfl,⟨by omega,by omega⟩,_,rfl,lc,_,rfl,.inl (SqL.of PA5.clubs),?_⟩;rw[zu2];refine⟨_,_,rfl,rfl,⟨hcl,by omega⟩,_,rfl,_,rfl,_,_,rfl,sz2,fun l2 f2=>?_⟩;have s6:=Zf (o:=.lst [.int (R/18/(cs.length:Int)),.int (zax R (i:Int))]) f2;have q6:=Zd (H:=H5) (a:=l2) (o:=.lst [.int (R/18/(cs.length:Int)),.int (zax R (i:Int))]);generalize upd H5 l2 (.lst [.int (R/18/(cs.length:Int)),.int (zax R (i:Int))])=H6 at s6 q6 ⊢;refine⟨_,rfl,b,ns,0,rfl,(s05.trans s6).seq hS,_,_,rfl,rfl,⋯,l2,_,_,_,rfl,rfl,SqL.of q6,(by rw[hmx];exact hz),?_⟩;refine⟨⟨_,_,rfl⟩,fun x o e n=>s6 _ _ (k5 _ _ (s4 _ _ (k _ _ e n)) n),ts++[.ref tt],es++[(n,gv,c)],s6 _ _ q5,?_,by rw[zu5,hml];rfl,?_,?_⟩
  ·rw[zu9];exact(tl.mono fun x ys e=>s6 _ _ (kt5 _ _ (s4 _ _ e))).snoc (s6 _ _ (kt5 _ _ q4))
  ·rw[zu9,enu,etk];rfl
  ·intro m hm;rcases zve.mp hm with hm|hm
   ·exact eok m hm
   ·rw[zu6.mp hm];exact⟨rgr.1,rgr.2,mcs⟩
 ·rintro σ H3 ⟨⟨v8,R,rfl⟩,k,ts,es,hr',tl,hml,enu,eok⟩;rw[zvj] at hml enu;refine⟨_,rfl,h r ts es H3 hr' tl (by rw[hml];exact enu) ⋯ eok (fun x o e=>k _ _ (s1 _ _ e) (Zh e fr0)) fr0⟩
abbrev T7:Stmt:=top 82
theorem U3:Zl ["_law_season","_law_pages","_law_deeds","_law_deed_here"] ["_law_season","_law_pages","_law_deeds"] (Zj T7):=fnS
theorem Jt(F:#[f,"_law_enrolled","_law_enrolled",T7])(T:Tx K mg a)(zp4:Z4 P w K mg base "_law_do" 8 ["_law_season","_law_deed_here"] (zjz K (ca a)))(zof:Z4 P w K mg base "_law_paged" 3 ["_law_pages","_law_deed_here"] (Cd K)):FnOk P w K mg base (CX1 P w) 9 f fd ["_law_season","_law_pages","_law_deeds"] (Hm K (ca a)):=by
 refine #[g,U3];obtain⟨mb,A',l,le,ts,es,ds,d,P0,S,nu,n,rfl,SA,hl,hlo,F,hle,hlf,tl,nd,eok,hp30,hn90,hcur,hlen,h⟩:=h;refine⟨_,(Zb (Ys PassesOwn.leaving rfl (Yc (K:=K) rfl (pv 2)) (pN 3 U3.nd)
  (Zb (Z7 (pF zp4 hr (Za (pv 0) (Za (pv 3) Zc))))
  (Ze (pS 1 U3.nd (pF zof hr (Za (pv 1) (Za (pv 3) Zc)))))))
 (Ze (Zn (pv 1)))),?_⟩
 have tln:=tl.length;rw[zu2] at tln
 let jv7:Nat->L2.St->Hp->Prop:=fun i σ H1=>∃ A1 l1 ds1 d1 P1 S1 v,σ=[#[c,A'.p],#[c,l1],#[c,le],v]/\Zy (ca a) H1 A1 S1/\H1 l1=some (.lst ((ds1++[d1]).map V.ref))/\l1∉A1.fp/\Full mb (·∉A1.fp) H1 nu (n+i) ds1 d1 P1 S1/\FrN A' A1 H H1/\S1.cur=none/\S1.led=S.led/\S1.len=S.len/\S1.ppl=S.ppl++es.take i
 refine⟨_,rfl,le,rfl,⟨_,SqL.of hle⟩,Xn (K:=K) (a:=le) (xs:=ts) jv7
  ⟨A',l,ds,d,P0,S,_,rfl,SA,hl,hlo,F,.refl _ _,hcur,rfl,rfl,by simp⟩ (fun i σ H1 _ ⟨A1,_,_,_,_,_,_,_,_,_,_,_,f,_⟩=>SqL.of (f.k _ _ hle hlf).1) ?_ ?_⟩
 ·rintro i x σ H1 hx ⟨A1,l1,ds1,d1,P1,S1,v,rfl,SA1,hl1,ho1,F1,f1,e1,e2,e3,e4⟩;have hi:i<ts.length:=(zu4.mp hx).1;have hie:i<es.length:=by omega
  have hex:es[i]?=some (es[i]'hie):=zu3 hie;have etk:=Xv hex;have hmem:es[i]'hie∈es:=zvx hie;obtain⟨t,ht1,ht2⟩:∃ t,x=.ref t/\H t=some (.tup (enV (es[i]'hie))):=by
   obtain⟨t,r,z1,z2,z3⟩:=tl.get hx;rw[zu8,hex] at z2;cases z2;exact⟨t,z1,z3⟩
  have hfr:(es[i]'hie).1∉(es.take i).map (·.1):=fun z=>by
   obtain⟨y,hy,ey⟩:=zvb.mp z;obtain⟨j,hj,rfl⟩:=zwe hy;rw[zw7] at hj;rw[List.getElem_take] at ey;have h1:(es.map (·.1))[j]'(by rw[zu2];omega)=(es.map (·.1))[i]'(by rw[zu2];omega):=by rw[List.getElem_map,List.getElem_map];exact ey
   have:=(List.getElem_inj nd).mp h1;omega
  have hok:=eok _ hmem;generalize es[i]'hie=x0 at hex etk hmem ht2 hfr hok;obtain⟨k,gr,c⟩:=x0;subst ht1;have hD:Wv (·∉A1.fp) H1 t (.enrol k gr c):=f1.kt _ _ ht2;have g:Kr S1 (.enrol k gr c):=by
   refine⟨by rw[e2,e3];exact hlen,e1,hok.2.1,?_,?_⟩
   ·rw[e4,zu9];intro z;rcases zve.mp z with z|z
    ·exact hok.2.2 z
    ·exact hfr z
   ·rw[e4,zu5,zw7];omega
  obtain⟨b1,b2,b3,b4,b5,b6,b7,b8,b9,b10⟩:=F1.pre g ⋯;refine⟨_,rfl,_,rfl,A1,S1,t,_,(by rw[f1.p];rfl),SA1,hD,g,b1,b2,b3,b4,b5,b6,b7,b8,b9,b10,fun v' A2 S2 H2 af SA2 nx fr _=>?_⟩;have f12:=FrN.next SA1 nx fr;obtain⟨c1,c2,c3,c4,c5⟩:=F1.pre2 g ⋯
  refine⟨_,rfl,_,rfl,(·∉A2.fp),l1,t,ds1,d1,P1,.enrol k gr c,rfl,(f12.k _ _ hl1 ho1).1,F1.pg.fr f12,hD.fr f12,c1,c2,c3,c4,c5,fun l3 d3 H3 hl3 pg s3 fl3 fd3=>?_⟩;obtain⟨ds2,d2,P2,ek,Pe,eP,_⟩:=turn F1 SA1 af SA2 nx fr g (fun k' gr' c' z=>by cases z;exact hok.1) pg s3 fd3;cases af with
  | enrol k gr c =>
    rw[ek] at hl3;refine⟨A2,l3,ds2,d2,P2,_,_,rfl,SA2.same s3,hl3,SA2.newOk _ fl3,Pe.full (fun s hs=>?_) fun z=>?_,f1.trans (f12.trans (.of s3)),e1,e2,e3,?_⟩
    ·have hs:S1.cur=some s:=hs;rw[e1] at hs;cases hs
    ·rw[eP nofun];show P1.mv=_;rw[F1.re.mv z,Vg e1];exact(Vg e1).symm
    ·show S1.ppl++[(k,gr,c)]=_;rw[e4,etk,zwy]
 ·rintro σ H1 ⟨A1,l1,ds1,d1,P1,S1,v,rfl,SA1,hl1,ho1,F1,f1,e1,e2,e3,e4⟩;rw[tln] at F1;exact⟨_,rfl,h A1 l1 ds1 d1 P1 S1 H1 SA1 hl1 ho1 F1 f1 e1 e2 e3⟩
abbrev Wj:Stmt:=top 83
theorem A8:Zl ["_law_script"] ["_law_script"] (Zj Wj):=fnS
@[irreducible] def Sj:List Expr:=zd1 (Al (zhu (Xq (Zv Wj) 0)))
@[irreducible] def K0:Pos:=zd2 (Al (zhu (Xq (Zv Wj) 0)))
theorem F8:Zv Wj=[.Return (some (.Subscript (.List Sj K0) (zhv (zhu (Xq (Zv Wj) 0))) (zhw (zhu (Xq (Zv Wj) 0))))) (stP (Xq (Zv Wj) 0))]:=by unfold Sj K0;kernel_rfl
theorem Ea:I9 Sj [0,1,2,3,4,5,6,7,8,9,10,0,0,0,1,1,1,2,2,0,1,3]:=by unfold Sj;exact⟨by kernel_rfl,by kernel_rfl⟩
theorem A9(F:#[f,"_law_rest","_law_rest",Wj])(T:Tx K mg a)(zmr:Z4 P w K mg base "_law_at" 1 ["_law_script","_law_k"] (zdg K)):FnOk P w K mg base (CX1 P w) 2 f fd ["_law_script"] (Af K):=by
 refine #[g,A8];obtain⟨b,ns,rfl,hS,h⟩:=h;rw[F8];refine⟨_,Ze (Zn (pI (iL K) (Ya (Py [0,1,2,3,4,5,6,7,8,9,10,0,0,0,1,1,1,2,2,0,1,3] Ea)) (Zu Yz (pF zmr hr (Za (pv 0) (Za Zg Zc))) Zg))),?_⟩;refine zj0 Kp ⋯ fun l H1 q1 s1 fl=>?_;have h0:=zv8 (X5 ns 1) (show (22:Int)≠0 by decide);have h1:=zv0 (X5 ns 1) (show (0:Int)<22 by decide);have hat:=Wm (xs:=Kp) h0 (show _<((22:Nat):Int) by omega);have hb:0<=Kp.getD (X5 ns 1%22).toNat 0/\Kp.getD (X5 ns 1%22).toNat 0<=10:=by
  generalize (X5 ns 1%22).toNat=k;rw[zvu];cases e:Kp[k]? with
  | none=>exact⟨by decide,by decide⟩
  | some x =>
    have hm:=zvc e;have:∀ x∈Kp,0<=x/\x<=10:=by decide
    exact this x hm
 have hfin:=h (Kp.getD (X5 ns 1%22).toNat 0).toNat H1 rfl ⋯ s1;rw[zw9 hb.1] at hfin;exact⟨_,rfl,b,ns,1,rfl,s1.seq hS,_,_,rfl,rfl,(show (0:Int)<22 by decide),l,_,_,_,rfl,rfl,SqL.of q1,hat,hfin⟩
abbrev Nv:Stmt:=top 84
theorem zaa:Zl ["_law_script","_law_k"] ["_law_script","_law_k"] (Zj Nv):=fnS
theorem zab(F:#[f,"_law_cell","_law_cell",Nv])(T:Tx K mg a)(zmr:Z4 P w K mg base "_law_at" 1 ["_law_script","_law_k"] (zdg K))(zn3:Z4 P w K mg base "_law_mix" 1 ["_law_cell_here","_law_k"] zb9):FnOk P w K mg base (CX1 P w) 2 f fd ["_law_script","_law_k"] (Ag K):=by
 refine #[g,zaa];obtain⟨b,ns,k,rfl,hS,hk,h⟩:=h;refine⟨_,(Zb (Z3 (Zo X8 (Zu Yz (pF zmr hr (Za (pv 0) (Za Zg Zc))) Zg) Zg (Zt _))
  (Ze (Zn (pF zn3 hr (Za (pI (iL K) (pv 0) (pv 1)) (Za (pv 1) Zc)))))
  Zp)
 (Ze (Zn (pI (iL K) (pv 0) (pv 1))))),?_⟩
 have hk':(ns.map V.int)[k]?=#[e,ns[k]'hk]:=by rw[zu8,zu3 hk];rfl
 refine⟨_,rfl,b,ns,0,rfl,hS,_,_,rfl,rfl,(show (0:Int)<2 by decide),rfl,_,rfl,?_⟩;refine itB (fun _=>?_) fun _=>?_
 ·exact⟨_,rfl,_,rfl,b,_,_,_,rfl,rfl,hS,Z0 hk',_,rfl,_,_,rfl,h _ H (Same.refl _)⟩
 ·exact⟨_,rfl,_,rfl,b,_,_,_,rfl,rfl,hS,Z0 hk',h _ H (Same.refl _)⟩
abbrev U4:Stmt:=top 86
theorem Y7:Zl ["_law_found","_law_page","_law_k","_law_listed","_law_goes","_law_moves","_law_may","_law_due"] ["_law_found","_law_page"] (Zj U4):=fnS
theorem L9(F:#[f,"_law_facts_are","_law_facts_are",U4])(T:Tx K mg a)(zmt:Z4 P w K mg base "_law_rows_are" 4 ["_law_found","_law_due"] (Pq K)):FnOk P w K mg base (CX1 P w) 5 f fd ["_law_found","_law_page"] (Hr K):=by
 refine #[g,Y7];obtain⟨ok,l,d,ls,P0,rfl,hl,PA,PO,rl,h⟩:=h;have hu:=Wq hr;refine⟨_,(Zb (Z3 (PW.pt (Wk (Yy (Yr (Zm (Wa (K:=K) rfl) (by rfl) T.zmm PyProof.Rows.boot_isinstance (Za (pv 0) (Za (Vq rfl T.zno PyProof.Rows.boot_list (show RelV (.ty "list") _ from rfl)) Zc))))) (Xs (Zo Kb (Zm (cL K) (by rfl) T.zmg PySem.boot_len (Za (pv 0) Zc)) (Zm (cL K) (by rfl) T.zmg PySem.boot_len (Za (pD hu (pv 1) Zq) Zc)) (Zt _)))))
  (Ze (Zn Xc))
  Zp)
 (Zb (Ys PassesOwn.leaving rfl (Y3 rfl T.zmx (Za (Zm (cL K) (by rfl) T.zmg PySem.boot_len (Za (pv 0) Zc)) Zc)) (pN 2 Y7.nd)
  (Zb (Oo (pI (iL K) (pD hu (pv 1) Zq) (pv 2)) (Xy (K:=K) (n:=4) rfl rfl (Zw (pN 3 Y7.nd) (Zw (pN 4 Y7.nd) (Zw (pN 5 Y7.nd) (Zw (pN 6 Y7.nd) Xx))))))
  (Zb (Vp (i:=7) Y7.nd rfl rfl rfl (cT ["_law_goes","_law_listed"] [4,3]) (Y3 rfl T.zmx (Za (Zm (cL K) (by rfl) T.zmg PySem.boot_len (Za (pv 3) Zc)) Zc)) (fun _ _ _ _ _=>W8) (fun _ _ _ _ _=>(Yd (Za (pI (iU K) (pI (iL K) (pv 2) (pv 0)) Zg) (Za (pI (iU K) (pI (iL K) (pv 2) (pv 0)) Zg) (Za (pI (iU K) (pI (iL K) (pv 2) (pv 0)) Zg) (Za (pI (iL K) (pv 1) (pv 0)) Zc)))))))
  (Ze (Z3 (Yy (Yr (pF zmt hr (Za (pI (iL K) (pv 0) (pv 2)) (Za (pv 7) Zc)))))
   (Ze (Zn Xc))
   Zp)))))
 (Ze (Zn Xc)))),?_⟩
 obtain⟨lp,lo,lv,dv,li,lg,lm,a1,PB,okd⟩:=id PA.split;obtain⟨vts,u1,u2,u3⟩:=PB.vv;have hvl:=u2.length;have hll:=rl.length;rw[zu2] at hll;have hz:=PO.1;refine⟨_,rfl,_,_,_,_,rfl,.of (.lst hl),.inl ⟨_,rfl⟩,M3 K,_,rfl,?_⟩;refine iteF ?_;refine⟨_,rfl,l,_,rfl,.inl (SqL.of hl),_,rfl,d,_,rfl,DGet.k (k:=.inr "over") a1,lv,vts,rfl,.inl (SqL.of u1),rfl,_,rfl,?_⟩;rw[show (ls.map V.ref).length=vts.length by rw[zu2];omega,zva rfl];refine iteF (Zx ?_);dsimp only
 let jv8:Nat->L2.St->Hp->Prop:=fun i σ H'=>(∃ v2 v3 v4 v5 v6 v7,σ=[some (.ref l),some (.ref d),v2,v3,v4,v5,v6,v7])/\Same H H'
 refine⟨_,rfl,l,_,rfl,.inl (SqL.of hl),_,rfl,by omega,by rw[zu2];omega,Xu jv8 ⟨⟨_,_,_,_,_,_,rfl⟩,Same.refl _⟩ ?_ ?_⟩
 ·rintro i σ H1 hi ⟨⟨v2,v3,v4,v5,v6,v7,rfl⟩,s1⟩;rw[zvj,zu2] at hi;rw[zwb];have hiv:i<vts.length:=by omega
  obtain⟨t,l1,g1,m1,y1,ts,s,ex,hs,ht,hl1,tl1,hg1,_,_⟩:=u2.get (zu3 hiv);have hvt:vts[i]?=#[c,t]:=by rw[zu3 hiv,ex]
  obtain⟨lr,trs,w1,w2,w3⟩:=rl.getR (i:=i) (rs:=Z5 s) (by rw[zu8,hs];rfl);obtain⟨p1,p2,p3⟩:=PO.2.2 s (zvc hs);have tln:ts.length=s.ms.length:=by rw[tl1.length,zu2]
  have rln:(Z5 s).length=s.ms.length:=by unfold Z5;rw[zxa,p2,Nat.min_self]
  walk_at "if";refine⟨_,rfl,d,_,rfl,DGet.k (k:=.inr "over") (s1 _ _ a1),_,rfl,lv,_,_,_,rfl,rfl,SqL.of (s1 _ _ u1),Z0 hvt,t,_,rfl,SqT.of (s1 _ _ ht),rfl,_,_,rfl,_,_,rfl,_,_,rfl,_,_,rfl,rfl,?_⟩;walk_at "if";refine⟨_,rfl,l1,ts,rfl,.inl (SqL.of (s1 _ _ hl1)),_,rfl,by omega,by omega,?_⟩;rw[zvj];refine Ru (fun j ys H'=>Same H1 H'/\Z9 H' ys (((Z5 s).take j).map row4)/\ys.length=j) ⟨Same.refl _,.nil,rfl⟩ (szN ⋯) (fun j ys H' ⟨_,_,e⟩=>by omega) (fun j ys H' hj p=>?_) fun ys H' p l' hl'=>?_
  ·obtain⟨s2,tl2,hyl⟩:=p;have s02:=s1.trans s2;rw[zwb];have hj2:j<s.gv.length:=by omega
   have hgj:s.gv[j]?=some (s.gv[j]'hj2):=zu3 hj2;have hone:=p3 _ (zvx hj2);generalize s.gv[j]'hj2=xv at hgj hone;obtain⟨tj,mj,e1,hmj,htj⟩:=K2 tl1 (zu3 hj);have htj':ts[j]?=#[c,tj]:=by rw[zu3 hj,e1]
   have hr3:(Z5 s)[j]?=some (Iu mj xv):=by unfold Z5;rw[List.getElem?_zipWith,hmj,hgj]
   unfold tYes;dsimp only;rw[if_pos rfl];refine⟨_,rfl,_,rfl,l1,_,_,_,rfl,rfl,SqL.of (s02 _ _ hl1),Z0 htj',tj,_,_,_,rfl,rfl,SqT.of (s02 _ _ htj),show atI (pV mj) 0=some _ from rfl,?_⟩;refine⟨_,rfl,_,rfl,l1,_,_,_,rfl,rfl,SqL.of (s02 _ _ hl1),Z0 htj',tj,_,_,_,rfl,rfl,SqT.of (s02 _ _ htj),show atI (pV mj) 1=some _ from rfl,?_⟩;refine⟨_,rfl,_,rfl,l1,_,_,_,rfl,rfl,SqL.of (s02 _ _ hl1),Z0 htj',tj,_,_,_,rfl,rfl,SqT.of (s02 _ _ htj),show atI (pV mj) 2=some _ from rfl,?_⟩;refine⟨_,rfl,_,rfl,g1,_,_,_,rfl,rfl,SqL.of (s02 _ _ hg1),Z0 hgj,(by show 4<=sizeLine;rw[sizeLine_eq];decide),fun t9 f9=>?_⟩;have s9:=Zf (o:=.tup [.int mj.1,.int mj.2.1,.int mj.2.2,xv]) f9;refine⟨s2.trans s9,?_,by rw[zu5,hyl];rfl⟩;rw[Xv hr3,zu9];refine(tl2.same s9).snoc ?_;have er:row4 (Iu mj xv)=[.int mj.1,.int mj.2.1,.int mj.2.2,xv]:=by
    rcases hone with rfl|⟨w,rfl⟩<;>rfl
   rw[er];exact Zd
  ·obtain⟨s2,tl2,hyl⟩:=p;rw[tln,<- rln,zvk] at tl2;have s3:=s2.trans (Zf (o:=.lst ys) hl');have q3:=Zd (H:=H') (a:=l') (o:=.lst ys);have tl3:=tl2.same (Zf (o:=.lst ys) hl');show Wl 7 (V.ref l') _ (upd H' l' (.lst ys)) _;generalize upd H' l' (.lst ys)=H3 at s3 q3 tl3 ⊢;have s03:=s1.trans s3;walk_at "if";refine⟨_,rfl,_,rfl,l,_,_,_,rfl,rfl,SqL.of (s03 _ _ hl),Z0 (by rw[zu8,w1];rfl),_,rfl,lr,l',trs,ys,(Z5 s).map row4,rfl,s03 _ _ w2,SqL.of q3,w3.same s03,tl3,fun r hr=>?_,by rw[zu2];omega,true,rfl,iteF (Zx ⟨⟨_,_,_,_,_,_,rfl⟩,s03⟩)⟩;obtain⟨q,_,rfl⟩:=zvb.mp hr;refine⟨by show 4<=1000;decide,fun x hx=>?_⟩;simp[row4] at hx;rcases hx with rfl|rfl|rfl|rfl
   ·exact .inr ⟨_,rfl⟩
   ·exact .inr ⟨_,rfl⟩
   ·exact .inr ⟨_,rfl⟩
   ·cases q.w with
    | none=>exact .inl rfl
    | some n=>exact .inr ⟨_,rfl⟩
 ·rintro σ H1 ⟨⟨v2,v3,v4,v5,v6,v7,rfl⟩,s1⟩;exact h H1 s1
abbrev Ua:Stmt:=top 85
theorem Yb:Zl ["_law_season","_law_at_here","_law_kept","_law_people_here","_law_listed","_law_goes","_law_moves","_law_may","_law_left","_law_number","_law_grade","_law_club","_law_spots"] ["_law_season","_law_at_here","_law_kept","_law_people_here"] (Zj Ua):=fnS
theorem Nw(F:#[f,"_law_shows_round","_law_shows_round",Ua])(T:Tx K mg a)(zmt:Z4 P w K mg base "_law_rows_are" 4 ["_law_found","_law_due"] (Pq K))(zoy:Zs P w K mg base a.zl7 "matches" 4 ["self","at"] (Dc (ca a)))(zng:Z4 P w K mg base "_law_list_is" 3 ["_law_found","_law_due"] (Ih K))(znt:Zs P w K mg base a.zl7 "goes" 4 ["self","at"] (za8 (ca a)))(zpz:Zs P w K mg base a.zl7 "left" 4 ["self","at"] (Ae (ca a)))(zo5:Z4 P w K mg base "_law_moves_are" 5 ["_law_found","_law_due"] (Hq K))(znd:Zs P w K mg base a.zl7 "chains" 4 ["self","at"] (Ma (ca a)))(zmn:Z4 P w K mg base "_law_one_is" 2 ["_law_found","_law_due"] Pp)(zpm:Zs P w K mg base a.zl7 "where" 4 ["self","at","number"] (zcr (ca a)))(zol:Z4 P w K mg base "_law_is_shortage" 4 ["_law_found","_law_may","_law_left"] (E4 K))(zqf:Zs P w K mg base a.zl7 "why" 4 ["self","at"] (zii (ca a))):FnOk P w K mg base (CX1 P w) 6 f fd ["_law_season","_law_at_here","_law_kept","_law_people_here"] (Md K (ca a)):=by
 refine #[g,Yb];obtain⟨ok,A',S,i,t,lp,ll,lg,lm,lw,ts,mts,pts,ls,sh,rfl,SA,⟨i1,i2,i3,i4⟩,hsh,ht,hl,tl,hg,hm,gm,hw,iw,hp,tp,po,so,h⟩:=h;refine⟨_,(Zb (Oo (pv 2) (Xy (K:=K) (n:=4) rfl rfl (Zw (pN 4 Yb.nd) (Zw (pN 5 Yb.nd) (Zw (pN 6 Yb.nd) (Zw (pN 7 Yb.nd) Xx))))))
 (Zb (Vp (i:=8) Yb.nd rfl rfl rfl (cT ["_law_goes"] [5]) (Y3 rfl T.zmx (Za (Zm (cL K) (by rfl) T.zmg PySem.boot_len (Za (pv 5) Zc)) Zc)) (fun _ _ _ _ _=>Sa (Zo Oq (pI (iL K) (pv 1) (pv 0)) Yx (Zt _))) (fun _ _ _ _ _=>(pv 0)))
 (Zb (Z3 (PW.pt (Wk (Yy (Yr (pF zmt hr (Za (Yo (pv 0) T.zl8 zoy (hr.mono ⋯) Zk (Za (pv 1) Zc)) (Za (pv 4) Zc))))) (Xs (Yy (Yr (pF zng hr (Za (Yo (pv 0) T.zl8 znt (hr.mono ⋯) Zk (Za (pv 1) Zc)) (Za (pv 5) Zc))))))))
  (Ze (Zn Xc))
  Zp)
 (Zb (Z3 (PW.pt (Wk (Yy (Yr (pF zng hr (Za (Yo (pv 0) T.zl8 zpz (hr.mono ⋯) Zk (Za (pv 1) Zc)) (Za (pv 8) Zc))))) (Xs (Yy (Yr (pF zo5 hr (Za (Yo (pv 0) T.zl8 znd (hr.mono ⋯) Zk (Za (pv 1) Zc)) (Za (pv 6) Zc))))))))
  (Ze (Zn Xc))
  Zp)
 (Zb (Ys PassesOwn.leaving rfl (Yc (K:=K) rfl (pv 3)) (Xy (K:=K) (n:=3) rfl rfl (Zw (pN 9 Yb.nd) (Zw (pN 10 Yb.nd) (Zw (pN 11 Yb.nd) Xx))))
  (Zb (pS 12 Yb.nd (Zu Ow (W7 rfl (cT ["_law_number","_law_goes"] [9,5]) (Y3 rfl T.zmx (Za (Zm (cL K) (by rfl) T.zmg PySem.boot_len (Za (pv 5) Zc)) Zc)) (fun _ _ _ _ _=>Sa (Zo X8 (pI (iL K) (pv 2) (pv 0)) (pv 1) (Zt _))) (fun _ _ _ _ _=>(pv 0))) (Ya (Za Yx Zc))))
  (Ze (Z3 (Yy (Yr (pF zmn hr (Za (Yo (pv 0) T.zl8 zpm (hr.mono ⋯) Zk (Za (pv 1) (Za (pv 9) Zc))) (Za (pI (iL K) (pv 12) Zg) Zc)))))
   (Ze (Zn Xc))
   Zp))))
 (Ze (Zn (pF zol hr (Za (Yo (pv 0) T.zl8 zqf (hr.mono ⋯) Zk (Za (pv 1) Zc)) (Za (pv 7) (Za (Zm (cL K) (by rfl) T.zmg PySem.boot_len (Za (pv 8) Zc)) Zc))))))))))),?_⟩
 show let y1:TS:=_;let y2:TS:=_;let y3:TS:=tSeq (zes _ _ (tSeq _ y1)) y2;let y4:TS:=tSeq _ y3;let y5:TS:=tSeq _ y4;let y6:TS:=tSeq _ y5;tSeq _ y6 _ _ _;intro y1 y2 y3 y4 y5 y6;obtain⟨g1,g2,g3,g4,⟨nu,g5⟩,g6,g7⟩:=so;have hgl:sh.gv.length=sh.may.length:=g3.len;obtain⟨⟨dx,vv,ob,_⟩,_⟩:=id SA;have i34:=And.intro i3 i4;refine⟨_,rfl,t,_,rfl,SqT.of ht,rfl,_,_,rfl,_,_,rfl,_,_,rfl,_,_,rfl,rfl,?_⟩;walk_at "if";refine⟨_,rfl,lg,_,rfl,.inl (SqL.of hg),?_⟩;refine⟨_,rfl,by omega,by omega,?_⟩;rw[zvj];refine N3 (fun i=>decide (sh.gv[i]?=some .non)) (fun i=>.int (i:Nat)) ⋯ (fun j R hj k'=>?_) (fun j R hj _ k'=>?_) fun lz flz=>?_
 ·rw[zwb];have hgj:sh.gv[j]?=some (sh.gv[j]'hj):=zu3 hj;refine⟨_,rfl,_,rfl,lg,_,_,_,rfl,rfl,SqL.of hg,Z0 hgj,rfl,_,rfl,?_⟩;rw[hgj] at k';have e2:decide (some (sh.gv[j]'hj)=some V.non)=decide ((sh.gv[j]'hj)=V.non):=decide_eq_decide.mpr ⟨fun z=>Option.some.inj z,fun z=>by rw[z]⟩;rw[e2] at k';exact k'
 ·rw[zwb];exact⟨_,rfl,k'⟩
 have hlft:(Xr sh.gv).length<=100:=by
  unfold Xr;exact zvh (zvz _ _) (by rw[zv4];omega)
 have s1:Same H (upd H lz (.lst ((Xr sh.gv).map fun i=>V.int (i:Nat)))):=Zf flz;have q1:upd H lz (.lst ((Xr sh.gv).map fun i=>V.int (i:Nat))) lz=some (.lst ((Xr sh.gv).map fun i=>V.int (i:Nat))):=Zd;show Wl 8 _ _ (upd H lz (.lst ((Xr sh.gv).map fun i=>V.int (i:Nat)))) _;generalize upd H lz (.lst ((Xr sh.gv).map fun i=>V.int (i:Nat)))=H1 at s1 q1 ⊢;walk_at "if";refine Ue ?_;refine⟨_,rfl,A'.p,dx,_,rfl,s1 _ _ ob,Z8 ⋯,_,rfl,A',S,i,rfl,SA.same s1,Rl i1 i2 i34 hsh fun lq ts2 H2 hlq tq s2 _=>?_⟩;have s12:=s1.trans s2;refine⟨_,rfl,lq,ll,ts2,ts,_,rfl,hlq,SqL.of (s12 _ _ hl),tq,tl.same s12,fun r hr=>?_,by rw[zu2];omega,true,rfl,iteF ?_⟩
 ·obtain⟨m,_,rfl⟩:=zvb.mp hr;refine⟨by show 3<=1000;decide,fun x hx=>?_⟩;simp only[pV,zu7,zv7,or_false] at hx;rcases hx with rfl|rfl|rfl<;>exact .inr ⟨_,rfl⟩
 refine⟨_,rfl,A'.p,dx,_,rfl,s12 _ _ ob,Z8 ⋯,_,rfl,A',S,i,rfl,SA.same s12,Rl i1 i2 i34 hsh fun lq2 H3 hlq2 s3 _=>?_⟩;have s13:=s12.trans s3;refine⟨_,rfl,lq2,lg,sh.gv,rfl,hlq2,SqL.of (s13 _ _ hg),g3.one,by omega,true,rfl,iteF (Zx ?_)⟩;dsimp only;refine Ue ?_;refine⟨_,rfl,A'.p,dx,_,rfl,s13 _ _ ob,Z8 ⋯,_,rfl,A',S,i,rfl,SA.same s13,Rl i1 i2 i34 hsh ⟨g3.one,by omega,fun l3 H4 hl3 s4 _=>?_⟩⟩;have s14:=s13.trans s4;have q4:=(s2.trans (s3.trans s4)) _ _ q1;refine⟨_,rfl,l3,lz,_,rfl,hl3,SqL.of q4,fun x hx=>?_,by rw[zu2];omega,true,rfl,iteF ?_⟩
 ·obtain⟨k,_,rfl⟩:=zvb.mp hx;exact .inr ⟨_,rfl⟩
 refine⟨_,rfl,A'.p,dx,_,rfl,s14 _ _ ob,Z8 ⋯,_,rfl,A',S,i,rfl,SA.same s14,Rl i1 i2 i34 hsh ⟨by omega,fun l4 ts4 H5 hl4 gl4 s5 _=>?_⟩⟩;have s15:=s14.trans s5;refine⟨_,rfl,_,ok,l4,lm,ts4,mts,sh.gaps,rfl,hl4,s15 _ _ hm,gl4,gm.keepL (.of s15),by omega,fun x hx=>zvh (g7 x hx) ⋯,true,rfl,iteF (Zx ?_)⟩;have q5:=s5 _ _ q4;dsimp only;clear q4 q1 hlq tq hlq2 hl3 hl4 gl4 s14 s13 s12 s1 s2 s3 s4 s5
 let jv1:Nat->L2.St->Hp->Prop:=fun j σ H'=>(∃ v9 v10 v11 v12,σ=[some (.ref A'.p),some (.int i),some (.ref t),some (.ref lp),some (.ref ll),some (.ref lg),some (.ref lm),some (.ref lw),some (.ref lz),v9,v10,v11,v12])/\Same H5 H'
 refine⟨_,rfl,lp,rfl,⟨_,SqL.of (s15 _ _ hp)⟩,Xn (K:=K) (a:=lp) (xs:=pts) jv1 ⟨⟨_,_,_,_,rfl⟩,Same.refl _⟩ (fun j σ H' _ ⟨_,z⟩=>SqL.of (z _ _ (s15 _ _ hp))) ?_ ?_⟩
 ·rintro j x σ H6 hx ⟨⟨v9,v10,v11,v12,rfl⟩,s6⟩;obtain⟨t',r,rfl,hr,ht'⟩:=tp.get hx;obtain⟨pp,hpp,rfl⟩:∃ pp,S.ppl[j]?=some pp/\pV pp=r:=by
   rw[zu8] at hr;cases e:S.ppl[j]? with
   | none=>rw[e] at hr;cases hr
   | some y=>rw[e] at hr;exact⟨y,rfl,Option.some.inj hr⟩
  have hin:=zvc hpp;have hinn:pp.1∈S.ppl.map (·.1):=zvb.mpr ⟨pp,hin,rfl⟩;have s16:=s15.trans s6;refine⟨t',_,rfl,SqT.of (s16 _ _ ht'),rfl,_,_,rfl,_,_,rfl,_,_,rfl,rfl,?_⟩;walk_at "if";refine⟨_,rfl,lg,_,rfl,.inl (SqL.of (s16 _ _ hg)),?_⟩;refine⟨_,rfl,by omega,by omega,?_⟩;rw[zvj];refine N3 (fun i=>decide (sh.gv[i]?=#[e,pp.1])) (fun i=>.int (i:Nat)) ⋯ (fun j R hj k'=>?_) (fun j R hj _ k'=>?_) fun l7 fl7=>?_
  ·rw[zwb];have hgj:sh.gv[j]?=some (sh.gv[j]'hj):=zu3 hj;refine⟨_,rfl,_,rfl,lg,_,_,_,rfl,rfl,SqL.of (s16 _ _ hg),Z0 hgj,_,rfl,?_,_,rfl,?_⟩
   ·rcases g3.one _ (zvx hj) with z|⟨_,z⟩<;>rw[z]<;>rfl
   ·rw[hgj] at k';have e2:decide (some (sh.gv[j]'hj)=#[a,V.int,pp.1])=decide ((sh.gv[j]'hj)=V.int pp.1):=decide_eq_decide.mpr ⟨fun z=>Option.some.inj z,fun z=>by rw[z]⟩;rw[e2] at k';exact k'
  ·rw[zwb];exact⟨_,rfl,k'⟩
  rw[Av g3];obtain⟨op,hop⟩:∃ op,op=X2 sh.gv pp.1:=⟨_,rfl⟩;rw[<- hop];have s7:=Zf (o:=.lst (op.toList.map fun i=>V.int (i:Nat))) fl7;have q7:=Zd (H:=H6) (a:=l7) (o:=.lst (op.toList.map fun i=>V.int (i:Nat)));generalize upd H6 l7 (.lst (op.toList.map fun i=>V.int (i:Nat)))=H7 at s7 q7 ⊢;have hol:(op.toList.map fun i=>V.int (i:Nat)).length<=1:=by cases op<;>simp
  refine⟨(by show 1<=sizeLine;rw[sizeLine_eq];decide),fun le fe=>?_⟩;have s8:=s7.trans (Zf (o:=.lst [.non]) fe);have q8:=Zd (H:=H7) (a:=le) (o:=.lst [.non]);have q78:=Zf (o:=.lst [.non]) fe _ _ q7;generalize upd H7 le (.lst [.non])=H8 at s8 q8 q78 ⊢;refine⟨l7,le,_,_,rfl,rfl,q78,q8,szN (by show _+1<=1000;omega),fun lc fc=>?_⟩;have s9:=s8.trans (Zf (o:=.lst ((op.toList.map fun i=>V.int (i:Nat))++[.non])) fc);have q9:=Zd (H:=H8) (a:=lc) (o:=.lst ((op.toList.map fun i=>V.int (i:Nat))++[.non]));generalize upd H8 lc (.lst ((op.toList.map fun i=>V.int (i:Nat))++[.non]))=H9 at s9 q9 ⊢;have hz0:atI ((op.toList.map fun i=>V.int (i:Nat))++[.non]) 0=#[a,oN,op]:=by cases op<;>rfl
  have s19:=s16.trans s9;walk_at "if";refine⟨_,rfl,A'.p,dx,_,rfl,s19 _ _ ob,Z8 ⋯,_,rfl,_,rfl,A',S,i,pp.1,rfl,SA.same s19,po.small pp hin,Rl i1 i2 i34 hsh ⟨g3.one,by omega,?_⟩⟩;rw[if_pos hinn,<- hop];intro H10 s10;refine⟨_,rfl,lc,_,_,_,rfl,rfl,SqL.of (s10 _ _ q9),hz0,oN op,rfl,(by cases op with|none=>exact .inl rfl|some i=>exact .inr ⟨_,rfl⟩),true,rfl,iteF (Zx ?_)⟩;exact⟨⟨_,_,_,_,rfl⟩,s6.trans (s9.trans s10)⟩
 ·rintro σ H6 ⟨⟨v9,v10,v11,v12,rfl⟩,s6⟩;have s16:=s15.trans s6;refine⟨_,rfl,A'.p,dx,_,rfl,s16 _ _ ob,Z8 ⋯,_,rfl,A',S,i,rfl,SA.same s16,Rl i1 i2 i34 hsh ⟨⟨_,g5⟩,g3,Au g3 g4,fun tw lp9 lr9 ps rs H7 htw hp9 hr9 SP s7 _ _ _ _=>?_⟩⟩;have s17:=s16.trans s7;refine⟨_,rfl,_,rfl,lz,_,rfl,.inl (SqL.of ((s6.trans s7) _ _ q5)),?_⟩;rw[zu2];exact⟨tw,lw,lp9,lr9,ls,sh.may,nu,sh.gv,ps,rs,rfl,htw,s17 _ _ hw,iw.same s17,g5,hp9,hr9,SP,fun H8 s8=>h H8 (s17.trans s8)⟩
abbrev Wo:Stmt:=top 87
theorem Y2:Zl ["_law_season","_law_at_here","_law_numbers_here","_law_hits","_law_number"] ["_law_season","_law_at_here","_law_numbers_here"] (Zj Wo):=fnS
theorem Qh(F:#[f,"_law_closed_for_good","_law_closed_for_good",Wo])(T:Tx K mg a)(zm1:Zs P w K mg base a.zl7 "take_back" 2 ["self"] (O9 (ca a)))(znu:Zs P w K mg base a.zl7 "away" 7 ["self","at","number"] (za7 (ca a))):FnOk P w K mg base (CX1 P w) 8 f fd ["_law_season","_law_at_here","_law_numbers_here"] (Aw K (ca a)):=by
 refine #[g,Y2];obtain⟨A',S,i,ln,ns,rfl,SA,hi,hi1,hi2,hle,hst,hcu,po,hoz,hn,hns,hnl,h⟩:=h;refine⟨_,(Zb (pS 3 Y2.nd Zg)
 (Zb (zfk (as:=[]) Em T.zql rfl T.zqn
  (fun E1 lk1 pn1 EX1 hl1 hO hP =>
  (Ze (Z7 (Yh (pv 0) T.zl8 zm1 (hr.mono ⋯) hP))))
  (fun a1 =>
  (Ze (pS 3 Y2.nd (Zu Yt (pv 3) Zg)))))
 (Zb (Ys PassesOwn.leaving rfl (Yc (K:=K) rfl (pv 2)) (pN 4 Y2.nd)
  (Ze (zfk (as:=[]) Em T.zsh rfl T.zsi
   (fun E1 lk1 pn1 EX1 hl1 hO hP =>
   (Ze (Z7 (Yo (pv 0) T.zl8 znu (hr.mono ⋯) hP (Za (pv 1) (Za (pv 4) Zc))))))
   (fun a1 =>
   (Ze (pS 3 Y2.nd (Zu Yt (pv 3) Zg)))))))
 (Ze (Zn (U5 X8 (pv 3) (Zu Yt Zg (Zm (cL K) (by rfl) T.zmg PySem.boot_len (Za (pv 2) Zc))) (Zt _))))))),?_⟩
 obtain⟨⟨dx,vv,ob,_⟩,_⟩:=id SA;refine⟨_,rfl,A'.p,dx,_,rfl,ob,Z8 ⋯,A',S,rfl,SA,fun _=>⟨_,rfl,T.zmf,?_⟩,fun std d s e=>absurd (hst.symm.trans e) (by simp)⟩;refine⟨_,rfl,_,_,rfl,rfl,?_⟩;walk_at "if"
 let jv2:Nat->L2.St->Hp->Prop:=fun j σ H'=>(∃ v,σ=[some (.ref A'.p),some (.int i),some (.ref ln),some (.int (0+1+(j:Nat))),v])/\H'=H
 refine⟨_,rfl,ln,rfl,⟨_,SqL.of hn⟩,Xn (K:=K) (a:=ln) (xs:=ns.map V.int) jv2 ⟨⟨_,rfl⟩,rfl⟩ (fun j σ H' _ ⟨_,z⟩=>by rw[z];exact SqL.of hn) ?_ ?_⟩
 ·rintro j x σ H' hx ⟨⟨v,rfl⟩,rfl⟩;obtain⟨n,hnn,rfl⟩:∃ n∈ns,V.int n=x:=zvb.mp (zvc hx);walk_at "if";refine⟨_,rfl,A'.p,dx,_,rfl,ob,Z8 ⋯,_,rfl,_,rfl,A',S,i,n,rfl,SA,hi,hns n hnn,by rw[hst];exact zvw _,hoz,po,(fun s hs=>by rw[hcu] at hs;cases hs),?_⟩;rw[if_neg ⋯,if_pos ⋯];refine⟨_,rfl,T.zmy,?_⟩;refine⟨_,rfl,_,_,rfl,rfl,⟨#[e,n],?_⟩,rfl⟩;show _=[#[a,V.ref,A'.p],#[e,i],#[c,ln],#[e,0+1+((j+1:Nat):Int)],_];rw[show (0:Int)+1+((j+1:Nat):Int)=0+1+(j:Nat)+1 by omega];rfl
 ·rintro σ H' ⟨⟨v,rfl⟩,rfl⟩;refine⟨_,rfl,_,rfl,ln,_,rfl,.inl (SqL.of hn),_,_,rfl,rfl,rfl,?_⟩;rw[zva (show V.int _=V.int _ by simp only[zu2];rw[show (0:Int)+1=1 from rfl])];exact h _ (Same.refl _)
theorem zj3{DD:P5}{EE:XK}{σ:L2.St}{H:Hp}{A3:SAd}{S3:Sea}{q s p:Nat}{A1p d:Addr}{at_:Int}{sh:Zz}{mb:Bool}{nu:List Int}{n:Nat}{ds:List Addr}{P:Pg}(hs:σ[s]?=some #[c,A1p])(hq:σ[q]?=some #[e,at_])(hp:σ[p]?=some #[c,d])(SA:Zy (ca a) H A3 S3)(eAp:A3.p=A1p)(hat:at_=atV S3)(hc:S3.cur=some sh)(F:Nd mb (·∉A3.fp) H nu n ds d P S3)(hn:n<=500)
  (k:∀ H1 kvs lx,Same H H1->H1 d=#[a,.dK,kvs]->Nd mb (·∉A3.fp) (upd H1 d (.dK (putK kvs (.inr "moves") (.ref lx)))) nu n ds d { P with mv:=sh.gaps } S3->DD.nx σ (upd H1 d (.dK (putK kvs (.inr "moves") (.ref lx))))) :
  zib (Dk p) (tC (V.str "moves"))
   (zf4 (zer K (C5 a.zl7 "chains" (Ma (ca a)) [] EE (Dk s) (Ef (Dk q) G4)))
    ["_law_number","_law_steps"] [] (ziu K 2 (zeo (Wl 0) (zeo (Wl 1) zke)))
    tYes
    (zko
     (Ef (Dk 0)
      (Ef
       (tCB
        (fun xs H Q =>
         ∃ p ys,
           xs=[V.ref p] /\
            (SqL K H p ys\/SqT K H p ys)/\∀ (l:Addr),H l=none->Q (V.ref l) (upd H l (HO.lst ys)))
        (Ef (Dk 1) G4))
       G4)))) DD σ H:=by
 subst hat;obtain⟨⟨dx,vv,ob,_⟩,_⟩:=id SA;rw[eAp] at ob;obtain⟨g1,g2⟩:=F.so.gp sh (.inl hc);refine⟨_,hs,A1p,dx,_,rfl,ob,Z8 ⋯,_,hq,A3,S3,atV S3,(by rw[eAp];rfl),SA,zgw F.so hc ⟨by omega,fun lq ts H1 hlq gl s1 flq=>?_⟩⟩;have hln:=gl.length;refine⟨lq,rfl,⟨_,SqL.of hlq⟩,Iv (K:=K) (a:=lq) (xs:=ts) (fun i ys H'=>Same H1 H'/\Xz (·∉A3.fp) H' ys (sh.gaps.take i)/\ys.length=i) ⟨.refl _,.nil,rfl⟩ (fun i ys H' _ z=>SqL.of (z.1 _ _ hlq)) (szN ⋯) (fun i ys H' z=>by rw[z.2.2];exact zvd _) ?_ ?_⟩
 ·rintro i x ys H' hx ⟨s',gl',hyl⟩;obtain⟨t,l,m,us,st,rfl,hgi,ht,hl,tl,_⟩:=gl.get hx;refine⟨t,_,rfl,SqT.of (s' _ _ ht),rfl,_,_,rfl,_,_,rfl,rfl,⟨[#[e,m],#[c,l]],rfl,rfl⟩,?_⟩;unfold tYes;dsimp only;rw[if_pos rfl];refine⟨_,rfl,_,rfl,l,_,rfl,.inl (SqL.of (s' _ _ hl)),fun l' fl'=>⟨sz2,fun t' ft'=>?_⟩⟩;have s2:=(Zf (o:=.lst us) fl').trans (Zf (o:=.tup [.int m,.ref l']) ft');refine⟨s'.trans s2,?_,by rw[zu5,hyl];rfl⟩;rw[zwg,hgi];have q1:upd (upd H' l' (.lst us)) t' (.tup [.int m,.ref l']) l'=#[a,.lst,us]:=Zf (o:=.tup [.int m,.ref l']) ft' _ _ Zd;exact(gl'.keepL (.of s2)).snoc Zd q1 ((tl.same s').same s2) ((SA.same (s1.trans s')).newOk _ fl')
 ·rintro ys H' ⟨s',gl',hyl⟩ lx flx;rw[hln,zvk] at gl';have s2:=s1.trans (s'.trans (Zf (o:=.lst ys) flx));have q2:upd H' lx (.lst ys) lx=#[a,.lst,ys]:=Zd;obtain⟨kvs,b1,b2,Pz⟩:=(F.same s2).setMoves q2 (gl'.keepL (.of (Zf (o:=.lst ys) flx))) ((SA.same (s1.trans s')).newOk _ flx);exact⟨_,hp,d,_,rfl,DPut.k (k:=.inr "moves") b1 b2,k _ kvs lx s2 b1 Pz⟩
abbrev Dh:Stmt:=top 88
theorem Uq:Zl ["_law_script","_law_mixed","_law_rounds","_law_season","_law_pool_here","_law_pages","_law_k","_law_deed_here","_law_told","_law_page","_law_at_here","_law_j"] ["_law_script"] (Zj Dh):=fnS
theorem zj4(F:#[f,"law","law",Dh])(T:Tx K mg a)(zmr:Z4 P w K mg base "_law_at" 1 ["_law_script","_law_k"] (zdg K))(zr2:Sn P w K mg base "Season" a.zl7 3 ["self","rounds","rest"] (zco (ca a)))(zp7:Z4 P w K mg base "_law_rest" 2 ["_law_script"] (Af K))(zq2:Z4 P w K mg base "_law_pool" 2 ["_law_script","_law_crowd"] (Ah K))(zpf:Z4 P w K mg base "_law_enrolled" 9 ["_law_season","_law_pages","_law_deeds"] (Hm K (ca a)))(zqg:Z4 P w K mg base "_law_people" 2 ["_law_script","_law_pool_here"] (Hk K))(zqo:Z4 P w K mg base "_law_first" 1 ["_law_rounds","_law_rest_here"] zct)(zqy:Z4 P w K mg base "_law_deed" 3 ["_law_pages","_law_cell_here","_law_pool_here","_law_most","_law_mixed"] (As K))(zqx:Z4 P w K mg base "_law_cell" 2 ["_law_script","_law_k"] (Ag K))(zp4:Z4 P w K mg base "_law_do" 8 ["_law_season","_law_deed_here"] (zjz K (ca a)))(zof:Z4 P w K mg base "_law_paged" 3 ["_law_pages","_law_deed_here"] (Cd K))(znt:Zs P w K mg base a.zl7 "goes" 4 ["self","at"] (za8 (ca a)))(znd:Zs P w K mg base a.zl7 "chains" 4 ["self","at"] (Ma (ca a)))(zox:Z4 P w K mg base "_law_is_filling" 2 ["_law_may","_law_given"] (Kl K))(zou:Z4 P w K mg base "_law_open" 2 ["_law_page"] (zbd K))(zmn:Z4 P w K mg base "_law_one_is" 2 ["_law_found","_law_due"] Pp)(znv:Z4 P w K mg base "_law_closed_for_good" 8 ["_law_season","_law_at_here","_law_numbers_here"] (Aw K (ca a)))(zom:Z4 P w K mg base "_law_shows_round" 6 ["_law_season","_law_at_here","_law_kept","_law_people_here"] (Md K (ca a)))(zo4:Z4 P w K mg base "_law_facts_are" 5 ["_law_found","_law_page"] (Hr K))(zps:Zs P w K mg base a.zl7 "facts" 3 ["self"] (Dg (ca a))):FnOk P w K mg base (CX1 P w) 10 f fd ["_law_script"] (zcb K):=by
 refine #[g,Uq];obtain⟨b,ns,rfl,hS,hlen,h⟩:=h;have hu:=Wq hr;refine⟨_,(Zb (pS 1 Uq.nd (Zu Yz (pF zmr hr (Za (pv 0) (Za Zg Zc))) Zg))
 (Zb (pS 2 Uq.nd (Zu Yt Zg (Zu Yz (Zu Xj (pF zmr hr (Za (pv 0) (Za Zg Zc))) Zg) Zg)))
 (Zb (pS 3 Uq.nd (Dv zr2 (hr.mono ⋯) Zk rfl (Za (pv 2) (Za (pF zp7 hr (Za (pv 0) Zc)) Zc))))
 (Zb (pS 4 Uq.nd (pF zq2 hr (Za (pv 0) (Za Zg Zc))))
 (Zb (pS 5 Uq.nd (pF zpf hr (Za (pv 3) (Za (Ya (Za (pF zqo hr (Za (pv 2) (Za (pF zp7 hr (Za (pv 0) Zc)) Zc))) Zc)) (Za (pF zqg hr (Za (pv 0) (Za (pv 4) Zc))) Zc)))))
 (Zb (Ys PassesOwn.leaving rfl (Ec rfl T.zmx (Za Zg (Za (Zm (Ee rfl) (by rfl) T.zsf PyProof.Rows.boot_min (Za Zg (Za (Zm (cL K) (by rfl) T.zmg PySem.boot_len (Za (pv 0) Zc)) Zc))) Zc))) (pN 6 Uq.nd)
  (Zb (Z3 (Zo X8 (Zm (cL K) (by rfl) T.zmg PySem.boot_len (Za (pD hu (pI (iL K) (pv 5) (Ka Qw Zg)) Zq) Zc)) (pv 2) (Zt _))
   (Ze zen)
   Zp)
  (Zb (pS 7 Uq.nd (pF zqy hr (Za (pv 5) (Za (pF zqx hr (Za (pv 0) (Za (pv 6) Zc))) (Za (pv 4) (Za Zg (Za (pv 1) Zc)))))))
  (Zb (pS 8 Uq.nd (pF zp4 hr (Za (pv 3) (Za (pv 7) Zc))))
  (Zb (pS 5 Uq.nd (pF zof hr (Za (pv 5) (Za (pv 7) Zc))))
  (Zb (pS 9 Uq.nd (pI (iL K) (pv 5) (Ka Qw Zg)))
  (Zb (pS 10 Uq.nd (Zu Yt (Zm (cL K) (by rfl) T.zmg PySem.boot_len (Za (pD hu (pv 9) Zq) Zc)) Zg))
  (Zb (Z3 (Zo Ur (pD hu (pv 9) Zq) Yx (Zt _))
   (Zb (Ym hu (pv 9) Zq (Xm (Xa (K:=K) rfl) (by rfl) T.zno PyProof.Rows.boot_list (Za (Yo (pv 3) T.zl8 znt (hr.mono ⋯) Zk (Za (pv 10) Zc)) Zc)) rfl)
   (Zb (Ym hu (pv 9) Zq (N5 rfl (Og.mk (xo:=["_law_number","_law_steps"]) (ys:=[]) (js:=[]) rfl rfl ⋯ ⋯ rfl (by repeat' (first|exact True.intro|apply And.intro|rfl)) (by repeat' (first|exact True.intro|apply And.intro|rfl)) ⋯) (Yc (K:=K) rfl (Yo (pv 3) T.zl8 znd (hr.mono ⋯) Zk (Za (pv 10) Zc))) (fun _ _ _ _ _=>W8) (fun _ _ _ _ _=>(Xy (K:=K) (n:=2) rfl rfl (Zw (Vr (i:=0) (show List.Nodup [("_law_number":Str),("_law_steps":Str)] by decide +kernel) rfl (by first|exact Or.inl rfl|exact Or.inr rfl)) (Zw (Vr (i:=1) (show List.Nodup [("_law_number":Str),("_law_steps":Str)] by decide +kernel) rfl (by first|exact Or.inl rfl|exact Or.inr rfl)) Xx)))) (fun _ _ _ _ _=>(Yd (Za (pv 0) (Za (Xm (Xa (K:=K) rfl) (by rfl) T.zno PyProof.Rows.boot_list (Za (pv 1) Zc)) Zc))))) rfl)
   (Ze (Z3 (Yy (Yr (pF zox hr (Za (pF zou hr (Za (pv 9) Zc)) (Za (pD hu (pv 9) Zq) Zc)))))
    (Ze (Zn Xc))
    Zp))))
   Zp)
  (Zb (Z3 (PW.pt (Om (Zo X8 (pI (iU K) (pv 7) Zg) Zq (Zt _)) (Rr (Yy (Yr (pF zmn hr (Za (pv 8) (Za (Zu Sl (pv 10) Zg) Zc))))))))
   (Ze (Zn Xc))
   Zp)
  (Zb (Z3 (PW.pt (Om (Zo X8 (pI (iU K) (pv 7) Zg) Zq (Zt _)) (Rr (Yy (Yr (pF znv hr (Za (pv 3) (Za (Zu Sl (pv 10) Zg) (Za (Zu Ow (pI (iU K) (pv 4) Zg) (Ya (Za Zg Zc))) Zc)))))))))
   (Ze (Zn Xc))
   Zp)
  (Ze (Ys PassesOwn.leaving rfl (Y3 rfl T.zmx (Za (Zm (cL K) (by rfl) T.zmg PySem.boot_len (Za (pD hu (pv 9) Zq) Zc)) Zc)) (pN 11 Uq.nd)
   (Ze (Z3 (Yy (Yr (pF zom hr (Za (pv 3) (Za (Zu Yt (pv 11) Zg) (Za (pI (iL K) (pD hu (pv 9) Zq) (pv 11)) (Za (pD hu (pv 9) Zq) Zc)))))))
    (Ze (Zn Xc))
    Zp))))))))))))))
 (Ze (Zn (pF zo4 hr (Za (Yh (pv 3) T.zl8 zps (hr.mono ⋯) Zk) (Za (pI (iL K) (pv 5) (Ka Qw Zg)) Zc))))))))))),?_⟩
 show let y1:TS:=_;let y2:TS:=tSeq _ y1;let y3:TS:=_;let y4:TS:=tSeq _ y3;let y5:TS:=tSeq _ y4;let y6:TS:=tSeq (Cz _ (tSeq _ y2) _) y5;let y7:TS:=tSeq _ y6;let y8:TS:=tSeq _ y7;let y9:TS:=tSeq _ y8;let y10:TS:=tSeq _ y9;let y11:TS:=tSeq _ y10;let y12:TS:=_;let y13:TS:=tSeq (zes _ _ (tSeq _ y11)) y12;let y14:TS:=tSeq _ y13;let y15:TS:=tSeq _ y14;let y16:TS:=tSeq _ y15;let y17:TS:=tSeq _ y16;tSeq _ y17 _ _ _;intro y1 y2 y3 y4 y5 y6 y7 y8 y9 y10 y11 y12 y13 y14 y15 y16 y17;refine⟨_,rfl,b,ns,0,rfl,hS,_,_,rfl,rfl,(show (0:Int)<2 by decide),?_⟩;obtain⟨mx,hmx,hmx1⟩:∃ mx:Nat,X5 ns 0%2=(mx:Int)/\mx<=1:=⟨(X5 ns 0%2).toNat,by omega,by omega⟩;walk_at "if";rw[hmx];refine⟨_,rfl,b,ns,1,rfl,hS,_,_,rfl,rfl,⟨by decide,by decide⟩,_,_,rfl,rfl,(show (0:Int)<12 by decide),_,_,rfl,rfl,?_⟩;obtain⟨rr,hrr,hr1,hr60⟩:∃ rr:Nat,1+X5 ns 1/22%12=(rr:Int)/\1<=rr/\rr<=60:=⟨(1+X5 ns 1/22%12).toNat,by omega,by omega,by omega⟩;walk_at "if";rw[hrr];refine⟨_,rfl,_,rfl,b,ns,rfl,hS,fun rq H2 hrq hq10 s2=>?_⟩;have hS2:=s2.seq hS;intro p0 dx0 hp0 hdx0 ne0;refine⟨p0,dx0,rr,rq,rfl,Zd,Ye ⋯ ⋯,Ye ⋯ ⋯,?_⟩;rw[if_neg ⋯,if_neg ⋯];intro A1 H4 hAp SA4 k4 f4;rw[zvj,zvj] at SA4;have s4:Same H2 H4:=fun x o e=>k4 x o (by rw[Zi (Zh e hp0),Zi (Zh e hdx0)];exact e) (Zh e hp0);have ff:∀ x∈A1.fp,H2 x=none:=fun x hx=>by
  by_cases z:x=p0
  ·rw[z];exact hp0
  ·have:=f4 x hx z;rw[Zi z] at this;by_cases w:x=dx0
   ·rw[w];exact hdx0
   ·rw[Zi w] at this;exact this
 have SC4:Rk K A1 H4 b (ns.map V.int):=.make hS2 A1 H4 s4 ff;clear f4 k4;subst hAp;refine⟨rfl,?_⟩;walk_at "if";refine⟨_,rfl,b,ns,7,rfl,SC4.sq,by decide,by decide,fun t lc ln cs nu H6 PL hnu s6 ft flc fln=>?_⟩;have SA6:=SA4.same s6;have SC6:=SC4.fr (.of s6);have no5:=SA4.newOk;have PO6:Mc A1 H6 t lc ln cs nu:=⟨PL,no5 _ ft,no5 _ flc,no5 _ fln⟩;walk_at "if";refine⟨_,rfl,_,rfl,_,rfl,b,ns,rfl,SC6.sq,fun rq' H8 hrq' _ s8=>?_⟩;cases (hrq'.trans hrq.symm);refine⟨rr,rq,rfl,fun d9 H9 pg9 s9 fd9=>⟨(by show 1<=sizeLine;rw[sizeLine_eq];decide),fun l10 fl10=>?_⟩⟩;have SC9:=(SC6.fr (.of s8)).fr (.of s9);have SA9:=(SA6.same s8).same s9;have PO9:=(PO6.fr (.of s8)).fr (.of s9);have no8:=(SA6.same s8).newOk;have F9:=zbj (mb:=true) (nu:=nu) (n:=0) (pg9.imp (ok':=(·∉A1.fp)) fun x _ hx=>no8 x hx) hr60 hq10;have s10:=Zf (o:=.lst [.ref d9]) fl10;have q10:=Zd (H:=H9) (a:=l10) (o:=.lst [.ref d9]);have o10:=SA9.newOk _ fl10;generalize upd H9 l10 (.lst [.ref d9])=H10 at s10 q10 ⊢;have SA10:=SA9.same s10;have SC10:=SC9.fr (.of s10);have PO10:=PO9.fr (.of s10);have F10:=F9.same s10;clear SA9 SC9 PO9 F9 SA6 SC6 PO6 PL SC4 SA4 no5 no8 pg9 hS hS2;have nfew:=PO10.at_.nfew;refine⟨_,rfl,_,rfl,b,t,lc,ln,ns,cs,nu,rfl,SC10.sq,PO10.at_,fun le ts es H11 hle tl en el eok s11 fle=>?_⟩;have SA11:=SA10.same s11;have nd11:(es.map (·.1)).Nodup:=by rw[en];exact PO10.at_.nnd.sublist (List.take_sublist _ _)
 refine⟨true,A1,l10,le,ts,es,[],d9,_,_,nu,0,rfl,SA11,s11 _ _ q10,o10,F10.same s11,hle,SA10.newOk _ fle,tl,nd11,fun x hx=>?_,(by show 0+es.length<=30;omega),by omega,rfl,(by show 0<rr;omega),fun A2 l2 ds2 d2 P2 S2 H12 SA12 hl12 ho12 F12 f12 hc12 he12 hn12=>?_⟩
 ·obtain⟨x1,x2,x3⟩:=eok x hx;have hxn:x.1∈nu:=by
   have:x.1∈es.map (·.1):=zvb.mpr ⟨x,hx,rfl⟩;rw[en] at this;exact zwx this
  refine⟨hxn,?_,nofun⟩;have:=PO10.at_.nrng _ hxn;have:=PO10.at_.crng _ x3;unfold badI;omega
 have SC12:=(SC10.fr (.of s11)).fr f12;have PO12:=(PO10.fr (.of s11)).fr f12;have hAp:=f12.p;have OO12:Kx 30 S2:=fun s hs=>by
  have h1:=F12.so.olen;rw[he12] at h1;have:S2.old=[]:=zwl.mp h1;rw[this] at hs;cases hs
 have hL12:S2.len=rr:=hn12;walk_at "if";show tSeq _ _ _ [#[c,b],#[e,mx],#[e,rr],#[c,A1.p],#[c,t],#[c,l2],none,none,none,none,none,none] H12;refine⟨_,rfl,b,_,rfl,.inl SC12.sq,?_⟩;rw[zu2];refine⟨_,_,rfl,6,_,rfl,⟨by omega,by omega,by split<;>omega,by split<;>omega⟩,?_⟩;obtain⟨N0,hN0,hN1⟩:∃ N0:Nat,((if (ns.length:Int)<63 then (ns.length:Int) else 63)-6).toNat=N0/\∀ i:Nat,i<N0->6+i<ns.length:=⟨_,rfl,fun i hi=>by split at hi<;>omega⟩;have hN57:N0<=57:=by rw[<- hN0];split<;>omega
 rw[hN0]
 let jv1:Nat->L2.St->Hp->Prop:=fun i σ H'=>∃ A2 l2 ds2 d2 P2 S2 v6 v7 v8 v9 v10 v11,σ=[#[c,b],#[e,mx],#[e,rr],#[c,A1.p],#[c,t],#[c,l2],v6,v7,v8,v9,v10,v11]/\Zy (ca a) H' A2 S2/\H' l2=some (.lst ((ds2++[d2]).map V.ref))/\l2∉A2.fp/\Full true (·∉A2.fp) H' nu (30+i) ds2 d2 P2 S2/\Rk K A2 H' b (ns.map V.int)/\Mc A2 H' t lc ln cs nu/\A2.p=A1.p/\Kx (30+i) S2/\S2.len=rr
 refine Cj jv1
  ⟨A2,l2,ds2,d2,P2,S2,_,_,_,_,_,_,rfl,SA12,hl12,ho12,⟨F12.pg,F12.re,F12.so.mono ⋯,?_⟩,SC12,PO12,hAp,OO12,hL12⟩ ?_ ?_
 ·obtain⟨nd,e|⟨S0,bb,rr'⟩⟩:=F12.tl
  ·exact⟨nd,.inl e⟩
  ·exact⟨nd,.inr ⟨S0,bb.mono ⋯,rr'⟩⟩
 ·rintro N hN i σ H1 hi ⟨A2,l2,ds2,d2,P2,S2,v6,v7,v8,v9,v10,v11,rfl,SA,hl2,ho2,F,SC,PO,eAp,OO,eL⟩;have hki:=hN1 i hi;have e6:(6:Int)+(i:Int)=((6+i:Nat):Int):=by omega
  rw[e6];walk_at "if";obtain⟨lp,lo,lv,dv,li,lg,lm,a1,PB,okd⟩:=id F.pg.split;have hat:atI ((ds2++[d2]).map V.ref) (-1)=#[a,V.ref,d2]:=by rw[zu9];exact L2.atI_last _ _
  obtain⟨vts,u1,u2,u3⟩:=PB.vv;have hvl:(vts.length:Int)=(P2.over.length:Int):=by rw[u2.length]
  refine Ue (Vb (b:=decide (V.int (P2.over.length:Int)=V.int (rr:Int))) (fun Q q=>⟨_,rfl,_,rfl,l2,_,_,_,rfl,rfl,SqL.of hl2,hat,d2,_,rfl,DGet.k (k:=.inr "over") a1,lv,vts,rfl,.inl (SqL.of u1),_,rfl,rfl,_,rfl,by rw[hvl];exact q⟩) (itB (fun _=>hN i _ _ ⟨A2,l2,ds2,d2,P2,S2,_,_,_,_,_,_,rfl,SA,hl2,ho2,F,SC,PO,eAp,OO,eL⟩) fun hb=>Zx ?_));have hlt:P2.over.length<P2.len:=by
   have h1:=F.re.b.olen;have h2:=F.so.olen;have h3:=F.so.len;have h4:=F.re.b.len;have h5:=of_decide_eq_false hb;have h6:P2.over.length≠rr:=fun z=>h5 (by rw[z]);omega
  dsimp only;refine⟨_,rfl,_,rfl,_,rfl,b,ns,6+i,rfl,SC.sq,hki,fun cell H2 s2=>?_⟩;have s3:=s2;refine⟨_,rfl,_,rfl,(·∉A2.fp),l2,t,lc,ln,ds2,d2,P2,cell,cs,nu,5,mx,rfl,s3 _ _ hl2,F.pg.same s3,PO.at_.same s3,by decide,hmx1,hlt,(by rw[F.re.b.ppl];have:=F.so.few;omega),fun t' D H4 hD gD s4 ft'=>?_⟩;have s34:=s3.trans s4;have SA4:=SA.same s34;have F4:=F.same s34;have SC4:=SC.fr (.of s34);have PO4:=PO.fr (.of s34);have hD4:=zh4 (SA.same s3) hD;have g:=zh3 F.re.b F.so gD hlt ⋯ ⟨nfew.2,PO.at_.nrng⟩ PO.at_.crng F.back;have hkn:∀ k gr c,D=.enrol k gr c->k∈nu:=fun k gr c z=>by rw[z] at gD;exact gD.2.1
  walk_at "if";obtain⟨w1,w2,w3,w4,w5,w6,w7,w8,w9,w10⟩:=F4.pre g ⋯;refine⟨_,rfl,_,rfl,A2,S2,t',D,(by rw[<- eAp];rfl),SA4,hD4,g,w1,w2,w3,w4,w5,w6,w7,w8,w9,w10,fun v' A3 S3 H5 af SA5 nx fr told=>?_⟩;have f5:=FrN.next SA4 nx fr;obtain⟨c1,c2,c3,c4,c5⟩:=F4.pre2 g ⋯
  walk_at "if";refine⟨_,rfl,_,rfl,(·∉A3.fp),l2,t',ds2,d2,P2,D,rfl,(f5.k _ _ (s34 _ _ hl2) ho2).1,F4.pg.fr f5,hD4.fr f5,c1,c2,c3,c4,c5,fun l6 d6 H6 hl6 pg6 s6 fl6 fd6=>?_⟩;obtain⟨ds7,d7,P7,ek,Pe,eP,eR⟩:=turn F4 SA4 af SA5 nx fr g hkn pg6 s6 fd6;have OO3:Kx (30+(i+1)) S3:=(zeb F.so OO af).mono ⋯;have eL3:S3.len=rr:=(zed af).trans eL;have SA6:=SA5.same s6;have o6:=SA5.newOk _ fl6;have SC6:=(SC4.fr f5).fr (.of s6);have PO6:=(PO4.fr f5).fr (.of s6);have eAp6:=f5.p.trans eAp;rw[ek] at hl6;have hat7:atI ((ds7++[d7]).map V.ref) (-1)=#[a,V.ref,d7]:=by rw[zu9];exact L2.atI_last _ _
  have hD6:=(hD4.fr f5).same s6;obtain⟨rw6,hw6⟩:=hD6.word;have eN:30+i+1=30+(i+1):=by omega
  rw[eN] at Pe;walk_at "if";refine⟨_,rfl,_,rfl,l6,_,_,_,rfl,rfl,SqL.of hl6,hat7,?_⟩;walk_at "if";obtain⟨lp7,lo7,lv7,dv7,li7,lg7,lm7,y1,y2,y3⟩:=id Pe.pg.split;have hls:=y2.li.some;obtain⟨vts7,z1,z2,z3⟩:=y2.vv;have hvl7:(vts7.length:Int)+1=atV S3:=by rw[z2.length];exact Pe.rb.at Pe.so
  have hpl7:P7.ppl.length<=100:=by rw[Pe.rb.ppl];have:=Pe.so.few;omega
  refine⟨_,rfl,d7,_,rfl,DGet.k (k:=.inr "over") y1,lv7,vts7,rfl,.inl (SqL.of z1),_,_,rfl,rfl,?_⟩;walk_at "if";rw[hvl7];have re2:=F4.re;clear SA F SA4 F4 SC4 PO4 SC PO hD4 hD SA5
  let jv2:L2.St->Hp->Prop:=fun σ' Hz=>σ'=[#[c,b],#[e,mx],#[e,rr],#[c,A1.p],#[c,t],#[c,l6],#[e,((6+i:Nat):Int)],#[c,t'],some v',#[c,d7],some (.int (atV S3)),v11]/\∃ Pz,Zy (ca a) Hz A3 S3/\Full true (·∉A3.fp) Hz nu (30+(i+1)) ds7 d7 Pz S3/\Hz l6=some (.lst ((ds7++[d7]).map V.ref))/\Rk K A3 Hz b (ns.map V.int)/\Mc A3 Hz t lc ln cs nu/\Hz t'=#[a,.tup,.str (Kw D) :: rw6]
  refine Kh (b:=P7.lis.isSome) jv2
   (fun Q q=>⟨_,rfl,d7,_,rfl,DGet.k (k:=.inr "listed") y1,rfl,_,rfl,by rw[hls];exact q⟩) (fun hb' N' hN'=>?_) (fun hb' N' hN'=>Zx (hN' _ _ ⟨rfl,P7,SA6,?_,hl6,SC6,PO6,hw6⟩)) ?_
  ·obtain⟨ms,hms⟩:=zwf.mp hb';obtain⟨sh,hcur,hshm⟩:=Pe.rb.drawn hms;subst hshm;obtain⟨k1,k2,k3,k4,k5⟩:=Pe.so.cur sh hcur;have hml:sh.may.length=sh.ms.length:=by rw[k4];unfold mayS;rw[zu2]
   have hgl:sh.gv.length=sh.may.length:=k2.len;obtain⟨⟨dx7,vv7,ob7,_⟩,_⟩:=id SA6;rw[eAp6] at ob7;refine⟨_,rfl,A1.p,dx7,_,rfl,ob7,Z8 ⋯,_,rfl,A3,S3,atV S3,(by rw[eAp6];rfl),SA6,zgw Pe.so hcur fun lg2 H10 hlg2 s10 flg2=>?_⟩;refine⟨lg2,_,rfl,.inl (SqL.of hlg2),fun lg' flg=>?_⟩;have s13:=s10.trans (Zf (o:=.lst sh.gv) flg);have q13:=Zd (H:=H10) (a:=lg') (o:=.lst sh.gv);have o13:=(SA6.same s10).newOk _ flg;generalize upd H10 lg' (.lst sh.gv)=H13 at s13 q13 ⊢;obtain⟨kvs,b1,b2,Pe14⟩:=(Pe.same s13).setGoes q13 o13;refine⟨_,rfl,d7,_,rfl,DPut.k (k:=.inr "goes") b1 b2,?_⟩;have SA14:=(SA6.same s13).dictW (kvs':=putK kvs (.inr "goes") (.ref lg')) b1 y3;have kl14:=Xi.dict b1 (kvs':=putK kvs (.inr "goes") (.ref lg'));have l14:=kl14.1 _ _ (s13 _ _ hl6);have SC14:=(SC6.fr (.of s13)).dictW (kvs':=putK kvs (.inr "goes") (.ref lg')) b1;have PO14:=(PO6.fr (.of s13)).dictW (kvs':=putK kvs (.inr "goes") (.ref lg')) b1;have w14:=kl14.2 _ _ (s13 _ _ hw6);generalize upd H13 d7 (.dK (putK kvs (.inr "goes") (.ref lg')))=H14 at Pe14 SA14 l14 SC14 PO14 w14 ⊢;clear kl14;refine Ue ?_;refine zj3 rfl rfl rfl SA14 eAp6 rfl hcur Pe14 ⋯ fun H15 kvs2 lx s15 b3 Pe16=>?_;have SA16:=(SA14.same s15).dictW (kvs':=putK kvs2 (.inr "moves") (.ref lx)) b3 y3;have kl16:=Xi.dict b3 (kvs':=putK kvs2 (.inr "moves") (.ref lx));have l16:=kl16.1 _ _ (s15 _ _ l14);have SC16:=(SC14.fr (.of s15)).dictW (kvs':=putK kvs2 (.inr "moves") (.ref lx)) b3;have PO16:=(PO14.fr (.of s15)).dictW (kvs':=putK kvs2 (.inr "moves") (.ref lx)) b3;have w16:=kl16.2 _ _ (s15 _ _ w14);generalize upd H15 d7 (.dK (putK kvs2 (.inr "moves") (.ref lx)))=H16 at Pe16 SA16 l16 SC16 PO16 w16 ⊢;clear kl16;have F16:=Pe16.full (fun s hs=>by rw[hcur] at hs;cases hs;rfl) fun _=>(Hl hcur).symm;refine⟨_,rfl,(·∉A3.fp),d7,_,sh.ms,rfl,F16.pg,F16.re.b.ovok F16.so,hms,by omega,hpl7,fun lw ls H17 hlw ilw s17 flw _=>?_⟩;rw[F16.re.b.may F16.so,<- k4] at ilw;have F17:=F16.same s17;obtain⟨lp9,lo9,lv9,dv9,li9,lg9,lm9,x1,x2,x3⟩:=id F17.pg.split;obtain⟨gg1,gg2⟩:=x2.gg;refine⟨_,rfl,d7,_,rfl,DGet.k (k:=.inr "goes") x1,lw,lg9,ls,sh.may,sh.gv,rfl,hlw,ilw,by omega,gg1,k2,fun H18 s18=>⟨true,rfl,iteF (Zx ?_)⟩⟩;have s1618:=s17.trans s18;exact hN' _ _ ⟨rfl,_,SA16.same s1618,F17.same s18,s1618 _ _ l16,SC16.fr (.of s1618),PO16.fr (.of s1618),s1618 _ _ w16⟩
  ·have hno:P7.lis=none:=by
    cases hq:P7.lis with
    | none=>rfl
    | some ms=>rw[hq] at hb';cases hb'
   have hcn:=Pe.rb.undrawn hno;refine Pe.full (fun s hs=>by rw[hcn] at hs;cases hs) fun _=>zh5 re2 eP eR hno hcn rfl
  rintro σ' Hz ⟨rfl,Pz,SAz,Fz,lz,SCz,POz,wz⟩;have hw0:atI (V.str (Kw D) :: rw6) 0=some (V.str (Kw D)):=Z0 (j:=0) rfl;have gl3:S3.led.length=S3.old.length:=Fz.so.olen.symm;have hlen3:=Fz.so.len;have hat1:D=.close->v'=.int (atV S3-1)/\S3.std=[]/\S3.cur=none/\1<=S3.led.length:=fun z=>by
   subst z;cases af with
   | @close s hc =>
     refine⟨?_,rfl,rfl,?_⟩
     ·show V.int (atV S2)=V.int (((S2.led++[Z5 s]).length:Int)+1-1);rw[zu5];unfold atV;simp
     ·show 1<=(S2.led++[Z5 s]).length;rw[zu5];simp
  let jv3:L2.St->Hp->Prop:=fun σ' Hy=>σ'=[#[c,b],#[e,mx],#[e,rr],#[c,A1.p],#[c,t],#[c,l6],#[e,((6+i:Nat):Int)],#[c,t'],some v',#[c,d7],some (.int (atV S3)),v11]/\Same Hz Hy
  refine N4 (b:=false) jv3 (fun Q q=>?_) (fun z=>nomatch z) (fun _ H1 s1 N hN=>Zx (hN _ _ ⟨rfl,s1⟩)) ?_
  ·refine⟨_,rfl,t',_,_,_,rfl,rfl,SqT.of wz,hw0,rfl,_,rfl,?_⟩;by_cases hcl:D=.close
   ·rw[hcl,show decide (V.str (Kw Rj.close)=V.str "close")=true from He];obtain⟨e1,_⟩:=hat1 hcl;refine iteT ?_;refine⟨_,rfl,_,rfl,_,_,rfl,rfl,?_⟩;rw[e1];exact⟨_,rfl,.inr ⟨_,rfl⟩,true,rfl,q _ (.refl _)⟩
   ·rw[Ax hcl];exact iteF (q _ (.refl _))
  rintro σ2 Hy ⟨rfl,sy⟩
  let jv4:L2.St->Hp->Prop:=fun σ' Hx=>σ'=[#[c,b],#[e,mx],#[e,rr],#[c,A1.p],#[c,t],#[c,l6],#[e,((6+i:Nat):Int)],#[c,t'],some v',#[c,d7],some (.int (atV S3)),v11]/\Same Hz Hx
  refine N4 (b:=false) jv4 (fun Q q=>?_) (fun z=>nomatch z) (fun _ H1 s1 N hN=>Zx (hN _ _ ⟨rfl,sy.trans s1⟩)) ?_
  ·refine⟨_,rfl,t',_,_,_,rfl,rfl,SqT.of (sy _ _ wz),hw0,rfl,_,rfl,?_⟩;by_cases hcl:D=.close
   ·rw[hcl,show decide (V.str (Kw Rj.close)=V.str "close")=true from He];obtain⟨e1,e2,e3,e4⟩:=hat1 hcl;have PO':=(POz.fr (.of sy)).at_;refine iteT ?_;refine⟨_,rfl,_,rfl,_,_,rfl,rfl,_,rfl,t,_,_,_,rfl,rfl,SqT.of PO'.tup,rfl,(by show 1<=sizeLine;rw[sizeLine_eq];decide),fun l1 f1=>?_⟩;have s1:=Zf (o:=.lst [.int 0]) f1;have q1:=Zd (H:=Hy) (a:=l1) (o:=.lst [.int 0]);generalize upd Hy l1 (.lst [.int 0])=H1' at s1 q1 ⊢;refine⟨ln,l1,_,_,rfl,rfl,s1 _ _ PO'.nums,q1,szN (by rw[zu2];show nu.length+1<=1000;omega),fun l2' f2=>?_⟩;have s2':=s1.trans (Zf (o:=.lst (nu.map V.int++[.int 0])) f2);have q2:upd H1' l2' (.lst (nu.map V.int++[.int 0])) l2'=some (.lst ((nu++[0]).map V.int)):=by rw[Zd,zu9];rfl
    generalize upd H1' l2' (.lst (nu.map V.int++[.int 0]))=H2' at s2' q2 ⊢;have hi3:(1:Int)<=atV S3-1/\atV S3-1<=S3.led.length:=by unfold atV;omega
    refine⟨A3,S3,atV S3-1,l2',nu++[0],(by rw[eAp6];rfl),SAz.same (sy.trans s2'),Ye ⋯ ⋯,hi3.1,hi3.2,by omega,e2,e3,Fz.so.pok,by have:=Fz.so.num;omega,q2,fun n hn=>?_,by rw[zu5];show nu.length+1<=1000;omega,fun Hw sw=>⟨true,rfl,q _ (s2'.trans sw)⟩⟩;rcases zve.mp hn with z|z
    ·have:=PO'.nrng _ z;exact Ye ⋯ ⋯
    ·rw[zu6.mp z];exact Ye ⋯ ⋯
   ·rw[Ax hcl];exact iteF (q _ (.refl _))
  rintro σ3 Hx ⟨rfl,sx⟩;have SAx:=SAz.same sx;have Fx:=Fz.same sx;have lx:=sx _ _ lz;have SCx:=SCz.fr (.of sx);have POx:=POz.fr (.of sx);clear SAz Fz SCz POz sy sx hat1;obtain⟨lpx,lox,lvx,dvx,lix,lgx,lmx,x1,x2,x3⟩:=id Fx.pg.split;obtain⟨ptx,p1,p2,p3⟩:=x2.pp;obtain⟨vtx,o1,o2,o3⟩:=x2.vv;have eov:=Fx.re.b.overT;have hvx:vtx.length=S3.old.length:=by rw[o2.length,eov]
  have hol:=Fx.so.olen
  let jv5:Nat->L2.St->Hp->Prop:=fun j σ' Hy=>(∃ v,σ'=[some (.ref b),some (.int mx),some (.int rr),some (.ref A1.p),some (.ref t),some (.ref l6),some (.int ((6+i:Nat):Int)),some (.ref t'),some v',some (.ref d7),some (.int (atV S3)),v])/\Same Hx Hy
  refine⟨_,rfl,d7,_,rfl,DGet.k (k:=.inr "over") x1,lvx,vtx,rfl,.inl (SqL.of o1),_,rfl,by omega,by omega,Xu jv5 ⟨⟨_,rfl⟩,.refl _⟩ (fun j σ' Hy hj ⟨⟨v,hv⟩,sy⟩=>?_) fun σ' Hy ⟨⟨v,hv⟩,sy⟩=>?_⟩
  ·subst hv;rw[zvj,hvx] at hj;rw[zwb];have hsj:S3.old[j]?=some (S3.old[j]'hj):=zu3 hj;generalize S3.old[j]'hj=sh at hsj;obtain⟨tj,lj,gj,mj,yj,tsj,mtsj,lsj,c1',c2',c3',c4',c5',c6',c7',c8',c9'⟩:=o2.all (by rw[eov];exact hsj);have SAy:=SAx.same sy;walk_at "if";refine⟨_,rfl,_,rfl,_,_,rfl,rfl,_,rfl,d7,_,rfl,DGet.k (k:=.inr "over") (sy _ _ x1),_,rfl,lvx,_,_,_,rfl,rfl,SqL.of (sy _ _ o1),Z0 c1',_,rfl,d7,_,rfl,DGet.k (k:=.inr "people") (sy _ _ x1),?_⟩;refine⟨(·∉A3.fp),A3,S3,(j:Int)+1,tj,lpx,lj,gj,mj,yj,tsj,mtsj,ptx,lsj,sh,(by rw[eAp6];rfl),SAy,⟨Ye ⋯ ⋯,hol,by omega,by omega⟩,zec hol hsj,sy _ _ c2',sy _ _ c3',c4'.same sy,sy _ _ c5',sy _ _ c6',c7'.keepL (.of sy),sy _ _ c8',c9'.same sy,sy _ _ p1,(by rw[<- Fx.re.b.ppl];exact p2.same sy),Fx.so.pok,(OO3 sh (zvc hsj)).mono ⋯,fun Hw sw=>⟨true,rfl,iteF (Zx ⟨⟨_,rfl⟩,sy.trans sw⟩)⟩⟩
  ·subst hv;exact⟨A3,l6,ds7,d7,Pz,S3,_,_,_,_,_,_,rfl,SAx.same sy,sy _ _ lx,o6,Fx.same sy,SCx.fr (.of sy),POx.fr (.of sy),eAp6,OO3,eL3⟩
 ·rintro i σ H1 ⟨A2,l2,ds2,d2,P2,S2,v6,v7,v8,v9,v10,v11,rfl,SA,hl2,ho2,F,SC,PO,eAp,OO,eL⟩;have hat:atI ((ds2++[d2]).map V.ref) (-1)=#[a,V.ref,d2]:=by rw[zu9];exact L2.atI_last _ _
  obtain⟨⟨dx2,vv2,ob2,_⟩,_⟩:=id SA;rw[eAp] at ob2;refine⟨_,rfl,A1.p,dx2,_,rfl,ob2,Z8 ⋯,A2,S2,(by rw[eAp];rfl),SA,(by have:=F.so.len;omega),fun lf lfs H2 hlf rlf s2 _ _=>?_⟩;exact⟨_,rfl,_,rfl,l2,_,_,_,rfl,rfl,SqL.of (s2 _ _ hl2),hat,(·∉A2.fp),lf,d2,lfs,P2,rfl,hlf,F.pg.same s2,F.re.b.ovok F.so,(by rw[F.re.b.rows,<- F.so.led];exact rlf),fun H3 s3=>h H3⟩
end
end K36
namespace K36
open PySem PySem.Spec PyProof.Rows L2 G PySem.W
theorem zj5{l:OpenLaw}{w:World}{K:Frag}{h:Heap}{mg:Str->Option Value}{fa zp5 zmw zni zm2 zm8 zm7 zos zoi zm9 zmu zny znr zpl zow zme znh zl9 zmd zmb zl7 f0 f1 f2 f3 f4 f5 f6 f7 f8 f9 f10 f11 f12 f13 f14 f15 f16 f17 f18 f19 f20 f21 f22 f23 f24 f25 f26 f27 f28 f29 f30 f31 f32 f33 f34 f35 f36 f37 f38 f39 f40 f41 f42 f43 f44 f45 f46 f47 f48 f49 f50 f51 f52 f53 f54 f55 f56 f57 f58 f59 f60 f61 f62 f63 f64 f65 f66 f67 f68 f69 f70 f71 f72 f73 f74 f75 f76 f77 f78 f79 f80 f81 f82 f83 f84 f85 f86 f87 f88 f89 f90 f91 f92 f93:Addr}{tk0 tk1 tk2 tk3 tk4 tk5 tk6 tk7:Tok}{u0 n0 u1 n1 u2 n2 u3 n3 u4 n4 u5 n5 u6 n6 u7 n7 u8 n8 u9 n9 u10 n10 u11 n11 u12 n12 u13 n13 u14 n14 u15 n15 u16 n16 u17 n17 u18 n18 u19 n19 u20 n20 u21 n21 u22 n22 u23 n23 u24 n24 u25 n25 u26 n26 u27 n27 u28 n28 u29 n29 u30 n30 u31 n31 u32 n32 u33 n33 u34 n34 u35 n35 u36 n36 u37 n37 u38 n38 u39 n39 u40 n40 u41 n41 u42 n42 u43 n43 u44 n44 u45 n45 u46 n46 u47 n47 u48 n48 u49 n49 u50 n50 u51 n51 u52 n52 u53 n53 u54 n54 u55 n55 u56 n56 u57 n57 u58 n58 u59 n59 u60 n60 u61 n61 u62 n62 u63 n63 u64 n64 u65 n65 u66 n66 u67 n67 u68 n68 u69 n69 u70 n70 u71 n71 u72 n72 u73 n73 u74 n74 u75 n75 u76 n76 u77 n77 u78 n78 u79 n79 u80 n80 u81 n81 u82 n82 u83 n83 u84 n84 u85 n85 u86 n86 u87 n87 u88 n88 u89 n89 u90 n90 u91 n91 u92 n92 u93 n93:Option Addr}{z0 z1 z2 z3 z4 z5 z6 z7 z8 z9 z10 z11 z12 z13 z14 z15 z16 z17 z18 z19 z20 z21 z22 z23 z24 z25 z26 z27 z28 z29 z30 z31 z32 z33 z34 z35 z36 z37 z38 z39 z40 z41 z42 z43 z44 z45 z46 z47 z48 z49 z50 z51 z52 z53 z54 z55 z56 z57 z58 z59 z60 z61 z62 z63 z64 z65 z66 z67 z68 z69 z70 z71 z72 z73 z74 z75 z76 z77 z78 z79 z80 z81 z82 z83 z84 z85 z86 z87 z88 z89 z90 z91 z92 z93:Array (Option Value)}{o0 v0 d0 m0 c0 t0 o1 v1 d1 m1 c1 t1 o2 v2 d2 m2 c2 t2 o3 v3 d3 m3 c3 t3 o4 v4 d4 m4 c4 t4 o5 v5 d5 m5 c5 t5 o6 v6 d6 m6 c6 t6 o7 v7 d7 m7 c7 t7 o8 v8 d8 m8 c8 t8 o9 v9 d9 m9 c9 t9 o10 v10 d10 m10 c10 t10 o11 v11 d11 m11 c11 t11 o12 v12 d12 m12 c12 t12 o13 v13 d13 m13 c13 t13 o14 v14 d14 m14 c14 t14 o15 v15 d15 m15 c15 t15 o16 v16 d16 m16 c16 t16 o17 v17 d17 m17 c17 t17 o18 v18 d18 m18 c18 t18 o19 v19 d19 m19 c19 t19 o20 v20 d20 m20 c20 t20 o21 v21 d21 m21 c21 t21 o22 v22 d22 m22 c22 t22 o23 v23 d23 m23 c23 t23 o24 v24 d24 m24 c24 t24 o25 v25 d25 m25 c25 t25 o26 v26 d26 m26 c26 t26 o27 v27 d27 m27 c27 t27 o28 v28 d28 m28 c28 t28 o29 v29 d29 m29 c29 t29 o30 v30 d30 m30 c30 t30 o31 v31 d31 m31 c31 t31 o32 v32 d32 m32 c32 t32 o33 v33 d33 m33 c33 t33 o34 v34 d34 m34 c34 t34 o35 v35 d35 m35 c35 t35 o36 v36 d36 m36 c36 t36 o37 v37 d37 m37 c37 t37 o38 v38 d38 m38 c38 t38 o39 v39 d39 m39 c39 t39 o40 v40 d40 m40 c40 t40 o41 v41 d41 m41 c41 t41 o42 v42 d42 m42 c42 t42 o43 v43 d43 m43 c43 t43 o44 v44 d44 m44 c44 t44 o45 v45 d45 m45 c45 t45 o46 v46 d46 m46 c46 t46 o47 v47 d47 m47 c47 t47 o48 v48 d48 m48 c48 t48 o49 v49 d49 m49 c49 t49 o50 v50 d50 m50 c50 t50 o51 v51 d51 m51 c51 t51 o52 v52 d52 m52 c52 t52 o53 v53 d53 m53 c53 t53 o54 v54 d54 m54 c54 t54 o55 v55 d55 m55 c55 t55 o56 v56 d56 m56 c56 t56 o57 v57 d57 m57 c57 t57 o58 v58 d58 m58 c58 t58 o59 v59 d59 m59 c59 t59 o60 v60 d60 m60 c60 t60 o61 v61 d61 m61 c61 t61 o62 v62 d62 m62 c62 t62 o63 v63 d63 m63 c63 t63 o64 v64 d64 m64 c64 t64 o65 v65 d65 m65 c65 t65 o66 v66 d66 m66 c66 t66 o67 v67 d67 m67 c67 t67 o68 v68 d68 m68 c68 t68 o69 v69 d69 m69 c69 t69 o70 v70 d70 m70 c70 t70 o71 v71 d71 m71 c71 t71 o72 v72 d72 m72 c72 t72 o73 v73 d73 m73 c73 t73 o74 v74 d74 m74 c74 t74 o75 v75 d75 m75 c75 t75 o76 v76 d76 m76 c76 t76 o77 v77 d77 m77 c77 t77 o78 v78 d78 m78 c78 t78 o79 v79 d79 m79 c79 t79 o80 v80 d80 m80 c80 t80 o81 v81 d81 m81 c81 t81 o82 v82 d82 m82 c82 t82 o83 v83 d83 m83 c83 t83 o84 v84 d84 m84 c84 t84 o85 v85 d85 m85 c85 t85 o86 v86 d86 m86 c86 t86 o87 v87 d87 m87 c87 t87 o88 v88 d88 m88 c88 t88 o89 v89 d89 m89 c89 t89 o90 v90 d90 m90 c90 t90 o91 v91 d91 m91 c91 t91 o92 v92 d92 m92 c92 t92 o93 v93 d93 m93 c93 t93:Value}(X:K.In h)(G:h.Ns mainGlobals mg)(hfa:mg "law"=#[a,.ref,fa])
  (zqp:NsB K "BookError" zp5)
  (zo9:NsB K "OutOfRange" zmw)
  (zon:NsB K "KnownReferee" zni)
  (znw:NsB K "TooManyReferees" zm2)
  (zn7:NsB K "UnknownReferee" zm8)
  (zn2:NsB K "TooManyMatches" zm7)
  (zp9:NsB K "SameClub" zos)
  (zpv:NsB K "NoSuchMatch" zoi)
  (zoz:NsB K "NoSuchRound" zm9)
  (zpu:NsB K "RoundOver" zmu)
  (zo8:NsB K "SeasonOver" zny)
  (zo0:NsB K "AwayAlready" znr)
  (zqs:NsB K "DrawnUp" zpl)
  (zqb:NsB K "NotDrawn" zow)
  (znk:NsB K "NothingToTakeBack" zme)
  (zoh:NsB K "TooManyDeeds" znh)
  (zq4:NsB K "Ledger" zl9)
  (zq3:NsB K "Roster" zmd)
  (zrx:NsB K "Sheet" zmb)
  (zq5:NsB K "Season" zl7)
  (zra:plainGet K zl9 Str.empty=true)
  (zrq:hasDictIn K zl9=true)
  (zri:plainOver K zl9=true)
  (zrr:findIn K (.ref zl9) "__setattr__"=some #[a,.builtin,"object.__setattr__"])
  (zrw:makesIn K zl9=true)
  (zq9:keepIn K (.ref zl9)=true)
  (zoc:findIn K (.ref zl9) "rounds"=some none)
  (znx:findIn K (.ref zl9) "meetings"=some none)
  (zrp:plainGet K zmd Str.empty=true)
  (zrf:hasDictIn K zmd=true)
  (zrn:plainOver K zmd=true)
  (zrd:findIn K (.ref zmd) "__setattr__"=some #[a,.builtin,"object.__setattr__"])
  (zrm:makesIn K zmd=true)
  (zrj:keepIn K (.ref zmd)=true)
  (znc:findIn K (.ref zmd) "entries"=some none)
  (zry:plainGet K zmb Str.empty=true)
  (zr1:hasDictIn K zmb=true)
  (zsb:plainOver K zmb=true)
  (zr4:findIn K (.ref zmb) "__setattr__"=some #[a,.builtin,"object.__setattr__"])
  (zr8:makesIn K zmb=true)
  (zr5:keepIn K (.ref zmb)=true)
  (zoo:findIn K (.ref zmb) "listed"=some none)
  (zqr:findIn K (.ref zmb) "lists"=some none)
  (zod:findIn K (.ref zmb) "given"=some none)
  (zqm:findIn K (.ref zmb) "gaps"=some none)
  (zrv:plainGet K zl7 Str.empty=true)
  (zru:hasDictIn K zl7=true)
  (zrg:plainOver K zl7=true)
  (zrb:findIn K (.ref zl7) "__setattr__"=some #[a,.builtin,"object.__setattr__"])
  (zrk:makesIn K zl7=true)
  (zq8:keepIn K (.ref zl7)=true)
  (zpd:findIn K (.ref zl7) "length"=some none)
  (zrl:findIn K (.ref zl7) "rest"=some none)
  (znq:findIn K (.ref zl7) "roster"=some none)
  (zns:findIn K (.ref zl7) "ledger"=some none)
  (zoj:findIn K (.ref zl7) "absent"=some none)
  (zpp:findIn K (.ref zl7) "sheets"=some none)
  (zm4:findIn K (.ref zl7) "sheet"=some none)
  (znj:findIn K (.ref zl7) "standing"=some none)
  (zp3:XcB K zm9)
  (zqh:XcB K zmw)
  (zov:XcB K zm7)
  (zq1:XcB K zos)
  (zpg:XcB K zni)
  (zok:XcB K zm2)
  (zot:XcB K zm8)
  (zqc:XcB K zny)
  (zrc:XcB K zpl)
  (zpe:XcB K znh)
  (zqw:XcB K zow)
  (zqi:XcB K zmu)
  (zpw:XcB K znr)
  (zn9:XcB K zme)
  (zsd:NzB K "max")
  (zmg:NzB K "len")
  (zpt:NzB K "tuple")
  (zno:NzB K "list")
  (zog:NzB K "enumerate")
  (zmx:NzB K "range")
  (zph:NzB K "sorted")
  (zsl:NzB K "zip")
  (zmm:NzB K "isinstance")
  (zsg:NzB K "int")
  (zr6:NzB K "bool")
  (zr3:NzB K "dict")
  (zsf:NzB K "min")
  (znz:typeIn K (.ref zme)=#[a,.type,"type"])
  (zne:mroIn K zme (.type "BaseException")=some true)
  (zqd:typeIn K (.ref zmu)=#[a,.type,"type"])
  (zo7:mroIn K zmu (.type "BaseException")=some true)
  (zmy:mroIn K zmu (.ref zmu)=some true)
  (zmf:mroIn K zme (.ref zme)=some true)
  (zoa:nsIn K mainGlobals "MOST_NUMBER"=#[a,some,.int 999 tk0])
  (zn6:nsIn K mainGlobals "MOST_GRADE"=#[a,some,.int 9 tk1])
  (zn0:nsIn K mainGlobals "MOST_CLUB"=#[a,some,.int 99 tk2])
  (znb:nsIn K mainGlobals "MOST_REFEREES"=#[a,some,.int 30 tk3])
  (znp:nsIn K mainGlobals "MOST_MATCHES"=#[a,some,.int 20 tk4])
  (zob:nsIn K mainGlobals "MOST_ROUNDS"=#[a,some,.int 60 tk5])
  (zo1:nsIn K mainGlobals "MOST_REST"=#[a,some,.int 10 tk6])
  (zn4:nsIn K mainGlobals "MOST_DEEDS"=#[a,some,.int 100 tk7])
  (l0:LN K "met_lately" "met_lately" R6 f0 o0 v0 d0 m0 c0 t0 u0 n0 z0)
  (l1:LN K "reasons" "reasons" Lh f1 o1 v1 d1 m1 c1 t1 u1 n1 z1)
  (l2:LN K "takers" "takers" Ge f2 o2 v2 d2 m2 c2 t2 u2 n2 z2)
  (l3:LM K zl9 "__init__" "Ledger.__init__" V0 f3 o3 v3 d3 m3 c3 t3 u3 n3 z3)
  (l4:LM K zl9 "write" "Ledger.write" Tp f4 o4 v4 d4 m4 c4 t4 u4 n4 z4)
  (l5:LM K zl9 "over" "Ledger.over" So f5 o5 v5 d5 m5 c5 t5 u5 n5 z5)
  (l6:LM K zl9 "facts" "Ledger.facts" Tq f6 o6 v6 d6 m6 c6 t6 u6 n6 z6)
  (l7:LM K zl9 "met" "Ledger.met" R7 f7 o7 v7 d7 m7 c7 t7 u7 n7 z7)
  (l8:LN K "check_range" "check_range" Sr f8 o8 v8 d8 m8 c8 t8 u8 n8 z8)
  (l9:LN K "check_count" "check_count" Ss f9 o9 v9 d9 m9 c9 t9 u9 n9 z9)
  (l10:LN K "check_ranges" "check_ranges" Tr f10 o10 v10 d10 m10 c10 t10 u10 n10 z10)
  (l11:LN K "check_clubs" "check_clubs" Su f11 o11 v11 d11 m11 c11 t11 u11 n11 z11)
  (l12:LN K "checked" "checked" Li f12 o12 v12 d12 m12 c12 t12 u12 n12 z12)
  (l13:LM K zmd "__init__" "Roster.__init__" V2 f13 o13 v13 d13 m13 c13 t13 u13 n13 z13)
  (l14:LM K zmd "check_new" "Roster.check_new" Vh f14 o14 v14 d14 m14 c14 t14 u14 n14 z14)
  (l15:LM K zmd "check_known" "Roster.check_known" Wx f15 o15 v15 d15 m15 c15 t15 u15 n15 z15)
  (l16:LM K zmd "add" "Roster.add" R8 f16 o16 v16 d16 m16 c16 t16 u16 n16 z16)
  (l17:LM K zmd "strike" "Roster.strike" Uy f17 o17 v17 d17 m17 c17 t17 u17 n17 z17)
  (l18:LM K zmd "numbers" "Roster.numbers" Ui f18 o18 v18 d18 m18 c18 t18 u18 n18 z18)
  (l19:LM K zmd "entry" "Roster.entry" Ts f19 o19 v19 d19 m19 c19 t19 u19 n19 z19)
  (l20:LM K zmd "person" "Roster.person" Uz f20 o20 v20 d20 m20 c20 t20 u20 n20 z20)
  (l21:LN K "places_taken" "places_taken" Tt f21 o21 v21 d21 m21 c21 t21 u21 n21 z21)
  (l22:LN K "steps_into" "steps_into" R9 f22 o22 v22 d22 m22 c22 t22 u22 n22 z22)
  (l23:LN K "free_referee" "free_referee" Tu f23 o23 v23 d23 m23 c23 t23 u23 n23 z23)
  (l24:LN K "traced" "traced" Gf f24 o24 v24 d24 m24 c24 t24 u24 n24 z24)
  (l25:LN K "chain" "chain" Ck f25 o25 v25 d25 m25 c25 t25 u25 n25 z25)
  (l26:LN K "stepped" "stepped" Lp f26 o26 v26 d26 m26 c26 t26 u26 n26 z26)
  (l27:LN K "fill" "fill" zbp f27 o27 v27 d27 m27 c27 t27 u27 n27 z27)
  (l28:LN K "left_without" "left_without" Tv f28 o28 v28 d28 m28 c28 t28 u28 n28 z28)
  (l29:LN K "place_of" "place_of" Nj f29 o29 v29 d29 m29 c29 t29 u29 n29 z29)
  (l30:LN K "shortage" "shortage" Nk f30 o30 v30 d30 m30 c30 t30 u30 n30 z30)
  (l31:LM K zmb "__init__" "Sheet.__init__" Uj f31 o31 v31 d31 m31 c31 t31 u31 n31 z31)
  (l32:LM K zmb "barred" "Sheet.barred" Tw f32 o32 v32 d32 m32 c32 t32 u32 n32 z32)
  (l33:LM K zmb "fallen_out" "Sheet.fallen_out" Vi f33 o33 v33 d33 m33 c33 t33 u33 n33 z33)
  (l34:LM K zmb "matches" "Sheet.matches" U0 f34 o34 v34 d34 m34 c34 t34 u34 n34 z34)
  (l35:LM K zmb "goes" "Sheet.goes" Qb f35 o35 v35 d35 m35 c35 t35 u35 n35 z35)
  (l36:LM K zmb "where" "Sheet.where" Sv f36 o36 v36 d36 m36 c36 t36 u36 n36 z36)
  (l37:LM K zmb "left" "Sheet.left" Qc f37 o37 v37 d37 m37 c37 t37 u37 n37 z37)
  (l38:LM K zmb "why" "Sheet.why" Pa f38 o38 v38 d38 m38 c38 t38 u38 n38 z38)
  (l39:LM K zmb "chains" "Sheet.chains" Tz f39 o39 v39 d39 m39 c39 t39 u39 n39 z39)
  (l40:LM K zmb "rows" "Sheet.rows" Qd f40 o40 v40 d40 m40 c40 t40 u40 n40 z40)
  (l41:LN K "drawn_sheet" "drawn_sheet" Sw f41 o41 v41 d41 m41 c41 t41 u41 n41 z41)
  (l42:LM K zl7 "__init__" "Season.__init__" V3 f42 o42 v42 d42 m42 c42 t42 u42 n42 z42)
  (l43:LM K zl7 "check_not_over" "Season.check_not_over" Wb f43 o43 v43 d43 m43 c43 t43 u43 n43 z43)
  (l44:LM K zl7 "check_undrawn" "Season.check_undrawn" Wh f44 o44 v44 d44 m44 c44 t44 u44 n44 z44)
  (l45:LM K zl7 "check_round" "Season.check_round" Wz f45 o45 v45 d45 m45 c45 t45 u45 n45 z45)
  (l46:LM K zl7 "check_room" "Season.check_room" W4 f46 o46 v46 d46 m46 c46 t46 u46 n46 z46)
  (l47:LM K zl7 "note" "Season.note" Sz f47 o47 v47 d47 m47 c47 t47 u47 n47 z47)
  (l48:LM K zl7 "sheet_at_hand" "Season.sheet_at_hand" Wi f48 o48 v48 d48 m48 c48 t48 u48 n48 z48)
  (l49:LM K zl7 "sheet_of" "Season.sheet_of" V4 f49 o49 v49 d49 m49 c49 t49 u49 n49 z49)
  (l50:LM K zl7 "takers_of" "Season.takers_of" Vj f50 o50 v50 d50 m50 c50 t50 u50 n50 z50)
  (l51:LM K zl7 "enrol" "Season.enrol" T1 f51 o51 v51 d51 m51 c51 t51 u51 n51 z51)
  (l52:LM K zl7 "draw_up" "Season.draw_up" Uk f52 o52 v52 d52 m52 c52 t52 u52 n52 z52)
  (l53:LM K zl7 "away" "Season.away" S4 f53 o53 v53 d53 m53 c53 t53 u53 n53 z53)
  (l54:LM K zl7 "step_in" "Season.step_in" Ul f54 o54 v54 d54 m54 c54 t54 u54 n54 z54)
  (l55:LM K zl7 "close" "Season.close" T2 f55 o55 v55 d55 m55 c55 t55 u55 n55 z55)
  (l56:LM K zl7 "take_back" "Season.take_back" Vk f56 o56 v56 d56 m56 c56 t56 u56 n56 z56)
  (l57:LM K zl7 "at_hand" "Season.at_hand" Um f57 o57 v57 d57 m57 c57 t57 u57 n57 z57)
  (l58:LM K zl7 "matches" "Season.matches" Uo f58 o58 v58 d58 m58 c58 t58 u58 n58 z58)
  (l59:LM K zl7 "goes" "Season.goes" S5 f59 o59 v59 d59 m59 c59 t59 u59 n59 z59)
  (l60:LM K zl7 "where" "Season.where" T3 f60 o60 v60 d60 m60 c60 t60 u60 n60 z60)
  (l61:LM K zl7 "left" "Season.left" S6 f61 o61 v61 d61 m61 c61 t61 u61 n61 z61)
  (l62:LM K zl7 "why" "Season.why" Qe f62 o62 v62 d62 m62 c62 t62 u62 n62 z62)
  (l63:LM K zl7 "chains" "Season.chains" U1 f63 o63 v63 d63 m63 c63 t63 u63 n63 z63)
  (l64:LM K zl7 "facts" "Season.facts" T4 f64 o64 v64 d64 m64 c64 t64 u64 n64 z64)
  (l65:LN K "_law_whole" "_law_whole" Pd f65 o65 v65 d65 m65 c65 t65 u65 n65 z65)
  (l66:LN K "_law_at" "_law_at" Gw f66 o66 v66 d66 m66 c66 t66 u66 n66 z66)
  (l67:LN K "_law_mix" "_law_mix" Lv f67 o67 v67 d67 m67 c67 t67 u67 n67 z67)
  (l68:LN K "_law_numbers" "_law_numbers" Yp f68 o68 v68 d68 m68 c68 t68 u68 n68 z68)
  (l69:LN K "_law_clubs" "_law_clubs" Xe f69 o69 v69 d69 m69 c69 t69 u69 n69 z69)
  (l70:LN K "_law_one_is" "_law_one_is" Qg f70 o70 v70 d70 m70 c70 t70 u70 n70 z70)
  (l71:LN K "_law_list_is" "_law_list_is" S7 f71 o71 v71 d71 m71 c71 t71 u71 n71 z71)
  (l72:LN K "_law_tuple_is" "_law_tuple_is" T5 f72 o72 v72 d72 m72 c72 t72 u72 n72 z72)
  (l73:LN K "_law_rows_are" "_law_rows_are" T6 f73 o73 v73 d73 m73 c73 t73 u73 n73 z73)
  (l74:LN K "_law_is_filling" "_law_is_filling" Up f74 o74 v74 d74 m74 c74 t74 u74 n74 z74)
  (l75:LN K "_law_is_shortage" "_law_is_shortage" V8 f75 o75 v75 d75 m75 c75 t75 u75 n75 z75)
  (l76:LN K "_law_moves_are" "_law_moves_are" U2 f76 o76 v76 d76 m76 c76 t76 u76 n76 z76)
  (l77:LN K "_law_first" "_law_first" Pk f77 o77 v77 d77 m77 c77 t77 u77 n77 z77)
  (l78:LN K "_law_met" "_law_met" L6 f78 o78 v78 d78 m78 c78 t78 u78 n78 z78)
  (l79:LN K "_law_bars" "_law_bars" Nr f79 o79 v79 d79 m79 c79 t79 u79 n79 z79)
  (l80:LN K "_law_open" "_law_open" Nt f80 o80 v80 d80 m80 c80 t80 u80 n80 z80)
  (l81:LN K "_law_paged" "_law_paged" Pl f81 o81 v81 d81 m81 c81 t81 u81 n81 z81)
  (l82:LN K "_law_matches" "_law_matches" Yg f82 o82 v82 d82 m82 c82 t82 u82 n82 z82)
  (l83:LN K "_law_do" "_law_do" G3 f83 o83 v83 d83 m83 c83 t83 u83 n83 z83)
  (l84:LN K "_law_deed" "_law_deed" Nu f84 o84 v84 d84 m84 c84 t84 u84 n84 z84)
  (l85:LN K "_law_pool" "_law_pool" Xp f85 o85 v85 d85 m85 c85 t85 u85 n85 z85)
  (l86:LN K "_law_people" "_law_people" Yf f86 o86 v86 d86 m86 c86 t86 u86 n86 z86)
  (l87:LN K "_law_enrolled" "_law_enrolled" T7 f87 o87 v87 d87 m87 c87 t87 u87 n87 z87)
  (l88:LN K "_law_rest" "_law_rest" Wj f88 o88 v88 d88 m88 c88 t88 u88 n88 z88)
  (l89:LN K "_law_cell" "_law_cell" Nv f89 o89 v89 d89 m89 c89 t89 u89 n89 z89)
  (l90:LN K "_law_shows_round" "_law_shows_round" Ua f90 o90 v90 d90 m90 c90 t90 u90 n90 z90)
  (l91:LN K "_law_facts_are" "_law_facts_are" U4 f91 o91 v91 d91 m91 c91 t91 u91 n91 z91)
  (l92:LN K "_law_closed_for_good" "_law_closed_for_good" Wo f92 o92 v92 d92 m92 c92 t92 u92 n92 z92)
  (l93:LN K "law" "law" Dh f93 o93 v93 d93 m93 c93 t93 u93 n93 z93)
  : ∃ fd:FuncData,(∀ (s:Shared) (v:Value),BindsTo s fd ⟨[v],[]⟩ [("_law_script",v)])/\∀ base:Heap,K.In base->base.Ns mainGlobals mg->FnOk l.prog w K mg base (CX1 l.prog w) 10 fa fd ["_law_script"] (zcb K):=by
 have e:=hfa.symm.trans (mg_of X G l93.b);cases e
 let a:Ad:=⟨zp5,zmw,zni,zm2,zm8,zm7,zos,zoi,zm9,zmu,zny,znr,zpl,zow,zme,znh,zl9,zmd,zmb,zl7⟩
 have T:Tx K mg a:=⟨⟨zra,zrq,zri,zrr⟩,
  zoc,
  znx,
  ⟨zrp,zrf,zrn,zrd⟩,
  znc,
  ⟨zry,zr1,zsb,zr4⟩,
  zoo,
  zqr,
  zod,
  zqm,
  ⟨zrv,zru,zrg,zrb⟩,
  zpd,
  zrl,
  znq,
  zns,
  zoj,
  zpp,
  zm4,
  znj,
  ⟨mg_of X G zoz,zp3⟩,
  ⟨mg_of X G zo9,zqh⟩,
  ⟨mg_of X G zn2,zov⟩,
  ⟨mg_of X G zp9,zq1⟩,
  ⟨mg_of X G zon,zpg⟩,
  ⟨mg_of X G znw,zok⟩,
  ⟨mg_of X G zn7,zot⟩,
  ⟨mg_of X G zo8,zqc⟩,
  ⟨mg_of X G zqs,zrc⟩,
  ⟨mg_of X G zoh,zpe⟩,
  ⟨mg_of X G zqb,zqw⟩,
  ⟨mg_of X G zpu,zqi⟩,
  ⟨mg_of X G zo0,zpw⟩,
  ⟨mg_of X G znk,zn9⟩,
  mg_none_of X G zsd,
  mg_none_of X G zmg,
  mg_none_of X G zpt,
  mg_none_of X G zno,
  mg_none_of X G zog,
  mg_none_of X G zmx,
  mg_none_of X G zph,
  mg_none_of X G zsl,
  mg_none_of X G zmm,
  mg_none_of X G zsg,
  mg_none_of X G zr6,
  mg_none_of X G zr3,
  mg_none_of X G zsf,
  mg_of X G zqp,
  mg_of X G zo9,
  mg_of X G zon,
  mg_of X G znw,
  mg_of X G zn7,
  mg_of X G zn2,
  mg_of X G zp9,
  mg_of X G zpv,
  mg_of X G zoz,
  mg_of X G zpu,
  mg_of X G zo8,
  mg_of X G zo0,
  mg_of X G zqs,
  mg_of X G zqb,
  mg_of X G znk,
  mg_of X G zoh,
  mg_of X G zq4,
  mg_of X G zq3,
  mg_of X G zrx,
  mg_of X G zq5,
  ⟨znz,Ie zne,zne⟩,
  ⟨zqd,Ie zo7,zo7⟩,
  zmy,
  zmf,
  ⟨_,mg_of X G zoa⟩,
  ⟨_,mg_of X G zn6⟩,
  ⟨_,mg_of X G zn0⟩,
  ⟨_,mg_of X G znb⟩,
  ⟨_,mg_of X G znp⟩,
  ⟨_,mg_of X G zob⟩,
  ⟨_,mg_of X G zo1⟩,
  ⟨_,mg_of X G zn4⟩⟩
 refine⟨fnOf "law" "law" (T9 Dh) (Zv Dh) (Zj Dh) .none v93 d93 m93 n93 c93 t93,fun s v=>.of_eq rfl,fun base KX NX=>?_⟩;have Z:XG l.prog w base K mg h:=⟨X,G⟩;have zsa:=nM Z l3 zrw zq9 zq4 fun F=>Ng F T;have zpr:=mM Z l4 fun F=>K5 F T;have zmi:=mM Z l5 fun F=>Hu F T;have zpq:=mM Z l6 fun F=>K7 F T;have zp8:=mM Z l7 fun F=>Fj F T;have zml:=dN Z l8 fun F=>Ga F T;have zpx:=dN Z l9 fun F=>Gb F T;have zp2:=dN Z l11 fun F=>Gd F T;have zr7:=nM Z l13 zrm zrj zq3 fun F=>Ni F T;have zmh:=mM Z l15 fun F=>Qs F T;have zo3:=mM Z l17 fun F=>Ll F T;have zn8:=mM Z l18 fun F=>Mf F T;have znl:=dN Z l21 fun F=>Jb F T;have zn5:=dN Z l22 fun F=>Fn F T;have zpo:=dN Z l23 fun F=>Jc F T;have zq7:=dN Z l24 fun F=>zeg F T;have zor:=dN Z l26 fun F=>zbo F T;have znm:=dN Z l28 fun F=>Je F T;have zqz:=dN Z l29 fun F=>Az F T;have zo6:=nM Z l31 zr8 zr5 zrx fun F=>Mh F T;have zna:=mM Z l34 fun F=>Lr F T;have zn1:=mM Z l35 fun F=>Fp F T;have znn:=mM Z l39 fun F=>Ji F T;have zp6:=mM Z l40 fun F=>Fu F T;have zms:=mM Z l45 fun F=>Qu F T;have zmk:=mM Z l46 fun F=>Pc F T;have zm5:=mM Z l47 fun F=>Gm F T;have zmp:=mM Z l48 fun F=>Rp F T;have znf:=dN Z l65 fun F=>Cp F T;have zmr:=dN Z l66 fun F=>zei F T;have zn3:=dN Z l67 fun F=>zbq F T;have zpy:=dN Z l68 fun F=>Gx F T;have zqj:=dN Z l69 fun F=>Cq F T;have zqo:=dN Z l77 fun F=>Cr F T;have zre:=dN Z l78 fun F=>zbr F T;have zqv:=dN Z l79 fun F=>A4 F T;have zpa:=dN Z l0 fun F=>Fh F T zmi zp8;have zpb:=dN Z l10 fun F=>K8 F T zml;have zm3:=mM Z l14 fun F=>Ob F T zml;have zpc:=mM Z l19 fun F=>Ja F T zmh;have zqq:=dN Z l25 fun F=>zgx F T znl zn5 zpo zq7;have zq0:=dN Z l30 fun F=>A0 F T znl znm zn5;have zm6:=mM Z l36 fun F=>Gh F T zqz;have zqa:=mM Z l37 fun F=>Fs F T znm;have zm1:=mM Z l56 fun F=>Oe F T zo3;have zma:=mM Z l57 fun F=>Mm F T zmi;have zmn:=dN Z l70 fun F=>F3 F T znf;have zox:=dN Z l74 fun F=>Mr F T znf;have zou:=dN Z l80 fun F=>A5 F T zre zqv;have zp1:=dN Z l82 fun F=>G2 F T zn3;have zq2:=dN Z l85 fun F=>A7 F T zmr zqj zpy;have zqg:=dN Z l86 fun F=>F7 F T zmr zn3;have zp7:=dN Z l88 fun F=>A9 F T zmr;have zqx:=dN Z l89 fun F=>zab F T zmr zn3;have zrs:=dN Z l1 fun F=>zbl F T zpa;have zrt:=dN Z l12 fun F=>zbn F T zpx zpb zp2;have zqe:=mM Z l16 fun F=>Fm F T zm3;have zo2:=mM Z l20 fun F=>Lo F T zpc;have zsn:=dN Z l27 fun F=>zh6 F T zor zqq;have zpj:=mM Z l32 fun F=>Jg F T zo6;have zoe:=mM Z l33 fun F=>Oc F T zm6 zor zqq zo6;have zqk:=mM Z l38 fun F=>Cn F T zq0;have zr2:=nM Z l42 zrk zq8 zq5 fun F=>Nm F T zml zr7 zsa;have zmo:=mM Z l43 fun F=>Sy F T zma;have zmc:=mM Z l49 fun F=>Np F T zms zmi zma zmp;have zps:=mM Z l64 fun F=>Jo F T zma zpq;have zng:=dN Z l71 fun F=>G1 F T zmn;have zpi:=dN Z l72 fun F=>Jp F T zmn;have zof:=dN Z l81 fun F=>Cs F T zou;have zqy:=dN Z l84 fun F=>A6 F T zp1;have zr9:=dN Z l2 fun F=>zef F T zrs;have zp0:=dN Z l41 fun F=>Gj F T zo6 zsn;have zmq:=mM Z l44 fun F=>Rn F T zmo;have zpk:=mM Z l55 fun F=>Jl F T zmo zmp zpr zp6 zmi;have zoy:=mM Z l58 fun F=>Mo F T zmc zna;have znt:=mM Z l59 fun F=>Gs F T zmc zn1;have zpm:=mM Z l60 fun F=>Jm F T zmc zmh zm6;have zpz:=mM Z l61 fun F=>Gv F T zmc zqa;have zqf:=mM Z l62 fun F=>Fw F T zmc zqk;have znd:=mM Z l63 fun F=>Lu F T zmc znn;have zmt:=dN Z l73 fun F=>Jq F T zpi;have zol:=dN Z l75 fun F=>Nq F T znf zng;have zm0:=mM Z l50 fun F=>Od F T zn8 zo2 zma zr9;have zpn:=mM Z l51 fun F=>Jk F T zmq zm3 zmk zm5 zma zqe;have zo5:=dN Z l76 fun F=>Lz F T zmn zmt;have zo4:=dN Z l91 fun F=>L9 F T zmt;have zop:=mM Z l52 fun F=>Mi F T zmq zrt zmk zm5 zma zp0 zm0 zn1;have zoq:=mM Z l54 fun F=>Mj F T zm0 zna zm6 zpj zoe znn;have zom:=dN Z l90 fun F=>Nw F T zmt zoy zng znt zpz zo5 znd zmn zpm zol zqf;have znu:=mM Z l53 fun F=>Gp F T zms zmi zmh zmk zm5 zma zoq;have zp4:=dN Z l83 fun F=>zek F T zpn znu zop zpk zm1;have znv:=dN Z l92 fun F=>Qh F T zm1 znu;have zpf:=dN Z l87 fun F=>Jt F T zp4 zof;exact zj4 (Ox l93.l l93.c l93.k) T zmr zr2 zp7 zq2 zpf zqg zqo zqy zqx zp4 zof znt znd zox zou zmn znv zom zo4 zps
theorem walk{l:OpenLaw}{q:Program}{loose:List Str}{XP:(Str->Option Value)->Heap->Prop}{YP:World->Heap->Prop}{d:DefRec}{K:Params->Frag}(hn:l.most=some 63)(hdf:d.params.defaults=[])
  (hY:∀ (w:World) (h:Heap),YP w h->(K w.params).In h)
  (F:∀ (w:World) (mg:Str->Option Value) (fa:Addr) (h:Heap),(K w.params).In h->h.Ns mainGlobals mg->mg d.name=#[c,fa] ->
   ∃ fd:FuncData,(∀ (s:Shared) (u:Value),BindsTo s fd ⟨[u],[]⟩ [("_law_script",u)])/\∀ base:Heap,(K w.params).In base->base.Ns mainGlobals mg->FnOk l.prog w (K w.params) mg base (CX1 l.prog w) 10 fa fd ["_law_script"] (zcb (K w.params))) :
  WalkO q loose XP YP l.row.toRowW d [] (fun f vs=>PySem.call f vs) :=
 L2.zhj (n:=63) (k:=10) (x:="_law_script") (CX:=fun w=>CX1 l.prog w) (sp:=fun w=>zcb (K w.params)) hn ⋯ hdf ⟨rfl,by decide,by decide⟩ hY F (fun _ _ a ns hl _ hS=>⟨a,ns,rfl,hS,hl,fun _=>rfl⟩) fun _ _ _ _ _ z=>by obtain⟨_,_,_,_,_,_,_,_,_,_,z⟩:=z;exact z
end K36
open PySem PySem.W PyProof.Rows
local macro_rules|`(command|universe $x*)=>do return Lean.mkNullNode (<-x.mapM fun i=>let n:=i.getId.toString.foldl (fun n c=>let k:=c.toNat;n*62+(if k<58 then k-48 else if k<91 then k-55 else k-61)) 0;let i:=Lean.mkIdent (.mkSimple s!"tw{n-10*62^10}");`(command|def $i:ident:=Nat))
namespace PySem.W.Fast
universe M0dHT0gqxAJ UZydA1IBccX Q9SyNw785RQ VJumHerqKd7 BOX4msmDPax Hl8TuazKi35 BcY9st1bTV7 ROe2Y3Fb0kG PUfNXRC3QC7 THWJ1xwd69X HK0SkLbwZDN KjePUiZ99eu TLAtFvnQtGn UXjVJnBdQoV D92BhDDHl04 Er9L8K4fLGw RvySsm82ofZ FqJMqywmoYc LbXputXHfYB TMF9prXpWGS KOglRGUfHhb NsYHhIIqyJz KLEQv4yROPC VJazPAky5sp QXl2SBLrTJw RMQ23e7l65p CzUX1RhE71O Nym21TScfTl LZ06zTgE1XG HsfJFLMqKeV VYpjTH1HmqB PqrFwHZA7VY AZBB1QTur2u HxpObDTlLsC S1LeY5NQPT1 AiJyeTfeQwb BzUkGt5umwi U7wrKgTh0CI OXyHxvgoiYa Ba7hFZ6CWGE Rqs7tAu2GVy J3wroFRZUlj He0VrMdS6zP TBViWWZqLQX LeNSuKxWYkp FHWPqUlaQrt KhltYz4UcA3 KtSgMRm8pyh TCHn2QwzOyq IOkr155hpUU Il0JpxxkP3K VmBJBmf82B3 EB16QzYQPwm PMMncO9vtjY FqPbUosYann IoH8QBRzghL O3Hlxd4y8PI HIVhsEEMAAz H52Y5hJdODu Avskd8OCvCE Viw53lcYYXf GPPURLUOJdg A6uue1csEcZ Baq6wLBOOqp O4OPqaHHeRa MN2aiFmPxr5 N1fy0rqn0Bs FMweYOT4R8B NMBJfxQWkjx NAuEbZ4fs8B OECsqL1cawN EQXReeHtxpo IzLmepYSv63 VBqumy7Mplr ITttGcslDAB VvplVkCxQeg HasceNWQWiI MEvQG5ZXM16 KqxhYgDUd1B LKlLZnyRcSo V2ez4E7wgRf SldkSG198OY NNShwefyhJn ENgC8wMFmSh GxSLz4SZp8W IonVKcm2fNT IqNCDlqCeS6 O1DGEBwATpk GkuRwRi4RD9 TlpTt3s4Eh3 H1Pxa6F395H HD9w5t6TBIs Nssaubok4f2 VerxNPRBgpo OgnModcoXDA Sqja9qEWS4M U6gjLTL9hpw Jfa3gSd17SQ N22ciM5M5Ra KS9s2Beq8hO BqiNNdwX2J1 KYjSrlgogog CNOANu7DE93 O6N19jwiHf0 QqSP4zOsiKR E66oqPkPafb MYizotiWNHu OMNTHMb4NEw NNMExtTCYEm LPOWRjUNUJb LG5uk5Ch4KG ONQRpsONOti IcDGzdVCEiw R5sjcQPilGy HHn7yc3Ox1O QNkSvPX2zUA MU47cG09FDP E5rtuLSalhq LpAvqytTZX3 QXI7ZoFvHhz AdxDnfzphxB AsXoCrvZaPM U9CPbBgdtwL TAPtxNmlSym DF2QwkeOL3R RxjeNxt20yv CXAmVeFW5Tw CEMkVXzm8iA FZccnag2qPv QlpaazLcklo BFO66IFVjty SBjuZm0fK54 M95tmvBtVkO NTWyZSTQX8n K5uaXuVuUPO HNTYfstIg01 Q30UNBlNvFa BHEz41wH9Ua BIcuEBNdVnG IK157yDBFSz IBtMzyGeNDr VCCZLVIA5Zx IUj3G3UoiFB ERIC6qhuh4P ATaMh8eS5b1 D2ImSzZAu9o GHVnEZkBBDK SrflInbW6Xe D0U5MxUy5pk OTt4Qgl6Mnl ATDWgEZIau4 GfAZN2x6oyE GynV3zeL1Ck BWqcL4sSpAC OoKnkNnfxmc TM7mHqzfZwS MnkFOirM3xn JBDcK1hXCUk HRCHT0vKMh4 IO2rdppGBRM G0UhcmeJzZK Thjj4LyW3HR Nn4C3yaieOw KUUxQdW3WES ApQ9cfQ7jJR JUmkYxJBMRp L13ZMkqZ1LB BL3FuPtw8Ux Dr87HVsZ8wQ RQrrhAw0yBA VJ43yK9AT2t Rx9pfddMLqC AwFBZ8imx0j PXWyB6Y2luv DOIuDhlokvF Ao4ZhN7C2zf ULHkfb2rKi0 Pho3XNSQb5x NqgInRPh5g1 K98z7auy1zD MsEQDdIbm5S VyAvdAp81CU KhtMVWabVSP I9OsZdBulPS Q5dbT0tt21V E5BfjhQny8u Ltl2YwnuiYd QgNHGgCznLa Hi8gC6GXejW Mi1JAUjInxz EXVGflGoLdo LJRxqsb4WNB E07QRV8YwEK HJedpz1NjdT UBAj8YEGZqI CpRTrQC5Izi LFqsGEayyl4 U2sbfSy5Xds LXBwmVjyvw0 VvnDG1pUy8R Hy7BMU3zByl PBykR4aJaHE OBa7Q0SnaiU GrvHvjMxlEZ Cb8mKr0r2LA EixXmDgww5b C3MFwya8atG HAZxHLGzlI6 H2wN87lUOjG DgMzb5JtOD1 LeW3GL5O7fC HAoHx646kYE Im7BiJX1EON FnvdU74Dp0s BbC71gJSP1s NmUtSr7EIjJ NOrFrabKL2z JK4TvLV8oUr JektfhRaGoQ LCaMVoUgnxy SzWjUXvfg0S SCzJny1oOng Vs2HPNWKahb MlBlVYAMfPn FZEvU9Xd7OI LNyJie9UDqP NREvaHUobDM BGecQWPc6cB EZctBy1L12t CuJFxeKXn3a H4ETZiroXMv TxoMMCh3FE5 I6QEE4cjsQT P2YW3agY0Hd JA1LJiCXkDJ LXdzwsi8B5q Vj6tgyziGi2 EiCrM57RlbU H1U9SVZvR01 KPh3Kha2SMm QAdjFzSFHAF NErcbCKhmQj Rrpu9jBuuvN K4U5nqbmf0Y MZDEm2bq8jA CHMsSksyLEp QniBVa7TTEz HDi4SZot7h0 EMhwpjAmaVs VExmd2s7Wb7 Jgqm98pTi9q HdWYm6wapeg IPqR0JBi1SX S3uhiNWRC0p AssJkN2W9AT Mt3QWGjiKWS EovgCbRTNyO GwrGIyEIy0m UtVKHEwwXv2 HfHBPH5ClmE FuMQDJ6YL7o MgGQ3y55tVx LASmZswtR1m JyJfoQ1NxTP H7CA7NKQgnq HOpB1pm3RNE SsjCKko2FXa G680tSGt8Hu ULwIOvrffam G26pu5g4Wfs T6nX57N7G6Q LhjLQTFR0U9 Om5nban8EIc Q8jJNZFa0Yv Ft4IC5juA6R KtNueuxxA7J R8sz7VH4ILz PL7zThcWj3l FS6Sn1fYy4R Bh8DiHSG6p3 HEb0in5s9gf QIK0ORGvMRq GG7pv6OihJ6 JaMy16q1vSH UbOY2gWwdXv RLR14Th8BT5 OdyTLMi38Pb M0MWGfxUFvl OJKqI2LAH0N V0oZqLhkQsM OIrWvv5oAuM Is2FsJbFWY1 FvC6dQHAYkf RKoW5ueYuPU AUwYhHR318p TjuiPpLHR5a MWtop56k8nf IH68NHPLcoq UeSeJWNQgYv H5ClbD2Qq96 NAEDmBQXhq7 VXxSJsziTK6 JFEOqohjWEf PFH14MHav3C EBV2DQCkGCx JXXwRgovNvr DKrFq0BAgGV CWUw8Vqr1eS Cu7db0kySS9 CCkOOJLUPwF KviMaIW5ncP G9TixP4kOGW A5KEH9axfLi NKxR9dZOzI6 EFm0LPlYPwe ADombqLBfYv MqOfIy6LYds NLqaumC9mMU ApWy7SImdj2 LujJWKFDgef LodzsYEfmvT O2clXwSop3d Ek5Uu4Vl6ET BhR8nIf74xo CHYFCSr8bsk Gj8gjrRG5Sx V43apAkAXLW STmyB87xgHH Gip5XVPhrfj N3BNWHPjWPW O0BO2ozEGwS FJEN1M7aY0O AnQtPcp0Iva O0lCFPZbVXK JeWMjvpWtYR NPqaHLq0dJ7 JmVNiXPxrrd FftU9VCmzNC NRgXJkxi25r A2omsASIitN ICkAR8UT2Ty DwpXfjAiXhy ChypEplGrSF ST9RmykwxO5 BqqbdWmjDID UrM5Wd3o6vk CA01wE7JPY1 TkK0LU7zcul U3gFDJ8t9wY ELhnO2T4OHh GkdXdTggxhb FJARlve6icB HQHS5ygB1Xd GE6aXYvFlSv PPsp41d1lgR ALdqPgN6ZLT KWu3vHP86Gd Df3BamPIsSC RF7VQrJmp9c UyY9dFa8i9V FTC5nw9n7n7 NyOkDszCQqD PZvsBEjgq5a ESgOmtqAEub TiFeXCsUZDw GBiotTk8xw3 IN900jG8uhM Q9syGqvGutD JoaWMQJ9nX0 C2zHwJm40YV ICBTTpsmXE5 Iy8LTW1v7K0 Badoy64LPVj J0lKuvNko1U NFp9bpUnTXM Ns6HLQ1muOl KKUtMoa6lGe J48ntIH0OE0 O9pbPaBqiWZ I5WWQhYSf8I LTqqaBRWSJq PiSuCraY7QR C08aRLAThXz TcQqY6FZbbP Qu8SDXv8Xoj VibxSQGIKlX DIZpmJUKSWl B3ZydIXkqRJ D6Jej9tgEHp QNuCGSetTfc NRyIJTqzxeE LtoYtrvdKxH TQCn7EqYU9Q R6TmBtgBzlH UPeiKEDmWUZ QWATq1c0aZy QJYk0TFiH9G H9m6lYUbefZ TPp9sPIottu R0FVH1MP4wZ SaG6up93tOB UjZaE5RM4gY VXfesWZ1amV Nu9ESKhgznE CNTyfeQS1WP CH3amrKOtw5 B5UPEXXRmeh I2yib5ht5ov NmDwp0tmQDe C7R5NLLKV3u UtBQcHG0cRc IzOclrFQCgf TBc4YLWh6zr HmYCwa6pE2L UzhPoMZJLx5 Vu59WqnisvJ HVThMc09jC6 MwUYv1xdMva LFvFAqg9ur4 TFhxTHnPlAX DHOswRoEbcv B1lhksISmlD SmyqZF7QnGh IIgIUJZfi1t CMFcsouT2yO A2rrMhFZfUt P2sFuEeVhWR JCRo6WZZwdw FOP4RV7MgRL MTLMpJhyn80 QlWi97g7v3Z RD9uEhLwH40 SiEXi73PgWW U5hO6Caw3rq AF9RfhfHBU5 NnsQJMHIJTT LbQZ5PfUbUD HNJQwAX1n6a Az0Gdrz8Otz DbJRnCaGDV4 DvFrpwMmSgh ObVnenBDB2P R1yPzIQvI3t NzozD0I5Mk5 A5Qkmzufmc4 CggfkT0gixo PXfqw6LG5Y6 Bzc36L7cKA1 IPYbKwvyYa8 Hw3aM3Z7KML MUQimtX1pDn RX7VvhYTlvk TuyTEip2Fjy Ps1gBhQkxbh MGCurVJ37GW V0Ea222ADBs E0UIhqplMaD BIIrsbF0cSM D1ip9XIXepI DtLJIqgEtM8 QEZpE0nqU7B SDZb59iysbw VKxM1fUCb5V Bzd2kP1PBe0 Dy3zE2jgQMa TyraV1r1sNL OJ2GIynECD6 I5uZYD2S74r BtPaC2cJdUG OclwSFEmxfb TOr9uzUNOsn Uk2LEB1JF83 CC5jTEOkLiM CUmPTWtStnx NxJs9d7L4AK A7TlJnXCijt SptxyzFZ9UP P5XNRapSN5j NeexgyQbGlB G7xDwGltM8j UR4B9rMJ57e T6cVb6Ra4Dh Mis9WEtk19W FBamsWX8h6b AwyRZLtrPDs AnqrgTT6ADn NZCKJQKe6G3 VJKlzncqpot Pop4Uh6U0wv SET1JlZ5wmo KH4LinThstu K2mqg4GUKm3 Q8KX8fMwjQI HTQKQQHvzJa LdFCCwPwKcK Pd4V263Qvw4 NVigFT9miFW P8Av9WIOZ4b ODNFfMX1HKo UZxduszO88Y IUnuhFxZrDK TF7K1ZUF7Am FdtdDlZMctF COJ9zBRHvEN NMAGJz7XIvM ShOfZEs9jdQ UhUrTtrxKzn DHlWOSwhuHy M0LibfHjuEe JgGCN4CbSEh EGSlNedasWa O4bhhKa28jC MP128BdSGih OlQlcQKyjvM LfVpMDs9GCw V36eoygTkYj RYwfmOBBRL5 KwaLaDNOyry VcPnTBwfW9v AZfnOhJtwgp Lp4XhoWVNle A2WK8VkrKhW Rk4H7DchMF0 RPrLUDk4h3j ArH9dowSngb J7zNUqH7fVl PRhgNwA5LuF ETrXrirrV0s J4RDhnmyUDq LFiG0zbNG6f EI9C30ZlKyu A42dgFFaU1D HgRe7w6E3X7 GQTn3ESzshh A3P9J4UYvRH TE7ZfEfKUh2 K5ywjJcRVML CohUQArDHXf OcSCu4xnlHB Mcr8enKLk8v JVJUpo00Sp0 CIQdjzy5G66 G5KQFjNCA0I VnA3s6t5KuJ QuHqf3SlrAb HckgkIHrbBZ Dm4cFN6uUQ4 AzR4kQwY0Ec B63siRLrs5p Upn5UD4wxY4 Er5v69BKPIP M5Ad9n9eZE4 RQk5dxd0iY8 UystZQjqjQO UOj7e7zII6f GNZvYvkCFH2 SzzZIXtpzMk CD6vU7XlAnL RP2hiAJveJx B8b6c9gv6rl I3YrM8mAfJO L1itENk2kr2 MfOMCsc2nUb Miqy2JECJ0M QmPee1xS4cb Oqyvseel6uq TxJ9IjJpGQi BNWyF7FFwVs ThWDJQSHw7R Q7inVfKy6lJ HdhWQ9EvExS VxmW82Lkyqh AwA1igcT7WO ISddOK2XNmf Ejfi4wS9SdD IurUGKvIYYd PDh2ca7Nqr9 NQz8gbTx6Yo Hsg2WPHFJ0t EJ1kV7Ti7Lk OapX9jb44WC DvmKNlnx4qR OrXfov060pp IsOMS4NUoIc VnSYnReDBro Oo3yCoNWtkZ FIa5G3mjnRn SSUID7xvVsD AbRXd68J33t D8c4IlyOhBM EyhPxE2n829 L3HK0EgleqV TPHV291lnDV EKJEXIvpDKG VlklkGRZc6a LfHNfBJ5iHg LWMw4aJ7ux8 J697IYSh1Is E3sXxWT1X9j Jc5VnVEnVz0 MtR6hrtf6Lk M3hfFUDKE9O AYFmDD3B39w LSiui4p5Qk1 ADicpO2hSgD VM9pj0I9oAb COfcHL3i1qe RJSKVgRMkhG NPzUrvugs7G TXndNrRdM3R SAbjC1P89ul KNnfzdEfutS NLyZAZt6Fgm Fz1odtTqDqJ JbRzCQj5CyH C2AKpmBD6Ef Dv1pkptYhpe K5OohSr2DtU BnyyY99xFU2 DxZEL7DXAQg EOo56FCLs83 PxTatw4urXO AbKgF43nxLx OwXWLlnmtjU OdAvTFGOHmi AC31tGYQ1hL AE4o2rwSajy AX0uKlhxN1A HGN2IZg6UV5 Jo5vOOSBiWZ TwrOirqxSHh IcytBGHpLKK D0anWNRSPju JwJlabzvpxR SihTRIxafeS FTN2HUUNhxj PBKermXHLyk KWQbJ3HcI2J T3NPNobm0T7 IyA93VP4zRs EQdZMUSBbI9 DFIJzKIu04W NiGUU4Xfyef CoR3I9qowM7 LhU4PAqKXS4 NLY3WTtZJPp LwwwX0H3M3u UvX2i3Od8iW LXQCwuwcjKg VIQ0faOVtbZ VGOp9gRDmtS TNWsV6Um95V Hvu1CiXzUTL D3VIjNsSEYB AGqh2uBcWph SS7SABRSKmc E8fTP20bw9I HJqW8tnWazh MM0R1qOuhY7 G4FOSVDEsxF EMDHEAS5B3q RuHu2JhlgSG JuTuqMmW9SM L1f1XetVkM8 N3vH3Z29LXi CDOwO1oCgb7 OFELszlJtdu OsVCMcjQhTi Uj3XJj9tHkb CdS67KlP4Ft RHidiqRS9xn EWkOiUuChZH SC6EJG0TDdq VDOelT7s707 FpihbvU1ZLx LLKBzWGIq97 GkiYrim7ENZ BkaNR6cGvHm HcGGF9xltEF VPSqthEtAqZ HMxbf6ZxndW FyNjiJQgomR Hr7p0ylANbi IeUkdBqSCsJ DZqRVMwyb2w Q0PHYarbd3c B1AEfiYsxK2 HTTpGvNmYDS Tpz6JI8y7e7 S5JrNGhJLsJ JwsTAApO3fV KTFu4gm1bXm EYx5WsVoy2f APRLQuYRhdW FV1YYV2IzOI CiyZR5lgIpj UUdBDgT1yjn FvD6qmzASns E2myjOTzO4V RyOUFGarylo Gpa4LVdbMRq FvIscaxrxoE ISRJzJA5lZp GA7fiCMHxsl UdeOhYTjAAO OafE3CdTD1l DFjpERzdgkL O6gKs8f4WQY MkEIv3mTX4t HCVtL6ZgUhd IFZxGVZBArk CVj2EC2F2mn ML2zT9kAq8s Vbm7MRwG26t TmyYLEEyTFa JBFLeuOi1So RFk9WQ4OY69 PF7Kx0zkkH6 HJ1y8VOU4jc BLyGKhbLBe5 PdZLCYjTXCp KRhRVNGx5wG P7ajrDX4Mnf GxMyHTy1jL3 Fo9jIvlCrca UFkvLB8YXPt D8KSBa8j8Fi Ui9IBn7wFoj UvgRvzyZT6Q PiUYERQ9WyR LGDY6ZLnfFu QpHHHBzBedY SX7PsgYhA95 EhiOgQA2g8e LD5cV4PrlLd BtXNhVsR6bk QDVYY41IXmI OqdNWHnm2Ez UWWATSZUYsV SyA24VnWuuZ Fc2zELpkT1G QIC3fFu8t3E Jpj4JxUOJyT EK1GWgfRnJN HNM8KsvKG9i OJYOxvh4Je1 Fsh9e9emee9 SeTN6awK5qN Dov8LCw5p7N MD02bI2FaLg BQ9ZQf9FB8u Dl21JfkZ39t NReKdosFQ4C M20xNlJdxhb SMM3GyKQj8F QufFP4I2aB6 EuLv0k7Ba97 OvtxdNYfrOz BgQKUDnfRvJ Hx9qUxSn7Dv Mw9woSIqfZq LkEmcAOcLJY UB2W6CAW1mr UExVsdmGlh9 TMFik6RCLfr AtFKZGvjsIA VCCVnqLtgHA QiTzp3vQUDW T9V6OEQgxZT TDUP6kqaM3o Fi1kbiSU3eL ONTNQUlBmJm A67JEbJ6bDP SmnAEWpHGfc KpiMIFRcenu R5n5G3xioFB QapFYgqXpXL JTCS8F6kAlC SIRnwOo4c2e VYMq5YTbi3l F8WgBeZaq7P B4VSmCk8CfI JSt4SdHU1Wr BSELD7tfdLW KwccgHxqacO VdfovzMAJcd VHq5qocrKFl NzylvLjz0QH U0LcF4DKzGY Mrif8IrYeM8 HiH8vMF4q2l U7cmLR8jJJG TtSOvUSCmx1 GrFrPLZtjrg VYbsA0VIX7P QDBNxEgSj32 KVWcG71qxGf A3MoE0wkJLK B7BeVpIIGd7 Q2C40ukFRJd Ug5nuelZmGC Iz6poec4WmS O8wvDFnV7Ll HQAT9nvpMhZ JECI3PpyvET CDh42N0Snst GmhdsNPh7fE SYZrEJPuDM9 UIZVd4LRaRQ KrSi0ZdWXRN M5v2oYt6h2f KsTS6tK2ZZk LRRqwz34nRE E5dINtM8gtm EiKFyOy5U7P S6fJ8sl1aZJ IlOEAhRVjeB IQLhtRdkvd2 FxedIz7s8RH RzvUMWN6Sxb IM7n3KRWPyQ IJhJMyqsMeC BHTBqqlBEeC ErSwBO3mLIo UzCkSvCsJTP F2zjmZhYRiI QIxCFuIPLX3 EsxfqDFV2Na SOniiybVBgL IbZYsv0u6FB HpyAljCw9dq DlCzsUyli0C FSdyFkh3kSG HWmKVSdrDSS SPhQApUvIZM P9ys40e0jTO DCUGMukc5JW N5mtviCD8kt F1vfG7xUIJm MkTpSu2AKLS FDhf2ioXuoj AVFilHBWNgH CM1sSlsZWqg OvcFJIM0gU3 T4E8BnGVQaw LlAVeDgpjsD IIDN4ThEXrd RAuSnQCiaum TyHjR1Z4ztk Aqpr7JGhmOV JxKFS6n3rX9 VnDT1Mti4mY GoIj7eZ0n3r VkRiAwSF0MZ QurC9qSzKlQ PrqlmuzLX5i UqSTskRtlzq Ks54kPXpNvA L3GJh1bV5n5 QhmkENAeXbJ TZ7hkxrzdbE VYDN6W7dX9K Azw0Gf7kwFA JO49zffXxd7 QjQQ6MXZwf5 COKqgdIj4yN FK3iAJVpSO2 AGPVpQwR7PD HzRG2zwT5d0 FyjMhd3Hoa7 L0gz2qxjL8M T2HdqVZVYMV NBMODMaQR2q Ny8bctBXyE0 Br3ARFkSgS9 VPHvw7IUxy7 Dk3wyEsVNca DzYG7nU7P46 KLv523XrT0D K4vyHl17gzy TTBgef1SeFZ E5ODWK3HLA4 SGHzNUC99US GzwXHBUTq81 Rg5GbrS2zcH IyPcuW4Bljm JkyydjKnaou EmNEmT3M0VR RD2IajInxNE TGXPpuJDCHa UzYHGapYSkd RcuOuRZzxNs Dh9A1EpWohn U55Npdivvgx Lb4TYU7Cblo HFf2H4itwY3 RDeHI8kPqB6 KklK1Zwe2PI LZc1ju23PxZ I5IgSN0gi7E IU5Q6Uktlu5 KR5DgwXbdGA UygWe92F19u Bw90BFgrMBQ D8Rz7eDp49q L0xY5tffUR4 PW9q0azp1iR UpD04LxJay1 B1mrQ0QeR36 P7NJNCZvtZr Aj1qhQYKuKY PMMQbGfnsEi D6XOL3ymTre HNHpZoORqFG JioOC3lwm9Q AyoC1HMGlap JiZRqCjxETE OcuwxDFlbEF K2uUFSnQUKM FFUj5baG4QG QlEVL7ehFj6 PQlS9vq46lH JAM997DTen5 OwcLgROQ3gQ SSAiGaCDROP NcWZbdqDJNi Jm6QBhCLwfU JMamIZ0JgvC I40aYkJxfqy E0FZZLPKFYr SnmtoXRPzJl A7lEDWoIlbc DaZUQo4HD2S C3aVbqgth1I K0d7irQzMI6 R3yNGXpznTx GPUvFEhdfDC SuCaecTE6wg Mq0ePmTLXAx KeLIR68cH3h RsGKHiZF6sf TvFFHrcsB1a SNXM7hKcsY4 UAVPFwBlOwm JFRUgASEBPr NQatNKgfkrD AcFgHVbZgQ3 RQ40cVdJcEK N9FzPW85qgX OdRw8tUjMMc DpwU21dz08N MwlGRaWoiPR SxUsy9gZ0dx BHT2byMtB2v SGPU4isMNUr SNVYVcSQn51 OMFcDbiNbKW UNSh0rcvxfn SPvtpN73EKV I0KUDZ6q36W Cu7DksxnZ8K RK7AdEOmI5W CeibqbMbYBD Acy66qfjTaR IpxZBWTeR6b DkZPqrNQ3N3 K30Y44h5W5k KoMsW1RWq4m QknOUWEtHjM DDpiAeYZlk5 P34NYkSwz5s QqbQwxEt7Kk EsPb1e7ltWr JamiVSTW4xG EGRotgDiPBq VZnIQl6SiY9 OtYiiBwm8H5 Tr4xKr1Voqn FzJg4StsvAS NshVdgxNLa9 B7XpXm4e3VW Nzji4o2xWzy FlF19BnNc5T KhTYO5JqbA1 PprZgUQDfib A9ArAckuZmP IbFMXJcYok8 GfjuO8yXefi AkT6RVoGLtK OZtBCYNHY2E D7TeZfJkbgf PLgzzWBBIJ0 FNeoqtUMHhl R3y6aiDUqrN CRcKDI3cUDc DPPfZqCaS2x TWV6o3q3YMw HPDwOxFsOF4 IlKns6qXrEb SMEicxY5Y1W HFfscyQRwmD KJqvFabxsVd EdNZxDhum5g GBL2Hnq2mU9 RVBztSwnlnM HoUIHyc8Dzl K6RmTZoYVbk DHporRb3I6R VBv5Vfv5Wii TbzcnL7nDFz AyWW3Uqvuwr RGFNGn73aQK FsiYGfCLY0O IDAm07r9XMu JXfQZXO87ZG KBbqtMPuubZ AY7lg5tTJyy J6Eefxyxzt6 J3CW0pSPrzz VQKSd5VLsTy LJaPue9pFKO BXZ0Vi1tyyf Eza3gvGFatA KCKcJ9MpXjF FukqCFJxs1H Tx9JfRrWm1y KTphgiVegCr I6P9nTc8ckp SjUH2ZM3BYh TkM4FNClOu9 F1LKWJE1KYW GGui4x3Ky98 R15WBVvBK21 NVbqC07hAmP KddZFTFaMRv SFNEiLZ1QNk CMqrd1e27gs MiECPOKs0Bc EsAfmZFGm4p RAptIPc5OAH DkU8Ktga69T TbMlwCtwMgl A2m8o3m02yp KsFzOcouD4S UoaoTMRefeX NTMno7JIU5c AEvZqo8pK3I Fh8IrIZ2tFD GaO4gn9JyVy Hr0t6Lebzgg HyRyHrtZKfz A8Rs6qEMsTV CB4A0OYguqv GHaLGJgpjyL VZVOvwpgSwO NNTgLvU46jA IKTNcSFg0GO OkFGxqbLkvE IGRL1MLcc13 ARNYUJuIN3N DAs9EBJek06 KQNdfJxej6v AyOo56IH88A HOYLepYsSIh LUjnr0BXKti Kd2qIvmpbTf OnMcS3xxGwr LNgz7SphX0l VbrHFKTiiMJ BfwCrFLqivS HovpFu67EBy NqGOUbb0qj5 QzNDF9aU7v2 EPWt9ChjnNs TToXc8Z27Wz VsYUw69Wb7D Jj52b7SWN2a QPngL6bU8sV RNsHkOD22UC PPLpQ9jWNh4 OZdtAozfXBB V718xpASk0A QQy6OYpviRC Nd2OnT59pAa NEmtBvtNBuu S1sxdQJBHnM BIWkM0fjJRV IF9TPKn4m27 ARA2DPXYQ0o KyBNC42Qw3U Pm3C9cewkrT LJB5zTC4s5X KqoBuIJq3KE F8rzgvWn57M J3nPo50YdQV IX83IQfByhv VIVcoYIE2HQ V8AuGTnBK7H EtRQYkUiz6g GFkS1jD3TVj DfD1BEuNlLn SWrgomOkguB H1P6m1zOqGN DnCw95MySsF VYb2vZz1mOG JqfvnxmbFES T2e9oCsZJQq EPScbcU5M2x IT7qwNeTOLF OoQY5aH7Sen BOIw48NpF65 GGglpCvoVLe M3XtmQ2qQcu D0c1qVsL1Wc CwbZhLOAEov NcWzybjL0A5 Q0TEdiAdgAV ImCmkjAYKQf RP8TG64MpS3 Ctow54zgJ2F VgikHfUPoda GbRt3qlsTUA PNSrnJfdHZB IuDgYYQHTHG A1dIz2Cvrtw CNHMJUwzM3X EYrCEEw9VCV M4nyDNXQZYo UcChpTB3IQR IcYHTm89g5h Q6kohMazRbY PSBBfzoBvBs EWPomGcTlMJ NohFPIadMTi Goh1oB5zMSe RVu4TXebuLZ JOYZouNqBt3 TCNwgj3Rcuu T9QgzPU7vLs FxpXDsDORHV UACjBGPFr6s MtGFWEafeLB Lz2MOpnrZto S5C7am1jIck If5CUHEVrlN TJietXINPOe JrfksksFKSD G77QSZStY0c F0lqQamrkiZ TXK5rME6AgE UqqfmSSAwUC Q65qBywUJI7 FIF2hEdNHUU ALGYUZLMvJ1 GfdyRiCBNUY VJyPBGMOFEs A6nWQMZ1Lft N1UGNx5pET0 U5MoNPJagOl V7yQgtRO4w3 OdGCUitb670 F3ZMAG8vZDb EWE5EoJM5NR Nbpnb3p8EeF SbH2ki2sUR2 SsBfHcbtRf6 DKDmJySSQuX
end PySem.W.Fast
set_option maxRecDepth 100000 in
set_option maxHeartbeats 0 in
theorem PySem.Challenge.cw_whistlebook_k36_whole_rounds_over_stay_holds : PySem.Challenge.rw_whistlebook_k36_whole_rounds_over_stay.Holds := by
 w_on;o_law;k_head;(case hw=>w_witness2)
 k_fill
 refine K36.walk (l:=PySem.Challenge.rw_whistlebook_k36_whole_rounds_over_stay) rfl rfl (fun w h Y=>PySem.W.kIn_of Y) ?F
 case F =>
  intro w mg fa h KX G hmg
  refine' K36.zj5 KX G hmg ?zqp ?zo9 ?zon ?znw ?zn7 ?zn2 ?zp9 ?zpv ?zoz ?zpu ?zo8 ?zo0 ?zqs ?zqb ?znk ?zoh ?zq4 ?zq3 ?zrx ?zq5 ?zra ?zrq ?zri ?zrr ?zrw ?zq9 ?zoc ?znx ?zrp ?zrf ?zrn ?zrd ?zrm ?zrj ?znc ?zry ?zr1 ?zsb ?zr4 ?zr8 ?zr5 ?zoo ?zqr ?zod ?zqm ?zrv ?zru ?zrg ?zrb ?zrk ?zq8 ?zpd ?zrl ?znq ?zns ?zoj ?zpp ?zm4 ?znj ?zp3 ?zqh ?zov ?zq1 ?zpg ?zok ?zot ?zqc ?zrc ?zpe ?zqw ?zqi ?zpw ?zn9 ?zsd ?zmg ?zpt ?zno ?zog ?zmx ?zph ?zsl ?zmm ?zsg ?zr6 ?zr3 ?zsf ?znz ?zne ?zqd ?zo7 ?zmy ?zmf ?zoa ?zn6 ?zn0 ?znb ?znp ?zob ?zo1 ?zn4 ?l0 ?l1 ?l2 ?l3 ?l4 ?l5 ?l6 ?l7 ?l8 ?l9 ?l10 ?l11 ?l12 ?l13 ?l14 ?l15 ?l16 ?l17 ?l18 ?l19 ?l20 ?l21 ?l22 ?l23 ?l24 ?l25 ?l26 ?l27 ?l28 ?l29 ?l30 ?l31 ?l32 ?l33 ?l34 ?l35 ?l36 ?l37 ?l38 ?l39 ?l40 ?l41 ?l42 ?l43 ?l44 ?l45 ?l46 ?l47 ?l48 ?l49 ?l50 ?l51 ?l52 ?l53 ?l54 ?l55 ?l56 ?l57 ?l58 ?l59 ?l60 ?l61 ?l62 ?l63 ?l64 ?l65 ?l66 ?l67 ?l68 ?l69 ?l70 ?l71 ?l72 ?l73 ?l74 ?l75 ?l76 ?l77 ?l78 ?l79 ?l80 ?l81 ?l82 ?l83 ?l84 ?l85 ?l86 ?l87 ?l88 ?l89 ?l90 ?l91 ?l92 ?l93
  (case zqp|zo9|zon|znw|zn7|zn2|zp9|zpv|zoz|zpu|zo8|zo0|zqs|zqb|znk|zoh|zq4|zq3|zrx|zq5|zra|zrq|zri|zrr|zrw|zq9|zoc|znx|zrp|zrf|zrn|zrd|zrm|zrj|znc|zry|zr1|zsb|zr4|zr8|zr5|zoo|zqr|zod|zqm|zrv|zru|zrg|zrb|zrk|zq8|zpd|zrl|znq|zns|zoj|zpp|zm4|znj|zsd|zmg|zpt|zno|zog|zmx|zph|zsl|zmm|zsg|zr6|zr3|zsf|znz|zne|zqd|zo7|zmy|zmf|zoa|zn6|zn0|znb|znp|zob|zo1|zn4=>(show _=_;k_is))
  (case zp3|zqh|zov|zq1|zpg|zok|zot|zqc|zrc|zpe|zqw|zqi|zpw|zn9=>(show PySem.W.excIn _ _ _ _=true;k_exc))
  (case l0|l1|l2|l8|l9|l10|l11|l12|l21|l22|l23|l24|l25|l26|l27|l28|l29|l30|l41|l65|l66|l67|l68|l69|l70|l71|l72|l73|l74|l75|l76|l77|l78|l79|l80|l81|l82|l83|l84|l85|l86|l87|l88|l89|l90|l91|l92|l93=>(constructor<;>(show _=_;k_is)))
  (case l3|l4|l5|l6|l7|l13|l14|l15|l16|l17|l18|l19|l20|l31|l32|l33|l34|l35|l36|l37|l38|l39|l40|l42|l43|l44|l45|l46|l47|l48|l49|l50|l51|l52|l53|l54|l55|l56|l57|l58|l59|l60|l61|l62|l63|l64=>(constructor<;>(show _=_;k_is)))
#print axioms PySem.Challenge.cw_whistlebook_k36_whole_rounds_over_stay_holds

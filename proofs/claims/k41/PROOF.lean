import PyProof.Rows.All
import Wide.All
import OpenK.AllK
import Wide.FinOn
import PyProof.EqAt
import PyProof.EqKinds
import PyProof.TupleCall
import Lean
import KE.KDictList
import PyProof.MaxThree
import KE.LcSums
import PyProof.Rows.FactsN_abs
import PyProof.FactsAll.list_3
import PyProof.SeqI3
import PyProof.EnumIter
import PyProof.EnumMake
import PyProof.EnumFor
import PyProof.ZipIter
import PyProof.FactsAll.zip_1
import PyProof.DictIter
import PyProof.MinMaxWalk
import PyProof.Rows.TupDisplay
import PyProof.Rows.SetFrom
import PyProof.FactsAll.NoneType_1
import PyProof.StrCalls2
import PySem.Challenge.RW_whistlebook_k41_whole_fewest_moves
open PySem.W(Frag)
open Sum(inl inr)
local macro_rules|`(⋯)=>`(by first|decide +kernel|omega|walk_at "ar")
abbrev zta:=@List.length_map
abbrev ztb:=@List.getElem?_eq_getElem
abbrev ztc:=@List.length_append
abbrev ztd:=@List.getElem?_eq_some_iff
abbrev zte:=@List.mem_singleton
abbrev ztf:=@decide_eq_true
abbrev ztg:=@List.mem_cons
abbrev zth:=@decide_eq_false
abbrev zti:=@List.map_append
abbrev ztj:=@List.getElem?_map
abbrev ztk:=@List.mem_map
abbrev ztl:=@List.mem_append
abbrev ztm:=@Nat.le_refl
abbrev ztn:=@List.mem_of_getElem?
abbrev zto:=@List.map_cons
abbrev ztp:=@List.size_toArray
abbrev ztq:=@List.take_length
abbrev ztr:=@List.mem_cons_of_mem
abbrev zts:=@Nat.le_trans
abbrev ztt:=@List.length_cons
abbrev ztu:=@Bool.false_ne_true
abbrev ztv:=@Int.toNat_natCast
abbrev ztw:=@List.mem_filter
abbrev ztx:=@List.mem_append_right
abbrev zty:=@Nat.lt_of_lt_of_le
abbrev ztz:=@List.nodup_cons
abbrev zt0:=@beq_eq_false_iff_ne
abbrev zt1:=@List.getD_eq_getElem?_getD
abbrev zt2:=@Nat.ne_of_lt
abbrev zt3:=@List.mem_cons_self
abbrev zt4:=@Nat.zero_le
abbrev zt5:=@List.mem_range
abbrev zt6:=@List.getElem?_append_right
abbrev zt7:=@List.mem_append_left
abbrev zt8:=@List.getElem?_set_ne
abbrev zt9:=@List.getElem?_append_left
abbrev zua:=@List.take_add_one
abbrev zub:=@List.take_succ_eq_append_getElem
abbrev zuc:=@Int.emod_lt_of_pos
abbrev zud:=@List.not_mem_nil
abbrev zue:=@List.getElem_mem
abbrev zuf:=@List.length_filter_le
abbrev zug:=@List.getElem?_set_self
abbrev zuh:=@List.lookup_cons
abbrev zui:=@List.nodup_iff_pairwise_ne
abbrev zuj:=@Int.emod_nonneg
abbrev zuk:=@List.getElem_of_mem
abbrev zul:=@List.length_take_le
abbrev zum:=@List.filter_cons
abbrev zun:=@Nat.lt_irrefl
abbrev zuo:=@List.length_range
abbrev zup:=@List.filter_cons_of_neg
abbrev zuq:=@List.filter_cons_of_pos
abbrev zur:=@List.length_eq_zero_iff
abbrev zus:=@Option.map_some
abbrev zut:=@List.length_set
abbrev zuu:=@List.append_inj'
abbrev zuv:=@Option.isSome_iff_exists
abbrev zuw:=@Bool.and_eq_true
abbrev zux:=@List.map_congr_left
abbrev zuy:=@Nat.le_succ_of_le
abbrev zuz:=@Nat.lt_of_le_of_lt
abbrev zu0:=@List.filter_append
abbrev zu1:=@List.length_take
abbrev zu2:=@List.filter_nil
abbrev zu3:=@Bool.false_eq_true
abbrev zu4:=@List.map_map
abbrev zu5:=@List.nodup_nil
abbrev zu6:=@List.append_assoc
abbrev zu7:=@Nat.lt_succ_of_lt
abbrev zu8:=@Int.zero_add
abbrev zu9:=@List.mem_singleton_self
abbrev zva:=@List.all_eq_true
abbrev zvb:=@Option.map_eq_some_iff
abbrev zvc:=@List.length_pos_of_mem
abbrev zvd:=@Nat.div_div_eq_div_mul
abbrev zve:=@Bool.eq_iff_iff
abbrev zvf:=@List.append_nil
abbrev zvg:=@List.find?_cons
abbrev zvh:=@List.length_nil
abbrev zvi:=@List.eq_nil_or_concat
abbrev zvj:=@List.any_cons
abbrev zvk:=@List.reverse_cons
abbrev zvl:=@List.nodup_append
abbrev zvm:=@List.append_cancel_left_eq
abbrev zvn:=@Nat.lt_succ_self
abbrev zvo:=@List.filterMap_cons
abbrev zvp:=@Int.toNat_of_nonneg
abbrev zvq:=@List.mem_filterMap
abbrev zvr:=@Nat.not_lt_zero
set_option Elab.async false
set_option linter.all false
set_option maxRecDepth 100000
namespace L2
open PySem PySem.Spec PyProof.Rows
abbrev Key:=Sum Int Str
def Gj:Key->Value->Bool
 | .inl k,v=>Value.isInt k v
 | .inr x,v=>Value.isStrOf x v
def zko(w:World):Key->Int
 | .inl k=>hashInt k
 | .inr x=>hashStr w x
theorem Yw:∀ {k:Key} {v:Value},Gj k v=true->(∃ i t,k=inl i/\v=Value.int i t)\/(∃ x t,k=inr x/\v=Value.str x t)
 | .inl i,v,h=>by
   obtain⟨t,e⟩:=Value.isInt_shape (k:=i) (v:=v) h;exact .inl ⟨i,t,rfl,e⟩
 | .inr x,v,h=>by
   obtain⟨t,e⟩:=Value.isStrOf_shape (x:=x) (v:=v) h;exact .inr ⟨x,t,rfl,e⟩
theorem zbl(i:Int)(t:Tok):Gj (.inl i) (.int i t)=true:=by simp[Gj,Value.isInt]
theorem zbm(x:Str)(t:Tok):Gj (.inr x) (.str x t)=true:=by simp[Gj,Value.isStrOf]
theorem zhq(a b:Int):decide ((inl a:Key)=inl b)=(a == b):=by
 by_cases e:a=b
 ·subst e;simp
 ·have h:¬ (inl a:Key)=inl b:=fun q=>e (inl.inj q);rw[zth h];exact(zt0.mpr e).symm
theorem zhr(a b:Str):decide ((inr a:Key)=inr b)=decide (a=b):=by
 by_cases e:a=b
 ·subst e;simp
 ·have h:¬ (inr a:Key)=inr b:=fun q=>e (inr.inj q);rw[zth h,zth e]
theorem zhs(a:Int)(b:Str):decide ((inl a:Key)=inr b)=false:=zth (fun q=>nomatch q)
theorem zht(a:Str)(b:Int):decide ((inr a:Key)=inl b)=false:=zth (fun q=>nomatch q)
def Yi(prog:Program)(w:World):PySem.KeyKind prog w Key where
 is:=Gj
 hash:=zko w
 inj:=fun v a b ha hb=>by
  rcases Yw ha with ⟨i,t,rfl,rfl⟩|⟨x,t,rfl,rfl⟩
  ·rcases Yw hb with ⟨j,u,rfl,e⟩|⟨y,u,rfl,e⟩
   ·injection e with e1 _;rw[e1]
   ·exact nomatch e
  ·rcases Yw hb with ⟨j,u,rfl,e⟩|⟨y,u,rfl,e⟩
   ·exact nomatch e
   ·injection e with e1 _;rw[e1]
 byValue:=fun k v h=>by
  rcases Yw h with ⟨i,t,rfl,rfl⟩|⟨x,t,rfl,rfl⟩<;>rfl
 pyHash:=fun hv h=>by
  rcases Yw hv with ⟨i,t,rfl,rfl⟩|⟨x,t,rfl,rfl⟩
  ·exact wpAny_pyHash_int h
  ·exact wpAny_pyHash_str h
 eqBool:=fun hu hv h=>by
  rcases Yw hu with ⟨i,t,rfl,rfl⟩|⟨x,t,rfl,rfl⟩
  ·rcases Yw hv with ⟨j,u,rfl,rfl⟩|⟨y,u,rfl,rfl⟩
   ·rw[zhq] at h;exact wpAny_eqBool_int h
   ·rw[zhs] at h;exact SeqAt.EqAt.int_str i t y u _ _ _ _ h
  ·rcases Yw hv with ⟨j,u,rfl,rfl⟩|⟨y,u,rfl,rfl⟩
   ·rw[zht] at h;exact SeqAt.EqAt.str_int x t j u _ _ _ _ h
   ·rw[zhr] at h;exact wpAny_eqBool_str h
 «strs»:=fun k x t v h=>by
  rcases Yw h with ⟨i,u,rfl,e⟩|⟨y,u,rfl,e⟩
  ·exact nomatch e
  ·injection e with e1 _;subst e1;cases v<;>rfl
theorem E4(prog:Program)(w:World)(i:Int)(t:Tok):(Yi prog w).is (.inl i) (.int i t)=true:=zbl i t
theorem E5(prog:Program)(w:World)(x:Str)(t:Tok):(Yi prog w).is (.inr x) (.str x t)=true:=zbm x t
inductive V where
 | non|bl (b:Bool)|int (i:Int)|str (x:Str)|byt (b:Array UInt8)|flt (b:UInt64)|ref (a:Addr)|ty (n:String)
 deriving DecidableEq
def RelV:V->Value->Prop
 | .non,u=>u=Value.none
 | .bl b,u=>u=Value.bool b
 | .int i,u=>∃ t,u=Value.int i t
 | .str x,u=>∃ t,u=Value.str x t
 | .byt b,u=>∃ t,u=Value.bytes b t
 | .flt b,u=>∃ t,u=Value.float b t
 | .ref a,u=>u=Value.ref a
 | .ty n,u=>u=Value.type n
abbrev Vals:List V->List Value->Prop:=Paired RelV
theorem Vals.length(r:Vals xs us):xs.length=us.length:=Paired.length r
theorem Vals.get:∀ {xs:List V} {us:List Value} {i:Nat} {x:V},Vals xs us->xs[i]?=some x->∃ u,us[i]?=some u/\RelV x u
 | _,_,_,_,.nil,e=>by simp at e
 | _,_,0,_,.cons r _,e=>by simp at e;subst e;exact⟨_,rfl,r⟩
 | _,_,i+1,x,.cons _ t,e=>by
   obtain⟨u,h1,h2⟩:=Vals.get (i:=i) (x:=x) t (by simpa using e);exact⟨u,by simpa using h1,h2⟩
theorem Vals.set(r:RelV x u):∀ {xs:List V} {us:List Value} (i:Nat),Vals xs us->Vals (xs.set i x) (us.set i u)
 | _,_,_,.nil=>.nil
 | _,_,0,.cons _ t=>.cons r t
 | _,_,i+1,.cons q t=>.cons q (Vals.set r i t)
theorem Vals.append:∀ {xs ys:List V} {us ws:List Value},Vals xs us->Vals ys ws->Vals (xs++ys) (us++ws)
 | _,_,_,_,.nil,s=>s
 | _,_,_,_,.cons r t,s=>.cons r (Vals.append t s)
theorem Vals.take:∀ {xs:List V} {us:List Value} (n:Nat),Vals xs us->Vals (xs.take n) (us.take n)
 | _,_,0,_=>.nil
 | _,_,_+1,.nil=>.nil
 | _,_,n+1,.cons r t=>.cons r (Vals.take n t)
theorem Vals.drop:∀ {xs:List V} {us:List Value} (n:Nat),Vals xs us->Vals (xs.drop n) (us.drop n)
 | _,_,0,r=>r
 | _,_,_+1,.nil=>.nil
 | _,_,n+1,.cons _ t=>Vals.drop n t
def RelO:Option V->Option Value->Prop
 | some v,some u=>RelV v u
 | none,none=>True
 | _,_=>False
def KV{κ:Type}:List (κ×V)->List (κ×Value)->Prop:=Paired fun (p:κ×V) (q:κ×Value)=>p.1=q.1/\RelV p.2 q.2
def kV:Key->V
 | .inl i=>.int i
 | .inr x=>.str x
inductive HO where
 | lst (xs:List V)
 | tup (xs:List V)
 | dK (kvs:List (Key×V))|dT (kvs:List (List Key×V))
 | set (S:Int->Bool) (n:Nat)
 | ins (C dx:Addr) (fs:List (Str×V))
 | own (x:Addr)
 | xd (fs:List (Str×V))
 | met (f x:Addr)
 | rng (lo hi:Int)
 | frz (o:Obj) (u:HO)
 | tbl (ps:Array Value)
 | ext (φ:Heap->Prop)
abbrev Hp:=Addr->Option HO
def upd(H:Hp)(a:Addr)(o:HO):Hp:=fun b=>if b=a then some o else H b
theorem Zc:upd H a o a=some o:=by unfold upd;rw[if_pos rfl]
theorem Zi(h:b≠a):upd H a o b=H b:=by unfold upd;rw[if_neg h]
theorem Km:upd (upd H a o) a u=upd H a u:=by
 funext b;unfold upd;split<;>rfl
theorem Yo{H:Hp}{a b:Addr}{o u:HO}(h:H a=some o)(h':H b=some u)(d:o≠u):a≠b:=by
 intro e;subst e;rw[h] at h';exact d (Option.some.inj h')
theorem Zh{H:Hp}{a b:Addr}{o:HO}(h:H a=some o)(h':H b=none):a≠b:=by
 intro e;subst e;rw[h] at h';cases h'
section
variable(P:Program)(w:World)
def Y3(H:Hp)(h:Heap)(a:Addr):HO->Prop
 | .lst xs=>xs.length<=sizeLine/\∃ (its:List Value) (n:Nat),Vals xs its/\h.get? a=some { cls:=.type "list",data:=.seq its.toArray n }
 | .tup xs=>xs.length<=sizeLine/\∃ its:List Value,Vals xs its/\IsTup h a its.toArray
 | .dK kvs=>kvs.length<=sizeLine/\(a == sysModules)=false/\∃ vs,KV kvs vs/\h.DictOf (Yi P w) a vs
 | .dT kvs=>kvs.length<=sizeLine/\(a == sysModules)=false/\∃ xs:List (List Key×Addr×Value),
   Paired (fun (p:List Key×V) (q:List Key×Addr×Value)=>p.1=q.1/\H q.2.1=some (.tup (p.1.map kV))/\RelV p.2 q.2.2) kvs xs /\
   ∃ o es ep,h.get? a=some o/\o.ExactDict/\o.data=.dict es ep/\es.toList=xs.map (entryOfKey (tupleKind (Yi P w)))/\(xs.map (·.1)).Nodup
 | .set S n=>h.SetOf (intKind P w) a S n
 | .ins C dx fs=>H dx=some (.own a)/\fs.length<=1000/\dx≠a/\h.get? a=some (PySem.W.instObj C dx) /\
   ∃ mA,h.Ns1 dx mA/\(∀ f,RelO (fs.lookup f) (mA f))/\PySem.Within mA (fs.map (·.1))
 | .own _=>∃ o,h.get? a=some o
 | .xd fs=>∃ mA,h.Ns1 a mA/\∀ f,RelO (fs.lookup f) (mA f)
 | .rng lo hi=>∃ t u v,h.get? a=some { cls:=.type "range",data:=.fields #[.int lo t,.int hi u,.int 1 v] }
 | .frz o u=>h.get? a=some o/\Y3 H h a u
 | .tbl ps=>h.get? a=some { cls:=.none,data:=.fields ps }
 | .met f x=>h.get? a=some (PySem.W.methodObj (.ref f) (.ref x))
 | .ext φ=>φ h/\(∃ o,h.get? a=some o)/\∀ h1 h2:Heap,φ h1->(∀ o,h1.get? a=some o->h2.get? a=some o)->φ h2
def HOk(H:Hp)(h:Heap):Prop:=∀ a o,H a=some o->Y3 P w H h a o
end
section
variable{P:Program}{w:World}{H H':Hp}{h h':Heap}{a:Addr}{o:HO}
theorem Y3.lt(x:Y3 P w H h a o):a<h.objs.size:=by
 cases o with
 | lst xs=>obtain⟨_,_,_,_,e⟩:=x;exact Heap.lt_size e
 | tup xs=>obtain⟨_,_,_,p⟩:=x;exact p.lt
 | dK kvs=>obtain⟨_,_,_,_,o,_,_,e,_⟩:=x;exact Heap.lt_size e
 | dT kvs=>obtain⟨_,_,_,_,o,_,_,e,_⟩:=x;exact Heap.lt_size e
 | set S n=>obtain⟨o,_,_,_,e,_⟩:=x;exact Heap.lt_size e
 | ins C dx fs=>obtain⟨_,_,_,e,_⟩:=x;exact Heap.lt_size e
 | own y=>obtain⟨_,e⟩:=x;exact Heap.lt_size e
 | xd fs=>obtain⟨_,⟨_,_,_,e,_⟩,_⟩:=x;exact Heap.lt_size e
 | rng lo hi=>obtain⟨_,_,_,e⟩:=x;exact Heap.lt_size e
 | frz ob u=>obtain⟨e,_⟩:=x;exact Heap.lt_size e
 | tbl ps=>exact Heap.lt_size (show h.get? a=some _ from x)
 | met f y=>exact Heap.lt_size (show h.get? a=some _ from x)
 | ext φ=>obtain⟨_,⟨_,e⟩,_⟩:=x;exact Heap.lt_size e
theorem Paired.mapP:∀ {l₁:List α} {l₂:List β},Paired F l₁ l₂->(∀ a b,F a b->G a b)->Paired G l₁ l₂
 | _,_,.nil,_=>.nil
 | _,_,.cons r t,f=>.cons (f _ _ r) (Paired.mapP t f)
theorem Y3.stay(x:Y3 P w H h a o)(k:∀ b u,(b=a\/H b=some (.own a))->h.get? b=some u->h'.get? b=some u)
  (ho:∀ b,H b=some (.own a)->H' b=some (.own a)) (ht:∀ b xs,H b=some (.tup xs)->H' b=some (.tup xs)):Y3 P w H' h' a o:=by
 induction o with
 | lst xs=>obtain⟨z,its,n,r,e⟩:=x;exact⟨z,its,n,r,k _ _ (.inl rfl) e⟩
 | tup xs=>obtain⟨z,its,r,ob,e,c⟩:=x;exact⟨z,its,r,ob,k _ _ (.inl rfl) e,c⟩
 | dK kvs=>obtain⟨z,y,vs,r,ob,es,ep,e,c⟩:=x;exact⟨z,y,vs,r,ob,es,ep,k _ _ (.inl rfl) e,c⟩
 | dT kvs =>
   obtain⟨z,y,xs,r,ob,es,ep,e,c⟩:=x;exact⟨z,y,xs,Paired.mapP r fun p q z=>⟨z.1,ht _ _ z.2.1,z.2.2⟩,ob,es,ep,k _ _ (.inl rfl) e,c⟩
 | set S n=>obtain⟨ob,es,ep,t,e,c⟩:=x;exact⟨ob,es,ep,t,k _ _ (.inl rfl) e,c⟩
 | ins C dx fs =>
   obtain⟨d,z,ne,e,mA,⟨od,es,ep,e2,c⟩,r⟩:=x;exact⟨ho _ d,z,ne,k _ _ (.inl rfl) e,mA,⟨od,es,ep,k _ _ (.inr d) e2,c⟩,r⟩
 | own y=>obtain⟨ob,e⟩:=x;exact⟨ob,k _ _ (.inl rfl) e⟩
 | xd fs=>obtain⟨mA,⟨od,es,ep,e,c⟩,r⟩:=x;exact⟨mA,⟨od,es,ep,k _ _ (.inl rfl) e,c⟩,r⟩
 | rng lo hi=>obtain⟨t,u,v,e⟩:=x;exact⟨t,u,v,k _ _ (.inl rfl) e⟩
 | frz ob u ih=>obtain⟨e,q⟩:=x;exact⟨k _ _ (.inl rfl) e,ih q⟩
 | tbl ps =>
   have e:h.get? a=some { cls:=.none,data:=.fields ps }:=x;show h'.get? a=some { cls:=.none,data:=.fields ps };exact k a _ (.inl rfl) e
 | met f y =>
   have e:h.get? a=some (PySem.W.methodObj (.ref f) (.ref y)):=x;show h'.get? a=some (PySem.W.methodObj (.ref f) (.ref y));exact k a _ (.inl rfl) e
 | ext φ=>obtain⟨p,⟨o,e⟩,st⟩:=x;exact⟨st _ _ p fun o q=>k _ _ (.inl rfl) q,⟨o,k _ _ (.inl rfl) e⟩,st⟩
theorem HOk.lt(x:HOk P w H h)(e:H a=some o):a<h.objs.size:=(x a o e).lt
theorem HOk.fresh(x:HOk P w H h)(e:h.objs.size<=a):H a=none:=by
 cases q:H a with
 | none=>rfl
 | some u=>exact absurd (zty (x.lt q) e) (zun _)
theorem HOk.kept(x:HOk P w H h)(k:∀ b u,h.get? b=some u->h'.get? b=some u):HOk P w H h':=fun a o e =>
 (x a o e).stay (fun b u _ q=>k b u q) (fun _ q=>q) fun _ _ q=>q
theorem HOk.laid(x:HOk P w H h)(k:∀ b u,h.get? b=some u->h'.get? b=some u)(hp:h.objs.size<=a)(new:Y3 P w (upd H a o) h' a o):HOk P w (upd H a o) h':=fun b u e=>by
 have hn:=x.fresh hp;by_cases hb:b=a
 ·subst hb;rw[Zc] at e;cases e;exact new
 ·rw[Zi hb] at e;exact(x b u e).stay (fun c v _ q=>k c v q) (fun c q=>by rw[Zi (Zh q hn)];exact q) fun c xs q=>by rw[Zi (Zh q hn)];exact q
end
def Rd(H:Hp)(a:Addr)(u:HO):Prop:=H a=some u\/∃ o,H a=some (.frz o u)
theorem Rd.ok(r:Rd H a u)(x:HOk P w H h):Y3 P w H h a u:=by
 rcases r with r|⟨o,r⟩
 ·exact x a u r
 ·obtain⟨_,q⟩:=x a _ r;exact q
def Mut:Option HO->Prop
 | some (.lst _)=>True
 | some (.dK _)=>True
 | some (.dT _)=>True
 | some (.set _ _)=>True
 | some (.ins _ _ _)=>True
 | some (.ext _)=>True
 | _=>False
section
variable{P:Program}{w:World}{H:Hp}{h h':Heap}{x e:Addr}{o':HO}
theorem HOk.write(ok:HOk P w H h)(mu:Mut (H x))(he:e=x\/H e=some (.own x))(k:∀ b u,b≠e->h.get? b=some u->h'.get? b=some u)(heo:∃ u,h'.get? e=some u)
  (new:Y3 P w (upd H x o') h' x o'):HOk P w (upd H x o') h':=fun b u q=>by
 have nown:∀ c y,H c=some (.own y)->c≠x:=fun c y r z=>by subst z;rw[r] at mu;exact mu
 have ntup:∀ c xs,H c=some (.tup xs)->c≠x:=fun c xs r z=>by subst z;rw[r] at mu;exact mu
 by_cases hb:b=x
 ·subst hb;rw[Zc] at q;cases q;exact new
 ·rw[Zi hb] at q;by_cases hbe:b=e
  ·have q':H b=some (.own x):=by
    rcases he with z|z
    ·exact absurd (hbe.trans z) hb
    ·rw[hbe];exact z
   rw[q] at q';cases q';obtain⟨v,hv⟩:=heo;exact⟨v,by rw[hbe];exact hv⟩
  ·refine(ok b u q).stay (fun c v hc r=>k c v ?_ r) (fun c r=>by rw[Zi (nown c b r)];exact r) fun c xs r=>by rw[Zi (ntup c xs r)];exact r
   rcases hc with rfl|hc
   ·exact hbe
   ·rintro rfl;rcases he with z|z
    ·exact nown c b hc z
    ·rw[hc] at z;cases z;exact hb rfl
end
structure Un(fs ex:List Addr)(H H':Hp)(h h':Heap):Prop where
 keep:∀ b o,h.get? b=some o->H b=none->b∉fs->b∉ex->h'.get? b=some o
 slot:∀ b o,h.get? b=some o->H b=none->b∈fs->b∉ex->∃ sl,h'.get? b=some { o with slots:=sl }
 free:∀ b o,h.get? b=some o->H b=none->b∉ex->H' b=none
 there:∀ b o,h.get? b=some o->b∉ex->∃ o',h'.get? b=some o'
 tups:∀ b xs,H b=some (.tup xs)->H' b=some (.tup xs)
 frzs:∀ b o u,H b=some (.frz o u)->H' b=some (.frz o u)
 tbls:∀ b ps,H b=some (.tbl ps)->∃ more,H' b=some (.tbl (ps++more))
section
variable{fs fs' ex ex':List Addr}{H H1 H2:Hp}{h h1 h2 h':Heap}{a x e:Addr}{o:HO}
theorem Un.any(u:Un fs ex H H1 h h1)(q:h.get? b=some ob)(n:H b=none)(hx:b∉ex):∃ sl,h1.get? b=some { ob with slots:=sl }:=by
 by_cases hb:b∈fs
 ·exact u.slot b ob q n hb hx
 ·exact⟨ob.slots,u.keep b ob q n hb hx⟩
theorem Un.kept(k:∀ b u,h.get? b=some u->h'.get? b=some u):Un fs ex H H h h' :=
 ⟨fun b ob q _ _ _=>k b ob q,fun b ob q _ _ _=>⟨ob.slots,k b ob q⟩,fun _ _ _ n _=>n,fun b ob q _=>⟨ob,k b ob q⟩,fun _ _ q=>q,fun _ _ _ q=>q,fun _ ps q=>⟨#[],by rw[q];simp⟩⟩
theorem Un.refl:Un fs ex H H h h:=Un.kept fun _ _ q=>q
theorem Un.laid(k:∀ b u,h.get? b=some u->h'.get? b=some u)(hp:h.objs.size<=a)(hn:H a=none):Un fs ex H (upd H a o) h h' where
 keep:=fun b u q _ _ _=>k b u q
 slot:=fun b u q _ _ _=>⟨u.slots,k b u q⟩
 free:=fun b u q n _=>by rw[Zi (zt2 (zty (Heap.lt_size q) hp))];exact n
 there:=fun b u q _=>⟨u,k b u q⟩
 tups:=fun b xs q=>by rw[Zi (Zh q hn)];exact q
 frzs:=fun b u xs q=>by rw[Zi (Zh q hn)];exact q
 tbls:=fun b ps q=>⟨#[],by rw[Zi (Zh q hn),q];simp⟩
theorem Un.write(mu:Mut (H x))(he:e=x\/H e=some (.own x))(k:∀ b u,b≠e->h.get? b=some u->h'.get? b=some u)(heo:∃ u,h'.get? e=some u):Un fs ex H (upd H x o) h h':=by
 have hx:∀ b,H b=none->b≠x:=fun b n z=>by subst z;rw[n] at mu;exact mu
 have hb:∀ b,H b=none->b≠e:=fun b n z=>by
  subst z;rcases he with r|r
  ·exact hx b n r
  ·rw[n] at r;cases r
 have hm:∀ b u,H b=some u->¬ Mut (some u)->b≠x:=fun b u q nm z=>by subst z;rw[q] at mu;exact nm mu
 refine⟨fun b u q n _ _=>k b u (hb b n) q,fun b u q n _ _=>⟨u.slots,k b u (hb b n) q⟩,fun b u q n _=>by rw[Zi (hx b n)];exact n,fun b u q _=>?_,
  fun b xs q=>by rw[Zi (hm b _ q fun z=>z)];exact q,fun b u xs q=>by rw[Zi (hm b _ q fun z=>z)];exact q,fun b ps q=>⟨#[],by rw[Zi (hm b _ q fun z=>z),q];simp⟩⟩
 by_cases hbe:b=e
 ·subst hbe;exact heo
 ·exact⟨u,k b u hbe q⟩
end
def trk(h:Heap)(H:Hp):List Addr:=(List.range h.objs.size).filter fun a=>(H a).isSome
def Fs(h:Heap)(H:Hp):Heap:=PySem.W.hideAll h (trk h H)
theorem zbn(h:Heap)(H:Hp):(Fs h H).objs.size=h.objs.size:=PySem.W.hideAll_size _ _
theorem zdf(e:h.get? b=some o)(n:H b=none):(Fs h H).get? b=some o :=
 PySem.W.hideAll_get _ e fun hm=>by
  have q:(H b).isSome=true:=(ztw.mp hm).2;rw[n] at q;simp at q
theorem zfv(e:(Fs h H).get? b=some o):h.get? b=some o/\H b=none:=by
 have e':h.get? b=some o:=PySem.W.of_hideAll (trk h H) e;refine⟨e',?_⟩;cases q:H b with
 | none=>rfl
 | some x =>
   have hm:b∈trk h H:=ztw.mpr ⟨zt5.mpr (Heap.lt_size e'),by simp[q]⟩;have z:(Fs h H).get? b=none:=PySem.W.hideAll_none (trk h H) hm;rw[z] at e;cases e
structure Mod(K:Frag)(mg:Str->Option Value)(base:Heap):Prop where
 kin:K.In base
 glob:base.Ns mainGlobals mg
 blt:∃ mb,base.Ns builtinsNs mb/\∀ x:Str,x≠"__name__"->mb x=bootBuiltins x
 nolimit:base.NoLimit
structure Cx where
 prog:Program
 w:World
 K:Frag
 mg:Str->Option Value
 base:Heap
 A:Around
 N:List Str
 s₀:Shared
 H₀:Hp
 env:Env
 outer:List Env
 stack:List Env
 ex:List Addr
 fn:Str->Bool
 calm:Bool
 pn:List (Addr×Obj)
 xe:Value->Shared->Prop
 lk:List (Option V):=[]
def frs(l:List Env):List Addr:=l.filterMap (·.frame)
abbrev Cx.fs(X:Cx):List Addr:=frs X.outer
def Vis(sc:Scope)(x:Str):Prop:=sc.names.lookup x=some .local\/sc.names.lookup x=some .cell\/sc.names.lookup x=some .free
def Loc(sc:Scope)(x:Str):Prop:=sc.names.lookup x=some .local\/sc.names.lookup x=some .cell
def Look(env:Env)(h:Heap)(m:Str->Option Value)(x:Str)(u:Value):Prop :=
 (env.kindOf x=some .local/\m x=some u)\/((env.kindOf x=some .cell\/env.kindOf x=some .free)/\∃ c,env.cells.lookup x=some c/\h.IsCell c (some u))
structure Cx.Ok(X:Cx):Prop where
 mod:Mod X.K X.mg X.base
 kind:X.env.scope.kind=.function
 glob:X.env.globals=mainGlobals
 blt:X.env.builtins=builtinsNs
 above:X.s₀.heap.objs.size<=X.env.locals
 inj:∀ x y c,X.env.cells.lookup x=some c->X.env.cells.lookup y=some c->x=y
 has:∀ x,(X.env.kindOf x=some .cell\/X.env.kindOf x=some .free)->∃ c,X.env.cells.lookup x=some c
 cab:∀ x c,X.fn x=true->X.env.cells.lookup x=some c->X.s₀.heap.objs.size<=c
 hd:X.calm=true->X.A.handled=none
 frames:X.A.frames=some X.stack
 stk:X.stack=X.outer\/(X.stack=X.env :: X.outer/\X.env.frame=some X.env.locals)
 exf:∀ b∈X.ex,b≠X.env.locals/\∀ x c,X.env.cells.lookup x=some c->c≠b
 bs:∀ b o,X.base.get? b=some o->X.s₀.heap.get? b=some o/\X.H₀ b=none
 bsz:X.base.objs.size<=X.s₀.heap.objs.size
 noex:∀ b o,X.base.get? b=some o->b∉X.ex
 exfs:∀ b∈X.ex,b∉X.fs
 funs:X.s₀.heap.FunFrames X.base X.outer
 frf:∀ b∈X.fs,X.H₀ b=none
structure Inv(X:Cx)(pins:List (Addr×Obj))(σ:List (Option V))(H:Hp)(s:Shared):Prop where
 ok:X.Ok
 os:s.os=X.s₀.os
 bare:AllBare s.gens
 base:Un X.fs X.ex X.H₀ H X.s₀.heap s.heap
 loc:∃ m,s.heap.Ns X.env.locals m/\∀ (i:Nat) (x:Str) (v:V),X.N[i]?=some x->(σ[i]?=some (some v)\/X.lk[i]?=some (some v))->Vis X.env.scope x->∃ u,RelV v u/\Look X.env s.heap m x u
 cell:∀ x c,X.env.cells.lookup x=some c->∃ v,s.heap.IsCell c v
 free:H X.env.locals=none
 freeC:∀ x c,X.env.cells.lookup x=some c->H c=none
 pin:∀ p∈X.pn++pins,s.heap.get? p.1=some p.2/\H p.1=none/\p.1≠X.env.locals/\p.1∉X.fs/\∀ v,p.2.data≠.cell v
 hok:HOk X.prog X.w H s.heap
 len:σ.length=X.N.length
section
variable{X:Cx}{pins:List (Addr×Obj)}{σ:List (Option V)}{H H':Hp}{s:Shared}{h':Heap}
theorem Cx.Ok.nofr(ok:X.Ok)(e:X.base.get? b=some o):b∉X.fs:=fun hb=>by
 have:=(ok.funs.mem hb).1;rw[e] at this;cases this
theorem Inv.bs(I:Inv X pins σ H s):∀ b o,X.base.get? b=some o->s.heap.get? b=some o/\H b=none:=fun b o e =>
 ⟨I.base.keep b o (I.ok.bs b o e).1 (I.ok.bs b o e).2 (I.ok.nofr e) (I.ok.noex b o e),I.base.free b o (I.ok.bs b o e).1 (I.ok.bs b o e).2 (I.ok.noex b o e)⟩
theorem Inv.bk(I:Inv X pins σ H s):∀ b o,X.base.get? b=some o->s.heap.get? b=some o:=fun b o e=>(I.bs b o e).1
theorem Inv.mod(I:Inv X pins σ H s):Mod X.K X.mg X.base:=I.ok.mod
theorem Inv.kIn(I:Inv X pins σ H s):X.K.In s.heap:=I.ok.mod.kin.keeps I.bk
theorem Inv.lt(I:Inv X pins σ H s):X.env.locals<s.heap.objs.size:=let ⟨_,hn,_⟩:=I.loc;hn.lt
theorem Inv.sz(I:Inv X pins σ H s):X.s₀.heap.objs.size<=s.heap.objs.size:=zts I.ok.above (Nat.le_of_lt I.lt)
theorem Inv.nofs(I:Inv X pins σ H s)(h:s.heap.objs.size<=a):a∉X.fs:=fun hb=>by
 obtain⟨_,o,ho,_⟩:=I.ok.funs.mem hb;exact absurd (zty (Heap.lt_size ho) (zts I.sz h)) (zun _)
theorem Inv.cne(I:Inv X pins σ H s):∀ x c,X.env.cells.lookup x=some c->c≠X.env.locals:=fun x c e z=>by
 obtain⟨v,o,ho,hd⟩:=I.cell x c e;obtain⟨m,⟨o',es,ep,ho',hd',_⟩,_⟩:=I.loc;rw[z,ho'] at ho;cases ho;rw[hd'] at hd;cases hd
theorem Inv.funs(I:Inv X pins σ H s):s.heap.FunFrames X.base X.outer:=by
 have all:∀ (l:List Env),(∀ b∈frs l,b∈X.fs)->X.s₀.heap.FunFrames X.base l->s.heap.FunFrames X.base l:=by
  intro l
  induction l with
  | nil=>intro _ _;trivial
  | cons env r ih =>
    intro hs hl;obtain⟨hk,⟨L,o,hf,hn,ho,hd⟩,hr⟩:=hl;have hL:L∈X.fs:=hs L (by unfold frs;rw[zvo,hf];exact zt3);obtain⟨sl,e⟩:=I.base.slot L o ho (I.ok.frf L hL) hL fun z=>I.ok.exfs L z hL;exact⟨hk,⟨L,_,hf,hn,e,hd⟩,ih (fun b hb=>hs b (by unfold frs;rw[zvo,hf];exact ztr _ hb)) hr⟩
 exact all X.outer (fun _ hb=>hb) I.ok.funs
theorem Inv.stack(I:Inv X pins σ H s):s.heap.FunFrames X.base X.stack:=by
 rcases I.ok.stk with e|⟨e,hf⟩
 ·rw[e];exact I.funs
 ·rw[e];obtain⟨m,hn,_⟩:=I.loc;refine .cons (by rw[I.ok.kind];decide) hf hn ?_ I.funs;exact Heap.get?_none_of_le (zts I.ok.bsz I.ok.above)
theorem Inv.stkSub(I:Inv X pins σ H s):∀ b∈frs X.stack,b∈X.env.locals :: X.fs:=fun b hb=>by
 rcases I.ok.stk with e|⟨e,hf⟩
 ·rw[e] at hb;exact ztr _ hb
 ·rw[e] at hb;unfold frs at hb;rw[zvo,hf] at hb;exact hb
theorem Inv.stkFree(I:Inv X pins σ H s):∀ b∈frs X.stack,H b=none:=fun b hb=>by
 rcases ztg.mp (I.stkSub b hb) with e|hb
 ·rw[e];exact I.free
 ·obtain⟨_,o,ho,_⟩:=I.ok.funs.mem hb;exact I.base.free b o ho (I.ok.frf b hb) fun z=>I.ok.exfs b z hb
theorem Inv.step{g':Array GenState}{t':Nat}{d':Drawn}{ch:List Addr}(I:Inv X pins σ H s)
  (hch:∀ b∈ch,(b∈X.ex\/X.s₀.heap.objs.size<=b)/\b≠X.env.locals/\(∀ x c,X.env.cells.lookup x=some c->c≠b)/\∀ p∈X.pn++pins,p.1≠b)
  (keep:∀ b o,b≠X.env.locals->b∉X.fs->b∉ch->s.heap.get? b=some o->H b=none->h'.get? b=some o)
  (slot:∀ b o,b≠X.env.locals->b∈X.fs->b∉ch->s.heap.get? b=some o->H b=none->∃ sl,h'.get? b=some { o with slots:=sl }) (free:∀ b o,b∉ch->s.heap.get? b=some o->H b=none->H' b=none)
  (there:∀ b o,b∉ch->s.heap.get? b=some o->∃ o',h'.get? b=some o')
  (tups:∀ b xs,H b=some (.tup xs)->H' b=some (.tup xs)) (frzs:∀ b o u,H b=some (.frz o u)->H' b=some (.frz o u)) (tbls:∀ b ps,H b=some (.tbl ps)->∃ more,H' b=some (.tbl (ps++more)))
  (ns:∀ m,s.heap.Ns X.env.locals m->h'.Ns X.env.locals m) (hok:HOk X.prog X.w H' h') (hg:AllBare g') :
  Inv X pins σ H' { s with heap:=h',gens:=g',drawn:=d',toks:=t' }:=by
 have neL:∀ b o,X.s₀.heap.get? b=some o->b≠X.env.locals:=fun b o e=>zt2 (zty (Heap.lt_size e) I.ok.above);have neC:∀ b o,X.s₀.heap.get? b=some o->b∉X.ex->b∉ch:=fun b o e hx hb=>by
  rcases(hch b hb).1 with z|z
  ·exact hx z
  ·exact absurd (zty (Heap.lt_size e) z) (zun _)
 have cellK:∀ x c,X.env.cells.lookup x=some c->∀ v,s.heap.IsCell c v->h'.IsCell c v:=fun x c e v ⟨o,ho,hd⟩=>by
  have nch:c∉ch:=fun z=>(hch c z).2.2.1 x c e rfl;by_cases hc:c∈X.fs
  ·obtain⟨sl,q⟩:=slot c o (I.cne x c e) hc nch ho (I.freeC x c e);exact⟨_,q,hd⟩
  ·exact⟨o,keep c o (I.cne x c e) hc nch ho (I.freeC x c e),hd⟩
 refine⟨I.ok,I.os,hg,⟨fun b o e n hb hx=>?_,fun b o e n hb hx=>?_,fun b o e n hx=>?_,fun b o e hx=>?_,fun b xs e=>tups b xs (I.base.tups b xs e),fun b o xs e=>frzs b o xs (I.base.frzs b o xs e),fun b ps e=>?_⟩,?_,fun x c e=>?_,?_,fun x c e=>?_,fun p hp=>?_,hok,I.len⟩
 ·exact keep b o (neL b o e) hb (neC b o e hx) (I.base.keep b o e n hb hx) (I.base.free b o e n hx)
 ·obtain⟨sl,e1⟩:=I.base.slot b o e n hb hx;obtain⟨sl',e2⟩:=slot b _ (neL b o e) hb (neC b o e hx) e1 (I.base.free b o e n hx);exact⟨sl',e2⟩
 ·obtain⟨o',e1⟩:=I.base.there b o e hx;exact free b o' (neC b o e hx) e1 (I.base.free b o e n hx)
 ·obtain⟨o',e1⟩:=I.base.there b o e hx;exact there b o' (neC b o e hx) e1
 ·obtain⟨m1,e1⟩:=I.base.tbls b ps e;obtain⟨m2,e2⟩:=tbls b _ e1;exact⟨m1++m2,by rw[e2,Array.append_assoc]⟩
 ·obtain⟨m,hn,hl⟩:=I.loc;refine⟨m,ns m hn,fun i x v e1 e2 e3=>?_⟩;obtain⟨u,r,l⟩:=hl i x v e1 e2 e3;refine⟨u,r,?_⟩;rcases l with l|⟨k,c,e,z⟩
  ·exact .inl l
  ·exact .inr ⟨k,c,e,cellK x c e _ z⟩
 ·obtain⟨v,z⟩:=I.cell x c e;exact⟨v,cellK x c e v z⟩
 ·obtain⟨m,⟨o,_,_,ho,_⟩,_⟩:=I.loc;exact free _ o (fun z=>(hch _ z).2.1 rfl) ho I.free
 ·obtain⟨v,o,ho,hd⟩:=I.cell x c e;exact free c o (fun z=>(hch c z).2.2.1 x c e rfl) ho (I.freeC x c e)
 ·obtain⟨e,n,ne,nf,d⟩:=I.pin p hp;have nch:p.1∉ch:=fun z=>(hch p.1 z).2.2.2 p hp rfl;exact⟨keep p.1 p.2 ne nf nch e n,free p.1 p.2 nch e n,ne,nf,d⟩
theorem Inv.un{t':Nat}(I:Inv X pins σ H s)(u:Un X.fs [] H H' s.heap h')(hok:HOk X.prog X.w H' h'):Inv X pins σ H' { s with heap:=h',toks:=t' }:=by
 obtain⟨m,⟨o,es,ep,ho,r⟩,_⟩:=id I.loc;obtain⟨sl,hL⟩:=u.any ho I.free (by simp);exact I.step (g':=s.gens) (d':=s.drawn) (ch:=[]) (fun _ z=>nomatch z) (fun b o _ hb _ e n=>u.keep b o e n hb (by simp)) (fun b o _ hb _ e n=>u.slot b o e n hb (by simp)) (fun b o _ e n=>u.free b o e n (by simp)) (fun b o _ e=>u.there b o e (by simp)) u.tups u.frzs u.tbls (fun m' hm=>by
  obtain⟨o',es',ep',ho',r'⟩:=hm;rw[ho] at ho';cases ho';exact⟨_,es',ep',hL,r'⟩) hok I.bare
theorem Inv.call{g':Array GenState}{t':Nat}{d':Drawn}{ch:List Addr}(I:Inv X pins σ H s)(u:Un (frs X.stack) ch H H' s.heap h')(hok:HOk X.prog X.w H' h')(hg:AllBare g')
  (hch:∀ b∈ch,(b∈X.ex\/X.s₀.heap.objs.size<=b)/\b≠X.env.locals/\(∀ x c,X.env.cells.lookup x=some c->c≠b)/\∀ p∈X.pn++pins,p.1≠b) :
  Inv X pins σ H' { s with heap:=h',gens:=g',drawn:=d',toks:=t' }:=by
 obtain⟨m,⟨o,es,ep,ho,r⟩,_⟩:=id I.loc;obtain⟨sl,hL⟩:=u.any ho I.free fun z=>(hch _ z).2.1 rfl;exact I.step (ch:=ch) hch (fun b o hL hb hc e n=>u.keep b o e n (fun z=>(ztg.mp (I.stkSub b z)).elim hL hb) hc) (fun b o _ _ hc e n=>u.any e n hc) (fun b o hc e n=>u.free b o e n hc) (fun b o hc e=>u.there b o e hc) u.tups u.frzs u.tbls (fun m' hm=>by
  obtain⟨o',es',ep',ho',r'⟩:=hm;rw[ho] at ho';cases ho';exact⟨_,es',ep',hL,r'⟩) hok hg
theorem Inv.turned{t':Nat}{it:Addr}(I:Inv X pins σ H s)(k:∀ b o,b≠it->s.heap.get? b=some o->h'.get? b=some o)(hn:H it=none)(hL:it≠X.env.locals)
  (h1:it∈X.ex\/X.s₀.heap.objs.size<=it) (h2:∀ x c,X.env.cells.lookup x=some c->c≠it) (h3:∀ p∈X.pn++pins,p.1≠it):Inv X pins σ H { s with heap:=h',toks:=t' }:=by
 have nit:∀ b u,H b=some u->b≠it:=fun b u e z=>by rw[z,hn] at e;cases e
 refine I.step (g':=s.gens) (d':=s.drawn) (ch:=[it]) (fun b hb=>?_) (fun b o _ _ hc e _=>k b o (fun z=>hc (by simp[z])) e) (fun b o _ _ hc e _=>⟨o.slots,k b o (fun z=>hc (by simp[z])) e⟩) (fun _ _ _ _ n=>n)
  (fun b o hc e=>⟨o,k b o (fun z=>hc (by simp[z])) e⟩) (fun _ _ e=>e) (fun _ _ _ e=>e) (fun b ps e=>⟨#[],by rw[e];simp⟩) (fun m hm=>?_) (fun b u e=>?_) I.bare
 ·have e:b=it:=by simpa using hb
  subst e;exact⟨h1,hL,h2,h3⟩
 ·obtain⟨o,es,ep,ho,r⟩:=hm;exact⟨o,es,ep,k _ o (Ne.symm hL) ho,r⟩
 ·refine(I.hok b u e).stay (fun c v hc q=>k c v ?_ q) (fun _ q=>q) fun _ _ q=>q;rcases hc with z|z
  ·rw[z];exact nit b u e
  ·exact nit c _ z
theorem Inv.tok(I:Inv X pins σ H s)(t:Nat):Inv X pins σ H { s with toks:=t }:=I.un (h':=s.heap) (t':=t) Un.refl I.hok
theorem Inv.kept(I:Inv X pins σ H s)(k:∀ b u,s.heap.get? b=some u->h'.get? b=some u):Inv X pins σ H { s with heap:=h',toks:=t' }:=I.un (Un.kept k) (I.hok.kept k)
theorem Inv.laid(I:Inv X pins σ H s)(k:∀ b u,s.heap.get? b=some u->h'.get? b=some u)(hp:s.heap.objs.size<=a)(new:Y3 X.prog X.w (upd H a o) h' a o) :
  Inv X pins σ (upd H a o) { s with heap:=h',toks:=t' }:=I.un (Un.laid k hp (I.hok.fresh hp)) (I.hok.laid k hp new)
theorem Inv.write(I:Inv X pins σ H s)(mu:Mut (H x))(he:e=x\/H e=some (.own x))(k:∀ b u,b≠e->s.heap.get? b=some u->h'.get? b=some u)(heo:∃ u,h'.get? e=some u)
  (new:Y3 X.prog X.w (upd H x o) h' x o):Inv X pins σ (upd H x o) { s with heap:=h',toks:=t' }:=I.un (Un.write mu he k heo) (I.hok.write mu he k heo new)
theorem Inv.weak(I:Inv X pins σ H s)(hl:σ'.length=σ.length)(w:∀ (i:Nat) v,σ'[i]?=some (some v)->σ[i]?=some (some v)):Inv X pins σ' H s :=
 ⟨I.ok,I.os,I.bare,I.base,let ⟨m,hn,hl'⟩:=I.loc;⟨m,hn,fun i x v e1 e2 e3=>hl' i x v e1 (e2.imp_left (w i v)) e3⟩,I.cell,I.free,I.freeC,I.pin,I.hok,hl.trans I.len⟩
theorem Inv.pins_of(I:Inv X pins σ H s)(h:∀ p∈pins',s.heap.get? p.1=some p.2/\H p.1=none/\p.1≠X.env.locals/\p.1∉X.fs/\∀ v,p.2.data≠.cell v):Inv X pins' σ H s :=
 ⟨I.ok,I.os,I.bare,I.base,I.loc,I.cell,I.free,I.freeC,fun p hp=>(ztl.mp hp).elim (fun z=>I.pin p (zt7 _ z)) (h p),I.hok,I.len⟩
theorem E6{N:List Str}(hN:N.Nodup){i j:Nat}{x:Str}(a:N[i]?=some x)(b:N[j]?=some x):i=j:=by
 obtain⟨h1,e1⟩:=ztd.mp a;obtain⟨h2,e2⟩:=ztd.mp b;exact(List.getElem_inj hN).mp (e1.trans e2.symm)
def Bo(X:Cx)(i:Nat)(x:Str):Prop:=(X.fn x=true\/X.env.scope.names.lookup x=some .local)/\∀ v,X.lk[i]?≠some (some v)
theorem Wf{i:Nat}:∀ v:V,([]:List (Option V))[i]?≠some (some v):=fun _ h=>by simp at h
theorem Gk{M:Model}{A:Around}{E:Value->Shared->Prop}{i:Nat}{x:Str}{v:V}{u:Value}{Q:Unit->Shared->Prop}(I:Inv X pins σ H s)(hN:X.N.Nodup)(hi:X.N[i]?=some x)(hx:Loc X.env.scope x)(r:RelV v u)
  (h:∀ s',Inv X pins (σ.set i (some v)) H s'->(∃ a,Heap.SameBut a s.heap s'.heap/\(a=X.env.locals\/X.env.cells.lookup x=some a))->Q () s') (hf:Bo X i x:=by first|exact⟨.inl rfl,Wf⟩|exact⟨.inr rfl,Wf⟩|assumption|exact⟨.inl rfl,by assumption⟩|exact⟨.inr rfl,by assumption⟩):wpAny M A (storeName X.env x u) Q E s:=by
 obtain⟨m,hn,hl⟩:=id I.loc;have hcls:(X.env.scope.kind == .class||(X.env.scope.kind == .module&&X.env.locals != X.env.globals))=false:=by rw[I.ok.kind];rfl
 have hiσ:i<σ.length:=by rw[I.len];exact(ztd.mp hi).1
 have cne:=I.cne;have tracked:∀ {a:Addr} {h':Heap},(∃ o,s.heap.get? a=some o/\H a=none)->Heap.SameBut a s.heap h'->HOk X.prog X.w H h':=fun {a h'} ha hs b ob e=>by
  obtain⟨_,_,hfree⟩:=ha;refine(I.hok b ob e).stay (fun c w' hc q=>(hs.2 c ?_).trans q) (fun _ q=>q) fun _ _ q=>q;rintro rfl;rcases hc with rfl|hc
  ·rw[hfree] at e;cases e
  ·rw[hfree] at hc;cases hc
 rcases hx with hk|hk
 ·refine wpAny_storeName_local hk hn (fun h' hn' hs=>?_) hcls;obtain⟨oL,_,_,hoL,_⟩:=id hn;refine h _ ⟨I.ok,I.os,I.bare,⟨fun b o e n hb hx=>?_,fun b o e n hb hx=>?_,I.base.free,fun b o e hx=>?_,I.base.tups,I.base.frzs,I.base.tbls⟩,⟨_,hn',fun j y v' e1 e2 e3=>?_⟩,fun y c e=>?_,I.free,I.freeC,fun p hp=>?_,tracked ⟨oL,hoL,I.free⟩ hs,by simpa using I.len⟩ ⟨_,hs,.inl rfl⟩
  ·exact(hs.2 b (zt2 (zty (Heap.lt_size e) I.ok.above))).trans (I.base.keep b o e n hb hx)
  ·obtain⟨sl,e1⟩:=I.base.slot b o e n hb hx;exact⟨sl,(hs.2 b (zt2 (zty (Heap.lt_size e) I.ok.above))).trans e1⟩
  ·obtain⟨o',e1⟩:=I.base.there b o e hx;exact⟨o',(hs.2 b (zt2 (zty (Heap.lt_size e) I.ok.above))).trans e1⟩
  ·by_cases hj:j=i
   ·subst hj;rw[hi] at e1;cases e1;rcases e2 with e2|e2
    case' inr=>exact absurd e2 (hf.2 _)
    rw[zug hiσ] at e2;cases e2;exact⟨u,r,.inl ⟨hk,by simp⟩⟩
   ·have e2:σ[j]?=some (some v')\/X.lk[j]?=some (some v'):=e2.imp_left fun z=>by rw[zt8 (Ne.symm hj)] at z;exact z
    obtain⟨u',r',q⟩:=hl j y v' e1 e2 e3;refine⟨u',r',?_⟩;rcases q with ⟨k,e⟩|⟨k,c,e,z⟩
    ·refine .inl ⟨k,?_⟩;have:y≠x:=fun e=>hj (E6 hN e1 (e▸hi));simp[this,e]
    ·exact .inr ⟨k,c,e,z.sameBut hs (cne y c e)⟩
  ·obtain⟨w',z⟩:=I.cell y c e;exact⟨w',z.sameBut hs (cne y c e)⟩
  ·obtain⟨e,n,ne,nf,d⟩:=I.pin p hp;exact⟨(hs.2 p.1 ne).trans e,n,ne,nf,d⟩
 ·have hfn:X.fn x=true:=by
   rcases hf.1 with z|z
   ·exact z
   ·rw[z] at hk;cases hk
  obtain⟨c,hc⟩:=I.ok.has x (.inl hk);obtain⟨w',z⟩:=I.cell x c hc;refine wpAny_storeName_cell I.ok.kind hk hc z (fun h' hc' hs=>?_);obtain⟨oc,hoc,hocd⟩:=id z;refine h { s with heap:=h' } ⟨I.ok,I.os,I.bare,⟨fun b o e n hb hx=>?_,fun b o e n hb hx=>?_,I.base.free,fun b o e hx=>?_,I.base.tups,I.base.frzs,I.base.tbls⟩,⟨m,hn.sameBut hs (Ne.symm (cne x c hc)),fun j y v' e1 e2 e3=>?_⟩,fun y c' e=>?_,I.free,I.freeC,fun p hp=>?_,tracked ⟨oc,hoc,I.freeC x c hc⟩ hs,by simpa using I.len⟩ ⟨c,hs,.inr hc⟩
  ·exact(hs.2 b (zt2 (zty (Heap.lt_size e) (I.ok.cab x c hfn hc)))).trans (I.base.keep b o e n hb hx)
  ·obtain⟨sl,e1⟩:=I.base.slot b o e n hb hx;exact⟨sl,(hs.2 b (zt2 (zty (Heap.lt_size e) (I.ok.cab x c hfn hc)))).trans e1⟩
  ·obtain⟨o',e1⟩:=I.base.there b o e hx;exact⟨o',(hs.2 b (zt2 (zty (Heap.lt_size e) (I.ok.cab x c hfn hc)))).trans e1⟩
  ·by_cases hj:j=i
   ·subst hj;rw[hi] at e1;cases e1;rcases e2 with e2|e2
    case' inr=>exact absurd e2 (hf.2 _)
    rw[zug hiσ] at e2;cases e2;exact⟨u,r,.inr ⟨.inl hk,c,hc,hc'⟩⟩
   ·have e2:σ[j]?=some (some v')\/X.lk[j]?=some (some v'):=e2.imp_left fun z=>by rw[zt8 (Ne.symm hj)] at z;exact z
    obtain⟨u',r',q⟩:=hl j y v' e1 e2 e3;refine⟨u',r',?_⟩;rcases q with q|⟨k,c',e,z'⟩
    ·exact .inl q
    ·refine .inr ⟨k,c',e,z'.sameBut hs ?_⟩;rintro rfl;exact hj (E6 hN e1 (I.ok.inj _ _ _ e hc▸hi))
  ·by_cases hcc:c'=c
   ·subst hcc;exact⟨_,hc'⟩
   ·obtain⟨w2,z2⟩:=I.cell y c' e;exact⟨w2,z2.sameBut hs hcc⟩
  ·obtain⟨e,n,ne,nf,d⟩:=I.pin p hp;refine⟨(hs.2 p.1 ?_).trans e,n,ne,nf,d⟩;intro q;rw[q,hoc] at e;have q':oc=p.2:=Option.some.inj e;exact d w' (by rw[<- q'];exact hocd)
theorem E7(I:Inv X pins σ H s)(hN:X.N.Nodup)(hi:X.N[i]?=some x)(hx:Loc X.env.scope x)(r:RelV v u)
  (h:∀ s',Inv X pins (σ.set i (some v)) H s'->Q () s') (hf:Bo X i x:=by first|exact⟨.inl rfl,Wf⟩|exact⟨.inr rfl,Wf⟩|assumption|exact⟨.inl rfl,by assumption⟩|exact⟨.inr rfl,by assumption⟩):wpAny M A (storeName X.env x u) Q E s :=
 Gk I hN hi hx r (fun s' I' _=>h s' I') hf
theorem Inv.call'(I:Inv X pins σ H s)(ho:s'.os=s.os)(u:Un (frs X.stack) ch H H' s.heap s'.heap)(hok:HOk X.prog X.w H' s'.heap)(hg:AllBare s'.gens)
  (hch:∀ b∈ch,(b∈X.ex\/X.s₀.heap.objs.size<=b)/\b≠X.env.locals/\(∀ x c,X.env.cells.lookup x=some c->c≠b)/\∀ p∈X.pn++pins,p.1≠b):Inv X pins σ H' s':=by
 obtain⟨h',g',d',t',o'⟩:=s';have e:o'=s.os:=ho;subst e;exact I.call (g':=g') (t':=t') (d':=d') u hok hg hch
end
abbrev XK:=Value->Option Addr->Hp->Prop
abbrev St:=List (Option V)
abbrev VK:=V->Hp->Prop
abbrev TE:=St->Hp->VK->Prop
abbrev TT:=St->Hp->(Bool->Hp->Prop)->Prop
abbrev TA:=St->Hp->(List V->Hp->Prop)->Prop
structure Oz where
 nx:St->Hp->Prop
 rt:VK
 bk:St->Hp->Prop:=fun _ _=>False
 ct:St->Hp->Prop:=fun _ _=>False
abbrev TS:=Oz->St->Hp->Prop
def EP(X:Cx)(pins:List (Addr×Obj))(σ:St)(Q:VK)(u:Value)(s':Shared):Prop:=∃ v H',Inv X pins σ H' s'/\RelV v u/\Q v H'
def TP(X:Cx)(pins:List (Addr×Obj))(σ:St)(Q:Bool->Hp->Prop)(b:Bool)(s':Shared):Prop:=∃ H',Inv X pins σ H' s'/\Q b H'
def AP(X:Cx)(pins:List (Addr×Obj))(σ:St)(Q:List V->Hp->Prop)(us:List Value)(s':Shared):Prop:=∃ vs H',Inv X pins σ H' s'/\Vals vs us/\Q vs H'
def SP(X:Cx)(pins:List (Addr×Obj))(D:Oz)(f:Flow)(s':Shared):Prop :=
 match f with
 | .next=>∃ σ' H',Inv X pins σ' H' s'/\D.nx σ' H'
 | .brk=>∃ σ' H',Inv X pins σ' H' s'/\D.bk σ' H'
 | .cont=>∃ σ' H',Inv X pins σ' H' s'/\D.ct σ' H'
 | .ret u=>∃ v σ' H',Inv X pins σ' H' s'/\RelV v u/\D.rt v H'
def PE(X:Cx)(e:Expr)(t:TE):Prop :=
 ∀ (pins:List (Addr×Obj)) (s:Shared) (σ:St) (H:Hp) (Q:VK),Inv X pins σ H s->t σ H Q->wpAny (model X.prog X.w) X.A (eval e X.env) (EP X pins σ Q) X.xe s
def PT(X:Cx)(e:Expr)(t:TT):Prop :=
 ∀ (pins:List (Addr×Obj)) (s:Shared) (σ:St) (H:Hp) (Q:Bool->Hp->Prop),Inv X pins σ H s->t σ H Q->wpAny (model X.prog X.w) X.A (isTrue e X.env (eval e X.env)) (TP X pins σ Q) X.xe s
def PW(X:Cx)(e:Expr)(t:TT):Prop :=
 ∀ (whole:Sem Value) (pins:List (Addr×Obj)) (s:Shared) (σ:St) (H:Hp) (Q:Bool->Hp->Prop),Inv X pins σ H s->t σ H Q->wpAny (model X.prog X.w) X.A (isTrue e X.env whole) (TP X pins σ Q) X.xe s
theorem PW.pt(h:PW X e t):PT X e t:=h _
def PA(X:Cx)(es:List Expr)(t:TA):Prop :=
 ∀ (pos:Pos) (pins:List (Addr×Obj)) (s:Shared) (σ:St) (H:Hp) (Q:List V->Hp->Prop),Inv X pins σ H s->t σ H Q->wpAny (model X.prog X.w) X.A (spliced (backTo pos (starEach es X.env))) (AP X pins σ Q) X.xe s
def PS(X:Cx)(st:Stmt)(t:TS):Prop :=
 ∀ (pins:List (Addr×Obj)) (s:Shared) (σ:St) (H:Hp) (D:Oz),Inv X pins σ H s->t D σ H->wpAny (model X.prog X.w) X.A (exec st X.env) (SP X pins D) X.xe s
def PSs(X:Cx)(st:List Stmt)(t:TS):Prop :=
 ∀ (pins:List (Addr×Obj)) (s:Shared) (σ:St) (H:Hp) (D:Oz),Inv X pins σ H s->t D σ H->wpAny (model X.prog X.w) X.A (execs st X.env) (SP X pins D) X.xe s
theorem thn(h:wpAny M A t Q E s)(hQ:∀ a s,Q a s->Q' a s):wpAny M A t Q' E s:=wpAny_mono h hQ fun _ _ x=>x
section
variable{X:Cx}
inductive Ft(i:Nat)(σ:L2.St)(H:Hp)(Q:VK):Prop where
 | mk(v)(_:σ[i]?=some (some v))(_:Q v H)
def tC(v:V):TE:=fun _ H Q=>Q v H
theorem zhu(hN:X.N[i]?=some x)(hv:Vis X.env.scope x)(hd:(x == ("__debug__":Str))=false:=by decide)(hcd:(x == ("__classdict__":Str))=false:=by decide):PE X (.Name x pos) (Ft i):=by
 intro pins s σ H Q I h;obtain⟨v,e,h⟩:=h;obtain⟨m,hn,hl⟩:=I.loc;obtain⟨u,r,l⟩:=hl i x v hN (.inl e) hv;have fin:EP X pins σ Q u s:=⟨v,H,I,r,h⟩;rcases l with ⟨hk,hm⟩|⟨hk,c,hc,hcell⟩
 ·exact wpAny_Name (wpAny_loadName_local I.ok.kind hk hn hm fin) hd
 ·rcases hk with hk|hk
  ·exact wpAny_Name (wpAny_loadName_cell I.ok.kind hk hc hcell fin) hd
  ·exact wpAny_Name (wpAny_loadName_free I.ok.kind hk hc hcell fin hcd) hd
theorem Zg{i j pos}:PE X (.Constant (.int i) j pos) (tC (.int i)):=fun _ _ _ H _ I h=>wpAny_Constant_int ⟨.int i,H,I.tok _,⟨_,rfl⟩,h⟩
theorem T9{b j pos}:PE X (.Constant (.bool b) j pos) (tC (.bl b)):=fun _ _ _ H _ I h=>Constant_bool ⟨.bl b,H,I,rfl,h⟩
theorem Yz{j pos}:PE X (.Constant .none j pos) (tC .non):=fun _ _ _ H _ I h=>Constant_none ⟨.non,H,I,rfl,h⟩
theorem Zo{x j pos}:PE X (.Constant (.str x) j pos) (tC (.str x)):=fun _ _ _ H _ I h=>Calls.Constant_str ⟨.str x,H,I.tok _,⟨_,rfl⟩,h⟩
def Gl(X:Cx)(x:Str):Prop:=X.env.kindOf x=some .globalImplicit
theorem O0(I:Inv X pins σ H s)(hg:Gl X x)(hm:X.mg x=some u)(h:Q u s)
  (hd:(x == ("__debug__":Str))=false:=by decide):wpAny (model X.prog X.w) X.A (eval (.Name x pos) X.env) Q E s :=
 Calls.Name_function_global I.ok.kind hg (Calls.loadGlobal_global (by rw[I.ok.glob];exact I.mod.glob.keeps I.bk) hm h) hd
theorem Pp(I:Inv X pins σ H s)(hg:Gl X x)(hm:X.mg x=none)(hv:bootBuiltins x=some u)(h:Q u s)
  (hn:x≠"__name__":=by decide) (hd:(x == ("__debug__":Str))=false:=by decide):wpAny (model X.prog X.w) X.A (eval (.Name x pos) X.env) Q E s:=by
 obtain⟨mb,h1,h2⟩:=I.mod.blt;exact Calls.Name_function_global I.ok.kind hg (Calls.loadGlobal_builtin (by rw[I.ok.glob];exact I.mod.glob.keeps I.bk) hm (by rw[I.ok.blt];exact h1.keeps I.bk) ((h2 x hn).trans hv) h) hd
theorem zfw(hg:Gl X x)(hm:X.mg x=some u)(r:RelV v u)(hd:(x == ("__debug__":Str))=false:=by decide):PE X (.Name x pos) (tC v) :=
 fun _ _ _ H _ I h=>O0 I hg hm ⟨v,H,I,r,h⟩ hd
theorem Kn(hg:Gl X x)(hm:X.mg x=none)(hv:bootBuiltins x=some u)(r:RelV v u)(hn:x≠"__name__":=by decide)(hd:(x == ("__debug__":Str))=false:=by decide):PE X (.Name x pos) (tC v) :=
 fun _ _ _ H _ I h=>Pp I hg hm hv ⟨v,H,I,r,h⟩ hn hd
variable{a b:Expr}{ta tb:TE}{pos:Pos}
def PC(X:Cx)(op:CmpOp)(a b:Expr)(t:TE):Prop :=
 ∀ (pins:List (Addr×Obj)) (s:Shared) (σ:St) (H:Hp) (Q:VK),Inv X pins σ H s->t σ H Q ->
   wpAny (model X.prog X.w) X.A (eval a X.env) (fun v s₁=>wpAny (model X.prog X.w) X.A (eval b X.env) (fun u s₂=>wpAny (model X.prog X.w) X.A (compareOp op v u) (EP X pins σ Q) X.xe s₂) X.xe s₁) X.xe s
inductive tBI(Q:Bool->Hp->Prop)(x:V)(H1:Hp):Prop where
 | mk(c)(_:x=.bl c)(_:Q c H1)
def tB(t:TE):TT:=fun σ H Q=>t σ H fun x H1=>tBI Q x H1
theorem Tr(h:PC X op a b t)(h1:behindInMarks op b=false:=by first|exact nobehind _ ⋯ ⋯|rfl):PT X (.Compare a [op] [b] pos) (tB t):=by
 intro pins s σ H Q I hw;refine wpAny_isTrue_Compare1 (thn (h pins s σ H _ I hw) fun v s1 h1=>thn h1 fun u s2 h2=>thn h2 fun c s3 ⟨x,H1,I1,r1,q1⟩=>?_) h1;obtain⟨d,rfl,q⟩:=q1;cases r1;exact wpAny_truthy_bool ⟨H1,I1,q⟩
theorem Ue(h:PE X e t)(he:∀ whole,isTrue e X.env whole=(do let v <- whole;standAt e.pos;holding [v] (truthy v)):=by intro _;rfl):PT X e (tB t):=by
 intro pins s σ H Q I hw;refine isTrue_plain (thn (h pins s σ H _ I hw) fun v s1 ⟨x,H1,I1,r1,q1⟩=>?_) (he _);obtain⟨d,rfl,q⟩:=q1;cases r1;exact wpAny_truthy_bool ⟨H1,I1,q⟩
variable{tA tB':TT}{rest:List Expr}
def zhv(t u:TT):TT:=fun σ H Q=>t σ H fun c H1=>if c=true then u σ H1 Q else Q false H1
def tOr(t u:TT):TT:=fun σ H Q=>t σ H fun c H1=>if c=true then Q true H1 else u σ H1 Q
def zkp(t:TT):TT:=fun σ H Q=>t σ H fun c H1=>Q (!c) H1
theorem Td(ha:PT X a tA):PW X (.BoolOp .And [a] pos) tA:=by
 intro wh pins s σ H Q I h;refine isTrue_and (thn (ha pins s σ H Q I h) fun c s1 e=>?_);cases c with
 | true=>exact isTrue_and_nil e
 | false=>exact e
theorem Ux(ha:PT X a tA):PW X (.BoolOp .Or [a] pos) tA:=by
 intro wh pins s σ H Q I h;refine isTrue_or (thn (ha pins s σ H Q I h) fun c s1 e=>?_);cases c with
 | false=>exact isTrue_or_nil e
 | true=>exact e
theorem Sn(ha:PT X a tA)(hb:PW X (.BoolOp .And (b :: rest) pos) tB'):PW X (.BoolOp .And (a :: b :: rest) pos) (zhv tA tB'):=by
 intro wh pins s σ H Q I h;refine isTrue_and (thn (ha pins s σ H _ I h) fun c s1 ⟨H1,I1,q1⟩=>?_);cases c with
 | true=>exact hb wh pins s1 σ H1 Q I1 q1
 | false=>exact⟨H1,I1,q1⟩
theorem Rj(ha:PT X a tA)(hb:PW X (.BoolOp .Or (b :: rest) pos) tB'):PW X (.BoolOp .Or (a :: b :: rest) pos) (tOr tA tB'):=by
 intro wh pins s σ H Q I h;refine isTrue_or (thn (ha pins s σ H _ I h) fun c s1 ⟨H1,I1,q1⟩=>?_);cases c with
 | true=>exact⟨H1,I1,q1⟩
 | false=>exact hb wh pins s1 σ H1 Q I1 q1
theorem Ts(ha:PT X a tA):PT X (.UnaryOp .Not a pos) (zkp tA):=by
 intro pins s σ H Q I h;exact isTrue_not (ha pins s σ H (fun c H1=>Q (!c) H1) I h)
inductive zhw(tb:TE)(σ:L2.St)(Q:VK)(x:V)(H1:Hp):Prop where
 | mk(c)(_:x=.bl c)(_:if c=true then tb σ H1 Q else Q (.bl false) H1)
def zdg(ta tb:TE):TE:=fun σ H Q=>ta σ H fun x H1=>zhw tb σ Q x H1
inductive zhx(Q:VK)(x:V)(H1:Hp):Prop where
 | mk(c)(_:x=.bl c)(_:Q (.bl (!c)) H1)
def zjg(ta:TE):TE:=fun σ H Q=>ta σ H fun x H1=>zhx Q x H1
theorem Bp{op}(h:PE X a t):PE X (.BoolOp op [a] pos) t:=fun pins s σ H Q I hw=>BoolOp_one (h pins s σ H Q I hw)
theorem Fu(ha:PE X a ta)(hb:PE X (.BoolOp .And (b :: rest) pos) tb):PE X (.BoolOp .And (a :: b :: rest) pos) (zdg ta tb):=by
 intro pins s σ H Q I h;refine BoolOp_and (thn (ha pins s σ H _ I h) fun v s1 ⟨x,H1,I1,r1,q1⟩=>?_);obtain⟨c,rfl,q1⟩:=q1;cases r1;refine wpAny_truthy_bool ?_;cases c with
 | true=>exact hb pins s1 σ H1 Q I1 q1
 | false=>exact⟨.bl false,H1,I1,rfl,q1⟩
theorem zhy(ha:PE X a ta):PE X (.UnaryOp .Not a pos) (zjg ta):=by
 intro pins s σ H Q I h;refine UnaryOp_ (thn (ha pins s σ H _ I h) fun v s1 ⟨x,H1,I1,r1,q1⟩=>?_);obtain⟨c,rfl,q1⟩:=q1;cases r1;exact not_of (wpAny_truthy_bool ⟨.bl (!c),H1,I1,rfl,q1⟩)
def tIf(t:TT)(ta tb:TE):TE:=fun σ H Q=>t σ H fun c H1=>if c=true then ta σ H1 Q else tb σ H1 Q
theorem E8(hc:PT X c tA)(ha:PE X a ta)(hb:PE X b tb):PE X (.IfExp c a b pos) (tIf tA ta tb):=by
 intro pins s σ H Q I h;refine wpAny_IfExp (thn (hc pins s σ H _ I h) fun d s1 ⟨H1,I1,q1⟩=>?_);cases d with
 | true=>exact ha pins s1 σ H1 Q I1 q1
 | false=>exact hb pins s1 σ H1 Q I1 q1
end
def SqL(K:Frag)(H:Hp)(a:Addr)(xs:List V):Prop :=
 Rd H a (.lst xs) \/
  ∃ (o:Obj) (its:Array Value) (n:Nat),K.lookup a=some o/\o.cls=.type "list"/\o.dict=none/\o.data=.seq its n/\its.size<=sizeLine/\Vals xs its.toList
def SqT(K:Frag)(H:Hp)(a:Addr)(xs:List V):Prop :=
 Rd H a (.tup xs) \/
  ∃ (o:Obj) (its:Array Value) (n:Nat),K.lookup a=some o/\o.cls=.type "tuple"/\o.data=.seq its n/\its.size<=sizeLine/\Vals xs its.toList
def zkq:Value->Option V
 | .none=>some .non
 | .bool b=>some (.bl b)
 | .int i _=>some (.int i)
 | .str x _=>some (.str x)
 | .bytes b _=>some (.byt b)
 | .float b _=>some (.flt b)
 | .ref a=>some (.ref a)
 | .type n=>some (.ty n)
 | _=>none
theorem RelV.abs(r:RelV x u):zkq u=some x:=by
 cases x with
 | non=>cases r;rfl
 | bl _=>cases r;rfl
 | int _=>obtain⟨t,rfl⟩:=r;rfl
 | str _=>obtain⟨t,rfl⟩:=r;rfl
 | byt _=>obtain⟨t,rfl⟩:=r;rfl
 | flt _=>obtain⟨t,rfl⟩:=r;rfl
 | ref _=>cases r;rfl
 | ty _=>cases r;rfl
theorem RelV.inj(r:RelV x u)(q:RelV y u):x=y:=Option.some.inj (r.abs.symm.trans q.abs)
theorem Vals.inj:∀ {xs ys:List V} {us:List Value},Vals xs us->Vals ys us->xs=ys
 | _,_,_,.nil,.nil=>rfl
 | _,_,_,.cons r t,.cons r' t'=>by rw[r.inj r',Vals.inj t t']
section
variable{X:Cx}{pins:List (Addr×Obj)}{σ:St}{H:Hp}{s:Shared}{a:Addr}{xs ys:List V}
theorem SqL.of{K:Frag}(h:H a=some (.lst xs)):SqL K H a xs:=.inl (.inl h)
theorem SqT.of{K:Frag}(h:H a=some (.tup xs)):SqT K H a xs:=.inl (.inl h)
theorem Inv.list(I:Inv X pins σ H s)(h:SqL X.K H a xs):∃ its:List Value,Vals xs its/\PlainL s.heap a its.toArray/\xs.length<=sizeLine:=by
 rcases h with h|⟨o,its,n,hk,hc,hd,hs,hz,r⟩
 ·obtain⟨z,its,n,r,e⟩:=h.ok I.hok;exact⟨its,r,⟨_,n,e,rfl,rfl,rfl⟩,z⟩
 ·refine⟨its.toList,r,⟨o,n,I.kIn a o hk,hc,hd,by simpa using hs⟩,?_⟩;have e:=r.length;simp only[Array.length_toList] at e;omega
theorem Inv.tuple(I:Inv X pins σ H s)(h:SqT X.K H a xs):∃ its:List Value,Vals xs its/\IsTup s.heap a its.toArray/\xs.length<=sizeLine:=by
 rcases h with h|⟨o,its,n,hk,hc,hs,hz,r⟩
 ·obtain⟨z,its,r,p⟩:=h.ok I.hok;exact⟨its,r,p,z⟩
 ·refine⟨its.toList,r,⟨o,I.kIn a o hk,hc,n,by simpa using hs⟩,?_⟩;have e:=r.length;simp only[Array.length_toList] at e;omega
theorem Inv.list_inj(I:Inv X pins σ H s)(h:SqL X.K H a xs)(h':SqL X.K H a ys):xs=ys:=by
 obtain⟨its,r,⟨o,n,e,_,_,d⟩,_⟩:=I.list h;obtain⟨its',r',⟨o',n',e',_,_,d'⟩,_⟩:=I.list h';rw[e] at e';cases e';rw[d] at d';injection d' with d1 _;have:its=its':=by simpa using congrArg Array.toList d1
 subst this;exact r.inj r'
theorem Inv.tuple_inj(I:Inv X pins σ H s)(h:SqT X.K H a xs)(h':SqT X.K H a ys):xs=ys:=by
 obtain⟨its,r,⟨o,e,_,n,d⟩,_⟩:=I.tuple h;obtain⟨its',r',⟨o',e',_,n',d'⟩,_⟩:=I.tuple h';rw[e] at e';cases e';rw[d] at d';injection d' with d1 _;have:its=its':=by simpa using congrArg Array.toList d1
 subst this;exact r.inj r'
end
section
variable{X:Cx}{st:Stmt}{rest:List Stmt}{t u:TS}{e:Expr}{te:TE}{pos:Pos}
def zdh:TS:=fun D σ H=>D.nx σ H
def Zw(t u:TS):TS:=fun D σ H=>t { D with nx:=u D } σ H
theorem Zt:PSs X [] zdh:=fun _ _ σ H _ I h=>wpAny_execs_nil ⟨σ,H,I,h⟩
theorem Zb(h1:PS X st t)(h2:PSs X rest u):PSs X (st :: rest) (Zw t u):=by
 intro pins s σ H D I h;refine wpAny_execs_cons (thn (h1 pins s σ H { D with nx:=u D } I h) fun f s1 q=>?_);cases f with
 | next =>
   obtain⟨σ',H',I',q⟩:=q;exact h2 pins s1 σ' H' D I' q
 | ret v=>exact q
 | brk=>exact q
 | cont=>exact q
theorem Zf(h1:PS X st t):PSs X [st] t:=by
 intro pins s σ H D I h;refine wpAny_execs_cons (thn (h1 pins s σ H D I h) fun f s1 q=>?_);cases f with
 | next=>exact wpAny_execs_nil q
 | ret v=>exact q
 | brk=>exact q
 | cont=>exact q
def zhz:TS:=fun D σ H=>D.bk σ H
theorem zdi:PS X (.Break pos) zhz:=fun _ _ σ H _ I h=>wpAny_Break ⟨σ,H,I,h⟩
theorem Inv.quiet(I:Inv X pins σ H s):interactive X.env=false:=by simp[interactive,I.ok.kind]
def zjh(te:TE):TS:=fun D σ H=>te σ H fun _ H1=>D.nx σ H1
theorem Z6(he:PE X e te)(hs:swapsWith e none pos.line X.env=pure false:=by rfl):PS X (.Expr e pos) (zjh te):=by
 intro pins s σ H D I h;exact wpAny_Expr_any (thn (he pins s σ H _ I h) fun v s1 ⟨x,H1,I1,r1,q1⟩=>⟨σ,H1,I1,q1⟩) I.quiet hs
def zji(te:TE):TS:=fun D σ H=>te σ H D.rt
theorem Zm(he:PE X e te):PS X (.Return (some e) pos) (zji te):=by
 intro pins s σ H D I h;exact wpAny_Return_some (thn (he pins s σ H _ I h) fun v s1 ⟨x,H1,I1,r1,q1⟩=>⟨x,σ,H1,I1,r1,q1⟩)
def E9(c:TT)(t u:TS):TS:=fun D σ H=>c σ H fun b H1=>if b=true then t D σ H1 else u D σ H1
theorem Z5(hc:PT X c tc)(ha:PSs X a t)(hb:PSs X b u):PS X (.If c a b pos) (E9 tc t u):=by
 intro pins s σ H D I h;refine wpAny_If (thn (hc pins s σ H _ I h) fun d s1 ⟨H1,I1,q1⟩=>?_);cases d with
 | true=>exact ha pins s1 σ H1 D I1 q1
 | false=>exact hb pins s1 σ H1 D I1 q1
end
abbrev TG:=V->St->Hp->(St->Hp->Prop)->Prop
abbrev TGs:=List V->St->Hp->(St->Hp->Prop)->Prop
def PG(X:Cx)(target:Expr)(t:TG):Prop :=
 ∀ (pins:List (Addr×Obj)) (s:Shared) (σ:St) (H:Hp) (v:V) (u:Value) (Q:St->Hp->Prop),Inv X pins σ H s->RelV v u->t v σ H Q ->
   wpAny (model X.prog X.w) X.A (assign target X.env u) (fun _ s'=>∃ σ' H',Inv X pins σ' H' s'/\Q σ' H') X.xe s
def PGs(X:Cx)(ts:List Expr)(t:TGs):Prop :=
 ∀ (pins:List (Addr×Obj)) (s:Shared) (σ:St) (H:Hp) (vs:List V) (us:List Value) (Q:St->Hp->Prop),Inv X pins σ H s->Vals vs us->t vs σ H Q ->
   wpAny (model X.prog X.w) X.A (assignInOrder ((assignEach ts X.env).map (·.2)) us) (fun _ s'=>∃ σ' H',Inv X pins σ' H' s'/\Q σ' H') X.xe s
abbrev zjj:=V->V->V->Hp->(Hp->Prop)->Prop
def zjk(X:Cx)(t:zjj):Prop :=
 ∀ (pins:List (Addr×Obj)) (s:Shared) (σ:St) (H:Hp) (o i v:V) (ov iv u:Value) (Q:Hp->Prop),Inv X pins σ H s->RelV o ov->RelV i iv->RelV v u->t o i v H Q ->
   wpAny (model X.prog X.w) X.A (setItem ov iv u) (fun _ s'=>∃ H',Inv X pins σ H' s'/\Q H') X.xe s
section
variable{X:Cx}{pos:Pos}
def Wu(i:Nat):TG:=fun v σ H Q=>Q (σ.set i (some v)) H
theorem Uo(hN:X.N.Nodup)(hi:X.N[i]?=some x)(hx:Loc X.env.scope x)(hf:Bo X i x:=by first|exact⟨.inl rfl,Wf⟩|exact⟨.inr rfl,Wf⟩|assumption|exact⟨.inl rfl,by assumption⟩|exact⟨.inr rfl,by assumption⟩):PG X (.Name x pos) (Wu i):=by
 intro pins s σ H v u Q I r h;exact wpAny_assign_Name (E7 I hN hi hx r (fun s' I'=>⟨_,H,I',h⟩) hf)
def zkr:TGs:=fun vs σ H Q=>vs=[]/\Q σ H
def zjl(t:TG)(u:TGs):TGs:=fun vs σ H Q=>∃ v r,vs=v :: r/\t v σ H fun σ' H'=>u r σ' H' Q
theorem Wb:PGs X [] zkr:=by
 intro pins s σ H vs us Q I r h;obtain⟨e,h⟩:=h;subst e;cases r;exact assignInOrder_nil ⟨σ,H,I,h⟩
theorem Zy(h1:PG X e t)(h2:PGs X es u)
  (hs:(assignEach (e :: es) X.env).map (·.2)=assign e X.env :: (assignEach es X.env).map (·.2):=by rfl):PGs X (e :: es) (zjl t u):=by
 intro pins s σ H vs us Q I r h;obtain⟨v,vr,e1,h⟩:=h;subst e1;cases r with
 | cons r rr =>
   rw[hs];refine assignInOrder_cons (thn (h1 pins s σ H _ _ _ I r h) fun _ s1 ⟨σ1,H1,I1,q1⟩=>?_);exact h2 pins s1 σ1 H1 _ _ Q I1 rr q1
def zjm(K:Frag)(n:Nat)(t:TGs):TG:=fun v σ H Q=>∃ a xs,v=.ref a/\SqT K H a xs/\xs.length=n/\t xs σ H Q
theorem zh0(hc:X.calm=true)(h:PGs X es t)
  (hn:(assignEach es X.env).length=n:=by rfl) (hst:(assignEach es X.env).findIdx? (·.1)=none:=by rfl):PG X (.Tuple es k pos) (zjm X.K n t):=by
 intro pins s σ H v u Q I r hw;obtain⟨a,xs,e1,hq,hl,hw⟩:=hw;subst e1;cases r;obtain⟨its,rv,ht,hz⟩:=I.tuple hq;refine assign_Tuple_tuple (I.ok.hd hc) ht (by simp[hn,<- hl,rv.length]) hst fun h' hx=>?_;have I1:Inv X pins σ H { s with heap:=h' }:=I.kept (t':=s.toks) fun b o e=>hx b o (zt2 (Heap.lt_size e)) e;exact h pins _ σ H xs _ Q I1 (by simpa using rv) hw
def zks(to ti:TE)(t:zjj):TG:=fun v σ H Q=>to σ H fun o H1=>ti σ H1 fun i H2=>t o i v H2 fun H3=>Q σ H3
theorem zh1(ho:PE X o to)(hi:PE X i ti)(hs:zjk X t)
  (ha:∀ v,assign (.Subscript o i pos) X.env v=(do
   let ov <- holding [v] (eval o X.env)
   let iv <- holding [v,ov] (eval i X.env)
   standAt pos
   holding [v,ov,iv] (setItem ov iv v)
   release [v,ov,iv] []):=by intro _;rfl):PG X (.Subscript o i pos) (zks to ti t):=by
 intro pins s σ H v u Q I r h;rw[ha];refine wpAny_bind (wpAny_holding (thn (ho pins s σ H _ I h) fun ov s1 ⟨x,H1,I1,r1,q1⟩=>?_));refine wpAny_bind (wpAny_holding (thn (hi pins s1 σ H1 _ I1 q1) fun iv s2 ⟨y,H2,I2,r2,q2⟩=>?_));refine wpAny_bind (wpAny_standAt (wpAny_bind (wpAny_holding (thn (hs pins s2 σ H2 x y v ov iv u _ I2 r1 r2 r q2) fun _ s3 ⟨H3,I3,q3⟩=>?_))));exact wpAny_release ⟨σ,H3,I3,q3⟩
def zbo(te:TE)(g:TG):TS:=fun D σ H=>te σ H fun x H1=>g x σ H1 D.nx
theorem Kt(he:PE X e te)(hg:PG X tg g)(hs:swapsWithSole [tg] e pos.line X.env=pure false:=by rfl)(hw:swappedStores [tg] e X.env=pure none:=by rfl)
  (h1:(assignEach [tg] X.env).map (·.2)=[assign tg X.env]:=by rfl):PS X (.Assign [tg] e pos) (zbo te g):=by
 intro pins s σ H D I h;refine wpAny_Assign_stores (thn (he pins s σ H _ I h) fun v s1 ⟨x,H1,I1,r1,q1⟩=>?_) hs hw;rw[h1];exact thn (hg pins s1 σ H1 x v _ I1 r1 q1) fun _ s2 q=>q
theorem zh2(hN:X.N.Nodup)(hi:X.N[i]?=some x)(hx:Loc X.env.scope x)(he:PE X e te)(hs:swapsWith e (some (.Name x pos')) pos.line X.env=pure false:=by rfl)(hf:Bo X i x:=by first|exact⟨.inl rfl,Wf⟩|exact⟨.inr rfl,Wf⟩|assumption|exact⟨.inl rfl,by assumption⟩|exact⟨.inr rfl,by assumption⟩) :
  PS X (.Assign [.Name x pos'] e pos) (zbo te (Wu i)):=by
 intro pins s σ H D I h;refine wpAny_Assign_Name (thn (he pins s σ H _ I h) fun v s1 ⟨y,H1,I1,r1,q1⟩=>?_) hs;exact E7 I1 hN hi hx r1 (fun s2 I2=>⟨_,H1,I2,q1⟩) hf
end
section
variable{X:Cx}{pos:Pos}
def zdj(c:TT)(tb:TS):TS:=fun D σ H=>∃ W:Nat->St->Hp->Prop,(∃ m,W m σ H)/\∀ m σ H,W m σ H ->
 c σ H fun b H1=>if b=true then ∃ N:St->Hp->Prop,(∀ σ' H',N σ' H'->∃ m',m' < m/\W m' σ' H')/\tb { D with nx:=N,ct:=N,bk:=D.nx } σ H1 else D.nx σ H1
theorem Dc(hp:PassesOwn (model X.prog X.w) X.A X.env X.xe)(hc:PT X c tc)(hb:PSs X body tb):PS X (.While c body [] pos) (zdj tc tb):=by
 intro pins s σ H D I h;obtain⟨W,⟨m0,w0⟩,turn⟩:=h;refine wpAny_While (codeAny_whileLoop (fun n s'=>∃ σ' H',Inv X pins σ' H' s'/\W n σ' H') ?_ m0 ⟨σ,H,I,w0⟩);rintro n s1 ⟨σ1,H1,I1,w1⟩;refine wpAny_passesOwn hp (thn (hc pins s1 σ1 H1 _ I1 (turn n σ1 H1 w1)) fun b s2 ⟨H2,I2,q2⟩=>?_);cases b with
 | true =>
   obtain⟨N,hN,q2⟩:=q2;rw[if_pos rfl];refine wpAny_passesOwn hp (thn (hb pins s2 σ1 H2 _ I2 q2) fun f s3 q3=>?_);cases f with
   | next =>
     obtain⟨σ3,H3,I3,n3⟩:=q3;obtain⟨m',hm,w3⟩:=hN σ3 H3 n3;exact⟨m',hm,σ3,H3,I3,w3⟩
   | cont =>
     obtain⟨σ3,H3,I3,n3⟩:=q3;obtain⟨m',hm,w3⟩:=hN σ3 H3 n3;exact⟨m',hm,σ3,H3,I3,w3⟩
   | brk=>exact q3
   | ret v=>exact q3
 | false =>
   rw[if_neg ztu];exact wpAny_execs_nil ⟨σ1,H2,I2,q2⟩
end
structure It where
 go:Nat->Hp->Prop
 yld:Nat->Hp->V->Hp->Prop
 stop:Nat->Hp->Prop
def FpOk(X:Cx)(pins:List (Addr×Obj))(H:Hp)(b:Addr):Prop :=
 H b=none/\b≠X.env.locals/\b∉X.fs/\(b∈X.ex\/X.s₀.heap.objs.size<=b)/\(∀ x c,X.env.cells.lookup x=some c->c≠b)/\∀ p∈X.pn++pins,p.1≠b
theorem Inv.fpOk(I:Inv X pins σ H s)(hb:s.heap.objs.size<=b)(hn:H' b=none):FpOk X pins H' b:=by
 refine⟨hn,Nat.ne_of_gt (zty I.lt hb),I.nofs hb,.inr (zts I.sz hb),fun x c e z=>?_,fun p hp z=>?_⟩
 ·obtain⟨v,q⟩:=I.cell x c e;exact absurd (zty q.lt (by rw[z];exact hb)) (zun _)
 ·exact absurd (zty (Heap.lt_size (I.pin p hp).1) (by rw[z];exact hb)) (zun _)
structure Dd(P:Program)(w:World)(K:Frag)(tg:Expr)(J:It)(fp:List Addr)(it:Addr)(tn:Nat->Heap->Prop):Prop where
 mem:it∈fp
 obj:∀ i h,tn i h->∀ b∈fp,∃ o,h.get? b=some o/\∀ v,o.data≠.cell v
 keep:∀ i h h',tn i h->(∀ b∈fp,∀ o,h.get? b=some o->h'.get? b=some o)->tn i h'
 item:∀ (X:Cx),X.prog=P->X.w=w->X.K=K->X.calm=true->∀ (i:Nat) (pins:List (Addr×Obj)) (s:Shared) (σ:St) (H:Hp) (E:Value->Shared->Prop),Inv X pins σ H s->(∀ b∈fp,FpOk X pins H b)->tn i s.heap->J.go i H ->
  wpAny (model P w) X.A (pyNext (.ref it)) (fun r s1=>∃ u,r=some u /\
   wpAny (model P w) X.A (letOwnedTupleGo tg (.ref it) u) (fun _ s2=>∃ x H',Inv X pins σ H' s2/\RelV x u/\J.yld i H x H'/\tn (i+1) s2.heap/\∀ b∈fp,H' b=none) E s1) E s
 done:∀ (X:Cx),X.prog=P->X.w=w->X.K=K->X.calm=true->∀ (i:Nat) (pins:List (Addr×Obj)) (s:Shared) (σ:St) (H:Hp) (E:Value->Shared->Prop),Inv X pins σ H s->(∀ b∈fp,FpOk X pins H b)->tn i s.heap->J.stop i H ->
  wpAny (model P w) X.A (pyNext (.ref it)) (fun r s1=>r=none/\Inv X pins σ H s1) E s
 self:∀ (A:Around) (i:Nat) (s:Shared) (Q:Value->Shared->Prop) (E:Value->Shared->Prop),tn i s.heap->Q (.ref it) s->wpAny (model P w) A (pyIter (.ref it)) Q E s
abbrev TI:=St->Hp->(It->Hp->Prop)->Prop
def PIE(X:Cx)(pins:List (Addr×Obj))(σ:St)(tg:Expr)(R:It->Hp->Prop)(itv:Value)(s2:Shared):Prop :=
 ∃ (it:Addr) (fp:List Addr) (tn:Nat->Heap->Prop) (J:It) (H':Hp),itv=.ref it/\Inv X pins σ H' s2/\Dd X.prog X.w X.K tg J fp it tn/\tn 0 s2.heap/\(∀ b∈fp,FpOk X pins H' b)/\R J H'
def PI(X:Cx)(tg iter:Expr)(wi:TI):Prop :=
 ∀ (pins:List (Addr×Obj)) (s:Shared) (σ:St) (H:Hp) (R:It->Hp->Prop),Inv X pins σ H s->wi σ H R ->
   wpAny (model X.prog X.w) X.A (eval iter X.env) (fun v s1=>wpAny (model X.prog X.w) X.A (pyIter v) (PIE X pins σ tg R) X.xe s1) X.xe s
theorem zdk(ho:s.heap.get? it=some o)(hc:o.cls=.type n)(hd:o.data=.fields vs)
  (hn:["enumerate","zip","dict_itemiterator","dict_reverseitemiterator","odict_iterator","itertools.zip_longest","itertools.pairwise"].contains n=false) (hQ:Q () s):wpAny M A (letOwnedTupleGo tg (.ref it) u) Q E s:=by
 unfold letOwnedTupleGo;cases tg<;>first
  | exact wpAny_pure hQ
  | (cases u<;>first
    | exact wpAny_pure hQ
    | (refine wpAny_bind (wpAny_load ho ?_)
       rw[hc,hd];show wpAny M A (if (["enumerate","zip","dict_itemiterator","dict_reverseitemiterator","odict_iterator","itertools.zip_longest","itertools.pairwise"].contains n&&vs[0]? == some (rawInt _))=true then _ else _) Q E s;rw[if_neg (by intro h;rw[hn,Bool.false_and] at h;cases h)];exact wpAny_pure hQ))
def Itl(K:Frag)(a:Addr):It :=
 ⟨fun i H=>∃ xs x,SqL K H a xs/\xs[i]?=some x,fun i H x H'=>H'=H/\∀ xs,SqL K H a xs->xs[i]?=some x,fun i H=>∃ xs,SqL K H a xs/\xs.length<=i⟩
def Itr(lo:Int)(n:Nat):It:=⟨fun i _=>i<n,fun i H x H'=>H'=H/\x=.int (lo+i),fun i _=>n<=i⟩
theorem zbp{P:Program}{w:World}{K:Frag}{tg:Expr}(a it:Addr):Dd P w K tg (Itl K a) [it] it (fun i h=>h.IsListIter it a i) where
 mem:=by simp
 obj:=fun i h st b hb=>by
  have e:b=it:=by simpa using hb
  subst e;obtain⟨o,e,c,d⟩:=st;exact⟨o,e,fun v z=>by rw[d] at z;cases z⟩
 keep:=fun i h h' st k=>st.at fun o e=>k it (by simp) o e
 item:=by
  intro X hP hw hK hc i pins s σ H E I hf st hg;subst hP hw hK;obtain⟨xs,x,hq,hx⟩:=hg;obtain⟨its,rv,p,hz⟩:=I.list hq;obtain⟨u,hu,ru⟩:=rv.get hx;obtain⟨f0,f1,f2,f3,f4,f5⟩:=hf it (by simp);refine wpAny_pyNext_list_item st p.isList (x:=u) (by simpa using hu) fun h' st' sb=>?_;have I1:Inv X pins σ H { s with heap:=h' }:=I.turned (t':=s.toks) (fun b o hb e=>(sb.2 b hb).trans e) f0 f1 f3 f4 f5;obtain⟨o,e,c,d⟩:=id st';exact⟨u,rfl,zdk (s:={ s with heap:=h' }) e c d ⋯ ⟨x,H,I1,ru,⟨rfl,fun ys hy=>by rw[I.list_inj hy hq];exact hx⟩,st',fun b hb=>(hf b hb).1⟩⟩
 done:=by
  intro X hP hw hK hc i pins s σ H E I hf st hg;subst hP hw hK;obtain⟨xs,hq,hx⟩:=hg;obtain⟨its,rv,p,hz⟩:=I.list hq;obtain⟨f0,f1,f2,f3,f4,f5⟩:=hf it (by simp);have hl:=rv.length;exact wpAny_pyNext_list_end (I.ok.hd hc) st p.isList (by simp;omega) fun h' eb=>⟨rfl,I.turned (t':=s.toks) (fun b o hb e=>eb b o hb e) f0 f1 f3 f4 f5⟩
 self:=fun _ _ _ _ _ st h=>wpAny_pyIter_listiter st h
theorem Bq{P:Program}{w:World}{K:Frag}{tg:Expr}(it:Addr)(lo:Int)(n:Nat):Dd P w K tg (Itr lo n) [it] it (fun i h=>IsRangeIter h it (lo+(i:Nat)*1) ((n:Int)-(i:Nat)) 1) where
 mem:=by simp
 obj:=fun i h st b hb=>by
  have e:b=it:=by simpa using hb
  subst e;exact⟨_,st,fun v z=>by
   have z':Data.fields _=Data.cell v:=z;cases z'⟩
 keep:=fun i h h' st k=>k it (by simp) _ st
 item:=by
  intro X hP hw hK hc i pins s σ H E I hf st hg;subst hP hw hK;obtain⟨f0,f1,f2,f3,f4,f5⟩:=hf it (by simp);have W:=Walks.range (prog:=X.prog) (w:=X.w) (I.ok.hd hc) it lo 1 n;refine W.item i s _ _ hg st fun v h' tk hv st' kk=>?_;obtain⟨t,rfl⟩:=hv;have I1:Inv X pins σ H { s with heap:=h',toks:=tk }:=I.turned (fun b o hb e=>kk b o (by simpa using hb) e) f0 f1 f3 f4 f5;refine⟨_,rfl,zdk (s:={ s with heap:=h',toks:=tk }) (n:="range_iterator") st' rfl rfl ⋯ ⟨.int (lo+i),H,I1,⟨t,?_⟩,⟨rfl,rfl⟩,st',fun b hb=>(hf b hb).1⟩⟩;rw[Int.mul_one]
 done:=by
  intro X hP hw hK hc i pins s σ H E I hf st hg;subst hP hw hK;obtain⟨f0,f1,f2,f3,f4,f5⟩:=hf it (by simp);exact wpAny_pyNext_range_end (I.ok.hd hc) st (by have:n<=i:=hg;omega) fun h' eb=>⟨rfl,I.turned (t':=s.toks) (fun b o hb e=>eb b o hb e) f0 f1 f3 f4 f5⟩
 self:=fun _ _ _ _ _ st h=>wpAny_pyIter_rangeiter st h
section
variable{X:Cx}{tg:Expr}
inductive zh3(K:Frag)(R:It->Hp->Prop)(x:V)(H1:Hp):Prop where
 | mk(a)(_:x=.ref a)(_:(∃ xs,SqL K H1 a xs))(_:R (Itl K a) H1)
def zhb(K:Frag)(tl:TE):TI:=fun σ H R=>tl σ H fun x H1=>zh3 K R x H1
theorem zfx{l:Expr}{tl:TE}(hl:PE X l tl):PI X tg l (zhb X.K tl):=by
 intro pins s σ H R I h;refine thn (hl pins s σ H _ I h) fun v s1 ⟨x,H1,I1,r1,q1⟩=>?_;obtain⟨a,e,⟨xs,hq⟩,q⟩:=q1;subst e;cases r1;obtain⟨its,rv,p,hz⟩:=I1.list hq;refine wpAny_pyIter_list p.isList ?_;refine⟨s1.heap.objs.size,[s1.heap.objs.size],_,_,H1,rfl,I1.kept (t':=s1.toks) fun b o e=>Heap.get?_push_of_some _ e,zbp a _,⟨_,Heap.get?_push_size _ rfl,rfl,rfl⟩,fun b hb=>?_,q⟩;have e:b=s1.heap.objs.size:=by simpa using hb
 subst e;exact I1.fpOk (ztm _) (I1.hok.fresh (ztm _))
theorem De{pins:List (Addr×Obj)}{σ:St}{H:Hp}{s:Shared}{R:It->Hp->Prop}{E:Value->Shared->Prop}{lo hi:Int}{t u v:Tok}{tk:Nat}(I:Inv X pins σ H s)(h1:-(2 ^ 62)<=lo)(h2:lo<2 ^ 62)(h3:-(2 ^ 62)<=hi)(h4:hi<2 ^ 62)
  (q:R (Itr lo (hi-lo).toNat) H):wpAny (model X.prog X.w) X.A (pyIter (.ref s.heap.objs.size)) (PIE X pins σ tg R) E { s with heap:=s.heap.push { cls:=.type "range",data:=.fields #[.int lo t,.int hi u,.int 1 v] },toks:=tk }:=by
 refine wpAny_pyIter_range (IsRange.new ..) (small_one h1 h2 h3 h4) ?_;have I1:Inv X pins σ H { s with heap:=s.heap.push { cls:=.type "range",data:=.fields #[.int lo t,.int hi u,.int 1 v] },toks:=tk }:=I.kept fun b o e=>Heap.get?_push_of_some _ e;refine⟨(s.heap.push { cls:=.type "range",data:=.fields #[.int lo t,.int hi u,.int 1 v] }).objs.size,[(s.heap.push { cls:=.type "range",data:=.fields #[.int lo t,.int hi u,.int 1 v] }).objs.size],_,_,H,rfl,
  I1.kept (t':=tk) fun b o e=>Heap.get?_push_of_some _ e,Bq _ lo (hi-lo).toNat,?_,fun b hb=>?_,q⟩
 ·have e1:lo+((0:Nat):Int)*1=lo:=by simp
  have e2:(((hi-lo).toNat:Nat):Int)-((0:Nat):Int)=Builtin.Range.rangeSize lo hi 1:=by rw[rangeSize_one];split<;>omega
  show IsRangeIter _ _ (lo+((0:Nat):Int)*1) ((((hi-lo).toNat:Nat):Int)-((0:Nat):Int)) 1;rw[e1,e2];exact Heap.get?_push_size _ rfl
 ·have e:b=(s.heap.push { cls:=.type "range",data:=.fields #[.int lo t,.int hi u,.int 1 v] }).objs.size:=by simpa using hb
  subst e;exact I1.fpOk (ztm _) (I1.hok.fresh (ztm _))
def zjn(ta:TA):TI:=fun σ H R=>ta σ H fun vs H1=>∃ j:Int,vs=[.int j]/\-(2 ^ 62)<=j/\j<2 ^ 62/\R (Itr 0 j.toNat) H1
def zjo(ta:TA):TI:=fun σ H R=>ta σ H fun vs H1=>∃ i j:Int,vs=[.int i,.int j]/\(-(2 ^ 62)<=i/\i<2 ^ 62/\-(2 ^ 62)<=j/\j<2 ^ 62)/\R (Itr i (j-i).toNat) H1
theorem X9{a:Expr}{ta:TA}{p pos:Pos}(hg:Gl X "range")(hm:X.mg "range"=none)(ha:PA X [a] ta)(hs:starEach [a] X.env=[(false,eval a X.env)]:=by rfl):PI X tg (.Call (.Name "range" p) [a] [] pos) (zjn ta):=by
 intro pins s σ H R I h;refine Call_ (Pp I hg hm boot_range (PyProof.Rows.callWith_type1 (thn (ha pos pins s σ H _ I h) fun us s1 ⟨vs,H1,I1,r1,q1⟩=>?_) hs rfl));obtain⟨j,e,q1,q2,q⟩:=q1;subst e;cases r1 with
 | cons r rr =>
   cases rr;obtain⟨t,rfl⟩:=r;exact call_range_1 (De I1 ⋯ ⋯ q1 q2 (by simpa using q))
theorem zbq(hg:Gl X "range")(hm:X.mg "range"=none)(ha:PA X [a,b] ta)(hs:starEach [a,b] X.env=[(false,eval a X.env),(false,eval b X.env)]:=by rfl)(hs2:starEach [b] X.env=[(false,eval b X.env)]:=by rfl) :
  PI X tg (.Call (.Name "range" p) [a,b] [] pos) (zjo ta):=by
 intro pins s σ H R I h;refine Call_ (Pp I hg hm boot_range (PyProof.Rows.callWith_type1 (thn (ha pos pins s σ H _ I h) fun us s1 ⟨vs,H1,I1,r1,q1⟩=>?_) (by rw[hs,hs2]) (by rw[hs2];rfl)));obtain⟨i,j,e,⟨q1,q2,q3,q4⟩,q⟩:=q1;subst e;cases r1 with
 | cons r rr =>
   cases rr with
   | cons r' rr =>
     cases rr;obtain⟨t,rfl⟩:=r;obtain⟨t',rfl⟩:=r';exact call_range_2 (De I1 q1 q2 q3 q4 q)
def zdl(wi:TI)(g:TG)(tb:TS):TS:=fun D σ H=>wi σ H fun J H1=>∃ W:Nat->Nat->St->Hp->Prop,(∃ m,W 0 m σ H1)/\∀ i m σ H,W i m σ H ->
 (J.stop i H/\D.nx σ H)\/(J.go i H/\∃ N:St->Hp->Prop,(∀ σ' H',N σ' H'->∃ m',m' < m/\W (i+1) m' σ' H')/\∀ x H',J.yld i H x H'->g x σ H' fun σ2 H2=>tb { D with nx:=N,ct:=N,bk:=D.nx } σ2 H2)
def Nv(fp:List Addr)(h:Heap):List (Addr×Obj):=fp.filterMap fun b=>(h.get? b).map fun o=>(b,o)
theorem So(hb:b∈fp)(e:h.get? b=some o):(b,o)∈Nv fp h:=zvq.mpr ⟨b,hb,by rw[e];rfl⟩
theorem zbr(hp:p∈Nv fp h):p.1∈fp/\h.get? p.1=some p.2:=by
 obtain⟨b,hb,e⟩:=zvq.mp hp;cases q:h.get? b with
 | none=>rw[q] at e;cases e
 | some o =>
   rw[q] at e;have e':(b,o)=p:=Option.some.inj e;subst e';exact⟨hb,q⟩
theorem Inv.pinned(I:Inv X pins σ H s)(hf:∀ b∈fp,FpOk X pins H b)(ho:∀ b∈fp,∃ o,s.heap.get? b=some o/\∀ v,o.data≠.cell v):Inv X (pins++Nv fp s.heap) σ H s :=
 I.pins_of fun p hp=>(ztl.mp hp).elim (fun z=>I.pin p (ztx _ z)) fun z=>by
  obtain⟨hb,e⟩:=zbr z;obtain⟨f0,f1,f2,_⟩:=hf p.1 hb;obtain⟨o,e',d⟩:=ho p.1 hb;rw[e] at e';cases e';exact⟨e,f0,f1,f2,d⟩
theorem Inv.unpinned(I:Inv X (pins++pl) σ H s):Inv X pins σ H s:=I.pins_of fun p hp=>I.pin p (ztx _ (zt7 _ hp))
theorem Xf(hp:PassesOwn (model X.prog X.w) X.A X.env X.xe)(hc:X.calm=true)(hi:PI X tg iter wi)(hg:PG X tg g)(hb:PSs X body tb)
  (hs:∀ x,foldedSetIterable iter X.env x=pure x:=by intro _;rfl):PS X (.For tg iter body [] pos) (zdl wi g tb):=by
 intro pins s σ H D I h;refine wpAny_For (thn (hi pins s σ H _ I h) fun v s1 h1=>thn h1 fun itv s2 h2=>?_) hs;obtain⟨it,fp,tn,J,H2,e,I2,T,st2,f2,W,⟨m0,w0⟩,turn⟩:=h2;subst e;have stat:∀ {H':Hp},(∀ b∈fp,H' b=none)->∀ b∈fp,FpOk X pins H' b:=fun hn b hb=>⟨hn b hb,(f2 b hb).2⟩
 refine codeAny_forLoop_any (fun n s'=>∃ i σ' H',Inv X pins σ' H' s'/\tn i s'.heap/\(∀ b∈fp,H' b=none)/\W i n σ' H') ?_ m0 ⟨0,σ,H2,I2,st2,fun b hb=>(f2 b hb).1,w0⟩;rintro n s3 ⟨i,σ3,H3,I3,st3,fr3,w3⟩;rcases turn i n σ3 H3 w3 with ⟨stop,qn⟩|⟨go,N,hN,step⟩
 ·refine wpAny_passesOwn hp (thn (T.done X rfl rfl rfl hc i pins s3 σ3 H3 X.xe I3 (stat fr3) st3 stop) fun r s4 ⟨hr,I4⟩=>?_);subst hr;exact wpAny_execs_nil ⟨σ3,H3,I4,qn⟩
 ·refine wpAny_passesOwn hp (thn (T.item X rfl rfl rfl hc i pins s3 σ3 H3 X.xe I3 (stat fr3) st3 go) fun r s4 ⟨u,hr,h4⟩=>?_);subst hr;refine wpAny_passesOwn hp (thn h4 fun _ s5 ⟨x,H5,I5,r5,y5,st5,fr5⟩=>?_);have I5':=I5.pinned (stat fr5) (T.obj _ _ st5);refine wpAny_passesOwn hp (thn (hg _ s5 σ3 H5 x u _ I5' r5 (step x H5 y5)) fun _ s6 ⟨σ6,H6,I6,q6⟩=>?_);refine wpAny_passesOwn hp (thn (hb _ s6 σ6 H6 _ I6 q6) fun f s7 q7=>?_);have again:∀ {σ7:St} {H7:Hp},Inv X (pins++Nv fp s5.heap) σ7 H7 s7->N σ7 H7->∃ m,m<n/\∃ i σ' H',Inv X pins σ' H' s7/\tn i s7.heap/\(∀ b∈fp,H' b=none)/\W i m σ' H':=fun {σ7 H7} I7 n7=>by
   obtain⟨m',hm,w7⟩:=hN σ7 H7 n7;refine⟨m',hm,i+1,σ7,H7,I7.unpinned,T.keep _ _ _ st5 fun b hb o e=>(I7.pin (b,o) (ztx _ (ztx _ (So hb e)))).1,fun b hb=>?_,w7⟩;obtain⟨o,e,d⟩:=T.obj _ _ st5 b hb;exact(I7.pin (b,o) (ztx _ (ztx _ (So hb e)))).2.1
  cases f with
  | next=>obtain⟨σ7,H7,I7,n7⟩:=q7;exact again I7 n7
  | cont=>obtain⟨σ7,H7,I7,n7⟩:=q7;exact again I7 n7
  | brk=>obtain⟨σ7,H7,I7,q7⟩:=q7;exact⟨σ7,H7,I7.unpinned,q7⟩
  | ret v=>obtain⟨x7,σ7,H7,I7,r7,q7⟩:=q7;exact⟨x7,σ7,H7,I7.unpinned,r7,q7⟩
end
theorem X6{K:Frag}{a:Addr}{xs:List V}{g:TG}{tb:TS}{D:Oz}{σ:St}{H:Hp}(Pv:Nat->St->Hp->Prop)(h0:Pv 0 σ H)(hl:∀ i σ H,i<=xs.length->Pv i σ H->SqL K H a xs)
  (hs:∀ i x σ H,xs[i]?=some x->Pv i σ H->g x σ H fun σ2 H2=>tb { D with nx:=Pv (i+1),ct:=Pv (i+1),bk:=D.nx } σ2 H2) (hd:∀ σ H,Pv xs.length σ H->D.nx σ H) :
  ∃ W:Nat->Nat->St->Hp->Prop,(∃ m,W 0 m σ H)/\∀ i m σ H,W i m σ H ->
    ((Itl K a).stop i H/\D.nx σ H)\/((Itl K a).go i H/\∃ N:St->Hp->Prop,(∀ σ' H',N σ' H'->∃ m',m' < m/\W (i+1) m' σ' H')/\∀ x H',(Itl K a).yld i H x H'->g x σ H' fun σ2 H2=>tb { D with nx:=N,ct:=N,bk:=D.nx } σ2 H2):=by
 refine⟨fun i m σ H=>m=xs.length-i/\i<=xs.length/\Pv i σ H,⟨xs.length,by simp,zt4 _,h0⟩,?_⟩;rintro i m σ H ⟨rfl,hi,p⟩;have q:=hl i σ H hi p;by_cases hlt:i<xs.length
 ·refine .inr ⟨⟨xs,xs[i],q,by simp[hlt]⟩,Pv (i+1),fun σ' H' p'=>⟨xs.length-(i+1),by omega,rfl,hlt,p'⟩,fun x H' y=>?_⟩;obtain⟨e,y⟩:=y;subst e;exact hs i x σ _ (y xs q) p
 ·have e:i=xs.length:=by omega
  subst e;exact .inl ⟨⟨xs,q,ztm _⟩,hd σ H p⟩
theorem Wn{lo:Int}{n:Nat}{g:TG}{tb:TS}{D:Oz}{σ:St}{H:Hp}(Pv:Nat->St->Hp->Prop)(h0:Pv 0 σ H)
  (hs:∀ i σ H,i<n->Pv i σ H->g (.int (lo+i)) σ H fun σ2 H2=>tb { D with nx:=Pv (i+1),ct:=Pv (i+1),bk:=D.nx } σ2 H2) (hd:∀ σ H,Pv n σ H->D.nx σ H) :
  ∃ W:Nat->Nat->St->Hp->Prop,(∃ m,W 0 m σ H)/\∀ i m σ H,W i m σ H ->
    ((Itr lo n).stop i H/\D.nx σ H)\/((Itr lo n).go i H/\∃ N:St->Hp->Prop,(∀ σ' H',N σ' H'->∃ m',m' < m/\W (i+1) m' σ' H')/\∀ x H',(Itr lo n).yld i H x H'->g x σ H' fun σ2 H2=>tb { D with nx:=N,ct:=N,bk:=D.nx } σ2 H2):=by
 refine⟨fun i m σ H=>m=n-i/\i<=n/\Pv i σ H,⟨n,by simp,zt4 _,h0⟩,?_⟩;rintro i m σ H ⟨rfl,hi,p⟩;by_cases hlt:i<n
 ·refine .inr ⟨hlt,Pv (i+1),fun σ' H' p'=>⟨n-(i+1),by omega,rfl,hlt,p'⟩,fun x H' y=>?_⟩;obtain⟨e,y⟩:=y;subst e y;exact hs i σ _ hlt p
 ·have e:i=n:=by omega
  subst e;exact .inl ⟨ztm _,hd σ H p⟩
abbrev R2:=V->V->Hp->VK->Prop
def OpR(X:Cx)(f:Value->Value->Sem Value)(r:R2):Prop :=
 ∀ (pins:List (Addr×Obj)) (s:Shared) (σ:St) (H:Hp) (x y:V) (v u:Value) (Q:VK),Inv X pins σ H s->RelV x v->RelV y u->r x y H Q ->
   wpAny (model X.prog X.w) X.A (f v u) (EP X pins σ Q) X.xe s
def UnR(X:Cx)(f:Value->Sem Value)(r:V->Hp->VK->Prop):Prop :=
 ∀ (pins:List (Addr×Obj)) (s:Shared) (σ:St) (H:Hp) (x:V) (v:Value) (Q:VK),Inv X pins σ H s->RelV x v->r x H Q ->
   wpAny (model X.prog X.w) X.A (f v) (EP X pins σ Q) X.xe s
def W8(X:Cx)(f:Value)(r:List V->Hp->VK->Prop):Prop :=
 ∀ (pins:List (Addr×Obj)) (s:Shared) (σ:St) (H:Hp) (xs:List V) (us:List Value) (Q:VK),Inv X pins σ H s->Vals xs us->r xs H Q ->
   wpAny (model X.prog X.w) X.A (call f us) (EP X pins σ Q) X.xe s
def zkt(X:Cx)(r:V->Hp->(Bool->Hp->Prop)->Prop):Prop :=
 ∀ (pins:List (Addr×Obj)) (s:Shared) (σ:St) (H:Hp) (x:V) (v:Value) (Q:Bool->Hp->Prop),Inv X pins σ H s->RelV x v->r x H Q ->
   wpAny (model X.prog X.w) X.A (truthy v) (TP X pins σ Q) X.xe s
def tOp(r:R2)(ta tb:TE):TE:=fun σ H Q=>ta σ H fun x H1=>tb σ H1 fun y H2=>r x y H2 Q
def tUn(r:V->Hp->VK->Prop)(ta:TE):TE:=fun σ H Q=>ta σ H fun x H1=>r x H1 Q
inductive rI(C:Int->Int->Prop)(g:Int->Int->V)(x:V)(y:V)(H:Hp)(Q:VK):Prop where
 | mk(i)(j)(_:x=.int i)(_:y=.int j)(_:C i j/\Q (g i j) H)
inductive rI0(g:Int->Int->V)(x:V)(y:V)(H:Hp)(Q:VK):Prop where
 | mk(i)(j)(_:x=.int i)(_:y=.int j)(_:Q (g i j) H)
inductive rU(g:Int->V)(x:V)(H:Hp)(Q:VK):Prop where
 | mk(i)(_:x=.int i)(_:Q (g i) H)
section
variable{X:Cx}{a b c:Expr}{ta tb tc:TE}{pos:Pos}
theorem binT(ha:PE X a ta)(hb:PE X b tb){pins:List (Addr×Obj)}{s:Shared}{σ:St}{H:Hp}{R:V->V->Hp->Prop}(I:Inv X pins σ H s)
  (h:ta σ H fun x H1=>tb σ H1 fun y H2=>R x y H2) {Q:Value->Shared->Prop} {f:Value->Value->Sem Value}
  (hf:∀ v u s2 x y H2,Inv X pins σ H2 s2->RelV x v->RelV y u->R x y H2->wpAny (model X.prog X.w) X.A (f v u) Q X.xe s2) :
  wpAny (model X.prog X.w) X.A (eval a X.env) (fun v s₁=>wpAny (model X.prog X.w) X.A (eval b X.env) (fun u s₂=>wpAny (model X.prog X.w) X.A (f v u) Q X.xe s₂) X.xe s₁) X.xe s:=by
 refine thn (ha pins s σ H _ I h) fun v s1 ⟨x,H1,I1,r1,q1⟩=>?_;refine thn (hb pins s1 σ H1 _ I1 q1) fun u s2 ⟨y,H2,I2,r2,q2⟩=>?_;exact hf v u s2 x y H2 I2 r1 r2 q2
theorem Zp{op:Operator}{r:R2}(ho:OpR X (binaryOp op) r)(ha:PE X a ta)(hb:PE X b tb):PE X (.BinOp a op b pos) (tOp r ta tb):=by
 intro pins s σ H Q I h;exact wpAny_BinOp (binT ha hb I h fun v u s2 x y H2 I2 rx ry q=>ho pins s2 σ H2 x y v u Q I2 rx ry q)
theorem O1(ho:UnR X (unaryOp op) r)(ha:PE X a ta):PE X (.UnaryOp op a pos) (tUn r ta):=by
 intro pins s σ H Q I h;exact UnaryOp_ (thn (ha pins s σ H _ I h) fun v s1 ⟨x,H1,I1,r1,q1⟩=>ho pins s1 σ H1 x v Q I1 r1 q1)
theorem opI{f:Value->Value->Sem Value}{C:Int->Int->Prop}{g:Int->Int->Int}
  (rule:∀ (i j:Int) (t u:Tok) (s:Shared) (Q:Value->Shared->Prop) (E:Value->Shared->Prop),C i j->Q (.int (g i j) s.toks) { s with toks:=s.toks+1 }->wpAny (model X.prog X.w) X.A (f (.int i t) (.int j u)) Q E s) :
  OpR X f (rI C fun i j=>.int (g i j)):=by
 intro pins s σ H x y v u Q I rx ry h;obtain⟨i,j,rfl,rfl,hc,q⟩:=h;obtain⟨t,rfl⟩:=rx;obtain⟨t',rfl⟩:=ry;exact rule i j t t' s _ _ hc ⟨.int (g i j),H,I.tok _,⟨_,rfl⟩,q⟩
theorem zjp{f:Value->Value->Sem Value}{g:Int->Int->Int}
  (rule:∀ (i j:Int) (t u:Tok) (s:Shared) (Q:Value->Shared->Prop) (E:Value->Shared->Prop),Q (.int (g i j) s.toks) { s with toks:=s.toks+1 }->wpAny (model X.prog X.w) X.A (f (.int i t) (.int j u)) Q E s) :
  OpR X f (rI0 fun i j=>.int (g i j)):=by
 intro pins s σ H x y v u Q I rx ry h;obtain⟨i,j,rfl,rfl,q⟩:=h;obtain⟨t,rfl⟩:=rx;obtain⟨t',rfl⟩:=ry;exact rule i j t t' s _ _ ⟨.int (g i j),H,I.tok _,⟨_,rfl⟩,q⟩
theorem zfy{f:Value->Value->Sem Value}{g:Int->Int->Bool}
  (rule:∀ (i j:Int) (t u:Tok) (s:Shared) (Q:Value->Shared->Prop) (E:Value->Shared->Prop),Q (.bool (g i j)) s->wpAny (model X.prog X.w) X.A (f (.int i t) (.int j u)) Q E s) :
  OpR X f (rI0 fun i j=>.bl (g i j)):=by
 intro pins s σ H x y v u Q I rx ry h;obtain⟨i,j,rfl,rfl,q⟩:=h;obtain⟨t,rfl⟩:=rx;obtain⟨t',rfl⟩:=ry;exact rule i j t t' s _ _ ⟨.bl (g i j),H,I,rfl,q⟩
def CDiv(i j:Int):Prop:=0<j/\j<1073741824
def CMul(i j:Int):Prop:=(-(2 ^ 64)<i/\i<2 ^ 64)\/(-(2 ^ 64)<j/\j<2 ^ 64)
theorem CMul.ok(h:CMul i j):IntMulOk i j:=by
 rcases h with ⟨h1,h2⟩|⟨h1,h2⟩
 ·exact .of_left (intBits_le_64 h1 h2)
 ·exact .of_right (intBits_le_64 h1 h2)
theorem Yk:OpR X (binaryOp .Add) (rI0 fun i j=>.int (i+j)):=zjp fun _ _ _ _ _ _ _ q=>add_int q
theorem Pq:OpR X (binaryOp .Sub) (rI0 fun i j=>.int (i-j)):=zjp fun _ _ _ _ _ _ _ q=>sub_int q
theorem Ug:OpR X (binaryOp .Mult) (rI CMul fun i j=>.int (i*j)):=opI fun _ _ _ _ _ _ _ hc q=>mul_int q hc.ok
theorem Y4:OpR X (binaryOp .FloorDiv) (rI CDiv fun i j=>.int (i/j)):=opI fun i j _ _ _ _ _ hc q=>by
 have h1:(0:Int)<j:=hc.1;have h2:j<1073741824:=hc.2;exact floordiv_int ⋯ (by rw[Int.fdiv_eq_ediv_of_nonneg i ⋯];exact q) (.inl (PyProof.noPylong_small ⋯))
theorem Yp:OpR X (binaryOp .Mod) (rI (fun _ j=>0<j) fun i j=>.int (i%j)):=opI fun i j _ _ _ _ _ hc q=>by
 have h1:(0:Int)<j:=hc;exact mod_int' ⋯ (by rw[Int.fmod_eq_emod_of_nonneg i ⋯];exact q)
theorem unI{f:Value->Sem Value}{g:Int->Int}
  (rule:∀ (i:Int) (t:Tok) (s:Shared) (Q:Value->Shared->Prop) (E:Value->Shared->Prop),Q (.int (g i) s.toks) { s with toks:=s.toks+1 }->wpAny (model X.prog X.w) X.A (f (.int i t)) Q E s) :
  UnR X f (rU fun i=>.int (g i)):=by
 intro pins s σ H x v Q I rx h;obtain⟨i,rfl,q⟩:=h;obtain⟨t,rfl⟩:=rx;exact rule i t s _ _ ⟨.int (g i),H,I.tok _,⟨_,rfl⟩,q⟩
theorem Sr:UnR X (unaryOp .USub) (rU fun i=>.int (-i)):=unI fun _ _ _ _ _ q=>neg_int q
end
def zfz:V->V->Bool
 | .non,.non=>true|.non,.int _=>true|.int _,.non=>true|.non,.bl _=>true|.bl _,.non=>true|.non,.str _=>true|.str _,.non=>true
 | .int _,.int _=>true|.bl _,.bl _=>true|.str _,.str _=>true|.byt _,.byt _=>true
 | .int _,.str _=>true|.str _,.int _=>true|.bl _,.str _=>true|.str _,.bl _=>true
 | _,_=>false
inductive rEq(x:V)(y:V)(H:Hp)(Q:VK):Prop where
 | mk(_:zfz x y=true)(_:Q (.bl (decide (x=y))) H)
inductive rNe(x:V)(y:V)(H:Hp)(Q:VK):Prop where
 | mk(_:zfz x y=true)(_:Q (.bl (!decide (x=y))) H)
theorem A9:decide (V.int i=V.int j)=(i == j):=by
 rw[zve];simp
theorem zdm:decide (V.bl i=V.bl j)=(i == j):=by
 rw[zve];simp
theorem zaa:decide (V.str i=V.str j)=(i == j):=by
 rw[zve];simp
theorem zab:decide (V.byt i=V.byt j)=(i.toList == j.toList):=by
 rw[zve];cases i;cases j;simp
section
variable{X:Cx}{a b c:Expr}{ta tb tc:TE}{pos:Pos}
theorem Yl(I:Inv X pins σ H s)(q:Q (.bl k) H)(e:k=k'):EP X pins σ Q (.bool k') s:=by
 subst e;exact⟨.bl k,H,I,rfl,q⟩
theorem Xn:OpR X (compareOp .Eq) rEq:=by
 intro pins s σ H x y v u Q I rx ry h;obtain⟨hs,q⟩:=h;cases x with
 | non =>
   cases rx;cases y with
   | non=>cases ry;exact PySem.EqNone.eq_none_none (Yl I q (by simp))
   | bl j=>cases ry;exact PySem.EqNone.eq_none_bool (Yl I q (by simp))
   | int j=>obtain⟨t',rfl⟩:=ry;exact PySem.EqNone.eq_none_int (Yl I q (by simp))
   | str j=>obtain⟨t',rfl⟩:=ry;exact PySem.EqNone.eq_none_str (Yl I q (by simp))
   | _=>exact absurd (show false=true from hs) ztu
 | bl i =>
   cases rx;cases y with
   | non=>cases ry;exact PySem.EqNone.eq_bool_none (Yl I q (by simp))
   | bl j=>cases ry;exact eq_bool (Yl I q zdm)
   | str j=>obtain⟨t',rfl⟩:=ry;exact PySem.EqMixed.eq_bool_str (Yl I q (by simp))
   | _=>exact absurd (show false=true from hs) ztu
 | int i =>
   obtain⟨t,rfl⟩:=rx;cases y with
   | non=>cases ry;exact PySem.EqNone.eq_int_none (Yl I q (by simp))
   | int j=>obtain⟨t',rfl⟩:=ry;exact eq_int (Yl I q A9)
   | str j=>obtain⟨t',rfl⟩:=ry;exact PySem.EqMixed.eq_int_str (Yl I q (by simp))
   | _=>exact absurd (show false=true from hs) ztu
 | str i =>
   obtain⟨t,rfl⟩:=rx;cases y with
   | non=>cases ry;exact PySem.EqNone.eq_str_none (Yl I q (by simp))
   | bl j=>cases ry;exact PySem.EqMixed.eq_str_bool (Yl I q (by simp))
   | int j=>obtain⟨t',rfl⟩:=ry;exact PySem.EqMixed.eq_str_int (Yl I q (by simp))
   | str j=>obtain⟨t',rfl⟩:=ry;exact eq_str (Yl I q zaa)
   | _=>exact absurd (show false=true from hs) ztu
 | byt i =>
   obtain⟨t,rfl⟩:=rx;cases y with
   | byt j=>obtain⟨t',rfl⟩:=ry;exact PySem.W.eq_bytes (Yl I q zab)
   | _=>exact absurd (show false=true from hs) ztu
 | _=>cases y<;>exact absurd (show false=true from hs) ztu
theorem zhc:OpR X (compareOp .NotEq) rNe:=by
 intro pins s σ H x y v u Q I rx ry h;obtain⟨hs,q⟩:=h;cases x with
 | non =>
   cases rx;cases y with
   | non=>cases ry;exact PySem.EqNone.ne_none_none (Yl I q (by simp))
   | bl j=>cases ry;exact PySem.EqNone.ne_none_bool (Yl I q (by simp))
   | int j=>obtain⟨t',rfl⟩:=ry;exact PySem.EqNone.ne_none_int (Yl I q (by simp))
   | str j=>obtain⟨t',rfl⟩:=ry;exact PySem.EqNone.ne_none_str (Yl I q (by simp))
   | _=>exact absurd (show false=true from hs) ztu
 | bl i =>
   cases rx;cases y with
   | non=>cases ry;exact PySem.EqNone.ne_bool_none (Yl I q (by simp))
   | bl j=>cases ry;exact ne_bool (Yl I q (congrArg not zdm))
   | str j=>obtain⟨t',rfl⟩:=ry;exact PySem.EqMixed.ne_bool_str (Yl I q (by simp))
   | _=>exact absurd (show false=true from hs) ztu
 | int i =>
   obtain⟨t,rfl⟩:=rx;cases y with
   | non=>cases ry;exact PySem.EqNone.ne_int_none (Yl I q (by simp))
   | int j=>obtain⟨t',rfl⟩:=ry;exact ne_int (Yl I q (congrArg not A9))
   | str j=>obtain⟨t',rfl⟩:=ry;exact PySem.EqMixed.ne_int_str (Yl I q (by simp))
   | _=>exact absurd (show false=true from hs) ztu
 | str i =>
   obtain⟨t,rfl⟩:=rx;cases y with
   | non=>cases ry;exact PySem.EqNone.ne_str_none (Yl I q (by simp))
   | bl j=>cases ry;exact PySem.EqMixed.ne_str_bool (Yl I q (by simp))
   | int j=>obtain⟨t',rfl⟩:=ry;exact PySem.EqMixed.ne_str_int (Yl I q (by simp))
   | str j=>obtain⟨t',rfl⟩:=ry;exact ne_str (Yl I q (congrArg not zaa))
   | _=>exact absurd (show false=true from hs) ztu
 | byt i =>
   obtain⟨t,rfl⟩:=rx;cases y with
   | byt j=>obtain⟨t',rfl⟩:=ry;exact PySem.W.ne_bytes (Yl I q (congrArg not zab))
   | _=>exact absurd (show false=true from hs) ztu
 | _=>cases y<;>exact absurd (show false=true from hs) ztu
theorem zac:OpR X (compareOp .Lt) (rI0 fun i j=>.bl (decide (i<j))):=zfy fun _ _ _ _ _ _ _ q=>lt_int q
theorem zhd:OpR X (compareOp .LtE) (rI0 fun i j=>.bl (decide (i<=j))):=zfy fun _ _ _ _ _ _ _ q=>le_int q
theorem Rk:OpR X (compareOp .Gt) (rI0 fun i j=>.bl (decide (j<i))):=zfy fun _ _ _ _ _ _ _ q=>gt_int q
theorem zhe:OpR X (compareOp .GtE) (rI0 fun i j=>.bl (decide (j<=i))):=zfy fun _ _ _ _ _ _ _ q=>ge_int q
theorem Nw:OpR X (compareOp .Is) (fun x y H Q=>y=.non/\Q (.bl (decide (x=.non))) H):=by
 intro pins s σ H x y v u Q I rx ry h;obtain⟨rfl,q⟩:=h;cases ry;refine is_none_gen (Yl I q ?_);cases x<;>first
  | (cases rx;rfl)
  | (obtain⟨t,rfl⟩:=rx;rfl)
theorem W9:OpR X (compareOp .IsNot) (fun x y H Q=>y=.non/\Q (.bl (!decide (x=.non))) H):=by
 intro pins s σ H x y v u Q I rx ry h;obtain⟨rfl,q⟩:=h;cases ry;refine isnot_none_gen (Yl I q ?_);cases x<;>first
  | (cases rx;rfl)
  | (obtain⟨t,rfl⟩:=rx;rfl)
theorem Zu(b:Expr)(h:op≠.In:=by decide)(h2:op≠.NotIn:=by decide):behindInMarks op b=false:=by
 have e1:(op == CmpOp.In)=false:=by cases op<;>first|rfl|exact absurd rfl h
 have e2:(op == CmpOp.NotIn)=false:=by cases op<;>first|rfl|exact absurd rfl h2
 cases b<;>simp[behindInMarks,e1,e2]
theorem Wo{op:CmpOp}{r:R2}(ho:OpR X (compareOp op) r)(ha:PE X a ta)(hb:PE X b tb)(hm:behindInMarks op b=false):PE X (.Compare a [op] [b] pos) (tOp r ta tb):=by
 intro pins s σ H Q I h;exact wpAny_Compare1 (binT ha hb I h fun v u s2 x y H2 I2 rx ry q=>ho pins s2 σ H2 x y v u Q I2 rx ry q) hm
def zhf(t:TE):TT:=fun σ H Q=>t σ H fun x H'=>∃ k,x=.bl k/\Q k H'
theorem Zn(ho:OpR X (compareOp op) r)(ha:PE X a ta)(hb:PE X b tb)(hm:behindInMarks op b=false):PT X (.Compare a [op] [b] pos) (zhf (tOp r ta tb)):=by
 intro pins s σ H Q I h;refine wpAny_isTrue_Compare1 (thn (ha pins s σ H _ I h) fun v s1 ⟨x,H1,I1,r1,q1⟩=>thn (hb pins s1 σ H1 _ I1 q1) fun u s2 ⟨y,H2,I2,r2,q2⟩ =>
  thn (ho pins s2 σ H2 x y v u _ I2 r1 r2 q2) fun c s3 ⟨z,H3,I3,r3,k,e,q3⟩=>?_) hm
 subst e;cases r3;exact wpAny_truthy_bool ⟨H3,I3,q3⟩
def TruV(K:Frag)(x:V)(H:Hp)(k:Bool):Prop :=
 match x with
 | .non=>k=false
 | .bl b=>k=b
 | .int i=>k=(i != 0)
 | .str y=>y.length<=sizeLine/\k=((y.length:Int) != 0)
 | .byt y=>y.size<=sizeLine/\k=((y.size:Int) != 0)
 | .ref p=>(∃ xs,SqL K H p xs/\k=!xs.isEmpty)\/(∃ xs,SqT K H p xs/\k=!xs.isEmpty)\/∃ kvs,H p=some (.dK kvs)/\k=!kvs.isEmpty
 | _=>False
theorem Br(r:KV kvs vs):(!vs.isEmpty)=!kvs.isEmpty:=by
 cases r<;>rfl
theorem Ku(r:Vals xs its):(!its.toArray.isEmpty)=!xs.isEmpty:=by
 cases r<;>simp
theorem Pr:(sizeLine:Nat)<2 ^ 63:=by rw[sizeLine_eq];decide
theorem zh4:zkt X (fun x H Q=>∃ k,TruV X.K x H k/\Q k H):=by
 intro pins s σ H x v Q I rx h;obtain⟨k,e,q⟩:=h;have hl:=Pr;have hs:sizeLine=16777216:=sizeLine_eq;cases x with
 | non =>
   cases rx;have e':k=false:=e;subst e';exact truthy_none ⟨H,I,q⟩
 | bl b =>
   cases rx;have e':k=b:=e;subst e';exact wpAny_truthy_bool ⟨H,I,q⟩
 | int i =>
   obtain⟨t,rfl⟩:=rx;have e':k=(i != 0):=e;subst e';exact PySem.P.truthy_int ⟨H,I,q⟩
 | str y =>
   obtain⟨t,rfl⟩:=rx;obtain⟨hy,e'⟩:y.length<=sizeLine/\k=((y.length:Int) != 0):=e;subst e';exact PySem.P.truthy_str ⋯ ⟨H,I.tok _,q⟩
 | byt y =>
   obtain⟨t,rfl⟩:=rx;obtain⟨hy,e'⟩:y.size<=sizeLine/\k=((y.size:Int) != 0):=e;subst e';exact PySem.W.truthy_bytes ⋯ ⟨H,I.tok _,q⟩
 | ref p =>
   cases rx;have e':(∃ xs,SqL X.K H p xs/\k=!xs.isEmpty)\/(∃ xs,SqT X.K H p xs/\k=!xs.isEmpty)\/∃ kvs,H p=some (.dK kvs)/\k=!kvs.isEmpty:=e;rcases e' with ⟨xs,hx,e'⟩|⟨xs,hx,e'⟩|⟨kvs,hx,e'⟩
   ·subst e';obtain⟨its,r,pl,hz⟩:=I.list hx;have hlen:=r.length;exact wpAny_truthy_list pl.isList (by simp only[ztp];omega) ⟨H,I.tok _,by rw[Ku r];exact q⟩
   ·subst e';obtain⟨its,r,pl,hz⟩:=I.tuple hx;have hlen:=r.length;exact truthy_tuple pl (by simp only[ztp];omega) ⟨H,I.tok _,by rw[Ku r];exact q⟩
   ·subst e';obtain⟨hz,hS,vs,r,m⟩:kvs.length<=sizeLine/\(p == sysModules)=false/\∃ vs,KV kvs vs/\s.heap.DictOf (Yi X.prog X.w) p vs:=I.hok p _ hx;have hlen:kvs.length=vs.length:=Paired.length r;exact wpAny_truthy_dict hS m ⋯ ⟨H,I.tok _,by rw[Br r];exact q⟩
 | _=>exact(show False from e).elim
theorem zdn(ha:PE X a ta)(he:∀ whole,isTrue a X.env whole=(do let v <- whole;standAt a.pos;holding [v] (truthy v))) :
  PT X a (fun σ H Q=>ta σ H fun x H'=>∃ k,TruV X.K x H' k/\Q k H'):=by
 intro pins s σ H Q I h;exact isTrue_plain (thn (ha pins s σ H _ I h) fun v s1 ⟨x,H1,I1,r1,q1⟩=>zh4 pins s1 σ H1 x v Q I1 r1 q1) (he _)
theorem Sa(r:Vals [x] us):∃ u,us=[u]/\RelV x u:=by
 cases r with
 | cons r1 r2=>cases r2;exact⟨_,rfl,r1⟩
theorem zdo(r:Vals [x,y] us):∃ u w',us=[u,w']/\RelV x u/\RelV y w':=by
 cases r with
 | cons r1 r2 =>
   cases r2 with
   | cons r3 r4=>cases r4;exact⟨_,_,rfl,r1,r3⟩
theorem Qu(hc:X.calm=true):W8 X (.builtin "max") (fun xs H Q=>∃ i j,xs=[.int i,.int j]/\Q (.int (if j>i then j else i)) H):=by
 intro pins s σ H xs us Q I r h;obtain⟨i,j,rfl,q⟩:=h;obtain⟨u,w',rfl,⟨t,rfl⟩,⟨t',rfl⟩⟩:=zdo r;refine max_two_ints (I.ok.hd hc) fun h' tk k=>⟨_,H,I.kept k,?_,q⟩
 by_cases hj:j>i
 ·rw[if_pos hj,if_pos hj];exact⟨_,rfl⟩
 ·rw[if_neg hj,if_neg hj];exact⟨_,rfl⟩
theorem Gm(hc:X.calm=true):W8 X (.builtin "min") (fun xs H Q=>∃ i j,xs=[.int i,.int j]/\Q (.int (if j<i then j else i)) H):=by
 intro pins s σ H xs us Q I r h;obtain⟨i,j,rfl,q⟩:=h;obtain⟨u,w',rfl,⟨t,rfl⟩,⟨t',rfl⟩⟩:=zdo r;refine min_two_ints (I.ok.hd hc) fun h' tk k=>⟨_,H,I.kept k,?_,q⟩
 by_cases hj:j<i
 ·rw[if_pos hj,if_pos hj];exact⟨_,rfl⟩
 ·rw[if_neg hj,if_neg hj];exact⟨_,rfl⟩
theorem Sb:W8 X (.type "int") (fun xs H Q=>(∃ i,xs=[.int i]/\Q (.int i) H)\/∃ k,xs=[.bl k]/\Q (.int (if k then 1 else 0)) H):=by
 intro pins s σ H xs us Q I r h;rcases h with ⟨i,rfl,q⟩|⟨k,rfl,q⟩
 ·obtain⟨u,rfl,t,rfl⟩:=Sa r;exact call_int_int ⟨.int i,H,I,⟨_,rfl⟩,q⟩
 ·obtain⟨u,rfl,r1⟩:=Sa r;cases r1;exact call_int_bool ⟨.int (if k then 1 else 0),H,I.tok _,⟨_,rfl⟩,q⟩
end
structure ObjM(h:Heap)(x dx C:Addr)(mA:Str->Option Value):Prop where
 obj:h.get? x=some (PySem.W.instObj C dx)
 ns:h.Ns1 dx mA
 ne:dx≠x
theorem zbs{h:Heap}{dx:Addr}{mA:Str->Option Value}(n:h.Ns1 dx mA):∃ od,h.get? dx=some od/\∀ name,PySem.W.lookIn name od=some (mA name):=by
 obtain⟨o,es,ep,ho,hd,hk,_,hm⟩:=n;refine⟨o,ho,fun name=>?_⟩;have e:=hm name;unfold nsFind findBy at e;rw[<- Array.find?_toList] at e;unfold PySem.W.lookIn;rw[hd];dsimp only;split
 ·rename_i y q;rw[q] at e;exact congrArg some e
 ·rename_i q;rw[q] at e;have a:es.toList.any (·.refKey)=false:=by
   rw[List.any_eq_false];intro y hy;obtain⟨z,t,hkey⟩:=hk y (Array.mem_toList_iff.mp hy);simp[DictEntry.refKey,hkey]
  have a':¬ es.toList.any (·.refKey)=true:=by rw[a];exact ztu
  rw[if_neg a'];exact congrArg some e
theorem ObjM.look(I:ObjM h x dx C mA):∃ od,PySem.W.InstAt h x (PySem.W.instObj C dx) C (some od)/\∀ name,PySem.W.lookIn name od=some (mA name) :=
 let ⟨od,ho,hl⟩:=zbs I.ns
 ⟨od,⟨I.obj,rfl,rfl,ho⟩,hl⟩
section
variable{prog:Program}{w:World}{A:Around}{E:Value->Shared->Prop}{s:Shared}{K:Frag}{x dx C f:Addr}{mA:Str->Option Value}{name:Str}{v:Value}
theorem zf0(X:K.In s.heap)(I:ObjM s.heap x dx C mA)(hg:PySem.W.plainGet K C name=true)(hh:PySem.W.hasDictIn K C=true)
  (ha:PySem.W.findIn K (.ref C) name=some none) (hv:mA name=some v) (hv':PySem.W.handedIn v=true) (h:Q v { s with toks:=s.toks+1 }) :
  wpAny (model prog w) A (getAttr (.ref x) name expr) Q E s:=by
 obtain⟨od,J,hl⟩:=I.look;exact PySem.W.get_value X J (PySem.W.plainGet_of hg).1 (PySem.W.findObj_own hh ha rfl (by rw[hl,hv])) hv' h
theorem zdp(X:K.In s.heap)(I:ObjM s.heap x dx C mA)(hg:PySem.W.plainGet K C name=true)
  (hf:PySem.W.findIn K (.ref C) name=some (some (.ref f))) (ht:PySem.W.isFn K (.ref f)=true) (hv:mA name=none) (h:Q (.ref f,[.ref x]) s) :
  wpAny (model prog w) A (getMethod (.ref x) name pl) Q E s:=by
 obtain⟨od,J,hl⟩:=I.look;exact PySem.W.method_fn X J (PySem.W.plainGet_of hg).1 (PySem.W.plainGet_of hg).2 hf (beq_iff_eq.mp ht) (by show (PySem.W.lookIn name od).map (·.isSome)=some false;rw[hl,hv];rfl) h
theorem zf1(X:K.In s.heap)(I:ObjM s.heap x dx C mA)
  (hs:PySem.W.findIn K (.ref C) "__setattr__"=some (some (.builtin "object.__setattr__"))) (hp:PySem.W.plainOver K C=true) (ht:PySem.W.takerIn K C name=some none) (hh:PySem.W.hasDictIn K C=true)
  (hw:PySem.Within mA ns) (hsz:ns.length<=sizeLine)
  (h:∀ h',ObjM h' x dx C (fun y=>if y=name then some v else mA y)->Heap.SameBut dx s.heap h'->Q () { s with heap:=h',toks:=s.toks+2 }) :
  wpAny (model prog w) A (setAttr (.ref x) name v) Q E s:=by
 obtain⟨od,J,hl⟩:=I.look;refine PySem.W.set_plain X J hs (PySem.W.osa_open (s:={ s with toks:=s.toks+1 }) (r:=none) X J hp ht fun b=>?_);obtain⟨cd,hc,hd'⟩:=PySem.W.any_some hh;have hx:s.heap.get? x=some ⟨.ref C,some dx,.plain,#[]⟩:=I.obj;refine wpAny_bind (wpAny_pure (wpAny_bind (wpAny_bind (wpAny_loadPart hx (wpAny_bind (PySem.W.Looks.here (s:={ s with toks:=s.toks+1 }) (PySem.W.looks_clsIn X hc) ?_))))));rw[hd'];refine wpAny_pure (a:=some dx) (wpAny_bind (wpAny_pure (wpAny_bind ?_)));refine wpAny_nsSet1 (s:={ s with toks:=s.toks+1 }) I.ns fun h' hn2 hs2=>?_;obtain⟨oD,esD,epD,hoD,hdD,hcD⟩:=hn2.count (PySem.Within.cons name v hw);refine wpAny_bind (wpAny_lookBehind hoD (by rw[hdD];exact pastItsLine_dict (zts hcD (by rw[ztt];omega))) ?_);exact wpAny_pure (h _ ⟨(hs2.2 _ (Ne.symm I.ne)).trans I.obj,hn2,I.ne⟩ hs2)
theorem zdq(X:K.In s.heap)(hm:PySem.W.makesIn K C=true)
  (hi:PySem.W.findIn K (.ref C) "__init__"=some (some (.ref f))) (hf:PySem.W.typeIn K (.ref f)=some (.type "function"))
  (h:codeAny (model prog w) (A.under (.builtin "type.__call__" ⟨.ref C :: vs,kw⟩)) (.call (.ref f) ⟨.ref (s.heap.objs.size+1) :: vs,kw⟩) (PySem.W.InitBack (s.heap.objs.size+1) R)
   { s with heap:=(s.heap.push PySem.W.emptyDict).push (PySem.W.instObj C s.heap.objs.size) }) :
  codeAny (model prog w) A (.call (.ref C) ⟨vs,kw⟩) R s:=by
 obtain⟨hh,g,d,t,os⟩:=s;exact PySem.W.make_core (PySem.W.makes_of X hm) (PySem.W.looks_findIn X hi) (fun self=>PySem.W.bind_fn X self hf) (.inl rfl) h
end
def putF(f:Str)(v:V):List (Str×V)->List (Str×V)
 | []=>[(f,v)]
 | (g,x) :: r=>if g=f then (g,v) :: r else (g,x) :: putF f v r
theorem M3(f g:Str)(v:V):∀ fs:List (Str×V),(putF f v fs).lookup g=if g=f then some v else fs.lookup g
 | []=>by
   show List.lookup g [(f,v)]=_;by_cases h:g=f
   ·have hb:(g == f)=true:=beq_iff_eq.mpr h;simp only[List.lookup,hb,if_pos h]
   ·have hb:(g == f)=false:=zt0.mpr h;simp only[List.lookup,hb,if_neg h]
 | (k,x) :: r=>by
   have ih:=M3 f g v r;rw[show putF f v ((k,x) :: r)=(if k=f then (k,v) :: r else (k,x) :: putF f v r) from rfl];by_cases hk:k=f
   ·rw[if_pos hk];by_cases h:g=k
    ·have hb:(g == k)=true:=beq_iff_eq.mpr h;simp only[List.lookup,hb,if_pos (h.trans hk)]
    ·have hb:(g == k)=false:=zt0.mpr h;simp only[List.lookup,hb,if_neg (fun e:g=f=>h (e.trans hk.symm))]
   ·rw[if_neg hk];by_cases h:g=k
    ·have hb:(g == k)=true:=beq_iff_eq.mpr h;simp only[List.lookup,hb,if_neg (fun e:g=f=>hk (h.symm.trans e))]
    ·have hb:(g == k)=false:=zt0.mpr h;simp only[List.lookup,hb];exact ih
theorem Ny(f:Str)(v:V):∀ fs:List (Str×V),f∈(putF f v fs).map (·.1)/\∀ g,g∈fs.map (·.1)->g∈(putF f v fs).map (·.1)
 | []=>⟨by simp[putF],fun g h=>by simp at h⟩
 | (k,x) :: r=>by
   obtain⟨i1,i2⟩:=Ny f v r;rw[show putF f v ((k,x) :: r)=(if k=f then (k,v) :: r else (k,x) :: putF f v r) from rfl];by_cases hk:k=f
   ·rw[if_pos hk];subst hk;exact⟨by simp,fun g h=>by simpa using h⟩
   ·rw[if_neg hk];refine⟨?_,fun g h=>?_⟩
    ·rw[zto];exact ztr _ i1
    ·rw[zto] at h ⊢;rcases ztg.mp h with e|e
     ·exact ztg.mpr (.inl e)
     ·exact ztr _ (i2 g e)
theorem M4(f:Str)(v:V):∀ fs:List (Str×V),(putF f v fs).length<=fs.length+1
 | []=>by simp[putF]
 | (k,x) :: r=>by
   have ih:=M4 f v r;rw[show putF f v ((k,x) :: r)=(if k=f then (k,v) :: r else (k,x) :: putF f v r) from rfl];by_cases hk:k=f
   ·rw[if_pos hk,ztt,ztt];omega
   ·rw[if_neg hk,ztt,ztt];omega
theorem RelO.some_of(r:RelO (some v) o):∃ u,o=some u/\RelV v u:=by
 cases o with
 | none=>exact(show False from r).elim
 | some u=>exact⟨u,rfl,r⟩
theorem RelO.none_of(r:RelO none o):o=none:=by
 cases o with
 | none=>rfl
 | some u=>exact(show False from r).elim
theorem zbt(r:RelV v u):PySem.W.handedIn u=true:=by
 cases v with
 | non=>cases (show u=Value.none from r);rfl
 | bl b=>cases (show u=Value.bool b from r);rfl
 | int i=>obtain⟨t,e⟩:=(show ∃ t,u=Value.int i t from r);cases e;rfl
 | str x=>obtain⟨t,e⟩:=(show ∃ t,u=Value.str x t from r);cases e;rfl
 | byt b=>obtain⟨t,e⟩:=(show ∃ t,u=Value.bytes b t from r);cases e;rfl
 | flt b=>obtain⟨t,e⟩:=(show ∃ t,u=Value.float b t from r);cases e;rfl
 | ref a=>cases (show u=Value.ref a from r);rfl
 | ty n=>cases (show u=Value.type n from r);rfl
section
variable{P:Program}{w:World}{H H':Hp}{h h':Heap}{a C dx:Addr}{fs fs':List (Str×V)}
theorem Ko(hok:HOk P w H h)(e:H a=some (.ins C dx fs)):∃ mA,ObjM h a dx C mA/\(∀ f,RelO (fs.lookup f) (mA f))/\PySem.Within mA (fs.map (·.1))/\fs.length<=1000/\H dx=some (.own a):=by
 obtain⟨d,z,ne,ob,mA,n,r,q⟩:=(show Y3 P w H h a (.ins C dx fs) from hok a _ e);exact⟨mA,⟨ob,n,ne⟩,r,q,z,d⟩
end
structure Cls(K:Frag)(C:Addr):Prop where
 pg:PySem.W.plainGet K C Str.empty=true
 hd:PySem.W.hasDictIn K C=true
 po:PySem.W.plainOver K C=true
 sa:PySem.W.findIn K (.ref C) "__setattr__"=some (some (.builtin "object.__setattr__"))
theorem Cls.get{K:Frag}{C:Addr}(c:Cls K C)(f:Str):PySem.W.plainGet K C f=true:=c.pg
def Xp(K:Frag)(C:Addr)(f:Str):Prop:=PySem.W.findIn K (.ref C) f=some none
theorem Xp.taker{K:Frag}{C:Addr}{f:Str}(n:Xp K C f):PySem.W.takerIn K C f=some none:=by
 unfold PySem.W.takerIn;rw[show PySem.W.findIn K (.ref C) f=some none from n];rfl
structure Con(K:Frag)(C:Addr)(f:Str)(v:V)(u:Value):Prop where
 at_:PySem.W.findIn K (.ref C) f=some (some u)
 rel:RelV v u
 get:PySem.W.specialIn K u "__get__"=some none
 cp:PySem.W.copiedNames.contains f=false
structure zdr(K:Frag)(C:Addr)(m:Str)(f:Addr):Prop where
 at_:PySem.W.findIn K (.ref C) m=some (some (.ref f))
 fn:PySem.W.isFn K (.ref f)=true
 kp:PySem.W.keepIn K (.ref f)=true
section
variable{X:Cx}{pins:List (Addr×Obj)}{σ:St}{H:Hp}{s:Shared}{a C dx:Addr}{fs:List (Str×V)}{f:Str}{v:V}{A:Around}{E:Value->Shared->Prop}
theorem Bs(I:Inv X pins σ H s)(e:H a=some (.ins C dx fs))(c:Cls X.K C)(n:Xp X.K C f)(l:fs.lookup f=some v)
  (h:∀ u s',Inv X pins σ H s'->RelV v u->Q u s'):wpAny (model X.prog X.w) A (getAttr (.ref a) f b) Q E s:=by
 obtain⟨mA,O,r,_,_,_⟩:=Ko I.hok e;obtain⟨u,hu,ru⟩:=RelO.some_of (v:=v) (o:=mA f) (by rw[<- l];exact r f);exact zf0 I.kIn O (c.get f) c.hd n hu (zbt ru) (h u _ (I.tok _) ru)
theorem Kv(I:Inv X pins σ H s)(e:H a=some (.ins C dx fs))(c:Cls X.K C)(k:zdr X.K C m g)(l:fs.lookup m=none)
  (h:Q (.ref g,[.ref a]) s):wpAny (model X.prog X.w) A (getMethod (.ref a) m pl) Q E s:=by
 obtain⟨mA,O,r,_,_,_⟩:=Ko I.hok e;have hn:mA m=none:=RelO.none_of (by rw[<- l];exact r m);exact zdp I.kIn O (c.get m) k.at_ k.fn hn h
theorem Bt(I:Inv X pins σ H s)(e:H a=some (.ins C dx fs))(c:Cls X.K C)(n:Xp X.K C f)(hl:fs.length<1000)(ry:RelV y u)
  (h:∀ s',Inv X pins σ (upd H a (.ins C dx (putF f y fs))) s'->Q () s'):wpAny (model X.prog X.w) A (setAttr (.ref a) f u) Q E s:=by
 obtain⟨mA,O,r,wi,_,ho⟩:=Ko I.hok e;have hz:(fs.map (·.1)).length<=sizeLine:=by rw[zta,sizeLine_eq];omega
 refine zf1 I.kIn O c.sa c.po n.taker c.hd wi hz fun h' O' sb=>h _ ?_;have hd:∃ o,h'.get? dx=some o:=let ⟨o,_,_,e',_⟩:=O'.ns;⟨o,e'⟩;refine I.write (x:=a) (e:=dx) (by rw[e];exact True.intro) (.inr ho) (fun b q hb z=>(sb.2 b hb).trans z) hd ?_;refine⟨by rw[Zi O.ne];exact ho,?_,O.ne,O'.obj,_,O'.ns,fun g=>?_,fun g hg=>?_⟩
 ·have:=M4 f y fs;omega
 ·show RelO ((putF f y fs).lookup g) (if g=f then some u else mA g);rw[M3];by_cases q:g=f
  ·rw[if_pos q,if_pos q];exact ry
  ·rw[if_neg q,if_neg q];exact r g
 ·by_cases q:g=f
  ·rw[q];exact(Ny f y fs).1
  ·refine(Ny f y fs).2 g (wi g fun z=>hg ?_);show (if g=f then some u else mA g)=none;rw[if_neg q];exact z
theorem Inv.made(I:Inv X pins σ H s):Inv X pins σ (upd (upd H s.heap.objs.size (.own (s.heap.objs.size+1))) (s.heap.objs.size+1) (.ins C s.heap.objs.size []))
  { s with heap:=(s.heap.push PySem.W.emptyDict).push (PySem.W.instObj C s.heap.objs.size) }:=by
 have e1:(s.heap.push PySem.W.emptyDict).get? s.heap.objs.size=some PySem.W.emptyDict:=Heap.get?_push_size s.heap rfl;have e2:((s.heap.push PySem.W.emptyDict).push (PySem.W.instObj C s.heap.objs.size)).get? (s.heap.objs.size+1)=some (PySem.W.instObj C s.heap.objs.size):=by
  have:=Heap.get?_push_size (s.heap.push PySem.W.emptyDict) (o:=PySem.W.instObj C s.heap.objs.size) rfl
  rwa [Heap.size_push] at this
 have e3:(s.heap.push PySem.W.emptyDict).Ns s.heap.objs.size (fun _=>none):=⟨PySem.W.emptyDict,#[],_,e1,rfl,(fun e he=>absurd he (by simp)),fun _=>rfl⟩;have I1:=I.laid (a:=s.heap.objs.size) (o:=.own (s.heap.objs.size+1)) (h':=s.heap.push PySem.W.emptyDict) (t':=s.toks) (fun b u q=>Heap.get?_push_of_some _ q) (ztm _) ⟨_,e1⟩;refine I1.laid (a:=s.heap.objs.size+1) (o:=.ins C s.heap.objs.size []) (t':=s.toks) (fun b u q=>Heap.get?_push_of_some _ q) (Nat.le_of_eq (Heap.size_push _ _)) ?_;have ne:s.heap.objs.size≠s.heap.objs.size+1:=zt2 (zvn _);refine⟨by rw[Zi ne,Zc],zt4 _,ne,e2,fun _=>none,(Heap.Ns1.of_empty e3).at fun o q=>Heap.get?_push_of_some _ q,fun _=>True.intro,fun y hy=>absurd rfl hy⟩
theorem zf2(hb:attributeBase e f env (eval e env)=eval e env)
  (h:wpAny (model prog w) A (eval e env) (fun o s₁=>wpAny (model prog w) A (getAttr o f true) Q E s₁) E s):wpAny (model prog w) A (eval (.Attribute e f pos) env) Q E s :=
 Attribute_any_ h (by rw[arm_eval_Attribute,hb])
end
inductive zjq(K:Frag)(f:Str)(Q:VK)(x:V)(H1:Hp):Prop where
 | mk(a)(C)(dx)(fs)(v)(_:x=.ref a)(_:H1 a=some (.ins C dx fs))(_:Cls K C)(_:Xp K C f)(_:fs.lookup f=some v)(_:Q v H1)
def zjr(K:Frag)(ta:TE)(f:Str):TE:=fun σ H Q=>ta σ H fun x H1=>zjq K f Q x H1
inductive zjs(K:Frag)(f:Str)(D:Oz)(σ:L2.St)(y:V)(x:V)(H2:Hp):Prop where
 | mk(a)(C)(dx)(fs)(_:x=.ref a)(_:H2 a=some (.ins C dx fs))(_:Cls K C)(_:Xp K C f)(_:fs.length<1000)(_:D.nx σ (upd H2 a (.ins C dx (putF f y fs))))
def zjt(K:Frag)(ta tv:TE)(f:Str):TS:=fun D σ H=>tv σ H fun y H1=>ta σ H1 fun x H2=>zjs K f D σ y x H2
section
variable{X:Cx}{o e value:Expr}{f:Str}{pos pos' tpos:Pos}{ta tv:TE}
theorem zh5(he:PE X e ta)(hb:attributeBase e f X.env (eval e X.env)=eval e X.env):PE X (.Attribute e f pos) (zjr X.K ta f):=by
 intro pins s σ H Q I h;refine zf2 hb (thn (he pins s σ H _ I h) fun u s1 ⟨x,H1,I1,rx,a,C,dx,fs,v,ex,ea,c,n,l,q⟩=>?_);subst ex;obtain rfl:u=Value.ref a:=rx;exact Bs I1 ea c n l fun u' s2 I2 ru=>⟨v,H1,I2,ru,q⟩
theorem zh6(ha:PE X o ta)(hv:PE X value tv)(hs:swapsWith value (some (.Attribute o f pos')) pos.line X.env=pure false):PS X (.Assign [.Attribute o f pos'] value pos) (zjt X.K ta tv f):=by
 intro pins s σ H D I h;refine plainObj_wpAny_Assign_Attribute (thn (hv pins s σ H _ I h) fun u s1 ⟨y,H1,I1,ry,q⟩=>thn (ha pins s1 σ H1 _ I1 q) fun ov s2 ⟨x,H2,I2,rx,a,C,dx,fs,ex,ea,c,n,l,q2⟩=>?_) hs;subst ex;obtain rfl:ov=Value.ref a:=rx;exact Bt I2 ea c n l ry fun s3 I3=>⟨σ,_,I3,q2⟩
end
section
variable{X:Cx}{pins:List (Addr×Obj)}{σ:St}{H:Hp}{s:Shared}{A:Around}{E:Value->Shared->Prop}{Q:Value->Shared->Prop}{c:Value}{b:Bool}
inductive Nz(K:Frag)(H:Hp):V->Value->Prop where
 | non:Nz K H .non (.type "NoneType")
 | bl (x:Bool):Nz K H (.bl x) (.type "bool")
 | int (i:Int):Nz K H (.int i) (.type "int")
 | str (x:Str):Nz K H (.str x) (.type "str")
 | flt (x:UInt64):Nz K H (.flt x) (.type "float")
 | lst {a:Addr} {xs:List V} (e:H a=some (.lst xs)):Nz K H (.ref a) (.type "list")
 | frz {a:Addr} {o:Obj} {xs:List V} (e:H a=some (.frz o (.lst xs))):Nz K H (.ref a) (.type "list")
 | tup {a:Addr} {xs:List V} (e:H a=some (.tup xs)):Nz K H (.ref a) (.type "tuple")
 | dK {a:Addr} {kvs:List (Key×V)} (e:H a=some (.dK kvs)):Nz K H (.ref a) (.type "dict")
 | dT {a:Addr} {kvs:List (List Key×V)} (e:H a=some (.dT kvs)):Nz K H (.ref a) (.type "dict")
 | ins {a C dx:Addr} {fs:List (Str×V)} (e:H a=some (.ins C dx fs)) (cl:Cls K C) (ha:PySem.W.findIn K (.ref C) "__class__"=some (some (.builtin "object.__class__")))
   (hn:PySem.W.specialIn K (.builtin "object.__class__") "__get__"=some (some (.builtin "getset_descriptor.__get__"))) (htk:PySem.W.takesIn K (.builtin "object.__class__")=some true)
   (hm:PySem.W.mroIn K C (.type "object")=some true):Nz K H (.ref a) (.ref C)
theorem zbu(I:Inv X pins σ H s)(rx:RelV x u)(ty:Nz X.K H x t)(e:PySem.W.kitOne X.K t c=some b)(h:∀ tk,Q (.bool b) { s with toks:=tk }) :
  wpAny (model X.prog X.w) A (call (.builtin "isinstance") [u,c]) Q E s:=by
 cases ty with
 | non=>cases (show u=Value.none from rx);exact PySem.W.kia_one PySem.W.kitx_none I.kIn True.intro e (fun z=>nomatch z) h
 | bl y=>cases (show u=Value.bool y from rx);exact PySem.W.kia_one PySem.W.kitx_bool I.kIn True.intro e (fun z=>nomatch z) h
 | int i=>obtain⟨t,q⟩:=(show ∃ t,u=Value.int i t from rx);cases q;exact PySem.W.kia_one PySem.W.kitx_int I.kIn True.intro e (fun z=>nomatch z) h
 | str y=>obtain⟨t,q⟩:=(show ∃ t,u=Value.str y t from rx);cases q;exact PySem.W.kia_one PySem.W.kitx_str I.kIn True.intro e (fun z=>nomatch z) h
 | flt y=>obtain⟨t,q⟩:=(show ∃ t,u=Value.float y t from rx);cases q;exact PySem.W.kia_one PySem.W.kitx_float I.kIn True.intro e (fun z=>nomatch z) h
 | @lst a xs ea =>
   cases (show u=Value.ref a from rx);obtain⟨_,_,n,_,h1⟩:=(show Y3 X.prog X.w H s.heap a (.lst xs) from I.hok a _ ea);exact PySem.W.kia_one PySem.W.kitx_list I.kIn ⟨_,h1,rfl⟩ e (fun z=>nomatch z) h
 | @frz a ob xs ea =>
   cases (show u=Value.ref a from rx);obtain⟨_,_,_,n,_,h1⟩:=(show Y3 X.prog X.w H s.heap a (.frz ob (.lst xs)) from I.hok a _ ea);exact PySem.W.kia_one PySem.W.kitx_list I.kIn ⟨_,h1,rfl⟩ e (fun z=>nomatch z) h
 | @tup a xs ea =>
   cases (show u=Value.ref a from rx);obtain⟨_,_,_,p⟩:=(show Y3 X.prog X.w H s.heap a (.tup xs) from I.hok a _ ea);obtain⟨o,h1,h2,_⟩:=p;exact PySem.W.kia_one PySem.W.kitx_tuple I.kIn ⟨o,h1,h2⟩ e (fun z=>nomatch z) h
 | @dK a kvs ea =>
   cases (show u=Value.ref a from rx);obtain⟨_,_,vs,_,p⟩:=(show Y3 X.prog X.w H s.heap a (.dK kvs) from I.hok a _ ea);obtain⟨o,es,ep,h1,h2,_⟩:=p;exact PySem.W.kia_one PySem.W.kitx_dict I.kIn ⟨o,h1,h2.1⟩ e (fun z=>nomatch z) h
 | @dT a kvs ea =>
   cases (show u=Value.ref a from rx);obtain⟨_,_,xs,_,o,es,ep,h1,h2,_⟩:=(show Y3 X.prog X.w H s.heap a (.dT kvs) from I.hok a _ ea);exact PySem.W.kia_one PySem.W.kitx_dict I.kIn ⟨o,h1,h2.1⟩ e (fun z=>nomatch z) h
 | @ins a C dx fs ea cl ha hn htk hm =>
   cases (show u=Value.ref a from rx);obtain⟨mA,O,_⟩:=Ko I.hok ea;obtain⟨od,J,_⟩:=O.look;exact PySem.W.kia_one (PySem.W.kitx_own (cl.get _) cl.hd ha hn htk hm) I.kIn J e (fun z=>nomatch z) h
end
structure Wv(k:Nat)(A:Around):Prop where
 hd:A.handled=none
 dp:A.depth+3*k+5<recursionLimit
 un:A.units+16*k+200<cLine
theorem Wv.mono(r:Wv k A)(h:j<=k):Wv j A:=⟨r.hd,by have:=r.dp;omega,by have:=r.un;omega⟩
theorem Wv.deeper(r:Wv (k+1) A)(env:Env):Wv k (A.deeper env) :=
 ⟨r.hd,by have:=r.dp;show A.depth+1+3*k+5<_;omega,by have:=r.un;show A.units+3+16*k+200<_;omega⟩
theorem Bu{A:Around}{C:Addr}{us:List Value}{kw:List (Str×Value)}:(A.under (.builtin "type.__call__" ⟨.ref C :: us,kw⟩)).depth=A.depth+1:=by
 first|rfl|simp[Around.under,Code.weight,Code.isCreation,Code.isGuard,Code.isCaller,Code.frames,Code.isFrame,guardIds]
theorem Bv{A:Around}{C:Addr}{us:List Value}{kw:List (Str×Value)}:(A.under (.builtin "type.__call__" ⟨.ref C :: us,kw⟩)).units=A.units+1:=by
 first|rfl|simp[Around.under,Code.cUnits,Code.frames,Code.isFrame]
theorem Wv.make(r:Wv (k+1) A)(C:Addr)(us:List Value)(kw:List (Str×Value)):Wv k (A.under (.builtin "type.__call__" ⟨.ref C :: us,kw⟩)) :=
 ⟨r.hd,by have:=r.dp;rw[Bu];omega,by have:=r.un;rw[Bv];omega⟩
theorem Wv.depth(r:Wv k A):A.depth<recursionLimit:=by have:=r.dp;omega
theorem Wv.units(r:Wv k A):A.units+64<cLine:=by have:=r.un;omega
def Bw:TA:=fun _ H Q=>Q [] H
def zhg(ta:TE)(tr:TA):TA:=fun σ H Q=>ta σ H fun x H1=>tr σ H1 fun xs H2=>Q (x :: xs) H2
section
variable{X:Cx}{e:Expr}{es:List Expr}{te:TE}{t:TA}{pos:Pos}
theorem Zd:PA X [] Bw:=fun _ _ _ _ H Q I h=>Calls.spliced_nil ⟨[],H,I,.nil,h⟩
theorem Za(ha:PE X e te)(hr:PA X es t)(hs:starEach (e :: es) X.env=(false,eval e X.env) :: starEach es X.env:=by rfl):PA X (e :: es) (zhg te t):=by
 intro pos pins s σ H Q I h;rw[hs];show wpAny _ _ (spliced ((false,eval e X.env) :: backTo pos (starEach es X.env))) _ _ s;refine Calls.spliced_cons (thn (ha pins s σ H _ I h) fun u s1 ⟨x,H1,I1,r1,q1⟩=>?_);exact thn (hr pos pins s1 σ H1 _ I1 q1) fun us s2 ⟨xs,H2,I2,r2,q2⟩=>⟨x :: xs,H2,I2,.cons r1 r2,q2⟩
inductive zju(Q:VK)(xs:List V)(H1:Hp):Prop where
 | mk(_:xs.length<=sizeLine)(_:∀ p,H1 p=none->Q (.ref p) (upd H1 p (.tup xs)))
def zku(t:TA):TE:=fun σ H Q=>t σ H fun xs H1=>zju Q xs H1
inductive zjv(Q:VK)(xs:List V)(H1:Hp):Prop where
 | mk(_:xs.length<=sizeLine)(_:∀ p,H1 p=none->Q (.ref p) (upd H1 p (.lst xs)))
def Bx(t:TA):TE:=fun σ H Q=>t σ H fun xs H1=>zjv Q xs H1
theorem Z7{x1}(h:PA X es t):PE X (.Tuple es x1 pos) (zku t):=by
 intro pins s σ H Q I hq;refine wpAny_Tuple_spliced (thn (h pos pins s σ H _ I hq) fun us s1 ⟨xs,H1,I1,r,z,q⟩=>⟨by rw[<- r.length];exact z,?_⟩);have hf:H1 s1.heap.objs.size=none:=I1.hok.fresh (ztm _);refine⟨.ref s1.heap.objs.size,upd H1 s1.heap.objs.size (.tup xs),I1.laid (t':=s1.toks) (fun b u e=>Heap.get?_push_of_some _ e) (ztm _) ?_,rfl,q _ hf⟩;exact⟨z,us,r,⟨_,Heap.get?_push_size _ rfl,rfl,_,rfl⟩⟩
theorem Z9(h:PA X es t):PE X (.List es pos) (Bx t):=by
 intro pins s σ H Q I hq;refine wpAny_List_spliced (thn (h pos pins s σ H _ I hq) fun us s1 ⟨xs,H1,I1,r,z,q⟩=>⟨by rw[<- r.length];exact z,?_⟩);have hf:H1 s1.heap.objs.size=none:=I1.hok.fresh (ztm _);refine⟨.ref s1.heap.objs.size,upd H1 s1.heap.objs.size (.lst xs),I1.laid (t':=s1.toks) (fun b u e=>Heap.get?_push_of_some _ e) (ztm _) ?_,rfl,q _ hf⟩;exact⟨z,us,0,r,Heap.get?_push_size _ rfl⟩
end
abbrev Sp:=List V->Hp->VK->XK->Prop
abbrev CXT:=List Env->Hp->Shared->XK->Value->Shared->Prop
structure By(P:Program)(w:World)(K:Frag)(mg:Str->Option Value)(base:Heap)(A:Around)(outer:List Env)(s:Shared)(H:Hp):Prop where
 frames:A.frames=some outer
 mod:Mod K mg base
 bs:∀ b o,base.get? b=some o->s.heap.get? b=some o/\H b=none
 bsz:base.objs.size<=s.heap.objs.size
 funs:s.heap.FunFrames base outer
 frf:∀ b∈frs outer,H b=none
 hok:HOk P w H s.heap
 bare:AllBare s.gens
def CE(outer:List Env)(P:Program)(w:World)(H:Hp)(s:Shared)(Q:VK)(u:Value)(s':Shared):Prop :=
 ∃ v H',s'.os=s.os/\AllBare s'.gens/\Un (frs outer) [] H H' s.heap s'.heap/\HOk P w H' s'.heap/\RelV v u/\Q v H'
def CR(CX:CXT)(outer:List Env)(P:Program)(w:World)(H:Hp)(s:Shared)(Q:VK)(E:XK)(r:Result)(s':Shared):Prop :=
 match r with
 | .ok (.ret u)=>CE outer P w H s Q u s'
 | .ok _=>False
 | .error e=>CX outer H s E e s'
structure FnOk(P:Program)(w:World)(K:Frag)(mg:Str->Option Value)(base:Heap)(CX:CXT)(k:Nat)(f:Addr)(fd:FuncData)(ps:List Str)(sp:Sp):Prop where
 len:∀ vs H Q E,sp vs H Q E->vs.length=ps.length
 run:∀ (A:Around) (outer:List Env) (s:Shared) (H:Hp) (args:Args) (us:List Value) (vs:List V) (Q:VK) (E:XK),Wv k A->By P w K mg base A outer s H->BindsTo s fd args (ps.zip us)->Vals vs us->sp vs H Q E ->
  codeAny (model P w) A (.call (.ref f) args) (CR CX outer P w H s Q E) s
theorem By.make{P:Program}{w:World}{K:Frag}{mg:Str->Option Value}{base:Heap}{A:Around}{outer:List Env}{s:Shared}{H:Hp}(e:By P w K mg base A outer s H)(C:Addr)(us:List Value)(kw:List (Str×Value)) :
  By P w K mg base (A.under (.builtin "type.__call__" ⟨.ref C :: us,kw⟩)) outer s H:=⟨by first|exact e.frames|(simpa [Around.under,Code.envs,Code.isFrame,pushEnvs] using e.frames),e.mod,e.bs,e.bsz,e.funs,e.frf,e.hok,e.bare⟩
section
variable{X:Cx}{pins:List (Addr×Obj)}{σ:St}{H:Hp}{s s':Shared}
theorem Inv.env0(I:Inv X pins σ H s):By X.prog X.w X.K X.mg X.base X.A X.stack s H :=
 ⟨I.ok.frames,I.ok.mod,I.bs,zts I.ok.bsz I.sz,I.stack,I.stkFree,I.hok,I.bare⟩
theorem Inv.after(I:Inv X pins σ H s)(h:CE X.stack X.prog X.w H s Q u s'):EP X pins σ Q u s':=by
 obtain⟨v,H',os,bare,un,hok,r,q⟩:=h;obtain⟨hh,g,d,t,os'⟩:=s';obtain rfl:os'=s.os:=os;exact⟨v,H',I.call (h':=hh) (g':=g) (d':=d) (t':=t) (ch:=[]) un hok bare (fun b z=>absurd z (by simp)),r,q⟩
end
def zds(sp:Sp)(dvs:List V)(E:XK)(t:TA):TE:=fun σ H Q=>t σ H fun vs H1=>sp (vs++dvs) H1 Q E
inductive zh7(C:Addr)(m:Str)(sp:Sp)(dvs:List V)(E:XK)(t:TA)(σ:L2.St)(Q:VK)(x:V)(H1:Hp):Prop where
 | mk(a)(dx)(fs)(_:x=.ref a)(_:H1 a=some (.ins C dx fs))(_:fs.lookup m=none)(_:t σ H1 fun vs H2=>sp (x :: (vs++dvs)) H2 Q E)
def zad(C:Addr)(m:Str)(sp:Sp)(dvs:List V)(E:XK)(ta:TE)(t:TA):TE:=fun σ H Q=>ta σ H fun x H1=>zh7 C m sp dvs E t σ Q x H1
def zae(C:Addr)(sp:Sp)(dvs:List V)(E:XK)(t:TA):TE:=fun σ H Q=>t σ H fun vs H1=>∀ x dx,H1 x=none->H1 dx=none->dx≠x ->
 sp (.ref x :: (vs++dvs)) (upd (upd H1 dx (.own x)) x (.ins C dx [])) (fun v H2=>v=.non/\Q (.ref x) H2) E
def Sd(K:Frag)(fd:FuncData)(ps:List Str)(ds:List Value):Prop :=
 ∀ (s:Shared) (us:List Value),K.In s.heap->(us++ds).length=ps.length->BindsTo s fd ⟨us,[]⟩ (ps.zip (us++ds))
theorem Sd.all{K:Frag}{fd:FuncData}{ps:List Str}(h:∀ us:List Value,us.length=ps.length->bindArgs fd ⟨us,[]⟩=pure (ps.zip us)):Sd K fd ps []:=fun s us _ hl=>by
 rw[zvf] at hl ⊢;exact .of_eq (h us hl)
def Wy(CX:CXT)(X:Cx)(E:XK):Prop:=∀ (pins:List (Addr×Obj)) (σ:St) (H:Hp) (s:Shared) (e:Value) (s':Shared),Inv X pins σ H s->CX X.stack H s E e s'->X.xe e s'
section
variable{X:Cx}{CX:CXT}{k:Nat}{f C:Addr}{fd:FuncData}{ps:List Str}{sp:Sp}{dvs:List V}{ds:List Value}{E:XK}{x m:Str}{p pos apos:Pos}{e o:Expr}{es:List Expr}{ta:TE}{t:TA}
theorem Bz(F:FnOk X.prog X.w X.K X.mg X.base CX k f fd ps sp)(hr:Wv k X.A)(hb:Sd X.K fd ps ds)(hd:Vals dvs ds)(hx:Wy CX X E)
  (I:Inv X pins σ H s) (r:Vals vs us) (h:sp (vs++dvs) H Q E):wpAny (model X.prog X.w) X.A (call (.ref f) us) (EP X pins σ Q) X.xe s:=by
 have r2:Vals (vs++dvs) (us++ds):=r.append hd;have hl:(us++ds).length=ps.length:=by rw[<- r2.length];exact F.len _ _ _ _ h
 refine wpAny_call (codeAny_mono (F.run X.A X.stack s H ⟨us,[]⟩ (us++ds) (vs++dvs) Q E hr I.env0 (hb s us I.kIn hl) r2 h) fun r s' hq=>?_);cases r with
 | error e=>exact hx pins σ H s e s' I hq
 | ok fl =>
   cases fl with
   | ret u=>exact I.after hq
   | next=>exact False.elim hq
   | brk=>exact False.elim hq
   | cont=>exact False.elim hq
theorem zf3(F:FnOk X.prog X.w X.K X.mg X.base CX k f fd ps sp)(hr:Wv k X.A)(hg:Gl X x)(hm:X.mg x=some (.ref f))(hk:PySem.W.keepIn X.K (.ref f)=true)(hb:Sd X.K fd ps ds)(hd:Vals dvs ds)(hx:Wy CX X E)
  (ha:PA X (e :: es) t) (hdb:(x == ("__debug__":Str))=false:=by decide) (he:starEach (e :: es) X.env=(false,eval e X.env) :: starEach es X.env:=by rfl) (hpl:(backTo pos (starEach es X.env)).any (·.1)=false:=by rfl) :
  PE X (.Call (.Name x p) (e :: es) [] pos) (zds sp dvs E t):=by
 intro pins s σ H Q I h;refine wpAny_Call_Name_kw (O0 I hg hm ?_ hdb);refine PySem.W.callWith_K (h₀:=X.base) I.ok.mod.kin hk (thn (ha pos pins s σ H _ I h) fun us s1 ⟨vs,H1,I1,r,q⟩=>⟨I1.kIn,?_⟩) he hpl;exact Bz F hr hb hd hx I1 r q
theorem zf4(he:PE X o ta)(c:Cls X.K C)(hm:zdr X.K C m f)(F:FnOk X.prog X.w X.K X.mg X.base CX k f fd ps sp)(hr:Wv k X.A)(hb:Sd X.K fd ps ds)(hd:Vals dvs ds)(hx:Wy CX X E)(ha:PA X (e :: es) t)
  (hst:starEach (e :: es) X.env=(false,eval e X.env) :: starEach es X.env:=by rfl) (hpl:(backTo pos (starEach es X.env)).any (·.1)=false:=by rfl)
  (ht:eval (.Call (.Attribute o m apos) (e :: es) [] pos) X.env=(do
   let ov <- eval o X.env
   standAt apos.atName
   let (f,first) <- holding [ov] (getMethod ov m pl)
   callWith pos f first (backTo pos (starEach (e :: es) X.env)) (backToKw pos (keywordEach [] X.env))):=by rfl) :
  PE X (.Call (.Attribute o m apos) (e :: es) [] pos) (zad C m sp dvs E ta t):=by
 intro pins s σ H Q I h;refine PySem.W.methodCall_KW (pl:=pl) (thn (he pins s σ H _ I h) fun u s1 ⟨x,H1,I1,rx,a,dx,fs,ex,ea,l,q⟩=>?_) ht;subst ex;obtain rfl:u=Value.ref a:=rx;refine Kv I1 ea c hm l ?_;refine PySem.W.callWith_K (first:=[.ref a]) (h₀:=X.base) I.ok.mod.kin hm.kp (thn (ha pos pins s1 σ H1 _ I1 q) fun us s2 ⟨vs,H2,I2,r,q2⟩=>⟨I2.kIn,?_⟩) hst hpl;exact Bz (us:=.ref a :: us) (vs:=.ref a :: vs) F hr hb hd hx I2 (.cons rfl r) q2
theorem zdt(he:PE X o ta)(c:Cls X.K C)(hm:zdr X.K C m f)(F:FnOk X.prog X.w X.K X.mg X.base CX k f fd ps sp)(hr:Wv k X.A)(hb:Sd X.K fd ps ds)(hd:Vals dvs ds)(hx:Wy CX X E)
  (ht:eval (.Call (.Attribute o m apos) [] [] pos) X.env=(do
   let ov <- eval o X.env
   standAt apos.atName
   let (f,first) <- holding [ov] (getMethod ov m pl)
   callWith pos f first (backTo pos (starEach [] X.env)) (backToKw pos (keywordEach [] X.env))):=by rfl) :
  PE X (.Call (.Attribute o m apos) [] [] pos) (zad C m sp dvs E ta Bw):=by
 intro pins s σ H Q I h;refine PySem.W.methodCall_KW (pl:=pl) (thn (he pins s σ H _ I h) fun u s1 ⟨x,H1,I1,rx,a,dx,fs,ex,ea,l,q⟩=>?_) ht;subst ex;obtain rfl:u=Value.ref a:=rx;refine Kv I1 ea c hm l ?_;exact PySem.W.callWith_K0 (first:=[.ref a]) I1.kIn hm.kp (Bz (us:=[.ref a]) (vs:=[.ref a]) F hr hb hd hx I1 (.cons rfl .nil) q)
structure Mk(K:Frag)(C f:Addr):Prop where
 makes:PySem.W.makesIn K C=true
 init:PySem.W.findIn K (.ref C) "__init__"=some (some (.ref f))
 fn:PySem.W.isFn K (.ref f)=true
 kp:PySem.W.keepIn K (.ref C)=true
theorem Df(M:Mk X.K C f)(F:FnOk X.prog X.w X.K X.mg X.base CX k f fd ps sp)(hr:Wv (k+1) X.A)(hb:Sd X.K fd ps ds)(hd:Vals dvs ds)
  (hx:Wy CX X E) (I:Inv X pins σ H s) (r:Vals vs us)
  (h:∀ x dx,H x=none->H dx=none->dx≠x->sp (.ref x :: (vs++dvs)) (upd (upd H dx (.own x)) x (.ins C dx [])) (fun v H2=>v=.non/\Q (.ref x) H2) E) :
  wpAny (model X.prog X.w) X.A (call (.ref C) us) (EP X pins σ Q) X.xe s:=by
 have hq:=h (s.heap.objs.size+1) s.heap.objs.size (I.hok.fresh (Nat.le_succ _)) (I.hok.fresh (ztm _)) (zt2 (zvn _));have I2:=Inv.made (C:=C) I;have r2:Vals (V.ref (s.heap.objs.size+1) :: (vs++dvs)) (Value.ref (s.heap.objs.size+1) :: (us++ds)):=.cons rfl (r.append hd);have hl:(Value.ref (s.heap.objs.size+1) :: us++ds).length=ps.length:=by
  have e:=r2.length;rw[F.len _ _ _ _ hq] at e;exact e.symm
 refine wpAny_call (zdq (f:=f) I.kIn M.makes M.init (beq_iff_eq.mp M.fn) (codeAny_mono (F.run _ X.stack _ _ ⟨Value.ref (s.heap.objs.size+1) :: us,[]⟩ (Value.ref (s.heap.objs.size+1) :: (us++ds)) _ _ E (hr.make C us [])
  (I2.env0.make C us []) (hb _ (Value.ref (s.heap.objs.size+1) :: us) I2.kIn hl) r2 hq) fun r s' hq'=>?_))
 cases r with
 | error e=>exact hx pins σ _ _ e s' I2 hq'
 | ok fl =>
   cases fl with
   | ret u =>
     obtain⟨v,H',I3,rv,ev,q3⟩:=I2.after hq';subst ev;exact⟨rv,⟨V.ref (s.heap.objs.size+1),H',I3,rfl,q3⟩⟩
   | next=>exact False.elim hq'
   | brk=>exact False.elim hq'
   | cont=>exact False.elim hq'
theorem zf5(M:Mk X.K C f)(F:FnOk X.prog X.w X.K X.mg X.base CX k f fd ps sp)(hr:Wv (k+1) X.A)(hg:Gl X x)(hm:X.mg x=some (.ref C))(hb:Sd X.K fd ps ds)(hd:Vals dvs ds)(hx:Wy CX X E)
  (ha:PA X (e :: es) t) (hdb:(x == ("__debug__":Str))=false:=by decide) (he:starEach (e :: es) X.env=(false,eval e X.env) :: starEach es X.env:=by rfl) (hpl:(backTo pos (starEach es X.env)).any (·.1)=false:=by rfl) :
  PE X (.Call (.Name x p) (e :: es) [] pos) (zae C sp dvs E t):=by
 intro pins s σ H Q I h;refine wpAny_Call_Name_kw (O0 I hg hm ?_ hdb);refine PySem.W.callWith_K (h₀:=X.base) I.ok.mod.kin M.kp (thn (ha pos pins s σ H _ I h) fun us s1 ⟨vs,H1,I1,r,q⟩=>⟨I1.kIn,?_⟩) he hpl;exact Df M F hr hb hd hx I1 r q
theorem zdu(M:Mk X.K C f)(F:FnOk X.prog X.w X.K X.mg X.base CX k f fd ps sp)(hr:Wv (k+1) X.A)(hg:Gl X x)(hm:X.mg x=some (.ref C))(hb:Sd X.K fd ps ds)(hd:Vals dvs ds)(hx:Wy CX X E)
  (hdb:(x == ("__debug__":Str))=false:=by decide):PE X (.Call (.Name x p) [] [] pos) (zae C sp dvs E Bw):=by
 intro pins s σ H Q I h;refine wpAny_Call_Name_kw (O0 I hg hm ?_ hdb);exact PySem.W.callWith_K0 I.kIn M.kp (Df (us:=[]) M F hr hb hd hx I .nil h)
end
section
variable{X:Cx}{CX:CXT}{k:Nat}{f C:Addr}{fd:FuncData}{ps ks:List Str}{sp:Sp}{E:XK}{x m:Str}{p pos apos kpos:Pos}{e o:Expr}{es:List Expr}{kws:List Keyword}{te ta:TE}{t tk:TA}{nm:Option Str}
structure zkv(K:Frag)(fd:FuncData)(ps ks:List Str)(g:List Value->List Value->List Value)(gV:List V->List V->List V):Prop where
 to:∀ (s:Shared) (us ws:List Value),K.In s.heap->(g us ws).length=ps.length->BindsTo s fd ⟨us,ks.zip ws⟩ (ps.zip (g us ws))
 rel:∀ {vs:List V} {us:List Value} {zs:List V} {ws:List Value},Vals vs us->Vals zs ws->Vals (gV vs zs) (g us ws)
variable{g:List Value->List Value->List Value}{gV:List V->List V->List V}
end
structure Zl(N P:List Str)(sc:Scope):Prop where
 kind:sc.kind=.function
 co:sc.isCoroutine=false
 gen:sc.isGenerator=false
 nd:N.Nodup
 pre:N.take P.length=P
 par:∀ x∈P,sc.names.lookup x=some .local\/sc.names.lookup x=some .cell
 nofree:∀ y∈sc.names,y.2≠.free
theorem Gn{kindOf:Str->Option NameKind}{x:Str}:∀ {binds:List (Str×Value)} {m:Str->Option Value},(∀ v,(x,v)∉binds)->bindL kindOf binds m x=m x
 | [],_,_=>rfl
 | (n,v) :: r,m,h=>by
   unfold bindL;rw[Gn fun w hw=>h w (ztr _ hw)];split
   ·have:x≠n:=by rintro rfl;exact h v zt3
    simp[this]
   ·rfl
theorem Gp{kindOf:Str->Option NameKind}{x:Str}:∀ {binds:List (Str×Value)} {m:Str->Option Value},(∀ v,(x,v)∉binds)->bindC kindOf binds m x=m x
 | [],_,_=>rfl
 | (n,v) :: r,m,h=>by
   unfold bindC;rw[Gp fun w hw=>h w (ztr _ hw)];split
   ·rfl
   ·have:x≠n:=by rintro rfl;exact h v zt3
    simp[this]
theorem Gq{kindOf:Str->Option NameKind}{x:Str}{v:Value}:∀ {P:List Str} {vs:List Value} {i:Nat} {m:Str->Option Value},P.Nodup->P[i]?=some x->vs[i]?=some v->kindOf x=some .local ->
  bindL kindOf (P.zip vs) m x=some v
 | [],_,_,_,_,h,_,_=>by simp at h
 | _ :: _,[],_,_,_,_,h,_=>by simp at h
 | p :: P,w :: vs,0,m,nd,h1,h2,hk=>by
   simp at h1 h2;subst h1;subst h2;show bindL kindOf ((p,w) :: P.zip vs) m p=_;unfold bindL;rw[Gn fun v hv=>(ztz.mp nd).1 (List.of_mem_zip hv).1,if_pos hk];simp
 | p :: P,w :: vs,i+1,m,nd,h1,h2,hk=>by
   show bindL kindOf ((p,w) :: P.zip vs) m x=_;unfold bindL;exact Gq (i:=i) (ztz.mp nd).2 (by simpa using h1) (by simpa using h2) hk
theorem Gs{kindOf:Str->Option NameKind}{x:Str}{v:Value}:∀ {P:List Str} {vs:List Value} {i:Nat} {m:Str->Option Value},P.Nodup->P[i]?=some x->vs[i]?=some v->kindOf x≠some .local ->
  bindC kindOf (P.zip vs) m x=some v
 | [],_,_,_,_,h,_,_=>by simp at h
 | _ :: _,[],_,_,_,_,h,_=>by simp at h
 | p :: P,w :: vs,0,m,nd,h1,h2,hk=>by
   simp at h1 h2;subst h1;subst h2;show bindC kindOf ((p,w) :: P.zip vs) m p=_;unfold bindC;rw[Gp fun v hv=>(ztz.mp nd).1 (List.of_mem_zip hv).1,if_neg hk];simp
 | p :: P,w :: vs,i+1,m,nd,h1,h2,hk=>by
   show bindC kindOf ((p,w) :: P.zip vs) m x=_;unfold bindC;exact Gs (i:=i) (ztz.mp nd).2 (by simpa using h1) (by simpa using h2) hk
def M5(N:List Str)(vs:List V):St:=vs.map some++List.replicate (N.length-vs.length) none
def cxOf(CX:CXT)(P:Program)(w:World)(K:Frag)(mg:Str->Option Value)(base:Heap)(N:List Str)(qual:Str)(scope:Scope)(f:Addr)(cd:Value)(A:Around)(outer:List Env)(s:Shared)(H:Hp)(E:XK):Cx where
 prog:=P
 w:=w
 K:=K
 mg:=mg
 base:=base
 A:=A.deeper (envOfC qual scope s.heap.objs.size f cd)
 N:=N
 s₀:=s
 H₀:=H
 env:=envOfC qual scope s.heap.objs.size f cd
 outer:=outer
 stack:=envOfC qual scope s.heap.objs.size f cd :: outer
 ex:=[]
 calm:=true
 fn:=fun _=>true
 pn:=[]
 xe:=fun e s'=>wpAny (model P w) (A.deeper (envOfC qual scope s.heap.objs.size f cd)) (leaving (envOfC qual scope s.heap.objs.size f cd) e) (fun _ s''=>CX outer H s E e s'') (fun e' s''=>CX outer H s E e' s'') s'
theorem Dg{sc:Scope}{n:Nat}{x:Str}(h:sc.names.lookup x=some .cell):∃ c,(cellsFrom n sc.names []).lookup x=some c:=by
 have q:=PySem.W.cellsFrom_some sc.names n [] (.inl h);exact zuv.mp q
theorem zbv{CX:CXT}{P:Program}{w:World}{K:Frag}{mg:Str->Option Value}{base:Heap}{N ps:List Str}{qual:Str}{scope:Scope}{f:Addr}{cd:Value}{A:Around}{outer:List Env}{s s1:Shared}{H:Hp}{E:XK}{us:List Value}{vs:List V}
  (S:Zl N ps scope) (hd:A.handled=none) (e0:By P w K mg base A outer s H) (hl:vs.length=ps.length) (r:Vals vs us)
  (x:InCallC s s.heap.objs.size (bindL (envOfC qual scope s.heap.objs.size f cd).kindOf (ps.zip us) fun _=>none) (cellsFrom (s.heap.objs.size+1) scope.names []) (bindC (envOfC qual scope s.heap.objs.size f cd).kindOf (ps.zip us) fun _=>none) s1) :
  Inv (cxOf CX P w K mg base N qual scope f cd A outer s H E) [] (M5 N vs) H s1:=by
 have hpl:ps.length<=N.length:=by have:=congrArg List.length S.pre;rw[zu1] at this;omega
 obtain⟨h1,tk,rfl,hk⟩:=x.done;have noA:∀ b:Addr,b∉(cxOf CX P w K mg base N qual scope f cd A outer s H E).ex:=fun b z=>absurd (show b∈([]:List Addr) from z) (by simp);refine⟨⟨e0.mod,S.kind,rfl,rfl,ztm _,fun y z c h1 h2=>?_,fun y hy=>?_,fun y c _ h=>?_,fun _=>hd,Around.frames_deeper e0.frames,.inr ⟨rfl,rfl⟩,fun b z=>absurd z (noA b),e0.bs,e0.bsz,fun b _ _=>noA b,fun b z=>absurd z (noA b),e0.funs,e0.frf⟩,
  rfl,e0.bare,Un.kept hk,⟨_,x.toInCall.ns,fun i y v h1 h2 h3=>?_⟩,fun y c h=>⟨_,x.cell y c h⟩,e0.hok.fresh (ztm _),fun y c h=>?_,fun p hp=>absurd (show p∈([]:List (Addr×Obj)) from hp) (by simp),e0.hok.kept hk,?_⟩
 ·exact name_of_addr x.apart (PySem.mem_of_lookup h1) (PySem.mem_of_lookup h2)
 ·have hy:scope.names.lookup y=some .cell\/scope.names.lookup y=some .free:=hy;rcases hy with hy|hy
  ·exact Dg hy
  ·exact absurd rfl (S.nofree _ (PySem.mem_of_lookup hy))
 ·exact Nat.le_of_lt (x.above y c (PySem.mem_of_lookup h))
 ·have h2:=h2.resolve_right (Wf _);have hi:i<vs.length:=by
   unfold M5 at h2;by_cases hi:i<vs.length
   ·exact hi
   ·rw[zt6 (by simpa using hi)] at h2;rw[List.getElem?_replicate] at h2;split at h2<;>cases h2
  have ha:vs[i]?=some v:=by
   unfold M5 at h2;rw[zt9 (by simpa using hi),ztj] at h2;cases e:vs[i]? with
   | none=>rw[e] at h2;cases h2
   | some a=>rw[e] at h2;cases h2;rfl
  obtain⟨u,hu,rv⟩:=r.get ha;have hp:ps[i]?=some y:=by
   rw[<- S.pre,List.getElem?_take_of_lt ⋯];exact h1
  have ndP:ps.Nodup:=by rw[<- S.pre];exact S.nd.sublist (List.take_sublist _ _)
  refine⟨u,rv,?_⟩;rcases S.par y (ztn hp) with k|k
  ·exact .inl ⟨k,Gq ndP hp hu k⟩
  ·obtain⟨c,e⟩:=Dg (n:=s.heap.objs.size+1) k;refine .inr ⟨.inl k,c,e,?_⟩;have q:=x.cell y c e;rw[Gs ndP hp hu (by show scope.names.lookup y≠_;rw[k];decide)] at q;exact q
 ·exact e0.hok.fresh (Nat.le_of_lt (x.above y c (PySem.mem_of_lookup h)))
 ·unfold M5;show _=N.length;rw[ztc,zta,List.length_replicate];omega
theorem zjw{CX:CXT}{P:Program}{w:World}{K:Frag}{mg:Str->Option Value}{base:Heap}{k:Nat}{f:Addr}{name qual:Str}{params:Arguments}{body:List Stmt}{scope:Scope}{dV kV doc pm cdv ct oc:Value}{an od:Option Addr}
  {osl:Array (Option Value)} {N ps:List Str} {sp:Sp} (lk:K.lookup f=some ⟨oc,od,.func (PySem.W.fnOf name qual params body scope dV kV doc pm an cdv ct),osl⟩) (hcd:PySem.W.codeIn K cdv qual=true) (S:Zl N ps scope)
  (len:∀ vs H Q E,sp vs H Q E->vs.length=ps.length)
  (hbody:∀ (A:Around) (outer:List Env) (s:Shared) (H:Hp) (vs:List V) (Q:VK) (E:XK),Wv k (A.deeper (envOfC qual scope s.heap.objs.size f cdv))->sp vs H Q E ->
   ∃ t,PSs (cxOf CX P w K mg base N qual scope f cdv A outer s H E) body t/\t { nx:=fun _ H'=>Q .non H',rt:=Q } (M5 N vs) H) :
  FnOk P w K mg base CX (k+1) f (PySem.W.fnOf name qual params body scope dV kV doc pm an cdv ct) ps sp:=by
 refine⟨len,fun A outer s H args us vs Q E hr e0 hb r hsp=>?_⟩;have hl:=len _ _ _ _ hsp;have KX:K.In s.heap:=e0.mod.kin.keeps fun b o e=>(e0.bs b o e).1;have lim:s.heap.NoLimit:=e0.mod.nolimit.keeps fun b o e=>(e0.bs b o e).1;have hkind:∀ y∈ps.zip us,scope.names.lookup y.1=some .local\/(scope.names.lookup y.1=some .cell/\((cellsFrom (s.heap.objs.size+1) scope.names []).lookup y.1).isSome=true):=fun ⟨n,v⟩ hy=>by
  rcases S.par n (List.of_mem_zip hy).1 with q|q
  ·exact .inl q
  ·exact .inr ⟨q,PySem.W.cellsFrom_some _ _ _ (.inl q)⟩
 refine codeAny_call_function hr.depth (KX _ _ lk) rfl S.co S.gen rfl (PySem.W.codeRec_of KX hcd) (hb _ _ _ _ ?_);refine wpAny_newFunctionEnv_cells S.kind hkind fun env he s1 x=>?_;subst he;refine⟨lim.keeps x.toInCall.keep,codeAny_func ?_⟩;obtain⟨t,ht,hq⟩:=hbody A outer s H vs Q E (hr.deeper _) hsp;have I:Inv (cxOf CX P w K mg base N qual scope f cdv A outer s H E) [] (M5 N vs) H s1:=zbv S hr.hd e0 hl r x;refine wpAny_mono (ht [] s1 (M5 N vs) H _ I hq) (fun fl s' hs=>?_) fun e s' hs=>hs;have fin:∀ {σ':St} {H':Hp} {v:V} {u:Value},Inv (cxOf CX P w K mg base N qual scope f cdv A outer s H E) [] σ' H' s'->RelV v u->Q v H'->CE outer P w H s Q u s' :=
  fun {σ' H' v u} J rv q=>⟨v,H',J.os,J.bare,J.base,J.hok,rv,q⟩
 cases fl with
 | ret u =>
   obtain⟨v,σ',H',J,rv,q⟩:=hs;exact fin J rv q
 | next =>
   obtain⟨σ',H',J,q⟩:=hs;exact fin (v:=V.non) (u:=Value.none) J rfl q
 | brk =>
   obtain⟨_,_,_,q⟩:=hs;exact False.elim q
 | cont =>
   obtain⟨_,_,_,q⟩:=hs;exact False.elim q
section
variable{X:Cx}{x:Str}{p pos:Pos}{e:Expr}{es:List Expr}{t:TA}{id T:String}{r:List V->Hp->VK->Prop}
def tCB(r:List V->Hp->VK->Prop)(t:TA):TE:=fun σ H Q=>t σ H fun vs H1=>r vs H1 Q
theorem Zs(hc:W8 X (.builtin id) r)(hg:Gl X x)(hm:X.mg x=none)(hv:bootBuiltins x=some (.builtin id))(ha:PA X (e :: es) t)(hn:x≠"__name__":=by decide)(hdb:(x == ("__debug__":Str))=false:=by decide)
  (he:starEach (e :: es) X.env=(false,eval e X.env) :: starEach es X.env:=by rfl) (hpl:(backTo pos (starEach es X.env)).any (·.1)=false:=by rfl):PE X (.Call (.Name x p) (e :: es) [] pos) (tCB r t):=by
 intro pins s σ H Q I h;refine wpAny_Call_Name_kw (Pp I hg hm hv ?_ hn hdb);exact PyProof.Rows.callWith_builtin1 (thn (ha pos pins s σ H _ I h) fun us s1 ⟨vs,H1,I1,r1,q1⟩=>hc pins s1 σ H1 vs us Q I1 r1 q1) he hpl
theorem Yj(hc:W8 X (.type T) r)(hg:Gl X x)(hm:X.mg x=none)(hv:bootBuiltins x=some (.type T))(ha:PA X (e :: es) t)(hn:x≠"__name__":=by decide)(hdb:(x == ("__debug__":Str))=false:=by decide)
  (he:starEach (e :: es) X.env=(false,eval e X.env) :: starEach es X.env:=by rfl) (hpl:(backTo pos (starEach es X.env)).any (·.1)=false:=by rfl):PE X (.Call (.Name x p) (e :: es) [] pos) (tCB r t):=by
 intro pins s σ H Q I h;refine wpAny_Call_Name_kw (Pp I hg hm hv ?_ hn hdb);exact PyProof.Rows.callWith_type1 (thn (ha pos pins s σ H _ I h) fun us s1 ⟨vs,H1,I1,r1,q1⟩=>hc pins s1 σ H1 vs us Q I1 r1 q1) he hpl
end
section
variable{κ:Type}[DecidableEq κ]
def valV(kvs:List (κ×V))(k:κ):Option V:=(kvs.find? fun kv=>decide (kv.1=k)).map (·.2)
def putK(kvs:List (κ×V))(k:κ)(v:V):List (κ×V) :=
 if (kvs.any fun kv=>decide (kv.1=k))=true then kvs.map (fun kv=>if kv.1=k then (kv.1,v) else kv) else kvs++[(k,v)]
def Xv(kvs:List (κ×V))(k:κ):List (κ×V):=kvs.filter fun kv=>decide (kv.1≠k)
theorem zdv:valV ([]:List (κ×V)) k=none:=rfl
theorem Y6{p:κ×V}{r:List (κ×V)}{k:κ}(e:p.1=k):valV (p :: r) k=some p.2:=by simp[valV,zvg,e]
theorem Y0{p:κ×V}{r:List (κ×V)}{k:κ}(e:¬ p.1=k):valV (p :: r) k=valV r k:=by simp[valV,zvg,e]
theorem Se(k:κ):∀ kvs:List (κ×V),(kvs.any fun kv=>decide (kv.1=k))=(valV kvs k).isSome
 | []=>rfl
 | p :: r=>by
   rw[zvj];by_cases e:p.1=k
   ·simp only[Y6 e,ztf e,Bool.true_or,Option.isSome_some]
   ·rw[Y0 e,zth e,Bool.false_or];exact Se k r
theorem Dh(k j:κ)(y:V):∀ kvs:List (κ×V),valV (kvs.map fun kv=>if kv.1=k then (kv.1,y) else kv) j=(valV kvs j).map fun x=>if j=k then y else x
 | []=>rfl
 | p :: r=>by
   have ih:=Dh k j y r;rw[zto];by_cases h:p.1=k
   ·rw[if_pos h];by_cases e:p.1=j
    ·rw[Y6 (p:=(p.1,y)) e,Y6 e,zus,if_pos (e.symm.trans h)]
    ·rw[Y0 (p:=(p.1,y)) e,Y0 e,ih]
   ·rw[if_neg h];by_cases e:p.1=j
    ·rw[Y6 (p:=p) e,Y6 e,zus,if_neg (fun z=>h (e.trans z))]
    ·rw[Y0 (p:=p) e,Y0 e,ih]
theorem Gu(k j:κ)(y:V):∀ kvs:List (κ×V),valV kvs k=none->valV (kvs++[(k,y)]) j=if j=k then some y else valV kvs j
 | [],_=>by
   by_cases e:k=j
   ·rw[if_pos e.symm];exact Y6 (p:=(k,y)) e
   ·rw[if_neg (fun z=>e z.symm)];exact Y0 (p:=(k,y)) e
 | p :: r,hn=>by
   rw[List.cons_append];have hk:¬ p.1=k:=fun z=>by rw[Y6 z] at hn;cases hn
   rw[Y0 hk] at hn;have ih:=Gu k j y r hn;by_cases e:p.1=j
   ·rw[Y6 e,Y6 e,if_neg (fun z=>hk (e.trans z))]
   ·rw[Y0 e,Y0 e,ih]
theorem Va(kvs:List (κ×V))(k j:κ)(y:V):valV (putK kvs k y) j=if j=k then some y else valV kvs j:=by
 unfold putK;by_cases a:(kvs.any fun kv=>decide (kv.1=k))=true
 ·rw[if_pos a,Dh];rw[Se] at a;by_cases e:j=k
  ·obtain⟨x,hx⟩:=zuv.mp a;rw[if_pos e,e,hx,zus,if_pos rfl]
  ·rw[if_neg e];cases valV kvs j with
   | none=>rfl
   | some x=>rw[zus,if_neg e]
 ·rw[if_neg a];refine Gu k j y kvs ?_;rw[Se] at a;cases q:valV kvs k with
  | none=>rfl
  | some x=>rw[q] at a;exact(a rfl).elim
theorem Y7(kvs:List (κ×V))(k:κ)(v:V):(putK kvs k v).length<=kvs.length+1:=by
 unfold putK;split
 ·rw[zta];omega
 ·rw[ztc,ztt,zvh];omega
theorem zdw{kvs:List (κ×V)}{k:κ}(v:V)(h:valV kvs k=none):putK kvs k v=kvs++[(k,v)]:=by
 unfold putK;rw[Se,h];exact if_neg ⋯
theorem RelO.isSome_eq(r:RelO o u):o.isSome=u.isSome:=by
 cases o with
 | none=>cases u with
   | none=>rfl
   | some _=>exact(show False from r).elim
 | some _=>cases u with
   | none=>exact(show False from r).elim
   | some _=>rfl
theorem RelO.getD(r:RelO o u)(rd:RelV d d'):RelV (o.getD d) (u.getD d'):=by
 cases o with
 | none=>cases u with
   | none=>exact rd
   | some _=>exact(show False from r).elim
 | some _=>cases u with
   | none=>exact(show False from r).elim
   | some _=>exact r
theorem KV.val{kvs:List (κ×V)}{vs:List (κ×Value)}(r:KV kvs vs)(k:κ):RelO (valV kvs k) (valueAt vs k):=by
 unfold KV at r
 induction r with
 | nil=>exact True.intro
 | @cons p q ps qs h t ih =>
   obtain⟨h1,h2⟩:=h;by_cases e:p.1=k
   ·have e':q.1=k:=h1.symm.trans e;have b:valueAt (q :: qs) k=some q.2:=by simp[valueAt,zvg,e']
    rw[Y6 e,b];exact h2
   ·have e':¬ q.1=k:=fun z=>e (h1.trans z);have b:valueAt (q :: qs) k=valueAt qs k:=by simp[valueAt,zvg,e']
    rw[Y0 e,b];exact ih
theorem KV.any(r:KV kvs vs)(k:κ):(kvs.any fun kv=>decide (kv.1=k))=vs.any fun kv=>decide (kv.1=k):=by
 unfold KV at r
 induction r with
 | nil=>rfl
 | cons h t ih=>rw[zvj,zvj,ih,h.1]
theorem KV.repl(r:KV kvs vs)(k:κ)(ry:RelV y u) :
  KV (kvs.map fun kv=>if kv.1=k then (kv.1,y) else kv) (vs.map fun kv=>if kv.1=k then (kv.1,u) else kv):=by
 unfold KV at r ⊢
 induction r with
 | nil=>exact .nil
 | @cons p q ps qs h t ih =>
   rw[zto,zto];refine .cons ?_ ih;obtain⟨h1,h2⟩:=h;by_cases e:p.1=k
   ·rw[if_pos e,if_pos (h1.symm.trans e)];exact⟨h1,ry⟩
   ·rw[if_neg e,if_neg (fun z=>e (h1.trans z))];exact⟨h1,h2⟩
theorem KV.put(r:KV kvs vs)(k:κ)(ry:RelV y u):KV (putK kvs k y) (stored vs k u):=by
 unfold putK stored;rw[r.any k];by_cases e:(vs.any fun kv=>decide (kv.1=k))=true
 ·rw[if_pos e,if_pos e];exact r.repl k ry
 ·rw[if_neg e,if_neg e];exact Paired.snoc r ⟨rfl,ry⟩
theorem KV.drop(r:KV kvs vs)(k:κ):KV (Xv kvs k) (without vs k):=by
 unfold KV at r ⊢;unfold Xv without
 induction r with
 | nil=>exact .nil
 | @cons p q ps qs h t ih =>
   obtain⟨h1,h2⟩:=h;rw[zum,zum];by_cases e:p.1=k
   ·have a:¬ decide (p.1≠k)=true:=by simp[e]
    have b:¬ decide (q.1≠k)=true:=by simp[h1.symm.trans e]
    rw[if_neg a,if_neg b];exact ih
   ·have e':¬ q.1=k:=fun z=>e (h1.trans z);have a:decide (p.1≠k)=true:=by simp[e]
    have b:decide (q.1≠k)=true:=by simp[e']
    rw[if_pos a,if_pos b];exact .cons ⟨h1,h2⟩ ih
theorem KV.keys{kvs:List (κ×V)}{vs:List (κ×Value)}(r:KV kvs vs):kvs.map (·.1)=vs.map (·.1):=by
 unfold KV at r
 induction r with
 | nil=>rfl
 | cons h t ih=>rw[zto,zto,ih,h.1]
theorem KV.length(r:KV kvs vs):kvs.length=vs.length:=Paired.length r
theorem Dj(kvs:List (κ×V))(k:κ):(Xv kvs k).length<=kvs.length:=zuf _ _
end
theorem M6(r:RelV (kV k) u):(Yi P w).is k u=true:=by
 cases k with
 | inl i=>obtain⟨t,e⟩:=(show ∃ t,u=Value.int i t from r);subst e;exact E4 P w i t
 | inr x=>obtain⟨t,e⟩:=(show ∃ t,u=Value.str x t from r);subst e;exact E5 P w x t
theorem Gv:∀ {ks:List Key} {us:List Value},Vals (ks.map kV) us->ItemsAre (Yi P w) ks us
 | [],_,r=>by rw[List.map_nil] at r;cases r;exact .nil
 | k :: ks,_,r=>by
   rw[zto] at r;cases r with
   | cons h t=>exact .cons (M6 h) (Gv t)
abbrev KT(H:Hp):List (List Key×V)->List (List Key×Addr×Value)->Prop:=Paired fun p q=>p.1=q.1/\H q.2.1=some (.tup (p.1.map kV))/\RelV p.2 q.2.2
theorem KT.val{H:Hp}{kvs:List (List Key×V)}{xs:List (List Key×Addr×Value)}(r:KT H kvs xs)(k:List Key):RelO (valV kvs k) ((atKey xs k).map (·.2)):=by
 induction r with
 | nil=>exact True.intro
 | @cons p q ps qs h t ih =>
   obtain⟨h1,_,h2⟩:=h;by_cases e:p.1=k
   ·have e':q.1=k:=h1.symm.trans e;have b:atKey (q :: qs) k=some q.2:=by simp[atKey,zvg,e']
    rw[Y6 e,b];exact h2
   ·have e':¬ q.1=k:=fun z=>e (h1.trans z);have b:atKey (q :: qs) k=atKey qs k:=by simp[atKey,zvg,e']
    rw[Y0 e,b];exact ih
theorem KT.repl(r:KT H kvs xs)(k:List Key)(ry:RelV y u) :
  KT H (kvs.map fun kv=>if kv.1=k then (kv.1,y) else kv) (xs.map (putAt k u)):=by
 induction r with
 | nil=>exact .nil
 | @cons p q ps qs h t ih =>
   rw[zto,zto];refine .cons ?_ ih;obtain⟨h1,h2,h3⟩:=h;unfold putAt;by_cases e:p.1=k
   ·rw[if_pos e,if_pos (h1.symm.trans e)];exact⟨h1,h2,ry⟩
   ·rw[if_neg e,if_neg (fun z=>e (h1.trans z))];exact⟨h1,h2,h3⟩
theorem KT.put(r:KT H kvs xs)(k:List Key)(hb:H b=some (.tup (k.map kV)))(ry:RelV y u) :
  KT H (putK kvs k y) (storedH xs k b u):=by
 have e:(kvs.any fun kv=>decide (kv.1=k))=(atKey xs k).isSome:=by
  rw[Se,(r.val k).isSome_eq,Option.isSome_map]
 unfold putK storedH;rw[e];by_cases q:(atKey xs k).isSome=true
 ·rw[if_pos q,if_pos q];exact r.repl k ry
 ·rw[if_neg q,if_neg q];exact Paired.snoc r ⟨rfl,hb,ry⟩
theorem KT.keeps(r:KT H kvs xs)(ht:∀ b ys,H b=some (.tup ys)->H' b=some (.tup ys)):KT H' kvs xs :=
 Paired.mapP r fun _ _ z=>⟨z.1,ht _ _ z.2.1,z.2.2⟩
section
variable{P:Program}{w:World}{H:Hp}{h:Heap}{a:Addr}
theorem zhh(ok:HOk P w H h)(e:Rd H a u):Y3 P w H h a u:=e.ok ok
theorem Rw(ok:HOk P w H h)(e:Rd H a (.dK kvs)):kvs.length<=sizeLine/\(a == sysModules)=false/\∃ vs,KV kvs vs/\h.DictOf (Yi P w) a vs :=
 show Y3 P w H h a (.dK kvs) from zhh ok e
theorem zdx(ok:HOk P w H h)(e:H a=some (.dK kvs)):kvs.length<=sizeLine/\(a == sysModules)=false/\∃ vs,KV kvs vs/\h.DictOf (Yi P w) a vs:=Rw ok (.inl e)
theorem Rx(ok:HOk P w H h)(e:H a=some (.tup (ks.map kV))):(tupleKind (Yi P w)).is h ks a:=by
 obtain⟨_,its,r,o,h1,h2,n,h3⟩:=(show Y3 P w H h a (.tup (ks.map kV)) from ok a _ e);exact⟨o,its.toArray,n,h1,h2,h3,by simpa using Gv r⟩
theorem M7(ok:HOk P w H h)(e:Rd H a (.dT kvs)):kvs.length<=sizeLine/\(a == sysModules)=false /\
  ∃ xs,KT H kvs xs/\h.DictOfH (tupleKind (Yi P w)) a xs:=by
 obtain⟨z,y,xs,r,o,es,ep,h1,h2,h3,h4,h5⟩:=(show Y3 P w H h a (.dT kvs) from zhh ok e);refine⟨z,y,xs,r,o,es,ep,h1,h2,h3,h4,fun x hx=>?_,h5⟩;have all:∀ {l:List (List Key×V)} {m:List (List Key×Addr×Value)},KT H l m->∀ x∈m,(tupleKind (Yi P w)).is h x.1 x.2.1:=by
  intro l m q
  induction q with
  | nil=>intro x hx;exact nomatch hx
  | @cons p q ps qs hq t ih =>
    intro x hx;rcases ztg.mp hx with e|hx
    ·subst e;exact Rx ok (by rw[<- hq.1];exact hq.2.1)
    ·exact ih x hx
 exact all r x hx
theorem zdy(ok:HOk P w H h)(e:H a=some (.dT kvs)):kvs.length<=sizeLine/\(a == sysModules)=false /\
  ∃ xs,KT H kvs xs/\h.DictOfH (tupleKind (Yi P w)) a xs:=M7 ok (.inl e)
end
def DGet(H:Hp)(a:Addr)(y:V)(r:Option V):Prop :=
 (∃ kvs k,Rd H a (.dK kvs)/\y=kV k/\r=valV kvs k)\/∃ kvs k b,Rd H a (.dT kvs)/\y=.ref b/\H b=some (.tup (k.map kV))/\r=valV kvs k
def DPut(H:Hp)(a:Addr)(y v:V)(H':Hp):Prop :=
 (∃ kvs k,H a=some (.dK kvs)/\y=kV k/\kvs.length<sizeLine/\H'=upd H a (.dK (putK kvs k v))) \/
 ∃ kvs k b,H a=some (.dT kvs)/\y=.ref b/\H b=some (.tup (k.map kV))/\kvs.length<sizeLine/\H'=upd H a (.dT (putK kvs k v))
theorem DGet.k{H:Hp}{a:Addr}{kvs:List (Key×V)}{k:Key}(e:H a=some (.dK kvs)):DGet H a (kV k) (valV kvs k):=.inl ⟨kvs,k,.inl e,rfl,rfl⟩
theorem DGet.t{H:Hp}{a b:Addr}{kvs:List (List Key×V)}{k:List Key}(e:H a=some (.dT kvs))(eb:H b=some (.tup (k.map kV))):DGet H a (.ref b) (valV kvs k):=.inr ⟨kvs,k,b,.inl e,rfl,eb,rfl⟩
theorem DPut.k{H:Hp}{a:Addr}{kvs:List (Key×V)}{k:Key}{v:V}(e:H a=some (.dK kvs))(hl:kvs.length<sizeLine):DPut H a (kV k) v (upd H a (.dK (putK kvs k v))):=.inl ⟨kvs,k,e,rfl,hl,rfl⟩
theorem DPut.t{H:Hp}{a b:Addr}{kvs:List (List Key×V)}{k:List Key}{v:V}(e:H a=some (.dT kvs))(eb:H b=some (.tup (k.map kV)))(hl:kvs.length<sizeLine) :
  DPut H a (.ref b) v (upd H a (.dT (putK kvs k v))):=.inr ⟨kvs,k,b,e,rfl,eb,hl,rfl⟩
section
variable{X:Cx}{pins:List (Addr×Obj)}{σ:St}{H:Hp}{s:Shared}{a:Addr}{y v:V}{u r:Value}{o:Option V}{A:Around}{E:Value->Shared->Prop}
theorem Inv.big(I:Inv X pins σ H s):sysModules<s.heap.objs.size:=by
 have h:mainGlobals<s.heap.objs.size:=(I.mod.glob.keeps I.bk).lt;exact Nat.lt_trans ⋯ h
theorem zbw(hu:A.units+1<cLine)(I:Inv X pins σ H s)(g:DGet H a y (some v))(ry:RelV y u)(h:∀ w' s',Inv X pins σ H s'->RelV v w'->Q w' s') :
  wpAny (model X.prog X.w) A (getItem (.ref a) u) Q E s:=by
 rcases g with ⟨kvs,k,e,ey,l⟩|⟨kvs,k,b,e,ey,eb,l⟩
 ·subst ey;obtain⟨z,hd,vs,rel,dd⟩:=Rw I.hok e;obtain⟨w',hw,rw'⟩:=RelO.some_of (v:=v) (o:=valueAt vs k) (by rw[l];exact rel.val k);exact wpAny_getItem_of (M6 ry) dd.mapOf hw (h w' _ (I.tok _) rw')
 ·subst ey;cases (show u=Value.ref b from ry);obtain⟨z,hd,xs,rel,dd⟩:=M7 I.hok e;obtain⟨w',hw,rw'⟩:=RelO.some_of (v:=v) (o:=(atKey xs k).map (·.2)) (by rw[l];exact rel.val k);obtain⟨p,hp,hp2⟩:=zvb.mp hw;refine wpAny_getItem_heap (tupleKind_room_in1 hu) (Rx I.hok eb) dd hp ?_;rw[hp2];exact h w' _ (I.tok _) rw'
theorem zkw(hu:A.units+1<cLine)(I:Inv X pins σ H s)(g:DGet H a y o)(ry:RelV y u)(h:∀ s',Inv X pins σ H s'->Q (.bool o.isSome) s') :
  wpAny (model X.prog X.w) A (compareOp .In u (.ref a)) Q E s:=by
 rcases g with ⟨kvs,k,e,ey,l⟩|⟨kvs,k,b,e,ey,eb,l⟩
 ·subst ey;obtain⟨z,hd,vs,rel,dd⟩:=Rw I.hok e;refine wpAny_in_of (M6 ry) hd dd.mapOf ?_;rw[<- (rel.val k).isSome_eq,<- l];exact h _ (I.tok _)
 ·subst ey;cases (show u=Value.ref b from ry);obtain⟨z,hd,xs,rel,dd⟩:=M7 I.hok e;refine wpAny_in_heap (tupleKind_room_in1 hu) (Rx I.hok eb) hd dd ?_;have q:=(rel.val k).isSome_eq;rw[Option.isSome_map] at q;rw[<- q,<- l];exact h _ (I.tok _)
theorem zf6(hu:A.units+1<cLine)(I:Inv X pins σ H s)(g:DGet H a y o)(ry:RelV y u)(h:∀ s',Inv X pins σ H s'->Q (.bool (!o.isSome)) s') :
  wpAny (model X.prog X.w) A (compareOp .NotIn u (.ref a)) Q E s:=by
 rcases g with ⟨kvs,k,e,ey,l⟩|⟨kvs,k,b,e,ey,eb,l⟩
 ·subst ey;obtain⟨z,hd,vs,rel,dd⟩:=Rw I.hok e;refine wpAny_notIn_of (M6 ry) hd dd.mapOf ?_;rw[<- (rel.val k).isSome_eq,<- l];exact h _ (I.tok _)
 ·subst ey;cases (show u=Value.ref b from ry);obtain⟨z,hd,xs,rel,dd⟩:=M7 I.hok e;refine wpAny_notIn_heap (tupleKind_room_in1 hu) (Rx I.hok eb) hd dd ?_;have q:=(rel.val k).isSome_eq;rw[Option.isSome_map] at q;rw[<- q,<- l];exact h _ (I.tok _)
theorem Qv(I:Inv X pins σ H s)(mu:Mut (H a))(hs:Heap.SameBut a s.heap h')(he:∃ q,h'.get? a=some q)(new:Y3 X.prog X.w (upd H a ob) h' a ob) :
  Inv X pins σ (upd H a ob) { s with heap:=h',toks:=t' } :=
 I.write (x:=a) (e:=a) mu (.inl rfl) (fun b q hb z=>(hs.2 b hb).trans z) he new
theorem Fv(z:kvs.length<=sizeLine)(hd:(a == sysModules)=false)(rel:KV kvs vs)(dd:h'.DictOf (Yi P w) a vs) :
  Y3 P w H' h' a (.dK kvs):=⟨z,hd,vs,rel,dd⟩
theorem zbx(hu:A.units+1<cLine)(I:Inv X pins σ H s)(g:DPut H a y v H')(ry:RelV y u)(rv:RelV v r)(h:∀ s',Inv X pins σ H' s'->Q () s') :
  wpAny (model X.prog X.w) A (setItem (.ref a) u r) Q E s:=by
 rcases g with ⟨kvs,k,e,ey,l,eH⟩|⟨kvs,k,b,e,ey,eb,l,eH⟩
 ·subst ey eH;obtain⟨z,hd,vs,rel,dd⟩:=zdx I.hok e;have hz:vs.length<=sizeLine:=by rw[<- rel.length];exact z
  have hl:(putK kvs k v).length<=sizeLine:=by have:=Y7 kvs k v;omega
  refine wpAny_setItem_pairs (hsz:=hz) (M6 ry) dd fun h' dd' hs=>h _ ?_;have he:∃ q,h'.get? a=some q:=let ⟨q,_,_,hq,_⟩:=dd';⟨q,hq⟩;exact Qv I (by rw[e];exact True.intro) hs he (Fv hl hd (rel.put k rv) dd')
 ·subst ey eH;cases (show u=Value.ref b from ry);obtain⟨z,hd,xs,rel,dd⟩:=zdy I.hok e;have hz:xs.length<=sizeLine:=by rw[<- Paired.length rel];exact z
  have hl:(putK kvs k v).length<=sizeLine:=by have:=Y7 kvs k v;omega
  refine wpAny_setItem_heap (hsz:=hz) (tupleKind_room_in1 hu) (Rx I.hok eb) dd fun h' dd' hs=>h _ ?_;obtain⟨q,es,ep,hq,h2,h3,h4,_,h5⟩:=dd';refine Qv I (by rw[e];exact True.intro) hs ⟨q,hq⟩ ⟨hl,hd,_,(rel.put k eb rv).keeps fun c ys ec=>?_,q,es,ep,hq,h2,h3,h4,h5⟩;rw[Zi (Yo ec e (fun z=>nomatch z))];exact ec
end
section
variable{X:Cx}{pins:List (Addr×Obj)}{σ:St}{H:Hp}{s:Shared}{a:Addr}{kvs:List (Key×V)}{k:Key}{u:Value}{A:Around}{E:Value->Shared->Prop}
theorem zjx(I:Inv X pins σ H s)(e:H a=some (.dK kvs))(ry:RelV (kV k) u)(l:valV kvs k=some v)(hm:more=[]\/∃ x,more=[x])
  (h:∀ w' s',Inv X pins σ (upd H a (.dK (Xv kvs k))) s'->RelV v w'->Q w' s'):wpAny (model X.prog X.w) A (call (.builtin "dict.pop") (.ref a :: u :: more)) Q E s:=by
 obtain⟨z,hd,vs,rel,dd⟩:=zdx I.hok e;obtain⟨w',hw,rw'⟩:=RelO.some_of (v:=v) (o:=valueAt vs k) (by rw[<- l];exact rel.val k);have hp:(keyPart u).isSome=true:=by
  cases k with
  | inl i=>obtain⟨t,q⟩:=(show ∃ t,u=Value.int i t from ry);subst q;rfl
  | inr x=>obtain⟨t,q⟩:=(show ∃ t,u=Value.str x t from ry);subst q;rfl
 have ha:argsOk "dict.pop" ⟨.ref a :: u :: more,[]⟩:=by
  rcases hm with q|⟨x,q⟩
  ·subst q;exact PySem.F.args_dict_pop_2 _ _
  ·subst q;exact PySem.F.args_dict_pop_3 _ _ _
 refine call_meetsIn PySem.F.slot_dict_pop dd.typeIs PySem.F.entry_dict_pop ha (meets_dict_pop_there (Yi X.prog X.w) a (M6 ry) more hm hp)
  ⟨vs,w',dd,by rw[<- rel.length];exact z,hw,fun h' dd' hs=>h w' _ ?_ rw'⟩
 have he:∃ q,h'.get? a=some q:=let ⟨q,_,_,hq,_⟩:=dd';⟨q,hq⟩;exact Qv I (by rw[e];exact True.intro) hs he (Fv (zts (Dj kvs k) z) hd (rel.drop k) dd')
theorem zjy(I:Inv X pins σ H s)(e:Rd H a (.dK kvs))(h:∀ t s',Inv X pins σ H s'->Q (.int kvs.length t) s'):wpAny (model X.prog X.w) A (call (.builtin "len") [.ref a]) Q E s:=by
 obtain⟨z,hd,vs,rel,dd⟩:=Rw I.hok e;refine call_len_dict hd dd (by rw[<- rel.length];rw[sizeLine_eq] at z;omega) ?_;rw[<- rel.length];exact h _ _ (I.tok _)
end
def zh8(i:Expr):Prop:=∀ ov iv,subscripted i false ov iv=operate [ov,iv] (getItem ov iv)
theorem zf7{prog:Program}{w:World}{A:Around}{E:Value->Shared->Prop}{s:Shared}{env:Env}{value slice:Expr}{pos:Pos}{T id:String}{Q:Value->Shared->Prop}
  (hl:typeLookup (.type T) "__getitem__"=pure (some (.builtin id))) (hs:zh8 slice)
  (h:wpAny (model prog w) A (eval value env) (fun o s₁=>wpAny (model prog w) A (eval slice env) (fun i s₂=>s₂.TypeIs o T/\wpAny (model prog w) A (getItem o i) Q E s₂) E s₁) E s) :
  wpAny (model prog w) A (eval (.Subscript value slice pos) env) Q E s:=by
 refine Subscript_ (wpAny_mono h (fun o s₁ h₁=>wpAny_mono h₁ (fun i s₂ h₂=>?_) fun _ _ x=>x) fun _ _ x=>x);obtain⟨hT,h₂⟩:=h₂;unfold subscriptTail;refine wpAny_bind ?_;rw[getitemInPython_of_ne hT.not_modules];refine wpAny_bind (wpAny_specialOf hT hl ?_);have fin:wpAny (model prog w) A (subscripted slice false o i) (fun r s₃=>wpAny (model prog w) A (letTemporaryGo value o r >>= fun _=>pure r) Q E s₃) E s₂:=by
  rw[hs o i];exact wpAny_operating (wpAny_mono h₂ (fun r s₃ h₃=>wpAny_bind (wpAny_letTemporaryGo (wpAny_pure h₃))) fun _ _ x=>x)
 first
  | exact wpAny_pure (wpAny_bind fin)
  | exact wpAny_bind (wpAny_pure (wpAny_bind fin))
  | exact wpAny_bind fin
theorem Dk(I:Inv X pins σ H s)(g:DGet H a y o):s.TypeIs (.ref a) "dict":=by
 rcases g with ⟨kvs,k,e,_,_⟩|⟨kvs,k,b,e,_,_,_⟩
 ·obtain⟨_,_,vs,_,dd⟩:=Rw I.hok e;exact dd.typeIs
 ·obtain⟨_,_,xs,_,dd⟩:=M7 I.hok e;exact dd.typeIs
inductive zh9(Q:VK)(x:V)(y:V)(H2:Hp):Prop where
 | mk(a)(v)(_:x=.ref a)(_:DGet H2 a y (some v))(_:Q v H2)
def zhi(td ty:TE):TE:=fun σ H Q=>td σ H fun x H1=>ty σ H1 fun y H2=>zh9 Q x y H2
inductive zjz(Q:VK)(y:V)(x:V)(H2:Hp):Prop where
 | mk(a)(o)(_:x=.ref a)(_:DGet H2 a y o)(_:Q (.bl o.isSome) H2)
def zkx(ty td:TE):TE:=fun σ H Q=>ty σ H fun y H1=>td σ H1 fun x H2=>zjz Q y x H2
inductive zdz(Q:VK)(y:V)(x:V)(H2:Hp):Prop where
 | mk(a)(o)(_:x=.ref a)(_:DGet H2 a y o)(_:Q (.bl (!o.isSome)) H2)
def zf8(ty td:TE):TE:=fun σ H Q=>ty σ H fun y H1=>td σ H1 fun x H2=>zdz Q y x H2
inductive zia(D:Oz)(σ:L2.St)(v:V)(x:V)(y:V)(H3:Hp):Prop where
 | mk(a)(H4)(_:x=.ref a)(_:DPut H3 a y v H4)(_:D.nx σ H4)
def zj0(td ty tv:TE):TS:=fun D σ H=>tv σ H fun v H1=>td σ H1 fun x H2=>ty σ H2 fun y H3=>zia D σ v x y H3
section
variable{X:Cx}{o i e value:Expr}{pos pos' tpos:Pos}{td ty tv:TE}
theorem zf9(hu:X.A.units+1<cLine)(ho:PE X o td)(hi:PE X i ty)(hs:zh8 i):PE X (.Subscript o i pos) (zhi td ty):=by
 intro pins s σ H Q I h;refine zf7 PySem.F.slot_dict_getitem.lookup hs (thn (ho pins s σ H _ I h) fun u s1 ⟨x,H1,I1,rx,q1⟩=>thn (hi pins s1 σ H1 _ I1 q1) fun iv s2 ⟨y,H2,I2,ry,a,v,ex,g,q2⟩=>?_);subst ex;obtain rfl:u=Value.ref a:=rx;exact⟨Dk I2 g,zbw hu I2 g ry fun w' s3 I3 rw'=>⟨v,H2,I3,rw',q2⟩⟩
theorem Pt(hu:X.A.units+1<cLine)(hi:PE X i ty)(ho:PE X o td):PC X .In i o (zkx ty td):=by
 intro pins s σ H Q I h;refine thn (hi pins s σ H _ I h) fun iv s1 ⟨y,H1,I1,ry,q1⟩=>thn (ho pins s1 σ H1 _ I1 q1) fun u s2 ⟨x,H2,I2,rx,a,ov,ex,g,q2⟩=>?_;subst ex;obtain rfl:u=Value.ref a:=rx;exact zkw hu I2 g ry fun s3 I3=>⟨.bl ov.isSome,H2,I3,rfl,q2⟩
theorem N1(hu:X.A.units+1<cLine)(hi:PE X i ty)(ho:PE X o td):PC X .NotIn i o (zf8 ty td):=by
 intro pins s σ H Q I h;refine thn (hi pins s σ H _ I h) fun iv s1 ⟨y,H1,I1,ry,q1⟩=>thn (ho pins s1 σ H1 _ I1 q1) fun u s2 ⟨x,H2,I2,rx,a,ov,ex,g,q2⟩=>?_;subst ex;obtain rfl:u=Value.ref a:=rx;exact zf6 hu I2 g ry fun s3 I3=>⟨.bl (!ov.isSome),H2,I3,rfl,q2⟩
theorem Yn(hu:X.A.units+1<cLine)(ho:PE X o td)(hi:PE X i ty)(hv:PE X value tv)(hs:swapsWith value (some (.Subscript o i pos')) pos.line X.env=pure false) :
  PS X (.Assign [.Subscript o i pos'] value pos) (zj0 td ty tv):=by
 intro pins s σ H D I h;refine wpAny_Assign_Subscript (thn (hv pins s σ H _ I h) fun r s1 ⟨v,H1,I1,rv,q1⟩=>thn (ho pins s1 σ H1 _ I1 q1) fun u s2 ⟨x,H2,I2,rx,q2⟩=>thn (hi pins s2 σ H2 _ I2 q2) fun iv s3 ⟨y,H3,I3,ry,a,H4,ex,g,q3⟩=>?_) hs;subst ex;obtain rfl:u=Value.ref a:=rx;exact zbx hu I3 g ry rv fun s4 I4=>⟨σ,H4,I4,q3⟩
end
theorem Dl(h:Heap)(hb:sysModules<h.objs.size):Y3 P w H (h.push { cls:=.type "dict",data:=.dict #[] }) h.objs.size (.dK []) :=
 ⟨zt4 _,zt0.mpr (Ne.symm (zt2 hb)),[],.nil,Heap.DictOf.new h⟩
theorem Dm(h:Heap)(hb:sysModules<h.objs.size):Y3 P w H (h.push { cls:=.type "dict",data:=.dict #[] }) h.objs.size (.dT []) :=
 ⟨zt4 _,zt0.mpr (Ne.symm (zt2 hb)),[],.nil,_,#[],0,Heap.get?_push_size _ rfl,⟨rfl,rfl,rfl⟩,rfl,rfl,zu5⟩
def zib:TE:=fun _ H Q=>∀ p,H p=none->Q (.ref p) (upd H p (.dK []))
def zic:TE:=fun _ H Q=>∀ p,H p=none->Q (.ref p) (upd H p (.dT []))
section
variable{X:Cx}{pos:Pos}
theorem Kw:PE X (.Dict [] [] pos) zib:=fun pins s σ H Q I h =>
 wpAny_Dict_empty ⟨.ref s.heap.objs.size,_,I.laid (a:=s.heap.objs.size) (o:=.dK []) (t':=s.toks) (fun _ _ q=>Heap.get?_push_of_some _ q) (ztm _) (Dl s.heap I.big),rfl,h _ (I.hok.fresh (ztm _))⟩
theorem O2:PE X (.Dict [] [] pos) zic:=fun pins s σ H Q I h =>
 wpAny_Dict_empty ⟨.ref s.heap.objs.size,_,I.laid (a:=s.heap.objs.size) (o:=.dT []) (t':=s.toks) (fun _ _ q=>Heap.get?_push_of_some _ q) (ztm _) (Dm s.heap I.big),rfl,h _ (I.hok.fresh (ztm _))⟩
end
def B0:List (TE×TE)->St->Hp->(List (V×V)->Hp->Prop)->Prop
 | [],_,H,Q=>Q [] H
 | (tk,tv) :: r,σ,H,Q=>tk σ H fun x H1=>tv σ H1 fun y H2=>B0 r σ H2 fun ps H3=>Q ((x,y) :: ps) H3
abbrev VV:List (V×V)->List (Value×Value)->Prop:=Paired fun p q=>RelV p.1 q.1/\RelV p.2 q.2
def PPs(X:Cx)(pos:Pos)(keys:List (Option Expr))(values:List Expr)(trs:List (TE×TE)):Prop :=
 ∀ (pins:List (Addr×Obj)) (s:Shared) (σ:St) (H:Hp) (Q:List (V×V)->Hp->Prop),Inv X pins σ H s->B0 trs σ H Q ->
   wpAny (model X.prog X.w) X.A (evalPairs (pairTrees keys values X.env pos)) (fun vs s'=>∃ ps H',Inv X pins σ H' s'/\VV ps vs/\Q ps H') X.xe s
theorem Fw:PPs X pos [] [] []:=fun pins s σ H Q I h=>pairTrees_nil_walk ⟨[],H,I,.nil,h⟩
theorem V9(hk:PE X k tk)(hv:PE X v tv)(hr:PPs X pos ks vs trs) :
  PPs X pos (some k :: ks) (v :: vs) ((tk,tv) :: trs):=fun pins s σ H Q I h =>
 pairTrees_cons_walk (thn (hk pins s σ H _ I h) fun u s1 ⟨x,H1,I1,rx,q1⟩=>thn (hv pins s1 σ H1 _ I1 q1) fun w2 s2 ⟨y,H2,I2,ry,q2⟩ =>
  thn (hr pins s2 σ H2 _ I2 q2) fun ws s3 ⟨ps,H3,I3,rel,q3⟩=>⟨(x,y) :: ps,H3,I3,.cons ⟨rx,ry⟩ rel,q3⟩)
def Ss(kvs more:List (Key×V)):List (Key×V):=more.foldl (fun acc kv=>putK acc kv.1 kv.2) kvs
theorem KV.merge:∀ {more:List (Key×V)} {rs:List (Key×Value)} {kvs:List (Key×V)} {vs:List (Key×Value)},KV more rs->KV kvs vs->KV (Ss kvs more) (merged vs rs):=by
 intro more rs kvs vs r;unfold KV at r
 induction r generalizing kvs vs with
 | nil=>intro q;exact q
 | @cons p q ps qs h t ih =>
   intro r0;have e:KV (putK kvs p.1 p.2) (stored vs q.1 q.2):=by
    have:=r0.put p.1 h.2;rw[<- h.1];exact this
   exact ih e
theorem Pk:∀ (more kvs:List (Key×V)),(Ss kvs more).length<=kvs.length+more.length
 | [],kvs=>by show kvs.length<=kvs.length+0;omega
 | p :: r,kvs=>by
   have h1:=Pk r (putK kvs p.1 p.2);have h2:=Y7 kvs p.1 p.2;show (Ss (putK kvs p.1 p.2) r).length<=_;rw[ztt];omega
theorem Kx:∀ {kvs:List (Key×V)} {ws:List (Value×Value)},VV (kvs.map fun kv=>(kV kv.1,kv.2)) ws->∃ rs,Carries (Yi P w) ws rs/\KV kvs rs
 | [],_,r=>by rw[List.map_nil] at r;cases r;exact⟨[],True.intro,.nil⟩
 | p :: kvs,_,r=>by
   rw[zto] at r;cases r with
   | @cons a b as bs h t =>
     obtain⟨rs,c,q⟩:=Kx (P:=P) (w:=w) t;obtain⟨b1,b2⟩:=b;exact⟨(p.1,b2) :: rs,⟨M6 h.1,rfl,c⟩,.cons ⟨rfl,h.2⟩ q⟩
def zj1(trs:List (TE×TE)):TE:=fun σ H Q=>∀ p,H p=none->B0 trs σ (upd H p (.dK [])) fun ps H2=>H2 p=some (.dK [])/\∃ kvs:List (Key×V),ps=kvs.map (fun kv=>(kV kv.1,kv.2))/\kvs.length<=15/\Q (.ref p) (upd H2 p (.dK (Ss [] kvs)))
theorem zaf(h:PPs X pos keys values trs)(hall:keys.all (·.isSome)=true)(hl:keys.length=values.length)(h0:keys≠[])
  (h15:keys.length<=15):PE X (.Dict keys values pos) (zj1 trs):=by
 intro pins s σ H Q I q;have hn:=I.hok.fresh (ztm s.heap.objs.size);have I1:=I.laid (a:=s.heap.objs.size) (o:=.dK []) (h':=s.heap.push { cls:=.type "dict",data:=.dict #[] }) (t':=s.toks) (fun _ _ q=>Heap.get?_push_of_some _ q) (ztm _) (Dl s.heap I.big);refine wpAny_Dict_walk (knd:=Yi X.prog X.w) hall hl h0 h15 (thn (h pins _ σ _ _ I1 (q _ hn)) fun ws s2 ⟨ps,H2,I2,rel,e,kvs,ep,lk,q2⟩=>?_);subst ep;obtain⟨rs,c,rk⟩:=Kx (P:=X.prog) (w:=X.w) rel;obtain⟨z,hd,vs0,r0,dd⟩:=zdx I2.hok e;cases r0;refine⟨rs,c,dd,fun h' dd' hs=>⟨.ref s.heap.objs.size,_,?_,rfl,q2⟩⟩;have hz:(Ss [] kvs).length<=sizeLine:=by
  have h1:=Pk kvs [];rw[zvh] at h1;rw[sizeLine_eq];omega
 have he:∃ q,h'.get? s.heap.objs.size=some q:=let ⟨q,_,_,hq,_⟩:=dd';⟨q,hq⟩;exact Qv I2 (by rw[e];exact True.intro) hs he (Fv hz hd (rk.merge .nil) dd')
structure M1(X:Cx)(o:Expr)(m:Str)(apos:Pos)(e:Expr)(cpos:Pos):Prop where
 base:attributeBase o m X.env (eval o X.env)=eval o X.env
 few:((backTo cpos (starEach [e] X.env)).all (fun x=>!x.1)&&(backToKw cpos (keywordEach [] X.env)).all (fun x=>x.1.isSome)
  && decide (([e]:List Expr).length+([]:List Keyword).length+(if ([]:List Keyword).isEmpty then 0 else 1)<30))=true
 line:(apos.endLine == cpos.line)=true
 trees:backTo cpos (starEach [e] X.env)=[(false,eval e X.env)]
structure M2(X:Cx)(o:Expr)(m:Str)(apos:Pos)(e f:Expr)(cpos:Pos):Prop where
 base:attributeBase o m X.env (eval o X.env)=eval o X.env
 few:((backTo cpos (starEach [e,f] X.env)).all (fun x=>!x.1)&&(backToKw cpos (keywordEach [] X.env)).all (fun x=>x.1.isSome)
  && decide (([e,f]:List Expr).length+([]:List Keyword).length+(if ([]:List Keyword).isEmpty then 0 else 1)<30))=true
 line:(apos.endLine == cpos.line)=true
 trees:backTo cpos (starEach [e,f] X.env)=[(false,eval e X.env),(false,eval f X.env)]
def IsD(H:Hp)(a:Addr):Prop:=(∃ kvs,Rd H a (.dK kvs))\/∃ kvs,Rd H a (.dT kvs)
theorem B1(I:Inv X pins σ H s)(d:IsD H a) :
  s.TypeIs (.ref a) "dict"/\(∀ b,Value.ref a=.ref b->∃ ob,s.heap.get? b=some ob/\ob.dict=none)/\(a == sysModules)=false:=by
 rcases d with ⟨kvs,e⟩|⟨kvs,e⟩
 ·obtain⟨_,hd,vs,_,dd⟩:=Rw I.hok e;refine⟨dd.typeIs,fun b q=>?_,hd⟩;cases q;obtain⟨ob,_,_,h1,h2,_⟩:=dd;exact⟨ob,h1,h2.2.1⟩
 ·obtain⟨_,hd,xs,_,dd⟩:=M7 I.hok e;refine⟨dd.typeIs,fun b q=>?_,hd⟩;cases q;obtain⟨ob,_,_,h1,h2,_⟩:=dd;exact⟨ob,h1,h2.2.1⟩
section
variable{X:Cx}{pins:List (Addr×Obj)}{σ:St}{H:Hp}{s:Shared}{a:Addr}{y d:V}{u r:Value}{o:Option V}{A:Around}{E:Value->Shared->Prop}
theorem zid(hu:A.units+1<cLine)(I:Inv X pins σ H s)(g:DGet H a y o)(ry:RelV y u)(rd:RelV d r)(h:∀ w' s',Inv X pins σ H s'->RelV (o.getD d) w'->Q w' s') :
  wpAny (model X.prog X.w) A (call (.builtin "dict.get") [.ref a,u,r]) Q E s:=by
 rcases g with ⟨kvs,k,e,ey,l⟩|⟨kvs,k,b,e,ey,eb,l⟩
 ·subst ey;obtain⟨z,hd,vs,rel,dd⟩:=Rw I.hok e;refine call_meetsIn PySem.F.slot_dict_get dd.typeIs PySem.F.entry_dict_get (PySem.F.args_dict_get_3 _ _ _) (meets_dict_get_default (Yi X.prog X.w) a (M6 ry) hd r) ⟨_,dd.mapOf,h _ _ (I.tok _) ?_⟩;rw[l];exact(rel.val k).getD rd
 ·subst ey;cases (show u=Value.ref b from ry);obtain⟨z,hd,xs,rel,dd⟩:=M7 I.hok e;refine call_meetsIn PySem.F.slot_dict_get dd.typeIs PySem.F.entry_dict_get (PySem.F.args_dict_get_3 _ _ _) (meetsH_dict_get_default (tupleKind (Yi X.prog X.w)) a b hd r) ⟨tupleKind_room_in1 hu,k,xs,Rx I.hok eb,dd,h _ _ (I.tok _) ?_⟩;rw[l];exact(rel.val k).getD rd
end
inductive zga(ty:TE)(tx:TE)(σ:L2.St)(Q:VK)(x:V)(H1:Hp):Prop where
 | mk(a)(_:x=.ref a)(_:IsD H1 a)(_:ty σ H1 fun y H2=>tx σ H2 fun z H3=>∃ o,DGet H3 a y o/\Q (o.getD z) H3)
def zie(td ty tx:TE):TE:=fun σ H Q=>td σ H fun x H1=>zga ty tx σ Q x H1
inductive zgb(ty:TE)(σ:L2.St)(Q:VK)(x:V)(H1:Hp):Prop where
 | mk(a)(_:x=.ref a)(_:IsD H1 a)(_:ty σ H1 fun y H2=>∃ kvs k v,H2 a=some (.dK kvs)/\y=kV k/\valV kvs k=some v/\Q v (upd H2 a (.dK (Xv kvs k))))
def zif(td ty:TE):TE:=fun σ H Q=>td σ H fun x H1=>zgb ty σ Q x H1
section
variable{X:Cx}{o e f:Expr}{apos cpos:Pos}{td ty tx:TE}
theorem Ky(hu:X.A.units+1<cLine)(ho:PE X o td)(he:PE X e ty)(hf:PE X f tx)(m:M2 X o "get" apos e f cpos):PE X (.Call (.Attribute o "get" apos) [e,f] [] cpos) (zie td ty tx):=by
 intro pins s σ H Q I h;refine wpAny_Call_method m.base m.few m.line PySem.F.plainAttrs_dict PySem.F.slot_dict_get PySem.F.type_dict_get (thn (ho pins s σ H _ I h) fun u s1 ⟨x,H1,I1,rx,a,ex,d,q1⟩=>?_);subst ex;obtain rfl:u=Value.ref a:=rx;obtain⟨t1,t2,_⟩:=B1 I1 d;refine⟨t1,t2,?_⟩;rw[m.trees];refine Calls.callWith_builtin rfl (Calls.evalArgs_plain (Calls.spliced_cons (thn (he pins s1 σ H1 _ I1 q1) fun iv s2 ⟨y,H2,I2,ry,q2⟩ =>
  Calls.spliced_cons (thn (hf pins s2 σ H2 _ I2 q2) fun fv s3 ⟨z,H3,I3,rz,ov,g,q3⟩=>Calls.spliced_nil ?_))))
 exact zid hu I3 g ry rz fun w' s4 I4 rw'=>⟨_,H3,I4,rw',q3⟩
theorem zd0(ho:PE X o td)(he:PE X e ty)(m:M1 X o "pop" apos e cpos):PE X (.Call (.Attribute o "pop" apos) [e] [] cpos) (zif td ty):=by
 intro pins s σ H Q I h;refine wpAny_Call_method m.base m.few m.line PySem.F.plainAttrs_dict PySem.F.slot_dict_pop PySem.F.type_dict_pop (thn (ho pins s σ H _ I h) fun u s1 ⟨x,H1,I1,rx,a,ex,d,q1⟩=>?_);subst ex;obtain rfl:u=Value.ref a:=rx;obtain⟨t1,t2,_⟩:=B1 I1 d;refine⟨t1,t2,?_⟩;rw[m.trees];refine Calls.callWith_builtin rfl (Calls.evalArgs_plain (Calls.spliced_cons (thn (he pins s1 σ H1 _ I1 q1) fun iv s2 ⟨y,H2,I2,ry,kvs,k,v,ea,ey,l,q2⟩=>Calls.spliced_nil ?_)));subst ey;exact zjx I2 ea ry l (.inl rfl) fun w' s3 I3 rw'=>⟨v,_,I3,rw',q2⟩
end
section
variable{X:Cx}{pins:List (Addr×Obj)}{σ:St}{H:Hp}{s:Shared}{a:Addr}{kvs:List (Key×V)}{A:Around}{E:Value->Shared->Prop}
theorem zd1(I:Inv X pins σ H s)(e:Rd H a (.dK kvs))(h:∀ p s',H p=none->Inv X pins σ (upd H p (.dK kvs)) s'->Q (.ref p) s'):wpAny (model X.prog X.w) A (call (.type "dict") [.ref a]) Q E s:=by
 obtain⟨z,hd,vs,rel,dd⟩:=Rw I.hok e;refine kt_call_dict hd dd (by rw[<- rel.length];exact z) fun h' dd' hs=>?_;refine h _ _ (I.hok.fresh (ztm _)) (I.laid (a:=s.heap.objs.size) (o:=.dK kvs) (t':=s.toks) (fun b q hq=>?_) (ztm _) (Fv z (zt0.mpr (Ne.symm (zt2 I.big))) rel dd'));exact(hs.2 b (zt2 (Heap.lt_size hq))).trans (Heap.get?_push_of_some _ hq)
end
end L2
namespace HT
open PySem PyProof.Rows
section
open PySem.SeqAt
open PySem.AutoSeq1 (wpAny_loadPart')
open PySem.MeetsSeq PySem.MeetsSeq2 PySem.MeetsSeq3
end
section
variable{prog:Program}{w:World}{A:Around}{E:Value->Shared->Prop}{s:Shared}
theorem cat_tup(ht:IsTup s.heap t vs.toArray)(hb:IsTup s.heap b ws.toArray)(hv:vs≠[])
  (h1:ws=[]->Q (.ref t) s) (h2:ws≠[]->Q (.ref s.heap.objs.size) { s with heap:=s.heap.push { cls:=.type "tuple",data:=.seq (vs++ws).toArray } })
  (hsz:vs.length+ws.length<=sizeLine):wpAny (model prog w) A (binaryOp .Add (.ref t) (.ref b)) Q E s:=by
 obtain⟨⟨cls,dd,data,sl⟩,ho,hc,n,hd⟩:=id ht;obtain⟨⟨cls2,dd2,data2,sl2⟩,ho2,hc2,n2,hd2⟩:=id hb;simp only at hc hd hc2 hd2;subst hc hd hc2 hd2;have e:vs.toArray++ws.toArray=(vs++ws).toArray:=by simp
 by_cases hw:ws=[]
 ·exact concat_meets ⟨_,ho,rfl⟩ ⟨_,ho2,rfl⟩ noFill_tuple_add seq_tuple_add PySem.F.slot_tuple_add PySem.F.entry_tuple_add (PySem.F.args_tuple_add_2 _ _)
   (tuple_addW1 t b vs.toArray ws.toArray n n2 dd dd2 sl sl2 (by simpa using hv) (by simp[hw])) ⟨ho,ho2,h1 hw⟩
 ·refine concat_meets ⟨_,ho,rfl⟩ ⟨_,ho2,rfl⟩ noFill_tuple_add seq_tuple_add PySem.F.slot_tuple_add PySem.F.entry_tuple_add (PySem.F.args_tuple_add_2 _ _)
   (tuple_addW2 t b vs.toArray ws.toArray n n2 dd dd2 sl sl2 (by simpa using hv) (by simpa using hw) (by rw[ztp,ztp];exact hsz)) ⟨ho,ho2,?_⟩
  rw[e];exact h2 hw
def sIx(n d:Nat):Option Int->Nat
 | none=>d
 | some v=>if v<0 then (v+(n:Int)).toNat else min v.toNat n
theorem sIx_none(n d:Nat):sIx n d none=d:=rfl
theorem sIx_nat(n d k:Nat):sIx n d (some (k:Int))=min k n:=by
 show (if (k:Int)<0 then ((k:Int)+(n:Int)).toNat else min (k:Int).toNat n)=min k n;rw[if_neg ⋯,ztv]
end
end HT
namespace L2
open PySem PySem.Spec PyProof.Rows
abbrev TO:=St->Hp->(Option Int->Hp->Prop)->Prop
def PO(X:Cx)(e:Option Expr)(t:TO):Prop :=
 ∀ (pins:List (Addr×Obj)) (s:Shared) (σ:St) (H:Hp) (Q:Option Int->Hp->Prop),Inv X pins σ H s->t σ H Q ->
   wpAny (model X.prog X.w) X.A (evalPart e X.env) (fun u s'=>∃ o H',Inv X pins σ H' s'/\IsPart u o/\Q o H') X.xe s
def zgc:TO:=fun _ H Q=>Q none H
inductive zig(Q:Option Int->Hp->Prop)(x:V)(H1:Hp):Prop where
 | mk(i)(_:x=.int i)(_:Q (some i) H1)
def zj2(t:TE):TO:=fun σ H Q=>t σ H fun x H1=>zig Q x H1
section
variable{X:Cx}{e:Expr}{te:TE}{lo hi:Option Expr}{tl th:TO}{pos p2:Pos}
theorem zag:PO X none zgc:=by
 intro pins s σ H Q I h;rw[evalPart_none];exact wpAny_pure ⟨none,H,I,.none,h⟩
theorem zah(h:PE X e te):PO X (some e) (zj2 te):=by
 intro pins s σ H Q I hw;rw[evalPart_some];refine thn (h pins s σ H _ I hw) fun u s1 ⟨x,H1,I1,r1,q1⟩=>?_;obtain⟨i,rfl,q⟩:=q1;obtain⟨t,rfl⟩:=r1;exact⟨some i,H1,I1,.int i t,q⟩
def SlR(X:Cx)(r:V->Option Int->Option Int->Hp->VK->Prop):Prop :=
 ∀ (pins:List (Addr×Obj)) (s:Shared) (σ:St) (H:Hp) (x:V) (v vl vu:Value) (lo hi:Option Int) (sl:Addr) (Q:VK),Inv X pins σ H s->RelV x v->s.heap.IsSliceOf sl vl vu .none->IsPart vl lo->IsPart vu hi->r x lo hi H Q ->
   ∃ T id,typeLookup (.type T) "__getitem__"=pure (some (.builtin id))/\s.TypeIs v T/\wpAny (model X.prog X.w) X.A (getItem v (.ref sl)) (EP X pins σ Q) X.xe s
def tSl(r:V->Option Int->Option Int->Hp->VK->Prop)(te:TE)(tl th:TO):TE:=fun σ H Q=>te σ H fun x H1=>tl σ H1 fun l H2=>th σ H2 fun u H3=>r x l u H3 Q
theorem Dp(hr:SlR X r)(he:PE X e te)(hl:PO X lo tl)(hu:PO X hi th):PE X (.Subscript e (.Slice lo hi none p2) pos) (tSl r te tl th):=by
 intro pins s σ H Q I h;refine Subscript_ (thn (he pins s σ H _ I h) fun v s1 ⟨x,H1,I1,r1,q1⟩=>?_);refine wpAny_Slice (thn (hl pins s1 σ H1 _ I1 q1) fun vl s2 ⟨l,H2,I2,pl,q2⟩=>thn (hu pins s2 σ H2 _ I2 q2) fun vu s3 ⟨u,H3,I3,pu,q3⟩=>?_);rw[evalPart_none];refine wpAny_pure ?_;have I4:Inv X pins σ H3 { s3 with heap:=s3.heap.push { cls:=.type "slice",data:=.fields #[vl,vu,.none] } }:=I3.kept (t':=s3.toks) fun b ob q=>Heap.get?_push_of_some _ q;obtain⟨T,id,hT,ht,hg⟩:=hr pins { s3 with heap:=s3.heap.push { cls:=.type "slice",data:=.fields #[vl,vu,.none] } } σ H3 x v vl vu l u s3.heap.objs.size Q I4 r1 (Heap.IsSliceOf.new ..) pl pu q3;show wpAny (model X.prog X.w) X.A (subscriptTail e (.Slice lo hi none p2) v (.ref s3.heap.objs.size)) (EP X pins σ Q) X.xe { s3 with heap:=s3.heap.push { cls:=.type "slice",data:=.fields #[vl,vu,.none] } };exact tail_any (ops:=[.ref s3.heap.objs.size,v]) ht hT hg (by with_unfolding_all rfl)
def Io(xs:List V)(lo hi:Option Int):List V:=(xs.drop (HT.sIx xs.length 0 lo)).take (HT.sIx xs.length xs.length hi-HT.sIx xs.length 0 lo)
theorem Dq(xs:List V)(lo hi:Option Int):(Io xs lo hi).length<=xs.length:=by
 unfold Io;rw[zu1,List.length_drop];omega
inductive zhj(K:Frag)(x:V)(y:V)(H:Hp)(Q:VK):Prop where
 | mk(a)(b)(xs)(ys)(_:x=.ref a)(_:y=.ref b)(_:SqT K H a xs)(_:SqT K H b ys)(_:xs≠[])(_:xs.length+ys.length<=sizeLine)(_:(ys=[]->Q (.ref a) H))(_:(ys≠[]->∀ p,H p=none->Q (.ref p) (upd H p (.tup (xs++ys)))))
theorem Vals.nil_iff(r:Vals xs us):us=[]↔xs=[]:=by
 cases r with
 | nil=>simp
 | cons _ _=>simp
theorem zgd:OpR X (binaryOp .Add) (zhj X.K):=by
 intro pins s σ H x y v u Q I rx ry h;obtain⟨a,b,xs,ys,rfl,rfl,ha,hb,hx,hz,q1,q2⟩:=h;cases rx;cases ry;obtain⟨its,r1,p1,_⟩:=I.tuple ha;obtain⟨its2,r2,p2,_⟩:=I.tuple hb;refine HT.cat_tup p1 p2 (fun z=>hx (r1.nil_iff.mp z)) (fun z=>⟨.ref a,H,I,rfl,q1 (r2.nil_iff.mp z)⟩) (fun z=>?_) (by rw[<- r1.length,<- r2.length];exact hz);refine⟨.ref s.heap.objs.size,_,I.laid (t':=s.toks) (o:=.tup (xs++ys)) (fun b ob q=>Heap.get?_push_of_some _ q) (ztm _) ?_,rfl,q2 (fun w=>z (r2.nil_iff.mpr w)) _ (I.hok.fresh (ztm _))⟩;exact⟨by rw[ztc];exact hz,_,r1.append r2,IsTup.new _ _⟩
end
def ixN(n:Nat)(i:Int):Option Nat:=if 0<=i then (if i<n then some i.toNat else none) else if -(n:Int)<=i then some (i+n).toNat else none
def atI{α:Type}(xs:List α)(i:Int):Option α:=(ixN xs.length i).bind fun j=>xs[j]?
theorem zai(h:ixN n i=some j):seqIndex? i n=some j/\j<n/\-(n:Int)<=i/\i<n:=by
 unfold ixN at h;by_cases h0:0<=i
 ·rw[if_pos h0] at h;by_cases h1:i<n
  ·rw[if_pos h1] at h;have e:i.toNat=j:=Option.some.inj h;exact⟨by rw[seqIndex_of h0 h1,e],by omega,by omega,h1⟩
  ·rw[if_neg h1] at h;cases h
 ·rw[if_neg h0] at h;by_cases h1:-(n:Int)<=i
  ·rw[if_pos h1] at h;have e:(i+n).toNat=j:=Option.some.inj h;exact⟨by rw[seqIndex_neg ⋯ h1,e],by omega,h1,by omega⟩
  ·rw[if_neg h1] at h;cases h
theorem zaj(h:atI xs i=some v):∃ j,seqIndex? i xs.length=some j/\xs[j]?=some v/\j<xs.length/\-(xs.length:Int)<=i/\i<xs.length:=by
 unfold atI at h;cases e:ixN xs.length i with
 | none=>rw[e] at h;cases h
 | some j =>
   rw[e] at h;obtain⟨h1,h2,h3,h4⟩:=zai e;exact⟨j,h1,h,h2,h3,h4⟩
theorem Yf{α:Type}{xs:List α}{j:Nat}{v:α}(h:xs[j]?=some v):atI xs (j:Int)=some v:=by
 have hj:j<xs.length:=(ztd.mp h).1;have e:ixN xs.length (j:Int)=some j:=by
  unfold ixN;rw[if_pos ⋯,if_pos ⋯];simp
 unfold atI;rw[e];exact h
theorem atI_last(xs:List α)(v:α):atI (xs++[v]) (-1)=some v:=by
 have hl:(xs++[v]).length=xs.length+1:=by simp
 have e:ixN (xs++[v]).length (-1)=some xs.length:=by
  unfold ixN;rw[hl,if_neg ⋯,if_pos ⋯]
  congr 1
  omega
 unfold atI;rw[e];show (xs++[v])[xs.length]?=some v;simp
def zak(b:Expr):Prop:=∀ o i,subscripted b false o i=operate [o,i] (getItem o i)
def IxR(X:Cx)(r:R2):Prop :=
 ∀ (value slice:Expr) (pins:List (Addr×Obj)) (s:Shared) (σ:St) (H:Hp) (x y:V) (v u:Value) (Q:VK),Inv X pins σ H s->RelV x v->RelV y u->r x y H Q ->
   subscripted slice false v u=operate [v,u] (getItem v u)->wpAny (model X.prog X.w) X.A (subscriptTail value slice v u) (EP X pins σ Q) X.xe s
def MtR(X:Cx)(id:String)(r:V->List V->Hp->VK->Prop):Prop :=
 ∀ (pins:List (Addr×Obj)) (s:Shared) (σ:St) (H:Hp) (x:V) (xs:List V) (v:Value) (us:List Value) (Q:VK),Inv X pins σ H s->RelV x v->Vals xs us->r x xs H Q ->
   wpAny (model X.prog X.w) X.A (call (.builtin id) (v :: us)) (EP X pins σ Q) X.xe s
section
variable{X:Cx}{a b:Expr}{ta tb:TE}{pos:Pos}
theorem zj3(hr:IxR X r)(ha:PE X a ta)(hb:PE X b tb)(hs:zak b):PE X (.Subscript a b pos) (tOp r ta tb):=by
 intro pins s σ H Q I h;exact Subscript_ (binT ha hb I h fun v u s2 x y H2 I2 rx ry q=>hr a b pins s2 σ H2 x y v u Q I2 rx ry q (hs _ _))
inductive Ip(K:Frag)(x:V)(y:V)(H:Hp)(Q:VK):Prop where
 | mk(p)(xs)(i)(v)(_:x=.ref p)(_:y=.int i)(_:SqL K H p xs)(_:atI xs i=some v)(_:Q v H)
inductive zby(K:Frag)(x:V)(y:V)(H:Hp)(Q:VK):Prop where
 | mk(p)(xs)(i)(v)(_:x=.ref p)(_:y=.int i)(_:SqT K H p xs)(_:atI xs i=some v)(_:Q v H)
theorem zge:IxR X (Ip X.K):=by
 intro value slice pins s σ H x y v u Q I rx ry h hs;obtain⟨p,xs,i,z,rfl,rfl,hq,he,q⟩:=h;cases rx;obtain⟨t,rfl⟩:=ry;obtain⟨its,r,pl,hz⟩:=I.list hq;obtain⟨j,h1,h2,h3,h4,h5⟩:=zaj he;obtain⟨w,ew,rw'⟩:=r.get h2;have hl:=r.length;have hn:=Pr;have fin:EP X pins σ Q w s:=⟨z,H,I,rw',q⟩;by_cases h0:0<=i
 ·have hj:i.toNat=j:=by
   rw[seqIndex_of h0 h5] at h1;exact Option.some.inj h1
  exact item_listR pl.isList h0 ⋯ (by rw[hj];simpa using ew) fin hs
 ·have hj:(i+(its.toArray.size:Int)).toNat=j:=by
   rw[seqIndex_neg ⋯ h4] at h1;rw[ztp,<- hl];exact Option.some.inj h1
  exact subscriptTail_builtinR (x:=w) pl.isList.typeIs slot_list_getitem.lookup
   (wpAny_getItem_list_neg (Q:=fun r s'=>r=w/\EP X pins σ Q r s') pl.isList ⋯ (by rw[ztp]<;>omega) ⋯ (by rw[hj];simpa using ew) ⟨rfl,fin⟩) hs
theorem zih:IxR X (zby X.K):=by
 intro value slice pins s σ H x y v u Q I rx ry h hs;obtain⟨p,xs,i,z,rfl,rfl,hq,he,q⟩:=h;cases rx;obtain⟨t,rfl⟩:=ry;obtain⟨its,r,pl,hz⟩:=I.tuple hq;obtain⟨j,h1,h2,h3,h4,h5⟩:=zaj he;obtain⟨w,ew,rw'⟩:=r.get h2;have hl:=r.length;have hn:=Pr;have fin:EP X pins σ Q w s:=⟨z,H,I,rw',q⟩;exact subscriptTail_builtinR (x:=w) pl.typeIs slot_tuple_getitem.lookup
  (getItem_tuple (j:=j) (Q:=fun r s'=>r=w/\EP X pins σ Q r s') pl ⋯ ⋯ (by rw[ztp,<- hl];exact h1) (by simpa using ew) ⟨rfl,fin⟩) hs
theorem B2(its:List Value)(n j:Nat)(u:Value):Obj.mapSeq (·.setIfInBounds j u) { cls:=.type "list",data:=.seq its.toArray n }={ cls:=.type "list",data:=.seq (its.set j u).toArray n }:=by
 simp[Obj.mapSeq]
theorem Inv.lst(I:Inv X pins σ H s)(h:H p=some (.lst xs)) :
  ∃ (its:List Value) (n:Nat),Vals xs its/\s.heap.get? p=some { cls:=.type "list",data:=.seq its.toArray n }/\xs.length<=sizeLine:=by
 obtain⟨z,its,n,r,e⟩:=I.hok p _ h;exact⟨its,n,r,e,z⟩
theorem Inv.lstUpd{pins:List (Addr×Obj)}{σ:St}{H:Hp}{s:Shared}{p:Addr}{xs ys:List V}{its its':List Value}{n n':Nat}{f:Obj->Obj}(I:Inv X pins σ H s)(h:H p=some (.lst xs))
  (ho:s.heap.get? p=some { cls:=.type "list",data:=.seq its.toArray n }) (hf:f { cls:=.type "list",data:=.seq its.toArray n }={ cls:=.type "list",data:=.seq its'.toArray n' }) (r:Vals ys its') (hz:ys.length<=sizeLine) (t:Nat) :
  Inv X pins σ (upd H p (.lst ys)) { s with heap:=s.heap.update p f,toks:=t }:=by
 have e:(s.heap.update p f).get? p=some { cls:=.type "list",data:=.seq its'.toArray n' }:=by
  rw[Heap.get?_update_self f ho (by rw[hf]<;>rfl),hf]
 refine I.write (x:=p) (e:=p) (by rw[h];trivial) (.inl rfl) (fun b u hb q=>(Heap.get?_update_other _ _ (Ne.symm hb)).trans q) ⟨_,e⟩ ?_;exact⟨hz,its',n',r,e⟩
def zj4:V->V->V->Hp->(Hp->Prop)->Prop:=fun o i v H Q=>∃ p xs k j,o=.ref p/\i=.int k/\H p=some (.lst xs)/\ixN xs.length k=some j/\Q (upd H p (.lst (xs.set j v)))
theorem zd2:zjk X zj4:=by
 intro pins s σ H o i v ov iv u Q I ro ri rv h;obtain⟨p,xs,k,j,rfl,rfl,hp,hj,q⟩:=h;cases ro;obtain⟨t,rfl⟩:=ri;obtain⟨its,n,r,ho,hz⟩:=I.lst hp;obtain⟨h1,h2,h3,h4⟩:=zai hj;have hl:=r.length;have hn:=Pr;have I':Inv X pins σ (upd H p (.lst (xs.set j v))) { s with heap:=s.heap.update p (Obj.mapSeq (·.setIfInBounds j u)) } :=
  I.lstUpd hp ho (B2 its n j u) (r.set rv j) (by rw[zut];exact hz) s.toks
 by_cases h0:0<=k
 ·have hk:k.toNat=j:=by
   rw[seqIndex_of h0 h4] at h1;exact Option.some.inj h1
  exact PySem.W.ki_setAt ho h0 ⋯ (by rw[ztp,<- hl];exact h4) (by rw[hk];exact⟨_,I',q⟩)
 ·have hk:(k+(its.toArray.size:Int)).toNat=j:=by
   rw[seqIndex_neg ⋯ h3] at h1;rw[ztp,<- hl];exact Option.some.inj h1
  exact PySem.W.ki_setBack ho ⋯ (by rw[ztp,<- hl];exact h3) ⋯ (by rw[hk];exact⟨_,I',q⟩)
theorem Fx(lo hi:Option Int)(n:Nat):(sliceBounds lo hi none n).1=((HT.sIx n 0 lo:Nat):Int)/\(sliceBounds lo hi none n).2.1=((HT.sIx n n hi:Nat):Int)/\(sliceBounds lo hi none n).2.2=1:=by
 refine⟨?_,?_,rfl⟩
 ·cases lo with
  | none=>simp[sliceBounds,HT.sIx]
  | some i =>
    simp only[sliceBounds,HT.sIx,Option.getD_none,show (1:Int)>0 by decide,if_true];by_cases h:i<0
    ·simp only[h,if_true]<;>omega
    ·simp only[h,if_false]<;>omega
 ·cases hi with
  | none=>simp[sliceBounds,HT.sIx]
  | some i =>
    simp only[sliceBounds,HT.sIx,Option.getD_none,show (1:Int)>0 by decide,if_true];by_cases h:i<0
    ·simp only[h,if_true]<;>omega
    ·simp only[h,if_false]<;>omega
theorem Iq(its:List Value)(lo hi:Option Int):slicePick its.toArray lo hi none=((its.drop (HT.sIx its.length 0 lo)).take (HT.sIx its.length its.length hi-HT.sIx its.length 0 lo)).toArray:=by
 obtain⟨h1,h2,h3⟩:=Fx lo hi its.toArray.size;unfold slicePick;rw[h1,h2,h3];simp only[sliceRange_one,pick_run,ztp]<;>rfl
def zj5(K:Frag):V->Option Int->Option Int->Hp->VK->Prop:=fun x lo hi H Q=>∃ a xs,x=.ref a/\SqL K H a xs/\∀ p,H p=none->Q (.ref p) (upd H p (.lst (Io xs lo hi)))
theorem zgf:SlR X (zj5 X.K):=by
 intro pins s σ H x v vl vu lo hi sl Q I rx hs pl pu h;obtain⟨a,xs,rfl,hx,q⟩:=h;cases rx;obtain⟨its,r,ht,hz⟩:=I.list hx;have hlen:=r.length;refine⟨"list",_,slot_list_getitem.lookup,ht.isList.typeIs,?_⟩;refine wpAny_getItem_list_slice ht.isList hs pl pu .none (by simp) ?_ (by rw[ztp]<;>omega);rw[Iq,<- hlen];refine⟨.ref s.heap.objs.size,_,I.laid (t':=s.toks) (o:=.lst (Io xs lo hi)) (fun b ob q=>Heap.get?_push_of_some _ q) (ztm _) ?_,rfl,q _ (I.hok.fresh (ztm _))⟩;exact⟨zts (Dq xs lo hi) hz,_,0,(r.drop (HT.sIx xs.length 0 lo)).take (HT.sIx xs.length xs.length hi-HT.sIx xs.length 0 lo),Heap.get?_push_size _ rfl⟩
def Te:V->Bool
 | .non=>true
 | .bl _=>true
 | .int _=>true
 | .str _=>true
 | _=>false
def eqV:V->V->Bool
 | .non,.non=>true
 | .bl a,.bl b=>a == b
 | .bl a,.int b=>(if a then 1 else 0) == b
 | .int a,.bl b=>a == (if b then 1 else 0)
 | .int a,.int b=>a == b
 | .str a,.str b=>a == b
 | _,_=>false
theorem zii(ry:RelV y u)(rx:RelV x v)(fy:Te y=true)(fx:Te x=true):SeqAt.EqAt A s u v (eqV y x):=by
 cases y with
 | non =>
   cases ry;cases x with
   | non=>cases rx;exact SeqAt.EqAt.same _
   | bl b=>cases rx;exact SeqAt.EqAt.none_bool b
   | int b=>obtain⟨t,rfl⟩:=rx;exact SeqAt.EqAt.none_int b t
   | str b=>obtain⟨t,rfl⟩:=rx;exact SeqAt.EqAt.none_str b t
   | _=>exact absurd (show false=true from fx) ztu
 | bl a =>
   cases ry;cases x with
   | non=>cases rx;exact SeqAt.EqAt.bool_none a
   | bl b=>cases rx;exact SeqAt.EqAt.bool_bool a b
   | int b=>obtain⟨t,rfl⟩:=rx;exact SeqAt.EqAt.bool_int a b t
   | str b=>obtain⟨t,rfl⟩:=rx;exact SeqAt.EqAt.bool_str a b t
   | _=>exact absurd (show false=true from fx) ztu
 | int a =>
   obtain⟨t',rfl⟩:=ry;cases x with
   | non=>cases rx;exact SeqAt.EqAt.int_none a t'
   | bl b=>cases rx;exact SeqAt.EqAt.int_bool a t' b
   | int b=>obtain⟨t,rfl⟩:=rx;exact SeqAt.EqAt.int_int a t' b t
   | str b=>obtain⟨t,rfl⟩:=rx;exact SeqAt.EqAt.int_str a t' b t
   | _=>exact absurd (show false=true from fx) ztu
 | str a =>
   obtain⟨t',rfl⟩:=ry;cases x with
   | non=>cases rx;exact SeqAt.EqAt.str_none a t'
   | bl b=>cases rx;exact SeqAt.EqAt.str_bool a t' b
   | int b=>obtain⟨t,rfl⟩:=rx;exact SeqAt.EqAt.str_int a t' b t
   | str b=>obtain⟨t,rfl⟩:=rx;exact SeqAt.EqAt.str_str a t' b t
   | _=>exact absurd (show false=true from fx) ztu
 | _=>exact absurd (show false=true from fy) ztu
def eqU(x:V)(u:Value):Bool:=match u with
 | .none=>eqV .non x
 | .bool b=>eqV (.bl b) x
 | .int i _=>eqV (.int i) x
 | .str z _=>eqV (.str z) x
 | _=>false
theorem B3(r:RelV y u)(f:Te y=true):eqU x u=eqV y x:=by
 cases y with
 | non=>cases r;rfl
 | bl b=>cases r;rfl
 | int i=>obtain⟨t,rfl⟩:=r;rfl
 | str z=>obtain⟨t,rfl⟩:=r;rfl
 | _=>exact absurd (show false=true from f) ztu
theorem O3:∀ {xs:List V} {us:List Value},Vals xs us->xs.all Te=true->us.any (eqU x)=xs.any fun y=>eqV y x
 | _,_,.nil,_=>rfl
 | y :: xs,u :: us,.cons r t,f=>by
   rw[List.all_cons,zuw] at f;rw[zvj,zvj,B3 r f.1,O3 t f.2]
theorem Sf(rx:RelV x v)(fx:Te x=true):∀ {xs:List V} {us:List Value},Vals xs us->xs.all Te=true->∀ u∈us,SeqAt.EqAt A s u v (eqU x u)
 | _,_,.nil,_=>fun u hu=>by cases hu
 | y :: xs,u :: us,.cons r t,f=>fun u' hu=>by
   rw[List.all_cons,zuw] at f;rcases ztg.mp hu with rfl|hu
   ·rw[B3 r f.1];exact zii r rx f.1 fx
   ·exact Sf rx fx t f.2 u' hu
def inV(x:V)(xs:List V):Bool:=xs.any fun y=>eqV y x
inductive rIn(K:Frag)(neg:Bool)(x:V)(y:V)(H:Hp)(Q:VK):Prop where
 | mk(p)(xs)(_:y=.ref p)(_:(SqL K H p xs\/SqT K H p xs))(_:Te x=true)(_:xs.all Te=true)(_:Q (.bl (if neg then !inV x xs else inV x xs)) H)
theorem zbz:OpR X (compareOp .In) (rIn X.K false):=by
 intro pins s σ H x y v u Q I rx ry h;obtain⟨p,xs,rfl,hq,fx,fs,q⟩:=h;cases ry;rcases hq with hq|hq
 ·obtain⟨its,r,pl,hz⟩:=I.list hq;refine SeqAt.in_listAt (eqU x) pl.isList (fun w hw=>Sf rx fx r fs w (by simpa using hw)) ⟨.bl _,H,I,rfl,?_⟩;rw[show its.toArray.any (eqU x)=its.any (eqU x) by simp,O3 r fs];exact q
 ·obtain⟨its,r,pl,hz⟩:=I.tuple hq;refine SeqAt.in_tupleAt (eqU x) pl (fun w hw=>Sf rx fx r fs w (by simpa using hw)) ⟨.bl _,H,I,rfl,?_⟩;rw[show its.toArray.any (eqU x)=its.any (eqU x) by simp,O3 r fs];exact q
theorem Fy:OpR X (compareOp .NotIn) (rIn X.K true):=by
 intro pins s σ H x y v u Q I rx ry h;obtain⟨p,xs,rfl,hq,fx,fs,q⟩:=h;cases ry;rcases hq with hq|hq
 ·obtain⟨its,r,pl,hz⟩:=I.list hq;refine SeqAt.notIn_listAt (eqU x) pl.isList (fun w hw=>Sf rx fx r fs w (by simpa using hw)) ⟨.bl _,H,I,rfl,?_⟩;rw[show its.toArray.any (eqU x)=its.any (eqU x) by simp,O3 r fs];exact q
 ·obtain⟨its,r,pl,hz⟩:=I.tuple hq;refine SeqAt.notIn_tupleAt (eqU x) pl (fun w hw=>Sf rx fx r fs w (by simpa using hw)) ⟨.bl _,H,I,rfl,?_⟩;rw[show its.toArray.any (eqU x)=its.any (eqU x) by simp,O3 r fs];exact q
theorem Fz:W8 X (.builtin "len") (fun xs H Q=>∃ p ys,xs=[.ref p]/\(SqL X.K H p ys\/SqT X.K H p ys)/\Q (.int ys.length) H):=by
 intro pins s σ H xs us Q I r h;obtain⟨p,ys,rfl,hq,q⟩:=h;obtain⟨u,rfl,rx⟩:=Sa r;cases rx;have hn:=Pr;rcases hq with hq|hq
 ·obtain⟨its,r',pl,hz⟩:=I.list hq;have hlen:=r'.length;exact Calls.call_len_list pl.isList (by simp only[ztp]<;>omega) ⟨.int ys.length,H,I.tok _,⟨s.toks+1,by rw[ztp,hlen]⟩,q⟩
 ·obtain⟨its,r',pl,hz⟩:=I.tuple hq;have hlen:=r'.length;exact len_tuple pl (by simp only[ztp]<;>omega) ⟨.int ys.length,H,I.tok _,⟨s.toks+1,by rw[ztp,hlen]⟩,q⟩
theorem F3:W8 X (.type "list") (fun xs H Q=>∃ p ys,xs=[.ref p]/\(SqL X.K H p ys\/SqT X.K H p ys)/\∀ l,H l=none->Q (.ref l) (upd H l (.lst ys))):=by
 intro pins s σ H xs us Q I r h;obtain⟨p,ys,rfl,hq,q⟩:=h;obtain⟨u,rfl,rx⟩:=Sa r;cases rx;have fin:∀ (its:List Value),Vals ys its->ys.length<=sizeLine->∀ (h':Heap) (c':Nat),(∀ b o',s.heap.get? b=some o'->h'.get? b=some o') ->
   h'.get? s.heap.objs.size=some { cls:=.type "list",dict:=none,data:=.seq its.toArray c',slots:=#[] }->EP X pins σ Q (.ref s.heap.objs.size) { s with heap:=h' }:=fun its r' hz h' c' kp e =>
  ⟨.ref s.heap.objs.size,_,I.laid (t':=s.toks) kp (ztm _) (show Y3 X.prog X.w _ h' _ (.lst ys) from⟨hz,its,c',r',e⟩),rfl,q _ (I.hok.fresh (ztm _))⟩
 rcases hq with hq|hq
 ·obtain⟨its,r',pl,hz⟩:=I.list hq;have hlen:=r'.length;obtain⟨o,ho,hc,n,hd⟩:=pl.isList;exact call_list_seq p (.inl rfl) ho hc hd (fun h' c' kp e=>fin its r' hz h' c' kp e) (by simp only[ztp]<;>omega)
 ·obtain⟨its,r',pl,hz⟩:=I.tuple hq;have hlen:=r'.length;obtain⟨o,ho,hc,n,hd⟩:=pl;exact call_list_seq p (.inr rfl) ho hc hd (fun h' c' kp e=>fin its r' hz h' c' kp e) (by simp only[ztp]<;>omega)
theorem Ir:W8 X (.type "tuple") (fun xs H Q=>∃ p ys,xs=[.ref p]/\((SqL X.K H p ys/\∀ l,H l=none->Q (.ref l) (upd H l (.tup ys)))\/(SqT X.K H p ys/\Q (.ref p) H))):=by
 intro pins s σ H xs us Q I r h;obtain⟨p,ys,rfl,h⟩:=h;obtain⟨u,rfl,rx⟩:=Sa r;cases rx;rcases h with ⟨hq,q⟩|⟨hq,q⟩
 ·obtain⟨its,r',pl,hz⟩:=I.list hq;have hlen:=r'.length;refine call_tuple_list pl.isList (fun h' kp=>?_) (by simp only[ztp]<;>omega);have I1:Inv X pins σ H { s with heap:=h' }:=I.kept (t':=s.toks) kp;have I2:Inv X pins σ (upd H h'.objs.size (.tup ys)) { s with heap:=h'.push { cls:=.type "tuple",data:=.seq its.toArray } } :=
   I1.laid (t':=s.toks) (fun b o e=>Heap.get?_push_of_some _ e) (ztm _) (show Y3 X.prog X.w _ _ _ (.tup ys) from⟨hz,its,r',IsTup.new _ _⟩)
  exact⟨.ref h'.objs.size,_,I2,rfl,q _ (I1.hok.fresh (ztm _))⟩
 ·obtain⟨its,r',pl,hz⟩:=I.tuple hq;exact call_tuple_same pl ⟨.ref p,H,I,rfl,q⟩
def tyV(K:Frag)(T:String)(x:V)(H:Hp):Prop:=match x with
 | .str _=>T="str"
 | .int _=>T="int"
 | .ref p=>(T="list"/\∃ xs,SqL K H p xs)\/(T="tuple"/\∃ o,K.lookup p=some o/\o.cls=.type "tuple"/\o.dict=none) \/
   (T="dict"/\((∃ kvs,H p=some (.dK kvs))\/∃ kvs,H p=some (.dT kvs)))\/(T="set"/\∃ S n,H p=some (.set S n))
 | _=>False
theorem B4(I:Inv X pins σ H s)(r:RelV x v)(ty:tyV X.K T x H) :
  s.TypeIs v T/\∀ a,v=.ref a->∃ ob,s.heap.get? a=some ob/\ob.dict=none:=by
 cases x with
 | str z =>
   obtain⟨t,rfl⟩:=r;cases (show T="str" from ty);exact⟨typeIs_str s z t,fun _ e=>nomatch e⟩
 | int i =>
   obtain⟨t,rfl⟩:=r;cases (show T="int" from ty);exact⟨typeIs_int s i t,fun _ e=>nomatch e⟩
 | ref p =>
   cases r;rcases ty with ⟨rfl,xs,hq⟩|⟨rfl,o,hk,hc,hd⟩|⟨rfl,hk⟩|⟨rfl,S,n,hk⟩
   ·obtain⟨its,_,pl,_⟩:=I.list hq;refine⟨pl.isList.typeIs,fun a e=>?_⟩;cases e;obtain⟨o,n,e,c,hd,_⟩:=pl;exact⟨o,e,hd⟩
   ·refine⟨⟨o,I.kIn p o hk,hc⟩,fun a e=>?_⟩;cases e;exact⟨o,I.kIn _ o hk,hd⟩
   ·have z:∃ o,s.heap.get? p=some o/\o.ExactDict:=by
     rcases hk with ⟨kvs,hk⟩|⟨kvs,hk⟩
     ·obtain⟨_,_,_,_,o,_,_,e,ex,_⟩:=I.hok p _ hk;exact⟨o,e,ex⟩
     ·obtain⟨_,_,_,_,o,_,_,e,ex,_⟩:=I.hok p _ hk;exact⟨o,e,ex⟩
    obtain⟨o,e,ex⟩:=z;refine⟨⟨o,e,ex.1⟩,fun a e2=>?_⟩;cases e2;exact⟨o,e,ex.2.1⟩
   ·obtain⟨o,_,_,_,e,ex,_⟩:=I.hok p _ hk;refine⟨⟨o,e,ex.1⟩,fun a e2=>?_⟩;cases e2;exact⟨o,e,ex.2.1⟩
 | _=>exact False.elim ty
inductive zj6(K:Frag)(T:String)(r:V->List V->Hp->VK->Prop)(Q:VK)(x:V)(H1:Hp):Prop where
 | mk(_:tyV K T x H1)(_:r x [] H1 Q)
def zky(K:Frag)(T:String)(r:V->List V->Hp->VK->Prop)(to:TE):TE:=fun σ H Q=>to σ H fun x H1=>zj6 K T r Q x H1
inductive zkz(K:Frag)(T:String)(r:V->List V->Hp->VK->Prop)(t:TA)(σ:L2.St)(Q:VK)(x:V)(H1:Hp):Prop where
 | mk(_:tyV K T x H1)(_:t σ H1 fun xs H2=>r x xs H2 Q)
def tBM(K:Frag)(T:String)(r:V->List V->Hp->VK->Prop)(to:TE)(t:TA):TE:=fun σ H Q=>to σ H fun x H1=>zkz K T r t σ Q x H1
variable{o e:Expr}{es:List Expr}{to:TE}{t:TA}{name:Str}{apos cpos:Pos}{T id:String}{r:V->List V->Hp->VK->Prop}
theorem zd3(pa:PlainAttrs T)(slot:Slot T name id)(hty:typeOf (.builtin id)=pure (.type "method_descriptor"))(hm:MtR X id r)(ho:PE X o to)
  (hbase:attributeBase o name X.env (eval o X.env)=eval o X.env:=by rfl) (hline:(apos.endLine == cpos.line)=true:=by rfl):PE X (.Call (.Attribute o name apos) [] [] cpos) (zky X.K T r to):=by
 intro pins s σ H Q I h;refine wpAny_Call_method0_late hbase hline (thn (ho pins s σ H _ I h) fun v s1 ⟨x,H1,I1,r1,ty,q1⟩=>?_);obtain⟨h1,h2⟩:=B4 I1 r1 ty;exact⟨T,id,pa,slot,hty,h1,h2,Calls.callWith_builtin rfl (PySem.evalArgs_none (hm pins s1 σ H1 x [] v [] Q I1 r1 .nil q1))⟩
theorem zj7(pa:PlainAttrs T)(slot:Slot T name id)(hty:typeOf (.builtin id)=pure (.type "method_descriptor"))(hm:MtR X id r)(ho:PE X o to)(ha:PA X (e :: es) t)
  (hbase:attributeBase o name X.env (eval o X.env)=eval o X.env:=by rfl)
  (hfew:((backTo cpos (starEach (e :: es) X.env)).all (fun x=>!x.1)&&(backToKw cpos (keywordEach [] X.env)).all (fun x=>x.1.isSome)
   && decide ((e :: es).length+([]:List Keyword).length+(if ([]:List Keyword).isEmpty then 0 else 1)<30))=true:=by rfl)
  (hline:(apos.endLine == cpos.line)=true:=by rfl) (hs:starEach (e :: es) X.env=(false,eval e X.env) :: starEach es X.env:=by rfl) (hplain:(backTo cpos (starEach es X.env)).any (·.1)=false:=by rfl) :
  PE X (.Call (.Attribute o name apos) (e :: es) [] cpos) (tBM X.K T r to t):=by
 intro pins s σ H Q I h;refine wpAny_Call_method_late hbase hfew hline rfl (thn (ho pins s σ H _ I h) fun v s1 ⟨x,H1,I1,r1,ty,q1⟩=>?_);obtain⟨h1,h2⟩:=B4 I1 r1 ty;refine⟨T,id,pa,slot,hty,h1,h2,?_⟩;have hA:=ha cpos pins s1 σ H1 _ I1 q1;rw[hs] at hA ⊢;refine Calls.callWith_builtin (by show (false||(backTo cpos (starEach es X.env)).any (·.1))=false;rw[hplain]<;>rfl) (Calls.evalArgs_plain ?_);exact thn hA fun us s2 ⟨vs,H2,I2,r2,q2⟩=>hm pins s2 σ H2 x vs v us Q I2 r1 r2 q2
end
def MtM(X:Cx)(id:String)(r:V->List V->Hp->VK->Prop):Prop :=
 ∀ (pins:List (Addr×Obj)) (s:Shared) (σ:St) (H:Hp) (x:V) (xs:List V) (v:Value) (us:List Value) (Q:VK),Inv X pins σ H s->RelV x v->Vals xs us->r x xs H Q ->
   wpAny (model X.prog X.w) X.A (call (.builtin id) (v :: us)) (EP X pins σ Q) X.xe s
theorem Vals.one:∀ {x:V} {us:List Value},Vals [x] us->∃ u,us=[u]/\RelV x u
 | _,_,.cons r .nil=>⟨_,rfl,r⟩
theorem Vals.zero:∀ {us:List Value},Vals [] us->us=[]
 | _,.nil=>rfl
theorem Vals.dropLast(h:Vals xs us):Vals xs.dropLast us.dropLast:=by
 induction h with
 | nil=>exact .nil
 | cons r t ih =>
   cases t with
   | nil=>exact .nil
   | cons q t'=>exact .cons r ih
theorem Vals.reverse(h:Vals xs us):Vals xs.reverse us.reverse:=by
 induction h with
 | nil=>exact .nil
 | cons r t ih=>rw[zvk,zvk];exact Vals.append ih (.cons r .nil)
theorem B5(l:List α):l.eraseIdx (l.length-1)=l.dropLast:=by
 induction l with
 | nil=>rfl
 | cons a r ih =>
   cases r with
   | nil=>rfl
   | cons b r =>
     have e:(a :: b :: r).length-1=((b :: r).length-1)+1:=by
      have h1:(a :: b :: r).length=r.length+2:=rfl;have h2:(b :: r).length=r.length+1:=rfl;omega
     rw[e,List.eraseIdx_cons_succ,ih]
     all_goals rfl
section
variable{X:Cx}{pins:List (Addr×Obj)}{σ:St}{H:Hp}{s:Shared}{l b:Addr}{xs ys zs:List V}
theorem Inv.lset{its its':List Value}{n:Nat}{f:Array Value->Array Value}{t':Nat}(I:Inv X pins σ H s)(hH:H l=some (.lst xs))
  (e:s.heap.get? l=some { cls:=.type "list",data:=.seq its.toArray n }) (hf:f its.toArray=its'.toArray) (hv:Vals ys its') (hz:ys.length<=sizeLine) :
  Inv X pins σ (upd H l (.lst ys)) { s with heap:=s.heap.update l (Obj.mapSeq f),toks:=t' }:=by
 have q:=PySem.IsL.update e f;rw[hf] at q;refine I.write (x:=l) (e:=l) (by rw[hH];exact trivial) (.inl rfl) (fun b' u hb hu=>(Heap.get?_update_other s.heap (Obj.mapSeq f) (Ne.symm hb)).trans hu) ⟨_,q⟩ ?_;exact⟨hz,its',_,hv,q⟩
theorem Inv.lnew(I:Inv X pins σ H s)(hv:Vals ys its)(hz:ys.length<=sizeLine) :
  Inv X pins σ (upd H s.heap.objs.size (.lst ys)) { s with heap:=s.heap.push { cls:=.type "list",data:=.seq its.toArray },toks:=t' } :=
 I.laid (fun _ _ q=>Heap.get?_push_of_some _ q) (ztm _) ⟨hz,its,0,hv,Heap.get?_push_size _ rfl⟩
theorem Inv.fresh(I:Inv X pins σ H s):H s.heap.objs.size=none:=I.hok.fresh (ztm _)
theorem Inv.lstM(I:Inv X pins σ H s)(hH:H l=some (.lst xs)):xs.length<=sizeLine/\∃ (its:List Value) (n:Nat),Vals xs its/\xs.length=its.length/\s.heap.get? l=some { cls:=.type "list",data:=.seq its.toArray n }:=by
 obtain⟨z,its,n,r,e⟩:=I.hok l _ hH;exact⟨z,its,n,r,r.length,e⟩
end
section
variable{X:Cx}
inductive zgg(x:V)(vs:List V)(H:Hp)(Q:VK):Prop where
 | mk(l)(xs)(y)(_:x=.ref l)(_:vs=[y])(_:H l=some (.lst xs))(_:xs.length<sizeLine)(_:Q .non (upd H l (.lst (xs++[y]))))
theorem zb0:MtM X "list.append" zgg:=by
 intro pins s σ H x vs v us Q I rx rv h;obtain⟨l,xs,y,rfl,rfl,hH,hz,q⟩:=h;cases rx;obtain⟨u,rfl,ru⟩:=rv.one;obtain⟨z,its,n,r,hl,e⟩:=I.lstM hH;refine call_meets F.slot_list_append ⟨_,e,rfl⟩ F.entry_list_append (F.args_list_append_2 _ _) (PySem.list_append l its.toArray n u (by rw[ztp];omega)) ⟨e,?_⟩;refine⟨.non,_,I.lset (its':=its++[u]) hH e (by simp) (r.append (.cons ru .nil)) ?_,rfl,q⟩;rw[ztc,List.length_singleton];omega
inductive zk0(x:V)(vs:List V)(H:Hp)(Q:VK):Prop where
 | mk(l)(xs)(y)(_:x=.ref l)(_:vs=[])(_:H l=some (.lst xs))(_:xs[xs.length-1]?=some y)(_:Q y (upd H l (.lst xs.dropLast)))
theorem zij:MtM X "list.pop" zk0:=by
 intro pins s σ H x vs v us Q I rx rv h;obtain⟨l,xs,y,rfl,rfl,hH,hy,q⟩:=h;cases rx;have hus:=rv.zero;subst hus;obtain⟨z,its,n,r,hl,e⟩:=I.lstM hH;obtain⟨u,hu,ru⟩:=r.get hy;have hy':its.toArray[its.toArray.size-1]?=some u:=by
  show its.toArray[its.length-1]?=some u;rw[<- Array.getElem?_toList,<- hl];exact hu
 refine call_meets F.slot_list_pop ⟨_,e,rfl⟩ F.entry_list_pop (F.args_list_pop_1 _) (MeetsSeq.list_pop_last l its.toArray n u hy' (by rw[ztp];omega)) ⟨e,?_⟩;refine⟨y,_,I.lset (its':=its.dropLast) hH e ?_ r.dropLast ?_,ru,q⟩
 ·show its.toArray.eraseIdxIfInBounds (its.toArray.size-1)=its.dropLast.toArray;rw[ztp,List.eraseIdxIfInBounds_toArray,B5]
 ·rw[List.length_dropLast];omega
inductive zd4(x:V)(vs:List V)(H:Hp)(Q:VK):Prop where
 | mk(l)(xs)(_:x=.ref l)(_:vs=[])(_:H l=some (.lst xs))(_:Q .non (upd H l (.lst xs.reverse)))
theorem B6:MtM X "list.reverse" zd4:=by
 intro pins s σ H x vs v us Q I rx rv h;obtain⟨l,xs,rfl,rfl,hH,q⟩:=h;cases rx;have hus:=rv.zero;subst hus;obtain⟨z,its,n,r,hl,e⟩:=I.lstM hH;refine call_meets F.slot_list_reverse ⟨_,e,rfl⟩ F.entry_list_reverse (F.args_list_reverse_1 _) (AutoSeq1.list_reverse_list_0 l its.toArray n (by rw[ztp];omega)) ⟨e,?_⟩;refine⟨.non,_,I.lset (its':=its.reverse) hH e (by simp) r.reverse ?_,rfl,q⟩;rw[List.length_reverse];omega
inductive zk1(x:V)(y:V)(H:Hp)(Q:VK):Prop where
 | mk(l)(b)(xs)(zs)(_:x=.ref l)(_:y=.ref b)(_:H l=some (.lst xs))(_:H b=some (.lst zs))(_:xs.length+zs.length<=sizeLine)(_:∀ p,H p=none->Q (.ref p) (upd H p (.lst (xs++zs))))
theorem Kz:OpR X (binaryOp .Add) zk1:=by
 intro pins s σ H x y v u Q I rx ry h;obtain⟨l,b,xs,zs,rfl,rfl,hH,hB,hz,q⟩:=h;cases rx;cases ry;obtain⟨z,its,n,r,hl,e⟩:=I.lstM hH;obtain⟨z2,its2,n2,r2,hl2,e2⟩:=I.lstM hB;refine PySem.P.add_list e e2 ?_ (by rw[ztp,ztp];omega);have ea:its.toArray++its2.toArray=(its++its2).toArray:=by simp
 rw[ea];exact⟨.ref _,_,I.lnew (t':=s.toks) (r.append r2) (by rw[ztc];omega),rfl,q _ I.fresh⟩
end
end L2
namespace Att
open PySem PySem.W PySem.Calls PyProof.Rows
theorem Ly:∀ (ns:List Int) (vs:List Value),WellAll P h vs (ns.map WData.int)->IntsAre vs ns:=by
 intro ns
 induction ns with
 | nil =>
   intro vs w;rw[List.map_nil] at w;cases w;exact .nil
 | cons n ns ih =>
   intro vs w;rw[zto] at w;cases w with
   | cons a b =>
     cases a;exact .cons _ _ (ih _ b)
theorem zb1{l:OpenLaw}{n:Nat}(hn:l.most=some n){P:Params}{h:Heap}{args:List WData}{vals:List Value}
  (hpre:l.row.toRowW.claim.pre args=true) (hwl:WellAll P h vals args) :
  ∃ a vs ns,vals=[Value.ref a]/\args=[WData.list (ns.map WData.int)]/\h.get? a=some { cls:=.type "list",data:=.seq vs.toArray }/\IntsAre vs ns/\ns.length<=n:=by
 have hsh:WShape.hasAll [] args [.list .int]=true:=(pre_splitW hpre).1;have hc:l.pre.holds [] { args:=args }=true:=(pre_splitW hpre).2;obtain⟨d,r,rfl,h1,h2⟩:=hasAllW_cons hsh;obtain rfl:=hasAllW_nil h2;obtain⟨xs,rfl,h3⟩:=hasW_list h1;obtain⟨ns,rfl⟩:=items_int h3;have hlen:ns.length<=n:=by
  unfold OpenLaw.pre at hc;have h4:(WTm.not (.lt (.lit (.int (n:Int))) (.len (.arg 0)))).holds [] { args:=[.list (ns.map .int)] }=true:=by
   have h4:=(holds_andW hc).1;rw[hn] at h4;exact h4
  have h5:=condW_of h4 (w_not (w_lt w_lit (w_len_list (w_arg rfl))));rw[zta] at h5;refine Nat.le_of_not_lt fun q=>?_;have q':(n:Int)<((ns.length:Nat):Int):=by omega
  first
   | (rw[ztf q'] at h5;exact absurd h5 ⋯)
   | (simp at h5;omega)
 cases hwl with
 | cons w1 w2 =>
   cases w2;cases w1 with
   | list ho hall=>exact⟨_,_,ns,rfl,rfl,ho,Ly ns _ hall,hlen⟩
theorem zb2(l:OpenLaw)(args:List WData):l.row.toRowW.claim.post args (.bool true) args=true :=
 postW_of (r:=l.row.toRowW) (X:=(true == true))
  (show WShape.has [] (.bool true) .bool=true by first|rfl|decide|simp[WShape.has,WShape.arms,WShape.armsAll])
  (show (WTm.eq .res (.lit (.bool true))).value [] { args:=args,res:=some (.bool true),after:=args }=some (.bool (true == true)) from w_eq_bool (w_res rfl) w_lit) rfl
theorem attach_call{l:OpenLaw}{n:Nat}{q:Program}{loose:List Str}{XP:(Str->Option Value)->Heap->Prop}{YP:World->Heap->Prop}{d:DefRec}
  (hn:l.most=some n) (hdf:d.params.defaults=[])
  (call:∀ (w:World) (s₀ s₁:Shared) (mg mb:Str->Option Value) (fa:Addr) (o:Obj) (pm cd doc:Value) (a:Addr) (vs:List Value) (ns:List Int),
   Ground q loose [] XP w s₀ mg mb s₁.heap->YP w s₁.heap ->
   s₁.heap.get? fa=some o->o.data=.func (docDef d.name d.params d.body d.scope pm cd doc)->s₁.heap.CodeRec cd d.name->mg d.name=some (.ref fa) ->
   s₁.heap.get? a=some { cls:=.type "list",data:=.seq vs.toArray }->IntsAre vs ns->ns.length<=n->s₁.gens=#[] ->
   codeAny (model l.prog w) callerA (.call (.ref fa) ⟨[.ref a],[]⟩) (fun r s'=>r=.ok (.ret (.bool true))/\OldK s₁.heap s'.heap/\s'.os=s₁.os/\AllBare s'.gens) s₁) :
  WalkO q loose XP YP l.row.toRowW d [] (fun f vs=>PySem.call f vs):=by
 intro w s₀ s₁ mg mb G Y fa o pm cd doc dV kV ho hd hcd hD hmg hg args vals as hpre hlay hrd hwl hlo;obtain rfl:dV=.none:=Dflts.none hD hdf;obtain rfl:kV=.none:=Dflts.noKw hD;obtain⟨a,vs,ns,rfl,rfl,hobj,hints,hlen⟩:=zb1 hn hpre hwl;refine enter_call (codeAny_mono (call w s₀ s₁ mg mb fa o pm cd doc a vs ns G Y ho (fd_plain hd) hcd hmg hobj hints hlen hg) fun r s' hq=>?_);obtain⟨rfl,h2,h3,h4⟩:=hq;exact⟨.inl ⟨.bool true,.bool true,[],rfl,fun _=>rfl,.bool true,zb2 l _,fun _=>⟨List.Pairwise.nil,fun _ hm=>(nomatch hm)⟩⟩,h2,h3,h4⟩
end Att
namespace L2
open PySem PySem.Spec PyProof.Rows
theorem Gw:∀ {vs:List Value} {ns:List Int},IntsAre vs ns->Vals (ns.map V.int) vs
 | _,_,.nil=>.nil
 | _,_,.cons n t h=>.cons ⟨t,rfl⟩ (Gw h)
def zik(H:Hp):Prop:=∀ b,H b=none\/∃ o xs,H b=some (.frz o (.lst xs))
theorem zd5{P:Program}{w:World}{K:Frag}{mg mb:Str->Option Value}{CX:CXT}{k:Nat}{fa a:Addr}{fd:FuncData}{x:Str}{sp:Sp}{s₁:Shared}{vs:List Value}{ns:List Int}
  (KX:K.In s₁.heap) (hns:s₁.heap.Ns mainGlobals mg) (hb:s₁.heap.Ns builtinsNs mb) (hbb:∀ x:Str,x≠"__name__"->mb x=bootBuiltins x) (hlim:s₁.heap.NoLimit) (hg:s₁.gens=#[])
  (ha:s₁.heap.get? a=some { cls:=.type "list",data:=.seq vs.toArray }) (hi:IntsAre vs ns) (hl:ns.length<=sizeLine) (hr:Wv k callerA)
  (F:∀ base:Heap,K.In base->base.Ns mainGlobals mg->FnOk P w K mg base CX k fa fd [x] sp) (hbind:∀ (s:Shared) (u:Value),BindsTo s fd ⟨[u],[]⟩ [(x,u)])
  (hsp:∀ H:Hp,zik H->SqL K H a (ns.map V.int)->sp [.ref a] H (fun v _=>v=.bl true) fun _ _ _=>False)
  (hCX:∀ H e s',CX [] H s₁ (fun _ _ _=>False) e s'->False) :
  codeAny (model P w) callerA (.call (.ref fa) ⟨[.ref a],[]⟩) (fun r s'=>r=.ok (.ret (.bool true))/\OldK s₁.heap s'.heap/\s'.os=s₁.os/\AllBare s'.gens) s₁:=by
 have rv:=Gw hi;have lenV:=hi.length;have core:∀ H:Hp,zik H->SqL K H a (ns.map V.int)->HOk P w H s₁.heap->(∀ b,H b≠none->b=a)->(H a≠none->K.lookup a=none) ->
   codeAny (model P w) callerA (.call (.ref fa) ⟨[.ref a],[]⟩) (fun r s'=>r=.ok (.ret (.bool true))/\OldK s₁.heap s'.heap/\s'.os=s₁.os/\AllBare s'.gens) s₁:=by
  intro H hO hS hok hA hK;have base_of:∀ {b:Addr} {o:Obj},s₁.heap.get? b=some o->H b=none->(Fs s₁.heap H).get? b=some o:=fun e n=>zdf e n;have noA:∀ {b:Addr} {o:Obj} {es:Array DictEntry} {ep:Nat},s₁.heap.get? b=some o->o.data=.dict es ep->H b=none:=fun {b o es ep} e d=>by
   cases q:H b with
   | none=>rfl
   | some u =>
     have e':b=a:=hA b (by rw[q];simp);subst e';rw[ha] at e;cases e;have d':Data.seq vs.toArray _=Data.dict es ep:=d;cases d'
  have nsK:∀ {b:Addr} {m:Str->Option Value},s₁.heap.Ns b m->(Fs s₁.heap H).Ns b m:=fun {b m} ⟨o,es,ep,e,d,r⟩=>⟨o,es,ep,base_of e (noA e d),d,r⟩
  have hKb:K.In (Fs s₁.heap H):=fun b o e=>base_of (KX b o e) (by
   cases q:H b with
   | none=>rfl
   | some u =>
     have e':b=a:=hA b (by rw[q];simp);subst e';rw[hK (by rw[q];simp)] at e;cases e)
  have hM:Mod K mg (Fs s₁.heap H):=⟨hKb,nsK hns,⟨mb,nsK hb,hbb⟩,let ⟨mc,h1,h2⟩:=hlim;⟨mc,nsK h1,h2⟩⟩;have e0:By P w K mg (Fs s₁.heap H) callerA [] s₁ H:=⟨rfl,hM,fun b o e=>zfv e,Nat.le_of_eq (zbn _ _),trivial,fun b hb=>absurd (show b∈([]:List Addr) from hb) (by simp),hok,.of_eq hg⟩;refine codeAny_mono ((F _ hKb (nsK hns)).run callerA [] s₁ H ⟨[.ref a],[]⟩ [.ref a] [.ref a] _ _ hr e0 (hbind s₁ (.ref a)) (.cons rfl .nil) (hsp H hO hS)) fun r s' h=>?_;cases r with
  | error e=>exact(hCX H e s' h).elim
  | ok fl =>
    cases fl with
    | next=>exact False.elim h
    | brk=>exact False.elim h
    | cont=>exact False.elim h
    | ret u =>
      obtain⟨v,H',os,bare,un,hok',r',q⟩:=h;have q':v=.bl true:=q;subst q';obtain rfl:u=Value.bool true:=r';refine⟨rfl,OldK.of_keep fun b o e=>?_,os,bare⟩;cases q:H b with
      | none=>exact un.keep b o e q (by intro z;exact absurd (show b∈([]:List Addr) from z) (by simp)) (by simp)
      | some u =>
        rcases hO b with z|⟨ob,xs,z⟩
        ·rw[q] at z;cases z
        ·have z2:=un.frzs b ob _ z;obtain⟨e1,_⟩:=hok b _ z;obtain⟨e2,_⟩:=hok' b _ z2;rw[e] at e1;cases e1;exact e2
 cases hk:K.lookup a with
 | some o =>
   have e:=KX a o hk;rw[ha] at e;cases e;refine core (fun _=>none) (fun _=>.inl rfl) (.inr ⟨_,vs.toArray,_,hk,rfl,rfl,rfl,by rw[ztp,lenV];exact hl,by simpa using rv⟩) (fun b u z=>by have z':(none:Option HO)=some u:=z;cases z') (fun b z=>absurd rfl z) fun z=>absurd rfl z
 | none =>
   refine core (fun b=>if b=a then some (.frz { cls:=.type "list",data:=.seq vs.toArray } (.lst (ns.map V.int))) else none) (fun b=>?_) (.inl (.inr ⟨{ cls:=.type "list",data:=.seq vs.toArray },if_pos rfl⟩)) (fun b u z=>?_) (fun b z=>?_) fun _=>hk
   ·by_cases hb:b=a
    ·exact .inr ⟨_,_,if_pos hb⟩
    ·exact .inl (if_neg hb)
   ·by_cases hb:b=a
    ·have z':=(if_pos hb).symm.trans z;cases z';subst hb;exact⟨ha,by rw[zta];exact hl,vs,_,rv,ha⟩
    ·have z':=(if_neg hb).symm.trans z;cases z'
   ·by_cases hb:b=a
    ·exact hb
    ·exact absurd (if_neg hb) z
theorem zgh{l:PySem.W.OpenLaw}{n k:Nat}{q:Program}{loose:List Str}{XP:(Str->Option Value)->Heap->Prop}{YP:World->Heap->Prop}{d:DefRec}{K:Params->Frag}{CX:World->CXT}{sp:World->Sp}{x:Str}
  (hn:l.most=some n) (hn2:n<=sizeLine) (hdf:d.params.defaults=[]) (hr:Wv k callerA)
  (hY:∀ (w:World) (h:Heap),YP w h->(K w.params).In h)
  (F:∀ (w:World) (mg:Str->Option Value) (fa:Addr) (h:Heap),(K w.params).In h->h.Ns mainGlobals mg->mg d.name=some (.ref fa) ->
   ∃ fd:FuncData,(∀ (s:Shared) (u:Value),BindsTo s fd ⟨[u],[]⟩ [(x,u)]) /\
     ∀ base:Heap,(K w.params).In base->base.Ns mainGlobals mg->FnOk l.prog w (K w.params) mg base (CX w) k fa fd [x] (sp w))
  (hsp:∀ (w:World) (H:Hp) (a:Addr) (ns:List Int),ns.length<=n->zik H->SqL (K w.params) H a (ns.map V.int)->sp w [.ref a] H (fun v _=>v=.bl true) fun _ _ _=>False)
  (hCX:∀ (w:World) (H:Hp) (s:Shared) (e:Value) (s':Shared),CX w [] H s (fun _ _ _=>False) e s'->False) :
  PySem.W.WalkO q loose XP YP l.row.toRowW d [] (fun f vs=>PySem.call f vs):=by
 refine Att.attach_call hn hdf fun w s₀ s₁ mg mb fa o pm cd doc a vs ns G Y ho hd hcd hmg hobj hints hlen hg=>?_;have KX:=hY w _ Y;obtain⟨fd,hb,hF⟩:=F w mg fa _ KX G.T.g hmg;exact zd5 KX G.T.g G.T.b G.T.builtins G.T.nolimit hg hobj hints (zts hlen hn2) hr hF hb (fun H hO hS=>hsp w H a ns hlen hO hS) fun H e s'=>hCX w H s₁ e s'
def Z3(s:Stmt)(j:Nat):Stmt:=match s with
 | .ClassDef _ _ _ body _ _ _ _ _ _ _=>body.getD j (.Pass ⟨0,0,0,0⟩)
 | _=>.Pass ⟨0,0,0,0⟩
def Tf(s:Stmt):Arguments:=match s with
 | .FunctionDef _ a _ _ _ _ _ _ _ _=>a
 | _=>{ posonlyargs:=[],args:=[],vararg:=none,kwonlyargs:=[],kw_defaults:=[],kwarg:=none,defaults:=[] }
def Zr(s:Stmt):List Stmt:=match s with
 | .FunctionDef _ _ b _ _ _ _ _ _ _=>b
 | _=>[]
def Zj(s:Stmt):Scope:=match s with
 | .FunctionDef _ _ _ _ _ _ sc _ _ _=>sc
 | _=>{ kind:=.function,names:=[],isGenerator:=false,isCoroutine:=false }
abbrev E0:XK:=fun _ _ _=>False
structure Fun(K:Frag)(x qual:Str)(st:Stmt)(f:Addr)(fd:FuncData):Prop where
 ex:∃ (oc:Value) (od:Option Addr) (kV doc pm:Value) (an:Option Addr) (cdv ct:Value) (osl:Array (Option Value)),
  fd=PySem.W.fnOf x qual (Tf st) (Zr st) (Zj st) .none kV doc pm an cdv ct/\K.lookup f=some ⟨oc,od,.func fd,osl⟩/\PySem.W.codeIn K cdv qual=true
 kp:PySem.W.keepIn K (.ref f)=true
section
variable{P:Program}{w:World}{K:Frag}{mg:Str->Option Value}{base:Heap}
theorem Fun.binds{x qual:Str}{st:Stmt}{f:Addr}{fd:FuncData}{ps:List Str}(F:Fun K x qual st f fd)
  (h:∀ (kV doc pm:Value) (an:Option Addr) (cdv ct:Value) (us:List Value),us.length=ps.length->bindArgs (PySem.W.fnOf x qual (Tf st) (Zr st) (Zj st) .none kV doc pm an cdv ct) ⟨us,[]⟩=pure (ps.zip us)):Sd K fd ps []:=by
 obtain⟨oc,od,kV,doc,pm,an,cdv,ct,osl,rfl,lk,hcd⟩:=F.ex;exact .all (h kV doc pm an cdv ct)
theorem Pu{x qual:Str}{st:Stmt}{f:Addr}{oc:Value}{od an:Option Addr}{osl:Array (Option Value)}{kV doc pm cdv ct:Value}(l:K.lookup f=some ⟨oc,od,.func (PySem.W.fnOf x qual (Tf st) (Zr st) (Zj st) .none kV doc pm an cdv ct),osl⟩)
  (c:PySem.W.codeIn K cdv qual=true) (k:PySem.W.keepIn K (.ref f)=true):Fun K x qual st f (PySem.W.fnOf x qual (Tf st) (Zr st) (Zj st) .none kV doc pm an cdv ct):=⟨⟨oc,od,kV,doc,pm,an,cdv,ct,osl,rfl,l,c⟩,k⟩
end
theorem Wq(hr:Wv k A):A.units+1<cLine:=zuz (Nat.add_le_add_left (by decide:1<=64) _) hr.units
theorem Sg(h:n<=1000):n<sizeLine:=zuz h ⋯
section
variable{X:Cx}
theorem pv(i:Nat)(hN:X.N[i]?=some x:=by rfl)(hv:Vis X.env.scope x:=by first|exact Or.inl rfl|exact Or.inr (Or.inl rfl)|exact Or.inr (Or.inr rfl))(hd:(x == ("__debug__":Str))=false:=by decide)
  (hcd:(x == ("__classdict__":Str))=false:=by decide):PE X (.Name x pos) (Ft i):=zhu hN hv hd hcd
theorem zb3:W8 X (.builtin "len") (fun xs H Q=>∃ a kvs,xs=[V.ref a]/\H a=some (.dK kvs)/\Q (.int kvs.length) H):=by
 intro pins s σ H xs us Q I r h;obtain⟨a,kvs,rfl,ha,q⟩:=h;obtain⟨u,rfl,ru⟩:=Sa r;cases ru;exact zjy I (.inl ha) fun t s' I'=>⟨.int kvs.length,H,I',⟨t,rfl⟩,q⟩
end
theorem iteF{A B:Prop}(h:B):if false=true then A else B:=by
 rw[if_neg ztu];exact h
theorem iteT{A B:Prop}(h:A):if true=true then A else B:=by
 rw[if_pos rfl];exact h
theorem Dr{c A B:Prop}[Decidable c](h1:c->A)(h2:¬ c->B):if c then A else B:=by
 by_cases h:c
 ·rw[if_pos h];exact h1 h
 ·rw[if_neg h];exact h2 h
def Same(H H':Hp):Prop:=∀ b o,H b=some o->H' b=some o
theorem Same.refl(H:Hp):Same H H:=fun _ _ h=>h
theorem Same.trans(a:Same H H1)(b:Same H1 H2):Same H H2:=fun c o h=>b c o (a c o h)
theorem Same.free(e:Same H H')(h:H' l=Option.none):H l=Option.none:=by
 cases q:H l with
 | none=>rfl
 | some o =>
   rw[e l o q] at h;cases h
theorem Same.seq{K:Frag}{H H':Hp}{a:Addr}{xs:List V}(e:Same H H')(h:SqL K H a xs):SqL K H' a xs:=by
 rcases h with (h|⟨o,h⟩)|h
 ·exact .inl (.inl (e _ _ h))
 ·exact .inl (.inr ⟨o,e _ _ h⟩)
 ·exact .inr h
section
variable{κ:Type}[DecidableEq κ]
theorem F5:∀ {l:List κ} {k:κ},l.Nodup->¬ k∈l->(l++[k]).Nodup
 | [],k,_,_=>by simp
 | a :: r,k,h,hk=>by
   obtain⟨h1,h2⟩:=ztz.mp h;show (a :: (r++[k])).Nodup;refine ztz.mpr ⟨fun m=>?_,F5 h2 fun m=>hk (ztg.mpr (Or.inr m))⟩;rcases ztl.mp m with q|q
   ·exact h1 q
   ·exact hk (ztg.mpr (Or.inl (zte.mp q).symm))
theorem zb4{p:κ×V}{r:List (κ×V)}{k:κ}(e:p.1=k):Xv (p :: r) k=Xv r k:=by
 unfold Xv;rw[zum,if_neg (by simp[e])]
theorem zb5{p:κ×V}{r:List (κ×V)}{k:κ}(e:¬ p.1=k):Xv (p :: r) k=p :: Xv r k:=by
 unfold Xv;rw[zum,if_pos (by simp[e])]
end
section
variable{P:Program}{w:World}{H H':Hp}{h h' g:Heap}{a:Addr}{o:HO}
theorem Y3.there(x:Y3 P w H h a o):∃ ob,h.get? a=some ob:=by
 cases o with
 | lst xs=>obtain⟨_,_,_,_,e⟩:=x;exact⟨_,e⟩
 | tup xs=>obtain⟨_,_,_,ob,e,_⟩:=x;exact⟨_,e⟩
 | dK kvs=>obtain⟨_,_,_,_,o,_,_,e,_⟩:=x;exact⟨_,e⟩
 | dT kvs=>obtain⟨_,_,_,_,o,_,_,e,_⟩:=x;exact⟨_,e⟩
 | set S n=>obtain⟨o,_,_,_,e,_⟩:=x;exact⟨_,e⟩
 | ins C dx fs=>obtain⟨_,_,_,e,_⟩:=x;exact⟨_,e⟩
 | own y=>obtain⟨_,e⟩:=x;exact⟨_,e⟩
 | xd fs=>obtain⟨_,⟨_,_,_,e,_⟩,_⟩:=x;exact⟨_,e⟩
 | rng lo hi=>obtain⟨_,_,_,e⟩:=x;exact⟨_,e⟩
 | frz ob u=>obtain⟨e,_⟩:=x;exact⟨_,e⟩
 | tbl ps=>exact⟨_,(show h.get? a=some _ from x)⟩
 | met f y=>exact⟨_,(show h.get? a=some _ from x)⟩
 | ext φ=>obtain⟨_,⟨_,e⟩,_⟩:=x;exact⟨_,e⟩
theorem HOk.none_of(x:HOk P w H h)(e:h.get? a=none):H a=none:=by
 cases q:H a with
 | none=>rfl
 | some u =>
   obtain⟨_,z⟩:=(x a u q).there;rw[e] at z;cases z
theorem Ds(e:(PySem.W.hideAll h as).get? a=none):h.get? a=none\/a∈as:=by
 by_cases m:a∈as
 ·exact .inr m
 ·cases q:h.get? a with
  | none=>exact .inl rfl
  | some o=>rw[PySem.W.hideAll_get as q m] at e;cases e
end
structure Fly(g:Heap)(H:Hp)(h:Heap)(e T:Addr)(cls:Value):Prop where
 ex:∃ oe vs oT ts,h.get? e=some oe/\oe.cls=cls/\oe.data=.fields vs/\vs[1]?=some (.ref T)/\T≠e/\h.get? T=some oT/\oT.data=.fields ts/\ts[3]?=some .none
 newE:g.get? e=none
 newT:g.get? T=none
 freeE:H e=none
 freeT:H T=none
def CX1(P:Program)(w:World):CXT:=fun outer H s E e s'=>∃ a T cls H',e=.ref a/\s'.os=s.os/\AllBare s'.gens/\Un (frs outer) [] H H' s.heap s'.heap/\HOk P w H' s'.heap/\Fly s.heap H' s'.heap a T cls/\E cls none H'
section
variable{X:Cx}{pins:List (Addr×Obj)}{σ:St}{H H':Hp}{s s':Shared}{h':Heap}{e T:Addr}{cls:Value}
structure Pw(X:Cx)(ch:List Addr)(h h':Heap):Prop where
 keep:∀ b o,h.get? b=some o->b∉ch->b∉frs X.stack->h'.get? b=some o
 slot:∀ b o,h.get? b=some o->b∉ch->b∈frs X.stack->∃ sl,h'.get? b=some { o with slots:=sl }
theorem Pw.of(I:Inv X pins σ H s)(st:(PySem.W.hideAll s.heap (as++frs X.stack)).StaysIn h')(up:s.heap.UpToSlots h'):Pw X as s.heap h' where
 keep:=fun b o q n1 n2=>st b o (PySem.W.hideAll_get _ q (by simp[n1,n2]))
 slot:=fun b o q _ m=>by
  obtain⟨_,o',ho,nf⟩:=I.stack.mem m;rw[q] at ho;cases ho;exact up b o q nf
theorem Pw.hok(I:Inv X pins σ H s)(t:Pw X ch s.heap h')(hch:∀ b∈ch,H b=none):HOk X.prog X.w H h':=fun b u q=>by
 have tr:∀ c v,H c=some v->c∉ch/\c∉frs X.stack:=fun c v z=>⟨(fun m=>by rw[hch c m] at z;cases z),(fun m=>by rw[I.stkFree c m] at z;cases z)⟩
 refine(I.hok b u q).stay (fun c v hc r=>?_) (fun _ z=>z) fun _ _ z=>z;rcases hc with z|z
 ·subst z;exact t.keep c v r (tr c u q).1 (tr c u q).2
 ·exact t.keep c v r (tr c _ z).1 (tr c _ z).2
theorem Inv.raised(I:Inv X pins σ H s)(ho:s'.os=s.os)(hg:AllBare s'.gens)(u:Un (frs X.stack) [] H H' s.heap s'.heap)(hok:HOk X.prog X.w H' s'.heap):Inv X pins σ H' s' :=
 I.call' ho u hok hg (fun _ z=>nomatch z)
theorem Fly.flying(J:Inv X pins σ H s)(hl:s.heap.FunFrames X.base l)(hsub:∀ b∈frs l,b∈frs X.stack)(F:Fly g H s.heap e T cls) :
  ∃ a0,Heap.FlyingW (PySem.W.hideAll s.heap ([e,T]++frs X.stack)) l e cls a0 s.heap:=by
 obtain⟨oe,vs,oT,ts,e1,e2,e3,e4,e5,e6,e7,e8⟩:=F.ex;have sz:0<vs.size:=zuz (zt4 _) (Array.getElem?_eq_some_iff.mp e4).1;refine⟨vs[0],fun b o q=>PySem.W.of_hideAll _ q,PySem.W.hideAll_none _ (by simp),PySem.W.funFrames_hide hl fun env he a ha=>?_,oe,vs,T,oT,ts,e1,⟨e2,?_⟩,e3,e4,PySem.W.hideAll_none _ (by simp),e5,e6,e7,e8⟩
 ·have:a∈frs l:=zvq.mpr ⟨env,he,ha⟩;simp[hsub a this]
 ·exact Array.getElem?_eq_getElem sz
theorem Fly.again(J:Inv X pins σ H s)(F:Fly g H s.heap e T cls)(hg:∀ b,s.heap.get? b=none->g.get? b=none)
  (up:s.heap.UpToSlots h') (st:(PySem.W.hideAll s.heap ([e,T]++frs X.stack)).StaysIn h') (tr:h'.TracedW (PySem.W.hideAll s.heap ([e,T]++frs X.stack)) e cls a0):∃ T',Fly g H h' e T' cls:=by
 obtain⟨oe,vs,T',oT,ts,f1,⟨f2,_⟩,f3,f4,f5,f6,f7,f8,f9⟩:=tr;refine⟨T',⟨oe,vs,oT,ts,f1,f2,f3,f4,f6,f7,f8,f9⟩,F.newE,?_,F.freeE,?_⟩
 all_goals
  rcases Ds f5 with z|z
  ·first
    | exact hg _ z
    | exact J.hok.none_of z
  ·simp only[ztl,ztg,zud,or_false] at z;rcases z with (z|z)|z
   ·exact absurd z f6
   ·subst z
    first
     | exact F.newT
     | exact F.freeT
   ·obtain⟨_,o,ho,nf⟩:=J.stack.mem z;obtain⟨sl,q⟩:=up T' o ho nf;rw[f7] at q;cases q;exact absurd f8 (nf _)
end
section
variable{P:Program}{w:World}{K:Frag}{mg:Str->Option Value}{base:Heap}{N:List Str}{qual:Str}{scope:Scope}{f:Addr}{cd:Value}{A:Around}{outer:List Env}{s0:Shared}{H0:Hp}{E:XK}
 {pins:List (Addr×Obj)} {σ:St} {H H':Hp} {s s':Shared} {h':Heap} {e T:Addr} {cls:Value}
theorem Du(hx:X.ex=[])(J:Inv X pins σ H s)(hst:X.stack=X.env :: X.outer)(hf:X.env.frame=some X.env.locals)(t:Pw X ch s.heap h')(hch:∀ b∈ch,X.s₀.heap.get? b=none) :
  Un X.fs [] X.H₀ H X.s₀.heap h':=by
 have nb:∀ b o,X.s₀.heap.get? b=some o->b∉ch:=fun b o q m=>by rw[hch b m] at q;cases q
 have mem:∀ b,b∈frs X.stack↔b=X.env.locals\/b∈X.fs:=fun b=>by
  unfold Cx.fs frs;rw[hst,zvo,hf];exact ztg
 have neL:∀ b o,X.s₀.heap.get? b=some o->b≠X.env.locals:=fun b o q=>zt2 (zty (Heap.lt_size q) J.ok.above);have nx:∀ b:Addr,b∉X.ex:=fun b=>by rw[hx];simp
 refine⟨fun b o q n hb _=>?_,fun b o q n hb _=>?_,fun b o q n _=>J.base.free b o q n (nx b),fun b o q _=>?_,J.base.tups,J.base.frzs,J.base.tbls⟩
 ·refine t.keep b o (J.base.keep b o q n hb (nx b)) (nb b o q) fun m=>?_;exact((mem b).mp m).elim (neL b o q) hb
 ·obtain⟨sl,z⟩:=J.base.slot b o q n hb (nx b);obtain⟨sl',z'⟩:=t.slot b _ z (nb b o q) ((mem b).mpr (.inr hb));exact⟨sl',z'⟩
 ·obtain⟨o',z⟩:=J.base.there b o q (nx b);by_cases m:b∈frs X.stack
  ·obtain⟨_,z'⟩:=t.slot b o' z (nb b o q) m;exact⟨_,z'⟩
  ·exact⟨o',t.keep b o' z (nb b o q) m⟩
theorem Zk:Wy (CX1 P w) (cxOf (CX1 P w) P w K mg base N qual scope f cd A outer s0 H0 E) E:=by
 intro pins σ H s ev s' I h;obtain⟨a,T,cls,H',q0,ho,hg,u,hok,F,hE⟩:=h;subst q0;have J:=I.raised ho hg u hok;obtain⟨a0,hfl⟩:=F.flying J J.stack (fun _ z=>z);refine wpAny_leaves_onW (base:=PySem.W.hideAll s'.heap ([a,T]++frs _)) J.ok.frames rfl hfl fun h2 hfl2 up=>?_;have old:∀ b,s.heap.get? b=none->s0.heap.get? b=none:=fun b n=>by
  cases q:s0.heap.get? b with
  | none=>rfl
  | some o =>
    obtain⟨_,z⟩:=I.base.there b o q (by show b∉([]:List Addr);simp);rw[n] at z;cases z
 have old2:∀ b,s'.heap.get? b=none->s0.heap.get? b=none:=fun b n=>by
  cases q:s0.heap.get? b with
  | none=>rfl
  | some o =>
    obtain⟨_,z⟩:=J.base.there b o q (by show b∉([]:List Addr);simp);rw[n] at z;cases z
 have t:=Pw.of (as:=[a,T]) J hfl2.1 up;have F0:Fly s0.heap H' s'.heap a T cls:=⟨F.ex,old _ F.newE,old _ F.newT,F.freeE,F.freeT⟩;obtain⟨T',F'⟩:=F0.again J old2 up hfl2.1 hfl2.2.2.2;refine⟨a,T',cls,H',rfl,J.os,J.bare,Du rfl J rfl rfl t ?_,t.hok J ?_,F',hE⟩
 ·intro b hb;rcases ztg.mp hb with rfl|hb
  ·exact F0.newE
  ·rcases ztg.mp hb with rfl|hb
   ·exact F0.newT
   ·cases hb
 ·intro b hb;rcases ztg.mp hb with rfl|hb
  ·exact F.freeE
  ·rcases ztg.mp hb with rfl|hb
   ·exact F.freeT
   ·cases hb
def zhk(X:Cx)(E:XK):Prop:=∀ (pins:List (Addr×Obj)) (σ:St) (H:Hp) (s:Shared) (h':Heap) (e C:Addr) (args:List Value),Inv X pins σ H s->Heap.MadeExcOf s.heap h' e (.ref C) args->E (.ref C) none H->X.xe (.ref e) { s with heap:=h' }
theorem Xg:zhk (cxOf (CX1 P w) P w K mg base N qual scope f cd A outer s0 H0 E) E:=by
 intro pins σ H s h1 e C args I hm hE;refine wpAny_leaves_madeW (base:=PySem.W.hideAll s.heap ([]++frs _)) (h:=s.heap) I.ok.frames rfl (fun b o q=>PySem.W.of_hideAll _ q)
  (PySem.W.funFrames_hide I.stack fun env he a ha=>by
   have:a∈frs _:=zvq.mpr ⟨env,he,ha⟩
   simpa using this) hm fun h2 t hfl _ _ up=>?_
 have up2:s.heap.UpToSlots h2:=(Heap.UpToSlots.of_keeps hm.keeps).trans up;have tt:=Pw.of (as:=[]) I hfl.1 up2;have old2:∀ b,s.heap.get? b=none->s0.heap.get? b=none:=fun b n=>by
  cases q:s0.heap.get? b with
  | none=>rfl
  | some o =>
    obtain⟨_,z⟩:=I.base.there b o q (by show b∉([]:List Addr);simp);rw[n] at z;cases z
 obtain⟨oe,vs,T',oT,ts,f1,⟨f2,_⟩,f3,f4,f5,f6,f7,f8,f9⟩:=hfl.2.2.2;have nT:s.heap.get? T'=none:=by
  rcases Ds f5 with z|z
  ·exact z
  ·have z':T'∈frs (cxOf (CX1 P w) P w K mg base N qual scope f cd A outer s0 H0 E).stack:=(ztl.mp z).resolve_left (by simp);obtain⟨_,o,ho,nf⟩:=I.stack.mem z';obtain⟨sl,q⟩:=up2 T' o ho nf;rw[f7] at q;cases q;exact absurd f8 (nf _)
 refine⟨e,T',.ref C,H,rfl,I.os,I.bare,Du rfl I rfl rfl tt (fun _ z=>nomatch z),tt.hok I (fun _ z=>nomatch z),⟨⟨oe,vs,oT,ts,f1,f2,f3,f4,f6,f7,f8,f9⟩,old2 _ hm.new,old2 _ nT,I.hok.none_of hm.new,I.hok.none_of nT⟩,hE⟩
end
structure Ry(K:Frag)(mg:Str->Option Value)(x:Str)(C:Addr):Prop where
 nm:mg x=some (.ref C)
 ex:PySem.W.excIn K C [.type "ValueError",.type "Exception",.type "BaseException",.type "object"] "ValueError.__new__"=true
theorem Ry.own{K:Frag}{mg:Str->Option Value}{x:Str}{C:Addr}{h:Heap}(c:Ry K mg x C)(X:K.In h):OwnCls x C [.type "ValueError",.type "Exception",.type "BaseException",.type "object"] "ValueError.__new__" mg h:=by
 refine⟨c.nm,?_⟩;have q:=c.ex;unfold PySem.W.excIn at q;split at q
 ·rename_i dd cd sl ho;split at q
  ·rename_i C' bm k0 k1 k2 k3 n k5 hm hs;simp only[zuw,beq_iff_eq,Bool.not_eq_true'] at q;obtain⟨⟨⟨⟨⟨rfl,rfl⟩,hdel⟩,ht⟩,hok⟩,hni⟩:=q;obtain⟨nm,bs,mro,ns,qn,hd,sn,sub,ab,col,del⟩:=cd;dsimp only at hm hdel hok hni;subst hm hdel;have hsl:sl=#[k0,k1,k2,k3,some (.builtin "ValueError.__new__"),k5]:=by
    obtain⟨l⟩:=sl;simp only at hs;rw[hs]
   subst hsl;exact⟨bm,ns,nm,qn,bs,hd,sn,sub,ab,col,dd,k0,k1,k2,k3,k5,_,X _ _ ho,.of_isNs (PySem.W.isNs_of_in X hok),PySem.W.nsMap_none_of_in X hok hni,PySem.W.tail_of_in X ht⟩
  ·cases q
 ·cases q
inductive zgi(C:Addr)(E:XK)(vs:List V)(H1:Hp):Prop where
 | mk(_:vs.length<=sizeLine)(_:E (.ref C) none H1)
def zil(C:Addr)(E:XK)(t:TA):TS:=fun _ σ H=>t σ H fun vs H1=>zgi C E vs H1
theorem Xh{X:Cx}{x:Str}{C:Addr}{E:XK}{e₀:Expr}{rest:List Expr}{t:TA}{np cpos pos:Pos}(hl:zhk X E)(hc:X.calm=true)(c:Ry X.K X.mg x C)(hg:Gl X x)(ha:PA X (e₀ :: rest) t)
  (he:starEach (e₀ :: rest) X.env=(false,eval e₀ X.env) :: starEach rest X.env:=by rfl) (hplain:(backTo cpos (starEach rest X.env)).any (·.1)=false:=by rfl) (hd:(x == ("__debug__":Str))=false:=by decide) :
  PS X (.Raise (some (.Call (.Name x np) (e₀ :: rest) [] cpos)) none pos) (zil C E t):=by
 intro pins s σ H D I h;have O:=c.own I.mod.kin;obtain⟨tl,N,nm,q,bs,hdct,sn,sub,ab,col,dd,k0,k1,k2,k3,k5,mN,hC,hN,hni,T⟩:=O.obj;refine wpAny_Raise_call_subT (C:=C) (nm:=nm) (q:=q) (N:=N) (bs:=bs) (bm:=tl) (hdct:=hdct) (sn:=sn) (sub:=sub) (ab:=ab) (col:=col) (dd:=dd) (k0:=k0) (k1:=k1) (k2:=k2) (k3:=k3) (k5:=k5)
  PySem.F.excBase_ValueError (mN:=mN) (T.hasType (by rfl)) (I.ok.hd hc) (by rw[he];show (false||(backTo cpos (starEach rest X.env)).any (·.1))=false;rw[hplain];rfl) hni (O0 I hg c.nm ⟨rfl,?_⟩ hd)
 have hp:=ha cpos pins s σ H _ I h;rw[he] at hp ⊢;refine Calls.evalArgs_plain (wpAny_mono hp (fun us s2 h2=>?_) fun _ _ y=>y);obtain⟨vs,H1,I1,r,hlen,hE⟩:=h2;exact⟨rfl,by rw[<- r.length];exact hlen,I1.bk _ _ hC,hN.keeps I1.bk,T.keeps I1.bk,fun h' e hm=>hl _ _ _ _ _ _ _ _ I1 hm hE⟩
structure zlb(K:Frag)(CB:Addr):Prop where
 ty:PySem.W.typeIn K (.ref CB)=some (.type "type")
 cl:(PySem.W.clsIn K CB).isSome=true
 bx:PySem.W.mroIn K CB (.type "BaseException")=some true
end L2
namespace L2
open PySem PySem.Spec PyProof.Rows PySem.W PySem.Calls PySem.Builtin PySem.Builtin.ObjectAttr PySem.Builtin.Getset_descriptor
def zj8(a:Addr)(cls:Value):HO:=.ext fun h=>∃ o vs,h.get? a=some o/\o.cls=cls/\o.data=.fields vs
structure zb6(K:Frag)(D:Addr):Prop where
 ga:findIn K (.ref D) "__getattribute__"=some (some (.builtin "BaseException.__getattribute__"))
 gk:findIn K (.ref D) "__getattr__"=some none
 cl:(clsIn K D).isSome=true
 at_:findIn K (.ref D) "__class__"=some (some (.builtin "object.__class__"))
 gt:specialIn K (.builtin "object.__class__") "__get__"=some (some (.builtin "getset_descriptor.__get__"))
 tk:takesIn K (.builtin "object.__class__")=some true
 mo:mroIn K D (.type "object")=some true
 mx:mroIn K D (.type "BaseException")=some true
section
variable{prog:Program}{w:World}{A:Around}{E:Value->Shared->Prop}{s:Shared}{K:Frag}{x D:Addr}
theorem zd6(X:K.In h)(c:zb6 K D):Looks M h (find (.ref x) (.ref D) "__class__") (.bind (.builtin "getset_descriptor.__get__") (.builtin "object.__class__")):=by
 have L1:=looks_findIn (M:=M) X c.at_;have L2:Looks M h (getOf (some (.builtin "object.__class__"))) (some (.builtin "getset_descriptor.__get__")):=looks_specialIn X c.gt;have L3:=looks_takesIn (M:=M) X c.tk;exact L1.andThen (L2.andThen ((show Looks M h (dataDescriptor? (some (.builtin "object.__class__")) (some (.builtin "getset_descriptor.__get__"))) (some (.builtin "getset_descriptor.__get__",.builtin "object.__class__")) from L3.andThen .now).andThen (Looks.tag .now)))
theorem B7(X:K.In s.heap)(hx:s.heap.get? x=some o)(hc:o.cls=.ref D)(c:zb6 K D)(q:R (.ok (.ret (.ref D))) s) :
  codeAny (model prog w) A (.call (.builtin "getset_descriptor.__get__") ⟨[.builtin "object.__class__",.ref x,.ref D],[]⟩) R s:=by
 obtain⟨hh,g,d,t,os⟩:=s;have L0:Looks (model prog w) hh (typeOf (.ref x)) (.ref D):=hc▸(Looks.ld hx).andThen .now;have Lm:=looks_mroIn (M:=model prog w) X c.mo;refine codeAny_call_builtin KF.slot_gs.plain KF.entry_gs (KF.slot_gs.check _ _ _ _ _ _ _ _ KF.type_class (KF.args_gs _ _ _) ?_);unfold Builtin.«getset_descriptor.__get__» descrGet;rw[dga_obj];refine wpAny_bind (wpAny_pure ?_);unfold descrGetter descrCheckInstance descrNameAndClass isInstance;simp only[KF.owner_class]
 repeat lk
 refine⟨Code.quiet_builtin _ ⋯,codeAny_builtin KF.entry_class ?_⟩;unfold Builtin.«object.__class__» shownTypeOf
 repeat lk
 exact q
theorem zim(X:K.In s.heap)(hx:s.heap.get? x=some o)(hc:o.cls=.ref D)(c:zb6 K D)(q:Q (.done (.ret (.ref D))) s) :
  wpAny (model prog w) A (Builtin.«object.__getattribute__» ⟨[.ref x,.str "__class__" tk],[]⟩) Q E s:=by
 have L0:Looks (model prog w) s.heap (typeOf (.ref x)) (.ref D):=hc▸(Looks.ld hx).andThen .now;have Lf:=zd6 (x:=x) (M:=model prog w) X c;have e1:slotArgs "__getattribute__" 1 ⟨[.ref x,.str "__class__" tk],[]⟩=pure (.ref x,[.str "__class__" tk]):=rfl;unfold Builtin.«object.__getattribute__»;rw[e1];refine wpAny_bind (wpAny_pure ?_);refine wpAny_bind (show wpAny _ _ (attrName (.str "__class__" tk)) _ _ _ from wpAny_pure ?_);obtain⟨hh,g,d,t,os⟩:=s;refine wpAny_bind (L0.at (wpAny_bind (Lf.at ?_)));show wpAny _ _ (bindTo _ _ _ _) _ _ _;unfold bindTo;dsimp only;refine wpAny_bind (wpAny_holding (wpAny_call (B7 X hx hc c ?_)));exact wpAny_pure q
theorem Iu(X:K.In s.heap)(hx:s.heap.get? x=some o)(hc:o.cls=.ref D)(c:zb6 K D)(q:Q (some (.ref D)) { s with toks:=s.toks+1 }) :
  wpAny (model prog w) A (getAttr? (.ref x) "__class__") Q E s:=by
 obtain⟨hh,g,d,t,os⟩:=s;have L0:Looks (model prog w) hh (typeOf (.ref x)) (.ref D):=hc▸(Looks.ld hx).andThen .now;have La:=looks_findIn (M:=model prog w) X c.ga;have Lk:=looks_findIn (M:=model prog w) X c.gk;have Lx:=looks_mroIn (M:=model prog w) X c.mx;have hb:=PySem.F.attr_ValueError.ga.bind (.ref x);have hne0:(Value.builtin "BaseException.__getattribute__" == Value.builtin "object.__getattribute__")=false:=by decide +kernel
 have hne:(onTheHeap (Value.ref D)&&Value.builtin "BaseException.__getattribute__" == Value.builtin "object.__getattribute__")=false:=by rw[hne0];rfl
 unfold getAttr? getAttrBy? getAttrBy;refine wpAny_bind (wpAny_mkText (wpAny_bind (wpAny_attempt (wpAny_holding (wpAny_bind (L0.at (wpAny_bind (La.at ?_))))))));dsimp only;rw[if_neg (by rw[hne];decide)];unfold getAttrByItsOwn;refine wpAny_bind (show wpAny _ _ (typeLookup (.ref D) "__getattr__") _ _ _ from Lk.at ?_);refine wpAny_bind (wpAny_attempt (wpAny_holding ?_));show wpAny _ _ (boundAndCalled _ _ _) _ _ _;unfold boundAndCalled;rw[hb];refine wpAny_bind (wpAny_pure (wpAny_call ?_));refine codeAny_call_builtin PySem.F.attr_ValueError.ga.plain PySem.F.entry_bexc_ga ?_;have hk:builtinKind "BaseException.__getattribute__"=some .slot:=by decide +kernel
 have hsplit:splitId "BaseException.__getattribute__"=some ("BaseException","__getattribute__"):=by decide +kernel
 have ha:=PySem.F.args_bexc_ga (.ref x) (.str "__class__" t);simp only[checkBuiltinCall,hk,hsplit,List.cons_append,List.nil_append];unfold isInstance
 repeat (first|with_reducible refine zim X hx hc c ?_|lk)
 exact q
theorem zd7(c:zb6 K D):KitX K (.ref x) (.ref D) (fun h=>∃ o,h.get? x=some o/\o.cls=.ref D) where
 ty:=fun M h _ p=>by obtain⟨o,hx,hc⟩:=p;exact hc▸(Looks.ld hx).andThen .now
 it:=fun _ _ X _=>by
  have z:=c.cl;unfold clsIn at z;split at z
  ·rename_i ho;intro A' Q' E' s' k q;unfold isType loadHead;exact wpAny_bind (wpAny_loadPart (k _ _ (X _ _ ho)) (wpAny_pure q))
  ·cases z
 ne:=fun h tp dd its n sl X htp=>by
  refine Bool.eq_false_iff.mpr fun q=>?_;have e:D=tp:=Value.ref.inj (beq_iff_eq.mp q);subst e;have z:=c.cl;unfold clsIn at z;split at z
  ·rename_i ho;have z:=(X _ _ ho).symm.trans htp;cases z
  ·cases z
 ca:=fun X p q=>by obtain⟨o,hx,hc⟩:=p;exact Iu X hx hc c q
end
inductive TyX(K:Frag)(H:Hp)(x:V)(t:Value):Prop where
 | of (h:Nz K H x t):TyX K H x t
 | exc {a D:Addr} (ex:x=.ref a) (et:t=.ref D) (h:H a=some (zj8 a (.ref D))) (c:zb6 K D):TyX K H x t
def zj9:V->Value
 | .ty n=>.type n
 | .ref a=>.ref a
 | _=>.none
inductive zka(K:Frag)(xs:List V)(H:Hp)(Q:VK):Prop where
 | mk(x)(c)(t)(b)(_:xs=[x,c])(_:TyX K H x t)(_:((∃ n,c=.ty n)\/∃ a,c=.ref a))(_:kitOne K t (zj9 c)=some b)(_:Q (.bl b) H)
theorem zd8:W8 X (.builtin "isinstance") (zka X.K):=by
 intro pins s σ H xs us Q I r h;obtain⟨x,c,t,b,rfl,ty,hc,hk,q⟩:=h;obtain⟨u,w',rfl,r1,r2⟩:=zdo r;have e:w'=zj9 c:=by
  rcases hc with ⟨n,rfl⟩|⟨a,rfl⟩
  ·exact r2
  ·exact r2
 subst e;cases ty with
 | of ty=>exact zbu I r1 ty hk fun tk=>⟨.bl b,H,I.tok tk,rfl,q⟩
 | @exc a D ex et ha cl =>
   subst ex et;cases (show u=Value.ref a from r1);obtain⟨⟨o,vs,ho,hcl,_⟩,_⟩:=(show Y3 X.prog X.w H s.heap a (zj8 a (.ref D)) from I.hok a _ ha);exact kia_one (zd7 cl) I.kIn ⟨o,ho,hcl⟩ hk (fun z=>nomatch z) fun tk=>⟨.bl b,H,I.tok tk,rfl,q⟩
structure zld(X:Cx):Prop where
 ex:X.ex=[]
 lk:X.lk=[]
 st:X.stack=X.env :: X.outer
 fr:X.env.frame=some X.env.locals
section
variable{P:Program}{w:World}{K:Frag}{mg:Str->Option Value}{base:Heap}
theorem Fun.okX{x qual:Str}{st:Stmt}{f:Addr}{fd:FuncData}{N ps:List Str}{k:Nat}{sp:Sp}(F:Fun K x qual st f fd)(S:Zl N ps (Zj st))(len:∀ vs H Q E,sp vs H Q E->vs.length=ps.length)
  (hbody:∀ (cdv:Value) (A:Around) (outer:List Env) (s:Shared) (H:Hp) (vs:List V) (Q:VK) (E:XK),Wv k (A.deeper (envOfC qual (Zj st) s.heap.objs.size f cdv))->sp vs H Q E ->
   ∃ t,PSs (cxOf (CX1 P w) P w K mg base N qual (Zj st) f cdv A outer s H E) (Zr st) t/\t { nx:=fun _ H'=>Q .non H',rt:=Q } (M5 N vs) H):FnOk P w K mg base (CX1 P w) (k+1) f fd ps sp:=by
 obtain⟨oc,od,kV,doc,pm,an,cdv,ct,osl,rfl,lk,hcd⟩:=F.ex;exact zjw lk hcd S len fun A outer s H vs Q E hr hsp=>hbody cdv A outer s H vs Q E hr hsp
end
def Iv{α:Type}(p:α->Prop):List α->Prop
 | []=>True
 | a :: r=>p a/\Iv p r
theorem Iv.get:∀ {l:List α} {a:α},Iv p l->a∈l->p a
 | _ :: _,_,h,.head _=>h.1
 | _ :: _,_,h,.tail _ m=>Iv.get h.2 m
def Yt(X:Cx)(pn:List (Addr×Obj))(Nc:List Str)(scope:Scope)(cl:List (Str×Addr))(s₀:Shared)(H₀:Hp)(fp:List Addr)(C:Addr):Cx :=
 { X with N:=Nc,s₀:=s₀,H₀:=H₀,env:=compEnvC scope cl C X.env,outer:=X.stack,stack:=X.stack,ex:=fp,fn:=fun _=>false,pn:=pn,xe:=fun _ _=>False,lk:=[] }
def cs(js:List Nat)(σ:St)(x:V):St:=some x :: js.map fun j=>(σ[j]?).getD none
def PTs(X:Cx)(ifs:List Expr)(t:TT):Prop :=
 ∀ (pins:List (Addr×Obj)) (s:Shared) (σ:St) (H:Hp) (Q:Bool->Hp->Prop),Inv X pins σ H s->t σ H Q ->
   wpAny (model X.prog X.w) X.A (forIn ifs true fun c r=>if r=true then do let ok <- isTrue c X.env (eval c X.env);pure (ForInStep.yield ok) else pure (ForInStep.yield r)) (TP X pins σ Q) X.xe s
def tYes:TT:=fun _ H Q=>Q true H
theorem V5:PTs X [] tYes:=fun _ _ _ H _ I h=>wpAny_tests_nil ⟨H,I,h⟩
theorem Qw(h:PT X c t):PTs X [c] t:=fun pins s σ H Q I q=>wpAny_tests_one (h pins s σ H Q I q)
def zal(J:It)(js:List Nat)(tt:TT)(te:TE)(σ:St)(H:Hp)(Q:VK):Prop:=∃ W:Nat->Nat->List V->Hp->Prop,(∃ m,W 0 m [] H)/\∀ i m ys H,W i m ys H ->
 (J.stop i H/\ys.length<=sizeLine/\∀ p,H p=none->Q (.ref p) (upd H p (.lst ys))) \/
 (J.go i H/\ys.length<sizeLine/\∃ N:List V->Hp->Prop,(∀ ys' H',N ys' H'->∃ m',m' < m/\W (i+1) m' ys' H')/\∀ x H',J.yld i H x H'->tt (cs js σ x) H' fun b H2=>if b=true then te (cs js σ x) H2 fun y H3=>N (ys++[y]) H3 else N ys H2)
def zhl(wi:TI)(js:List Nat)(tt:TT)(te:TE):TE:=fun σ H Q=>wi σ H fun J H1=>zal J js tt te σ H1 Q
section
variable{X:Cx}{elt iter:Expr}{x:Str}{px pos:Pos}{ifs:List Expr}{scope:Scope}{cl:List (Str×Addr)}{ys:List Str}{js:List Nat}
structure zam(X:Cx)(x:Str)(scope:Scope)(cl:List (Str×Addr))(ys:List Str)(js:List Nat):Prop where
 clos:closureFor scope X.env=pure cl
 kind:scope.kind=.function
 names:∀ y∈scope.names,y.2=.local->scope.names.lookup y.1=some .local
 nocell:∀ y∈scope.names,y.2≠.cell
 own:scope.names.lookup x=some .local
 nd:(x :: ys).Nodup
 at_:js.map (X.N[·]?)=ys.map some
 free:Iv (fun y=>X.env.kindOf y=some .cell/\(relabel scope X.env).names.lookup y=some .cell/\cl.lookup y=X.env.cells.lookup y) ys
 only:Iv (fun p=>X.env.cells.lookup p.1=some p.2) cl
 vis:∀ y∈scope.names,y.2=.free->y.1∈ys
theorem O4{env:Env}:∀ {names:List (Str×NameKind)} {y:Str},(names.map fun (n,k)=>if (k == NameKind.free&&env.scope.kind == .function&&env.kindOf n == some .cell) then (n,NameKind.cell) else (n,k)).lookup y=some .cell \/
  (names.map fun (n,k)=>if (k == NameKind.free&&env.scope.kind == .function&&env.kindOf n == some .cell) then (n,NameKind.cell) else (n,k)).lookup y=some .free->∃ k,(y,k)∈names/\(k=.cell\/k=.free)
 | [],_,h=>by rcases h with h|h<;>simp at h
 | (n,k) :: r,y,h=>by
   by_cases hx:y=n
   ·subst hx;refine⟨k,zt3,?_⟩;rw[zto] at h;dsimp only at h;by_cases hc:(k == NameKind.free&&env.scope.kind == .function&&env.kindOf y == some .cell)=true
    ·simp only[zuw,beq_iff_eq] at hc;exact .inr hc.1.1
    ·rw[if_neg hc] at h;simp only[zuh,beq_self_eq_true] at h;rcases h with h|h
     ·exact .inl (Option.some.inj h)
     ·exact .inr (Option.some.inj h)
   ·have hb:(y == n)=false:=zt0.mpr hx;have ih:=@O4 env r y;rw[zto] at h;have key:∀ z:Str×NameKind,z.1=n->List.lookup y (z :: (r.map fun (n,k)=>if (k == NameKind.free&&env.scope.kind == .function&&env.kindOf n == some .cell) then (n,NameKind.cell) else (n,k))) =
      List.lookup y (r.map fun (n,k)=>if (k == NameKind.free&&env.scope.kind == .function&&env.kindOf n == some .cell) then (n,NameKind.cell) else (n,k)):=fun z hz=>by
     obtain⟨z1,z2⟩:=z;cases hz;simp only[zuh,hb]
    rw[key _ (by dsimp only;split<;>rfl)] at h;obtain⟨k',m,q⟩:=ih h;exact⟨k',ztr _ m,q⟩
variable{wi:TI}{tt:TT}{te:TE}
end
theorem Xw{K:Frag}{js:List Nat}{tt:TT}{te:TE}{a:Addr}{xs:List V}{σ:St}{H:Hp}{Q:VK}(Pv:Nat->List V->Hp->Prop)(h0:Pv 0 [] H)(hl:∀ i ys H,i<=xs.length->Pv i ys H->SqL K H a xs)(hz:xs.length<=sizeLine)
  (hy:∀ i ys H,Pv i ys H->ys.length<=i)
  (hs:∀ i x ys H,xs[i]?=some x->Pv i ys H->tt (cs js σ x) H fun b H2=>if b=true then te (cs js σ x) H2 fun y H3=>Pv (i+1) (ys++[y]) H3 else Pv (i+1) ys H2)
  (hd:∀ ys H,Pv xs.length ys H->∀ p,H p=none->Q (.ref p) (upd H p (.lst ys))):zal (Itl K a) js tt te σ H Q:=by
 refine⟨fun i m ys H=>m=xs.length-i/\i<=xs.length/\Pv i ys H,⟨xs.length,by simp,zt4 _,h0⟩,?_⟩;rintro i m ys H ⟨rfl,hi,p⟩;have q:=hl i ys H hi p;have ly:=hy i ys H p;by_cases hlt:i<xs.length
 ·refine .inr ⟨⟨xs,xs[i],q,by simp[hlt]⟩,by omega,Pv (i+1),fun ys' H' p'=>⟨xs.length-(i+1),by omega,rfl,hlt,p'⟩,fun x H' y=>?_⟩;obtain⟨e,y⟩:=y;subst e;exact hs i x ys _ (y xs q) p
 ·have e:i=xs.length:=by omega
  subst e;exact .inl ⟨⟨xs,q,ztm _⟩,by omega,hd ys H p⟩
theorem B8{js:List Nat}{tt:TT}{te:TE}{lo:Int}{n:Nat}{σ:St}{H:Hp}{Q:VK}(Pv:Nat->List V->Hp->Prop)(h0:Pv 0 [] H)(hz:n<=sizeLine)(hy:∀ i ys H,Pv i ys H->ys.length<=i)
  (hs:∀ i ys H,i<n->Pv i ys H->tt (cs js σ (.int (lo+i))) H fun b H2=>if b=true then te (cs js σ (.int (lo+i))) H2 fun y H3=>Pv (i+1) (ys++[y]) H3 else Pv (i+1) ys H2)
  (hd:∀ ys H,Pv n ys H->∀ p,H p=none->Q (.ref p) (upd H p (.lst ys))):zal (Itr lo n) js tt te σ H Q:=by
 refine⟨fun i m ys H=>m=n-i/\i<=n/\Pv i ys H,⟨n,by simp,zt4 _,h0⟩,?_⟩;rintro i m ys H ⟨rfl,hi,p⟩;have ly:=hy i ys H p;by_cases hlt:i<n
 ·refine .inr ⟨hlt,by omega,Pv (i+1),fun ys' H' p'=>⟨n-(i+1),by omega,rfl,hlt,p'⟩,fun x H' y=>?_⟩;obtain⟨e,y⟩:=y;subst e y;exact hs i ys _ hlt p
 ·have e:i=n:=by omega
  subst e;exact .inl ⟨ztm _,by omega,hd ys H p⟩
theorem Gx{js:List Nat}{te:TE}{lo:Int}{n:Nat}{σ:St}{H:Hp}{Q:VK}(f:Nat->V)(hz:n<=sizeLine)
  (hs:∀ i (R:VK),i<n->R (f i) H->te (cs js σ (.int (lo+i))) H R) (hd:∀ p,H p=none->Q (.ref p) (upd H p (.lst ((List.range n).map f)))):zal (Itr lo n) js tYes te σ H Q:=by
 refine B8 (fun i ys H'=>H'=H/\ys=(List.range i).map f) ⟨rfl,rfl⟩ hz (fun i ys H' ⟨_,e⟩=>by rw[e,zta,zuo];exact ztm _) (fun i ys H' hi ⟨e1,e2⟩=>?_) fun ys H' ⟨e1,e2⟩ p hp=>?_
 ·subst e1;unfold tYes;dsimp only;rw[if_pos rfl];refine hs i _ hi ⟨rfl,?_⟩;rw[e2,List.range_succ,zti];rfl
 ·subst e1;rw[e2];exact hd p hp
theorem Rz:∀ {xs:List V} {us:List Value},xs.length=us.length->(∀ (j:Nat) x u,xs[j]?=some x->us[j]?=some u->RelV x u)->Vals xs us
 | [],[],_,_=>.nil
 | x :: xs,u :: us,hl,h=>.cons (h 0 x u rfl rfl) (Rz (by simpa using hl) fun j x' u' h1 h2=>h (j+1) x' u' (by simpa using h1) (by simpa using h2))
abbrev TF:=St->Hp->(Hp->Prop)->Prop
def PF(X:Cx)(e:Expr)(t:TF):Prop :=
 ∀ (pins:List (Addr×Obj)) (s:Shared) (σ:St) (H:Hp) (k:Hp->Prop),Inv X pins σ H s->t σ H k ->
   wpAny (model X.prog X.w) X.A (eval e X.env) (fun u s'=>∃ y tk H',u=.str y tk/\y.length<=10000/\Inv X pins σ H' s'/\k H') X.xe s
def PFs(X:Cx)(es:List Expr)(t:TF):Prop :=
 ∀ (pins:List (Addr×Obj)) (s:Shared) (σ:St) (H:Hp) (k:Hp->Prop) (acc:Str),Inv X pins σ H s->acc.length+10000*es.length<=sizeLine->t σ H k ->
   Joins (model X.prog X.w) X.A X.xe (evalEach es X.env) acc (fun out s'=>out.length<=sizeLine/\∃ H',Inv X pins σ H' s'/\k H') s
def zkb:TF:=fun _ H k=>k H
def zkc(t u:TF):TF:=fun σ H k=>t σ H fun H1=>u σ H1 k
def okF(v:V):Prop:=(∃ i,v=.int i/\i.natAbs.log2<1920)\/∃ y,v=.str y/\y.length<=10000
def zk2(te:TE):TF:=fun σ H k=>te σ H fun v H1=>okF v/\k H1
def zkd(t:TF):TE:=fun σ H Q=>t σ H fun H1=>∀ z,Q (.str z) H1
section
variable{X:Cx}{e:Expr}{es:List Expr}{te:TE}{t u:TF}{pos:Pos}
theorem Xx{j}(h:x.length<=10000):PF X (.Constant (.str x) j pos) zkb:=fun _ _ _ H _ I hk=>Calls.Constant_str ⟨x,_,H,rfl,h,I.tok _,hk⟩
theorem Wz(he:PE X e te):PF X (.FormattedValue e (-1) none pos) (zk2 te):=by
 intro pins s σ H k I h;refine FormattedValue_plain (thn (he pins s σ H _ I h) fun v s1 ⟨x,H1,I1,r1,ok,hk⟩=>?_);rcases ok with ⟨i,rfl,hi⟩|⟨y,rfl,hy⟩
 ·obtain⟨t,rfl⟩:=r1;refine formatField_int_small hi ⟨_,_,H1,rfl,?_,I1.tok _,hk⟩;have:=int_text_length_le (k:=1920) ⋯ hi;show (Str.ofString (toString i)).length<=10000;rw[PySem.ofString_length];omega
 ·obtain⟨t,rfl⟩:=r1;exact formatField_str (fun t' tk=>⟨y,t',H1,rfl,hy,I1.tok tk,hk⟩) (by rw[sizeLine_eq];omega)
theorem Vb:PFs X [] zkb:=fun _ _ _ H _ _ I hz hk=>⟨by simpa using hz,H,I,hk⟩
theorem Z0(h1:PF X e t)(h2:PFs X es u)(hs:evalEach (e :: es) X.env=eval e X.env :: evalEach es X.env:=by rfl):PFs X (e :: es) (zkc t u):=by
 intro pins s σ H k acc I hz h;rw[hs];refine thn (h1 pins s σ H _ I h) fun v s1 ⟨y,tk,H1,e1,hy,I1,hk⟩=>⟨y,tk,e1,?_,?_⟩
 ·rw[strLen_append];rw[ztt] at hz;omega
 ·exact h2 pins s1 σ H1 k _ I1 (by rw[strLen_append];rw[ztt] at hz;omega) hk
theorem Vc(h:PFs X (e :: e' :: es) t)(hl:es.length<=100):PE X (.JoinedStr (e :: e' :: es) pos) (zkd t):=by
 intro pins s σ H Q I h';refine wpAny_JoinedStr ?_;have q:=h pins s σ H _ Str.empty I (by rw[sizeLine_eq];simp only[ztt];have:Str.empty.length=0:=rfl;omega) h';have mono:∀ (ps:List (Sem Value)) (acc:Str) (Q1 Q2:Str->Shared->Prop) (s:Shared),(∀ o s,Q1 o s->Q2 o s)->Joins (model X.prog X.w) X.A X.xe ps acc Q1 s->Joins (model X.prog X.w) X.A X.xe ps acc Q2 s:=by
  intro ps
  induction ps with
  | nil=>intro acc Q1 Q2 s m z;exact m _ _ z
  | cons p r ih=>intro acc Q1 Q2 s m z;exact thn z fun v s1 ⟨y,tk,e1,hz,z1⟩=>⟨y,tk,e1,hz,ih _ _ _ _ m z1⟩
 refine mono _ _ _ _ _ (fun out s1 ⟨hz,H1,I1,hk⟩=>⟨hz,.str out,H1,I1.tok _,⟨_,rfl⟩,hk out⟩) q
end
section
variable{X:Cx}
theorem B9(hc:X.calm=true):W8 X (.type "list") (fun xs H Q=>∃ a kvs,xs=[.ref a]/\Rd H a (.dK kvs)/\∀ l,H l=none->Q (.ref l) (upd H l (.lst (kvs.map fun kv=>kV kv.1)))):=by
 intro pins s σ H xs us Q I r h;obtain⟨a,kvs,rfl,ha,q⟩:=h;obtain⟨u,rfl,ru⟩:=Sa r;cases (show u=Value.ref a from ru);obtain⟨hz,lo,vs,kv,o,es,ep,e1,e2⟩:=Rw I.hok ha;have hl:kvs.length=vs.length:=KV.length kv;refine PySem.W.kdl_call (PySem.W.kdl_dict (knd:=Yi X.prog X.w) (kvs:=vs) (ep:=ep) lo) (I.ok.hd hc) ⟨o,es,e1,e2⟩ (by rw[<- hl];exact hz) fun h' tk acc c hk hS hacc=>?_;have hf:H s.heap.objs.size=none:=I.hok.fresh (ztm _);refine⟨.ref s.heap.objs.size,upd H s.heap.objs.size (.lst (kvs.map fun kv=>kV kv.1)),I.laid (t':=tk) hk (ztm _) ?_,rfl,q _ hf⟩;obtain⟨accl⟩:=acc;refine⟨by rw[zta];exact hz,accl,c,?_,hS⟩;have hlen:accl.length=vs.length:=by have:=hacc.1;simpa using this
 refine Rz (by rw[zta,hl,hlen]) fun j x u hx hu=>?_;obtain⟨k,y,hk1,hk2⟩:=hacc.2 j u (by simpa using hu);have ek:=congrArg (·[j]?) (KV.keys kv);simp only[ztj,hk1,zus] at ek;rw[ztj] at hx;cases hkv:kvs[j]? with
 | none=>rw[hkv] at hx;cases hx
 | some p =>
   rw[hkv] at hx ek;have e1:kV p.1=x:=Option.some.inj hx;have e2:p.1=k:=Option.some.inj ek;rw[<- e1,e2];rcases Yw hk2 with ⟨i,t,rfl,rfl⟩|⟨z,t,rfl,rfl⟩
   ·exact⟨t,rfl⟩
   ·exact⟨t,rfl⟩
end
inductive Dt where
 | non|bl (b:Bool)|int (i:Int)|str (x:Str)|lst (xs:List Dt)|tup (xs:List Dt)
mutual
inductive Is(K:Frag)(H:Hp):V->Dt->Prop where
 | non:Is K H .non .non
 | bl (b:Bool):Is K H (.bl b) (.bl b)
 | int (i:Int):Is K H (.int i) (.int i)
 | str (x:Str):Is K H (.str x) (.str x)
 | lst {a:Addr} {xs:List V} {ds:List Dt} (h:SqL K H a xs) (hs:X7 K H xs ds):Is K H (.ref a) (.lst ds)
 | tup {a:Addr} {xs:List V} {ds:List Dt} (h:SqT K H a xs) (hs:X7 K H xs ds):Is K H (.ref a) (.tup ds)
inductive X7(K:Frag)(H:Hp):List V->List Dt->Prop where
 | nil:X7 K H [] []
 | cons {x:V} {xs:List V} {d:Dt} {ds:List Dt} (h:Is K H x d) (t:X7 K H xs ds):X7 K H (x :: xs) (d :: ds)
end
mutual
def eqD:Dt->Dt->Bool
 | .non,.non=>true
 | .bl a,.bl b=>a == b
 | .bl a,.int b=>(if a then 1 else 0) == b
 | .int a,.bl b=>a == (if b then 1 else 0)
 | .int a,.int b=>a == b
 | .str a,.str b=>a == b
 | .lst xs,.lst ys=>Q8 xs ys
 | .tup xs,.tup ys=>Q8 xs ys
 | _,_=>false
def Q8:List Dt->List Dt->Bool
 | [],[]=>true
 | x :: xs,y :: ys=>eqD x y&&Q8 xs ys
 | _,_=>false
end
mutual
theorem Dv:∀ d:Dt,eqD d d=true
 | .non=>by simp[eqD]
 | .bl _=>by simp[eqD]
 | .int _=>by simp[eqD]
 | .str _=>by simp[eqD]
 | .lst xs=>by rw[eqD];exact N2 xs
 | .tup xs=>by rw[eqD];exact N2 xs
theorem N2:∀ ds:List Dt,Q8 ds ds=true
 | []=>by simp[Q8]
 | d :: ds=>by rw[Q8,Dv d,N2 ds];rfl
end
mutual
def zk3:Dt->Nat
 | .lst xs=>zd9 xs+1
 | .tup xs=>zd9 xs+1
 | _=>0
def zd9:List Dt->Nat
 | []=>0
 | d :: ds=>max (zk3 d) (zd9 ds)
end
section
variable{X:Cx}{pins:List (Addr×Obj)}{σ:St}{H:Hp}{s:Shared}
theorem R0(I:Inv X pins σ H s)(h1:SqL X.K H a xs)(h2:SqT X.K H a ys):False:=by
 obtain⟨_,_,⟨o,n,e1,e2,_⟩,_⟩:=I.list h1;obtain⟨_,_,⟨o',e1',e2',_⟩,_⟩:=I.tuple h2;rw[e1] at e1';cases e1';exact absurd (Value.type.inj (e2.symm.trans e2')) ⋯
mutual
theorem Is.inj(I:Inv X pins σ H s):∀ {x:V} {d d':Dt},Is X.K H x d->Is X.K H x d'->d=d'
 | _,_,_,.non,.non=>rfl
 | _,_,_,.bl _,.bl _=>rfl
 | _,_,_,.int _,.int _=>rfl
 | _,_,_,.str _,.str _=>rfl
 | _,_,_,.lst h hs,.lst h' hs'=>by
   have e:=I.list_inj h h';subst e;rw[X7.inj I hs hs']
 | _,_,_,.tup h hs,.tup h' hs'=>by
   have e:=I.tuple_inj h h';subst e;rw[X7.inj I hs hs']
 | _,_,_,.lst h _,.tup h' _=>(R0 I h h').elim
 | _,_,_,.tup h _,.lst h' _=>(R0 I h' h).elim
theorem X7.inj(I:Inv X pins σ H s):∀ {xs:List V} {ds ds':List Dt},X7 X.K H xs ds->X7 X.K H xs ds'->ds=ds'
 | _,_,_,.nil,.nil=>rfl
 | _,_,_,.cons h t,.cons h' t'=>by rw[Is.inj I h h',X7.inj I t t']
end
mutual
def toPy:Dt->PyData
 | .non=>.none
 | .bl b=>.bool b
 | .int i=>.int i
 | .str x=>.str x
 | .lst xs=>.list (X0 xs)
 | .tup xs=>.tuple (X0 xs)
def X0:List Dt->List PyData
 | []=>[]
 | d :: ds=>toPy d :: X0 ds
end
mutual
theorem O5:∀ d e:Dt,PyData.eqv (toPy d) (toPy e)=eqD d e
 | .non,e=>by cases e<;>simp[toPy,eqD,PyData.eqv]
 | .bl _,e=>by cases e<;>simp[toPy,eqD,PyData.eqv]
 | .int _,e=>by cases e<;>simp[toPy,eqD,PyData.eqv]
 | .str _,e=>by cases e<;>simp[toPy,eqD,PyData.eqv]
 | .lst xs,.lst ys=>by rw[toPy,toPy,PyData.eqv,eqD];exact N3 xs ys
 | .tup xs,.tup ys=>by rw[toPy,toPy,PyData.eqv,eqD];exact N3 xs ys
 | .lst _,.non=>by simp[toPy,eqD,PyData.eqv]
 | .lst _,.bl _=>by simp[toPy,eqD,PyData.eqv]
 | .lst _,.int _=>by simp[toPy,eqD,PyData.eqv]
 | .lst _,.str _=>by simp[toPy,eqD,PyData.eqv]
 | .lst _,.tup _=>by simp[toPy,eqD,PyData.eqv]
 | .tup _,.non=>by simp[toPy,eqD,PyData.eqv]
 | .tup _,.bl _=>by simp[toPy,eqD,PyData.eqv]
 | .tup _,.int _=>by simp[toPy,eqD,PyData.eqv]
 | .tup _,.str _=>by simp[toPy,eqD,PyData.eqv]
 | .tup _,.lst _=>by simp[toPy,eqD,PyData.eqv]
theorem N3:∀ ds es:List Dt,PyData.eqvAll (X0 ds) (X0 es)=Q8 ds es
 | [],[]=>by simp[X0,Q8,PyData.eqvAll]
 | [],_ :: _=>by simp[X0,Q8,PyData.eqvAll]
 | _ :: _,[]=>by simp[X0,Q8,PyData.eqvAll]
 | d :: ds,e :: es=>by rw[X0,X0,PyData.eqvAll,Q8,O5 d e,N3 ds es]
end
mutual
theorem Is.reads(I:Inv X pins σ H s):∀ {d:Dt} {x:V} {u:Value},Is X.K H x d->RelV x u->∃ as,Reads s.heap u (toPy d) as
 | _,_,_,.non,r=>by cases r;exact⟨_,.none⟩
 | _,_,_,.bl b,r=>by cases r;exact⟨_,.bool b⟩
 | _,_,_,.int i,r=>by obtain⟨t,rfl⟩:=r;exact⟨_,.int i t⟩
 | _,_,_,.str i,r=>by obtain⟨t,rfl⟩:=r;exact⟨_,.str i t⟩
 | _,_,_,.lst h hs,r=>by
   cases r;obtain⟨its,r1,⟨o,n',e1,e2,e3,e4⟩,_⟩:=I.list h;obtain⟨as,q⟩:=X7.reads I hs r1;rw[toPy];exact⟨_,.list e1 e2 e4 (by simpa using q)⟩
 | _,_,_,.tup h hs,r=>by
   cases r;obtain⟨its,r1,⟨o,e1,e2,n',e4⟩,_⟩:=I.tuple h;obtain⟨as,q⟩:=X7.reads I hs r1;rw[toPy];exact⟨_,.tuple e1 e2 e4 (by simpa using q)⟩
theorem X7.reads(I:Inv X pins σ H s):∀ {ds:List Dt} {xs:List V} {us:List Value},X7 X.K H xs ds->Vals xs us->∃ as,ReadsAll s.heap us (X0 ds) as
 | _,_,_,.nil,r=>by cases r;exact⟨_,.nil⟩
 | _,_,_,.cons h t,r=>by
   cases r with
   | cons r1 r2 =>
     obtain⟨as,q1⟩:=Is.reads I h r1;obtain⟨bs,q2⟩:=X7.reads I t r2;exact⟨_,.cons q1 q2⟩
end
def shD(d:Dt):Prop:=SeqAt.shaped (toPy d)=true
inductive zea(K:Frag)(neg:Bool)(x:V)(y:V)(H:Hp)(Q:VK):Prop where
 | mk(d)(e)(_:Is K H x d)(_:Is K H y e)(_:shD d)(_:shD e)(_:Q (.bl (if neg then !eqD d e else eqD d e)) H)
theorem zin(hu:X.A.units+64<cLine):OpR X (compareOp .Eq) (zea X.K false):=by
 intro pins s σ H x y v u Q I rx ry h;obtain⟨d,e,h1,h2,s1,s2,q⟩:=h;obtain⟨as,r1⟩:=h1.reads I rx;obtain⟨bs,r2⟩:=h2.reads I ry;exact eq_dataH r1 r2 s1 s2 hu (by rw[O5];exact⟨.bl _,H,I,rfl,q⟩)
theorem zio(hu:X.A.units+64<cLine):OpR X (compareOp .NotEq) (zea X.K true):=by
 intro pins s σ H x y v u Q I rx ry h;obtain⟨d,e,h1,h2,s1,s2,q⟩:=h;obtain⟨as,r1⟩:=h1.reads I rx;obtain⟨bs,r2⟩:=h2.reads I ry;exact ne_dataH r1 r2 s1 s2 hu (by rw[O5];exact⟨.bl _,H,I,rfl,q⟩)
end
mutual
theorem Is.same{K:Frag}{H H':Hp}(e:Same H H'):∀ {d:Dt} {x:V},Is K H x d->Is K H' x d
 | _,_,.non=>.non
 | _,_,.bl b=>.bl b
 | _,_,.int i=>.int i
 | _,_,.str i=>.str i
 | _,_,.lst h hs=>.lst (e.seq h) (X7.same e hs)
 | _,_,.tup h hs=>.tup (by
   rcases h with (h|⟨o,h⟩)|h
   ·exact .inl (.inl (e _ _ h))
   ·exact .inl (.inr ⟨o,e _ _ h⟩)
   ·exact .inr h) (X7.same e hs)
theorem X7.same{K:Frag}{H H':Hp}(e:Same H H'):∀ {ds:List Dt} {xs:List V},X7 K H xs ds->X7 K H' xs ds
 | _,_,.nil=>.nil
 | _,_,.cons h t=>.cons (Is.same e h) (X7.same e t)
end
section
variable{P:Program}{w:World}{K:Frag}{mg:Str->Option Value}{base:Heap}{x m:Str}{k j:Nat}{ps:List Str}{sp:Sp}{C:Addr}
def Z4(P:Program)(w:World)(K:Frag)(mg:Str->Option Value)(base:Heap)(x:Str)(k:Nat)(ps:List Str)(sp:Sp):Prop :=
 ∃ (f:Addr) (fd:FuncData),FnOk P w K mg base (CX1 P w) k f fd ps sp/\mg x=some (.ref f)/\PySem.W.keepIn K (.ref f)=true/\Sd K fd ps []
def Zv(P:Program)(w:World)(K:Frag)(mg:Str->Option Value)(base:Heap)(C:Addr)(m:Str)(k:Nat)(ps:List Str)(sp:Sp):Prop :=
 ∃ (f:Addr) (fd:FuncData),FnOk P w K mg base (CX1 P w) k f fd ps sp/\zdr K C m f/\Sd K fd ps []
def Tt(P:Program)(w:World)(K:Frag)(mg:Str->Option Value)(base:Heap)(x:Str)(C:Addr)(k:Nat)(ps:List Str)(sp:Sp):Prop :=
 ∃ (f:Addr) (fd:FuncData),FnOk P w K mg base (CX1 P w) k f fd ps sp/\Mk K C f/\mg x=some (.ref C)/\Sd K fd ps []
theorem zan:Wy (CX1 P w) X E0:=fun _ _ _ _ _ _ _ h=>by obtain⟨_,_,_,_,_,_,_,_,_,_,z⟩:=h;exact z.elim
structure zlc(K:Frag)(mg:Str->Option Value)(x:Str)(st:Stmt)(f:Addr)(fd:FuncData):Prop where
 fn:Fun K x x st f fd
 nm:mg x=some (.ref f)
end
section
variable{X:Cx}{k:Nat}{C:Addr}{ps:List Str}{sp:Sp}{E:XK}{x m:Str}{p pos apos:Pos}{e o:Expr}{es:List Expr}{ta:TE}{t:TA}
theorem zao(D:Z4 X.prog X.w X.K X.mg X.base x k ps sp)(hr:Wv k X.A)(hx:Wy (CX1 X.prog X.w) X E)(hg:Gl X x)(ha:PA X (e :: es) t)(hdb:(x == ("__debug__":Str))=false:=by decide)
  (he:starEach (e :: es) X.env=(false,eval e X.env) :: starEach es X.env:=by rfl) (hpl:(backTo pos (starEach es X.env)).any (·.1)=false:=by rfl):PE X (.Call (.Name x p) (e :: es) [] pos) (zds sp [] E t):=by
 obtain⟨f,fd,F,hm,kp,b⟩:=D;exact zf3 F hr hg hm kp b .nil hx ha hdb he hpl
theorem Xy(he:PE X o ta)(c:Cls X.K C)(M:Zv X.prog X.w X.K X.mg X.base C m k ps sp)(hr:Wv k X.A)(hx:Wy (CX1 X.prog X.w) X E)(ha:PA X (e :: es) t)
  (hst:starEach (e :: es) X.env=(false,eval e X.env) :: starEach es X.env:=by rfl) (hpl:(backTo pos (starEach es X.env)).any (·.1)=false:=by rfl)
  (ht:eval (.Call (.Attribute o m apos) (e :: es) [] pos) X.env=(do
   let ov <- eval o X.env
   standAt apos.atName
   let (f,first) <- holding [ov] (getMethod ov m pl)
   callWith pos f first (backTo pos (starEach (e :: es) X.env)) (backToKw pos (keywordEach [] X.env))):=by rfl):PE X (.Call (.Attribute o m apos) (e :: es) [] pos) (zad C m sp [] E ta t):=by
 obtain⟨f,fd,F,hm,b⟩:=M;exact zf4 he c hm F hr b .nil hx ha hst hpl ht
theorem Yr(he:PE X o ta)(c:Cls X.K C)(M:Zv X.prog X.w X.K X.mg X.base C m k ps sp)(hr:Wv k X.A)(hx:Wy (CX1 X.prog X.w) X E)
  (ht:eval (.Call (.Attribute o m apos) [] [] pos) X.env=(do
   let ov <- eval o X.env
   standAt apos.atName
   let (f,first) <- holding [ov] (getMethod ov m pl)
   callWith pos f first (backTo pos (starEach [] X.env)) (backToKw pos (keywordEach [] X.env))):=by rfl):PE X (.Call (.Attribute o m apos) [] [] pos) (zad C m sp [] E ta Bw):=by
 obtain⟨f,fd,F,hm,b⟩:=M;exact zdt he c hm F hr b .nil hx ht
theorem F6(M:Tt X.prog X.w X.K X.mg X.base x C k ps sp)(hr:Wv (k+1) X.A)(hx:Wy (CX1 X.prog X.w) X E)(hg:Gl X x)(ha:PA X (e :: es) t)(hdb:(x == ("__debug__":Str))=false:=by decide)
  (he:starEach (e :: es) X.env=(false,eval e X.env) :: starEach es X.env:=by rfl) (hpl:(backTo pos (starEach es X.env)).any (·.1)=false:=by rfl):PE X (.Call (.Name x p) (e :: es) [] pos) (zae C sp [] E t):=by
 obtain⟨f,fd,F,mk,hm,b⟩:=M;exact zf5 mk F hr hg hm b .nil hx ha hdb he hpl
theorem zap(M:Tt X.prog X.w X.K X.mg X.base x C k ps sp)(hr:Wv (k+1) X.A)(hx:Wy (CX1 X.prog X.w) X E)(hg:Gl X x)(hdb:(x == ("__debug__":Str))=false:=by decide):PE X (.Call (.Name x p) [] [] pos) (zae C sp [] E Bw):=by
 obtain⟨f,fd,F,mk,hm,b⟩:=M;exact zdu mk F hr hg hm b .nil hx hdb
theorem Wc(hg:Gl X x)(hm:∃ t,X.mg x=some (.int i t))(hd:(x == ("__debug__":Str))=false:=by decide):PE X (.Name x pos) (tC (.int i)):=by
 obtain⟨t,hm⟩:=hm;exact zfw hg hm ⟨t,rfl⟩ hd
end
inductive zke(te:TE)(D:Oz)(σ:L2.St)(x:V)(H1:Hp):Prop where
 | mk(l)(xs)(_:x=.ref l)(_:H1 l=some (.lst xs))(_:te σ H1 fun y H2=>∃ ys,H2 l=some (.lst ys)/\ys.length<sizeLine/\D.nx σ (upd H2 l (.lst (ys++[y]))))
def zkf(to te:TE):TS:=fun D σ H=>to σ H fun x H1=>zke te D σ x H1
theorem Yv(ho:PE X o to)(he:PE X e te)(hbase:attributeBase o "append" X.env (eval o X.env)=eval o X.env:=by rfl)
  (hst:starEach [e] X.env=[(false,eval e X.env)]:=by rfl)
  (hline:(apos.endLine == cpos.line)=true:=by rfl) (hs:swapsWith (.Call (.Attribute o "append" apos) [e] [] cpos) none pos.line X.env=pure false:=by rfl):PS X (.Expr (.Call (.Attribute o "append" apos) [e] [] cpos) pos) (zkf to te):=by
 intro pins s σ H D I h;refine wpAny_Expr ?_ I.quiet;refine wpAny_Call_method_late hbase (by rw[hst];rfl) hline rfl (thn (ho pins s σ H _ I h) fun v s1 ⟨x,H1,I1,r1,l,xs,e1,hl,q1⟩=>?_);subst e1;obtain⟨h1,h2⟩:=B4 (T:="list") I1 r1 (.inl ⟨rfl,_,SqL.of hl⟩);refine⟨"list","list.append",PySem.F.plainAttrs_list,PySem.F.slot_list_append,PySem.F.type_list_append,h1,h2,?_⟩;rw[hst];refine Calls.callWith_builtin rfl (Calls.evalArgs_plain ?_);refine Calls.spliced_cons (thn (he pins s1 σ H1 _ I1 q1) fun u s2 ⟨y,H2,I2,r2,ys,hl2,hz,q2⟩=>Calls.spliced_nil ?_);refine thn (zb0 pins s2 σ H2 (.ref l) [y] v [u] (fun v H3=>v=.non/\D.nx σ H3) I2 r1 (.cons r2 .nil) ⟨l,ys,y,rfl,rfl,hl2,hz,rfl,q2⟩) fun z s3 ⟨zv,H3,I3,rz,ez,q3⟩=>?_;subst ez;cases rz;exact⟨σ,H3,I3,q3⟩
section
variable{X:Cx}{K:Frag}
theorem zeb(hK:X.K=K):IxR X (Ip K):=hK▸zge
theorem zgj(hK:X.K=K):IxR X (zby K):=hK▸zih
theorem Iw(hK:X.K=K):W8 X (.builtin "len") (fun xs H Q=>∃ p ys,xs=[.ref p]/\(SqL K H p ys\/SqT K H p ys)/\Q (.int ys.length) H):=hK▸Fz
theorem Xq(hK:X.K=K):W8 X (.type "list") (fun xs H Q=>∃ p ys,xs=[.ref p]/\(SqL K H p ys\/SqT K H p ys)/\∀ l,H l=none->Q (.ref l) (upd H l (.lst ys))):=hK▸F3
theorem Qx(hK:X.K=K):W8 X (.builtin "isinstance") (zka K):=hK▸zd8
theorem Su(hK:X.K=K):OpR X (compareOp .In) (rIn K false):=hK▸zbz
theorem Pl(hK:X.K=K):OpR X (compareOp .NotIn) (rIn K true):=hK▸Fy
theorem zaq(hK:X.K=K)(hu:X.A.units+64<cLine):OpR X (compareOp .Eq) (zea K false):=hK▸zin hu
theorem zar(hK:X.K=K)(hu:X.A.units+64<cLine):OpR X (compareOp .NotEq) (zea K true):=hK▸zio hu
theorem Dw(hK:X.K=K):SlR X (zj5 K):=hK▸zgf
variable{o e l tg value a:Expr}{f:Str}{pos pos':Pos}{ta tv tl:TE}{es:List Expr}{k n:Nat}{t:TGs}
theorem Zq(hK:X.K=K)(he:PE X e ta)(hb:attributeBase e f X.env (eval e X.env)=eval e X.env):PE X (.Attribute e f pos) (zjr K ta f):=hK▸zh5 he hb
theorem Y5(hK:X.K=K)(ha:PE X o ta)(hv:PE X value tv)(hs:swapsWith value (some (.Attribute o f pos')) pos.line X.env=pure false):PS X (.Assign [.Attribute o f pos'] value pos) (zjt K ta tv f):=hK▸zh6 ha hv hs
theorem Yd(hK:X.K=K)(hl:PE X l tl):PI X tg l (zhb K tl):=hK▸zfx hl
theorem Wd(hK:X.K=K)(hc:X.calm=true)(h:PGs X es t)(hn:(assignEach es X.env).length=n:=by rfl)(hst:(assignEach es X.env).findIdx? (·.1)=none:=by rfl):PG X (.Tuple es k pos) (zjm K n t):=hK▸zh0 hc h hn hst
theorem Gy(hK:X.K=K)(ha:PE X a ta)(he:∀ whole,isTrue a X.env whole=(do let v <- whole;standAt a.pos;holding [v] (truthy v))):PT X a (fun σ H Q=>ta σ H fun x H'=>∃ k,TruV K x H' k/\Q k H'):=hK▸zdn ha he
end
section
variable{X:Cx}{K:Frag}
theorem K0(hK:X.K=K):W8 X (.type "tuple") (fun xs H Q=>∃ p ys,xs=[.ref p]/\((SqL K H p ys/\∀ l,H l=none->Q (.ref l) (upd H l (.tup ys)))\/(SqT K H p ys/\Q (.ref p) H))):=hK▸Ir
end
end L2
namespace G
open PySem PySem.Spec PyProof.Rows L2
theorem sz1:1<=sizeLine:=by decide
theorem sz2:2<=sizeLine:=by decide
theorem sz3:3<=sizeLine:=by decide
theorem sz4:4<=sizeLine:=by decide
theorem szN(h:n<=1000):n<=sizeLine:=Nat.le_of_lt (Sg h)
theorem itD{p:Prop}[Decidable p]{A B:Prop}(h1:p->A)(h2:¬ p->B):if decide p=true then A else B:=by
 by_cases h:p
 ·rw[ztf h,if_pos rfl];exact h1 h
 ·rw[zth h,if_neg ⋯];exact h2 h
theorem itB{b:Bool}{A B:Prop}(h1:b=true->A)(h2:b=false->B):if b=true then A else B:=by
 cases b
 ·exact iteF (h2 rfl)
 ·exact iteT (h1 rfl)
theorem R1:decide (V.int i=V.int j)=decide (i=j):=by
 by_cases h:i=j
 ·subst h;simp
 ·rw[zth h,zth (fun z=>h (V.int.inj z))]
theorem itV{i j:Int}{A B:Prop}(h1:i=j->A)(h2:¬ i=j->B):if decide (V.int i=V.int j)=true then A else B:=by
 rw[R1];exact itD h1 h2
theorem Ze(h:H p=none):Same H (upd H p o):=fun b u e=>by rw[Zi (Zh e h)];exact e
def Y2(i:Int):Prop:=i.natAbs.log2<1920
theorem Yh(h:i.natAbs<=10 ^ 60):Y2 i:=by
 unfold Y2;by_cases h0:i.natAbs=0
 ·rw[h0];decide
 ·exact(Nat.log2_lt h0).mpr (zuz h ⋯)
theorem Yx(h:-1000<=i)(h':i<=1000):Y2 i:=Yh (zts (show i.natAbs<=1000 by omega) ⋯)
theorem X8{xs:List Int}{i:Int}(h0:0<=i)(h1:i<xs.length):atI (xs.map V.int) i=some (.int (xs.getD i.toNat 0)):=by
 obtain⟨k,rfl⟩:∃ k:Nat,i=k:=⟨i.toNat,by omega⟩;refine Yf ?_;have hk:k<xs.length:=by omega
 rw[ztj,ztb hk,zus,ztv,zt1,ztb hk];rfl
theorem R4(h1:∀ Q:Bool->Hp->Prop,Q b H->t σ H Q)(h2:∀ Q:Bool->Hp->Prop,Q c H->u σ H Q)(Q:Bool->Hp->Prop)(h:Q (b||c) H):tOr t u σ H Q:=by
 refine h1 _ ?_;cases b with
 | true=>exact h
 | false=>exact h2 _ h
theorem Vd(h1:∀ Q:Bool->Hp->Prop,Q b H->t σ H Q)(h:if b=true then A D σ H else B D σ H):E9 t A B D σ H:=h1 _ h
theorem Px(h:A { D with nx:=B D } σ H):Zw A B D σ H:=h
theorem M8(J:L2.St->Hp->Prop)(hc:∀ Q:Bool->Hp->Prop,Q b H->c σ H Q)(h1:b=true->∀ N:L2.St->Hp->Prop,(∀ σ' H',J σ' H'->N σ' H')->t { D with nx:=N } σ H)
  (h2:b=false->∀ N:L2.St->Hp->Prop,(∀ σ' H',J σ' H'->N σ' H')->e { D with nx:=N } σ H) (h3:∀ σ' H',J σ' H'->u D σ' H'):Zw (E9 c t e) u D σ H:=by
 refine hc _ ?_;cases b with
 | true=>rw[if_pos rfl];exact h1 rfl _ h3
 | false=>rw[if_neg ⋯];exact h2 rfl _ h3
theorem Zz(h:D.nx σ H):zdh D σ H:=h
theorem ziq(K:Frag):PySem.W.kitOne K (.type "int") (.type "int")=some true:=rfl
theorem zir(K:Frag):PySem.W.kitOne K (.type "int") (.type "bool")=some false:=by with_unfolding_all rfl
theorem zec(K:Frag):PySem.W.kitOne K (.type "list") (.type "list")=some true:=rfl
inductive TupL(H:Hp):List V->List (List V)->Prop where
 | nil:TupL H [] []
 | cons {t:Addr} {r:List V} {ts:List V} {R:List (List V)} (h:H t=some (.tup r)) (q:TupL H ts R):TupL H (.ref t :: ts) (r :: R)
theorem TupL.mono(k:∀ t xs,H t=some (.tup xs)->H' t=some (.tup xs)):∀ {ts:List V} {R:List (List V)},TupL H ts R->TupL H' ts R
 | _,_,.nil=>.nil
 | _,_,.cons h r=>.cons (k _ _ h) (TupL.mono k r)
theorem TupL.same(e:Same H H')(h:TupL H ts R):TupL H' ts R:=h.mono fun t xs q=>e _ _ q
theorem TupL.length:∀ {ts:List V} {R:List (List V)},TupL H ts R->ts.length=R.length
 | _,_,.nil=>rfl
 | _,_,.cons _ r=>by simp[TupL.length r]
theorem TupL.snoc(h:H t=some (.tup x)):∀ {ts:List V} {R:List (List V)},TupL H ts R->TupL H (ts++[.ref t]) (R++[x])
 | _,_,.nil=>.cons h .nil
 | _,_,.cons h' r=>.cons h' (TupL.snoc h r)
theorem TupL.get:∀ {ts:List V} {R:List (List V)} {i:Nat} {x:V},TupL H ts R->ts[i]?=some x->∃ t r,x=.ref t/\R[i]?=some r/\H t=some (.tup r)
 | _,_,_,_,.nil,e=>by simp at e
 | _,_,0,_,.cons h _,e=>by simp at e;subst e;exact⟨_,_,rfl,rfl,h⟩
 | _,_,i+1,x,.cons _ r,e=>by
   obtain⟨t,n,h1,h2,h3⟩:=TupL.get (i:=i) (x:=x) r (by simpa using e);exact⟨t,n,h1,by simpa using h2,h3⟩
theorem TupL.getR:∀ {ts:List V} {R:List (List V)} {i:Nat} {r:List V},TupL H ts R->R[i]?=some r->∃ t,ts[i]?=some (.ref t)/\H t=some (.tup r)
 | _,_,_,_,.nil,e=>by simp at e
 | _,_,0,_,.cons h _,e=>by simp at e;subst e;exact⟨_,rfl,h⟩
 | _,_,i+1,x,.cons _ r,e=>by
   obtain⟨t,h1,h2⟩:=TupL.getR (i:=i) (r:=x) r (by simpa using e);exact⟨t,by simpa using h1,h2⟩
inductive F7(vs:List V)(H:Hp)(Q:VK)(_:XK):Prop where
 | mk(i)(_:vs=[.int i])(_:Q (.bl true) H)
def Y8(ns:List Int)(k:Nat):Int:=(ns[k]?).getD 0
inductive Aa(K:Frag)(vs:List V)(H:Hp)(Q:VK)(_:XK):Prop where
 | mk(b:Addr)(ns:List Int)(k:Nat)(_:vs=[.ref b,.int k])(_:SqL K H b (ns.map V.int))(_:Q (.int (Y8 ns k)) H)
def zis(c k:Int):Int:=(c*48271+k)%2147483647
def zkg(c k:Int):Int:=(zis c k*69621+7*k)%2147483629
def zk4(c k:Int):Int:=(zkg c k*39373+zis c k)%2147483587
def Ab(c k:Int):Int:=(zis c k*2147483647+zkg c k)*2147483647+zk4 c k
inductive zas(vs:List V)(H:Hp)(Q:VK)(_:XK):Prop where
 | mk(c)(k)(_:vs=[.int c,.int k])(_:Q (.int (Ab c k)) H)
def stp(c:Int):Int:=([1,2,5,10,100,500,998]:List Int).getD (c%7).toNat 0
def zb7(c:Int)(j:Nat):Int:=1+(c/7+stp c*(j:Int))%999
def M9(c:Int)(many:Nat):List Int:=(List.range many).map (zb7 c)
inductive K1(vs:List V)(H:Hp)(Q:VK)(_:XK):Prop where
 | mk(c:Int)(many:Nat)(_:vs=[.int c,.int many])(_:many<=1000)(_:∀ l H',H' l=some (.lst ((M9 c many).map V.int))->Same H H'->H l=none->Q (.ref l) H')
def F8(c:Int):Int:=([1,2,5,10,50,97,98]:List Int).getD (c%7).toNat 0
def Gz(c:Int)(j:Nat):Int:=1+(c/7+F8 c*(j:Int))%99
def R6(c:Int)(many:Nat):List Int:=(List.range many).map (Gz c)
inductive zat(vs:List V)(H:Hp)(Q:VK)(_:XK):Prop where
 | mk(c:Int)(many:Nat)(_:vs=[.int c,.int many])(_:many<=1000)(_:∀ l H',H' l=some (.lst ((R6 c many).map V.int))->Same H H'->H l=none->Q (.ref l) H')
def oneV(x:V):Prop:=x=.non\/∃ i,x=.int i
inductive Ea(vs:List V)(H:Hp)(Q:VK)(_:XK):Prop where
 | mk(x)(_:vs=[x,x])(_:oneV x)(_:Q (.bl true) H)
inductive Dx(K:Frag)(vs:List V)(H:Hp)(Q:VK)(_:XK):Prop where
 | mk(b c:Addr)(xs:List V)(_:vs=[.ref b,.ref c])(_:H b=some (.lst xs))(_:SqL K H c xs)(_:(∀ x∈xs,oneV x))(_:xs.length<=1000)(_:Q (.bl true) H)
inductive zau(K:Frag)(vs:List V)(H:Hp)(Q:VK)(_:XK):Prop where
 | mk(b:Addr)(ns:List Int)(_:vs=[.ref b])(_:SqL K H b (ns.map V.int))(_:ns.length<=63)(_:∀ H',Q (.bl true) H')
structure Row where
 h:Int
 g:Int
 d:Int
 w:Option Int
def oV:Option Int->V
 | none=>.non
 | some n=>.int n
def Eb(r:Row):List V:=[.int r.h,.int r.g,.int r.d,oV r.w]
theorem zit(o:Option Int):oneV (oV o):=by
 cases o with
 | none=>exact .inl rfl
 | some n=>exact .inr ⟨n,rfl⟩
theorem ziu{H:Hp}{ts:List V}{rs:List Row}{i:Nat}{x:V}(h:TupL H ts (rs.map Eb))(e:ts[i]?=some x):∃ t r,x=.ref t/\rs[i]?=some r/\H t=some (.tup (Eb r)):=by
 obtain⟨t,r,h1,h2,h3⟩:=h.get e;rw[ztj] at h2;cases q:rs[i]? with
 | none=>rw[q] at h2;cases h2
 | some m=>rw[q] at h2;cases h2;exact⟨t,m,h1,rfl,h3⟩
def hit(n c:Int)(r:Row):Bool:=decide (r.w=some n)&&(decide (r.h=c)||decide (r.g=c))
def Ec(n c:Int)(Rs:List (List Row)):Nat×Nat:=Rs.foldl (fun p rs=>(p.1+1,if rs.any (hit n c) then p.1+1 else p.2)) (0,0)
def metS(Rs:List (List Row))(n c:Int):Nat:=(Ec n c Rs).2
theorem zed(n c:Int)(Rs:List (List Row)):(Ec n c Rs).1=Rs.length:=by
 have h:∀ (Rs:List (List Row)) (p:Nat×Nat),(Rs.foldl (fun p rs=>(p.1+1,if rs.any (hit n c) then p.1+1 else p.2)) p).1=p.1+Rs.length:=fun Rs=>by
  induction Rs with
  | nil=>intro p;rfl
  | cons r Rs ih=>intro p;rw[List.foldl_cons,ih,ztt];simp only;omega
 have:=h Rs (0,0);unfold Ec;rw[this];simp
theorem zb8(Rs:List (List Row))(rs:List Row)(n c:Int):metS (Rs++[rs]) n c=if rs.any (hit n c) then Rs.length+1 else metS Rs n c:=by
 unfold metS;have e:Ec n c (Rs++[rs])=((Ec n c Rs).1+1,if rs.any (hit n c) then (Ec n c Rs).1+1 else (Ec n c Rs).2):=by
  unfold Ec;rw[List.foldl_append];rfl
 rw[e,zed]
def Dy(kvs:List (List Key×V))(f:Int->Int->Nat):Prop:=∀ n c:Int,valV kvs [inl n,inl c]=if f n c=0 then none else some (.int (f n c))
inductive Q9(H:Hp):List V->List (List Row)->Prop where
 | nil:Q9 H [] []
 | cons {t:Addr} {ts rs:List V} {r:List Row} {R:List (List Row)} (h:H t=some (.tup ts)) (q:TupL H ts (r.map Eb)) (n:Q9 H rs R):Q9 H (.ref t :: rs) (r :: R)
theorem Q9.mono(k:∀ t xs,H t=some (.tup xs)->H' t=some (.tup xs)):∀ {ts:List V} {R:List (List Row)},Q9 H ts R->Q9 H' ts R
 | _,_,.nil=>.nil
 | _,_,.cons h q r=>.cons (k _ _ h) (q.mono k) (Q9.mono k r)
theorem Q9.length:∀ {ts:List V} {R:List (List Row)},Q9 H ts R->ts.length=R.length
 | _,_,.nil=>rfl
 | _,_,.cons _ _ r=>by simp[Q9.length r]
theorem Q9.snoc(h:H t=some (.tup xs))(q:TupL H xs (x.map Eb)):∀ {ts:List V} {R:List (List Row)},Q9 H ts R->Q9 H (ts++[.ref t]) (R++[x])
 | _,_,.nil=>.cons h q .nil
 | _,_,.cons h' q' r=>.cons h' q' (Q9.snoc h q r)
def tot(Rs:List (List Row)):Nat:=(Rs.map List.length).sum
theorem zee(Rs:List (List Row))(rs:List Row):tot (Rs++[rs])=tot Rs+rs.length:=by unfold tot;rw[zti,List.sum_append];simp
structure Ua(C:Addr)(H:Hp)(p lr ld:Addr)(Rs:List (List Row)):Prop where
 at_:∃ dx,H p=some (.ins C dx [("rounds",.ref lr),("meetings",.ref ld)])
 rd:∃ rs,H lr=some (.lst rs)/\Q9 H rs Rs
 mt:∃ kvs,H ld=some (.dT kvs)/\Dy kvs (metS Rs)/\kvs.length<=2*tot Rs
theorem Ua.same{C:Addr}{H H':Hp}{p lr ld:Addr}{Rs:List (List Row)}(h:Ua C H p lr ld Rs)(e:Same H H'):Ua C H' p lr ld Rs:=by
 obtain⟨⟨dx,h1⟩,⟨rs,h2,h3⟩,⟨kvs,h4,h5⟩⟩:=h;exact⟨⟨dx,e _ _ h1⟩,⟨rs,e _ _ h2,h3.mono fun t xs q=>e _ _ q⟩,⟨kvs,e _ _ h4,h5⟩⟩
theorem Ua.keep{C:Addr}{H H':Hp}{p lr ld:Addr}{Rs:List (List Row)}(h:Ua C H p lr ld Rs)(ep:∀ o,H p=some o->H' p=some o)(er:∀ o,H lr=some o->H' lr=some o)(ed:∀ o,H ld=some o->H' ld=some o)(et:∀ t xs,H t=some (.tup xs)->H' t=some (.tup xs)):Ua C H' p lr ld Rs:=by
 obtain⟨⟨dx,h1⟩,⟨rs,h2,h3⟩,⟨kvs,h4,h5⟩⟩:=h;exact⟨⟨dx,ep _ h1⟩,⟨rs,er _ h2,h3.mono et⟩,⟨kvs,ed _ h4,h5⟩⟩
theorem N4:List.lookup ("rounds":Str) ([("rounds",V.ref x),("meetings",V.ref y)]:List (Str×V))=some (.ref x):=by simp only[zuh,beq_self_eq_true]
theorem R7:List.lookup ("meetings":Str) ([("rounds",V.ref x),("meetings",V.ref y)]:List (Str×V))=some (.ref y):=by
 have e:(("meetings":Str) == "rounds")=false:=by decide +kernel
 simp only[zuh,e,beq_self_eq_true]
theorem K2{x y:Addr}{m:Str}(h:¬ m="rounds")(h':¬ m="meetings"):List.lookup m ([("rounds",V.ref x),("meetings",V.ref y)]:List (Str×V))=none:=by
 have e:(m == "rounds")=false:=zt0.mpr h;have e':(m == "meetings")=false:=zt0.mpr h';simp only[zuh,e,e',List.lookup_nil]
inductive zav(C:Addr)(vs:List V)(H:Hp)(Q:VK)(_:XK):Prop where
 | mk(p)(dx)(_:vs=[.ref p])(_:H p=some (.ins C dx []))(_:∀ lr ld H',Ua C H' p lr ld []->(∀ b o,H b=some o->b≠p->H' b=some o)->H lr=none->H ld=none->lr≠ld->Q .non H')
inductive N5(C:Addr)(vs:List V)(H:Hp)(Q:VK)(_:XK):Prop where
 | mk(p)(lr)(ld)(Rs)(_:vs=[.ref p])(_:Ua C H p lr ld Rs)(_:Q (.int (Rs.length:Nat)) H)
inductive zhm(C:Addr)(vs:List V)(H:Hp)(Q:VK)(_:XK):Prop where
 | mk(p)(lr)(ld)(Rs)(n)(c)(_:vs=[.ref p,.int n,.int c])(_:Ua C H p lr ld Rs)(_:∀ H',Same H H'->Q (.int (metS Rs n c:Nat)) H')
theorem Qy:([inl n,inl c]:List Key)=[inl n',inl c']↔n=n'/\c=c':=by
 constructor
 ·intro h;injection h with h1 h2;injection h2 with h2 _;exact⟨inl.inj h1,inl.inj h2⟩
 ·rintro⟨rfl,rfl⟩;rfl
theorem Dy.put(h:Dy kvs f)(n c:Int)(t:Nat)(ht:0<t):Dy (putK kvs [inl n,inl c] (.int t)) (fun n' c'=>if n'=n/\c'=c then t else f n' c'):=fun n' c'=>by
 rw[Va];show _=if (if n'=n/\c'=c then t else f n' c')=0 then none else some (V.int ((if n'=n/\c'=c then t else f n' c':Nat):Int))
 by_cases e:n'=n/\c'=c
 ·rw[if_pos e,if_pos (Qy.mpr e),if_neg ⋯]
 ·rw[if_neg (fun z=>e (Qy.mp z)),if_neg e];exact h n' c'
def N6(Rs:List (List Row))(rs:List Row)(i:Nat)(n c:Int):Nat:=if (rs.take i).any (hit n c) then Rs.length+1 else metS Rs n c
theorem zb9(Rs:List (List Row))(rs:List Row):N6 Rs rs 0=metS Rs:=by funext n c;unfold N6;simp
theorem zef(Rs:List (List Row))(rs:List Row):N6 Rs rs rs.length=metS (Rs++[rs]):=by funext n c;unfold N6;rw[ztq,zb8]
theorem G0(e:rs[i]?=some r)(n c:Int):N6 Rs rs (i+1) n c=if hit n c r then Rs.length+1 else N6 Rs rs i n c:=by
 unfold N6;rw[zua,e,List.any_append];cases h1:(rs.take i).any (hit n c)<;>cases h2:hit n c r<;>simp[h2]
theorem zca(e:rs[i]?=some r)(h:r.w=none):N6 Rs rs (i+1)=N6 Rs rs i:=by
 funext n c
 rw[G0 e];have:hit n c r=false:=by unfold hit;rw[h];simp
 rw[this];simp
theorem zcb(e:rs[i]?=some r)(h:r.w=some w) :
  (fun n c=>if n=w/\c=r.g then Rs.length+1 else (fun n c=>if n=w/\c=r.h then Rs.length+1 else N6 Rs rs i n c) n c)=N6 Rs rs (i+1):=by
 funext n c
 rw[G0 e];unfold hit;rw[h];show (if n=w/\c=r.g then Rs.length+1 else if n=w/\c=r.h then Rs.length+1 else N6 Rs rs i n c)=_;by_cases h1:n=w
 ·subst h1;by_cases h2:r.g=c
  ·rw[if_pos ⟨rfl,h2.symm⟩,if_pos (by simp[h2])]
  ·rw[if_neg (fun z=>h2 z.2.symm)];by_cases h3:r.h=c
   ·rw[if_pos ⟨rfl,h3.symm⟩,if_pos (by simp[h3])]
   ·rw[if_neg (fun z=>h3 z.2.symm),if_neg (by simp[h2,h3])]
 ·rw[if_neg (fun z=>h1 z.1),if_neg (fun z=>h1 z.1),if_neg (by simp;intro z;exact absurd z.symm h1)]
theorem zeg{C:Addr}{H1 H':Hp}{x dx lr ld:Addr}(hx:H1 x=none)(hdx:H1 dx=none)(ne:dx≠x)(k:∀ b o,upd (upd H1 dx (.own x)) x (.ins C dx []) b=some o->b≠x->H' b=some o)
  (h1:upd (upd H1 dx (.own x)) x (.ins C dx []) lr=none) (h2:upd (upd H1 dx (.own x)) x (.ins C dx []) ld=none):Same H1 H'/\H1 lr=none/\H1 ld=none:=by
 have fr:∀ {l:Addr},upd (upd H1 dx (.own x)) x (.ins C dx []) l=none->H1 l=none:=fun {l} q=>by
  have n1:l≠x:=fun z=>by rw[z,Zc] at q;cases q
  have n2:l≠dx:=fun z=>by rw[z,Zi ne,Zc] at q;cases q
  rw[Zi n1,Zi n2] at q;exact q
 refine⟨fun b o e=>k b o ?_ (Zh e hx),fr h1,fr h2⟩;rw[Zi (Zh e hx),Zi (Zh e hdx)];exact e
theorem zkh{lr ld:Addr}:putF "meetings" (V.ref ld) [(("rounds":Str),V.ref lr)]=[(("rounds":Str),V.ref lr),(("meetings":Str),V.ref ld)]:=by
 show (if ("rounds":Str)="meetings" then _ else _)=_;rw[if_neg ⋯];rfl
theorem Z8(h:H l=none)(s:Same H H'):Same H (upd H' l o):=fun b u e=>by
 rw[Zi (Zh e h)];exact s b u e
theorem zeh(h:oneV x):Te x=true:=by rcases h with rfl|⟨i,rfl⟩<;>rfl
inductive RLs(H:Hp):List Addr->List (List Row)->Prop where
 | nil:RLs H [] []
 | cons {l:Addr} {ts:List V} {ls:List Addr} {r:List Row} {R:List (List Row)} (h:H l=some (.lst ts)) (q:TupL H ts (r.map Eb)) (n:RLs H ls R):RLs H (l :: ls) (r :: R)
theorem Iy(c:Int)(m:Nat):(R6 c m).length=m:=by unfold R6;rw[zta,zuo]
theorem O6(c:Int)(m:Nat):(M9 c m).length=m:=by unfold M9;rw[zta,zuo]
structure L1(C:Addr)(H0:Hp)(p lr ld kR:Addr)(ls:List Addr)(R S:List (List Row))(H:Hp):Prop where
 base:Same H0 H
 led:Ua C H p lr ld R
 krs:H kR=some (.lst (ls.map V.ref))
 rls:RLs H ls S
 sep:∀ l∈ls,l≠lr/\l≠kR
structure C1(H0:Hp)(lr ld kR:Addr):Prop where
 fr:H0 lr=none
 fd:H0 ld=none
 fk:H0 kR=none
 rk:lr≠kR
theorem N7(h1:∀ Q:Bool->Hp->Prop,Q b H->t σ H Q)(h2:∀ Q:Bool->Hp->Prop,Q c H->u σ H Q)(Q:Bool->Hp->Prop)(h:Q (b&&c) H):zhv t u σ H Q:=by
 refine h1 _ ?_;cases b with
 | true=>exact h2 _ h
 | false=>exact h
def Rl(Rs:List (List Row))(n c rest:Int):Bool:=decide ((if (0:Int)>(Rs.length:Nat)-rest then 0 else ((Rs.length:Nat):Int)-rest)<(metS Rs n c:Nat))
inductive Dz(C:Addr)(vs:List V)(H:Hp)(Q:VK)(_:XK):Prop where
 | mk(p)(lr)(ld)(Rs)(n)(c)(rest)(_:vs=[.int n,.int c,.ref p,.int rest])(_:Ua C H p lr ld Rs)(_:∀ H',Same H H'->Q (.bl (Rl Rs n c rest)) H')
def bw(b:Bool)(w:Str):List Str:=if b then [w] else []
def whyS(Rs:List (List Row))(n g c h gu d:Int)(o:Bool)(rest:Int):List Str :=
 bw o "away"++(bw (decide (g<d)) "grade"++(bw (decide (c=h)||decide (c=gu)) "club"++bw (Rl Rs n h rest||Rl Rs n gu rest) "met"))
inductive G1(K:Frag)(C:Addr)(vs:List V)(H:Hp)(Q:VK)(_:XK):Prop where
 | mk(t1 t2 p lr ld:Addr)(Rs:List (List Row))(n g c h gu d rest:Int)(o:Bool)(_:vs=[.ref t1,.ref t2,.bl o,.ref p,.int rest])(_:H t1=some (.tup [.int n,.int g,.int c]))(_:H t2=some (.tup [.int h,.int gu,.int d]))(_:Ua C H p lr ld Rs)(_:∀ l H',H' l=some (.lst ((whyS Rs n g c h gu d o rest).map V.str))->Same H H'->H l=none->Q (.ref l) H')
def Gr(c:TT)(σ:L2.St)(H:Hp)(b:Bool):Prop:=∀ Q:Bool->Hp->Prop,(∀ H1,Same H H1->Q b H1)->c σ H Q
theorem D1(h1:Gr t σ H b)(h2:∀ H1,Same H H1->Gr u σ H1 c):Gr (tOr t u) σ H (b||c):=fun Q h=>by
 refine h1 _ fun H1 s1=>?_;cases b with
 | true=>exact h H1 s1
 | false=>exact h2 H1 s1 _ fun H2 s2=>h H2 (s1.trans s2)
theorem Sv(h:∀ Q:Bool->Hp->Prop,Q b H->c σ H Q):Gr c σ H b:=fun Q q=>h Q (q H (Same.refl H))
theorem Tg(hc:Gr c σ H b)(h0:H0 l=none)(s:Same H0 H)(hl:H l=some (.lst (xs.map V.str)))(hx:xs.length<=100)(hv:σ[i]?=some (some (.ref l)))
  (h3:∀ H',Same H0 H'->H' l=some (.lst ((xs++bw b w).map V.str))->(∀ b o,H b=some o->b≠l->H' b=some o)->u D σ H'):Zw (E9 c (zkf (Ft i) (tC (.str w))) zdh) u D σ H:=by
 refine hc _ fun H1 s1=>?_;have hl1:=s1 _ _ hl;cases b with
 | true =>
   rw[if_pos rfl];refine⟨_,hv,l,_,rfl,hl1,_,hl1,Sg (by rw[zta];omega),?_⟩;refine h3 _ (Z8 h0 (s.trans s1)) ?_ fun b o e n=>by rw[Zi n];exact s1 _ _ e
   rw[Zc,zti];rfl
 | false =>
   rw[if_neg ⋯];exact h3 _ (s.trans s1) (by rw[show bw false w=[] from rfl,zvf];exact hl1) fun b o e _=>s1 _ _ e
theorem N8(b:Bool)(w:Str):(bw b w).length<=1:=by cases b<;>simp[bw]
theorem zgk:x<metS Rs n c↔∃ (j:Nat) (r:List Row),Rs[j]?=some r/\r.any (hit n c)=true/\x<j+1:=by
 have gen:∀ (Rs:List (List Row)) (p:Nat×Nat),p.2<=p.1->(x<(Rs.foldl (fun p rs=>(p.1+1,if rs.any (hit n c) then p.1+1 else p.2)) p).2↔(∃ (j:Nat) (r:List Row),Rs[j]?=some r/\r.any (hit n c)=true/\x<p.1+j+1)\/x<p.2):=fun Rs=>by
  induction Rs with
  | nil=>intro p hp;simp
  | cons r Rs ih =>
    intro p hp;rw[List.foldl_cons,ih _ (by show (if r.any (hit n c) then p.1+1 else p.2)<=p.1+1;split<;>omega)];show ((∃ (j:Nat) (r':List Row),Rs[j]?=some r'/\r'.any (hit n c)=true/\x<p.1+1+j+1)\/x<(if r.any (hit n c) then p.1+1 else p.2))↔_;constructor
    ·rintro(⟨j,r',h1,h2,h3⟩|h)
     ·exact .inl ⟨j+1,r',by simpa using h1,h2,by omega⟩
     ·by_cases hr:r.any (hit n c)=true
      ·rw[if_pos hr] at h;exact .inl ⟨0,r,rfl,hr,by omega⟩
      ·rw[if_neg hr] at h;exact .inr h
    ·rintro(⟨j,r',h1,h2,h3⟩|h)
     ·cases j with
      | zero =>
        have e:r=r':=by simpa using h1
        subst e;exact .inr (by rw[if_pos h2];omega)
      | succ j=>exact .inl ⟨j,r',by simpa using h1,h2,by omega⟩
     ·right
      split<;>omega
 have:=gen Rs (0,0) (ztm _);unfold metS Ec;rw[this];simp
theorem zcc{Rs:List (List Row)}{n c rest:Int}:Rl Rs n c rest=true↔∃ (j:Nat) (r:List Row),Rs[j]?=some r/\r.any (hit n c)=true/\(Rs.length:Int)-rest<=j:=by
 unfold Rl;rw[decide_eq_true_eq];have e:(if (0:Int)>(Rs.length:Nat)-rest then 0 else ((Rs.length:Nat):Int)-rest)<(metS Rs n c:Nat)↔(((Rs.length:Nat):Int)-rest).toNat<metS Rs n c:=by
  split<;>omega
 rw[e,zgk];constructor
 ·rintro⟨j,r,h1,h2,h3⟩;exact⟨j,r,h1,h2,by omega⟩
 ·rintro⟨j,r,h1,h2,h3⟩;exact⟨j,r,h1,h2,by omega⟩
theorem zei(c:Int)(hi:i<40)(hj:j<40)(h:zb7 c i=zb7 c j):i=j:=by
 unfold zb7 at h;have hs:stp c=1\/stp c=2\/stp c=5\/stp c=10\/stp c=100\/stp c=500\/stp c=998:=by
  unfold stp;have h0:0<=c%7:=by omega
  have h1:c%7<7:=by omega
  generalize c%7=r at h0 h1;obtain⟨k,rfl⟩:∃ k:Nat,r=k:=⟨r.toNat,by omega⟩;rw[ztv];have hk:k<7:=by omega
  match k,hk with
  | 0,_=>simp
  | 1,_=>simp
  | 2,_=>simp
  | 3,_=>simp
  | 4,_=>simp
  | 5,_=>simp
  | 6,_=>simp
 generalize c/7=x at h;rcases hs with e|e|e|e|e|e|e<;>rw[e] at h<;>omega
end G
namespace G
open PySem PySem.Spec PyProof.Rows L2
abbrev P3:=Int×Int×Int
def pV(m:P3):List V:=[.int m.1,.int m.2.1,.int m.2.2]
theorem K3{H:Hp}{ts:List V}{Ms:List P3}{i:Nat}{x:V}(h:TupL H ts (Ms.map pV))(e:ts[i]?=some x):∃ t m,x=.ref t/\Ms[i]?=some m/\H t=some (.tup (pV m)):=by
 obtain⟨t,r,h1,h2,h3⟩:=h.get e;rw[ztj] at h2;cases q:Ms[i]? with
 | none=>rw[q] at h2;cases h2
 | some m=>rw[q] at h2;cases h2;exact⟨t,m,h1,rfl,h3⟩
theorem TupL.reverse:∀ {ts:List V} {R:List (List V)},TupL H ts R->TupL H ts.reverse R.reverse
 | _,_,.nil=>.nil
 | _,_,.cons h q=>by rw[zvk,zvk];exact(TupL.reverse q).snoc h
def R8(Rs:List (List Row))(h gu d:Int)(os:List V)(rest:Int)(m:P3):Bool:=(whyS Rs m.1 m.2.1 m.2.2 h gu d (inV (.int m.1) os) rest).isEmpty
inductive D2(K:Frag)(C:Addr)(vs:List V)(H:Hp)(Q:VK)(_:XK):Prop where
 | mk(lp lo tm p lr ld:Addr)(Rs:List (List Row))(ts:List V)(Ms:List P3)(os:List V)(h gu d rest:Int)(_:vs=[.ref lp,.ref tm,.ref lo,.ref p,.int rest])(_:H lp=some (.lst ts))(_:TupL H ts (Ms.map pV))(_:H lo=some (.lst os))(_:(∀ x∈os,oneV x))(_:H tm=some (.tup [.int h,.int gu,.int d]))(_:Ua C H p lr ld Rs)(_:Ms.length<=1000)(_:∀ l H',H' l=some (.lst ((Ms.filter (R8 Rs h gu d os rest)).map fun m=>V.int m.1))->Same H H'->H l=none->Q (.ref l) H')
theorem zcd{Rs:List (List Row)}{n c rest:Int}(hr:0<=rest):Rl Rs n c rest=true↔∃ rs∈Rs.drop ((Rs.length:Int)-rest).toNat,∃ r∈rs,hit n c r=true:=by
 rw[zcc];constructor
 ·rintro⟨j,rs,h1,h2,h3⟩;obtain⟨r,hr1,hr2⟩:=List.any_eq_true.mp h2;refine⟨rs,?_,r,hr1,hr2⟩;have hk:((Rs.length:Int)-rest).toNat<=j:=by omega
  refine ztn (i:=j-((Rs.length:Int)-rest).toNat) ?_;rw[List.getElem?_drop,Nat.add_sub_cancel' hk];exact h1
 ·rintro⟨rs,h1,r,h2,h3⟩;obtain⟨i,hi,e⟩:=zuk h1;refine⟨((Rs.length:Int)-rest).toNat+i,rs,?_,List.any_eq_true.mpr ⟨r,h2,h3⟩,by omega⟩;rw[<- List.getElem?_drop,ztb hi,e]
def zhn(xs:List V):List Nat:=(List.range xs.length).filter fun i=>decide (xs[i]?=some .non)
def Wg(xs:List V)(n:Int):Option Nat:=(List.range xs.length).find? fun i=>decide (xs[i]?=some (.int n))
def oN:Option Nat->V
 | none=>.non
 | some i=>.int i
inductive G2(K:Frag)(vs:List V)(H:Hp)(Q:VK)(_:XK):Prop where
 | mk(b:Addr)(xs:List V)(n:Int)(_:vs=[.ref b,.int n])(_:H b=some (.lst xs))(_:(∀ x∈xs,oneV x))(_:xs.length<=100)(_:∀ H',Same H H'->Q (oN (Wg xs n)) H')
def Th:List V->List V->Bool
 | x :: xs,y :: ys=>if decide (x=.non)=decide (y=.non) then Th xs ys else decide (y=.non)
 | _,_=>false
def Yg:List (Nat×Option Int)->List V->List V
 | [],xs=>xs
 | (p,w) :: r,xs=>Yg r (xs.set p (oV w))
def Vt(s:Nat×Option Int):List V:=[.int (s.1:Nat),oV s.2]
inductive N9(K:Frag)(vs:List V)(H:Hp)(Q:VK)(_:XK):Prop where
 | mk(b c:Addr)(xs ts:List V)(st:List (Nat×Option Int))(_:vs=[.ref b,.ref c])(_:H b=some (.lst xs))(_:H c=some (.lst ts))(_:TupL H ts (st.map Vt))(_:(∀ s∈st,s.1<xs.length))(_:(∀ x∈xs,oneV x))(_:xs.length<=100)(_:st.length<=100)(_:∀ l H',H' l=some (.lst (Yg st xs))->Same H H'->H l=none->Q (.ref l) H')
theorem Xo:∀ (st:List (Nat×Option Int)) (xs:List V),(Yg st xs).length=xs.length
 | [],_=>rfl
 | (p,w) :: r,xs=>by rw[Yg,Xo r,zut]
theorem Lb(xs:List V)(n:Int):(Wg xs n=none/\∀ i:Nat,xs[i]?≠some (V.int n))\/∃ i:Nat,Wg xs n=some i/\xs[i]?=some (V.int n):=by
 unfold Wg;cases h:(List.range xs.length).find? fun i=>decide (xs[i]?=some (.int n)) with
 | none =>
   refine .inl ⟨rfl,fun i e=>?_⟩;have hi:i<xs.length:=(ztd.mp e).1;have:=List.find?_eq_none.mp h i (zt5.mpr hi);exact this (ztf e)
 | some i =>
   have:=List.find?_some h;exact .inr ⟨i,rfl,of_decide_eq_true this⟩
theorem zce(xs:List V)(k:Nat):Io xs (some (k:Int)) none=xs.drop k:=by
 unfold Io;rw[HT.sIx_nat,HT.sIx_none];by_cases h:k<=xs.length
 ·rw[Nat.min_eq_left h,<- List.length_drop,ztq]
 ·rw[Nat.min_eq_right ⋯,List.drop_length,List.take_nil,List.drop_eq_nil_of_le ⋯]
inductive ILs(H:Hp):List Addr->List (List Int)->Prop where
 | nil:ILs H [] []
 | cons {l:Addr} {ls:List Addr} {r:List Int} {R:List (List Int)} (h:H l=some (.lst (r.map V.int))) (n:ILs H ls R):ILs H (l :: ls) (r :: R)
theorem ILs.keep:∀ {ls:List Addr} {R:List (List Int)},(∀ l∈ls,∀ o,H l=some o->H' l=some o)->ILs H ls R->ILs H' ls R
 | _,_,_,.nil=>.nil
 | _,_,k,.cons h r=>.cons (k _ zt3 _ h) (ILs.keep (fun l hl=>k l (ztr _ hl)) r)
theorem ILs.same(e:Same H H')(h:ILs H ls R):ILs H' ls R:=h.keep fun l _ o q=>e _ _ q
theorem ILs.length:∀ {ls:List Addr} {R:List (List Int)},ILs H ls R->ls.length=R.length
 | _,_,.nil=>rfl
 | _,_,.cons _ r=>by simp[ILs.length r]
theorem ILs.snoc(h:H l=some (.lst (x.map V.int))):∀ {ls:List Addr} {R:List (List Int)},ILs H ls R->ILs H (ls++[l]) (R++[x])
 | _,_,.nil=>.cons h .nil
 | _,_,.cons h' r=>.cons h' (ILs.snoc h r)
theorem ILs.has:∀ {ls:List Addr} {R:List (List Int)} {l:Addr},ILs H ls R->l∈ls->∃ xs,H l=some (.lst xs)
 | _,_,_,.nil,e=>by simp at e
 | _,_,_,.cons h r,e=>by
   rcases ztg.mp e with rfl|e
   ·exact⟨_,h⟩
   ·exact ILs.has r e
theorem ILs.getR:∀ {ls:List Addr} {R:List (List Int)} {i:Nat} {r:List Int},ILs H ls R->R[i]?=some r->∃ l,ls[i]?=some l/\H l=some (.lst (r.map V.int))
 | _,_,_,_,.nil,e=>by simp at e
 | _,_,0,_,.cons h _,e=>by simp at e;subst e;exact⟨_,rfl,h⟩
 | _,_,i+1,x,.cons _ r,e=>by
   obtain⟨t,h1,h2⟩:=ILs.getR (i:=i) (r:=x) r (by simpa using e);exact⟨t,by simpa using h1,h2⟩
structure Lc(rows:List (List Int))(nu:List Int):Prop where
 few:rows.length<=20
 crowd:nu.length<=30
 inj:nu.Nodup
 rng:∀ n∈nu,1<=n/\n<=999
 sub:∀ r∈rows,r.Nodup/\∀ n∈r,n∈nu
structure Ya(rows:List (List Int))(gs:List V):Prop where
 len:gs.length=rows.length
 one:∀ x∈gs,oneV x
 may:∀ (k:Nat) (n:Int),gs[k]?=some (.int n)->∃ r,rows[k]?=some r/\n∈r
 inj:∀ (j k:Nat) (n:Int),gs[j]?=some (.int n)->gs[k]?=some (.int n)->j=k
def Qz(rows:List (List Int))(gs:List V)(p:Nat):Prop:=∃ S:Nat->Prop,S p/\∀ q,S q->q<rows.length/\∀ r,rows[q]?=some r->∀ n∈r,∃ q',q' < p/\gs[q']?=some (.int n)/\S q'
def Wh(rows:List (List Int))(gs:List V):Prop:=∀ p,gs[p]?=some .non->Qz rows gs p
inductive zej(K:Frag)(vs:List V)(H:Hp)(Q:VK)(_:XK):Prop where
 | mk(l:Addr)(ls:List Addr)(rows:List (List Int))(nu:List Int)(_:vs=[.ref l])(_:H l=some (.lst (ls.map V.ref)))(_:ILs H ls rows)(_:Lc rows nu)(_:∀ l' gs H',H' l'=some (.lst gs)->Ya rows gs->Wh rows gs->Same H H'->H l'=none->Q (.ref l') H')
inductive Ld(K:Frag)(vs:List V)(H:Hp)(Q:VK)(_:XK):Prop where
 | mk(l lg:Addr)(ls:List Addr)(rows:List (List Int))(gs:List V)(_:vs=[.ref l,.ref lg])(_:H l=some (.lst (ls.map V.ref)))(_:ILs H ls rows)(_:rows.length<=100)(_:H lg=some (.lst gs))(_:Ya rows gs)(_:∀ H',Same H H'->Q (.bl true) H')
theorem Kp{n:Int}{r:List Int}:inV (.int n) (r.map V.int)=decide (n∈r):=by
 induction r with
 | nil=>rfl
 | cons x r ih =>
   unfold inV at ih ⊢;rw[zto,zvj,ih];have e:eqV (.int x) (.int n)=decide (n=x):=by
    show (x == n)=_;by_cases h:n=x
    ·subst h;simp
    ·rw[zth h];exact zt0.mpr (Ne.symm h)
   rw[e];by_cases h:n=x
   ·subst h;simp
   ·by_cases h2:n∈r<;>simp[h,h2]
theorem G3(r:List Int):(r.map V.int).all Te=true:=by
 rw[List.all_map];exact zva.mpr fun _ _=>rfl
end G
namespace G
open PySem PySem.Spec PyProof.Rows L2
def newS(st:List (Nat×Option Int))(k:Nat):List V:=(st.filter fun s=>decide (s.1=k)).map fun s=>oV s.2
theorem G4:∀ (st:List (Nat×Option Int)) (xs:List V) (k:Nat),(st.map (·.1)).Nodup->k<xs.length->(Yg st xs)[k]?=some ((newS st k++[xs.getD k .non]).getD 0 .non)
 | [],xs,k,_,hk=>by
   rw[Yg,ztb hk];show _=some (xs.getD k .non);rw[zt1,ztb hk];rfl
 | (p,w) :: r,xs,k,nd,hk=>by
   rw[zto,ztz] at nd;rw[Yg,G4 r _ k nd.2 (by rw[zut];exact hk)];by_cases h:p=k
   ·subst h;have e:newS r p=[]:=by
     unfold newS;rw[List.map_eq_nil_iff,List.filter_eq_nil_iff];intro s hs z;exact nd.1 (ztk.mpr ⟨s,hs,of_decide_eq_true z⟩)
    have e2:newS ((p,w) :: r) p=oV w :: newS r p:=by
     unfold newS;rw[zum,if_pos (ztf rfl),zto]
    rw[e2,e];show some ((xs.set p (oV w)).getD p .non)=some (oV w);rw[zt1,zug hk];rfl
   ·have e2:newS ((p,w) :: r) k=newS r k:=by
     unfold newS;rw[zum,if_neg (by rw[zth h];decide)]
    rw[e2];have e3:(xs.set p (oV w)).getD k .non=xs.getD k .non:=by
     rw[zt1,zt1,zt8 h]
    rw[e3]
section
variable{rows:List (List Int)}{gs:List V}
def adjN(rows:List (List Int))(gs:List V)(q:Nat)(n:Int)(q':Nat):Prop:=(∃ r,rows[q]?=some r/\n∈r)/\gs[q']?=some (.int n)
def Py(rows:List (List Int))(gs:List V)(q:Nat)(n:Int):Prop:=(∃ r,rows[q]?=some r/\n∈r)/\∀ j:Nat,gs[j]?≠some (V.int n)
def V6(rows:List (List Int))(gs:List V)(q:Nat):Prop:=∃ n,Py rows gs q n
inductive Walk(rows:List (List Int))(gs:List V)(p:Nat):Nat->Nat->Prop where
 | nil:Walk rows gs p p 0
 | snoc {q q' k:Nat} {n:Int} (h:Walk rows gs p q k) (a:adjN rows gs q n q'):Walk rows gs p q' (k+1)
theorem Walk.cons(a:adjN rows gs p n p')(h:Walk rows gs p' q k):Walk rows gs p q (k+1):=by
 induction h with
 | nil=>exact .snoc .nil a
 | snoc _ a' ih=>exact .snoc ih a'
inductive Ch(rows:List (List Int))(gs:List V):Nat->List (Nat×Option Int)->Nat->Option Int->Prop where
 | one (q:Nat) (w:Option Int):Ch rows gs q [(q,w)] q w
 | step {q q' e:Nat} {n:Int} {st:List (Nat×Option Int)} {w:Option Int} (a:adjN rows gs q n q') (h:Ch rows gs q' st e w):Ch rows gs q ((q,some n) :: st) e w
theorem Ch.pos{q e:Nat}{st:List (Nat×Option Int)}{w:Option Int}(h:Ch rows gs q st e w):0<st.length:=by cases h<;>simp
theorem Ch.walk{q e:Nat}{st:List (Nat×Option Int)}{w:Option Int}(h:Ch rows gs q st e w):Walk rows gs q e (st.length-1):=by
 induction h with
 | one q w=>exact .nil
 | step a h ih =>
   have:=h.pos;have e:=Walk.cons a ih;rw[ztt,Nat.add_sub_cancel];rw[Nat.sub_add_cancel this] at e;exact e
theorem Ch.drop{q e:Nat}{st:List (Nat×Option Int)}{w:Option Int}(h:Ch rows gs q st e w):∀ x∈st.map (·.1),∃ st',Ch rows gs x st' e w/\st'.length<=st.length:=by
 induction h with
 | one q w=>intro x hx;simp at hx;subst hx;exact⟨_,.one _ _,ztm _⟩
 | @step q q' e n st w a h ih =>
   intro x hx;rw[zto] at hx;rcases ztg.mp hx with z|z
   ·subst z;exact⟨_,.step a h,ztm _⟩
   ·obtain⟨st',h1,h2⟩:=ih x z;exact⟨st',h1,by rw[ztt];omega⟩
theorem Ch.hd{q e:Nat}{st:List (Nat×Option Int)}{w:Option Int}(h:Ch rows gs q st e w):∃ x r,st=(q,x) :: r:=by cases h<;>exact⟨_,_,rfl⟩
theorem Ch.last{q e:Nat}{st:List (Nat×Option Int)}{w:Option Int}(h:Ch rows gs q st e w):e∈st.map (·.1):=by
 induction h with
 | one q w=>simp
 | step a h ih=>rw[zto];exact ztr _ ih
theorem Ch.nodup{q e:Nat}{st:List (Nat×Option Int)}{w:Option Int}(h:Ch rows gs q st e w)(hm:∀ k,Walk rows gs q e k->st.length<=k+1):(st.map (·.1)).Nodup:=by
 induction h with
 | one q w=>simp
 | @step q q' e n st w a h ih =>
   rw[zto,ztz];refine⟨fun hq=>?_,ih fun k hk=>?_⟩
   ·obtain⟨st',h1,h2⟩:=h.drop q hq;have:=hm _ h1.walk;have:=h1.pos;rw[ztt] at *;omega
   ·have:=hm _ (Walk.cons a hk);rw[ztt] at this;omega
theorem Ch.mem{q e:Nat}{st:List (Nat×Option Int)}{w:Option Int}(h:Ch rows gs q st e w):∀ (k:Nat) (n:Int),(k,some n)∈st->(adjN rows gs k n k\/True)/\(((∃ r,rows[k]?=some r/\n∈r)/\∃ k',gs[k']?=some (V.int n)/\k'∈st.tail.map (·.1))\/(w=some n/\k=e)):=by
 induction h with
 | one q w =>
   intro k n hk;simp at hk;exact⟨.inr trivial,.inr ⟨hk.2.symm,hk.1⟩⟩
 | @step q q' e n' st w a h ih =>
   intro k n hk;refine⟨.inr trivial,?_⟩;rcases ztg.mp hk with z|z
   ·cases z;refine .inl ⟨a.1,q',a.2,?_⟩;obtain⟨x,r,e⟩:=h.hd;rw[e];simp
   ·rcases(ih k n z).2 with ⟨h1,k',h2,h3⟩|h1
    ·refine .inl ⟨h1,k',h2,?_⟩;show k'∈st.map (·.1);obtain⟨x,r,e⟩:=h.hd;rw[e] at h3 ⊢;exact ztr _ h3
    ·exact .inr h1
theorem Ch.inj{q e:Nat}{st:List (Nat×Option Int)}{w:Option Int}(FP:Ya rows gs)(h:Ch rows gs q st e w)(hw:∀ n,w=some n->∀ j:Nat,gs[j]?≠some (V.int n))(nd:(st.map (·.1)).Nodup):∀ (j k:Nat) (n:Int),(j,some n)∈st->(k,some n)∈st->j=k:=by
 induction h with
 | one q w=>intro j k n h1 h2;simp at h1 h2;rw[h1.1,h2.1]
 | @step q q' e n' st w a h ih =>
   intro j k n h1 h2;rw[zto,ztz] at nd;have key:∀ k,(k,some n')∈st->False:=fun k hk=>by
    rcases(h.mem k n' hk).2 with ⟨_,k',h2,h3⟩|⟨h1,_⟩
    ·have e:k'=q':=FP.inj k' q' n' h2 a.2;subst e;obtain⟨x,r,e⟩:=h.hd;have nd2:=nd.2;rw[e] at nd2 h3;rw[zto,ztz] at nd2;exact nd2.1 h3
    ·exact hw n' h1 q' a.2
   rcases ztg.mp h1 with z1|z1<;>rcases ztg.mp h2 with z2|z2
   ·cases z1;cases z2;rfl
   ·cases z1;exact(key k z2).elim
   ·cases z2;exact(key j z1).elim
   ·exact ih hw nd.2 j k n z1 z2
theorem zek{st:List (Nat×Option Int)}{k:Nat}(nd:(st.map (·.1)).Nodup):(k∉st.map (·.1)/\newS st k=[])\/∃ w,(k,w)∈st/\newS st k=[oV w]:=by
 induction st with
 | nil=>exact .inl ⟨by simp,rfl⟩
 | cons s r ih =>
   obtain⟨p,w⟩:=s;rw[zto,ztz] at nd;by_cases h:p=k
   ·subst h;refine .inr ⟨w,zt3,?_⟩;rcases ih nd.2 with ⟨_,e⟩|⟨w',h1,_⟩
    ·have e2:newS ((p,w) :: r) p=oV w :: newS r p:=by
      unfold newS;rw[zum,if_pos (ztf rfl),zto]
     rw[e2,e]
    ·exact absurd (ztk.mpr ⟨_,h1,rfl⟩) nd.1
   ·have e2:newS ((p,w) :: r) k=newS r k:=by
     unfold newS;rw[zum,if_neg (by rw[zth h];decide)]
    rw[e2];rcases ih nd.2 with ⟨h1,e⟩|⟨w',h1,e⟩
    ·exact .inl ⟨fun z=>by rcases ztg.mp z with q|q;exact h q.symm;exact h1 q,e⟩
    ·exact .inr ⟨w',ztr _ h1,e⟩
theorem Xd{st:List (Nat×Option Int)}{xs:List V}{k:Nat}(nd:(st.map (·.1)).Nodup)(hk:k<xs.length):(k∉st.map (·.1)/\(Yg st xs)[k]?=xs[k]?)\/∃ w,(k,w)∈st/\(Yg st xs)[k]?=some (oV w):=by
 rw[G4 st xs k nd hk];rcases zek (k:=k) nd with ⟨h,e⟩|⟨w,h,e⟩
 ·refine .inl ⟨h,?_⟩;rw[e];show some (xs.getD k .non)=_;rw[zt1,ztb hk];rfl
 ·exact .inr ⟨w,h,by rw[e];rfl⟩
theorem Ch.lt{q e:Nat}{st:List (Nat×Option Int)}{w:Option Int}(FP:Ya rows gs)(h:Ch rows gs q st e w)(hq:q<rows.length):∀ s∈st,s.1<rows.length:=by
 induction h with
 | one q w=>intro s hs;simp at hs;subst hs;exact hq
 | @step q q' e n st w a h ih =>
   intro s hs;rcases ztg.mp hs with z|z
   ·subst z;exact hq
   ·refine ih ?_ s z;have:=(ztd.mp a.2).1;rw[FP.len] at this;exact this
theorem Ch.fill{q e:Nat}{st:List (Nat×Option Int)}{w:Option Int}(FP:Ya rows gs)(h:Ch rows gs q st e w)(hq:q<rows.length)(hw:∀ n,w=some n->Py rows gs e n)(nd:(st.map (·.1)).Nodup):Ya rows (Yg st gs):=by
 have hlt:=h.lt FP hq;have hinj:=h.inj FP (fun n hn=>(hw n hn).2) nd;have src:∀ (k:Nat) (n:Int),(k,some n)∈st->(∃ r,rows[k]?=some r/\n∈r)/\∀ j:Nat,gs[j]?=some (V.int n)->j∈st.map (·.1):=fun k n hk=>by
  rcases(h.mem k n hk).2 with ⟨h1,k',h2,h3⟩|⟨h1,rfl⟩
  ·refine⟨h1,fun j hj=>?_⟩;rw[FP.inj j k' n hj h2];obtain⟨x,r,e⟩:=h.hd;rw[e] at h3 ⊢;exact ztr _ h3
  ·exact⟨(hw n h1).1,fun j hj=>absurd hj ((hw n h1).2 j)⟩
 have cs:∀ k,k<gs.length->(k∉st.map (·.1)/\(Yg st gs)[k]?=gs[k]?)\/∃ w,(k,w)∈st/\(Yg st gs)[k]?=some (oV w):=fun k hk=>Xd nd hk;have at_:∀ (k:Nat) (n:Int),(Yg st gs)[k]?=some (V.int n)->(k∉st.map (·.1)/\gs[k]?=some (V.int n))\/(k,some n)∈st:=fun k n hk=>by
  have hkl:k<gs.length:=by
   have:=(ztd.mp hk).1;rw[Xo] at this;exact this
  rcases cs k hkl with ⟨h1,e⟩|⟨w',h1,e⟩
  ·exact .inl ⟨h1,by rw[<- e];exact hk⟩
  ·rw[e] at hk;cases w' with
   | none=>cases hk
   | some m=>cases hk;exact .inr h1
 refine⟨by rw[Xo];exact FP.len,fun x hx=>?_,fun k n hk=>?_,fun j k n hj hk=>?_⟩
 ·obtain⟨k,hk,rfl⟩:=zuk hx;have hkl:k<gs.length:=by rw[Xo] at hk;exact hk
  have e0:=ztb hk;rcases cs k hkl with ⟨_,e⟩|⟨w',_,e⟩
  ·rw[e,ztb hkl] at e0;rw[<- Option.some.inj e0];exact FP.one _ (zue hkl)
  ·rw[e] at e0;rw[<- Option.some.inj e0];exact zit w'
 ·rcases at_ k n hk with ⟨_,h1⟩|h1
  ·exact FP.may k n h1
  ·exact(src k n h1).1
 ·rcases at_ j n hj with ⟨a1,a2⟩|a1<;>rcases at_ k n hk with ⟨b1,b2⟩|b1
  ·exact FP.inj j k n a2 b2
  ·exact absurd ((src k n b1).2 j a2) a1
  ·exact absurd ((src j n a1).2 k b2) b1
  ·exact hinj j k n a1 b1
theorem Ch.out{p0 q e:Nat}{n0:Int}{w:Option Int}{st:List (Nat×Option Int)}{S:Nat->Prop}(FP:Ya rows gs)(hS:∀ q,S q->q<rows.length/\∀ r,rows[q]?=some r->∀ n∈r,∃ q',q' < p0/\gs[q']?=some (.int n)/\S q')(h:Ch rows gs q st e w):w=some n0->Py rows gs e n0->¬ S q:=by
 induction h with
 | one q w =>
   intro hw hf hs;obtain⟨r,h1,h2⟩:=hf.1;obtain⟨q',_,h3,_⟩:=(hS _ hs).2 r h1 n0 h2;exact hf.2 q' h3
 | @step q q' e n st w a h ih =>
   intro hw hf hs;obtain⟨r,h1,h2⟩:=a.1;obtain⟨q'',_,h3,h4⟩:=(hS q hs).2 r h1 n h2;have:q''=q':=FP.inj q'' q' n h3 a.2;subst this;exact ih hw hf h4
theorem Qz.behind{p0 q e:Nat}{n0:Int}{st:List (Nat×Option Int)}(FP:Ya rows gs)(S0:Qz rows gs p0)(h:Ch rows gs q st e (some n0))(hf:Py rows gs e n0)(hq:q<rows.length)(nd:(st.map (·.1)).Nodup):Qz rows (Yg st gs) p0:=by
 obtain⟨S,hp,hS⟩:=S0;have outAll:∀ x∈st.map (·.1),¬ S x:=fun x hx=>by
  obtain⟨st',h1,_⟩:=h.drop x hx;exact h1.out FP hS rfl hf
 refine⟨S,hp,fun q1 h1=>⟨(hS q1 h1).1,fun r hr n hn=>?_⟩⟩;obtain⟨q',h2,h3,h4⟩:=(hS q1 h1).2 r hr n hn;refine⟨q',h2,?_,h4⟩;have hkl:q' < gs.length:=(ztd.mp h3).1;rcases Xd nd hkl with ⟨_,e⟩|⟨w,h5,_⟩
 ·rw[e];exact h3
 ·exact absurd h4 (outAll q' (ztk.mpr ⟨_,h5,rfl⟩))
structure Y1(rows:List (List Int))(gs:List V)(p:Nat)(st:List (Nat×Option Int))(e:Nat)(w:Option Int):Prop where
 ch:Ch rows gs p st e w
 free:∀ n,w=some n->Py rows gs e n/\∀ q k,Walk rows gs p q k->V6 rows gs q->st.length<=k+1
 none:w=none->(∀ q k,Walk rows gs p q k->¬ V6 rows gs q)/\(∀ q k,Walk rows gs p q k->q<=e)/\∀ k,Walk rows gs p e k->st.length<=k+1
theorem Y1.nodup{p e:Nat}{st:List (Nat×Option Int)}{w:Option Int}(c:Y1 rows gs p st e w):(st.map (·.1)).Nodup:=by
 refine c.ch.nodup fun k hk=>?_;cases h:w with
 | none=>exact(c.none h).2.2 k hk
 | some n=>exact(c.free n h).2 e k hk ⟨n,(c.free n h).1⟩
theorem Y1.fill{p e:Nat}{st:List (Nat×Option Int)}{w:Option Int}(FP:Ya rows gs)(c:Y1 rows gs p st e w)(hp:p<rows.length):Ya rows (Yg st gs):=c.ch.fill FP hp (fun n hn=>(c.free n hn).1) c.nodup
theorem zel(FP:Ya rows gs)(hp:p<rows.length)(ha:∀ q n,gs[q]?=some (V.int n)->q<p)(hn:∀ q k,Walk rows gs p q k->¬ V6 rows gs q):Qz rows gs p:=by
 refine⟨fun q=>∃ k,Walk rows gs p q k,⟨0,.nil⟩,fun q ⟨k,hk⟩=>⟨?_,fun r hr n hnr=>?_⟩⟩
 ·cases hk with
  | nil=>exact hp
  | snoc _ a =>
    have:=(ztd.mp a.2).1;rw[FP.len] at this;exact this
 ·by_cases hx:∃ j:Nat,gs[j]?=some (V.int n)
  ·obtain⟨j,hj⟩:=hx;exact⟨j,ha j n hj,hj,k+1,.snoc hk ⟨⟨r,hr,hnr⟩,hj⟩⟩
  ·exact absurd ⟨n,⟨r,hr,hnr⟩,fun j hj=>hx ⟨j,hj⟩⟩ (hn q k hk)
end
section
variable{rows:List (List Int)}{gs:List V}{p:Nat}
structure Bfs(rows:List (List Int))(gs:List V)(p:Nat)(line:List Nat)(dep:Nat->Nat):Prop where
 nodup:line.Nodup
 memp:p∈line
 d0:dep p=0
 walk:∀ q∈line,Walk rows gs p q (dep q)
 sorted:∀ (i j q q':Nat),i<=j->line[i]?=some q->line[j]?=some q'->dep q<=dep q'
def Done(rows:List (List Int))(gs:List V)(line:List Nat)(dep:Nat->Nat)(dn:Nat):Prop:=∀ (i q:Nat),i<dn->line[i]?=some q->∀ n q',adjN rows gs q n q'->q'∈line/\dep q'<=dep q+1
theorem zcf(rows:List (List Int))(gs:List V)(p:Nat):Bfs rows gs p [p] (fun _=>0):=by
 refine⟨by simp,by simp,rfl,fun q hq=>?_,fun i j q q' _ _ _=>ztm _⟩;simp at hq;subst hq;exact .nil
variable{line:List Nat}{dep:Nat->Nat}{dn:Nat}
theorem Bfs.reach(B:Bfs rows gs p line dep)(D:Done rows gs line dep dn)(h:Walk rows gs p q k):(q∈line/\dep q<=k)\/∃ j q',dn<=j/\line[j]?=some q'/\dep q' < k:=by
 induction h with
 | nil=>exact .inl ⟨B.memp,by rw[B.d0];exact ztm _⟩
 | @snoc q q' k n h a ih =>
   rcases ih with ⟨h1,h2⟩|⟨j,x,h1,h2,h3⟩
   ·obtain⟨i,hi,e⟩:=zuk h1;have e':line[i]?=some q:=by rw[ztb hi,e]
    by_cases hd:i<dn
    ·obtain⟨a1,a2⟩:=D i q hd e' n q' a;exact .inl ⟨a1,by omega⟩
    ·exact .inr ⟨i,q,by omega,e',by omega⟩
   ·exact .inr ⟨j,x,h1,h2,by omega⟩
theorem Bfs.full(B:Bfs rows gs p line dep)(D:Done rows gs line dep line.length)(h:Walk rows gs p q k):q∈line/\dep q<=k:=by
 rcases B.reach D h with z|⟨j,x,h1,h2,_⟩
 ·exact z
 ·have:=(ztd.mp h2).1;omega
theorem Bfs.early(B:Bfs rows gs p line dep)(D:Done rows gs line dep dn)(hh:line[dn]?=some here)(h:Walk rows gs p q k)(hk:k<dep here):∃ i,i<dn/\line[i]?=some q:=by
 rcases B.reach D h with ⟨h1,h2⟩|⟨j,x,h1,h2,h3⟩
 ·obtain⟨i,hi,e⟩:=zuk h1;have e':line[i]?=some q:=by rw[ztb hi,e]
  refine⟨i,?_,e'⟩;by_cases hd:i<dn
  ·exact hd
  ·have:=B.sorted dn i here q ⋯ hh e';omega
 ·have:=B.sorted dn j here x h1 hh h2;omega
theorem Bfs.fewest(B:Bfs rows gs p line dep)(D:Done rows gs line dep dn)(hh:line[dn]?=some here)(hno:∀ (i q:Nat),i<dn->line[i]?=some q->¬ V6 rows gs q)(h:Walk rows gs p q k)(hf:V6 rows gs q):dep here+1<=k+1:=by
 by_cases hk:k<dep here
 ·obtain⟨i,hi,e⟩:=B.early D hh h hk;exact absurd hf (hno i q hi e)
 ·omega
def Ve(dep:Nat->Nat)(q d:Nat):Nat->Nat:=fun x=>if x=q then d else dep x
theorem Bfs.app(B:Bfs rows gs p line dep)(hh:line[dn]?=some here)(near:∀ x∈line,dep x<=dep here+1)(a:adjN rows gs here n q')(hn:q'∉line) :
  Bfs rows gs p (line++[q']) (Ve dep q' (dep here+1))/\(∀ x∈line,Ve dep q' (dep here+1) x=dep x)/\∀ x∈line++[q'],Ve dep q' (dep here+1) x<=dep here+1:=by
 have old:∀ x∈line,Ve dep q' (dep here+1) x=dep x:=fun x hx=>by
  unfold Ve;rw[if_neg (fun (z:x=q')=>hn (by rw[<- z];exact hx))]
 have new:Ve dep q' (dep here+1) q'=dep here+1:=by unfold Ve;rw[if_pos rfl]
 have hhm:=ztn hh;have all:∀ x∈line++[q'],Ve dep q' (dep here+1) x<=dep here+1:=fun x hx=>by
  rcases ztl.mp hx with z|z
  ·rw[old x z];exact near x z
  ·rw[zte.mp z,new];exact ztm _
 refine⟨⟨F5 B.nodup hn,zt7 _ B.memp,by rw[old p B.memp];exact B.d0,fun q hq=>?_,fun i j x y hij hx hy=>?_⟩,old,all⟩
 ·rcases ztl.mp hq with z|z
  ·rw[old q z];exact B.walk q z
  ·rw[zte.mp z,new];exact .snoc (B.walk here hhm) a
 ·by_cases hj:j<line.length
  ·rw[zt9 hj] at hy;rw[zt9 ⋯] at hx;rw[old x (ztn hx),old y (ztn hy)];exact B.sorted i j x y hij hx hy
  ·rw[zt6 ⋯] at hy;have:y=q':=by
    cases e:j-line.length with
    | zero=>rw[e] at hy;simpa using hy.symm
    | succ m=>rw[e] at hy;simp at hy
   subst this;rw[new];exact all x (ztn hx)
theorem Done.app(D:Done rows gs line dep dn)(hd:dn<=line.length)(hl:∃ r,line'=line++r)(he:∀ x∈line,dep' x=dep x):Done rows gs line' dep' dn:=fun i q hi e n q' a=>by
 obtain⟨r,rfl⟩:=hl;rw[zt9 ⋯] at e;obtain⟨h1,h2⟩:=D i q hi e n q' a;exact⟨zt7 _ h1,by rw[he q' h1,he q (ztn e)];exact h2⟩
def Uy(rows:List (List Int))(gs:List V)(p:Nat)(line:List Nat)(dep:Nat->Nat)(fr:Nat->Option (Nat×Int)):Prop:=fr p=none/\∀ q∈line,q≠p->∃ par n,fr q=some (par,n)/\par∈line/\adjN rows gs par n q/\dep q=dep par+1
theorem Uy.back(d0:dep p=0)(F:Uy rows gs p line dep fr):∀ (d q e:Nat) (w:Option Int) (st:List (Nat×Option Int)),dep q=d->q∈line->Ch rows gs q st e w->∃ pre,Ch rows gs p (pre++st) e w/\pre.length=d:=fun d=>by
 induction d with
 | zero =>
   intro q e w st hd hq h;by_cases hp:q=p
   ·subst hp;exact⟨[],h,rfl⟩
   ·obtain⟨par,n,_,_,_,h4⟩:=F.2 q hq hp;omega
 | succ d ih =>
   intro q e w st hd hq h;by_cases hp:q=p
   ·subst hp;rw[d0] at hd;cases hd
   ·obtain⟨par,n,h1,h2,h3,h4⟩:=F.2 q hq hp;obtain⟨pre,h5,h6⟩:=ih par e w _ ⋯ h2 (.step h3 h);exact⟨pre++[(par,some n)],by rw[zu6];exact h5,by rw[ztc,h6];rfl⟩
theorem Ac{here:Nat}{n:Int}{st:List (Nat×Option Int)}(B:Bfs rows gs p line dep)(D:Done rows gs line dep dn)(hh:line[dn]?=some here)(hno:∀ (i q:Nat),i<dn->line[i]?=some q->¬ V6 rows gs q)(hf:Py rows gs here n)(c:Ch rows gs p st here (some n))(hl:st.length=dep here+1):Y1 rows gs p st here (some n) :=
 ⟨c,fun m e=>by cases e;exact⟨hf,fun q k hk hq=>by rw[hl];exact B.fewest D hh hno hk hq⟩,(fun z=>nomatch z)⟩
theorem Ae{e:Nat}{st:List (Nat×Option Int)}(B:Bfs rows gs p line dep)(D:Done rows gs line dep line.length)(hno:∀ q∈line,¬ V6 rows gs q)(he:∀ q∈line,q<=e)(c:Ch rows gs p st e none)(hl:st.length=dep e+1):Y1 rows gs p st e none :=
 ⟨c,(fun m z=>nomatch z),fun _=>⟨fun q k hk=>hno q (B.full D hk).1,fun q k hk=>he q (B.full D hk).1,fun k hk=>by rw[hl];have:=(B.full D hk).2;omega⟩⟩
end
end G
namespace L2
open PySem PySem.Spec PyProof.Rows
inductive ziv(x:V)(vs:List V)(H:Hp)(Q:VK):Prop where
 | mk(l:Addr)(xs:List V)(y:V)(j:Nat)(_:x=.ref l)(_:vs=[y])(_:H l=some (.lst xs))(_:Te y=true)(_:xs.all Te=true)(_:(∃ z,xs[j]?=some z/\eqV z y=true))(_:(∀ m z,m<j->xs[m]?=some z->eqV z y=false))(_:Q (.int (j:Nat)) H)
theorem zem:MtM X "list.index" ziv:=by
 intro pins s σ H x vs v us Q I rx rv h;obtain⟨l,xs,y,j,rfl,rfl,hH,fy,fs,⟨zj,hzj,hej⟩,hno,q⟩:=h;cases rx;obtain⟨u,rfl,ru⟩:=rv.one;obtain⟨z,its,n,r,hl,e⟩:=I.lstM hH;have hjx:j<xs.length:=(ztd.mp hzj).1;have hj:j<its.toArray.size:=by rw[ztp];omega
 have hline:=Pr;have ev:∀ (m:Nat) (hm:m<its.toArray.size) (w:V),xs[m]?=some w->eqU y (its.toArray[m]'hm)=eqV w y:=fun m hm w hw=>by
  obtain⟨uu,hu,ruu⟩:=r.get hw;have:its.toArray[m]'hm=uu:=by
   have h1:its[m]?=some (its.toArray[m]'hm):=by simp
   rw[h1] at hu;exact Option.some.inj hu
  rw[this];refine B3 ruu ?_;exact zva.mp fs w (ztn hw)
 refine call_meets PySem.F.slot_list_index ⟨_,e,rfl⟩ PySem.F.entry_list_index (PySem.F.args_list_index_2 _ _) (SeqAt.list_indexAt l its.toArray n none #[] u (eqU y) j hj ⋯ (by rw[ev j hj zj hzj];exact hej) (fun m hm hmj=>?_)) ⟨e,fun w hw=>Sf ru fy r fs w (by simpa using hw),?_⟩
 ·have hmx:m<xs.length:=by rw[ztp] at hm;omega
  have hw:xs[m]?=some (xs[m]'hmx):=ztb hmx;rw[ev m hm _ hw];exact hno m _ hmj hw
 ·exact⟨.int (j:Nat),H,I.tok _,⟨_,rfl⟩,q⟩
end L2
namespace G
open PySem PySem.Spec PyProof.Rows L2
theorem zki{H:Hp}{ts:List V}{st:List (Nat×Option Int)}{i:Nat}{s:Nat×Option Int}(h:TupL H ts (st.map Vt))(e:st[i]?=some s):∃ t,ts[i]?=some (.ref t)/\H t=some (.tup (Vt s)):=by
 have e':(st.map Vt)[i]?=some (Vt s):=by rw[ztj,e];rfl
 exact h.getR e'
theorem Kq(ho:oneV z):eqV z (.int n)=true↔z=.int n:=by
 rcases ho with rfl|⟨i,rfl⟩
 ·constructor
  ·intro h;cases h
  ·intro h;cases h
 ·show (i == n)=true↔_;constructor
  ·intro h;rw[beq_iff_eq.mp h]
  ·intro h;cases h;simp
theorem D3(ho:∀ x∈gs,oneV x):inV (.int n) gs=true↔∃ j:Nat,gs[j]?=some (V.int n):=by
 unfold inV;rw[List.any_eq_true];constructor
 ·rintro⟨z,hz,e⟩;obtain⟨j,hj,rfl⟩:=zuk hz;exact⟨j,by rw[ztb hj,(Kq (ho _ hz)).mp e]⟩
 ·rintro⟨j,hj⟩;have:=ztn hj;exact⟨_,this,(Kq (ho _ this)).mpr rfl⟩
theorem zgl(r:List Int):PyData.canLayAll0 (X0 (r.map Dt.int))=true/\PyData.depthAll (X0 (r.map Dt.int))<=1:=by
 induction r with
 | nil=>exact⟨rfl,by decide⟩
 | cons x r ih =>
   obtain⟨h1,h2⟩:=ih;refine⟨by rw[zto,X0,PyData.canLayAll0,h1];rfl,?_⟩;rw[zto,X0,PyData.depthAll];have:PyData.depth (toPy (Dt.int x))<=1:=by simp[toPy,PyData.depth]
   omega
theorem zaw(r:List Int):shD (.lst (r.map Dt.int)):=by
 obtain⟨a1,a2⟩:=zgl r;unfold shD SeqAt.shaped;rw[toPy,PyData.canLay0,a1,Bool.true_and];refine ztf ?_;rw[PyData.depth];omega
theorem zax:shD (.lst []):=zaw []
theorem zay(f:α->Dt)(xs:List α):eqD (.lst (xs.map f)) (.lst [])=xs.isEmpty:=by
 cases xs with
 | nil=>simp[eqD,Q8]
 | cons x xs=>simp[eqD,Q8]
structure zle(rows:List (List Int))(gs:List V)(i:Nat):Prop where
 len:gs.length=i
 one:∀ x∈gs,oneV x
 may:∀ (k:Nat) (n:Int),gs[k]?=some (.int n)->∃ r,rows[k]?=some r/\n∈r
 inj:∀ (j k:Nat) (n:Int),gs[j]?=some (.int n)->gs[k]?=some (.int n)->j=k
theorem Ya.drop(F:Ya rows gs)(p:Nat):Ya rows (gs.set p .non):=by
 have cs:∀ (k:Nat) (n:Int),(gs.set p .non)[k]?=some (.int n)->k≠p/\gs[k]?=some (.int n):=fun k n h=>by
  by_cases e:k=p
  ·subst e;by_cases hk:k<gs.length
   ·rw[zug hk] at h;cases h
   ·rw[List.getElem?_eq_none (by rw[zut];omega)] at h;cases h
  ·rw[zt8 (Ne.symm e)] at h;exact⟨e,h⟩
 refine⟨by rw[zut];exact F.len,fun x hx=>?_,fun k n h=>F.may k n (cs k n h).2,fun j k n h1 h2=>F.inj j k n (cs j n h1).2 (cs k n h2).2⟩;rcases List.mem_or_eq_of_mem_set hx with z|z
 ·exact F.one x z
 ·exact .inl z
theorem Ya.without(F:Ya rows gs)(hx:gs[p]?=some x)(f:Int->Bool)(hf:∀ n,f n=false->x=.int n):Ya (rows.map fun r=>r.filter f) (gs.set p .non):=by
 have D:=F.drop p;refine⟨by rw[zta];exact D.len,D.one,fun k n h=>?_,D.inj⟩;obtain⟨r,h1,h2⟩:=D.may k n h;refine⟨r.filter f,by rw[ztj,h1];rfl,ztw.mpr ⟨h2,?_⟩⟩;cases e:f n with
 | true=>rfl
 | false =>
   have hx':=hf n e;subst hx';have hk:k≠p:=fun z=>by
    subst z;rw[zug (ztd.mp hx).1] at h;cases h
   rw[zt8 (Ne.symm hk)] at h;exact absurd (F.inj k p n h hx) hk
theorem O7(J:L2.St->Hp->Prop)(hc:Gr c σ H b)(h1:b=true->∀ H1,Same H H1->∀ N:L2.St->Hp->Prop,(∀ σ' H',J σ' H'->N σ' H')->t { D with nx:=N } σ H1)
  (h2:b=false->∀ H1,Same H H1->∀ N:L2.St->Hp->Prop,(∀ σ' H',J σ' H'->N σ' H')->e { D with nx:=N } σ H1) (h3:∀ σ' H',J σ' H'->u D σ' H'):Zw (E9 c t e) u D σ H:=by
 refine hc _ fun H1 s1=>?_;cases b with
 | true=>rw[if_pos rfl];exact h1 rfl H1 s1 _ h3
 | false=>rw[if_neg ⋯];exact h2 rfl H1 s1 _ h3
theorem D4(h1:Gr t σ H b)(h:∀ H1,Same H H1->if b=true then A D σ H1 else B D σ H1):E9 t A B D σ H:=h1 _ fun H1 s1=>h H1 s1
def Rm(xs:List Nat):List V:=xs.map fun k=>V.int (k:Nat)
end G
namespace L2
open PySem PySem.Spec PyProof.Rows
theorem K4:∀ {ns:List Int} {its:List Value} {i:Nat} {v:Value},Vals (ns.map V.int) its->its[i]?=some v->∃ t,v=.int (ns.getD i 0) t
 | [],_,_,_,.nil,e=>by simp at e
 | n :: ns,_,0,v,.cons r t,e=>by
   obtain⟨tk,rfl⟩:=r;exact⟨tk,(Option.some.inj e).symm⟩
 | n :: ns,_,i+1,v,.cons r t,e=>K4 (i:=i) t e
theorem G5{X:Cx}{K:Frag}(hK:X.K=K)(hc:X.calm=true):W8 X (.builtin "max") (fun xs H Q=>∃ (l:Addr) (ns:List Int),xs=[.ref l]/\SqL K H l (ns.map V.int)/\0<ns.length/\∀ M,M∈ns->(∀ a∈ns,a<=M)->Q (.int M) H):=by
 subst hK;intro pins s σ H xs us Q I r h;obtain⟨l,ns,rfl,hl,hpos,q⟩:=h;obtain⟨u,rfl,ru⟩:=Sa r;cases ru;obtain⟨its,r',pl,hz⟩:=I.list hl;have hlen:its.length=ns.length:=by have:=r'.length;rw[zta] at this;exact this.symm
 have hil:=pl.isList;have hlt:l<s.heap.objs.size:=by obtain⟨_,e,_⟩:=hil;exact Heap.lt_size e
 refine call_max_walk (wpAny_pyIter_list hil ?_);refine⟨s.heap.objs.size,[s.heap.objs.size,l],[s.heap.objs.size],its.toArray.size,_,_,_,rfl,Walks.list (A:=X.A.in1) (I.ok.hd hc) _ l (zt2 hlt) its.toArray,
  ⟨⟨_,Heap.get?_push_size _ rfl,rfl,rfl⟩,hil.push _⟩,fun b hb=>?_,by rw[ztp];omega,CmpOf.ints_gt (fun i=>ns.getD i 0) (fun i v hv=>K4 r' (by simpa using hv)),fun v h' tk hP hk=>?_⟩
 ·show b<(s.heap.push _).objs.size;rw[Heap.size_push];rcases ztg.mp hb with rfl|hb
  ·exact zvn _
  ·rcases ztg.mp hb with rfl|hb
   ·exact zu7 hlt
   ·cases hb
 ·obtain⟨h1,h2⟩:=argBest_gt (fun i=>ns.getD i 0) (its.toArray.size-1);obtain⟨t,rfl⟩:=K4 r' (show its[argBest (fun i j=>decide ((fun i=>ns.getD i 0) i>(fun i=>ns.getD i 0) j)) (its.toArray.size-1)]?=some v by simpa using hP);have hsz:its.toArray.size=ns.length:=by rw[ztp,hlen]
  rw[hsz] at h1 h2 ⊢;generalize argBest (fun i j=>decide ((fun i=>ns.getD i 0) i>(fun i=>ns.getD i 0) j)) (ns.length-1)=b at h1 h2 ⊢;have hb:b<ns.length:=by omega
  have eg:∀ (k:Nat) (hk:k<ns.length),ns.getD k 0=ns[k]'hk:=fun k hk=>by rw[zt1,ztb hk];rfl
  refine⟨.int (ns.getD b 0),H,I.kept fun c o e=>?_,⟨_,rfl⟩,q _ (by rw[eg b hb];exact zue hb) fun x hx=>?_⟩
  ·refine hk c o (fun hm=>?_) (Heap.get?_push_of_some _ e);rw[zte.mp hm] at e;exact zun _ (Heap.lt_size e)
  ·obtain⟨k,hk',rfl⟩:=zuk hx;have:=h2 k ⋯;show ns[k]<=_;rw[<- eg k hk'];exact this
end L2
namespace G
open PySem PySem.Spec PyProof.Rows L2
inductive Ed(K:Frag)(vs:List V)(H:Hp)(Q:VK)(_:XK):Prop where
 | mk(l lg:Addr)(ls:List Addr)(rows:List (List Int))(nu:List Int)(gs:List V)(p:Nat)(_:vs=[.ref l,.ref lg,.int p])(_:H l=some (.lst (ls.map V.ref)))(_:ILs H ls rows)(_:Lc rows nu)(_:H lg=some (.lst gs))(_:Ya rows gs)(_:p<rows.length)(_:gs[p]?=some .non)(_:∀ lt ts st e w H',H' lt=some (.lst ts)->TupL H' ts (st.map Vt)->Y1 rows gs p st e w->Same H H'->H lt=none->Q (.ref lt) H')
theorem Y1.len{rows:List (List Int)}{gs:List V}{p e:Nat}{st:List (Nat×Option Int)}{w:Option Int}(FP:Ya rows gs)(hp:p<rows.length)(c:Y1 rows gs p st e w):st.length<=rows.length:=by
 have hlt:=c.ch.lt FP hp;have:=c.nodup.length_le_of_subset (l₂:=List.range rows.length) fun x hx=>by
  obtain⟨s,hs,rfl⟩:=ztk.mp hx;exact zt5.mpr (hlt s hs)
 rw[zta,zuo] at this;exact this
end G
namespace L2
open PySem PySem.Spec PyProof.Rows
section
variable{X:Cx}{pins:List (Addr×Obj)}{σ:List (Option V)}{H H':Hp}{s:Shared}{h':Heap}
theorem Inv.turnedL{t':Nat}{fp:List Addr}(I:Inv X pins σ H s)(hf:∀ b∈fp,FpOk X pins H b)(k:∀ b o,b∉fp->s.heap.get? b=some o->h'.get? b=some o):Inv X pins σ H { s with heap:=h',toks:=t' }:=by
 have nit:∀ b u,H b=some u->b∉fp:=fun b u e z=>by rw[(hf b z).1] at e;cases e
 refine I.step (g':=s.gens) (d':=s.drawn) (ch:=fp) (fun b hb=>?_) (fun b o _ _ hc e _=>k b o hc e) (fun b o _ _ hc e _=>⟨o.slots,k b o hc e⟩) (fun _ _ _ _ n=>n)
  (fun b o hc e=>⟨o,k b o hc e⟩) (fun _ _ e=>e) (fun _ _ _ e=>e) (fun b ps e=>⟨#[],by rw[e];simp⟩) (fun m hm=>?_) (fun b u e=>?_) I.bare
 ·obtain⟨f0,f1,f2,f3,f4,f5⟩:=hf b hb;exact⟨f3,f1,f4,f5⟩
 ·obtain⟨o,es,ep,ho,r⟩:=hm;exact⟨o,es,ep,k _ o (fun z=>(hf _ z).2.1 rfl) ho,r⟩
 ·refine(I.hok b u e).stay (fun c v hc q=>k c v ?_ q) (fun _ q=>q) fun _ _ q=>q;rcases hc with z|z
  ·rw[z];exact nit b u e
  ·exact nit c _ z
theorem Inv.turnLay{t':Nat}{fp:List Addr}{a:Addr}{o:HO}(I:Inv X pins σ H s)(hf:∀ b∈fp,FpOk X pins H b)(k:∀ b o,b∉fp->s.heap.get? b=some o->h'.get? b=some o)(hp:s.heap.objs.size<=a)(new:Y3 X.prog X.w (upd H a o) h' a o):Inv X pins σ (upd H a o) { s with heap:=h',toks:=t' }:=by
 have nit:∀ b u,H b=some u->b∉fp:=fun b u e z=>by rw[(hf b z).1] at e;cases e
 have hn:H a=none:=I.hok.fresh hp;have ne:∀ b u,s.heap.get? b=some u->b≠a:=fun b u e=>zt2 (zty (Heap.lt_size e) hp);refine I.step (g':=s.gens) (d':=s.drawn) (ch:=fp) (fun b hb=>?_) (fun b o _ _ hc e _=>k b o hc e) (fun b o _ _ hc e _=>⟨o.slots,k b o hc e⟩) (fun b u _ e n=>by rw[Zi (ne b u e)];exact n)
  (fun b o hc e=>⟨o,k b o hc e⟩) (fun b _ e=>by rw[Zi (Zh e hn)];exact e) (fun b _ _ e=>by rw[Zi (Zh e hn)];exact e) (fun b ps e=>⟨#[],by rw[Zi (Zh e hn),e];simp⟩) (fun m hm=>?_) (fun b u e=>?_) I.bare
 ·obtain⟨f0,f1,f2,f3,f4,f5⟩:=hf b hb;exact⟨f3,f1,f4,f5⟩
 ·obtain⟨o,es,ep,ho,r⟩:=hm;exact⟨o,es,ep,k _ o (fun z=>(hf _ z).2.1 rfl) ho,r⟩
 ·by_cases hb:b=a
  ·subst hb;rw[Zc] at e;cases e;exact new
  ·rw[Zi hb] at e;refine(I.hok b u e).stay (fun c v hc q=>k c v ?_ q) (fun c q=>by rw[Zi (Zh q hn)];exact q) fun c _ q=>by rw[Zi (Zh q hn)];exact q
   rcases hc with z|z
   ·rw[z];exact nit b u e
   ·exact nit c _ z
end
def Ite(K:Frag)(a:Addr):It :=
 ⟨fun i H=>∃ xs x,SqL K H a xs/\xs[i]?=some x,fun i H x H'=>∃ p y,H p=none/\(∀ xs,SqL K H a xs->xs[i]?=some y)/\x=.ref p/\H'=upd H p (.tup [.int (i:Nat),y]),fun i H=>∃ xs,SqL K H a xs/\xs.length<=i⟩
theorem zcg{P:Program}{w:World}{K:Frag}{elts:List Expr}{k:Nat}{tp:Pos}(a e it:Addr)(hne:e≠it):Dd P w K (.Tuple elts k tp) (Ite K a) [e,it] e (fun i h=>(∃ old,IsEnum h e it (i:Nat) old)/\h.IsListIter it a i) where
 mem:=by simp
 obj:=fun i h st b hb=>by
  obtain⟨⟨old,h1⟩,h2⟩:=st;have e:b=e\/b=it:=by simpa using hb
  rcases e with rfl|rfl
  ·exact⟨_,h1,fun v z=>by cases z⟩
  ·obtain⟨o,e,c,d⟩:=h2;exact⟨o,e,fun v z=>by rw[d] at z;cases z⟩
 keep:=fun i h h' st k=>⟨let ⟨old,h1⟩:=st.1;⟨old,k e (by simp) _ h1⟩,st.2.at fun o q=>k it (by simp) o q⟩
 item:=by
  intro X hP hw hK hc i pins s σ H E I hf st hg;subst hP hw hK;obtain⟨xs,x,hq,hx⟩:=hg;obtain⟨its,rv,p,hz⟩:=I.list hq;obtain⟨u,hu,ru⟩:=rv.get hx;obtain⟨⟨old,h1⟩,h2⟩:=st;refine wpAny_pyNext_enum_item h1 h2 p.isList (x:=u) (by simpa using hu) hne fun h' o1 o2 o3 o4 o5=>?_;refine⟨_,rfl,wpAny_letOwnedTupleGo_enum o1 fun h'' e1 sb=>?_⟩;have hes:e≠s.heap.objs.size:=fun z=>by
   exact zun _ (z▸Heap.lt_size h1)
  have kk:∀ b o,b∉[e,it]->s.heap.get? b=some o->h''.get? b=some o:=fun b o hb q=>by
   have hb':b≠e/\b≠it:=by simpa using hb
   exact(sb.2 b hb'.1).trans (o5 b o hb'.1 hb'.2 q)
  have new:h''.get? s.heap.objs.size=some { cls:=Value.type "tuple",data:=Data.seq #[Value.int (i:Nat) s.toks,u] }:=(sb.2 _ (Ne.symm hes)).trans o3;have line:=Pr;refine⟨.ref s.heap.objs.size,_,I.turnLay (t':=s.toks+1) (o:=.tup [.int (i:Nat),x]) hf kk (ztm _) ⟨?_,_,.cons ⟨s.toks,rfl⟩ (.cons ru .nil),⟨_,new,rfl,_,rfl⟩⟩,rfl,⟨_,x,I.hok.fresh (ztm _),fun ys hy=>by rw[I.list_inj hy hq];exact hx,rfl,rfl⟩,⟨⟨u,e1⟩,o2.at fun o q=>(sb.2 it (Ne.symm hne)).trans q⟩,fun b hb=>?_⟩
  ·show 2<=sizeLine;rw[sizeLine_eq];decide
  ·have hb':b=e\/b=it:=by simpa using hb
   have hlt:b<s.heap.objs.size:=by
    rcases hb' with rfl|rfl
    ·exact Heap.lt_size h1
    ·obtain⟨o,q,_⟩:=h2;exact Heap.lt_size q
   rw[Zi (zt2 hlt)];exact(hf b hb).1
 done:=by
  intro X hP hw hK hc i pins s σ H E I hf st hg;subst hP hw hK;obtain⟨xs,hq,hx⟩:=hg;obtain⟨its,rv,p,hz⟩:=I.list hq;obtain⟨⟨old,h1⟩,h2⟩:=st;have hl:=rv.length;exact wpAny_pyNext_enum_end (I.ok.hd hc) h1 h2 p.isList (by simp;omega) fun h' eb=>⟨rfl,I.turnedL (t':=s.toks) hf fun b o hb q=>eb b o (fun z=>hb (by simp[z])) q⟩
 self:=fun _ _ _ _ _ st h=>by
  obtain⟨⟨old,h1⟩,h2⟩:=st;exact wpAny_pyIter_enum h1 h
inductive ziw(K:Frag)(R:It->Hp->Prop)(vs:List V)(H1:Hp):Prop where
 | mk(a)(_:vs=[.ref a])(_:(∃ xs,SqL K H1 a xs))(_:R (Ite K a) H1)
def zkj(K:Frag)(ta:TA):TI:=fun σ H R=>ta σ H fun vs H1=>ziw K R vs H1
theorem zgm{X:Cx}{K:Frag}{elts:List Expr}{k:Nat}{tp:Pos}{a:Expr}{ta:TA}{p pos:Pos}(hK:X.K=K)(hg:Gl X "enumerate")(hm:X.mg "enumerate"=none)(ha:PA X [a] ta)(hs:starEach [a] X.env=[(false,eval a X.env)]:=by rfl):PI X (.Tuple elts k tp) (.Call (.Name "enumerate" p) [a] [] pos) (zkj K ta):=by
 subst hK;intro pins s σ H R I h;refine Call_ (Pp I hg hm boot_enumerate (PyProof.Rows.callWith_type1 (thn (ha pos pins s σ H _ I h) fun us s1 ⟨vs,H1,I1,r1,q1⟩=>?_) hs rfl));obtain⟨a,e,⟨xs,hq⟩,q⟩:=q1;subst e;obtain⟨u,rfl,ru⟩:=Sa r1;cases ru;obtain⟨its,rv,pl,hz⟩:=I1.list hq;refine call_enumerate_list pl.isList fun h' e1 e2 e3 e4=>?_;refine wpAny_pyIter_enum e1 ?_;refine⟨_,[s1.heap.objs.size+1,s1.heap.objs.size],_,_,H1,rfl,I1.kept (t':=s1.toks) e4,zcg a _ _ (Nat.succ_ne_self _),⟨⟨_,e1⟩,e2⟩,fun b hb=>?_,q⟩;have e:b=s1.heap.objs.size+1\/b=s1.heap.objs.size:=by simpa using hb
 rcases e with rfl|rfl
 ·exact I1.fpOk (Nat.le_succ _) (I1.hok.fresh (Nat.le_succ _))
 ·exact I1.fpOk (ztm _) (I1.hok.fresh (ztm _))
theorem zen{K:Frag}{a:Addr}{xs:List V}{g:TG}{tb:TS}{D:Oz}{σ:St}{H:Hp}(Pv:Nat->St->Hp->Prop)(h0:Pv 0 σ H)(hl:∀ i σ H,i<=xs.length->Pv i σ H->SqL K H a xs)
  (hs:∀ i x p σ H,xs[i]?=some x->Pv i σ H->H p=none->g (.ref p) σ (upd H p (.tup [.int (i:Nat),x])) fun σ2 H2=>tb { D with nx:=Pv (i+1),ct:=Pv (i+1),bk:=D.nx } σ2 H2) (hd:∀ σ H,Pv xs.length σ H->D.nx σ H) :
  ∃ W:Nat->Nat->St->Hp->Prop,(∃ m,W 0 m σ H)/\∀ i m σ H,W i m σ H ->
    ((Ite K a).stop i H/\D.nx σ H)\/((Ite K a).go i H/\∃ N:St->Hp->Prop,(∀ σ' H',N σ' H'->∃ m',m' < m/\W (i+1) m' σ' H')/\∀ x H',(Ite K a).yld i H x H'->g x σ H' fun σ2 H2=>tb { D with nx:=N,ct:=N,bk:=D.nx } σ2 H2):=by
 refine⟨fun i m σ H=>m=xs.length-i/\i<=xs.length/\Pv i σ H,⟨xs.length,by simp,zt4 _,h0⟩,?_⟩;rintro i m σ H ⟨rfl,hi,p⟩;have q:=hl i σ H hi p;by_cases hlt:i<xs.length
 ·refine .inr ⟨⟨xs,xs[i],q,by simp[hlt]⟩,Pv (i+1),fun σ' H' p'=>⟨xs.length-(i+1),by omega,rfl,hlt,p'⟩,fun x H' y=>?_⟩;obtain⟨t,y,h1,h2,rfl,rfl⟩:=y;exact hs i y t σ _ (h2 xs q) p h1
 ·have e:i=xs.length:=by omega
  subst e;exact .inl ⟨⟨xs,q,ztm _⟩,hd σ H p⟩
def Itz(K:Frag)(a b:Addr):It :=
 ⟨fun i H=>∃ xs ys x y,SqL K H a xs/\SqL K H b ys/\xs[i]?=some x/\ys[i]?=some y,fun i H x H'=>∃ p y z,H p=none/\(∀ xs,SqL K H a xs->xs[i]?=some y)/\(∀ ys,SqL K H b ys->ys[i]?=some z)/\x=.ref p/\H'=upd H p (.tup [y,z]),
  fun i H=>∃ xs ys,SqL K H a xs/\SqL K H b ys/\(xs.length<=i\/ys.length<=i)⟩
theorem zeo{P:Program}{w:World}{K:Frag}{elts:List Expr}{k:Nat}{tp:Pos}(l1 l2 z TI TO i1 i2:Addr)(hz:ZipApart z TI TO i1 i2 l1 l2):Dd P w K (.Tuple elts k tp) (Itz K l1 l2) [z,TO,i1,i2,TI] z
  (fun i h=>IsZip h z TI TO Value.none/\IsPair h TI (Value.ref i1) (Value.ref i2)/\(∃ a b,IsPair h TO a b)/\h.IsListIter i1 l1 i/\h.IsListIter i2 l2 i) where
 mem:=by simp
 obj:=fun i h st b hb=>by
  obtain⟨h1,h2,⟨a,b',h3⟩,h4,h5⟩:=st;have e:b=z\/b=TO\/b=i1\/b=i2\/b=TI:=by simpa using hb
  rcases e with rfl|rfl|rfl|rfl|rfl
  ·exact⟨_,h1,fun v z=>by cases z⟩
  ·exact⟨_,h3,fun v z=>by cases z⟩
  ·obtain⟨o,e,c,d⟩:=h4;exact⟨o,e,fun v z=>by rw[d] at z;cases z⟩
  ·obtain⟨o,e,c,d⟩:=h5;exact⟨o,e,fun v z=>by rw[d] at z;cases z⟩
  ·exact⟨_,h2,fun v z=>by cases z⟩
 keep:=fun i h h' st k=>by
  obtain⟨h1,h2,⟨a,b',h3⟩,h4,h5⟩:=st;exact⟨k z (by simp) _ h1,k TI (by simp) _ h2,⟨a,b',k TO (by simp) _ h3⟩,h4.at fun o q=>k i1 (by simp) o q,h5.at fun o q=>k i2 (by simp) o q⟩
 item:=by
  intro X hP hw hK hc i pins s σ H E I hf st hg;subst hP hw hK;obtain⟨xs,ys,x,y,hq,hq2,hx,hy⟩:=hg;obtain⟨its,rv,p,_⟩:=I.list hq;obtain⟨its2,rv2,p2,_⟩:=I.list hq2;obtain⟨u,hu,ru⟩:=rv.get hx;obtain⟨u2,hu2,ru2⟩:=rv2.get hy;obtain⟨h1,h2,⟨a,b',h3⟩,h4,h5⟩:=id st;refine wpAny_pyNext_zip_item hz h1 h2 h3 h4 h5 p.isList p2.isList (x:=u) (y:=u2) (by simpa using hu) (by simpa using hu2) fun h' o1 o2 o3 o4 o5 o6 o7=>?_;refine⟨_,rfl,wpAny_letOwnedTupleGo_zip o1 fun h'' e1 sb=>?_⟩;have lt:∀ b o,s.heap.get? b=some o->b≠s.heap.objs.size:=fun b o q=>zt2 (Heap.lt_size q);have kk:∀ b o,b∉[z,TO,i1,i2,TI]->s.heap.get? b=some o->h''.get? b=some o:=fun b o hb q=>by
   have hb':b≠z/\b≠TO/\b≠i1/\b≠i2/\b≠TI:=by simpa using hb
   exact(sb.2 b hb'.1).trans (o7 b o hb'.1 hb'.2.1 hb'.2.2.1 hb'.2.2.2.1 q)
  have new:h''.get? s.heap.objs.size=some { cls:=Value.type "tuple",data:=Data.seq #[u,u2] }:=(sb.2 _ (Ne.symm (lt _ _ h1))).trans o5;refine⟨.ref s.heap.objs.size,_,I.turnLay (t':=s.toks) (o:=.tup [x,y]) hf kk (ztm _) ⟨?_,_,.cons ru (.cons ru2 .nil),⟨_,new,rfl,_,rfl⟩⟩,rfl,⟨_,x,y,I.hok.fresh (ztm _),fun zs hy'=>by rw[I.list_inj hy' hq];exact hx,fun zs hy'=>by rw[I.list_inj hy' hq2];exact hy,rfl,rfl⟩,
   ⟨e1,(sb.2 _ hz.TIz).trans (o7 _ _ hz.TIz hz.TITO hz.TIi1 hz.TIi2 h2),⟨_,_,(sb.2 _ hz.TOz).trans o2⟩,o3.at fun o q=>(sb.2 _ hz.i1z).trans q,o4.at fun o q=>(sb.2 _ hz.i2z).trans q⟩,fun b hb=>?_⟩
  ·show 2<=sizeLine;rw[sizeLine_eq];decide
  ·have hne:b≠s.heap.objs.size:=by
    have e:b=z\/b=TO\/b=i1\/b=i2\/b=TI:=by simpa using hb
    rcases e with rfl|rfl|rfl|rfl|rfl
    ·exact lt _ _ h1
    ·exact lt _ _ h3
    ·obtain⟨o,q,_⟩:=h4;exact lt _ _ q
    ·obtain⟨o,q,_⟩:=h5;exact lt _ _ q
    ·exact lt _ _ h2
   rw[Zi hne];exact(hf b hb).1
 done:=by
  intro X hP hw hK hc i pins s σ H E I hf st hg;subst hP hw hK;obtain⟨xs,ys,hq,hq2,hx⟩:=hg;obtain⟨its,rv,p,_⟩:=I.list hq;obtain⟨its2,rv2,p2,_⟩:=I.list hq2;obtain⟨h1,h2,⟨a,b',h3⟩,h4,h5⟩:=st;have hl:=rv.length;have hl2:=rv2.length;exact wpAny_pyNext_zip_end (I.ok.hd hc) hz h1 h2 h3 h4 h5 p.isList p2.isList (hx.imp (fun z=>by simp;omega) fun z=>by simp;omega) fun h' eb=>⟨rfl,I.turnedL (t':=s.toks) hf fun b o hb q=>by
   have hb':b≠z/\b≠TO/\b≠i1/\b≠i2/\b≠TI:=by simpa using hb
   exact eb b o hb'.1 hb'.2.1 hb'.2.2.1 hb'.2.2.2.1 q⟩
 self:=fun _ _ _ _ _ st h=>wpAny_pyIter_zip st.1 h
inductive zkk(K:Frag)(R:It->Hp->Prop)(vs:List V)(H1:Hp):Prop where
 | mk(a)(b)(_:vs=[.ref a,.ref b])(_:(∃ xs,SqL K H1 a xs))(_:(∃ ys,SqL K H1 b ys))(_:R (Itz K a b) H1)
def zk5(K:Frag)(ta:TA):TI:=fun σ H R=>ta σ H fun vs H1=>zkk K R vs H1
theorem zix{X:Cx}{K:Frag}{elts:List Expr}{k:Nat}{tp:Pos}{a b:Expr}{ta:TA}{p pos:Pos}(hK:X.K=K)(hg:Gl X "zip")(hm:X.mg "zip"=none)(ha:PA X [a,b] ta)(hs:starEach [a,b] X.env=[(false,eval a X.env),(false,eval b X.env)]:=by rfl)(hs2:starEach [b] X.env=[(false,eval b X.env)]:=by rfl):PI X (.Tuple elts k tp) (.Call (.Name "zip" p) [a,b] [] pos) (zk5 K ta):=by
 subst hK;intro pins s σ H R I h;refine Call_ (Pp I hg hm boot_zip (PyProof.Rows.callWith_type1 (thn (ha pos pins s σ H _ I h) fun us s1 ⟨vs,H1,I1,r1,q1⟩=>?_) (by rw[hs,hs2]) (by rw[hs2];rfl)));obtain⟨a,b,e,⟨xs,hq⟩,⟨ys,hq2⟩,q⟩:=q1;subst e;cases r1 with
 | cons r rr =>
   obtain⟨u,rfl,ru⟩:=Sa rr;cases r;cases ru;obtain⟨its,rv,pl,hz⟩:=I1.list hq;obtain⟨its2,rv2,pl2,hz2⟩:=I1.list hq2;have lt1:@LT.lt Nat _ a s1.heap.objs.size:=by obtain⟨_,e,_⟩:=pl.isList;exact Heap.lt_size e
   have lt2:@LT.lt Nat _ b s1.heap.objs.size:=by obtain⟨_,e,_⟩:=pl2.isList;exact Heap.lt_size e
   refine call_zip_2 pl.isList pl2.isList fun h' e1 e2 e3 e4 e5 e6 e7=>?_;refine wpAny_pyIter_zip e1 ?_;refine⟨_,[s1.heap.objs.size+4,s1.heap.objs.size+3,s1.heap.objs.size,s1.heap.objs.size+1,s1.heap.objs.size+2],_,_,H1,rfl,I1.kept (t':=s1.toks) e7,zeo a b _ _ _ _ _ ?_,⟨e1,e2,⟨_,_,e3⟩,e4,e5⟩,fun c hb=>?_,q⟩
   ·refine⟨?_,?_,?_,?_,?_,?_,?_,?_,?_,?_,?_,?_,?_,?_,?_,?_,?_,?_⟩<;>(show @Ne Nat _ _;omega)
   have e:c=s1.heap.objs.size+4\/c=s1.heap.objs.size+3\/c=s1.heap.objs.size\/c=s1.heap.objs.size+1\/c=s1.heap.objs.size+2:=by simpa using hb
   have hle:s1.heap.objs.size<=c:=by rcases e with rfl|rfl|rfl|rfl|rfl<;>omega
   exact I1.fpOk hle (I1.hok.fresh hle)
section
variable{X:Cx}{pins:List (Addr×Obj)}{σ:List (Option V)}{H H':Hp}{s:Shared}{h':Heap}
theorem Inv.freeze(I:Inv X pins σ H s)(e:H a=some (.dK kvs))(ho:s.heap.get? a=some o):Inv X pins σ (upd H a (.frz o (.dK kvs))) s:=by
 have na:∀ b u,H b=some u->u≠.dK kvs->b≠a:=fun b u q n z=>by subst z;rw[q] at e;exact n (Option.some.inj e)
 refine I.un (h':=s.heap) (t':=s.toks) ⟨fun b o q _ _ _=>q,fun b o q _ _ _=>⟨o.slots,q⟩,fun b o q n _=>?_,fun b o q _=>⟨o,q⟩,fun b ys q=>?_,fun b o v q=>?_,fun b ps q=>⟨#[],?_⟩⟩ fun b u q=>?_
 ·rw[Zi (fun z=>by subst z;rw[n] at e;cases e)];exact n
 ·rw[Zi (na b _ q fun z=>nomatch z)];exact q
 ·rw[Zi (na b _ q fun z=>nomatch z)];exact q
 ·rw[Zi (na b _ q fun z=>nomatch z),q];simp
 ·have stay:∀ {b u},Y3 X.prog X.w H s.heap b u->Y3 X.prog X.w (upd H a (.frz o (.dK kvs))) s.heap b u:=fun {b u} k=>k.stay (fun _ _ _ q=>q) (fun c q=>by rw[Zi (na c _ q fun z=>nomatch z)];exact q) fun c _ q=>by rw[Zi (na c _ q fun z=>nomatch z)];exact q
  by_cases hb:b=a
  ·subst hb;rw[Zc] at q;cases q;exact⟨ho,stay (I.hok b _ e)⟩
  ·rw[Zi hb] at q;exact stay (I.hok b u q)
end
def Itk(a:Addr)(o:Obj)(kvs:List (Key×V)):It :=
 ⟨fun i H=>H a=some (.frz o (.dK kvs))/\i<kvs.length,fun i H x H'=>H'=H/\∃ p,kvs[i]?=some p/\x=kV p.1,fun i H=>H a=some (.frz o (.dK kvs))/\kvs.length<=i⟩
theorem zep(I:Inv X pins σ H s)(e:H a=some (.frz o (.dK kvs))):∃ vs,KV kvs vs/\∃ es ep,o.data=.dict es ep/\s.heap.DictAt (Yi X.prog X.w) a vs ep:=by
 obtain⟨h1,hz,hm,vs,kv,o',es,ep,h2,h3,h4,h5⟩:=(show Y3 X.prog X.w H s.heap a (.frz o (.dK kvs)) from I.hok a _ e);rw[h1] at h2;cases h2;exact⟨vs,kv,es,ep,h4,o,es,h1,h3,h4,h5⟩
theorem zch{P:Program}{w:World}{K:Frag}{tg:Expr}(a it:Addr)(o:Obj)(kvs:List (Key×V))(es:Array DictEntry)(ep:Nat)(ho:o.data=.dict es ep):Dd P w K tg (Itk a o kvs) [it] it (fun i h=>h.IsKeyIter it a i kvs.length ep) where
 mem:=by simp
 obj:=fun i h st b hb=>by
  have e:b=it:=by simpa using hb
  subst e;obtain⟨o,e,c,d⟩:=st;exact⟨o,e,fun v z=>by rw[d] at z;cases z⟩
 keep:=fun i h h' st k=>by
  obtain⟨o,e,c,d⟩:=st;exact⟨o,k it (by simp) o e,c,d⟩
 item:=by
  intro X hP hw hK hc i pins s σ H E I hf st hg;subst hP hw hK;obtain⟨hq,hi⟩:=hg;obtain⟨vs,kv,es',ep',h1,h2⟩:=zep I hq;rw[ho] at h1;cases h1;obtain⟨f0,f1,f2,f3,f4,f5⟩:=hf it (by simp);have hl:kvs.length=vs.length:=KV.length kv;have hv:i<vs.length:=by omega
  obtain⟨⟨k,v⟩,hkv⟩:∃ kv,vs[i]'hv=kv:=⟨_,rfl⟩;rw[hl] at st;refine wpAny_pyNext_dict_item st h2 (k:=k) (v:=v) (by rw[ztb hv,hkv]) fun key h' hk st' sb=>?_;have I1:Inv X pins σ H { s with heap:=h' }:=I.turned (t':=s.toks) (fun b o hb e=>(sb.2 b hb).trans e) f0 f1 f3 f4 f5;obtain⟨o2,e2,c2,d2⟩:=id st';have ek:=congrArg (·[i]?) (KV.keys kv);simp only[ztj,ztb hv,ztb hi,hkv,zus] at ek;refine⟨key,rfl,zdk (s:={ s with heap:=h' }) e2 c2 d2 ⋯ ⟨kV (kvs[i]'hi).1,H,I1,?_,⟨rfl,_,ztb hi,rfl⟩,by rw[hl];exact st',fun b hb=>(hf b hb).1⟩⟩;have e3:(kvs[i]'hi).1=k:=Option.some.inj ek;rw[e3];rcases Yw hk with ⟨j,t,rfl,rfl⟩|⟨z,t,rfl,rfl⟩
  ·exact⟨t,rfl⟩
  ·exact⟨t,rfl⟩
 done:=by
  intro X hP hw hK hc i pins s σ H E I hf st hg;subst hP hw hK;obtain⟨hq,hi⟩:=hg;obtain⟨vs,kv,es',ep',h1,h2⟩:=zep I hq;rw[ho] at h1;cases h1;obtain⟨f0,f1,f2,f3,f4,f5⟩:=hf it (by simp);have hl:kvs.length=vs.length:=KV.length kv;rw[hl] at st;exact wpAny_pyNext_dict_end (I.ok.hd hc) st h2 (List.getElem?_eq_none ⋯) fun h' eb=>⟨rfl,I.turned (t':=s.toks) (fun b o hb e=>eb b o hb e) f0 f1 f3 f4 f5⟩
 self:=fun _ _ _ _ _ st h=>wpAny_pyIter_keyiter st h
inductive ziy(R:It->Hp->Prop)(x:V)(H1:Hp):Prop where
 | mk(a)(kvs)(_:x=.ref a)(_:H1 a=some (.dK kvs))(_:∀ o,R (Itk a o kvs) (upd H1 a (.frz o (.dK kvs))))
def zkl(tl:TE):TI:=fun σ H R=>tl σ H fun x H1=>ziy R x H1
theorem zgn{X:Cx}{tg:Expr}{l:Expr}{tl:TE}(hl:PE X l tl):PI X tg l (zkl tl):=by
 intro pins s σ H R I h;refine thn (hl pins s σ H _ I h) fun v s1 ⟨x,H1,I1,r1,q1⟩=>?_;obtain⟨a,kvs,e,hq,q⟩:=q1;subst e;cases r1;obtain⟨hz,hm,vs,kv,o,es,ep,h2,h3,h4,h5⟩:=(show Y3 X.prog X.w H1 s1.heap a (.dK kvs) from I1.hok a _ hq);have hl:kvs.length=vs.length:=KV.length kv;have I2:=I1.freeze hq h2;refine wpAny_pyIter_dict hm ⟨o,es,h2,h3,h4,h5⟩ ?_;refine⟨s1.heap.objs.size,[s1.heap.objs.size],_,_,_,rfl,I2.kept (t':=s1.toks) fun b o e=>Heap.get?_push_of_some _ e,zch a _ o kvs es ep h4,⟨_,Heap.get?_push_size _ rfl,rfl,by rw[hl];rfl⟩,fun b hb=>?_,q o⟩;have e:b=s1.heap.objs.size:=by simpa using hb
 subst e;exact I2.fpOk (ztm _) (I2.hok.fresh (ztm _))
theorem zeq{a:Addr}{o:Obj}{kvs:List (Key×V)}{g:TG}{tb:TS}{D:Oz}{σ:St}{H:Hp}(Pv:Nat->St->Hp->Prop)(h0:Pv 0 σ H)(hl:∀ i σ H,i<=kvs.length->Pv i σ H->H a=some (.frz o (.dK kvs)))
  (hs:∀ i k v σ H,kvs[i]?=some (k,v)->Pv i σ H->g (kV k) σ H fun σ2 H2=>tb { D with nx:=Pv (i+1),ct:=Pv (i+1),bk:=D.nx } σ2 H2) (hd:∀ σ H,Pv kvs.length σ H->D.nx σ H) :
  ∃ W:Nat->Nat->St->Hp->Prop,(∃ m,W 0 m σ H)/\∀ i m σ H,W i m σ H ->
    ((Itk a o kvs).stop i H/\D.nx σ H)\/((Itk a o kvs).go i H/\∃ N:St->Hp->Prop,(∀ σ' H',N σ' H'->∃ m',m' < m/\W (i+1) m' σ' H')/\∀ x H',(Itk a o kvs).yld i H x H'->g x σ H' fun σ2 H2=>tb { D with nx:=N,ct:=N,bk:=D.nx } σ2 H2):=by
 refine⟨fun i m σ H=>m=kvs.length-i/\i<=kvs.length/\Pv i σ H,⟨kvs.length,by simp,zt4 _,h0⟩,?_⟩;rintro i m σ H ⟨rfl,hi,p⟩;have q:=hl i σ H hi p;by_cases hlt:i<kvs.length
 ·refine .inr ⟨⟨q,hlt⟩,Pv (i+1),fun σ' H' p'=>⟨kvs.length-(i+1),by omega,rfl,hlt,p'⟩,fun x H' y=>?_⟩;obtain⟨e,⟨k,v⟩,y,rfl⟩:=y;subst e;exact hs i k v σ _ y p
 ·have e:i=kvs.length:=by omega
  subst e;exact .inl ⟨⟨q,ztm _⟩,hd σ H p⟩
theorem zci(hc:X.calm=true):W8 X (.builtin "max") (fun xs H Q=>∃ (l:Addr) (kvs:List (Key×V)) (ns:List Int),xs=[.ref l]/\Rd H l (.dK kvs)/\kvs.map (·.1)=ns.map inl/\0<ns.length/\∀ M,M∈ns->(∀ a∈ns,a<=M)->Q (.int M) H):=by
 intro pins s σ H xs us Q I r h;obtain⟨l,kvs,ns,rfl,hl,hns,hpos,q⟩:=h;obtain⟨u,rfl,ru⟩:=Sa r;cases ru;obtain⟨hz,hm,vs,kv,o,es,ep,h2,h3,h4,h5⟩:=Rw I.hok hl;have hlen:vs.length=ns.length:=by
  have e1:=KV.length kv;have e2:=congrArg List.length hns;rw[zta,zta] at e2;omega
 have hlt:l<s.heap.objs.size:=Heap.lt_size h2;have da:s.heap.DictAt (Yi X.prog X.w) l vs ep:=⟨o,es,h2,h3,h4,h5⟩;have val:∀ (i:Nat) (v:Value),(∃ k y,vs[i]?=some (k,y)/\(Yi X.prog X.w).is k v=true)->∃ t,v=.int (ns.getD i 0) t:=fun i v ⟨k,y,hk,hv⟩=>by
  have e1:=congrArg (·[i]?) (KV.keys kv);have e2:=congrArg (·[i]?) hns;simp only[ztj,hk,zus] at e1 e2;rw[e1] at e2;have hi:i<ns.length:=by
   rw[<- hlen];exact(ztd.mp hk).1
  rw[ztb hi] at e2;have e3:k=inl (ns[i]'hi):=Option.some.inj e2;have e4:ns.getD i 0=ns[i]'hi:=by rw[zt1,ztb hi];rfl
  rw[e4];rcases Yw hv with ⟨j,t,rfl,rfl⟩|⟨z,t,rfl,rfl⟩
  ·cases e3;exact⟨t,rfl⟩
  ·cases e3
 refine call_max_walk (wpAny_pyIter_dict hm da ?_);refine⟨s.heap.objs.size,[s.heap.objs.size,l],[s.heap.objs.size],vs.length,_,_,_,rfl,Walks.dictKeys (knd:=Yi X.prog X.w) (A:=X.A.in1) (I.ok.hd hc) _ l (zt2 hlt) vs ep,⟨⟨_,Heap.get?_push_size _ rfl,rfl,rfl⟩,da.push _⟩,fun b hb=>?_,by omega,CmpOf.ints_gt (fun i=>ns.getD i 0) (fun i v hv=>val i v hv),fun v h' tk hP hk=>?_⟩
 ·show b<(s.heap.push _).objs.size;rw[Heap.size_push];rcases ztg.mp hb with rfl|hb
  ·exact zvn _
  ·rcases ztg.mp hb with rfl|hb
   ·exact zu7 hlt
   ·cases hb
 ·obtain⟨h1,h2⟩:=argBest_gt (fun i=>ns.getD i 0) (vs.length-1);obtain⟨t,rfl⟩:=val _ v hP;rw[hlen] at h1 h2 ⊢;generalize argBest (fun i j=>decide ((fun i=>ns.getD i 0) i>(fun i=>ns.getD i 0) j)) (ns.length-1)=b at h1 h2 ⊢;have hb:b<ns.length:=by omega
  have eg:∀ (k:Nat) (hk:k<ns.length),ns.getD k 0=ns[k]'hk:=fun k hk=>by rw[zt1,ztb hk];rfl
  refine⟨.int (ns.getD b 0),H,I.kept fun c o e=>?_,⟨_,rfl⟩,q _ (by rw[eg b hb];exact zue hb) fun x hx=>?_⟩
  ·refine hk c o (fun hm=>?_) (Heap.get?_push_of_some _ e);rw[zte.mp hm] at e;exact zun _ (Heap.lt_size e)
  ·obtain⟨k,hk',rfl⟩:=zuk hx;have:=h2 k ⋯;show ns[k]<=_;rw[<- eg k hk'];exact this
theorem Pz(I:Nat->Shared->Prop)
  (turn:∀ (n:Nat) (s:Shared),I n s->wpAny (model prog w) A (pyNext it) (fun r s₁=>match r with
   | none=>R (.ok .next) s₁
   | some v=>wpAny (model prog w) A (letOwnedTupleGo target it v) (fun _ s₁'=>wpAny (model prog w) A (assign target env v) (fun _ s₂=>wpAny (model prog w) A (forIn ifs true fun c r=>if r=true then do let ok <- isTrue c env (eval c env);pure (ForInStep.yield ok) else pure (ForInStep.yield r)) (fun ok s₃=>if ok=true then wpAny (model prog w) A (eval elt env) (fun x s₄=>wpAny (model prog w) A (call (.builtin "list.append") [acc,x]) (fun _ s₅=>∃ m,m<n/\I m s₅) (notedBy (model prog w) A env fun e s'=>R (.error e) s') s₄) (notedBy (model prog w) A env fun e s'=>R (.error e) s') s₃ else ∃ m,m<n/\I m s₃) (notedBy (model prog w) A env fun e s'=>R (.error e) s') s₂) (notedBy (model prog w) A env fun e s'=>R (.error e) s') s₁') (notedBy (model prog w) A env fun e s'=>R (.error e) s') s₁) (notedBy (model prog w) A env fun e s'=>R (.error e) s') s)
  (n:Nat) (h:I n s):codeAny (model prog w) A (.compLoop (.ListComp elt [⟨target,iter,ifs,0⟩] scope pos) 0 it acc env) R s:=by
 refine codeAny_loop rfl I (fun n s hI=>?_) n h;refine wpAny_noted ?_;rw[compTurn_list];refine wpAny_bind (wpAny_standAt (wpAny_bind (wpAny_mono (turn n s hI) (fun r s₁ h₁=>?_) fun _ _ z=>z)));cases r with
 | none=>exact wpAny_pure h₁
 | some v =>
   refine wpAny_bind (wpAny_mono h₁ (fun _ s₁' h₂=>wpAny_bind (wpAny_mono h₂ (fun _ s₂ h₃=>wpAny_bind (wpAny_mono h₃ (fun ok s₃ h₄=>?_) fun _ _ z=>z)) fun _ _ z=>z)) fun _ _ z=>z);cases ok with
   | false =>
     simp only[zu3,if_false] at h₄ ⊢;exact wpAny_pure ⟨rfl,h₄⟩
   | true =>
     simp only[if_true] at h₄ ⊢;refine wpAny_bind (wpAny_bind (wpAny_mono h₄ (fun x s₄ h₅=>wpAny_bind (wpAny_mono h₅ (fun _ s₅ h₆=>wpAny_pure (wpAny_pure ⟨rfl,h₆⟩)) fun _ _ z=>z)) fun _ _ z=>z))
def cs0(xo:List Str)(js:List Nat)(σ:St):St:=(xo.map fun _=>none)++js.map fun j=>(σ[j]?).getD none
def Q0(xo:List Str)(js:List Nat)(σ σ2:St):Prop:=∃ os:St,os.length=xo.length/\σ2=os++js.map fun j=>(σ[j]?).getD none
theorem Q0.weak(o:Q0 xo js σ σ2)(I:Inv X pins σ2 H s):Inv X pins (cs0 xo js σ) H s:=by
 obtain⟨os,hl,rfl⟩:=o;refine I.weak (by unfold cs0;simp[hl]) fun i v e=>?_;unfold cs0 at e;by_cases hi:i<xo.length
 ·rw[zt9 (by rw[zta];exact hi),ztj,ztb hi] at e;cases e
 ·rw[zt6 (by rw[zta];omega),zta] at e;rw[zt6 ⋯,hl];exact e
def Af(J:It)(xo:List Str)(js:List Nat)(g:TG)(tt:TT)(te:TE)(σ:St)(H:Hp)(Q:VK):Prop:=∃ W:Nat->Nat->List V->Hp->Prop,(∃ m,W 0 m [] H)/\∀ i m ys H,W i m ys H ->
 (J.stop i H/\ys.length<=sizeLine/\∀ p,H p=none->Q (.ref p) (upd H p (.lst ys))) \/
 (J.go i H/\ys.length<sizeLine/\∃ N:List V->Hp->Prop,(∀ ys' H',N ys' H'->∃ m',m' < m/\W (i+1) m' ys' H')/\∀ x H',J.yld i H x H'->g x (cs0 xo js σ) H' fun σ2 H1=>Q0 xo js σ σ2/\tt σ2 H1 fun b H2=>if b=true then te σ2 H2 fun y H3=>N (ys++[y]) H3 else N ys H2)
def ziz(wi:TI)(xo:List Str)(js:List Nat)(g:TG)(tt:TT)(te:TE):TE:=fun σ H Q=>wi σ H fun J H1=>Af J xo js g tt te σ H1 Q
section
variable{X:Cx}{elt iter tg:Expr}{xo:List Str}{pos:Pos}{ifs:List Expr}{scope:Scope}{cl:List (Str×Addr)}{ys:List Str}{js:List Nat}{g:TG}
structure O8(X:Cx)(xo:List Str)(scope:Scope)(cl:List (Str×Addr))(ys:List Str)(js:List Nat):Prop where
 clos:closureFor scope X.env=pure cl
 kind:scope.kind=.function
 names:∀ y∈scope.names,y.2=.local->scope.names.lookup y.1=some .local
 nocell:∀ y∈scope.names,y.2≠.cell
 at_:js.map (X.N[·]?)=ys.map some
 free:Iv (fun y=>X.env.kindOf y=some .cell/\(relabel scope X.env).names.lookup y=some .cell/\cl.lookup y=X.env.cells.lookup y) ys
 only:Iv (fun p=>X.env.cells.lookup p.1=some p.2) cl
 vis:∀ y∈scope.names,y.2=.free->y.1∈ys
theorem O8.same(c:O8 X xo scope cl ys js)(h:cl.lookup y=some a):X.env.cells.lookup y=some a:=c.only.get (PySem.mem_of_lookup h)
theorem zer(c:O8 X xo scope cl ys js)(I:Inv X pins σ H s)(hf:∀ b∈fp,FpOk X pins H b)(hex:∀ b∈fp,b<s.heap.objs.size)(hC:s.heap.objs.size<=C) :
  (Yt X pn Nc scope cl s H fp C).Ok where
 mod:=I.ok.mod
 kind:=c.kind
 glob:=I.ok.glob
 blt:=I.ok.blt
 above:=hC
 inj:=fun y z a h1 h2=>I.ok.inj y z a (c.same h1) (c.same h2)
 has:=fun y h=>by
  obtain⟨k,m,q⟩:=O4 h;rcases q with rfl|rfl
  ·exact absurd rfl (c.nocell _ m)
  ·obtain⟨a1,a2,a3⟩:=c.free.get (c.vis _ m rfl);obtain⟨a,ha⟩:=I.ok.has y (.inl a1);exact⟨a,a3.trans ha⟩
 cab:=fun _ _ h=>by cases h
 hd:=I.ok.hd
 frames:=I.ok.frames
 stk:=.inl rfl
 exf:=fun b hb=>by
  obtain⟨f0,f1,f2,f3,f4,f5⟩:=hf b hb;exact⟨zt2 (zty (hex b hb) hC),fun y a h=>f4 y a (c.same h)⟩
 bs:=I.bs
 bsz:=zts I.ok.bsz I.sz
 noex:=fun b o q hb=>by
  obtain⟨f0,f1,f2,f3,f4,f5⟩:=hf b hb;rcases f3 with z|z
  ·exact I.ok.noex b o q z
  ·exact absurd (zty (Heap.lt_size (I.ok.bs b o q).1) z) (zun _)
 exfs:=fun b hb m=>by
  obtain⟨f0,f1,f2,f3,f4,f5⟩:=hf b hb;exact(ztg.mp (I.stkSub b m)).elim f1 f2
 funs:=I.stack
 frf:=I.stkFree
theorem zcj(c:O8 X xo scope cl ys js)(I:Inv X pins σ H s)(hf:∀ b∈fp,FpOk X pins H b)(hex:∀ b∈fp,b<s.heap.objs.size)(hC:s.heap.objs.size<=C)
  (hns:h1.Ns C m1) (old:∀ b o,s.heap.get? b=some o->h1.get? b=some o) :
  Inv (Yt X (X.pn++pins) (xo++ys) scope cl s H fp C) [] (cs0 xo js σ) H { s with heap:=h1,toks:=t1 }:=by
 obtain⟨m,hn,hl⟩:=I.loc;have jl:js.length=ys.length:=by have:=congrArg List.length c.at_;simpa using this
 refine⟨zer c I hf hex hC,rfl,I.bare,Un.kept old,⟨m1,hns,fun i y v e1 e2 e3=>?_⟩,fun y a h=>?_,I.hok.fresh hC,fun y a h=>I.freeC y a (c.same h),fun p hp=>?_,I.hok.kept old,by simp[jl,Yt,cs0]⟩
 ·have e2:=e2.resolve_right (Wf _);unfold cs0 at e2;by_cases hi:i<xo.length
  ·rw[zt9 (by rw[zta];exact hi),ztj,ztb hi] at e2;cases e2
  ·rw[zt6 (by rw[zta];omega),zta] at e2;have e1:ys[i-xo.length]?=some y:=by
    have e1:(xo++ys)[i]?=some y:=e1;rw[zt6 ⋯] at e1;exact e1
   generalize i-xo.length=k at e1 e2;rw[ztj] at e2;cases hj:js[k]? with
   | none=>rw[hj] at e2;cases e2
   | some j =>
     rw[hj] at e2;have ej:X.N[j]?=some y:=by
      have q:=congrArg (·[k]?) c.at_;simp only[ztj,hj,e1,zus] at q;exact Option.some.inj q
     have ev:σ[j]?=some (some v):=by
      simp only[zus,Option.some.injEq] at e2;cases hσ:σ[j]? with
      | none=>rw[hσ] at e2;cases e2
      | some o=>rw[hσ] at e2;rw[show o=some v from e2]
     obtain⟨a1,a2,a3⟩:=c.free.get (ztn e1);obtain⟨u,r,l⟩:=hl j y v ej (.inl ev) (.inr (.inl a1));refine⟨u,r,.inr ⟨.inl a2,?_⟩⟩;rcases l with ⟨k1,_⟩|⟨_,b,e,z⟩
     ·rw[a1] at k1;cases k1
     ·obtain⟨o,ho,hd⟩:=z;exact⟨b,a3.trans e,o,old _ _ ho,hd⟩
 ·obtain⟨v,o,ho,hd⟩:=I.cell y a (c.same h);exact⟨v,o,old _ _ ho,hd⟩
 ·obtain⟨e,n,ne,nf,d⟩:=I.pin p (by simpa [Yt] using hp);refine⟨old _ _ e,n,zt2 (zty (Heap.lt_size e) hC),fun m=>?_,d⟩;exact(ztg.mp (I.stkSub _ m)).elim ne nf
theorem K5{pins:List (Addr×Obj)}{σ:St}{H:Hp}{s:Shared}{tt:TT}{te:TE}{it:Addr}{fp:List Addr}{tn:Nat->Heap->Prop}{J:It}{W:Nat->Nat->List V->Hp->Prop}{m0:Nat}{Q:VK}{E:Value->Shared->Prop}{RR:Value->Addr->Result->Shared->Prop}
  (hcm:X.calm=true) (c:O8 X xo scope cl ys js) (ht:∀ pn s₀ H₀ fp C,PTs (Yt X pn (xo++ys) scope cl s₀ H₀ fp C) ifs tt) (hgt:∀ pn s₀ H₀ fp C,PG (Yt X pn (xo++ys) scope cl s₀ H₀ fp C) tg g) (he:∀ pn s₀ H₀ fp C,PE (Yt X pn (xo++ys) scope cl s₀ H₀ fp C) elt te)
  (I:Inv X pins σ H s) (T:Dd X.prog X.w X.K tg J fp it tn) (st0:tn 0 s.heap) (hf:∀ b∈fp,FpOk X pins H b) (w0:W 0 m0 [] H)
  (turn:∀ i m ys H,W i m ys H->(J.stop i H/\ys.length<=sizeLine/\∀ p,H p=none->Q (.ref p) (upd H p (.lst ys))) \/
   (J.go i H/\ys.length<sizeLine/\∃ N:List V->Hp->Prop,(∀ ys' H',N ys' H'->∃ m',m' < m/\W (i+1) m' ys' H')/\∀ x H',J.yld i H x H'->g x (cs0 xo js σ) H' fun σ2 H1=>Q0 xo js σ σ2/\tt σ2 H1 fun b H2=>if b=true then te σ2 H2 fun y H3=>N (ys++[y]) H3 else N ys H2))
  (hRR:∀ D C s' m,s'.heap.Ns C m->(∀ h',Heap.SameBut C s'.heap h'->∃ H',Inv X pins σ H' { s' with heap:=h' }/\Q (.ref D) H')->(∃ H',Inv X pins σ H' s'/\Q (.ref D) H'/\H' C=none)->s.heap.objs.size<=C->RR (.ref D) C (.ok .next) s') :
  wpAny (model X.prog X.w) X.A (newList []) (fun acc s₃=>wpAny (model X.prog X.w) X.A (newFunctionEnv scope X.env.globals cl [] X.env.qual none .none (some X.env)) (fun cenv s₄ =>
   codeAny (model X.prog X.w) X.A (.compStart (.ListComp elt [⟨tg,iter,ifs,0⟩] scope pos) 0 (.ref it) acc { cenv with scope:=relabel scope X.env }) (RR acc cenv.locals) s₄) E s₃) E s:=by
 refine wpAny_newObj_type (wpAny_newFunctionEnv c.nocell (by intro y hy;simp at hy) (fun h₁ hns₁ hsb₁=>?_) c.kind);dsimp only at hns₁ hsb₁ ⊢;generalize hH2:s.heap.push { cls:=.type "list",dict:=none,data:=.seq ([]:List Value).toArray }=G at hns₁ hsb₁ ⊢;generalize hD:s.heap.objs.size=D;have hC:G.objs.size=D+1:=by rw[<- hH2,Heap.size_push,hD]
 generalize hCe:G.objs.size=C at hns₁ hsb₁ ⊢;have hCD:C=D+1:=hCe.symm.trans hC;have hDC:D≠C:=by omega
 have below:∀ b o,s.heap.get? b=some o->b<D:=fun b o e=>by rw[<- hD];exact Heap.lt_size e
 have ltC:∀ b:Addr,b<D->b≠C:=fun b h=>zt2 (hCD▸zu7 h);have ltD:∀ b:Addr,b<D->b≠D:=fun b h=>zt2 h;have old:∀ b o,s.heap.get? b=some o->h₁.get? b=some o:=fun b o e=>hsb₁.extBut b o (ltC b (below b o e)) (Heap.get?_push_of_some _ (hH2▸Heap.get?_push_of_some _ e));have hacc:h₁.PlainList D #[]:=⟨_,hsb₁.extBut _ _ hDC (Heap.get?_push_of_some _ (by rw[<- hH2,<- hD];exact Heap.get?_push_size _ rfl))⟩;have hex:∀ b∈fp,b<s.heap.objs.size:=fun b hb=>by
  obtain⟨o,e,_⟩:=T.obj _ _ st0 b hb;exact Heap.lt_size e
 have lt0:∀ b∈fp,b<D:=fun b hb=>by rw[<- hD];exact hex b hb
 have freshD:s.heap.get? D=none:=Heap.get?_none_of_le ⋯;have freshC:s.heap.get? C=none:=Heap.get?_none_of_le ⋯;have frE:∀ {H':Hp},(∀ b∈fp,H' b=none)->∀ {o:Obj} {b:Addr},b∈fp->FpOk (Yt X (X.pn++pins) (xo++ys) scope cl s H fp C) [(D,o)] H' b:=fun {H'} hn {o b} hb=>by
  obtain⟨f0,f1,f2,f3,f4,f5⟩:=hf b hb;refine⟨hn b hb,?_,?_,.inl hb,fun y a h=>f4 y a (c.same h),fun p hp=>?_⟩
  ·exact ltC b (lt0 b hb)
  ·exact fun m=>(ztg.mp (I.stkSub b m)).elim f1 f2
  ·rcases ztl.mp hp with z|z
   ·exact f5 p z
   ·rw[zte.mp z];exact Ne.symm (ltD b (lt0 b hb))
 have pinD:∀ {σ':St} {H':Hp} {s':Shared} {o:Obj},Inv (Yt X (X.pn++pins) (xo++ys) scope cl s H fp C) [] σ' H' s'->s'.heap.get? D=some o->(∀ v,o.data≠.cell v)->H' D=none->Inv (Yt X (X.pn++pins) (xo++ys) scope cl s H fp C) [(D,o)] σ' H' s':=fun {σ' H' s' o} Ic e nc n =>
  Ic.pins_of fun p hp=>by
   rw[zte.mp hp];refine⟨e,n,hDC,fun m=>?_,nc⟩;obtain⟨_,ob,hob,_⟩:=I.stack.mem m;exact absurd (below D ob hob) (zun _)
 have loop:∀ s₃:Shared,s₃={ s with heap:=h₁,toks:=s.toks+([]:List (Str×Value)).length } ->
   codeAny (model X.prog X.w) X.A (.compLoop (.ListComp elt [⟨tg,iter,ifs,0⟩] scope pos) 0 (.ref it) (.ref D) (compEnvC scope cl C X.env)) (RR (.ref D) C) s₃:=by
  rintro s₃ rfl;have I0:=zcj (t1:=s.toks+([]:List (Str×Value)).length) c I hf hex (by omega:s.heap.objs.size<=C) hns₁ old;refine Pz (fun n s'=>∃ i H' zs its,Inv (Yt X (X.pn++pins) (xo++ys) scope cl s H fp C) [] (cs0 xo js σ) H' s'/\tn i s'.heap/\(∀ b∈fp,H' b=none)/\s'.heap.PlainList D (its:List Value).toArray/\Vals zs its/\H' D=none/\W i n zs H') ?_ m0
   ⟨0,H,[],[],I0,T.keep _ _ _ st0 fun b hb o e=>old b o e,fun b hb=>(hf b hb).1,hacc,.nil,I.hok.fresh ⋯,w0⟩
  rintro n s3 ⟨i,H3,zs,its,I3,st3,fr3,⟨n3,pl3⟩,rv3,fD3,w3⟩;have I3':=pinD I3 pl3 (by intro v z;cases z) fD3;rcases turn i n zs H3 w3 with ⟨stop,hsz,fin⟩|⟨go,hsz,Nx,hNx,step⟩
  ·refine wpAny_mono (T.done (Yt X (X.pn++pins) (xo++ys) scope cl s H fp C) rfl rfl rfl hcm i _ s3 _ H3 (fun _ _=>False) I3' (fun b hb=>frE fr3 hb) st3 stop) (fun r s4 ⟨hr,I4⟩=>?_) fun _ _ z=>z.elim;subst hr;have plD:s4.heap.get? D=some _:=(I4.pin (D,{ cls:=Value.type "list",data:=.seq its.toArray n3 }) (ztx _ zt3)).1;obtain⟨m4,hn4,_⟩:=I4.loc;have okU:∀ h',(∀ b o,b≠C->s4.heap.get? b=some o->h'.get? b=some o)->Inv X pins σ (upd H3 D (.lst zs)) { s4 with heap:=h' }:=fun h' k1=>by
    have u4:Un (frs X.stack) fp H H3 s.heap s4.heap:=I4.base;have neC:∀ b o,s.heap.get? b=some o->b≠C:=fun b o e=>ltC b (below b o e);have neD:∀ b o,s.heap.get? b=some o->b≠D:=fun b o e=>ltD b (below b o e);have trD:∀ b u,H3 b=some u->b≠D:=fun b u e z=>by rw[z,fD3] at e;cases e
    have trC:∀ b u,H3 b=some u->b≠C:=fun b u e z=>by rw[z,show H3 C=none from I4.free] at e;cases e
    have un:Un (frs X.stack) fp H (upd H3 D (.lst zs)) s.heap h':=by
     refine⟨fun b o e n hb hx=>k1 b o (neC b o e) (u4.keep b o e n hb hx),fun b o e n hb hx=>?_,fun b o e n hx=>?_,fun b o e hx=>?_,fun b xs e=>?_,fun b ob u e=>?_,fun b ps e=>?_⟩
     ·obtain⟨sl,z⟩:=u4.slot b o e n hb hx;exact⟨sl,k1 b _ (neC b o e) z⟩
     ·rw[Zi (neD b o e)];exact u4.free b o e n hx
     ·obtain⟨o',z⟩:=u4.there b o e hx;exact⟨o',k1 b o' (neC b o e) z⟩
     ·have z:=u4.tups b xs e;rw[Zi (trD b _ z)];exact z
     ·have z:=u4.frzs b ob u e;rw[Zi (trD b _ z)];exact z
     ·obtain⟨more,z⟩:=u4.tbls b ps e;exact⟨more,by rw[Zi (trD b _ z)];exact z⟩
    refine I.call' (s':={ s4 with heap:=h' }) (ch:=fp) (show s4.os=s.os from I4.os) un (fun b u e=>?_) I4.bare fun b hb=>?_
    ·by_cases hb:b=D
     ·subst hb;rw[Zc] at e;cases e;exact⟨hsz,its,n3,rv3,k1 _ _ hDC plD⟩
     ·rw[Zi hb] at e;refine(I4.hok b u e).stay (fun d v hd q=>?_) (fun d q=>by rw[Zi (trD d _ q)];exact q) fun d xs q=>by rw[Zi (trD d _ q)];exact q
      rcases hd with z|z
      ·exact k1 d v (by rw[z];exact trC b u e) q
      ·exact k1 d v (trC d _ z) q
    ·obtain⟨f0,f1,f2,f3,f4,f5⟩:=hf b hb;exact⟨f3,f1,f4,f5⟩
   refine hRR D C s4 m4 hn4 (fun h' hs'=>⟨_,okU h' (fun b o hb e=>hs'.extBut b o hb e),fin D fD3⟩) ⟨_,okU s4.heap (fun _ _ _ e=>e),fin D fD3,?_⟩ ⋯
   ·rw[Zi (Ne.symm hDC)];exact I4.free
  ·refine wpAny_mono (T.item (Yt X (X.pn++pins) (xo++ys) scope cl s H fp C) rfl rfl rfl hcm i _ s3 _ H3 (fun _ _=>False) I3' (fun b hb=>frE fr3 hb) st3 go) (fun r s4 ⟨u,hr,h4⟩=>?_) fun _ _ z=>z.elim;subst hr;refine wpAny_mono h4 (fun _ s5 h5=>?_) fun _ _ z=>z.elim;obtain⟨xv,H5,I5,r5,y5,st5,fr5⟩:=h5;have I5':=I5.pinned (fun b hb=>frE fr5 hb) (T.obj _ _ st5);refine wpAny_mono (hgt _ _ _ _ _ _ s5 _ H5 xv u _ I5' r5 (step xv H5 y5)) (fun _ s6 ⟨σ6,H6,I6,own6,q6⟩=>?_) fun _ _ z=>z.elim;refine wpAny_mono (ht _ _ _ _ _ _ s6 _ H6 _ I6 q6) (fun ok s7 ⟨H7,I7,q7⟩=>?_) fun _ _ z=>z.elim;have keepF:∀ {σ8:St} {H8:Hp} {s8:Shared},Inv (Yt X (X.pn++pins) (xo++ys) scope cl s H fp C) ([(D,{ cls:=Value.type "list",data:=.seq its.toArray n3 })]++Nv fp s5.heap) σ8 H8 s8->tn (i+1) s8.heap/\(∀ b∈fp,H8 b=none)/\s8.heap.PlainList D its.toArray/\H8 D=none:=fun {σ8 H8 s8} I8=>by
    refine⟨T.keep _ _ _ st5 fun b hb o e=>(I8.pin (b,o) (ztx _ (ztx _ (So hb e)))).1,fun b hb=>?_,⟨n3,(I8.pin (D,_) (ztx _ zt3)).1⟩,(I8.pin (D,_) (ztx _ zt3)).2.1⟩;obtain⟨o,e,d⟩:=T.obj _ _ st5 b hb;exact(I8.pin (b,o) (ztx _ (ztx _ (So hb e)))).2.1
   have bare:∀ {σ8:St} {H8:Hp} {s8:Shared},Inv (Yt X (X.pn++pins) (xo++ys) scope cl s H fp C) ([(D,{ cls:=Value.type "list",data:=.seq its.toArray n3 })]++Nv fp s5.heap) σ8 H8 s8->Inv (Yt X (X.pn++pins) (xo++ys) scope cl s H fp C) [] σ8 H8 s8:=fun I8=>I8.pins_of fun _ z=>(nomatch z)
   cases ok with
   | false =>
     simp only[zu3,if_false] at q7 ⊢;obtain⟨m',hm',w7⟩:=hNx _ _ q7;obtain⟨a1,a2,a3,a4⟩:=keepF I7;exact⟨m',hm',i+1,H7,zs,its,own6.weak (bare I7),a1,a2,a3,rv3,a4,w7⟩
   | true =>
     simp only[if_true] at q7 ⊢;refine wpAny_mono (he _ _ _ _ _ _ s7 _ H7 _ I7 q7) (fun y s8 ⟨yv,H8,I8,r8,q8⟩=>?_) fun _ _ z=>z.elim;obtain⟨m',hm',w8⟩:=hNx _ _ q8;obtain⟨a1,a2,a3,a4⟩:=keepF I8;have szI:its.toArray.size<=sizeLine:=by rw[ztp,<- rv3.length];omega
     refine wpAny_list_append_plain (hsz:=szI) a3 fun h9 pl9 sb9=>?_;have I8b:=own6.weak (bare I8);refine⟨m',hm',i+1,H8,zs++[yv],its++[y],?_,T.keep _ _ _ a1 fun b hb o e=>(sb9.2 b (ltD b (lt0 b hb))).trans e,a2,by rw[List.push_toArray] at pl9;exact pl9,rv3.append (.cons r8 .nil),a4,w8⟩;refine I8b.turned (t':=s8.toks) (it:=D) (fun b o hb e=>(sb9.2 b hb).trans e) a4 hDC (.inr (show s.heap.objs.size<=D by omega)) (fun y' a h=>?_) fun p hp=>?_
     ·obtain⟨v,o,ho,_⟩:=I.cell y' a (c.same h);exact ltD a (below a o ho)
     ·obtain⟨e,_⟩:=I.pin p (by simpa [Yt] using hp);exact ltD _ (below _ _ e)
 exact codeAny_compStart_list (loop _ rfl) (T.self _ 0 _ _ _ (T.keep _ _ _ st0 fun b hb o e=>old b o e) (loop _ rfl))
variable{wi:TI}{tt:TT}{te:TE}
theorem K6(hcm:X.calm=true)(c:O8 X xo scope cl ys js)(hi:PI X tg iter wi)(ht:∀ pn s₀ H₀ fp C,PTs (Yt X pn (xo++ys) scope cl s₀ H₀ fp C) ifs tt)(hgt:∀ pn s₀ H₀ fp C,PG (Yt X pn (xo++ys) scope cl s₀ H₀ fp C) tg g)(he:∀ pn s₀ H₀ fp C,PE (Yt X pn (xo++ys) scope cl s₀ H₀ fp C) elt te)
  (hs:∀ x,foldedSetIterable iter X.env x=pure x:=by intro _;rfl):PE X (.ListComp elt [⟨tg,iter,ifs,0⟩] scope pos) (ziz wi xo js g tt te):=by
 intro pins s σ H Q I h;rw[eval_ListComp];refine wpAny_comprehension_free (use:=none) rfl hs c.clos c.kind c.names (thn (hi pins s σ H _ I h) fun v s1 h1=>thn h1 fun itv s2 h2=>?_);obtain⟨it,fp,tn,J,H2,e,I2,T,st2,f2,W,⟨m0,w0⟩,turn⟩:=h2;subst e;exact K5 (RR:=fun acc C=>compPost (model X.prog X.w) X.A X.xe none (EP X pins σ Q) acc C) hcm c ht hgt he I2 T st2 f2 w0 turn fun D C s' m hn hS _ _=>⟨m,hn,fun h' hs'=>let ⟨H',I',q⟩:=hS h' hs';⟨.ref D,H',I',rfl,q⟩⟩
end
end L2
namespace G
open PySem PySem.Spec PyProof.Rows L2
theorem G6:∀ (a b:List (Nat×Option Int)) (xs:List V),Yg (a++b) xs=Yg b (Yg a xs)
 | [],_,_=>rfl
 | (p,w) :: r,b,xs=>by rw[List.cons_append,Yg,Yg,G6 r b]
structure Kr(kvs:List (Key×V))(gs:List V):Prop where
 has:∀ (n:Int) (j:Nat),gs[j]?=some (.int n)->valV kvs (inl n:Key)=some (.int (j:Nat))
 not:∀ n:Int,(∀ j:Nat,gs[j]?≠some (.int n))->valV kvs (inl n:Key)=none
theorem Kr.iff(t:Kr kvs gs)(n:Int):(∃ j:Nat,gs[j]?=some (.int n)/\valV kvs (inl n:Key)=some (.int (j:Nat)))\/((∀ j:Nat,gs[j]?≠some (.int n))/\valV kvs (inl n:Key)=none):=by
 by_cases h:∃ j:Nat,gs[j]?=some (.int n)
 ·obtain⟨j,hj⟩:=h;exact .inl ⟨j,hj,t.has n j hj⟩
 ·have h':∀ j:Nat,gs[j]?≠some (.int n):=fun j hj=>h ⟨j,hj⟩;exact .inr ⟨h',t.not n h'⟩
inductive zaz(K:Frag)(vs:List V)(H:Hp)(Q:VK)(_:XK):Prop where
 | mk(b:Addr)(gs:List V)(_:vs=[.ref b])(_:H b=some (.lst gs))(_:(∀ x∈gs,oneV x))(_:(∀ (j k:Nat) (n:Int),gs[j]?=some (.int n)->gs[k]?=some (.int n)->j=k))(_:gs.length<=100)(_:∀ d kvs H',H' d=some (.dK kvs)->Kr kvs gs->Same H H'->H d=none->Q (.ref d) H')
structure Xr(H:Hp)(into:List (Key×V))(line:List Nat)(fr:Nat->Option (Nat×Int)):Prop where
 keys:into.map (·.1)=line.map fun q:Nat=>(inl (q:Int):Key)
 none:∀ q∈line,fr q=Option.none->valV into (inl (q:Int):Key)=some .non
 some:∀ q∈line,∀ par n,fr q=Option.some (par,n)->∃ t,valV into (inl (q:Int):Key)=Option.some (.ref t)/\H t=Option.some (.tup [.int (par:Nat),.int n])
theorem Xr.same(e:Same H H')(h:Xr H into line fr):Xr H' into line fr :=
 ⟨h.keys,h.none,fun q hq par n hf=>let ⟨t,a,b⟩:=h.some q hq par n hf;⟨t,a,e _ _ b⟩⟩
theorem Xr.len(h:Xr H into line fr):into.length=line.length:=by
 have:=congrArg List.length h.keys;rw[zta,zta] at this;exact this
theorem zes{into:List (Key×V)}{k:Key}:(valV into k).isSome=true↔k∈into.map Prod.fst:=by
 unfold valV;rw[Option.isSome_map,List.find?_isSome];constructor
 ·rintro⟨p,hp,e⟩;exact ztk.mpr ⟨p,hp,of_decide_eq_true e⟩
 ·intro h;obtain⟨p,hp,rfl⟩:=ztk.mp h;exact⟨p,hp,ztf rfl⟩
theorem Xr.has{H:Hp}{into:List (Key×V)}{line:List Nat}{fr:Nat->Option (Nat×Int)}(h:Xr H into line fr)(q:Nat):(valV into (inl (q:Int):Key)).isSome=true↔q∈line:=by
 rw[zes,h.keys];constructor
 ·intro z;obtain⟨q',h1,h2⟩:=ztk.mp z;have:(q':Int)=q:=inl.inj h2;have:q'=q:=by omega
  rw[<- this];exact h1
 ·intro hq;exact ztk.mpr ⟨q,hq,rfl⟩
inductive zet(K:Frag)(vs:List V)(H:Hp)(Q:VK)(_:XK):Prop where
 | mk(l d:Addr)(ls:List Addr)(rows:List (List Int))(kvs:List (Key×V))(gs:List V)(p:Nat)(_:vs=[.ref l,.ref d,.int p])(_:H l=some (.lst (ls.map V.ref)))(_:ILs H ls rows)(_:rows.length<=100)(_:H d=some (.dK kvs))(_:Kr kvs gs)(_:Ya rows gs)(_:p<rows.length)(_:∀ t into line dep fr H',H' t=some (.dK into)->Xr H' into line fr->Bfs rows gs p line dep->Done rows gs line dep line.length->Uy rows gs p line dep fr->(∀ q∈line,q<rows.length)->Same H H'->H t=none->Q (.ref t) H')
inductive G7(K:Frag)(vs:List V)(H:Hp)(Q:VK)(_:XK):Prop where
 | mk(l d:Addr)(r:List Int)(kvs:List (Key×V))(_:vs=[.ref l,.ref d])(_:H l=some (.lst (r.map V.int)))(_:H d=some (.dK kvs))(_:∀ w:Option Int,(∀ n,w=some n->n∈r/\valV kvs (inl n:Key)=none)->(w=none->∀ n∈r,(valV kvs (inl n:Key)).isSome=true)->Q (oV w) H)
inductive D5(K:Frag)(vs:List V)(H:Hp)(Q:VK)(_:XK):Prop where
 | mk(t:Addr)(q p:Nat)(w:Option Int)(rows:List (List Int))(gs:List V)(into:List (Key×V))(line:List Nat)(dep:Nat->Nat)(fr:Nat->Option (Nat×Int))(_:vs=[.ref t,.int q,oV w])(_:Rd H t (.dK into))(_:Xr H into line fr)(_:Uy rows gs p line dep fr)(_:dep p=0)(_:p∈line)(_:q∈line)(_:dep q<=100)(_:∀ lt ts st H',H' lt=some (.lst ts)->TupL H' ts (st.map Vt)->Ch rows gs p st q w->st.length=dep q+1->Same H H'->H lt=none->Q (.ref lt) H')
section
variable{rows:List (List Int)}{gs:List V}{p:Nat}{line:List Nat}{dep:Nat->Nat}{fr:Nat->Option (Nat×Int)}{H H':Hp}{into:List (Key×V)}
def Le(fr:Nat->Option (Nat×Int))(q:Nat)(x:Nat×Int):Nat->Option (Nat×Int):=fun y=>if y=q then some x else fr y
theorem P4:Le fr q x q=some x:=by unfold Le;rw[if_pos rfl]
theorem O9(h:y≠q):Le fr q x y=fr y:=by unfold Le;rw[if_neg h]
theorem Uy.app(F:Uy rows gs p line dep fr)(hn:q'∉line)(hp:p∈line)(hh:here∈line)(a:adjN rows gs here n q'):Uy rows gs p (line++[q']) (Ve dep q' (dep here+1)) (Le fr q' (here,n)):=by
 have ne:∀ x∈line,x≠q':=fun x hx z=>hn (by rw[<- z];exact hx);have old:∀ x∈line,Ve dep q' (dep here+1) x=dep x:=fun x hx=>by unfold Ve;rw[if_neg (ne x hx)]
 have new:Ve dep q' (dep here+1) q'=dep here+1:=by unfold Ve;rw[if_pos rfl]
 refine⟨by rw[O9 (ne p hp)];exact F.1,fun q hq hqp=>?_⟩;rcases ztl.mp hq with z|z
 ·obtain⟨par,m,h1,h2,h3,h4⟩:=F.2 q z hqp;exact⟨par,m,by rw[O9 (ne q z)];exact h1,zt7 _ h2,h3,by rw[old q z,old par h2];exact h4⟩
 ·rw[zte.mp z];exact⟨here,n,P4,zt7 _ hh,a,by rw[new,old here hh]⟩
theorem Xr.mono(e:∀ t xs,H t=Option.some (.tup xs)->H' t=Option.some (.tup xs))(h:Xr H into line fr):Xr H' into line fr :=
 ⟨h.keys,h.none,fun q hq par n hf=>let ⟨t,a,b⟩:=h.some q hq par n hf;⟨t,a,e _ _ b⟩⟩
theorem Xr.app(I:Xr H into line fr)(hn:q'∉line)(ht:H t=Option.some (.tup [.int (here:Nat),.int n])):Xr H (putK into (inl (q':Int)) (.ref t)) (line++[q']) (Le fr q' (here,n)):=by
 have ne:∀ x∈line,x≠q':=fun x hx z=>hn (by rw[<- z];exact hx);have hv:valV into (inl (q':Int):Key)=Option.none:=by
  cases e:valV into (inl (q':Int):Key) with
  | none=>rfl
  | some y=>exact absurd ((I.has q').mp (by rw[e];rfl)) hn
 have val:∀ x∈line,valV (putK into (inl (q':Int)) (.ref t)) (inl (x:Int):Key)=valV into (inl (x:Int):Key):=fun x hx=>by
  rw[Va,if_neg (fun z=>ne x hx (by have:=inl.inj z;omega))]
 have valn:valV (putK into (inl (q':Int)) (.ref t)) (inl (q':Int):Key)=Option.some (.ref t):=by rw[Va,if_pos rfl]
 refine⟨?_,fun q hq hf=>?_,fun q hq par m hf=>?_⟩
 ·rw[zdw _ hv,zti,zti,I.keys];rfl
 ·rcases ztl.mp hq with z|z
  ·rw[O9 (ne q z)] at hf;rw[val q z];exact I.none q z hf
  ·rw[zte.mp z,P4] at hf;cases hf
 ·rcases ztl.mp hq with z|z
  ·rw[O9 (ne q z)] at hf;rw[val q z];exact I.some q z par m hf
  ·rw[zte.mp z,P4] at hf;cases hf;rw[zte.mp z];exact⟨t,valn,ht⟩
theorem Ag(H:Hp)(p:Nat):Xr H [((inl (p:Int):Key),V.non)] [p] (fun _=>none) :=
 ⟨rfl,fun q hq _=>by rw[zte.mp hq];exact Y6 rfl,fun q _ par n hf=>nomatch hf⟩
theorem Ah:Uy rows gs p [p] (fun _=>0) (fun _=>none):=⟨rfl,fun q hq hne=>absurd (zte.mp hq) hne⟩
end
section
variable{rows:List (List Int)}{gs:List V}
theorem Ch.somes{q e:Nat}{st:List (Nat×Option Int)}{w:Option Int}(h:Ch rows gs q st e w):w≠none->∀ s∈st,s.2≠none:=by
 induction h with
 | one q w=>intro hw s hs;simp at hs;subst hs;exact hw
 | step a h ih =>
   intro hw s hs;rcases ztg.mp hs with rfl|z
   ·exact fun z=>nomatch z
   ·exact ih hw s z
theorem Ch.near{q e:Nat}{st:List (Nat×Option Int)}{w:Option Int}(h:Ch rows gs q st e w):∀ s∈st,s.1=q\/∃ m,gs[s.1]?=some (V.int m):=by
 induction h with
 | one q w=>intro s hs;simp at hs;subst hs;exact .inl rfl
 | @step q q' e n st w a h ih =>
   intro s hs;rcases ztg.mp hs with rfl|z
   ·exact .inl rfl
   ·rcases ih s z with z|z
    ·exact .inr ⟨n,by rw[z];exact a.2⟩
    ·exact .inr z
theorem Ch.single{q e:Nat}{st:List (Nat×Option Int)}{w:Option Int}(h:Ch rows gs q st e w)(hl:st.length<=1):st=[(q,w)]/\e=q:=by
 cases h with
 | one=>exact⟨rfl,rfl⟩
 | step a h=>have:=h.pos;rw[ztt] at hl;omega
structure Up(rows:List (List Int))(gs:List V)(i:Nat):Prop where
 fill:Ya rows gs
 ahead:∀ q n,gs[q]?=some (V.int n)->q<i
 stuck:∀ p,p<i->gs[p]?=some .non->Qz rows gs p
theorem Up.non(F:Up rows gs i)(hk:i<=k)(hr:k<rows.length):gs[k]?=some .non:=by
 have hl:k<gs.length:=by rw[F.fill.len];exact hr
 have e:=ztb hl;rcases F.fill.one _ (zue hl) with z|⟨n,z⟩
 ·rw[e,z]
 ·rw[z] at e;have:=F.ahead k n e;omega
theorem Up.step{i e:Nat}{st:List (Nat×Option Int)}{w:Option Int}(F:Up rows gs i)(hi:i<rows.length)(c:Y1 rows gs i st e w):Up rows (Yg st gs) (i+1):=by
 have hnon:=F.non (ztm i) hi;cases w with
 | none =>
   obtain⟨h1,h2,h3⟩:=c.none rfl;have hei:e=i:=by
    have hge:=h2 i 0 .nil;rcases(show e=i\/∃ m,gs[e]?=some (V.int m) by
     obtain⟨s,hs,rfl⟩:=ztk.mp c.ch.last;exact c.ch.near s hs) with z|⟨m,z⟩
    ·exact z
    ·have:=F.ahead e m z;omega
   have hst:st=[(i,none)]:=(c.ch.single (by have:=h3 0 (hei▸.nil);omega)).1;have hl:i<gs.length:=by rw[F.fill.len];exact hi
   have same:Yg st gs=gs:=by
    rw[hst];show gs.set i .non=gs;refine List.ext_getElem? fun k=>?_;by_cases hk:i=k
    ·subst hk;rw[zug hl,hnon]
    ·rw[zt8 hk]
   rw[same];refine⟨F.fill,fun q n hq=>zu7 (F.ahead q n hq),fun p hp hpn=>?_⟩;by_cases hpi:p=i
   ·subst hpi;exact zel F.fill hi F.ahead h1
   ·exact F.stuck p ⋯ hpn
 | some n0 =>
   obtain⟨hf,_⟩:=c.free n0 rfl;have nd:=c.nodup;have FP':=c.fill F.fill hi;have at_:∀ k,k<gs.length->(k∉st.map (·.1)/\(Yg st gs)[k]?=gs[k]?)\/∃ w,(k,w)∈st/\(Yg st gs)[k]?=some (oV w):=fun k hk=>Xd nd hk;have lt:∀ {k:Nat} {v:V},(Yg st gs)[k]?=some v->k<gs.length:=fun {k v} hk=>by
    have:=(ztd.mp hk).1;rw[Xo] at this;exact this
   refine⟨FP',fun q n hq=>?_,fun p hp hpn=>?_⟩
   ·rcases at_ q (lt hq) with ⟨_,h2⟩|⟨w',h1,_⟩
    ·rw[h2] at hq;exact zu7 (F.ahead q n hq)
    ·rcases c.ch.near _ h1 with z|⟨m,z⟩
     ·have:q=i:=z;omega
     ·exact zu7 (F.ahead q m z)
   ·rcases at_ p (lt hpn) with ⟨h1,h2⟩|⟨w',h1,h2⟩
    ·rw[h2] at hpn;have hpi:p≠i:=fun z=>by
      obtain⟨x,r,e⟩:=c.ch.hd;exact h1 (by rw[z,e];simp)
     exact(F.stuck p ⋯ hpn).behind F.fill c.ch hf hi nd
    ·have:=c.ch.somes (by simp) _ h1;rw[h2] at hpn;cases w' with
     | none=>exact absurd rfl this
     | some m=>cases hpn
theorem Iz(rows:List (List Int)):Up rows (rows.map fun _=>V.non) 0:=by
 have h0:∀ (k:Nat) (n:Int),(rows.map fun _=>V.non)[k]?≠some (V.int n):=fun k n h=>by
  rw[ztj] at h;cases e:rows[k]? with
  | none=>rw[e] at h;cases h
  | some r=>rw[e] at h;cases h
 exact⟨⟨by rw[zta],fun x hx=>by obtain⟨_,_,rfl⟩:=ztk.mp hx;exact .inl rfl,fun k n h=>absurd h (h0 k n),fun j k n h=>absurd h (h0 j n)⟩,fun q n h=>absurd h (h0 q n),fun p hp=>absurd hp (zvr _)⟩
theorem Up.last(F:Up rows gs rows.length):Wh rows gs:=fun p hp=>F.stuck p (by have:=(ztd.mp hp).1;rw[F.fill.len] at this;exact this) hp
end
end G
namespace G
open PySem PySem.Spec PyProof.Rows L2
section
variable{rows:List (List Int)}{gs:List V}
theorem Ch.pred{q e:Nat}{st:List (Nat×Option Int)}{w:Option Int}(h:Ch rows gs q st e w):∀ q'∈st.map (·.1),q'=q\/∃ q0 n,(q0,some n)∈st/\gs[q']?=some (V.int n):=by
 induction h with
 | one q w=>intro q' hq;simp at hq;exact .inl hq
 | @step q q1 e n st w a h ih =>
   intro q' hq;rw[zto] at hq;rcases ztg.mp hq with z|z
   ·exact .inl z
   ·rcases ih q' z with z|⟨q0,m,h1,h2⟩
    ·exact .inr ⟨q,n,zt3,by rw[z];exact a.2⟩
    ·exact .inr ⟨q0,m,ztr _ h1,h2⟩
theorem Ch.reach{q e:Nat}{st:List (Nat×Option Int)}{w:Option Int}(h:Ch rows gs q st e w):∀ q'∈st.map (·.1),∃ k,Walk rows gs q q' k:=by
 induction h with
 | one q w=>intro q' hq;simp at hq;rw[hq];exact⟨0,.nil⟩
 | @step q q1 e n st w a h ih =>
   intro q' hq;rw[zto] at hq;rcases ztg.mp hq with z|z
   ·rw[z];exact⟨0,.nil⟩
   ·obtain⟨k,hk⟩:=ih q' z;exact⟨k+1,.cons a hk⟩
theorem Ch.noneLast{q e:Nat}{st:List (Nat×Option Int)}{w:Option Int}(h:Ch rows gs q st e w):∀ k,(k,none)∈st->k=e/\w=none:=by
 induction h with
 | one q w=>intro k hk;simp at hk;exact⟨hk.1,hk.2.symm⟩
 | @step q q1 e n st w a h ih =>
   intro k hk;rcases ztg.mp hk with z|z
   ·cases z
   ·exact ih k z
theorem Ch.along{R:Nat->Prop}(hs:∀ q n q',adjN rows gs q n q'->R q->R q'){q e:Nat}{st:List (Nat×Option Int)}{w:Option Int}(h:Ch rows gs q st e w):R q->R e:=by
 induction h with
 | one q w=>exact fun z=>z
 | step a h ih=>exact fun z=>ih (hs _ _ _ a z)
theorem Ch.lastMem{q e:Nat}{st:List (Nat×Option Int)}{w:Option Int}(h:Ch rows gs q st e w):(e,w)∈st:=by
 induction h with
 | one q w=>simp
 | step a h ih=>exact ztr _ ih
theorem zeu{st:List (Nat×Option Int)}(nd:(st.map (·.1)).Nodup){k:Nat}{w w':Option Int}(h:(k,w)∈st)(h':(k,w')∈st):w=w':=by
 induction st with
 | nil=>cases h
 | cons s r ih =>
   rw[zto,ztz] at nd;rcases ztg.mp h with z|z<;>rcases ztg.mp h' with z'|z'
   ·rw[<- z] at z';exact(Prod.mk.inj z').2.symm
   ·exact absurd (ztk.mpr ⟨_,z',by rw[<- z]⟩) nd.1
   ·exact absurd (ztk.mpr ⟨_,z,by rw[<- z']⟩) nd.1
   ·exact ih nd.2 z z'
theorem zgo{st:List (Nat×Option Int)}{xs:List V}(nd:(st.map (·.1)).Nodup){k:Nat}{w:Option Int}(h:(k,w)∈st)(hk:k<xs.length):(Yg st xs)[k]?=some (oV w):=by
 rcases Xd nd hk with ⟨h1,_⟩|⟨w',h1,h2⟩
 ·exact absurd (ztk.mpr ⟨_,h,rfl⟩) h1
 ·rw[h2,zeu nd h1 h]
theorem Ch.moved{p e:Nat}{st:List (Nat×Option Int)}{w:Option Int}(FP:Ya rows gs)(h:Ch rows gs p st e w)(hp:p<rows.length)(hn:gs[p]?=some .non)(nd:(st.map (·.1)).Nodup){q':Nat}{n:Int}(hq:gs[q']?=some (V.int n)) :
  (q'∉st.map (·.1)/\(Yg st gs)[q']?=some (V.int n))\/∃ q0,(q0,some n)∈st/\(Yg st gs)[q0]?=some (V.int n):=by
 have hl:q' < gs.length:=(ztd.mp hq).1;by_cases hm:q'∈st.map (·.1)
 ·rcases h.pred q' hm with z|⟨q0,m,h1,h2⟩
  ·rw[z,hn] at hq;cases hq
  ·rw[hq] at h2;cases h2;refine .inr ⟨q0,h1,?_⟩;have:=h.lt FP hp _ h1;exact zgo nd h1 (by rw[FP.len];exact this)
 ·rcases Xd nd hl with ⟨_,h2⟩|⟨w',h1,_⟩
  ·exact .inl ⟨hm,by rw[h2];exact hq⟩
  ·exact absurd (ztk.mpr ⟨_,h1,rfl⟩) hm
end
section
variable{rows:List (List Int)}{gs:List V}{p e:Nat}{x:Int}{st:List (Nat×Option Int)}{w:Option Int}
def without(rows:List (List Int))(x:Int):List (List Int):=rows.map fun r=>r.filter fun n=>decide (n≠x)
theorem Ti{q:Nat}{r':List Int}(h:(without rows x)[q]?=some r'):∃ r,rows[q]?=some r/\∀ n∈r',n∈r/\n≠x:=by
 unfold without at h;rw[ztj] at h;cases e:rows[q]? with
 | none=>rw[e] at h;cases h
 | some r =>
   rw[e] at h;cases h;exact⟨r,rfl,fun n hn=>⟨(ztw.mp hn).1,of_decide_eq_true (ztw.mp hn).2⟩⟩
theorem Uq(FP:Ya rows gs)(hx:gs[p]?=some (.int x)):Ya (without rows x) (gs.set p .non):=FP.without hx _ fun n hn=>by
 have:=of_decide_eq_false hn;rw[Classical.not_not.mp this]
theorem zew(hx:gs[p]?=some (.int x)):(gs.set p V.non)[p]?=some .non:=by rw[zug (ztd.mp hx).1]
theorem za0(hx:gs[p]?=some (.int x))(h:(gs.set p V.non)[q]?=some (.int n)):gs[q]?=some (.int n)/\q≠p:=by
 by_cases e:p=q
 ·subst e;rw[zew hx] at h;cases h
 ·rw[zt8 e] at h;exact⟨h,Ne.symm e⟩
theorem Na{q:Nat}{n:Int}(hx:gs[p]?=some (.int x))(h:gs[q]?=some (.int n))(hn:n≠x):(gs.set p V.non)[q]?=some (.int n):=by
 rw[zt8 (fun z=>by subst z;rw[hx] at h;cases h;exact hn rfl)];exact h
theorem D6(FP:Ya rows gs)(SP:Wh rows gs)(hx:gs[p]?=some (.int x))(C:Y1 (without rows x) (gs.set p .non) p st e w):Wh (without rows x) (Yg st (gs.set p .non)):=by
 have FP0:=Uq FP hx;have hRl:(without rows x).length=rows.length:=by unfold without;rw[zta]
 have hp:p<rows.length:=by have:=(ztd.mp hx).1;rw[FP.len] at this;exact this
 have hp0:p<(without rows x).length:=by rw[hRl];exact hp
 have nd:=C.nodup;have hpm:p∈st.map (·.1):=by obtain⟨y,r,e'⟩:=C.ch.hd;rw[e'];simp
 have moved:=fun {q':Nat} {n:Int} (hq:(gs.set p V.non)[q']?=some (V.int n))=>C.ch.moved FP0 hp0 (zew hx) nd hq;have closedT:w=none->∀ q,(∃ k,Walk (without rows x) (gs.set p .non) p q k)->q<(without rows x).length/\∀ r,(without rows x)[q]?=some r->∀ n∈r,∃ q2,q2<e/\(Yg st (gs.set p .non))[q2]?=some (.int n)/\∃ k,Walk (without rows x) (gs.set p .non) p q2 k:=by
  rintro hw q ⟨k,hk⟩;obtain⟨c1,c2,c3⟩:=C.none hw;refine⟨?_,fun r hr n hn=>?_⟩
  ·cases hk with
   | nil=>exact hp0
   | snoc _ a =>
     have:=(ztd.mp a.2).1;rw[FP0.len] at this;exact this
  ·by_cases hf:∃ j:Nat,(gs.set p V.non)[j]?=some (V.int n)
   ·obtain⟨q1,hq1⟩:=hf;have w1:Walk (without rows x) (gs.set p .non) p q1 (k+1):=.snoc hk ⟨⟨r,hr,hn⟩,hq1⟩;rcases moved hq1 with ⟨m1,m2⟩|⟨q0,m1,m2⟩
    ·refine⟨q1,?_,m2,_,w1⟩;have:=c2 q1 _ w1;have hne:q1≠e:=fun z=>m1 (by rw[z];exact C.ch.last);omega
    ·obtain⟨k0,hk0⟩:=C.ch.reach q0 (ztk.mpr ⟨_,m1,rfl⟩);refine⟨q0,?_,m2,k0,hk0⟩;have:=c2 q0 _ hk0;have hne:q0≠e:=fun z=>by
      have hl:=C.ch.lastMem;rw[z] at m1;rw[hw] at hl;have:=zeu nd m1 hl;cases this
     omega
   ·exact absurd ⟨n,⟨r,hr,hn⟩,fun j hj=>hf ⟨j,hj⟩⟩ (c1 q k hk)
 intro p0 hpn;have hl0:p0<(gs.set p V.non).length:=by have:=(ztd.mp hpn).1;rw[Xo] at this;exact this
 rcases Xd nd hl0 with ⟨a1,a2⟩|⟨w',a1,a2⟩
 ·rw[a2] at hpn;have hpp:p≠p0:=fun z=>a1 (by rw[<- z];exact hpm);rw[zt8 hpp] at hpn;obtain⟨S0,hS,cl⟩:=SP p0 hpn;have inS:∀ q k,Walk rows gs p0 q k->S0 q:=fun q k hk=>by
   induction hk with
   | nil=>exact hS
   | @snoc q q' k n h a ih =>
     obtain⟨r,h1,h2⟩:=a.1;obtain⟨q'',_,h3,h4⟩:=(cl q ih).2 r h1 n h2;rw[<- FP.inj q'' q' n h3 a.2];exact h4
  have closed0:∀ q,(∃ k,Walk rows gs p0 q k)->q<rows.length/\∀ r,rows[q]?=some r->∀ n∈r,∃ q',q' < p0/\gs[q']?=some (.int n)/\∃ k,Walk rows gs p0 q' k:=by
   rintro q ⟨k,hk⟩;refine⟨(cl q (inS q k hk)).1,fun r hr n hn=>?_⟩;obtain⟨q',h1,h2,_⟩:=(cl q (inS q k hk)).2 r hr n hn;exact⟨q',h1,h2,k+1,.snoc hk ⟨⟨r,hr,hn⟩,h2⟩⟩
  have lt0:∀ q,(∃ k,Walk rows gs p0 q k)->q=p0\/q<p0:=by
   rintro q ⟨k,hk⟩;cases hk with
   | nil=>exact .inl rfl
   | @snoc q1 _ k n h a =>
     obtain⟨r,h1,h2⟩:=a.1;obtain⟨q',h3,h4,_⟩:=(closed0 q1 ⟨k,h⟩).2 r h1 n h2;rw[<- FP.inj q' q n h4 a.2];exact .inr h3
  have along:∀ {q:Nat} {st':List (Nat×Option Int)} {w':Option Int},Ch (without rows x) (gs.set p .non) q st' e w'->(∃ k,Walk rows gs p0 q k)->∃ k,Walk rows gs p0 e k:=fun {q st' w'} hc =>
   hc.along (R:=fun q=>∃ k,Walk rows gs p0 q k) fun q n q' a ⟨k,hk⟩=>by
    obtain⟨r',h1,h2⟩:=a.1;obtain⟨r,h3,h4⟩:=Ti h1;exact⟨k+1,.snoc hk ⟨⟨r,h3,(h4 n h2).1⟩,(za0 hx a.2).1⟩⟩
  by_cases hpath:∃ q∈st.map (·.1),∃ k,Walk rows gs p0 q k
  ·obtain⟨q1,hq1,hk1⟩:=hpath;obtain⟨st',c1,_⟩:=C.ch.drop q1 hq1;have hRe:=along c1 hk1;cases hw:w with
   | some n0 =>
     obtain⟨⟨r',f1,f2⟩,f3⟩:=(C.free n0 hw).1;obtain⟨r,g1,g2⟩:=Ti f1;obtain⟨q',_,h2,_⟩:=(closed0 e hRe).2 r g1 n0 (g2 n0 f2).1;exact absurd (Na hx h2 (g2 n0 f2).2) (f3 q')
   | none =>
     have clT:=closedT hw;obtain⟨_,cmax,_⟩:=C.none hw;have hep:e<p0:=by
      have hfe:∃ m,gs[e]?=some (V.int m):=by
       obtain⟨s,hs,hse⟩:=ztk.mp C.ch.last;rcases C.ch.near s hs with z|⟨m,z⟩
       ·rw[<- hse,z];exact⟨x,hx⟩
       ·rw[hse] at z;exact⟨m,(za0 hx z).1⟩
      obtain⟨m,hm⟩:=hfe;rcases lt0 e hRe with z|z
      ·rw[z,hpn] at hm;cases hm
      ·exact z
     refine⟨fun q=>(∃ k,Walk rows gs p0 q k)\/∃ k,Walk (without rows x) (gs.set p .non) p q k,.inl ⟨0,.nil⟩,fun q hq=>?_⟩;rcases hq with hq|hq
     ·refine⟨by rw[hRl];exact(closed0 q hq).1,fun r' hr' n hn=>?_⟩;obtain⟨r,g1,g2⟩:=Ti hr';obtain⟨q',h1,h2,h3⟩:=(closed0 q hq).2 r g1 n (g2 n hn).1;rcases moved (Na hx h2 (g2 n hn).2) with ⟨_,m2⟩|⟨q0,m1,m2⟩
      ·exact⟨q',h1,m2,.inl h3⟩
      ·obtain⟨k0,hk0⟩:=C.ch.reach q0 (ztk.mpr ⟨_,m1,rfl⟩);have:=cmax q0 k0 hk0;exact⟨q0,by omega,m2,.inr ⟨k0,hk0⟩⟩
     ·obtain⟨t1,t2⟩:=clT q hq;refine⟨t1,fun r hr n hn=>?_⟩;obtain⟨q2,h1,h2,h3⟩:=t2 r hr n hn;exact⟨q2,by omega,h2,.inr h3⟩
  ·refine⟨fun q=>∃ k,Walk rows gs p0 q k,⟨0,.nil⟩,fun q hq=>⟨by rw[hRl];exact(closed0 q hq).1,fun r' hr' n hn=>?_⟩⟩;obtain⟨r,g1,g2⟩:=Ti hr';obtain⟨q',h1,h2,h3⟩:=(closed0 q hq).2 r g1 n (g2 n hn).1;rcases moved (Na hx h2 (g2 n hn).2) with ⟨_,m2⟩|⟨q0,m1,m2⟩
   ·exact⟨q',h1,m2,h3⟩
   ·rcases Xd nd (show q' < (gs.set p V.non).length from(ztd.mp (Na hx h2 (g2 n hn).2)).1) with ⟨_,b2⟩|⟨w2,b1,_⟩
    ·exact⟨q',h1,by rw[b2];exact Na hx h2 (g2 n hn).2,h3⟩
    ·exact absurd ⟨q',ztk.mpr ⟨_,b1,rfl⟩,h3⟩ hpath
 ·rw[a2] at hpn;cases w' with
  | some n=>cases hpn
  | none =>
    obtain⟨b1,b2⟩:=C.ch.noneLast p0 a1;subst b1;exact⟨_,⟨0+(C.ch.reach p0 (ztk.mpr ⟨_,a1,rfl⟩)).choose,by rw[Nat.zero_add];exact(C.ch.reach p0 (ztk.mpr ⟨_,a1,rfl⟩)).choose_spec⟩,closedT b2⟩
end
end G
namespace L2
open PySem PySem.Spec PyProof.Rows
section
variable{prog:Program}{w:World}{A:Around}{E:Value->Shared->Prop}{s:Shared}{T:String}{r d:Addr}{n:Nat}{P:Nat->Value->Prop}{OK:Heap->Prop}
open PySem.W in
end
end L2
namespace G
open PySem PySem.Spec PyProof.Rows L2
section
variable{rows:List (List Int)}{gs:List V}
structure zk6(rows:List (List Int))(gs:List V)(ps:List Nat)(rs:List Int):Prop where
 up:ps.Pairwise (· < ·)
 lt:∀ p∈ps,p<rows.length
 rup:rs.Pairwise (· < ·)
 all:∀ n,n∈rs↔∃ p∈ps,∃ r,rows[p]?=some r/\n∈r
 cnt:ps.length=rs.length+(zhn gs).length
 nil:zhn gs=[]->ps=[]
 gap:∀ p,gs[p]?=some .non->p∈ps
 has:∀ n∈rs,∃ p∈ps,gs[p]?=some (.int n)
def zkm(x:Option V):Option Int:=match x with|some (.int n)=>some n|_=>none
end
section
variable{rows:List (List Int)}{gs:List V}{p:Nat}{line:List Nat}{dep:Nat->Nat}{fr:Nat->Option (Nat×Int)}
def byV(x:Option (Nat×Int)):V:=match x with|none=>.non|some y=>.int (y.1:Nat)
structure zlf(by_:List (Key×V))(line:List Nat)(fr:Nat->Option (Nat×Int)):Prop where
 keys:by_.map (·.1)=line.map fun q:Nat=>(inl (q:Int):Key)
 val:∀ q∈line,valV by_ (inl (q:Int):Key)=some (byV (fr q))
structure zlg(rows:List (List Int))(gs:List V)(dep:Nat->Nat)(q:Nat)(x:Int)(tl:List (Nat×Option Int))(e:Nat)(n:Int):Prop where
 ch:Ch rows gs q ((q,some x) :: tl) e (some n)
 nd:(((q,some x) :: tl).map (·.1)).Nodup
 far:∀ s∈tl,dep q<dep s.1
end
section
variable{rows:List (List Int)}{gs:List V}
def zi0(rows:List (List Int))(gs:List V)(p:Nat):Prop:=∀ q k,Walk rows gs p q k->¬ V6 rows gs q
structure zkn(rows:List (List Int))(f k:Nat)(gs:List V):Prop where
 fill:Ya rows gs
 seen:∀ j,j<k->(∃ n,gs[(f+j)%rows.length]?=some (.int n))\/zi0 rows gs ((f+j)%rows.length)
 later:∀ p,(∀ j,j<k->(f+j)%rows.length≠p)->p<rows.length->gs[p]?=some .non
end
end G
namespace PySem
theorem G8(f:α->β):∀ (l:List α) (j:Nat),(l.map f).eraseIdx j=(l.eraseIdx j).map f
 | [],_=>rfl
 | _ :: _,0=>rfl
 | x :: l,j+1=>by
   show f x :: (l.map f).eraseIdx j=f x :: (l.eraseIdx j).map f;rw[G8 f l j]
section
variable{prog:Program}{w:World}{K:Type}[DecidableEq K]{knd:HeapKind prog w K}{A:Around}{E:Value->Shared->Prop}{s:Shared}
theorem P5(hu:knd.room A)(hkey:knd.is s.heap k a)(hm:s.heap.DictOfH knd d xs)(hj:xs[j]?=some (k,p))(hsz:xs.length<=sizeLine)
  (hQ:∀ h',h'.DictOfH knd d (xs.eraseIdx j)->Heap.SameBut d s.heap h'->Q (some (entryOfKey knd (k,p))) { s with heap:=h',toks:=s.toks+knd.draws k }) :
  wpAny (model prog w) A (Builtin.Dict.takeOut d (.ref a)) Q E s:=by
 obtain⟨o,es,ep,ho,hc,hd,he,his,hn⟩:=hm;unfold Builtin.Dict.takeOut
 try with_reducible refine wpAny_holding ?_
 refine wpAny_bind (knd.pyHash hu hkey (wpAny_bind (wpAny_dictFind_heap (s:={ s with toks:=s.toks+knd.draws k }) hu hkey ho hd he his hn ?_ ?_)))
 ·intro hno;exact absurd hj (hno j p)
 ·intro j' p' hj';have ej:=idxH_unique hn hj' hj;subst ej;refine wpAny_bind (wpAny_dictEntries (s:={ s with toks:=s.toks+knd.draws k }) ho hd ?_);rw[entry_at he j',hj];refine wpAny_bind (wpAny_updateDictKeys (hz:=by have e:=size_of_entries he;omega) (s:={ s with toks:=s.toks+knd.draws k }) ho hd (wpAny_pure (hQ _ ⟨_,_,ep+1,Heap.get?_update_self _ ho (Obj.isFreed_of_dict (Obj.data_mapDictKeys hd _)),
   hc.mapDictKeys _,Obj.data_mapDictKeys hd _,?_,?_,?_⟩ (Heap.SameBut.update ..))))
  ·obtain⟨l⟩:=es;simp only at he;simp[he,G8]
  ·intro x hx;exact knd.keeps (his x (List.mem_of_mem_eraseIdx hx)) ho hd (Heap.SameBut.update ..)
  ·have:=hn.sublist (List.Sublist.map (·.1) (List.eraseIdx_sublist xs j'));exact this
theorem Lz(d a:Addr)(k:K) :
  MeetsIn prog w (Builtin.«dict.pop» ⟨[.ref d,.ref a],[]⟩) (fun A R s=>knd.room A.in1/\knd.is s.heap k a/\∃ xs j p,s.heap.DictOfH knd d xs/\xs.length<=sizeLine/\xs[j]?=some (k,p) /\
   ∀ h' t',h'.DictOfH knd d (xs.eraseIdx j)->Heap.SameBut d s.heap h'->R (.ok (.ret p.2)) { s with heap:=h',toks:=t' }) :=
 .of_wp fun A R s ⟨hu,hkey,xs,j,p,hm,hsz,hj,h⟩=>by
  obtain⟨o,es,ep,ho,hc,hd,he,his,hn⟩:=id hm;unfold Builtin.«dict.pop»;refine wpAny_bind ?_;unfold Builtin.Dict.keyAndDefault;refine wpAny_bind (wpAny_notOrdered_dict hm.typeIs ?_);show wpAny _ _ (pure (d,Value.ref a,none)) _ _ s;refine wpAny_pure ?_;have hp:(keyPart (Value.ref a)).isSome=false:=rfl;simp only[hp,zu3,if_false];refine wpAny_bind (wpAny_dictEntries ho hd (wpAny_bind (wpAny_pure ?_)));have hne:es.isEmpty=false:=by
   have h1:=size_of_entries he;have h2:=(ztd.mp hj).1;rw[Array.isEmpty_eq_false_iff_exists_mem];exact⟨es[0]'⋯,Array.getElem_mem _⟩
  simp only[hne,zu3,if_false];refine wpAny_bind (P5 hu hkey hm hj hsz fun h' hm' hs'=>?_);simp only[Option.isNone_some,zu3,if_false];exact wpAny_bind (wpAny_letGo (wpAny_pure ⟨p.2,rfl,h h' _ hm' hs'⟩))
end
end PySem
namespace L2
open PySem PySem.Spec PyProof.Rows
theorem KT.drop:∀ {kvs:List (List Key×V)} {xs:List (List Key×Addr×Value)},KT H kvs xs->(xs.map (·.1)).Nodup->valV kvs k=some v->∃ j p,xs[j]?=some (k,p)/\RelV v p.2/\KT H (Xv kvs k) (xs.eraseIdx j)
 | [],[],_,_,hv=>by cases hv
 | p :: kvs,q :: xs,r,nd,hv=>by
   cases r with
   | cons h t =>
     rw[zto,ztz] at nd;obtain⟨h1,h2,h3⟩:=h;by_cases e:p.1=k
     ·rw[Y6 e] at hv;cases hv;refine⟨0,q.2,by rw[<- e,h1];rfl,h3,?_⟩;show KT H (Xv (p :: kvs) k) xs;have hd:Xv (p :: kvs) k=kvs:=by
       unfold Xv;rw[zup (by simp[e])];rw[List.filter_eq_self];intro kv hkv;refine ztf fun z=>nd.1 ?_;have:∀ {l:List (List Key×V)} {m:List (List Key×Addr×Value)},KT H l m->kv∈l->kv.1∈m.map (·.1):=by
        intro l m q
        induction q with
        | nil=>intro hx;cases hx
        | @cons p' q' ps qs hq t ih =>
          intro hx;rcases ztg.mp hx with z|z
          ·rw[z,hq.1];exact zt3
          ·exact ztr _ (ih z)
       have h9:=this t hkv;rw[z,<- e,h1] at h9;exact h9
      rw[hd];exact t
     ·rw[Y0 e] at hv;obtain⟨j,pp,h4,h5,h6⟩:=KT.drop t nd.2 hv;refine⟨j+1,pp,h4,h5,?_⟩;have hd:Xv (p :: kvs) k=p :: Xv kvs k:=by
       unfold Xv;rw[zuq (by simp[e])]
      rw[hd];exact .cons ⟨h1,h2,h3⟩ h6
inductive zgp(ty:TE)(σ:L2.St)(Q:VK)(x:V)(H1:Hp):Prop where
 | mk(a)(_:x=.ref a)(_:IsD H1 a)(_:ty σ H1 fun y H2=>∃ (kvs:List (List Key×V)) (k:List Key) (b:Addr) (v:V),H2 a=some (.dT kvs)/\y=.ref b/\H2 b=some (.tup (k.map kV))/\valV kvs k=some v/\Q v (upd H2 a (.dT (Xv kvs k))))
def zi1(td ty:TE):TE:=fun σ H Q=>td σ H fun x H1=>zgp ty σ Q x H1
theorem zex(hu:X.A.units+1<cLine)(ho:PE X o td)(he:PE X e ty)(m:M1 X o "pop" apos e cpos):PE X (.Call (.Attribute o "pop" apos) [e] [] cpos) (zi1 td ty):=by
 intro pins s σ H Q I h;refine wpAny_Call_method m.base m.few m.line PySem.F.plainAttrs_dict PySem.F.slot_dict_pop PySem.F.type_dict_pop (thn (ho pins s σ H _ I h) fun u s1 ⟨x,H1,I1,rx,a,ex,d,q1⟩=>?_);subst ex;obtain rfl:u=Value.ref a:=rx;obtain⟨t1,t2,_⟩:=B1 I1 d;refine⟨t1,t2,?_⟩;rw[m.trees];refine Calls.callWith_builtin rfl (Calls.evalArgs_plain (Calls.spliced_cons (thn (he pins s1 σ H1 _ I1 q1) fun iv s2 ⟨y,H2,I2,ry,kvs,k,b,v,ea,ey,eb,l,q2⟩=>Calls.spliced_nil ?_)));subst ey;cases (show iv=Value.ref b from ry);obtain⟨z,hd,xs,rel,dd⟩:=zdy I2.hok ea;have hz:xs.length<=sizeLine:=by rw[<- Paired.length rel];exact z
 obtain⟨j,p,hj,rv,rel'⟩:=KT.drop rel (by obtain⟨_,_,_,_,_,_,_,_,hn⟩:=dd;exact hn) l;refine call_meetsIn PySem.F.slot_dict_pop dd.typeIs PySem.F.entry_dict_pop (PySem.F.args_dict_pop_2 _ _) (Lz (knd:=tupleKind (Yi X.prog X.w)) a b k) ⟨tupleKind_room_in1 hu,Rx I2.hok eb,xs,j,p,dd,hz,hj,fun h' t' dd' hs=>⟨v,_,?_,rv,q2⟩⟩;obtain⟨q,es,ep,hq,h2,h3,h4,_,h5⟩:=dd';refine Qv I2 (by rw[ea];exact True.intro) hs ⟨q,hq⟩ ⟨zts (Dj kvs k) z,hd,_,rel'.keeps fun c ys ec=>?_,q,es,ep,hq,h2,h3,h4,h5⟩;rw[Zi (Yo ec ea (fun z=>nomatch z))];exact ec
end L2
namespace G
open PySem PySem.Spec PyProof.Rows L2
structure CA where
 season:Addr
 sheet:Addr
 roster:Addr
 ledger:Addr
 out:Addr
 known:Addr
 many:Addr
 unk:Addr
 manyM:Addr
 same:Addr
 noMatch:Addr
 noRound:Addr
 over:Addr
 seaOver:Addr
 away:Addr
 drawn:Addr
 notDrawn:Addr
 nothing:Addr
 manyD:Addr
theorem Uz:1000000<sizeLine:=by rw[sizeLine_eq];decide
abbrev RL:=List (Int×Int×Int)
inductive W0(H:Hp):RL->List (Key×V)->Prop where
 | nil:W0 H [] []
 | cons {n g c:Int} {t:Addr} {R:RL} {kvs:List (Key×V)} (h:H t=some (.tup [.int g,.int c])) (r:W0 H R kvs):W0 H ((n,g,c) :: R) ((.inl n,.ref t) :: kvs)
theorem W0.mono(k:∀ t xs,H t=some (.tup xs)->H' t=some (.tup xs)):∀ {R:RL} {kvs:List (Key×V)},W0 H R kvs->W0 H' R kvs
 | _,_,.nil=>.nil
 | _,_,.cons h r=>.cons (k _ _ h) (W0.mono k r)
theorem W0.length:∀ {R:RL} {kvs:List (Key×V)},W0 H R kvs->kvs.length=R.length
 | _,_,.nil=>rfl
 | _,_,.cons _ r=>by simp[W0.length r]
theorem W0.keys:∀ {R:RL} {kvs:List (Key×V)},W0 H R kvs->(kvs.map fun kv=>kV kv.1)=R.map fun x=>V.int x.1
 | _,_,.nil=>rfl
 | _,_,.cons _ r=>by rw[zto,zto,W0.keys r];rfl
theorem W0.snoc(h:H t=some (.tup [.int g,.int c])):∀ {R:RL} {kvs:List (Key×V)},W0 H R kvs->W0 H (R++[(n,g,c)]) (kvs++[(.inl n,.ref t)])
 | _,_,.nil=>.cons h .nil
 | _,_,.cons h' r=>.cons h' (W0.snoc h r)
theorem W0.val_none:∀ {R:RL} {kvs:List (Key×V)},W0 H R kvs->n∉R.map (·.1)->valV kvs (inl n:Key)=none
 | _,_,.nil,_=>rfl
 | _,_,.cons (n:=m) _ r,h=>by
   rw[zto,ztg,not_or] at h;rw[Y0 (fun e=>h.1 (inl.inj e).symm)];exact W0.val_none r h.2
theorem W0.val_some:∀ {R:RL} {kvs:List (Key×V)},W0 H R kvs->(R.map (·.1)).Nodup->(n,g,c)∈R->∃ t,valV kvs (inl n:Key)=some (.ref t)/\H t=some (.tup [.int g,.int c])
 | _,_,.nil,_,h=>by simp at h
 | _,_,.cons (n:=m) (g:=g') (c:=c') (t:=t) ht r,nd,h=>by
   rw[zto,ztz] at nd;by_cases e:m=n
   ·subst e;rcases ztg.mp h with q|q
    ·cases q;exact⟨t,Y6 rfl,ht⟩
    ·exact absurd (ztk.mpr ⟨_,q,rfl⟩) nd.1
   ·rcases ztg.mp h with q|q
    ·cases q;exact absurd rfl e
    ·obtain⟨t',h1,h2⟩:=W0.val_some r nd.2 q;exact⟨t',by rw[Y0 (fun z=>e (inl.inj z))];exact h1,h2⟩
theorem W0.isSome(e:W0 H R kvs)(nd:(R.map (·.1)).Nodup):(valV kvs (inl n:Key)).isSome=decide (n∈R.map (·.1)):=by
 by_cases h:n∈R.map (·.1)
 ·obtain⟨⟨m,g,c⟩,q,rfl⟩:=ztk.mp h;obtain⟨t,h1,_⟩:=e.val_some nd q;rw[h1,ztf h];rfl
 ·rw[e.val_none h,zth h];rfl
theorem W0.unsnoc:∀ {R:RL} {kvs:List (Key×V)},W0 H (R++[(n,g,c)]) kvs->n∉R.map (·.1)->W0 H R (Xv kvs (inl n))
 | [],_,.cons h .nil,_=>by
   unfold Xv;rw[zup (by simp)];exact .nil
 | (m,g',c') :: R,_,.cons h r,hn=>by
   rw[zto,ztg,not_or] at hn;unfold Xv;rw[zuq (by
    refine ztf fun z=>hn.1 ?_;exact(inl.inj z).symm)]
   exact .cons h (W0.unsnoc r hn.2)
structure Xi(C:Addr)(H:Hp)(p d:Addr)(R:RL):Prop where
 ex:∃ dx kvs,H p=some (.ins C dx [("entries",.ref d)])/\H d=some (.dK kvs)/\W0 H R kvs
 nd:(R.map (·.1)).Nodup
theorem W2:List.lookup ("entries":Str) ([("entries",V.ref d)]:List (Str×V))=some (.ref d):=by simp only[zuh,beq_self_eq_true]
theorem Xi.no{d:Addr}{m:Str}(h:¬ m="entries"):List.lookup m ([("entries",V.ref d)]:List (Str×V))=none:=by
 have e:(m == "entries")=false:=zt0.mpr h;simp only[zuh,e,List.lookup_nil]
theorem Xi.keep(h:Xi C H p d R)(kp:∀ o,H p=some o->H' p=some o)(kd:∀ o,H d=some o->H' d=some o)(kt:∀ t xs,H t=some (.tup xs)->H' t=some (.tup xs)):Xi C H' p d R:=by
 obtain⟨⟨dx,kvs,h1,h2,h3⟩,nd⟩:=h;exact⟨⟨dx,kvs,kp _ h1,kd _ h2,h3.mono kt⟩,nd⟩
theorem Xi.same(h:Xi C H p d R)(e:Same H H'):Xi C H' p d R:=h.keep (fun _ q=>e _ _ q) (fun _ q=>e _ _ q) fun _ _ q=>e _ _ q
def badI(n g c:Int):Prop:=n<1\/999<n\/g<1\/9<g\/c<1\/99<c
instance {n g c:Int}:Decidable (badI n g c):=by unfold badI;infer_instance
def Ai(n g c:Int):Prop:=Y2 n/\Y2 g/\Y2 c
inductive Nb(x:Addr)(vs:List V)(H:Hp)(Q:VK)(E:XK):Prop where
 | mk(v)(lo)(m)(_:vs=[.int v,.int lo,.int m])(_:Y2 v)(_:Y2 lo)(_:Y2 m)(_:(if v<lo\/m<v then E (.ref x) none H else Q .non H))
inductive za1(ca:CA)(vs:List V)(H:Hp)(Q:VK)(_:XK):Prop where
 | mk(p)(dx)(_:vs=[.ref p])(_:H p=some (.ins ca.roster dx []))(_:∀ d,H d=none->Q .non (upd (upd H d (.dK [])) p (.ins ca.roster dx [("entries",.ref d)])))
inductive P6(ca:CA)(vs:List V)(H:Hp)(Q:VK)(E:XK):Prop where
 | mk(p)(d)(R)(n)(g)(c)(_:vs=[.ref p,.int n,.int g,.int c])(_:Xi ca.roster H p d R)(_:Ai n g c)(_:if badI n g c then E (.ref ca.out) none H else if n∈R.map (·.1) then E (.ref ca.known) none H else if 30<=R.length then E (.ref ca.many) none H else Q .non H)
inductive Sw(ca:CA)(vs:List V)(H:Hp)(Q:VK)(E:XK):Prop where
 | mk(p)(d)(R)(n)(_:vs=[.ref p,.int n])(_:Xi ca.roster H p d R)(_:Y2 n)(_:if n∈R.map (·.1) then Q .non H else E (.ref ca.unk) none H)
inductive zey(ca:CA)(vs:List V)(H:Hp)(Q:VK)(E:XK):Prop where
 | mk(p)(d)(R)(n)(g)(c)(_:vs=[.ref p,.int n,.int g,.int c])(_:Xi ca.roster H p d R)(_:Ai n g c)(_:R.length<=1000)(_:if badI n g c then E (.ref ca.out) none H else if n∈R.map (·.1) then E (.ref ca.known) none H else if 30<=R.length then E (.ref ca.many) none H else ∀ H',Xi ca.roster H' p d (R++[(n,g,c)])->(∀ b o,H b=some o->b≠d->H' b=some o)->Q .non H')
inductive D7(ca:CA)(vs:List V)(H:Hp)(Q:VK)(_:XK):Prop where
 | mk(p)(d)(R)(n)(g)(c)(_:vs=[.ref p,.int n])(_:Xi ca.roster H p d (R++[(n,g,c)]))(_:∀ H',Xi ca.roster H' p d R->(∀ b o,H b=some o->b≠d->H' b=some o)->Q .non H')
inductive K7(ca:CA)(vs:List V)(H:Hp)(Q:VK)(_:XK):Prop where
 | mk(p)(d)(R)(_:vs=[.ref p])(_:Xi ca.roster H p d R)(_:∀ l,H l=none->Q (.ref l) (upd H l (.lst (R.map fun x=>V.int x.1))))
inductive D8(ca:CA)(vs:List V)(H:Hp)(Q:VK)(E:XK):Prop where
 | mk(p)(d)(R)(n)(_:vs=[.ref p,.int n])(_:Xi ca.roster H p d R)(_:Y2 n)(_:(n∉R.map (·.1)->E (.ref ca.unk) none H))(_:∀ g c t,(n,g,c)∈R->H t=some (.tup [.int g,.int c])->Q (.ref t) H)
inductive D9(ca:CA)(vs:List V)(H:Hp)(Q:VK)(E:XK):Prop where
 | mk(p)(d)(R)(n)(_:vs=[.ref p,.int n])(_:Xi ca.roster H p d R)(_:Y2 n)(_:(n∉R.map (·.1)->∀ H',Same H H'->E (.ref ca.unk) none H'))(_:∀ g c t H',(n,g,c)∈R->H' t=some (.tup (pV (n,g,c)))->Same H H'->H t=none->Q (.ref t) H')
structure Z1 where
 ms:List (Int×Int×Int)
 may:List (List Int)
 gv:List V
 gaps:List (Int×List (Nat×Option Int))
inductive We(ok:Addr->Prop)(H:Hp):List V->List (Int×List (Nat×Option Int))->Prop where
 | nil:We ok H [] []
 | cons {t l:Addr} {n:Int} {us:List V} {st:List (Nat×Option Int)} {ts:List V} {G:List (Int×List (Nat×Option Int))} (h:H t=some (.tup [.int n,.ref l])) (hl:H l=some (.lst us)) (tl:TupL H us (st.map Vt)) (o:ok l) (r:We ok H ts G):We ok H (.ref t :: ts) ((n,st) :: G)
theorem We.keep(k:∀ x o,ok x->H x=some o->H' x=some o)(kt:∀ t xs,H t=some (.tup xs)->H' t=some (.tup xs)):∀ {ts:List V} {G:List (Int×List (Nat×Option Int))},We ok H ts G->We ok H' ts G
 | _,_,.nil=>.nil
 | _,_,.cons h hl tl o r=>.cons (kt _ _ h) (k _ _ o hl) (tl.mono kt) o (We.keep k kt r)
theorem We.imp(k:∀ x,(∃ o,H x=some o)->ok x->ok' x):∀ {ts:List V} {G:List (Int×List (Nat×Option Int))},We ok H ts G->We ok' H ts G
 | _,_,.nil=>.nil
 | _,_,.cons h hl tl o r=>.cons h hl tl (k _ ⟨_,hl⟩ o) (We.imp k r)
theorem We.length:∀ {ts:List V} {G:List (Int×List (Nat×Option Int))},We ok H ts G->ts.length=G.length
 | _,_,.nil=>rfl
 | _,_,.cons _ _ _ _ r=>by simp[We.length r]
theorem We.snoc{ok:Addr->Prop}{H:Hp}{t l:Addr}{n:Int}{us:List V}{st:List (Nat×Option Int)}(h:H t=some (.tup [.int n,.ref l]))(hl:H l=some (.lst us))(tl:TupL H us (st.map Vt))(o:ok l):∀ {ts:List V} {G:List (Int×List (Nat×Option Int))},We ok H ts G->We ok H (ts++[.ref t]) (G++[(n,st)])
 | _,_,.nil=>.cons h hl tl o .nil
 | _,_,.cons h' hl' tl' o' r=>.cons h' hl' tl' o' (We.snoc h hl tl o r)
theorem We.get:∀ {ts:List V} {G:List (Int×List (Nat×Option Int))} {i:Nat} {x:V},We ok H ts G->ts[i]?=some x->∃ t l n us st,x=.ref t/\G[i]?=some (n,st)/\H t=some (.tup [.int n,.ref l])/\H l=some (.lst us)/\TupL H us (st.map Vt)/\ok l
 | _,_,_,_,.nil,e=>by simp at e
 | _,_,0,_,.cons h hl tl o _,e=>by simp at e;subst e;exact⟨_,_,_,_,_,rfl,rfl,h,hl,tl,o⟩
 | _,_,i+1,x,.cons _ _ _ _ r,e=>by
   obtain⟨t,l,n,us,st,h1,h2,h3⟩:=We.get (i:=i) (x:=x) r (by simpa using e);exact⟨t,l,n,us,st,h1,by simpa using h2,h3⟩
def shF(l1 l2 l3 l4:Addr):List (Str×V):=[("listed",.ref l1),("lists",.ref l2),("given",.ref l3),("gaps",.ref l4)]
structure ShAt(C:Addr)(ok:Addr->Prop)(H:Hp)(q:Addr)(s:Z1):Prop where
 ex:∃ dx l1 l2 l3 l4 ts ls gts,H q=some (.ins C dx (shF l1 l2 l3 l4))/\H l1=some (.lst ts)/\TupL H ts (s.ms.map pV)/\H l2=some (.lst (ls.map V.ref))/\ILs H ls s.may/\H l3=some (.lst s.gv)/\H l4=some (.lst gts)/\We ok H gts s.gaps/\(ok q/\ok l1/\ok l2/\ok l3/\ok l4/\∀ x∈ls,ok x)
theorem ShAt.keep(h:ShAt C ok H q s)(k:∀ x o,ok x->H x=some o->H' x=some o)(kt:∀ t xs,H t=some (.tup xs)->H' t=some (.tup xs)):ShAt C ok H' q s:=by
 obtain⟨dx,l1,l2,l3,l4,ts,ls,gts,a1,a2,a3,a4,a5,a6,a7,a8,o1,o2,o3,o4,o5,o6⟩:=h;exact⟨dx,l1,l2,l3,l4,ts,ls,gts,k _ _ o1 a1,k _ _ o2 a2,a3.mono kt,k _ _ o3 a4,a5.keep fun x hx o q=>k _ _ (o6 x hx) q,k _ _ o4 a6,k _ _ o5 a7,a8.keep k kt,o1,o2,o3,o4,o5,o6⟩
theorem ShAt.imp(h:ShAt C ok H q s)(k:∀ x,(∃ o,H x=some o)->ok x->ok' x):ShAt C ok' H q s:=by
 obtain⟨dx,l1,l2,l3,l4,ts,ls,gts,a1,a2,a3,a4,a5,a6,a7,a8,o1,o2,o3,o4,o5,o6⟩:=h;exact⟨dx,l1,l2,l3,l4,ts,ls,gts,a1,a2,a3,a4,a5,a6,a7,a8.imp k,k _ ⟨_,a1⟩ o1,k _ ⟨_,a2⟩ o2,k _ ⟨_,a4⟩ o3,k _ ⟨_,a6⟩ o4,k _ ⟨_,a7⟩ o5,fun x hx=>k _ (let ⟨_,z⟩:=a5.has hx;⟨_,z⟩) (o6 x hx)⟩
theorem ShAt.same(h:ShAt C ok H q s)(e:Same H H'):ShAt C ok H' q s:=h.keep (fun _ _ _ q=>e _ _ q) fun _ _ q=>e _ _ q
def ShO(C:Addr)(ok:Addr->Prop)(H:Hp)(v:V)(s:Option Z1):Prop:=match s with|none=>v=.non|some s=>∃ q,v=.ref q/\ShAt C ok H q s
theorem ShO.keep(h:ShO C ok H v s)(k:∀ x o,ok x->H x=some o->H' x=some o)(kt:∀ t xs,H t=some (.tup xs)->H' t=some (.tup xs)):ShO C ok H' v s:=by
 cases s with
 | none=>exact h
 | some s=>obtain⟨q,e,h⟩:=h;exact⟨q,e,h.keep k kt⟩
theorem ShO.imp(h:ShO C ok H v s)(k:∀ x,(∃ o,H x=some o)->ok x->ok' x):ShO C ok' H v s:=by
 cases s with
 | none=>exact h
 | some s=>obtain⟨q,e,h⟩:=h;exact⟨q,e,h.imp k⟩
inductive ShL(C:Addr)(ok:Addr->Prop)(H:Hp):List V->List Z1->Prop where
 | nil:ShL C ok H [] []
 | cons {q:Addr} {s:Z1} {vs:List V} {ss:List Z1} (h:ShAt C ok H q s) (r:ShL C ok H vs ss):ShL C ok H (.ref q :: vs) (s :: ss)
theorem ShL.keep(k:∀ x o,ok x->H x=some o->H' x=some o)(kt:∀ t xs,H t=some (.tup xs)->H' t=some (.tup xs)):∀ {vs:List V} {ss:List Z1},ShL C ok H vs ss->ShL C ok H' vs ss
 | _,_,.nil=>.nil
 | _,_,.cons h r=>.cons (h.keep k kt) (ShL.keep k kt r)
theorem ShL.imp(k:∀ x,(∃ o,H x=some o)->ok x->ok' x):∀ {vs:List V} {ss:List Z1},ShL C ok H vs ss->ShL C ok' H vs ss
 | _,_,.nil=>.nil
 | _,_,.cons h r=>.cons (h.imp k) (ShL.imp k r)
theorem ShL.length:∀ {vs:List V} {ss:List Z1},ShL C ok H vs ss->vs.length=ss.length
 | _,_,.nil=>rfl
 | _,_,.cons _ r=>by simp[ShL.length r]
theorem ShL.snoc(h:ShAt C ok H q s):∀ {vs:List V} {ss:List Z1},ShL C ok H vs ss->ShL C ok H (vs++[.ref q]) (ss++[s])
 | _,_,.nil=>.cons h .nil
 | _,_,.cons h' r=>.cons h' (ShL.snoc h r)
theorem ShL.getR:∀ {vs:List V} {ss:List Z1} {i:Nat} {s:Z1},ShL C ok H vs ss->ss[i]?=some s->∃ q,vs[i]?=some (.ref q)/\ShAt C ok H q s
 | _,_,_,_,.nil,e=>by simp at e
 | _,_,0,_,.cons h _,e=>by simp at e;subst e;exact⟨_,rfl,h⟩
 | _,_,i+1,x,.cons _ r,e=>by
   obtain⟨t,h1,h2⟩:=ShL.getR (i:=i) (s:=x) r (by simpa using e);exact⟨t,by simpa using h1,h2⟩
abbrev Sh:=Str×Int×Int
def Pm(d:Sh):List V:=[.str d.1,.int d.2.1,.int d.2.2]
inductive Uh(C:Addr)(ok:Addr->Prop)(H:Hp):List V->List (Sh×Option Z1)->Prop where
 | nil:Uh C ok H [] []
 | cons {t u:Addr} {v:V} {d:Sh} {s:Option Z1} {vs:List V} {ss:List (Sh×Option Z1)} (h:H t=some (.tup [.ref u,v])) (hu:H u=some (.tup (Pm d))) (hs:ShO C ok H v s) (r:Uh C ok H vs ss):Uh C ok H (.ref t :: vs) ((d,s) :: ss)
theorem Uh.keep(k:∀ x o,ok x->H x=some o->H' x=some o)(kt:∀ t xs,H t=some (.tup xs)->H' t=some (.tup xs)):∀ {vs:List V} {ss:List (Sh×Option Z1)},Uh C ok H vs ss->Uh C ok H' vs ss
 | _,_,.nil=>.nil
 | _,_,.cons h hu hs r=>.cons (kt _ _ h) (kt _ _ hu) (hs.keep k kt) (Uh.keep k kt r)
theorem Uh.length:∀ {vs:List V} {ss:List (Sh×Option Z1)},Uh C ok H vs ss->vs.length=ss.length
 | _,_,.nil=>rfl
 | _,_,.cons _ _ _ r=>by simp[Uh.length r]
theorem Uh.snoc(h:H t=some (.tup [.ref u,v]))(hu:H u=some (.tup (Pm d)))(hs:ShO C ok H v s):∀ {vs:List V} {ss:List (Sh×Option Z1)},Uh C ok H vs ss->Uh C ok H (vs++[.ref t]) (ss++[(d,s)])
 | _,_,.nil=>.cons h hu hs .nil
 | _,_,.cons h' hu' hs' r=>.cons h' hu' hs' (Uh.snoc h hu hs r)
theorem Uh.unsnoc:∀ {vs:List V} {ss:List (Sh×Option Z1)},Uh C ok H vs (ss++[(d,s)])->∃ vs' t u v,vs=vs'++[.ref t]/\H t=some (.tup [.ref u,v])/\H u=some (.tup (Pm d))/\ShO C ok H v s/\Uh C ok H vs' ss
 | _,[],.cons h hu hs .nil=>⟨[],_,_,_,rfl,h,hu,hs,.nil⟩
 | _,_ :: _,.cons h hu hs r=>by
   obtain⟨vs',t,u,v,e,a1,a2,a3,a4⟩:=Uh.unsnoc r;exact⟨_ :: vs',t,u,v,by rw[e];rfl,a1,a2,a3,.cons h hu hs a4⟩
structure Sea where
 len:Nat
 rest:Nat
 ppl:RL
 led:List (List Row)
 out:List (Int×Int)
 old:List Z1
 cur:Option Z1
 std:List (Sh×Option Z1)
structure SAd where
 p:Addr
 pr:Addr
 dr:Addr
 pl:Addr
 lr:Addr
 ld:Addr
 da:Addr
 ls:Addr
 lt:Addr
def SAd.fp(A:SAd):List Addr:=[A.p,A.dr,A.lr,A.ld,A.da,A.ls,A.lt]
def seaF(A:SAd)(len rest:Nat)(v:V):List (Str×V):=[("length",.int len),("rest",.int rest),("roster",.ref A.pr),("ledger",.ref A.pl),("absent",.ref A.da),("sheets",.ref A.ls),("sheet",v),("standing",.ref A.lt)]
def R9(kvs:List (List Key×V))(out:List (Int×Int)):Prop:=(∀ at_ n:Int,(valV kvs [inl at_,inl n]).isSome=decide ((at_,n)∈out))/\kvs.length<=out.length
structure Zx(ca:CA)(H:Hp)(A:SAd)(S:Sea):Prop where
 obj:∃ dx v,H A.p=some (.ins ca.season dx (seaF A S.len S.rest v))/\ShO ca.sheet (·∉A.fp) H v S.cur
 ros:Xi ca.roster H A.pr A.dr S.ppl
 led:Ua ca.ledger H A.pl A.lr A.ld S.led
 out:∃ kvs,H A.da=some (.dT kvs)/\R9 kvs S.out
 old:∃ vs,H A.ls=some (.lst vs)/\ShL ca.sheet (·∉A.fp) H vs S.old
 std:∃ vs,H A.lt=some (.lst vs)/\Uh ca.sheet (·∉A.fp) H vs S.std
 nd:A.fp.Nodup
 np:A.pr∉A.fp/\A.pl∉A.fp
def FrS(A:SAd)(H H':Hp):Prop:=∀ b o,H b=some o->b∉A.fp->H' b=some o
end G
namespace L2
open PySem PySem.Spec PyProof.Rows
theorem Ca{X:Cx}{K:Frag}(hK:X.K=K):OpR X (binaryOp .Add) (zhj K):=hK▸zgd
end L2
namespace G
open PySem PySem.Spec PyProof.Rows L2
theorem it2{p:Prop}[Decidable p]{A B A' B':Prop}(h:if p then A else B)(h1:p->A->A')(h2:¬ p->B->B'):if p then A' else B':=by
 by_cases z:p
 ·rw[if_pos z] at h ⊢;exact h1 z h
 ·rw[if_neg z] at h ⊢;exact h2 z h
theorem zck{κ:Type}[DecidableEq κ]{kvs:List (κ×V)}{k:κ}{v:V}(h:valV kvs k=none):putK kvs k v=kvs++[(k,v)]:=by
 unfold putK;rw[if_neg];intro z;rw[Se,h] at z;cases z
inductive Cb(C:Addr)(vs:List V)(H:Hp)(Q:VK)(_:XK):Prop where
 | mk(p lr ld:Addr)(Rs:List (List Row))(b:Addr)(ts:List V)(rs:List Row)(_:vs=[.ref p,.ref b])(_:Ua C H p lr ld Rs)(_:H b=some (.lst ts))(_:b≠lr)(_:TupL H ts (rs.map Eb))(_:2*(tot Rs+rs.length)<=100000)(_:Rs.length<=1000)(_:∀ H',Ua C H' p lr ld (Rs++[rs])->(∀ b o,H b=some o->b≠lr->b≠ld->H' b=some o)->Q .non H')
def za2(ok:Addr->Prop)(H:Hp):Prop:=∀ x,H x=none->ok x
inductive Nd(ca:CA)(vs:List V)(H:Hp)(Q:VK)(_:XK):Prop where
 | mk(q)(dx)(l1)(l2)(l3)(l4)(_:vs=[.ref q,.ref l1,.ref l2,.ref l3,.ref l4])(_:H q=some (.ins ca.sheet dx []))(_:∀ H',H'=upd H q (.ins ca.sheet dx (shF l1 l2 l3 l4))->Q .non H')
theorem Q4:List.lookup ("listed":Str) (shF l1 l2 l3 l4)=some (.ref l1):=by unfold shF;simp only[zuh,beq_self_eq_true]
theorem Qa:List.lookup ("given":Str) (shF l1 l2 l3 l4)=some (.ref l3):=by
 have e:(("given":Str) == "listed")=false:=by decide +kernel
 have e2:(("given":Str) == "lists")=false:=by decide +kernel
 unfold shF;simp only[zuh,e,e2,beq_self_eq_true]
theorem Ee:List.lookup ("gaps":Str) (shF l1 l2 l3 l4)=some (.ref l4):=by
 have e:(("gaps":Str) == "listed")=false:=by decide +kernel
 have e2:(("gaps":Str) == "lists")=false:=by decide +kernel
 have e3:(("gaps":Str) == "given")=false:=by decide +kernel
 unfold shF;simp only[zuh,e,e2,e3,beq_self_eq_true]
theorem Sx{l1 l2 l3 l4:Addr}{m:Str}(h1:¬ m="listed")(h2:¬ m="lists")(h3:¬ m="given")(h4:¬ m="gaps"):List.lookup m (shF l1 l2 l3 l4)=none:=by
 have e1:(m == "listed")=false:=zt0.mpr h1;have e2:(m == "lists")=false:=zt0.mpr h2;have e3:(m == "given")=false:=zt0.mpr h3;have e4:(m == "gaps")=false:=zt0.mpr h4;unfold shF;simp only[zuh,e1,e2,e3,e4,List.lookup_nil]
theorem zk7:putF "lists" y [(("listed":Str),x)]=([("listed",x),("lists",y)]:List (Str×V)):=by
 have n1:¬ (("listed":Str)="lists"):=by decide +kernel
 simp only[putF,if_neg n1]
theorem zk8:putF "given" z [(("listed":Str),x),("lists",y)]=([("listed",x),("lists",y),("given",z)]:List (Str×V)):=by
 have n1:¬ (("listed":Str)="given"):=by decide +kernel
 have n2:¬ (("lists":Str)="given"):=by decide +kernel
 simp only[putF,if_neg n1,if_neg n2]
theorem zk9:putF "gaps" w [(("listed":Str),x),("lists",y),("given",z)]=([("listed",x),("lists",y),("given",z),("gaps",w)]:List (Str×V)):=by
 have n1:¬ (("listed":Str)="gaps"):=by decide +kernel
 have n2:¬ (("lists":Str)="gaps"):=by decide +kernel
 have n3:¬ (("given":Str)="gaps"):=by decide +kernel
 simp only[putF,if_neg n1,if_neg n2,if_neg n3]
theorem P8(hq:H1 q=none)(hdx:H1 dx=none)(ne:dx≠q):Same H1 (upd (upd (upd H1 dx (.own q)) q (.ins C dx [])) q (.ins C dx (shF l1 l2 l3 l4)))/\upd (upd (upd H1 dx (.own q)) q (.ins C dx [])) q (.ins C dx (shF l1 l2 l3 l4)) q=some (.ins C dx (shF l1 l2 l3 l4)):=by
 refine⟨fun b o e=>?_,Zc⟩;rw[Zi (Zh e hq),Zi (Zh e hq),Zi (Zh e hdx)];exact e
inductive Cc(ca:CA)(vs:List V)(H:Hp)(Q:VK)(_:XK):Prop where
 | mk(ok:Addr->Prop)(q l2:Addr)(ls:List Addr)(rows:List (List Int))(s:Z1)(_:vs=[.ref q,.ref l2])(_:ShAt ca.sheet ok H q s)(_:H l2=some (.lst (ls.map V.ref)))(_:ILs H ls rows)(_:ok l2)(_:(∀ x∈ls,ok x))(_:za2 ok H)(_:∀ q' H',ShAt ca.sheet ok H' q' { s with may:=rows }->Same H H'->H q'=none->Q (.ref q') H')
inductive Cd(ca:CA)(vs:List V)(H:Hp)(Q:VK)(_:XK):Prop where
 | mk(ok:Addr->Prop)(q l2:Addr)(ls:List Addr)(rows:List (List Int))(nu:List Int)(s:Z1)(n:Int)(p:Nat)(_:vs=[.ref q,.int n,.ref l2])(_:ShAt ca.sheet ok H q s)(_:H l2=some (.lst (ls.map V.ref)))(_:ILs H ls rows)(_:ok l2)(_:(∀ x∈ls,ok x))(_:za2 ok H)(_:Lc rows nu)(_:(∀ x∈s.gv,oneV x))(_:s.gv[p]?=some (.int n))(_:(∀ j:Nat,s.gv[j]?=some (.int n)->j=p))(_:Ya rows (s.gv.set p .non))(_:s.gaps.length<=1000)(_:∀ q' st e w H',ShAt ca.sheet ok H' q' ⟨s.ms,rows,Yg st (s.gv.set p .non),s.gaps++[(n,st)]⟩->Y1 rows (s.gv.set p .non) p st e w->Same H H'->H q'=none->Q (.ref q') H')
inductive za3(ca:CA)(vs:List V)(H:Hp)(Q:VK)(_:XK):Prop where
 | mk(ok:Addr->Prop)(l1 l2:Addr)(ts:List V)(ls:List Addr)(ms:List (Int×Int×Int))(rows:List (List Int))(nu:List Int)(_:vs=[.ref l1,.ref l2])(_:H l1=some (.lst ts))(_:TupL H ts (ms.map pV))(_:H l2=some (.lst (ls.map V.ref)))(_:ILs H ls rows)(_:ok l1)(_:ok l2)(_:(∀ x∈ls,ok x))(_:za2 ok H)(_:Lc rows nu)(_:∀ q gv H',ShAt ca.sheet ok H' q ⟨ms,rows,gv,[]⟩->Ya rows gv->Wh rows gv->Same H H'->H q=none->Q (.ref q) H')
inductive Lg(ca:CA)(vs:List V)(H:Hp)(Q:VK)(_:XK):Prop where
 | mk(ok:Addr->Prop)(q:Addr)(s:Z1)(_:vs=[.ref q])(_:ShAt ca.sheet ok H q s)(_:∀ l ts H',H' l=some (.lst ts)->TupL H' ts (s.ms.map pV)->Same H H'->H l=none->Q (.ref l) H')
inductive K8(ca:CA)(vs:List V)(H:Hp)(Q:VK)(_:XK):Prop where
 | mk(ok:Addr->Prop)(q:Addr)(s:Z1)(_:vs=[.ref q])(_:ShAt ca.sheet ok H q s)(_:∀ l H',H' l=some (.lst s.gv)->Same H H'->H l=none->Q (.ref l) H')
inductive Ma(ca:CA)(vs:List V)(H:Hp)(Q:VK)(_:XK):Prop where
 | mk(ok:Addr->Prop)(q:Addr)(s:Z1)(n:Int)(_:vs=[.ref q,.int n])(_:ShAt ca.sheet ok H q s)(_:(∀ x∈s.gv,oneV x))(_:s.gv.length<=100)(_:∀ H',Same H H'->Q (oN (Wg s.gv n)) H')
def Ce(m:Int×Int×Int)(x:V):Row:=⟨m.1,m.2.1,m.2.2,zkm (some x)⟩
def Yb(s:Z1):List Row:=List.zipWith Ce s.ms s.gv
inductive Cf(ca:CA)(vs:List V)(H:Hp)(Q:VK)(_:XK):Prop where
 | mk(ok:Addr->Prop)(q:Addr)(s:Z1)(_:vs=[.ref q])(_:ShAt ca.sheet ok H q s)(_:(∀ x∈s.gv,oneV x))(_:s.gv.length=s.ms.length)(_:s.ms.length<=1000)(_:∀ l ts H',H' l=some (.lst ts)->TupL H' ts ((Yb s).map Eb)->Same H H'->H l=none->Q (.ref l) H')
inductive K9(ca:CA)(vs:List V)(H:Hp)(Q:VK)(_:XK):Prop where
 | mk(ok:Addr->Prop)(q:Addr)(s:Z1)(_:vs=[.ref q])(_:ShAt ca.sheet ok H q s)(_:s.gaps.length<=1000)(_:∀ l ts H',H' l=some (.lst ts)->We (fun x=>H x=none/\x≠l) H' ts s.gaps->Same H H'->H l=none->Q (.ref l) H')
theorem Ja{K:Frag}{a:Addr}{xs:List V}{xo:List Str}{js:List Nat}{g:TG}{tt:TT}{te:TE}{σ:L2.St}{H:Hp}{Q:VK}(Pv:Nat->List V->Hp->Prop)(h0:Pv 0 [] H)(hl:∀ i ys H,i<=xs.length->Pv i ys H->SqL K H a xs)(hz:xs.length<=sizeLine)(hy:∀ i ys H,Pv i ys H->ys.length<=i)
  (hs:∀ i x ys H,xs[i]?=some x->Pv i ys H->g x (cs0 xo js σ) H fun σ2 H1=>Q0 xo js σ σ2/\tt σ2 H1 fun b H2=>if b=true then te σ2 H2 fun y H3=>Pv (i+1) (ys++[y]) H3 else Pv (i+1) ys H2)
  (hd:∀ ys H,Pv xs.length ys H->∀ p,H p=none->Q (.ref p) (upd H p (.lst ys))):Af (Itl K a) xo js g tt te σ H Q:=by
 refine⟨fun i m ys H=>m=xs.length-i/\i<=xs.length/\Pv i ys H,⟨xs.length,by simp,zt4 _,h0⟩,?_⟩;rintro i m ys H ⟨rfl,hi,p⟩;have q:=hl i ys H hi p;have ly:=hy i ys H p;by_cases hlt:i<xs.length
 ·refine .inr ⟨⟨xs,xs[i],q,by simp[hlt]⟩,by omega,Pv (i+1),fun ys' H' p'=>⟨xs.length-(i+1),by omega,rfl,hlt,p'⟩,fun x H' y=>?_⟩;obtain⟨e,y⟩:=y;subst e;exact hs i x ys _ (y xs q) p
 ·have e:i=xs.length:=by omega
  subst e;exact .inl ⟨⟨xs,q,ztm _⟩,by omega,hd ys H p⟩
theorem zcl{K:Frag}{a b:Addr}{xs zs:List V}{xo:List Str}{js:List Nat}{g:TG}{tt:TT}{te:TE}{σ:L2.St}{H:Hp}{Q:VK}(Pv:Nat->List V->Hp->Prop)(h0:Pv 0 [] H)(he:xs.length=zs.length)(hl:∀ i ys H,i<=xs.length->Pv i ys H->SqL K H a xs/\SqL K H b zs)(hz:xs.length<=sizeLine)(hy:∀ i ys H,Pv i ys H->ys.length<=i)
  (hs:∀ i x z t ys H,xs[i]?=some x->zs[i]?=some z->Pv i ys H->H t=none->g (.ref t) (cs0 xo js σ) (upd H t (.tup [x,z])) fun σ2 H1=>Q0 xo js σ σ2/\tt σ2 H1 fun b H2=>if b=true then te σ2 H2 fun y H3=>Pv (i+1) (ys++[y]) H3 else Pv (i+1) ys H2)
  (hd:∀ ys H,Pv xs.length ys H->∀ p,H p=none->Q (.ref p) (upd H p (.lst ys))):Af (Itz K a b) xo js g tt te σ H Q:=by
 refine⟨fun i m ys H=>m=xs.length-i/\i<=xs.length/\Pv i ys H,⟨xs.length,by simp,zt4 _,h0⟩,?_⟩;rintro i m ys H ⟨rfl,hi,p⟩;obtain⟨q1,q2⟩:=hl i ys H hi p;have ly:=hy i ys H p;by_cases hlt:i<xs.length
 ·refine .inr ⟨⟨xs,zs,xs[i],zs[i]'⋯,q1,q2,by simp[hlt],by rw[ztb ⋯]⟩,by omega,Pv (i+1),fun ys' H' p'=>⟨xs.length-(i+1),by omega,rfl,hlt,p'⟩,fun x H' y=>?_⟩;obtain⟨t,y,z,h1,h2,h3,rfl,rfl⟩:=y;exact hs i y z t ys _ (h2 xs q1) (h3 zs q2) p h1
 ·have e:i=xs.length:=by omega
  subst e;exact .inl ⟨⟨xs,zs,q1,q2,.inl (ztm _)⟩,by omega,hd ys H p⟩
theorem zi2(m:Int×Int×Int)(h:oneV x):Eb (Ce m x)=[V.int m.1,V.int m.2.1,V.int m.2.2,x]:=by
 rcases h with rfl|⟨i,rfl⟩<;>rfl
theorem zcm(hm:s.ms[i]?=some m)(hx:s.gv[i]?=some x):(Yb s).take (i+1)=(Yb s).take i++[Ce m x]:=by
 have:(Yb s)[i]?=some (Ce m x):=by
  unfold Yb;rw[List.getElem?_zipWith,hm,hx]
 rw[zua,this];rfl
theorem Cg(h:s.gv.length=s.ms.length):(Yb s).length=s.ms.length:=by
 unfold Yb;rw[List.length_zipWith,h,Nat.min_self]
section
variable{ca:CA}{H H':Hp}{A:SAd}{S:Sea}{l:Nat}{r:Nat}{v:V}
theorem Ci(A:SAd)(l r:Nat)(v:V):List.lookup ("length":Str) (seaF A l r v)=some (.int l)/\List.lookup ("rest":Str) (seaF A l r v)=some (.int r)/\List.lookup ("roster":Str) (seaF A l r v)=some (.ref A.pr)/\List.lookup ("ledger":Str) (seaF A l r v)=some (.ref A.pl)/\List.lookup ("absent":Str) (seaF A l r v)=some (.ref A.da)/\List.lookup ("sheets":Str) (seaF A l r v)=some (.ref A.ls)/\List.lookup ("sheet":Str) (seaF A l r v)=some v/\List.lookup ("standing":Str) (seaF A l r v)=some (.ref A.lt):=by
 have d:∀ a b:Str,decide (a=b)=false->(a == b)=false:=fun a b h=>zt0.mpr (of_decide_eq_false h);have e1:=d "rest" "length" ⋯;have e2:=d "roster" "length" ⋯;have e3:=d "roster" "rest" ⋯;have f1:=d "ledger" "length" ⋯;have f2:=d "ledger" "rest" ⋯;have f3:=d "ledger" "roster" ⋯;have g1:=d "absent" "length" ⋯;have g2:=d "absent" "rest" ⋯;have g3:=d "absent" "roster" ⋯;have g4:=d "absent" "ledger" ⋯;have h1:=d "sheets" "length" ⋯;have h2:=d "sheets" "rest" ⋯;have h3:=d "sheets" "roster" ⋯;have h4:=d "sheets" "ledger" ⋯;have h5:=d "sheets" "absent" ⋯;have i1:=d "sheet" "length" ⋯;have i2:=d "sheet" "rest" ⋯;have i3:=d "sheet" "roster" ⋯;have i4:=d "sheet" "ledger" ⋯;have i5:=d "sheet" "absent" ⋯;have i6:=d "sheet" "sheets" ⋯;have j1:=d "standing" "length" ⋯;have j2:=d "standing" "rest" ⋯;have j3:=d "standing" "roster" ⋯;have j4:=d "standing" "ledger" ⋯;have j5:=d "standing" "absent" ⋯;have j6:=d "standing" "sheets" ⋯;have j7:=d "standing" "sheet" ⋯;unfold seaF;refine⟨?_,?_,?_,?_,?_,?_,?_,?_⟩<;>simp only[zuh,beq_self_eq_true,e1,e2,e3,f1,f2,f3,g1,g2,g3,g4,h1,h2,h3,h4,h5,i1,i2,i3,i4,i5,i6,j1,j2,j3,j4,j5,j6,j7]
theorem G9:List.lookup ("length":Str) (seaF A l r v)=some (.int l):=(Ci A l r v).1
theorem zgq:List.lookup ("rest":Str) (seaF A l r v)=some (.int r):=(Ci A l r v).2.1
theorem Vv:List.lookup ("roster":Str) (seaF A l r v)=some (.ref A.pr):=(Ci A l r v).2.2.1
theorem Uv:List.lookup ("ledger":Str) (seaF A l r v)=some (.ref A.pl):=(Ci A l r v).2.2.2.1
theorem Q5:List.lookup ("absent":Str) (seaF A l r v)=some (.ref A.da):=(Ci A l r v).2.2.2.2.1
theorem Fb:List.lookup ("sheets":Str) (seaF A l r v)=some (.ref A.ls):=(Ci A l r v).2.2.2.2.2.1
theorem Wi:List.lookup ("sheet":Str) (seaF A l r v)=some v:=(Ci A l r v).2.2.2.2.2.2.1
theorem Tj:List.lookup ("standing":Str) (seaF A l r v)=some (.ref A.lt):=(Ci A l r v).2.2.2.2.2.2.2
theorem Yq(h:(["length","rest","roster","ledger","absent","sheets","sheet","standing"]:List Str).all (fun x=>!decide (m=x))=true):List.lookup m (seaF A l r v)=none:=by
 simp only[List.all_cons,List.all_nil,Bool.and_true,zuw,Bool.not_eq_true',decide_eq_false_iff_not] at h;obtain⟨h1,h2,h3,h4,h5,h6,h7,h8⟩:=h;have e:∀ x:Str,¬ m=x->(m == x)=false:=fun x z=>zt0.mpr z;unfold seaF;simp only[zuh,e _ h1,e _ h2,e _ h3,e _ h4,e _ h5,e _ h6,e _ h7,e _ h8,List.lookup_nil]
theorem Zx.same(h:Zx ca H A S)(e:Same H H'):Zx ca H' A S:=by
 obtain⟨⟨dx,v,a1,a2⟩,b,c,⟨kvs,d1,d2⟩,⟨vs,f1,f2⟩,⟨us,g1,g2⟩,nd,np⟩:=h;have k:∀ x o,x∉A.fp->H x=some o->H' x=some o:=fun _ _ _ q=>e _ _ q;have kt:∀ t xs,H t=some (.tup xs)->H' t=some (.tup xs):=fun _ _ q=>e _ _ q;exact⟨⟨dx,v,e _ _ a1,a2.keep k kt⟩,b.same e,c.same e,⟨kvs,e _ _ d1,d2⟩,⟨vs,e _ _ f1,f2.keep k kt⟩,⟨us,e _ _ g1,g2.keep k kt⟩,nd,np⟩
theorem FrS.of(A:SAd)(e:Same H H'):FrS A H H':=fun b o q _=>e b o q
theorem FrS.trans(h1:FrS A H H')(h2:FrS A H' H2):FrS A H H2:=fun b o e n=>h2 b o (h1 b o e n) n
theorem Zx.there(h:Zx ca H A S):∀ x∈A.fp,∃ o,H x=some o:=by
 obtain⟨⟨dx,v,a1,_⟩,⟨⟨_,_,_,b2,_⟩,_⟩,⟨_,⟨rs,c2,_⟩,⟨ks,c3,_⟩⟩,⟨kvs,d1,_⟩,⟨vs,f1,_⟩,⟨us,g1,_⟩,nd,np⟩:=h;intro x hx;simp only[SAd.fp,ztg,zud,or_false] at hx;rcases hx with rfl|rfl|rfl|rfl|rfl|rfl|rfl
 ·exact⟨_,a1⟩
 ·exact⟨_,b2⟩
 ·exact⟨_,c2⟩
 ·exact⟨_,c3⟩
 ·exact⟨_,d1⟩
 ·exact⟨_,f1⟩
 ·exact⟨_,g1⟩
theorem Zx.newOk(h:Zx ca H A S):za2 (·∉A.fp) H:=fun x hx hm=>by
 obtain⟨o,e⟩:=h.there x hm;rw[e] at hx;cases hx
theorem Zx.tups(h:Zx ca H A S)(f:FrS A H H'):∀ t xs,H t=some (.tup xs)->H' t=some (.tup xs):=fun t xs e=>f t _ e fun hm=>by
 obtain⟨⟨dx,v,a1,_⟩,⟨⟨_,_,_,b2,_⟩,_⟩,⟨_,⟨rs,c2,_⟩,⟨ks,c3,_⟩⟩,⟨kvs,d1,_⟩,⟨vs,f1,_⟩,⟨us,g1,_⟩,nd,np⟩:=h;simp only[SAd.fp,ztg,zud,or_false] at hm;rcases hm with rfl|rfl|rfl|rfl|rfl|rfl|rfl
 ·rw[a1] at e;cases e
 ·rw[b2] at e;cases e
 ·rw[c2] at e;cases e
 ·rw[c3] at e;cases e
 ·rw[d1] at e;cases e
 ·rw[f1] at e;cases e
 ·rw[g1] at e;cases e
end
def atV(S:Sea):Int:=(S.led.length:Int)+1
inductive Ub(ca:CA)(vs:List V)(H:Hp)(Q:VK)(_:XK):Prop where
 | mk(A:SAd)(S:Sea)(_:vs=[.ref A.p])(_:Zx ca H A S)(_:Q (.int (atV S)) H)
inductive Mb(ca:CA)(vs:List V)(H:Hp)(Q:VK)(E:XK):Prop where
 | mk(A:SAd)(S:Sea)(_:vs=[.ref A.p])(_:Zx ca H A S)(_:if S.len<=S.led.length then E (.ref ca.seaOver) none H else Q .non H)
inductive Mc(ca:CA)(vs:List V)(H:Hp)(Q:VK)(E:XK):Prop where
 | mk(A:SAd)(S:Sea)(_:vs=[.ref A.p])(_:Zx ca H A S)(_:if S.len<=S.led.length then E (.ref ca.seaOver) none H else if S.cur.isSome then E (.ref ca.drawn) none H else Q .non H)
inductive Ef(ca:CA)(vs:List V)(H:Hp)(Q:VK)(E:XK):Prop where
 | mk(A:SAd)(S:Sea)(at_:Int)(_:vs=[.ref A.p,.int at_])(_:Zx ca H A S)(_:Y2 at_)(_:if at_<1\/(S.len:Int)<at_ then E (.ref ca.noRound) none H else Q .non H)
inductive Eg(ca:CA)(vs:List V)(H:Hp)(Q:VK)(E:XK):Prop where
 | mk(A:SAd)(S:Sea)(_:vs=[.ref A.p])(_:Zx ca H A S)(_:if 100<=S.std.length then E (.ref ca.manyD) none H else Q .non H)
inductive Eh(ca:CA)(vs:List V)(H:Hp)(Q:VK)(_:XK):Prop where
 | mk(A:SAd)(S:Sea)(w:Str)(n at_:Int)(_:vs=[.ref A.p,.str w,.int n,.int at_])(_:Zx ca H A S)(_:S.std.length<=1000)(_:∀ H',Zx ca H' A { S with std:=S.std++[((w,n,at_),S.cur)] }->FrS A H H'->Q .non H')
inductive P9(ca:CA)(vs:List V)(H:Hp)(Q:VK)(E:XK):Prop where
 | mk(A:SAd)(S:Sea)(_:vs=[.ref A.p])(_:Zx ca H A S)(_:(S.cur=none->E (.ref ca.notDrawn) none H))(_:∀ s q,S.cur=some s->ShAt ca.sheet (·∉A.fp) H q s->Q (.ref q) H)
def Vf(S:Sea)(at_:Int):Option Z1:=if at_<=S.led.length then S.old[(at_-1).toNat]? else if (S.led.length:Int)+1<at_ then none else S.cur
inductive Fc(ca:CA)(vs:List V)(H:Hp)(Q:VK)(E:XK):Prop where
 | mk(A:SAd)(S:Sea)(at_:Int)(_:vs=[.ref A.p,.int at_])(_:Zx ca H A S)(_:Y2 at_)(_:S.old.length=S.led.length)(_:if at_<1\/(S.len:Int)<at_ then E (.ref ca.noRound) none H else (Vf S at_=none->E (.ref ca.notDrawn) none H)/\∀ s q,Vf S at_=some s->ShAt ca.sheet (·∉A.fp) H q s->Q (.ref q) H)
def pIn(out:List (Int×Int))(at_:Int)(m:P3):Bool:=decide ((at_,m.1)∈out)
def Jb(S:Sea)(m:P3):List Int:=(S.ppl.filter fun x=>(whyS S.led x.1 x.2.1 x.2.2 m.1 m.2.1 m.2.2 (pIn S.out (atV S) x) S.rest).isEmpty).map (·.1)
def mayS(S:Sea)(ms:List P3):List (List Int):=ms.map (Jb S)
inductive Oa(ca:CA)(vs:List V)(H:Hp)(Q:VK)(_:XK):Prop where
 | mk(A:SAd)(S:Sea)(l:Addr)(ts:List V)(ms:List P3)(_:vs=[.ref A.p,.ref l])(_:Zx ca H A S)(_:H l=some (.lst ts))(_:TupL H ts (ms.map pV))(_:ms.length<=100)(_:S.ppl.length<=100)(_:(∀ x∈S.ppl,Y2 x.1))(_:∀ l' ls H',H' l'=some (.lst (ls.map V.ref))->ILs H' ls (mayS S ms)->Same H H'->H l'=none->(∀ x∈ls,H x=none)->Q (.ref l') H')
def badM(m:P3):Prop:=m.1<1\/99<m.1\/m.2.1<1\/99<m.2.1\/m.2.2<1\/9<m.2.2
def Sy(Ms:List P3):Prop:=∃ m∈Ms,badM m
def Sz(Ms:List P3):Prop:=∃ m∈Ms,m.1=m.2.1
def Ei(m:P3):Prop:=Y2 m.1/\Y2 m.2.1/\Y2 m.2.2
theorem Fd{p:P3->Prop}{Ms:List P3}{i:Nat}{m:P3}(e:Ms[i]?=some m)(h:∀ x∈Ms.take i,¬ p x)(hm:¬ p m):∀ x∈Ms.take (i+1),¬ p x:=fun x hx=>by
 rw[zua,e] at hx;rcases ztl.mp hx with q|q
 ·exact h x q
 ·simp at q;subst q;exact hm
inductive Cj(K:Frag)(ca:CA)(vs:List V)(H:Hp)(Q:VK)(E:XK):Prop where
 | mk(b)(ts)(_:vs=[.ref b])(_:SqL K H b ts)(_:ts.length<=1000)(_:(20<ts.length->E (.ref ca.manyM) none H))(_:(ts.length<=20->Q .non H))
inductive Fe(K:Frag)(ca:CA)(vs:List V)(H:Hp)(Q:VK)(E:XK):Prop where
 | mk(b:Addr)(ts:List V)(Ms:List P3)(_:vs=[.ref b])(_:SqL K H b ts)(_:TupL H ts (Ms.map pV))(_:(∀ m∈Ms,Ei m))(_:(Sy Ms->E (.ref ca.out) none H))(_:(¬ Sy Ms->Q .non H))
inductive Ck(K:Frag)(ca:CA)(vs:List V)(H:Hp)(Q:VK)(E:XK):Prop where
 | mk(b:Addr)(ts:List V)(Ms:List P3)(_:vs=[.ref b])(_:SqL K H b ts)(_:TupL H ts (Ms.map pV))(_:(∀ m∈Ms,Ei m))(_:(Sz Ms->E (.ref ca.same) none H))(_:(¬ Sz Ms->Q .non H))
inductive Jc(K:Frag)(ca:CA)(vs:List V)(H:Hp)(Q:VK)(E:XK):Prop where
 | mk(b:Addr)(ts:List V)(Ms:List P3)(_:vs=[.ref b])(_:SqL K H b ts)(_:TupL H ts (Ms.map pV))(_:(∀ m∈Ms,Ei m))(_:Ms.length<=1000)(_:(20<Ms.length->E (.ref ca.manyM) none H))(_:(Ms.length<=20->Sy Ms->E (.ref ca.out) none H))(_:(Ms.length<=20->¬ Sy Ms->Sz Ms->E (.ref ca.same) none H))(_:(Ms.length<=20->¬ Sy Ms->¬ Sz Ms->∀ l,H l=none->Q (.ref l) (upd H l (.lst ts))))
theorem R9.isSome(h:R9 kvs out)(i n:Int):(valV kvs [inl i,inl n]).isSome=decide ((i,n)∈out):=h.1 i n
theorem Jd{A:SAd}(nd:A.fp.Nodup):(A.p≠A.dr/\A.p≠A.lr/\A.p≠A.ld/\A.p≠A.da/\A.p≠A.ls/\A.p≠A.lt)/\(A.dr≠A.lr/\A.dr≠A.ld/\A.dr≠A.da/\A.dr≠A.ls/\A.dr≠A.lt)/\(A.lr≠A.ld/\A.lr≠A.da/\A.lr≠A.ls/\A.lr≠A.lt)/\(A.ld≠A.da/\A.ld≠A.ls/\A.ld≠A.lt)/\(A.da≠A.ls/\A.da≠A.lt)/\A.ls≠A.lt:=by
 simp only[SAd.fp,ztz,ztg,zud,or_false,not_or] at nd;obtain⟨⟨n1,n2,n3,n4,n5,n6⟩,⟨n7,n8,n9,n10,n11⟩,⟨n12,n13,n14,n15⟩,⟨n16,n17,n18⟩,⟨n19,n20⟩,n21,_⟩:=nd;exact⟨⟨n1,n2,n3,n4,n5,n6⟩,⟨n7,n8,n9,n10,n11⟩,⟨n12,n13,n14,n15⟩,⟨n16,n17,n18⟩,⟨n19,n20⟩,n21⟩
theorem zgr{R:RL}(nd:(R.map (·.1)).Nodup){x y:P3}(hx:x∈R)(hy:y∈R)(h:x.1=y.1):x=y:=by
 induction R with
 | nil=>cases hx
 | cons z R ih =>
   rw[zto,ztz] at nd;rcases ztg.mp hx with e|e<;>rcases ztg.mp hy with e'|e'
   ·rw[e,e']
   ·exact absurd (ztk.mpr ⟨y,e',by rw[<- h,e]⟩) nd.1
   ·exact absurd (ztk.mpr ⟨x,e,by rw[h,e']⟩) nd.1
   ·exact ih nd.2 e e'
def outV(S:Sea):List V:=(S.ppl.filter (pIn S.out (atV S))).map fun x=>V.int x.1
theorem zez(S:Sea):∀ x∈outV S,oneV x:=fun x hx=>by
 unfold outV at hx;obtain⟨m,_,rfl⟩:=ztk.mp hx;exact .inr ⟨_,rfl⟩
theorem zgs(hx:x∈S.ppl):inV (.int x.1) (outV S)=pIn S.out (atV S) x:=by
 unfold outV;rw[show ((S.ppl.filter (pIn S.out (atV S))).map fun x=>V.int x.1)=((S.ppl.filter (pIn S.out (atV S))).map (·.1)).map V.int by rw[zu4];rfl,Kp];unfold pIn;by_cases h:(atV S,x.1)∈S.out
 ·rw[ztf h,ztf];exact ztk.mpr ⟨x,ztw.mpr ⟨hx,ztf h⟩,rfl⟩
 ·rw[zth h,zth];intro z;obtain⟨y,h1,h2⟩:=ztk.mp z;have:=of_decide_eq_true (ztw.mp h1).2;rw[h2] at this;exact h this
theorem zi3(S:Sea)(m:P3):((S.ppl.filter (R8 S.led m.1 m.2.1 m.2.2 (outV S) S.rest)).map fun x=>V.int x.1)=(Jb S m).map V.int:=by
 unfold Jb;rw[zu4];have:S.ppl.filter (R8 S.led m.1 m.2.1 m.2.2 (outV S) S.rest)=S.ppl.filter fun x=>(whyS S.led x.1 x.2.1 x.2.2 m.1 m.2.1 m.2.2 (pIn S.out (atV S) x) S.rest).isEmpty:=by
  refine List.filter_congr fun x hx=>?_;unfold R8;rw[zgs hx]
 rw[this];rfl
theorem atI_last:atI (xs++[x]) (-1)=some x:=by
 have hl:(xs++[x]).length=xs.length+1:=by rw[ztc];rfl
 unfold atI ixN;rw[if_neg ⋯,if_pos ⋯];show (xs++[x])[((-1:Int)+(xs++[x]).length).toNat]?=_;rw[show ((-1:Int)+(xs++[x]).length).toNat=xs.length by omega,zt6 (ztm _),Nat.sub_self];rfl
theorem We.unsnoc{ok:Addr->Prop}{H:Hp}{n:Int}{st:List (Nat×Option Int)}:∀ {vs:List V} {G:List (Int×List (Nat×Option Int))},We ok H vs (G++[(n,st)])->∃ vs' t l us,vs=vs'++[.ref t]/\H t=some (.tup [.int n,.ref l])/\H l=some (.lst us)/\TupL H us (st.map Vt)/\ok l
 | _,[],.cons h hl tl o .nil=>⟨[],_,_,_,rfl,h,hl,tl,o⟩
 | _,_ :: _,.cons h hl tl o r=>by
   obtain⟨vs',t,l,us,e,a⟩:=We.unsnoc r;exact⟨_ :: vs',t,l,us,by rw[e];rfl,a⟩
def Qb(S:Sea):Prop:=(∀ x∈S.ppl,¬ badI x.1 x.2.1 x.2.2)/\S.ppl.length<=30
theorem Qb.small(h:Qb S):∀ x∈S.ppl,Y2 x.1:=fun x hx=>by
 have:=h.1 x hx;unfold badI at this;exact Yx ⋯ ⋯
theorem Qb.may(h:Qb S)(nd:(S.ppl.map (·.1)).Nodup)(hm:ms.length<=20):Lc (mayS S ms) (S.ppl.map (·.1)):=by
 refine⟨by unfold mayS;rw[zta];exact hm,by rw[zta];exact h.2,nd,fun n hn=>?_,fun r hr=>?_⟩
 ·obtain⟨x,hx,rfl⟩:=ztk.mp hn;have:=h.1 x hx;unfold badI at this;omega
 ·unfold mayS at hr;obtain⟨m,_,rfl⟩:=ztk.mp hr;unfold Jb;exact⟨nd.sublist (List.Sublist.map _ List.filter_sublist),fun n hn=>by
   obtain⟨x,hx,rfl⟩:=ztk.mp hn;exact ztk.mpr ⟨x,(ztw.mp hx).1,rfl⟩⟩
section
variable{ca:CA}{H H':Hp}{A:SAd}{S:Sea}
theorem Lh(h:Zx ca H A S)(hx:x∈A.fp):A.pr≠x/\A.pl≠x:=⟨fun z=>h.np.1 (by rw[z];exact hx),fun z=>h.np.2 (by rw[z];exact hx)⟩
theorem FrS.one(hx:x∈A.fp)(k:∀ b o,H b=some o->b≠x->H' b=some o):FrS A H H':=fun b o e hb=>k b o e fun z=>hb (by rw[z];exact hx)
theorem Zx.setRos(h:Zx ca H A S)(r:Xi ca.roster H' A.pr A.dr R)(k:∀ b o,H b=some o->b≠A.dr->H' b=some o):Zx ca H' A { S with ppl:=R }/\FrS A H H':=by
 have f:FrS A H H':=.one (by simp[SAd.fp]) k;have kt:=h.tups f;have ko:∀ x o,x∉A.fp->H x=some o->H' x=some o:=fun x o hx e=>f x o e hx;obtain⟨⟨n1,n2,n3,n4,n5,n6⟩,⟨n7,n8,n9,n10,n11⟩,⟨n12,n13,n14,n15⟩,⟨n16,n17,n18⟩,⟨n19,n20⟩,n21⟩:=Jd h.nd;have np:=Lh h (show A.dr∈A.fp by simp[SAd.fp]);obtain⟨⟨dx,v,a1,a2⟩,b,c,⟨kvs,d1,d2⟩,⟨vs,f1,f2⟩,⟨us,g1,g2⟩,nd,np'⟩:=h;exact⟨⟨⟨dx,v,k _ _ a1 n1,a2.keep ko kt⟩,r,c.keep (fun o e=>k _ o e np.2) (fun o e=>k _ o e (Ne.symm n7)) (fun o e=>k _ o e (Ne.symm n8)) kt,⟨kvs,k _ _ d1 (Ne.symm n9),d2⟩,⟨vs,k _ _ f1 (Ne.symm n10),f2.keep ko kt⟩,⟨us,k _ _ g1 (Ne.symm n11),g2.keep ko kt⟩,nd,np'⟩,f⟩
theorem Zx.setOut{out:List (Int×Int)}{kvs:List (List Key×V)}(h:Zx ca H A S)(hd:H' A.da=some (.dT kvs))(ok:R9 kvs out)(k:∀ b o,H b=some o->b≠A.da->H' b=some o):Zx ca H' A { S with out:=out }/\FrS A H H':=by
 have f:FrS A H H':=.one (by simp[SAd.fp]) k;have kt:=h.tups f;have ko:∀ x o,x∉A.fp->H x=some o->H' x=some o:=fun x o hx e=>f x o e hx;obtain⟨⟨n1,n2,n3,n4,n5,n6⟩,⟨n7,n8,n9,n10,n11⟩,⟨n12,n13,n14,n15⟩,⟨n16,n17,n18⟩,⟨n19,n20⟩,n21⟩:=Jd h.nd;have np:=Lh h (show A.da∈A.fp by simp[SAd.fp]);obtain⟨⟨dx,v,a1,a2⟩,b,c,⟨kvs',d1,d2⟩,⟨vs,f1,f2⟩,⟨us,g1,g2⟩,nd,np'⟩:=h;exact⟨⟨⟨dx,v,k _ _ a1 n4,a2.keep ko kt⟩,b.keep (fun o e=>k _ o e np.1) (fun o e=>k _ o e n9) kt,c.keep (fun o e=>k _ o e np.2) (fun o e=>k _ o e n13) (fun o e=>k _ o e n16) kt,⟨kvs,hd,ok⟩,⟨vs,k _ _ f1 (Ne.symm n19),f2.keep ko kt⟩,⟨us,k _ _ g1 (Ne.symm n20),g2.keep ko kt⟩,nd,np'⟩,f⟩
theorem Zx.setCur(h:Zx ca H A S)(hp:∃ dx,H' A.p=some (.ins ca.season dx (seaF A S.len S.rest v)))(sh:ShO ca.sheet (·∉A.fp) H' v cur)(k:∀ b o,H b=some o->b≠A.p->H' b=some o):Zx ca H' A { S with cur:=cur }/\FrS A H H':=by
 have f:FrS A H H':=.one (by simp[SAd.fp]) k;have kt:=h.tups f;have ko:∀ x o,x∉A.fp->H x=some o->H' x=some o:=fun x o hx e=>f x o e hx;obtain⟨⟨n1,n2,n3,n4,n5,n6⟩,⟨n7,n8,n9,n10,n11⟩,⟨n12,n13,n14,n15⟩,⟨n16,n17,n18⟩,⟨n19,n20⟩,n21⟩:=Jd h.nd;have np:=Lh h (show A.p∈A.fp by simp[SAd.fp]);obtain⟨⟨dx,v',a1,a2⟩,b,c,⟨kvs',d1,d2⟩,⟨vs,f1,f2⟩,⟨us,g1,g2⟩,nd,np'⟩:=h;obtain⟨dx',hp⟩:=hp;exact⟨⟨⟨dx',v,hp,sh⟩,b.keep (fun o e=>k _ o e np.1) (fun o e=>k _ o e (Ne.symm n1)) kt,c.keep (fun o e=>k _ o e np.2) (fun o e=>k _ o e (Ne.symm n2)) (fun o e=>k _ o e (Ne.symm n3)) kt,⟨kvs',k _ _ d1 (Ne.symm n4),d2⟩,⟨vs,k _ _ f1 (Ne.symm n5),f2.keep ko kt⟩,⟨us,k _ _ g1 (Ne.symm n6),g2.keep ko kt⟩,nd,np'⟩,f⟩
theorem Zx.setStd{std:List (Sh×Option Z1)}{us:List V}(h:Zx ca H A S)(hd:H' A.lt=some (.lst us))(ok:Uh ca.sheet (·∉A.fp) H' us std)(k:∀ b o,H b=some o->b≠A.lt->H' b=some o):Zx ca H' A { S with std:=std }/\FrS A H H':=by
 have f:FrS A H H':=.one (by simp[SAd.fp]) k;have kt:=h.tups f;have ko:∀ x o,x∉A.fp->H x=some o->H' x=some o:=fun x o hx e=>f x o e hx;obtain⟨⟨n1,n2,n3,n4,n5,n6⟩,⟨n7,n8,n9,n10,n11⟩,⟨n12,n13,n14,n15⟩,⟨n16,n17,n18⟩,⟨n19,n20⟩,n21⟩:=Jd h.nd;have np:=Lh h (show A.lt∈A.fp by simp[SAd.fp]);obtain⟨⟨dx,v,a1,a2⟩,b,c,⟨kvs,d1,d2⟩,⟨vs,f1,f2⟩,⟨us',g1,g2⟩,nd,np'⟩:=h;exact⟨⟨⟨dx,v,k _ _ a1 n6,a2.keep ko kt⟩,b.keep (fun o e=>k _ o e np.1) (fun o e=>k _ o e n11) kt,c.keep (fun o e=>k _ o e np.2) (fun o e=>k _ o e n15) (fun o e=>k _ o e n18) kt,⟨kvs,k _ _ d1 n20,d2⟩,⟨vs,k _ _ f1 n21,f2.keep ko kt⟩,⟨us,hd,ok⟩,nd,np'⟩,f⟩
theorem Zx.setOld{old:List Z1}{us:List V}(h:Zx ca H A S)(hd:H' A.ls=some (.lst us))(ok:ShL ca.sheet (·∉A.fp) H' us old)(k:∀ b o,H b=some o->b≠A.ls->H' b=some o):Zx ca H' A { S with old:=old }/\FrS A H H':=by
 have f:FrS A H H':=.one (by simp[SAd.fp]) k;have kt:=h.tups f;have ko:∀ x o,x∉A.fp->H x=some o->H' x=some o:=fun x o hx e=>f x o e hx;obtain⟨⟨n1,n2,n3,n4,n5,n6⟩,⟨n7,n8,n9,n10,n11⟩,⟨n12,n13,n14,n15⟩,⟨n16,n17,n18⟩,⟨n19,n20⟩,n21⟩:=Jd h.nd;have np:=Lh h (show A.ls∈A.fp by simp[SAd.fp]);obtain⟨⟨dx,v,a1,a2⟩,b,c,⟨kvs,d1,d2⟩,⟨vs,f1,f2⟩,⟨us',g1,g2⟩,nd,np'⟩:=h;exact⟨⟨⟨dx,v,k _ _ a1 n5,a2.keep ko kt⟩,b.keep (fun o e=>k _ o e np.1) (fun o e=>k _ o e n10) kt,c.keep (fun o e=>k _ o e np.2) (fun o e=>k _ o e n14) (fun o e=>k _ o e n17) kt,⟨kvs,k _ _ d1 n19,d2⟩,⟨us,hd,ok⟩,⟨us',k _ _ g1 (Ne.symm n21),g2.keep ko kt⟩,nd,np'⟩,f⟩
theorem Zx.setLed(h:Zx ca H A S)(l:Ua ca.ledger H' A.pl A.lr A.ld Rs)(k:∀ b o,H b=some o->b≠A.lr->b≠A.ld->H' b=some o):Zx ca H' A { S with led:=Rs }/\FrS A H H':=by
 have f:FrS A H H':=fun b o e hb=>k b o e (fun z=>hb (by rw[z];simp[SAd.fp])) (fun z=>hb (by rw[z];simp[SAd.fp]));have kt:=h.tups f;have ko:∀ x o,x∉A.fp->H x=some o->H' x=some o:=fun x o hx e=>f x o e hx;obtain⟨⟨n1,n2,n3,n4,n5,n6⟩,⟨n7,n8,n9,n10,n11⟩,⟨n12,n13,n14,n15⟩,⟨n16,n17,n18⟩,⟨n19,n20⟩,n21⟩:=Jd h.nd;have np:=Lh h (show A.lr∈A.fp by simp[SAd.fp]);have np2:=Lh h (show A.ld∈A.fp by simp[SAd.fp]);obtain⟨⟨dx,v,a1,a2⟩,b,c,⟨kvs,d1,d2⟩,⟨vs,f1,f2⟩,⟨us',g1,g2⟩,nd,np'⟩:=h;exact⟨⟨⟨dx,v,k _ _ a1 n2 n3,a2.keep ko kt⟩,b.keep (fun o e=>k _ o e np.1 np2.1) (fun o e=>k _ o e n7 n8) kt,l,⟨kvs,k _ _ d1 (Ne.symm n13) (Ne.symm n16),d2⟩,⟨vs,k _ _ f1 (Ne.symm n14) (Ne.symm n17),f2.keep ko kt⟩,⟨us',k _ _ g1 (Ne.symm n15) (Ne.symm n18),g2.keep ko kt⟩,nd,np'⟩,f⟩
theorem Ob:putF "sheet" v' (seaF A l r v)=seaF A l r v':=by
 have n1:¬ (("length":Str)="sheet"):=by decide +kernel
 have n2:¬ (("rest":Str)="sheet"):=by decide +kernel
 have n3:¬ (("roster":Str)="sheet"):=by decide +kernel
 have n4:¬ (("ledger":Str)="sheet"):=by decide +kernel
 have n5:¬ (("absent":Str)="sheet"):=by decide +kernel
 have n6:¬ (("sheets":Str)="sheet"):=by decide +kernel
 simp only[putF,seaF,if_neg n1,if_neg n2,if_neg n3,if_neg n4,if_neg n5,if_neg n6,if_true]
theorem FrS.free(f:FrS A H H')(h:Zx ca H' A S')(hl:H' l=none):H l=none:=by
 cases e:H l with
 | none=>rfl
 | some o =>
   by_cases hm:l∈A.fp
   ·obtain⟨o',e'⟩:=h.there l hm;rw[e'] at hl;cases hl
   ·rw[f l o e hm] at hl;cases hl
theorem ShAt.ins(h:ShAt ca.sheet (·∉A.fp) H q s):∃ dx l1 l2 l3 l4,H q=some (.ins ca.sheet dx (shF l1 l2 l3 l4)):=by
 obtain⟨dx,l1,l2,l3,l4,_,_,_,a1,_⟩:=h;exact⟨dx,l1,l2,l3,l4,a1⟩
theorem Zx.newSheet(h:Zx ca H A S)(hp:H A.p=some (.ins ca.season dx (seaF A S.len S.rest v)))(sh:ShAt ca.sheet (·∉A.fp) H q s) :
  Zx ca (upd H A.p (.ins ca.season dx (putF "sheet" (.ref q) (seaF A S.len S.rest v)))) A { S with cur:=some s }/\FrS A H (upd H A.p (.ins ca.season dx (putF "sheet" (.ref q) (seaF A S.len S.rest v))))/\ShAt ca.sheet (·∉A.fp) (upd H A.p (.ins ca.season dx (putF "sheet" (.ref q) (seaF A S.len S.rest v)))) q s:=by
 have k:∀ b o,H b=some o->b≠A.p->upd H A.p (.ins ca.season dx (putF "sheet" (.ref q) (seaF A S.len S.rest v))) b=some o:=fun b o e n=>by rw[Zi n];exact e
 have sh':=sh.keep (H':=upd H A.p (.ins ca.season dx (putF "sheet" (.ref q) (seaF A S.len S.rest v)))) (fun x o hx e=>k x o e fun z=>hx (by rw[z];simp[SAd.fp])) (fun t xs e=>k t _ e (Yo e hp (fun z=>nomatch z)));obtain⟨h1,h2⟩:=h.setCur (cur:=some s) (v:=.ref q) ⟨dx,by rw[Zc];exact congrArg (fun x=>some (HO.ins ca.season dx x)) Ob⟩ ⟨q,rfl,sh'⟩ k;exact⟨h1,h2,sh'⟩
theorem I9:putF "standing" (.ref x) (seaF A l r v)=seaF { A with lt:=x } l r v:=by
 have n1:¬ (("length":Str)="standing"):=by decide +kernel
 have n2:¬ (("rest":Str)="standing"):=by decide +kernel
 have n3:¬ (("roster":Str)="standing"):=by decide +kernel
 have n4:¬ (("ledger":Str)="standing"):=by decide +kernel
 have n5:¬ (("absent":Str)="standing"):=by decide +kernel
 have n6:¬ (("sheets":Str)="standing"):=by decide +kernel
 have n7:¬ (("sheet":Str)="standing"):=by decide +kernel
 simp only[putF,seaF,if_neg n1,if_neg n2,if_neg n3,if_neg n4,if_neg n5,if_neg n6,if_neg n7,if_true]
end
def ze0(r q:Nat):Sea:=⟨r,q,[],[],[],[],none,[]⟩
inductive za4(ca:CA)(vs:List V)(H:Hp)(Q:VK)(E:XK):Prop where
 | mk(p dx:Addr)(r q:Int)(_:vs=[.ref p,.int r,.int q])(_:H p=some (.ins ca.season dx []))(_:Y2 r)(_:Y2 q)(_:if r<0\/60<r then E (.ref ca.out) none H else if q<0\/10<q then E (.ref ca.out) none H else ∀ A H',A.p=p->Zx ca H' A (ze0 r.toNat q.toNat)->(∀ b o,H b=some o->b≠p->H' b=some o)->(∀ x∈A.fp,x≠p->H x=none)->Q .non H')
inductive za5(ca:CA)(vs:List V)(H:Hp)(Q:VK)(E:XK):Prop where
 | mk(A:SAd)(S:Sea)(n g c:Int)(_:vs=[.ref A.p,.int n,.int g,.int c])(_:Zx ca H A S)(_:Ai n g c)(_:S.std.length<=1000)(_:S.ppl.length<=1000)(_:if S.len<=S.led.length then E (.ref ca.seaOver) none H else if S.cur.isSome then E (.ref ca.drawn) none H else if badI n g c then E (.ref ca.out) none H else if n∈S.ppl.map (·.1) then E (.ref ca.known) none H else if 30<=S.ppl.length then E (.ref ca.many) none H else if 100<=S.std.length then E (.ref ca.manyD) none H else ∀ H',Zx ca H' A { S with ppl:=S.ppl++[(n,g,c)],std:=S.std++[(((("enrol":Str),n,atV S):Sh),S.cur)] }->FrS A H H'->Q .non H')
def ze1(S:Sea)(ms:List P3)(gv:List V):Sea:={ S with cur:=some ⟨ms,mayS S ms,gv,[]⟩,std:=S.std++[(((("draw up":Str),(ms.length:Int),atV S):Sh),S.cur)] }
inductive Cm(K:Frag)(ca:CA)(vs:List V)(H:Hp)(Q:VK)(E:XK):Prop where
 | mk(A:SAd)(S:Sea)(b:Addr)(ts:List V)(ms:List P3)(_:vs=[.ref A.p,.ref b])(_:Zx ca H A S)(_:SqL K H b ts)(_:TupL H ts (ms.map pV))(_:(∀ m∈ms,Ei m))(_:ms.length<=1000)(_:S.std.length<=1000)(_:Qb S)(_:if S.len<=S.led.length then E (.ref ca.seaOver) none H else if S.cur.isSome then E (.ref ca.drawn) none H else (20<ms.length->E (.ref ca.manyM) none H)/\(ms.length<=20->Sy ms->E (.ref ca.out) none H)/\(ms.length<=20->¬ Sy ms->Sz ms->E (.ref ca.same) none H)/\(ms.length<=20->¬ Sy ms->¬ Sz ms->(100<=S.std.length->∀ H',Same H H'->E (.ref ca.manyD) none H')/\(S.std.length<100->∀ l gv H',H' l=some (.lst gv)->Zx ca H' A (ze1 S ms gv)->Ya (mayS S ms) gv->Wh (mayS S ms) gv->FrS A H H'->H l=none->Q (.ref l) H')))
inductive Cn(ca:CA)(vs:List V)(H:Hp)(Q:VK)(_:XK):Prop where
 | mk(A:SAd)(S:Sea)(n:Int)(s:Z1)(nu:List Int)(_:vs=[.ref A.p,.int n])(_:Zx ca H A S)(_:S.cur=some s)(_:Qb S)(_:s.ms.length<=20)(_:(∀ x∈s.gv,oneV x))(_:s.gv.length<=100)(_:s.gaps.length<=500)(_:Lc (mayS S s.ms) nu)(_:(Wg s.gv n=none->∀ l H',H' l=some (.lst [])->Zx ca H' A { S with cur:=some { s with may:=mayS S s.ms } }->FrS A H H'->H l=none->Q (.ref l) H'))(_:∀ p,Wg s.gv n=some p->s.gv[p]?=some (.int n)/\(∀ j:Nat,s.gv[j]?=some (.int n)->j=p)/\Ya (mayS S s.ms) (s.gv.set p .non)/\∀ l us st e w H',H' l=some (.lst us)->TupL H' us (st.map Vt)->Y1 (mayS S s.ms) (s.gv.set p .non) p st e w->Zx ca H' A { S with cur:=some ⟨s.ms,mayS S s.ms,Yg st (s.gv.set p .non),s.gaps++[(n,st)]⟩ }->FrS A H H'->H l=none->Q (.ref l) H')
def Xe(S:Sea)(i n:Int):Sea:={ S with out:=S.out++[(i,n)],std:=S.std++[((("away":Str),n,i),S.cur)] }
inductive ze2(ca:CA)(vs:List V)(H:Hp)(Q:VK)(E:XK):Prop where
 | mk(A:SAd)(S:Sea)(i n:Int)(_:vs=[.ref A.p,.int i,.int n])(_:Zx ca H A S)(_:Y2 i)(_:Y2 n)(_:S.std.length<=1000)(_:S.out.length<=100000)(_:Qb S)(_:(∀ s,S.cur=some s->s.ms.length<=20/\Ya s.may s.gv/\s.may=mayS S s.ms/\s.gaps.length<=500))(_:if i<1\/(S.len:Int)<i then E (.ref ca.noRound) none H else if i<=S.led.length then E (.ref ca.over) none H else if n∈S.ppl.map (·.1) then (if (i,n)∈S.out then ∀ H',Same H H'->E (.ref ca.away) none H' else if 100<=S.std.length then ∀ H',Same H H'->E (.ref ca.manyD) none H' else (S.cur=none\/atV S<i->∀ l H',H' l=some (.lst [])->Zx ca H' A (Xe S i n)->FrS A H H'->H l=none->Q (.ref l) H')/\(∀ s,i=atV S->S.cur=some s->Wg s.gv n=none->∀ l H',H' l=some (.lst [])->Zx ca H' A { Xe S i n with cur:=some { s with may:=mayS (Xe S i n) s.ms } }->FrS A H H'->H l=none->Q (.ref l) H')/\(∀ s p,i=atV S->S.cur=some s->Wg s.gv n=some p->∀ l us st e w H',H' l=some (.lst us)->TupL H' us (st.map Vt)->Y1 (mayS (Xe S i n) s.ms) (s.gv.set p .non) p st e w->Zx ca H' A { Xe S i n with cur:=some ⟨s.ms,mayS (Xe S i n) s.ms,Yg st (s.gv.set p .non),s.gaps++[(n,st)]⟩ }->FrS A H H'->H l=none->Q (.ref l) H')) else E (.ref ca.unk) none H)
theorem R9.put(h:R9 kvs out)(i n:Int):R9 (putK kvs [inl i,inl n] (.bl true)) (out++[(i,n)]):=by
 refine⟨fun j m=>?_,?_⟩
 ·rw[Va];by_cases e:j=i/\m=n
  ·rw[if_pos (Qy.mpr e),ztf (by rw[e.1,e.2];simp)];rfl
  ·rw[if_neg (fun z=>e (Qy.mp z)),h.1 j m];by_cases hm:(j,m)∈out
   ·rw[ztf hm,ztf (zt7 _ hm)]
   ·rw[zth hm,zth];intro z;rcases ztl.mp z with q|q
    ·exact hm q
    ·have:=zte.mp q;exact e (by cases this;exact⟨rfl,rfl⟩)
 ·have:=Y7 kvs ([inl i,inl n]:List Key) (.bl true);have:=h.2;rw[ztc];show _<=out.length+1;omega
theorem R9.drop(h:R9 kvs (out++[(i,n)]))(hn:(i,n)∉out):R9 (Xv kvs [inl i,inl n]) out:=by
 have hv:∀ k:List Key,valV (Xv kvs [inl i,inl n]) k=if k=[inl i,inl n] then none else valV kvs k:=fun k=>by
  clear h
  induction kvs with
  | nil=>unfold Xv;simp[valV]
  | cons x kvs ih =>
    by_cases ex:x.1=[inl i,inl n]
    ·rw[zb4 ex,ih];by_cases e:k=[inl i,inl n]
     ·rw[if_pos e,if_pos e]
     ·rw[if_neg e,if_neg e,Y0 (fun z=>e (z.symm.trans ex))]
    ·rw[zb5 ex];by_cases ek:x.1=k
     ·rw[Y6 ek,Y6 ek,if_neg (fun z=>ex (ek.trans z))]
     ·rw[Y0 ek,Y0 ek,ih]
 refine⟨fun j m=>?_,?_⟩
 ·rw[hv];by_cases e:j=i/\m=n
  ·rw[if_pos (Qy.mpr e),zth (by rw[e.1,e.2];exact hn)];rfl
  ·rw[if_neg (fun z=>e (Qy.mp z)),h.1 j m];by_cases hm:(j,m)∈out
   ·rw[ztf hm,ztf (zt7 _ hm)]
   ·rw[zth hm,zth];intro z;rcases ztl.mp z with q|q
    ·exact hm q
    ·have:=zte.mp q;exact e (by cases this;exact⟨rfl,rfl⟩)
 ·have h1:=h.1 i n;rw[ztf (show (i,n)∈out++[(i,n)] by simp)] at h1;have h2:=h.2;rw[ztc] at h2;have h2:kvs.length<=out.length+1:=h2;have h3:(Xv kvs [inl i,inl n]).length<kvs.length:=by
   unfold Xv;rw[List.length_filter_lt_length_iff_exists];obtain⟨v,hv'⟩:=zuv.mp h1;unfold valV at hv';obtain⟨x,hx,_⟩:=zvb.mp hv';refine⟨x,List.mem_of_find?_eq_some hx,?_⟩;have:=List.find?_some hx;intro z;exact of_decide_eq_true z (of_decide_eq_true this)
  omega
theorem S4(h:Wg gv n=some p):gv[p]?=some (.int n):=by
 unfold Wg at h;have h2:decide (gv[p]?=some (V.int n))=true:=List.find?_some (p:=fun i=>decide (gv[i]?=some (V.int n))) h;exact of_decide_eq_true h2
theorem Uc:mayS (Xe S (atV S) n) ms=without (mayS S ms) n:=by
 unfold mayS without;rw[zu4];refine zux fun m _=>?_;show Jb (Xe S (atV S) n) m=(Jb S m).filter fun x=>decide (x≠n);unfold Jb;rw[List.filter_map,List.filter_filter]
 congr 1
 refine List.filter_congr fun x _=>?_;show (whyS S.led x.1 x.2.1 x.2.2 m.1 m.2.1 m.2.2 (pIn (S.out++[(atV S,n)]) (atV S) x) S.rest).isEmpty=(decide (x.1≠n)&&(whyS S.led x.1 x.2.1 x.2.2 m.1 m.2.1 m.2.2 (pIn S.out (atV S) x) S.rest).isEmpty);unfold pIn;by_cases e:x.1=n
 ·have h1:decide ((atV S,x.1)∈S.out++[(atV S,n)])=true:=ztf (by rw[e];simp);rw[h1,zth (fun z=>z e),Bool.false_and];unfold whyS bw;simp
 ·have h1:decide ((atV S,x.1)∈S.out++[(atV S,n)])=decide ((atV S,x.1)∈S.out):=by
   by_cases hm:(atV S,x.1)∈S.out
   ·rw[ztf hm,ztf (zt7 _ hm)]
   ·rw[zth hm,zth];intro z;rcases ztl.mp z with q|q
    ·exact hm q
    ·have:=zte.mp q;cases this;exact e rfl
  rw[h1,ztf e,Bool.true_and]
def Ej(S:Sea)(s:Z1):Sea:={ S with led:=S.led++[Yb s],old:=S.old++[s],cur:=none,std:=[] }
inductive za6(ca:CA)(vs:List V)(H:Hp)(Q:VK)(E:XK):Prop where
 | mk(A:SAd)(S:Sea)(_:vs=[.ref A.p])(_:Zx ca H A S)(_:2*(tot S.led+1000)<=100000)(_:S.led.length<=1000)(_:S.old.length<=1000)(_:(∀ s,S.cur=some s->(∀ x∈s.gv,oneV x)/\s.gv.length=s.ms.length/\s.ms.length<=1000))(_:if S.len<=S.led.length then E (.ref ca.seaOver) none H else (S.cur=none->E (.ref ca.notDrawn) none H)/\∀ s x H',S.cur=some s->Zx ca H' { A with lt:=x } (Ej S s)->FrS A H H'->H x=none->Q (.int (atV S)) H')
theorem Zx.freshStd(h:Zx ca H A S)(hx:H x=none)(hp:H A.p=some (.ins ca.season dx (seaF A S.len S.rest v)))(hv:ShO ca.sheet (·∉A.fp) H v S.cur)
  (e:H'=upd (upd H x (.lst [])) A.p (.ins ca.season dx (putF "standing" (.ref x) (seaF A S.len S.rest v)))):Zx ca H' { A with lt:=x } { S with std:=[] }/\FrS A H H':=by
 have hpx:A.p≠x:=Zh hp hx;have k:∀ b o,H b=some o->b≠A.p->H' b=some o:=fun b o q n=>by rw[e,Zi n,Zi (Zh q hx)];exact q
 have f:FrS A H H':=.one (by simp[SAd.fp]) k;have kt:=h.tups f;have hnx:∀ y,(∃ o,H y=some o)->y≠x:=fun y ⟨o,q⟩=>Zh q hx;have okk:∀ y,(∃ o,H' y=some o)->y∉A.fp->(∃ o,H y=some o)->y∉({ A with lt:=x }:SAd).fp:=fun y _ hy hH hm=>by
  simp only[SAd.fp,ztg,zud,or_false] at hm hy;rcases hm with q|q|q|q|q|q|q
  ·exact hy (.inl q)
  ·exact hy (.inr (.inl q))
  ·exact hy (.inr (.inr (.inl q)))
  ·exact hy (.inr (.inr (.inr (.inl q))))
  ·exact hy (.inr (.inr (.inr (.inr (.inl q)))))
  ·exact hy (.inr (.inr (.inr (.inr (.inr (.inl q))))))
  ·exact hnx y hH q
 have ok2:∀ y,(∃ o,H y=some o)->y∉A.fp->y∉({ A with lt:=x }:SAd).fp:=fun y hH hy hm=>by
  simp only[SAd.fp,ztg,zud,or_false] at hm hy;rcases hm with q|q|q|q|q|q|q
  ·exact hy (.inl q)
  ·exact hy (.inr (.inl q))
  ·exact hy (.inr (.inr (.inl q)))
  ·exact hy (.inr (.inr (.inr (.inl q))))
  ·exact hy (.inr (.inr (.inr (.inr (.inl q)))))
  ·exact hy (.inr (.inr (.inr (.inr (.inr (.inl q))))))
  ·exact hnx y hH q
 have ko:∀ y o,y∉({ A with lt:=x }:SAd).fp->H y=some o->H' y=some o:=fun y o hy q=>k y o q fun z=>hy (by rw[z];simp[SAd.fp]);have there:=h.there;obtain⟨⟨n1,n2,n3,n4,n5,n6⟩,⟨n7,n8,n9,n10,n11⟩,⟨n12,n13,n14,n15⟩,⟨n16,n17,n18⟩,⟨n19,n20⟩,n21⟩:=Jd h.nd;have np:=Lh h (show A.p∈A.fp by simp[SAd.fp]);have npp:=h.np;obtain⟨⟨dx',v',a1,a2⟩,b,c,⟨kvs',d1,d2⟩,⟨vs,f1,f2⟩,⟨us,g1,g2⟩,nd,np'⟩:=h;have hpr:∃ o,H A.pr=some o:=by obtain⟨⟨_,_,q,_⟩,_⟩:=b;exact⟨_,q⟩
 have hpl:∃ o,H A.pl=some o:=by obtain⟨⟨_,q⟩,_⟩:=c;exact⟨_,q⟩
 refine⟨⟨⟨dx,v,?_,(hv.imp ok2).keep ko kt⟩,b.keep (fun o q=>k _ o q np.1) (fun o q=>k _ o q (Ne.symm n1)) kt,c.keep (fun o q=>k _ o q np.2) (fun o q=>k _ o q (Ne.symm n2)) (fun o q=>k _ o q (Ne.symm n3)) kt,⟨kvs',k _ _ d1 (Ne.symm n4),d2⟩,⟨vs,k _ _ f1 (Ne.symm n5),(f2.imp ok2).keep ko kt⟩,⟨[],?_,?_⟩,?_,⟨ok2 _ hpr npp.1,ok2 _ hpl npp.2⟩⟩,f⟩
 ·rw[e,Zc];exact congrArg (fun z=>some (HO.ins ca.season dx z)) I9
 ·show H' x=some (.lst []);rw[e,Zi (Ne.symm hpx),Zc]
 ·exact .nil
 ·show [A.p,A.dr,A.lr,A.ld,A.da,A.ls,x].Nodup;have m:∀ y∈A.fp,y≠x:=fun y hy=>hnx y (there y hy);simp only[ztz,ztg,zud,or_false,not_or];exact⟨⟨n1,n2,n3,n4,n5,m _ (by simp[SAd.fp])⟩,⟨n7,n8,n9,n10,m _ (by simp[SAd.fp])⟩,⟨n12,n13,n14,m _ (by simp[SAd.fp])⟩,⟨n16,n17,m _ (by simp[SAd.fp])⟩,⟨n19,m _ (by simp[SAd.fp])⟩,m _ (by simp[SAd.fp]),by simp,zu5⟩
def ze3(S:Sea)(d:Sh)(ppl:RL)(out:List (Int×Int)):Prop:=(d.1="enrol"/\(∃ g c,S.ppl=ppl++[(d.2.1,g,c)])/\out=S.out)\/(d.1="away"/\ppl=S.ppl/\S.out=out++[(d.2.2,d.2.1)]/\(d.2.2,d.2.1)∉out)\/(d.1="draw up"/\ppl=S.ppl/\out=S.out)
inductive Je(ca:CA)(vs:List V)(H:Hp)(Q:VK)(E:XK):Prop where
 | mk(A:SAd)(S:Sea)(_:vs=[.ref A.p])(_:Zx ca H A S)(_:(S.std=[]->E (.ref ca.nothing) none H))(_:∀ std d s,S.std=std++[(d,s)]->∃ ppl out,ze3 S d ppl out/\∀ t H',H' t=some (.tup (Pm d))->Zx ca H' A { S with ppl:=ppl,out:=out,cur:=s,std:=std }->FrS A H H'->Q (.ref t) H')
def za7(ca:CA)(H:Hp)(S:Sea)(i:Int)(E:XK)(k:Z1->Prop):Prop:=Y2 i/\S.old.length=S.led.length/\if i<1\/(S.len:Int)<i then E (.ref ca.noRound) none H else (Vf S i=none->E (.ref ca.notDrawn) none H)/\∀ s,Vf S i=some s->k s
inductive ze4(ca:CA)(vs:List V)(H:Hp)(Q:VK)(E:XK):Prop where
 | mk(A:SAd)(S:Sea)(i:Int)(_:vs=[.ref A.p,.int i])(_:Zx ca H A S)(_:za7 ca H S i E fun s=>∀ l H',H' l=some (.lst s.gv)->Same H H'->H l=none->Q (.ref l) H')
theorem U0(ks:List Str):∀ {fs:List (Str×V)},fs.map (·.1)=ks->(ks.all fun x=>!decide (x=f))=true->putF f v fs=fs++[(f,v)]:=by
 intro fs hk h;subst hk
 induction fs with
 | nil=>rfl
 | cons x fs ih =>
   rw[zto,List.all_cons,zuw,Bool.not_eq_true',decide_eq_false_iff_not] at h;obtain⟨k,y⟩:=x;show (if k=f then _ else _)=_;rw[if_neg h.1,ih h.2];rfl
def sF1(l:V):List (Str×V):=[("length",l)]
def sF2(l r:V):List (Str×V):=[("length",l),("rest",r)]
def sF3(l r a:V):List (Str×V):=[("length",l),("rest",r),("roster",a)]
def sF4(l r a b:V):List (Str×V):=[("length",l),("rest",r),("roster",a),("ledger",b)]
def sF5(l r a b c:V):List (Str×V):=[("length",l),("rest",r),("roster",a),("ledger",b),("absent",c)]
def sF6(l r a b c d:V):List (Str×V):=[("length",l),("rest",r),("roster",a),("ledger",b),("absent",c),("sheets",d)]
def sF7(l r a b c d e:V):List (Str×V):=[("length",l),("rest",r),("roster",a),("ledger",b),("absent",c),("sheets",d),("sheet",e)]
def sF8(l r a b c d e f:V):List (Str×V):=[("length",l),("rest",r),("roster",a),("ledger",b),("absent",c),("sheets",d),("sheet",e),("standing",f)]
theorem pF1:putF "length" l []=sF1 l:=rfl
theorem pF2:putF "rest" r (sF1 l)=sF2 l r:=U0 ["length"] rfl ⋯
theorem pF3:putF "roster" a (sF2 l r)=sF3 l r a:=U0 ["length","rest"] rfl ⋯
theorem pF4:putF "ledger" b (sF3 l r a)=sF4 l r a b:=U0 ["length","rest","roster"] rfl ⋯
theorem pF5:putF "absent" c (sF4 l r a b)=sF5 l r a b c:=U0 ["length","rest","roster","ledger"] rfl ⋯
theorem pF6:putF "sheets" d (sF5 l r a b c)=sF6 l r a b c d:=U0 ["length","rest","roster","ledger","absent"] rfl ⋯
theorem pF7:putF "sheet" e (sF6 l r a b c d)=sF7 l r a b c d e:=U0 ["length","rest","roster","ledger","absent","sheets"] rfl ⋯
theorem pF8:putF "standing" f (sF7 l r a b c d e)=sF8 l r a b c d e f:=U0 ["length","rest","roster","ledger","absent","sheets","sheet"] rfl ⋯
theorem Vg.free{p:Addr}{H H':Hp}{x:Addr}(hb:∀ b o,H b=some o->b≠p->H' b=some o)(hp:∃ o,H' p=some o)(hx:H' x=none):H x=none:=by
 cases e:H x with
 | none=>rfl
 | some o =>
   by_cases z:x=p
   ·subst z;obtain⟨o',q⟩:=hp;rw[q] at hx;cases hx
   ·rw[hb x o e z] at hx;cases hx
def Vg(p:Addr)(H H':Hp):Prop:=∀ b o,H b=some o->b≠p->H' b=some o
theorem Vg.trans(a:Vg p H1 H2)(b:Vg p H2 H3):Vg p H1 H3:=fun x o e n=>b x o (a x o e n) n
theorem Vg.of(a:Same H1 H2):Vg p H1 H2:=fun x o e _=>a x o e
theorem Vg.put:Vg p H (upd H p o):=fun x o e n=>by rw[Zi n];exact e
end G
namespace L2
open PySem PySem.Spec PyProof.Rows
theorem Aj:W8 X (.type "dict") (fun xs H Q=>∃ a kvs,xs=[.ref a]/\Rd H a (.dK kvs)/\∀ p,H p=none->Q (.ref p) (upd H p (.dK kvs))):=by
 intro pins s σ H xs us Q I r h;obtain⟨a,kvs,rfl,ha,q⟩:=h;obtain⟨u,rfl,ru⟩:=Sa r;cases (show u=Value.ref a from ru);exact zd1 I ha fun p s' hp I'=>⟨.ref p,_,I',rfl,q p hp⟩
end L2
namespace G
open PySem PySem.Spec PyProof.Rows L2
def Li:List Int:=[0,1,2,3,4,5,6,7,8,9,10,0,0,0,1,1,1,2,2,0,1,3]
inductive Co(K:Frag)(vs:List V)(H:Hp)(Q:VK)(_:XK):Prop where
 | mk(b:Addr)(ns:List Int)(_:vs=[.ref b])(_:SqL K H b (ns.map V.int))(_:∀ (q:Nat) H',q=(Li.getD (Y8 ns 1%22).toNat 0).toNat->q<=10->Same H H'->Q (.int q) H')
def Qc(ns:List Int):Int:=if Y8 ns 0/2%2=0 then 60 else 1+Y8 ns 1/22%60
inductive Jf(K:Frag)(vs:List V)(H:Hp)(Q:VK)(_:XK):Prop where
 | mk(b:Addr)(ns:List Int)(_:vs=[.ref b])(_:SqL K H b (ns.map V.int))(_:∀ (r:Nat) H',r=(Qc ns).toNat->1<=r->r<=60->Same H H'->Q (.int r) H')
inductive Cp(K:Frag)(vs:List V)(H:Hp)(Q:VK)(_:XK):Prop where
 | mk(b:Addr)(ns:List Int)(k:Nat)(_:vs=[.ref b,.int k])(_:SqL K H b (ns.map V.int))(_:k<ns.length)(_:∀ c H',Same H H'->Q (.int c) H')
structure Oc(H:Hp)(t lc ln:Addr)(cs nu:List Int):Prop where
 tup:H t=some (.tup [.ref lc,.ref ln])
 clubs:H lc=some (.lst (cs.map V.int))
 nums:H ln=some (.lst (nu.map V.int))
 few:3<=cs.length/\cs.length<=10
 cnd:cs.Nodup
 crng:∀ c∈cs,1<=c/\c<=99
 nfew:1<=nu.length/\nu.length<=30
 nnd:nu.Nodup
 nrng:∀ n∈nu,1<=n/\n<=999
theorem Oc.same{H H':Hp}{t lc ln:Addr}{cs nu:List Int}(h:Oc H t lc ln cs nu)(e:Same H H'):Oc H' t lc ln cs nu:=⟨e _ _ h.tup,e _ _ h.clubs,e _ _ h.nums,h.few,h.cnd,h.crng,h.nfew,h.nnd,h.nrng⟩
inductive Cq(K:Frag)(vs:List V)(H:Hp)(Q:VK)(_:XK):Prop where
 | mk(b:Addr)(ns:List Int)(cr:Nat)(_:vs=[.ref b,.int cr])(_:SqL K H b (ns.map V.int))(_:1<=cr)(_:cr<=30)(_:∀ t lc ln cs nu H',Oc H' t lc ln cs nu->nu.length=cr->Same H H'->H t=none->H lc=none->H ln=none->Q (.ref t) H')
theorem Cr(c:Int)(hi:i<10)(hj:j<10)(h:Gz c i=Gz c j):i=j:=by
 unfold Gz at h;have hs:F8 c=1\/F8 c=2\/F8 c=5\/F8 c=10\/F8 c=50\/F8 c=97\/F8 c=98:=by
  unfold F8;have h0:0<=c%7:=by omega
  have h1:c%7<7:=by omega
  generalize c%7=r at h0 h1;obtain⟨k,rfl⟩:∃ k:Nat,r=k:=⟨r.toNat,by omega⟩;rw[ztv];have hk:k<7:=by omega
  match k,hk with
  | 0,_=>simp
  | 1,_=>simp
  | 2,_=>simp
  | 3,_=>simp
  | 4,_=>simp
  | 5,_=>simp
  | 6,_=>simp
 generalize c/7=x at h;rcases hs with e|e|e|e|e|e|e<;>rw[e] at h<;>omega
theorem Cs(c:Int)(hm:m<=10):(R6 c m).Nodup:=by
 unfold R6;rw[zui,List.pairwise_map];refine List.Pairwise.imp_of_mem (fun {i j} hi hj (hne:i≠j) z=>?_) (zui.mp List.nodup_range);exact hne (Cr c (by have:=zt5.mp hi;omega) (by have:=zt5.mp hj;omega) z)
theorem zcn(c:Int)(m:Nat):∀ n∈R6 c m,1<=n/\n<=99:=fun n hn=>by
 unfold R6 at hn;obtain⟨j,_,rfl⟩:=ztk.mp hn;unfold Gz;omega
theorem Ct(c:Int)(hm:m<=40):(M9 c m).Nodup:=by
 unfold M9;rw[zui,List.pairwise_map];refine List.Pairwise.imp_of_mem (fun {i j} hi hj (hne:i≠j) z=>?_) (zui.mp List.nodup_range);exact hne (zei c (by have:=zt5.mp hi;omega) (by have:=zt5.mp hj;omega) z)
theorem zco(c:Int)(m:Nat):∀ n∈M9 c m,1<=n/\n<=999:=fun n hn=>by
 unfold M9 at hn;obtain⟨j,_,rfl⟩:=ztk.mp hn;unfold zb7;omega
inductive Qd where
 | enrol (n g c:Int)|away (i n:Int)|draw (ms:List P3)|close|back
def Wj(ok:Addr->Prop)(H:Hp)(t:Addr):Qd->Prop
 | .enrol n g c=>H t=some (.tup [.str "enrol",.int n,.int g,.int c])
 | .away i n=>H t=some (.tup [.str "away",.int i,.int n])
 | .draw ms=>∃ l ts,H t=some (.tup [.str "draw up",.ref l])/\H l=some (.lst ts)/\TupL H ts (ms.map pV)/\ok l
 | .close=>H t=some (.tup [.str "close"])
 | .back=>H t=some (.tup [.str "take back"])
def ze5(S:Sea):Prop:=∀ s,S.cur=some s->s.ms.length<=20/\Ya s.may s.gv/\Wh s.may s.gv/\s.may=mayS S s.ms/\s.gaps.length<=S.std.length
def Lj(S S':Sea):Prop:=∃ d:Sh,S'.std=S.std++[(d,S.cur)]/\ze3 S' d S.ppl S.out/\S'.len=S.len/\S'.rest=S.rest/\S'.led=S.led/\S'.old=S.old
def Ll(S:Sea):Qd->Prop
 | .enrol n g c=>S.led.length<S.len/\S.cur=none/\¬ badI n g c/\n∉S.ppl.map (·.1)/\S.ppl.length<30
 | .away i n=>(S.led.length:Int)<i/\i<=S.len/\n∈S.ppl.map (·.1)/\(i,n)∉S.out
 | .draw ms=>S.led.length<S.len/\S.cur=none/\ms.length<=20/\(∀ m∈ms,¬ badM m)/\∀ m∈ms,m.1≠m.2.1
 | .close=>S.led.length<S.len/\S.cur≠none
 | .back=>S.std≠[]
inductive Rn(H':Hp)(S:Sea):Qd->Sea->V->Prop where
 | enrol (n g c:Int):Rn H' S (.enrol n g c) { S with ppl:=S.ppl++[(n,g,c)],std:=S.std++[(((("enrol":Str),n,atV S):Sh),S.cur)] } .non
 | awayN {i n:Int} {l:Addr} (h:S.cur=none\/atV S<i) (hl:H' l=some (.lst [])):Rn H' S (.away i n) (Xe S i n) (.ref l)
 | awayF {n:Int} {s:Z1} {l:Addr} (h:S.cur=some s) (hp:Wg s.gv n=none) (hl:H' l=some (.lst [])):Rn H' S (.away (atV S) n) { Xe S (atV S) n with cur:=some { s with may:=mayS (Xe S (atV S) n) s.ms } } (.ref l)
 | awayC {n:Int} {s:Z1} {p e:Nat} {l:Addr} {us:List V} {st:List (Nat×Option Int)} {w:Option Int} (h:S.cur=some s) (hp:Wg s.gv n=some p) (hl:H' l=some (.lst us)) (tl:TupL H' us (st.map Vt)) (CR:Y1 (mayS (Xe S (atV S) n) s.ms) (s.gv.set p .non) p st e w) :
   Rn H' S (.away (atV S) n) { Xe S (atV S) n with cur:=some ⟨s.ms,mayS (Xe S (atV S) n) s.ms,Yg st (s.gv.set p .non),s.gaps++[(n,st)]⟩ } (.ref l)
 | draw {ms:List P3} {gv:List V} {l:Addr} (hl:H' l=some (.lst gv)) (F:Ya (mayS S ms) gv) (T:Wh (mayS S ms) gv):Rn H' S (.draw ms) (ze1 S ms gv) (.ref l)
 | close {s:Z1} (h:S.cur=some s):Rn H' S .close (Ej S s) (.int (atV S))
 | back {S0:Sea} {d:Sh} {t:Addr} (h:S.std=S0.std++[(d,S0.cur)]) (ht:H' t=some (.tup (Pm d))) (hs:Lj S0 S):Rn H' S .back S0 (.ref t)
def Jg(A A':SAd)(H:Hp):Prop:=∃ x,A'={ A with lt:=x }/\(x=A.lt\/H x=none)
inductive zi4(K:Frag)(ca:CA)(vs:List V)(H:Hp)(Q:VK)(_:XK):Prop where
 | mk(A:SAd)(S:Sea)(t:Addr)(d:Qd)(_:vs=[.ref A.p,.ref t])(_:Zx ca H A S)(_:Wj (·∉A.fp) H t d)(_:Ll S d)(_:ze5 S)(_:Qb S)(_:S.std.length<100)(_:S.out.length<=100000)(_:2*(tot S.led+1000)<=100000)(_:S.led.length<=1000)(_:S.old.length<=1000)(_:S.len<=1000)(_:(∀ i n,d=.away i n->Y2 n))(_:(d=.back->∃ S0,Lj S0 S))(_:∀ v A' S' H',Rn H' S d S' v->Zx ca H' A' S'->Jg A A' H->FrS A H H'->(∀ l,v=.ref l->(∃ xs,H' l=some (.lst xs))->H l=none)->Q v H')
abbrev Xl(b:List Stmt)(i:Nat):Stmt:=b.getD i (.Pass ⟨0,0,0,0⟩)
def zgt:Stmt->Expr|.Return (some e) _=>e|_=>.Constant .none 0 ⟨0,0,0,0⟩
def stP:Stmt->Pos|.Return _ p=>p|.Assign _ _ p=>p|_=>⟨0,0,0,0⟩
def ze6:Stmt->List Expr|.Assign ts _ _=>ts|_=>[]
def Pa:Stmt->Expr|.Assign _ v _=>v|_=>.Constant .none 0 ⟨0,0,0,0⟩
def Cu:Expr->Expr|.Subscript a _ _=>a|e=>e
def zgu:Expr->Expr|.Subscript _ b _=>b|e=>e
def zgv:Expr->Pos|.Subscript _ _ p=>p|_=>⟨0,0,0,0⟩
def zcp:Expr->List Expr|.List es _=>es|_=>[]
def zcq:Expr->Pos|.List _ p=>p|_=>⟨0,0,0,0⟩
def Ln:List Int->TA
 | []=>Bw
 | x :: xs=>zhg (tC (.int x)) (Ln xs)
theorem Ff:∀ (xs:List Int) (σ:L2.St) (H:Hp) (Q:List V->Hp->Prop),Q (xs.map V.int) H->Ln xs σ H Q
 | [],_,_,_,h=>h
 | x :: xs,σ,H,Q,h=>Ff xs σ H (fun ys H2=>Q (.int x :: ys) H2) h
structure Jh(es:List Expr)(xs:List Int):Prop where
 len:es.length=xs.length
 same:List.zipWith (fun i (e:Expr)=>Expr.Constant (.int i) 0 e.pos) xs es=es
theorem Q6(xs:List Int)(h:Jh es xs):PA X es (Ln xs):=by
 obtain⟨h1,h2⟩:=h
 induction xs generalizing es with
 | nil =>
   have:=zur.mp h1;subst this;exact Zd
 | cons x xs ih =>
   cases es with
   | nil=>cases h1
   | cons e es =>
     rw[List.zipWith_cons_cons] at h2;obtain⟨e1,e2⟩:=List.cons.inj h2;rw[<- e1];exact Za Zg (ih (Nat.succ.inj h1) e2) rfl
theorem Cv(xs:List Int)(hz:xs.length<=1000)(h:∀ l,H l=none->Q (.ref l) (upd H l (.lst (xs.map V.int)))):Bx (Ln xs) σ H Q:=by
 refine Ff xs σ H _ ⟨?_,h⟩;rw[zta];exact szN hz
theorem za8{K:Frag}(xs:List Int){ti:TE}{σ:L2.St}{H:Hp}{Q:VK}(hz:xs.length<=1000)(h:∀ l H1,H1 l=some (.lst (xs.map V.int))->Same H H1->H l=none->ti σ H1 fun y H2=>Ip K (.ref l) y H2 Q):tOp (Ip K) (Bx (Ln xs)) ti σ H Q :=
 Cv xs hz fun l hl=>h l _ Zc (Ze hl) hl
theorem zi5{K:Frag}(xs:List Int){ti:TE}{D:Oz}{σ:L2.St}{H:Hp}(hz:xs.length<=1000)(h:∀ l H1,H1 l=some (.lst (xs.map V.int))->Same H H1->H l=none->ti σ H1 fun y H2=>Ip K (.ref l) y H2 D.rt):zji (tOp (Ip K) (Bx (Ln xs)) ti) D σ H:=za8 (Q:=D.rt) xs hz h
theorem zi6{K:Frag}(xs:List Int){ti:TE}{i:Nat}{u:TS}{D:Oz}{σ:L2.St}{H:Hp}(hz:xs.length<=1000)(h:∀ l H1,H1 l=some (.lst (xs.map V.int))->Same H H1->H l=none->ti σ H1 fun y H2=>Ip K (.ref l) y H2 fun x H3=>u D (σ.set i (some x)) H3):Zw (zbo (tOp (Ip K) (Bx (Ln xs)) ti) (Wu i)) u D σ H:=za8 xs hz h
theorem Cw(xs:List Int)(hz:xs.length<=1000)(h:∀ l H1,H1 l=some (.lst (xs.map V.int))->Same H H1->H l=none->u D (σ.set i (some (.ref l))) H1):Zw (zbo (Bx (Ln xs)) (Wu i)) u D σ H :=
 Cv (σ:=σ) (H:=H) (Q:=fun x H3=>u D (σ.set i (some x)) H3) xs hz fun l hl=>h l _ Zc (Ze hl) hl
theorem Ek:decide (V.str a=V.str a)=true:=ztf rfl
theorem Ur(h:decide (a=b)=false):decide (V.str a=V.str b)=false:=zth fun z=>of_decide_eq_false h (V.str.inj z)
theorem Jg.refl(A:SAd)(H:Hp):Jg A A H:=⟨A.lt,rfl,.inl rfl⟩
abbrev zi7:=List (Int×List (Nat×Option Int))
structure Pg where
 len:Nat
 rest:Nat
 ppl:RL
 out:List (Int×Int)
 over:List Z1
 deed:Option Sh
 lis:Option (List P3)
 gv:List V
 mv:zi7
def pgF(len rest:Nat)(lp lo lv:Addr)(dv li:V)(lg lm:Addr):List (Key×V):=[(.inr "rounds",.int len),(.inr "rest",.int rest),(.inr "people",.ref lp),(.inr "out",.ref lo),(.inr "over",.ref lv),(.inr "deed",dv),(.inr "listed",li),(.inr "goes",.ref lg),(.inr "moves",.ref lm)]
def oiV(x:Int×Int):List V:=[.int x.1,.int x.2]
def Md(ok:Addr->Prop)(H:Hp)(v:V):Option (List P3)->Prop
 | none=>v=.non
 | some ms=>∃ l ts,v=.ref l/\H l=some (.lst ts)/\TupL H ts (ms.map pV)/\ok l
def Cy(H:Hp)(v:V):Option Sh->Prop
 | none=>v=.non
 | some d=>∃ t,v=.ref t/\H t=some (.tup (Pm d))
inductive Xb(ok:Addr->Prop)(H:Hp):List V->List Z1->Prop where
 | nil:Xb ok H [] []
 | cons {t l g m y:Addr} {ts mts:List V} {ls:List Addr} {s:Z1} {vs:List V} {ss:List Z1} (h:H t=some (.tup [.ref l,.ref g,.ref m,.ref y])) (hl:H l=some (.lst ts)) (tl:TupL H ts (s.ms.map pV)) (hg:H g=some (.lst s.gv)) (hm:H m=some (.lst mts)) (gm:We ok H mts s.gaps)
   (hy:H y=some (.lst (ls.map V.ref))) (iy:ILs H ls s.may) (o:ok l/\ok g/\ok m/\ok y/\∀ x∈ls,ok x) (r:Xb ok H vs ss):Xb ok H (.ref t :: vs) (s :: ss)
theorem Md.keep(h:Md ok H v x)(k:∀ x o,ok x->H x=some o->H' x=some o)(kt:∀ t xs,H t=some (.tup xs)->H' t=some (.tup xs)):Md ok H' v x:=by
 cases x with
 | none=>exact h
 | some ms=>obtain⟨l,ts,e,a,b,o⟩:=h;exact⟨l,ts,e,k _ _ o a,b.mono kt,o⟩
theorem Md.imp(h:Md ok H v x)(k:∀ x,(∃ o,H x=some o)->ok x->ok' x):Md ok' H v x:=by
 cases x with
 | none=>exact h
 | some ms=>obtain⟨l,ts,e,a,b,o⟩:=h;exact⟨l,ts,e,a,b,k _ ⟨_,a⟩ o⟩
theorem Cy.keep(h:Cy H v x)(kt:∀ t xs,H t=some (.tup xs)->H' t=some (.tup xs)):Cy H' v x:=by
 cases x with
 | none=>exact h
 | some d=>obtain⟨t,e,a⟩:=h;exact⟨t,e,kt _ _ a⟩
theorem Xb.keep(k:∀ x o,ok x->H x=some o->H' x=some o)(kt:∀ t xs,H t=some (.tup xs)->H' t=some (.tup xs)):∀ {vs:List V} {ss:List Z1},Xb ok H vs ss->Xb ok H' vs ss
 | _,_,.nil=>.nil
 | _,_,.cons h hl tl hg hm gm hy iy o r=>.cons (kt _ _ h) (k _ _ o.1 hl) (tl.mono kt) (k _ _ o.2.1 hg) (k _ _ o.2.2.1 hm) (gm.keep k kt) (k _ _ o.2.2.2.1 hy) (iy.keep fun x hx _ q=>k _ _ (o.2.2.2.2 x hx) q) o (Xb.keep k kt r)
theorem Xb.imp(k:∀ x,(∃ o,H x=some o)->ok x->ok' x):∀ {vs:List V} {ss:List Z1},Xb ok H vs ss->Xb ok' H vs ss
 | _,_,.nil=>.nil
 | _,_,.cons h hl tl hg hm gm hy iy o r=>.cons h hl tl hg hm (gm.imp k) hy iy ⟨k _ ⟨_,hl⟩ o.1,k _ ⟨_,hg⟩ o.2.1,k _ ⟨_,hm⟩ o.2.2.1,k _ ⟨_,hy⟩ o.2.2.2.1,fun x hx=>k _ (let ⟨_,z⟩:=iy.has hx;⟨_,z⟩) (o.2.2.2.2 x hx)⟩ (Xb.imp k r)
theorem Xb.length:∀ {vs:List V} {ss:List Z1},Xb ok H vs ss->vs.length=ss.length
 | _,_,.nil=>rfl
 | _,_,.cons _ _ _ _ _ _ _ _ _ r=>by simp[Xb.length r]
theorem Xb.snoc(h:H t=some (.tup [.ref l,.ref g,.ref m,.ref y]))(hl:H l=some (.lst ts))(tl:TupL H ts (s.ms.map pV))(hg:H g=some (.lst s.gv))(hm:H m=some (.lst mts))(gm:We ok H mts s.gaps)
   (hy:H y=some (.lst (ls.map V.ref))) (iy:ILs H ls s.may) (o:ok l/\ok g/\ok m/\ok y/\∀ x∈ls,ok x):∀ {vs:List V} {ss:List Z1},Xb ok H vs ss->Xb ok H (vs++[.ref t]) (ss++[s])
 | _,_,.nil=>.cons h hl tl hg hm gm hy iy o .nil
 | _,_,.cons h' hl' tl' hg' hm' gm' hy' iy' o' r=>.cons h' hl' tl' hg' hm' gm' hy' iy' o' (Xb.snoc h hl tl hg hm gm hy iy o r)
theorem Xb.get:∀ {vs:List V} {ss:List Z1} {i:Nat} {x:V},Xb ok H vs ss->vs[i]?=some x->∃ t l g m y ts s,x=.ref t/\ss[i]?=some s/\H t=some (.tup [.ref l,.ref g,.ref m,.ref y])/\H l=some (.lst ts)/\TupL H ts (s.ms.map pV)/\H g=some (.lst s.gv)/\ok l/\ok g
 | _,_,_,_,.nil,e=>by simp at e
 | _,_,0,_,.cons h hl tl hg _ _ _ _ o _,e=>by simp at e;subst e;exact⟨_,_,_,_,_,_,_,rfl,rfl,h,hl,tl,hg,o.1,o.2.1⟩
 | _,_,i+1,x,.cons _ _ _ _ _ _ _ _ _ r,e=>by
   obtain⟨t,l,g,m,y,ts,s,h1,h2,h3⟩:=Xb.get (i:=i) (x:=x) r (by simpa using e);exact⟨t,l,g,m,y,ts,s,h1,by simpa using h2,h3⟩
structure PgAt(ok:Addr->Prop)(H:Hp)(d:Addr)(P:Pg):Prop where
 ex:∃ lp lo lv dv li lg lm pts ots vts mts,H d=some (.dK (pgF P.len P.rest lp lo lv dv li lg lm))/\H lp=some (.lst pts)/\TupL H pts (P.ppl.map pV)/\H lo=some (.lst ots)/\TupL H ots (P.out.map oiV)/\H lv=some (.lst vts)/\Xb ok H vts P.over/\Cy H dv P.deed/\Md ok H li P.lis/\H lg=some (.lst P.gv)/\H lm=some (.lst mts)/\We ok H mts P.mv /\
  (ok d/\ok lp/\ok lo/\ok lv/\ok lg/\ok lm)
theorem PgAt.keep(h:PgAt ok H d P)(k:∀ x o,ok x->H x=some o->H' x=some o)(kt:∀ t xs,H t=some (.tup xs)->H' t=some (.tup xs)):PgAt ok H' d P:=by
 obtain⟨lp,lo,lv,dv,li,lg,lm,pts,ots,vts,mts,a1,a2,a3,a4,a5,a6,a7,a8,a9,b1,b2,b3,o1,o2,o3,o4,o5,o6⟩:=h;exact⟨lp,lo,lv,dv,li,lg,lm,pts,ots,vts,mts,k _ _ o1 a1,k _ _ o2 a2,a3.mono kt,k _ _ o3 a4,a5.mono kt,k _ _ o4 a6,a7.keep k kt,a8.keep kt,a9.keep k kt,k _ _ o5 b1,k _ _ o6 b2,b3.keep k kt,o1,o2,o3,o4,o5,o6⟩
theorem PgAt.imp(h:PgAt ok H d P)(k:∀ x,(∃ o,H x=some o)->ok x->ok' x):PgAt ok' H d P:=by
 obtain⟨lp,lo,lv,dv,li,lg,lm,pts,ots,vts,mts,a1,a2,a3,a4,a5,a6,a7,a8,a9,b1,b2,b3,o1,o2,o3,o4,o5,o6⟩:=h;exact⟨lp,lo,lv,dv,li,lg,lm,pts,ots,vts,mts,a1,a2,a3,a4,a5,a6,a7.imp k,a8,a9.imp k,b1,b2,b3.imp k,k _ ⟨_,a1⟩ o1,k _ ⟨_,a2⟩ o2,k _ ⟨_,a4⟩ o3,k _ ⟨_,a6⟩ o4,k _ ⟨_,b1⟩ o5,k _ ⟨_,b2⟩ o6⟩
theorem PgAt.same(h:PgAt ok H d P)(e:Same H H'):PgAt ok H' d P:=h.keep (fun _ _ _ q=>e _ _ q) fun _ _ q=>e _ _ q
section
variable{len rest:Nat}{lp lo lv lg lm:Addr}{dv li:V}
theorem Ak:putK (pgF len rest lp lo lv dv li lg lm) (.inr "people") (.ref x)=pgF len rest x lo lv dv li lg lm:=rfl
theorem zgw:putK (pgF len rest lp lo lv dv li lg lm) (.inr "out") (.ref x)=pgF len rest lp x lv dv li lg lm:=rfl
theorem ze7:putK (pgF len rest lp lo lv dv li lg lm) (.inr "over") (.ref x)=pgF len rest lp lo x dv li lg lm:=rfl
theorem Ji:putK (pgF len rest lp lo lv dv li lg lm) (.inr "deed") v=pgF len rest lp lo lv v li lg lm:=rfl
theorem Jj:putK (pgF len rest lp lo lv dv li lg lm) (.inr "listed") v=pgF len rest lp lo lv dv v lg lm:=rfl
theorem Cz:putK (pgF len rest lp lo lv dv li lg lm) (.inr "goes") (.ref x)=pgF len rest lp lo lv dv li x lm:=rfl
theorem zcr:putK (pgF len rest lp lo lv dv li lg lm) (.inr "moves") (.ref x)=pgF len rest lp lo lv dv li lg x:=rfl
end
theorem ze8{len rest:Nat}{lp lo lv lg lm:Addr}{dv li:V}:(pgF len rest lp lo lv dv li lg lm).length<sizeLine:=by rw[sizeLine_eq];show 9<_;decide
def pg6(len rest:Nat)(lp lo lv:Addr)(dv:V):List (Key×V):=[(.inr "rounds",.int len),(.inr "rest",.int rest),(.inr "people",.ref lp),(.inr "out",.ref lo),(.inr "over",.ref lv),(.inr "deed",dv)]
theorem zcs{len rest:Nat}{lp lo lv:Addr}{dv:V}:Ss [] (pg6 len rest lp lo lv dv)=pg6 len rest lp lo lv dv:=rfl
theorem zgx{len rest:Nat}{lp lo lv:Addr}{dv x y z:V}:putK (putK (putK (pg6 len rest lp lo lv dv) (.inr "listed") x) (.inr "goes") y) (.inr "moves") z=pg6 len rest lp lo lv dv++[(.inr "listed",x),(.inr "goes",y),(.inr "moves",z)]:=rfl
theorem Me{len rest:Nat}{lp lo lv:Addr}{dv x y:V}:(pg6 len rest lp lo lv dv).length<sizeLine/\(putK (pg6 len rest lp lo lv dv) (.inr "listed") x).length<sizeLine/\(putK (putK (pg6 len rest lp lo lv dv) (.inr "listed") x) (.inr "goes") y).length<sizeLine:=by
 rw[sizeLine_eq];exact⟨by show 6<_;decide,by show 7<_;decide,by show 8<_;decide⟩
def Al(r q:Nat):Pg:=⟨r,q,[],[],[],none,none,[],[]⟩
inductive za9(vs:List V)(H:Hp)(Q:VK)(_:XK):Prop where
 | mk(r q:Nat)(_:vs=[.int r,.int q])(_:∀ d H',PgAt (fun x=>H x=none) H' d (Al r q)->Same H H'->H d=none->Q (.ref d) H')
def Mf(P:Pg):Prop:=P.over.length<=100/\P.rest<=100/\∀ s∈P.over,s.ms.length<=20/\s.gv.length=s.ms.length/\∀ x∈s.gv,oneV x
def ze9(kvs:List (List Key×V))(P:Pg):Prop:=∀ n c:Int,(valV kvs [inl n,inl c]).isSome=Rl (P.over.map Yb) n c P.rest
inductive zba(K:Frag)(vs:List V)(H:Hp)(Q:VK)(_:XK):Prop where
 | mk(ok:Addr->Prop)(d:Addr)(P:Pg)(_:vs=[.ref d])(_:PgAt ok H d P)(_:Mf P)(_:∀ m kvs H',H' m=some (.dT kvs)->ze9 kvs P->Same H H'->H m=none->Q (.ref m) H')
theorem zfa(xs:List V)(n r:Nat):Io xs (some (if ((n:Int)-r)>0 then (n:Int)-r else 0)) none=xs.drop ((n:Int)-r).toNat:=by
 have e:(if ((n:Int)-r)>0 then (n:Int)-r else 0)=((((n:Int)-r).toNat:Nat):Int):=by split<;>omega
 rw[e];exact zce xs _
theorem Xb.drop:∀ (k:Nat) {vs:List V} {ss:List Z1},Xb ok H vs ss->Xb ok H (vs.drop k) (ss.drop k)
 | 0,_,_,h=>h
 | _+1,_,_,.nil=>.nil
 | k+1,_,_,.cons _ _ _ _ _ _ _ _ _ r=>Xb.drop k r
def HitI(ss:List Z1)(i j:Nat)(n c:Int):Prop:=(∃ s∈ss.take i,∃ r∈Yb s,hit n c r=true)\/∃ s,ss[i]?=some s/\∃ r∈(Yb s).take j,hit n c r=true
def Od(kvs:List (List Key×V))(ss:List Z1)(i j:Nat):Prop:=∀ n c:Int,(valV kvs [inl n,inl c]).isSome=true↔HitI ss i j n c
theorem Wa{α:Type}{l:List α}{j:Nat}{x:α}(h:l[j]?=some x):l.take (j+1)=l.take j++[x]:=by rw[zua,h];rfl
theorem Od.zero(ss:List Z1):Od [] ss 0 0:=fun n c=>by
 unfold HitI;simp[zdv]
theorem Od.next{kvs:List (List Key×V)}{ss:List Z1}{i:Nat}{s:Z1}(h:Od kvs ss i (Yb s).length)(hs:ss[i]?=some s):Od kvs ss (i+1) 0:=fun n c=>by
 rw[h n c];unfold HitI;rw[Wa hs,hs];constructor
 ·rintro(⟨s',h1,h2⟩|⟨s',h1,r,h2,h3⟩)
  ·exact .inl ⟨s',zt7 _ h1,h2⟩
  ·cases h1;exact .inl ⟨s,ztx _ (zu9 _),r,List.mem_of_mem_take h2,h3⟩
 ·rintro(⟨s',h1,r,h2,h3⟩|⟨s',h1,r,h2,h3⟩)
  ·rcases ztl.mp h1 with h1|h1
   ·exact .inl ⟨s',h1,r,h2,h3⟩
   ·cases zte.mp h1;exact .inr ⟨_,rfl,r,by rw[ztq];exact h2,h3⟩
  ·simp at h2
theorem HitI.succ{ss:List Z1}{i j:Nat}{n c:Int}{s:Z1}{r:Row}(hs:ss[i]?=some s)(hr:(Yb s)[j]?=some r):HitI ss i (j+1) n c↔HitI ss i j n c\/hit n c r=true:=by
 unfold HitI;rw[hs];constructor
 ·rintro(z|⟨s',h1,r',h2,h3⟩)
  ·exact .inl (.inl z)
  ·cases h1;rw[Wa hr] at h2;rcases ztl.mp h2 with h2|h2
   ·exact .inl (.inr ⟨_,rfl,r',h2,h3⟩)
   ·cases zte.mp h2;exact .inr h3
 ·rintro((z|⟨s',h1,r',h2,h3⟩)|z)
  ·exact .inl z
  ·cases h1;exact .inr ⟨_,rfl,r',by rw[Wa hr];exact zt7 _ h2,h3⟩
  ·exact .inr ⟨_,rfl,r,by rw[Wa hr];exact ztx _ (zu9 _),z⟩
theorem Od.none(h:Od kvs ss i j)(hs:ss[i]?=some s)(hr:(Yb s)[j]?=some r)(hw:r.w=none):Od kvs ss i (j+1):=fun n c=>by
 rw[h n c,HitI.succ hs hr];unfold hit;rw[hw];simp
theorem Od.some(h:Od kvs ss i j)(hs:ss[i]?=some s)(hr:(Yb s)[j]?=some r)(hw:r.w=some w):Od (putK (putK kvs [inl w,inl r.h] v) [inl w,inl r.g] v') ss i (j+1):=fun n c=>by
 rw[HitI.succ hs hr,<- h n c,Va,Va];unfold hit;rw[hw];by_cases e1:([inl n,inl c]:List Key)=[inl w,inl r.g]
 ·rw[if_pos e1];have:=e1;simp at this;obtain⟨rfl,rfl⟩:=this;simp
 ·rw[if_neg e1];by_cases e2:([inl n,inl c]:List Key)=[inl w,inl r.h]
  ·rw[if_pos e2];have:=e2;simp at this;obtain⟨rfl,rfl⟩:=this;simp
  ·rw[if_neg e2];constructor
   ·exact .inl
   ·rintro(z|z)
    ·exact z
    ·exfalso
     simp at z e1 e2;obtain⟨z1,z2|z2⟩:=z
     ·exact e2 z1.symm z2.symm
     ·exact e1 z1.symm z2.symm
theorem Od.all(h:Od kvs (P.over.drop k) (P.over.drop k).length 0)(hk:k=((P.over.length:Int)-P.rest).toNat):ze9 kvs P:=fun n c=>by
 apply zve.mpr;rw[h n c,zcd (Int.natCast_nonneg _),zta,<- hk,<- List.map_drop];unfold HitI;rw[ztq];constructor
 ·rintro(⟨s,h1,h2⟩|⟨s,h1,r,h2,_⟩)
  ·exact⟨Yb s,ztk.mpr ⟨s,h1,rfl⟩,h2⟩
  ·simp at h2
 ·rintro⟨rs,h1,h2⟩;obtain⟨s,h3,rfl⟩:=ztk.mp h1;exact .inl ⟨s,h3,h2⟩
end G
namespace L2
open PySem PySem.Spec PyProof.Rows G
def Vu(x:Int×Int):Dt:=.tup [.int x.1,.int x.2]
theorem Jk{K:Frag}{H:Hp}:∀ {ts:List V} {ps:List (Int×Int)},TupL H ts (ps.map oiV)->X7 K H ts (ps.map Vu)
 | _,[],h=>by cases h;exact .nil
 | _,p :: ps,h=>by
   rw[zto] at h;cases h with
   | cons e r=>exact .cons (.tup (SqT.of e) (.cons (.int _) (.cons (.int _) .nil))) (Jk r)
theorem Mg:∀ ps:List (Int×Int),PyData.canLayAll0 (X0 (ps.map Vu))=true
 | []=>rfl
 | p :: ps=>by
   rw[zto,X0,PyData.canLayAll0,Mg ps];rfl
theorem Mh:∀ ps:List (Int×Int),((X0 (ps.map Vu)).any fun y=>PyData.eqv y (toPy (Vu (a,b))))=decide ((a,b)∈ps)
 | []=>by simp[X0]
 | p :: ps=>by
   rw[zto,X0,zvj,Mh ps,O5];obtain⟨p1,p2⟩:=p;have e:eqD (Vu (p1,p2)) (Vu (a,b))=decide ((a,b)=(p1,p2)):=by
    rw[Vu,Vu,eqD,Q8,Q8,Q8,eqD,eqD];by_cases h1:p1=a
    ·by_cases h2:p2=b
     ·subst h1;subst h2;simp
     ·rw[zth (fun z=>h2 (Prod.mk.inj z).2.symm)];simp[h2]
    ·rw[zth (fun z=>h1 (Prod.mk.inj z).1.symm)];simp[h1]
   rw[e,<- Bool.decide_or];exact decide_eq_decide.mpr ztg.symm
inductive zgy(K:Frag)(neg:Bool)(x:V)(y:V)(H:Hp)(Q:VK):Prop where
 | mk(t p:Addr)(ts:List V)(a b:Int)(ps:List (Int×Int))(_:x=.ref t)(_:y=.ref p)(_:SqT K H t [.int a,.int b])(_:SqL K H p ts)(_:TupL H ts (ps.map oiV))(_:Q (.bl (if neg then !decide ((a,b)∈ps) else decide ((a,b)∈ps))) H)
section
variable{X:Cx}{K:Frag}
theorem C0(hu:X.A.units+64<cLine):OpR X (compareOp .In) (zgy X.K false):=by
 intro pins s σ H x y v u Q I rx ry h;obtain⟨t,p,ts,a,b,ps,rfl,rfl,ht,hp,tl,q⟩:=h;obtain⟨as,r1⟩:=Is.reads I (Is.tup ht (.cons (.int a) (.cons (.int b) .nil)):Is X.K H (.ref t) (Vu (a,b))) rx;have r1:Reads s.heap v (toPy (Vu (a,b))) as:=r1;obtain⟨bs,r2⟩:=Is.reads I (Is.lst hp (Jk tl)) ry;rw[toPy] at r2;have hd:(toPy (Vu (a,b))).depth=1:=rfl;refine SeqAt.in_list_reads r2 r1 (Mg ps) rfl ?_ ?_
 ·have:=Nat.min_le_right (PyData.depthAll (X0 (ps.map Vu))) (toPy (Vu (a,b))).depth;rw[hd] at this ⊢;omega
 ·rw[Mh];exact⟨.bl _,H,I,rfl,q⟩
theorem Jl(hu:X.A.units+64<cLine):OpR X (compareOp .NotIn) (zgy X.K true):=by
 intro pins s σ H x y v u Q I rx ry h;obtain⟨t,p,ts,a,b,ps,rfl,rfl,ht,hp,tl,q⟩:=h;obtain⟨as,r1⟩:=Is.reads I (Is.tup ht (.cons (.int a) (.cons (.int b) .nil)):Is X.K H (.ref t) (Vu (a,b))) rx;have r1:Reads s.heap v (toPy (Vu (a,b))) as:=r1;obtain⟨bs,r2⟩:=Is.reads I (Is.lst hp (Jk tl)) ry;rw[toPy] at r2;have hd:(toPy (Vu (a,b))).depth=1:=rfl;refine SeqAt.notIn_list_reads r2 r1 (Mg ps) rfl ?_ ?_
 ·have:=Nat.min_le_right (PyData.depthAll (X0 (ps.map Vu))) (toPy (Vu (a,b))).depth;rw[hd] at this ⊢;omega
 ·rw[Mh];exact⟨.bl _,H,I,rfl,q⟩
theorem El(hK:X.K=K)(hu:X.A.units+64<cLine):OpR X (compareOp .In) (zgy K false):=hK▸C0 hu
theorem L4(hK:X.K=K)(hu:X.A.units+64<cLine):OpR X (compareOp .NotIn) (zgy K true):=hK▸Jl hu
end
end L2
namespace G
open PySem PySem.Spec PyProof.Rows L2
def Pb(P:Pg)(x m:P3):List Str:=whyS (P.over.map Yb) x.1 x.2.1 x.2.2 m.1 m.2.1 m.2.2 (decide (((P.over.length:Int)+1,x.1)∈P.out)) P.rest
inductive C2(K:Frag)(vs:List V)(H:Hp)(Q:VK)(_:XK):Prop where
 | mk(ok:Addr->Prop)(d m t1 t2:Addr)(P:Pg)(kvs:List (List Key×V))(x y:P3)(_:vs=[.ref d,.ref m,.ref t1,.ref t2])(_:PgAt ok H d P)(_:H m=some (.dT kvs))(_:ze9 kvs P)(_:H t1=some (.tup (pV x)))(_:H t2=some (.tup (pV y)))(_:∀ l H',H' l=some (.lst ((Pb P x y).map V.str))->Same H H'->H l=none->Q (.ref l) H')
def mayP(P:Pg)(ms:List P3):List (List Int):=ms.map fun m=>(P.ppl.filter fun x=>(Pb P x m).isEmpty).map (·.1)
theorem zct(h1:P.ppl=S.ppl)(h2:P.over.map Yb=S.led)(h3:P.out=S.out)(h4:P.rest=S.rest)(h5:((P.over.length:Int)+1)=atV S)(ms:List P3):mayP P ms=mayS S ms:=by
 unfold mayP mayS;refine zux fun m _=>?_;unfold Jb Pb pIn;rw[h1,h2,h3,h4,h5]
inductive Am(K:Frag)(vs:List V)(H:Hp)(Q:VK)(_:XK):Prop where
 | mk(ok:Addr->Prop)(d:Addr)(P:Pg)(ms:List P3)(_:vs=[.ref d])(_:PgAt ok H d P)(_:Mf P)(_:P.lis=some ms)(_:ms.length<=100)(_:P.ppl.length<=100)(_:∀ l ls H',H' l=some (.lst (ls.map V.ref))->ILs H' ls (mayP P ms)->Same H H'->H l=none->(∀ x∈ls,H x=none)->Q (.ref l) H')
theorem zgz(r:List Str)(ok:∀ w∈r,PyData.strOk w=true):shD (.lst (r.map Dt.str)):=by
 have h:PyData.canLayAll0 (X0 (r.map Dt.str))=true/\PyData.depthAll (X0 (r.map Dt.str))<=1:=by
  induction r with
  | nil=>exact⟨rfl,by decide⟩
  | cons x r ih =>
    obtain⟨h1,h2⟩:=ih fun w hw=>ok w (ztr _ hw);have h0:=ok x (zt3);refine⟨?_,?_⟩
    ·rw[zto,X0,PyData.canLayAll0,h1];simp[toPy,PyData.canLay0,h0]
    ·rw[zto,X0,PyData.depthAll];have:PyData.depth (toPy (Dt.str x))<=1:=by simp[toPy,PyData.depth]
     omega
 unfold shD SeqAt.shaped;rw[toPy,PyData.canLay0,h.1,Bool.true_and];refine ztf ?_;rw[PyData.depth];have:=h.2;omega
theorem Jm{K:Frag}{H:Hp}:∀ ws:List Str,X7 K H (ws.map V.str) (ws.map Dt.str)
 | []=>.nil
 | w :: ws=>.cons (.str w) (Jm ws)
theorem zi8(h:x∈bw b w):x=w:=by
 cases b<;>simp[bw] at h;exact h
theorem zg0{Rs:List (List Row)}{n g c h gu d:Int}{o:Bool}{rest:Int}:∀ w∈whyS Rs n g c h gu d o rest,PyData.strOk w=true:=fun w hw=>by
 unfold whyS at hw;simp only[ztl] at hw;rcases hw with z|z|z|z<;>rw[zi8 z]<;>decide +kernel
def Xj(H H':Hp):Prop:=(∀ x ys,H x=some (.lst ys)->H' x=some (.lst ys))/\∀ x ys,H x=some (.tup ys)->H' x=some (.tup ys)
theorem Xj.dict(h:H d=some (.dK kvs)):Xj H (upd H d (.dK kvs')) :=
 ⟨fun x ys e=>by rw[Zi (Yo e h (by intro z;cases z))];exact e,fun x ys e=>by rw[Zi (Yo e h (by intro z;cases z))];exact e⟩
theorem Xj.trans(a:Xj H H')(b:Xj H' H''):Xj H H'':=⟨fun x ys e=>b.1 _ _ (a.1 _ _ e),fun x ys e=>b.2 _ _ (a.2 _ _ e)⟩
theorem Xj.of(e:Same H H'):Xj H H':=⟨fun x ys z=>e _ _ z,fun x ys z=>e _ _ z⟩
theorem We.keepL(k:Xj H H'):∀ {ts:List V} {G:zi7},We ok H ts G->We ok H' ts G
 | _,_,.nil=>.nil
 | _,_,.cons h hl tl o r=>.cons (k.2 _ _ h) (k.1 _ _ hl) (tl.mono k.2) o (We.keepL k r)
theorem ILs.keepL(k:Xj H H'):∀ {ls:List Addr} {R:List (List Int)},ILs H ls R->ILs H' ls R
 | _,_,.nil=>.nil
 | _,_,.cons h n=>.cons (k.1 _ _ h) (ILs.keepL k n)
theorem Md.keepL(k:Xj H H')(h:Md ok H v x):Md ok H' v x:=by
 cases x with
 | none=>exact h
 | some ms=>obtain⟨l,ts,e,a,b,o⟩:=h;exact⟨l,ts,e,k.1 _ _ a,b.mono k.2,o⟩
theorem Xb.keepL(k:Xj H H'):∀ {vs:List V} {ss:List Z1},Xb ok H vs ss->Xb ok H' vs ss
 | _,_,.nil=>.nil
 | _,_,.cons h hl tl hg hm gm hy iy o r=>.cons (k.2 _ _ h) (k.1 _ _ hl) (tl.mono k.2) (k.1 _ _ hg) (k.1 _ _ hm) (gm.keepL k) (k.1 _ _ hy) (ILs.keepL k iy) o (Xb.keepL k r)
structure PgB(ok:Addr->Prop)(H:Hp)(P:Pg)(lp lo lv:Addr)(dv li:V)(lg lm:Addr):Prop where
 pp:∃ pts,H lp=some (.lst pts)/\TupL H pts (P.ppl.map pV)/\ok lp
 oo:∃ ots,H lo=some (.lst ots)/\TupL H ots (P.out.map oiV)/\ok lo
 vv:∃ vts,H lv=some (.lst vts)/\Xb ok H vts P.over/\ok lv
 dd:Cy H dv P.deed
 li:Md ok H li P.lis
 gg:H lg=some (.lst P.gv)/\ok lg
 mm:∃ mts,H lm=some (.lst mts)/\We ok H mts P.mv/\ok lm
theorem PgB.keepL{ok:Addr->Prop}{H H':Hp}{P:Pg}{lp lo lv:Addr}{dv li:V}{lg lm:Addr}(h:PgB ok H P lp lo lv dv li lg lm)(k:Xj H H'):PgB ok H' P lp lo lv dv li lg lm:=by
 obtain⟨⟨p1,p2,p3,p4⟩,⟨o1,o2,o3,o4⟩,⟨v1,v2,v3,v4⟩,dd,li,⟨g1,g2⟩,m1,m2,m3,m4⟩:=h;exact⟨⟨p1,k.1 _ _ p2,p3.mono k.2,p4⟩,⟨o1,k.1 _ _ o2,o3.mono k.2,o4⟩,⟨v1,k.1 _ _ v2,v3.keepL k,v4⟩,dd.keep k.2,li.keepL k,⟨k.1 _ _ g1,g2⟩,m1,k.1 _ _ m2,m3.keepL k,m4⟩
theorem PgB.imp{ok ok':Addr->Prop}{H:Hp}{P:Pg}{lp lo lv:Addr}{dv li:V}{lg lm:Addr}(h:PgB ok H P lp lo lv dv li lg lm)(k:∀ x,(∃ o,H x=some o)->ok x->ok' x):PgB ok' H P lp lo lv dv li lg lm:=by
 obtain⟨⟨p1,p2,p3,p4⟩,⟨o1,o2,o3,o4⟩,⟨v1,v2,v3,v4⟩,dd,li,⟨g1,g2⟩,m1,m2,m3,m4⟩:=h;exact⟨⟨p1,p2,p3,k _ ⟨_,p2⟩ p4⟩,⟨o1,o2,o3,k _ ⟨_,o2⟩ o4⟩,⟨v1,v2,v3.imp k,k _ ⟨_,v2⟩ v4⟩,dd,li.imp k,⟨g1,k _ ⟨_,g1⟩ g2⟩,m1,m2,m3.imp k,k _ ⟨_,m2⟩ m4⟩
theorem PgAt.split(h:PgAt ok H d P):∃ lp lo lv dv li lg lm,H d=some (.dK (pgF P.len P.rest lp lo lv dv li lg lm))/\PgB ok H P lp lo lv dv li lg lm/\ok d:=by
 obtain⟨lp,lo,lv,dv,li,lg,lm,pts,ots,vts,mts,a1,a2,a3,a4,a5,a6,a7,a8,a9,b1,b2,b3,o1,o2,o3,o4,o5,o6⟩:=h;exact⟨lp,lo,lv,dv,li,lg,lm,a1,⟨⟨_,a2,a3,o2⟩,⟨_,a4,a5,o3⟩,⟨_,a6,a7,o4⟩,a8,a9,⟨b1,o5⟩,_,b2,b3,o6⟩,o1⟩
theorem PgAt.join{ok:Addr->Prop}{H:Hp}{d:Addr}{P:Pg}{lp lo lv:Addr}{dv li:V}{lg lm:Addr}(hd:H d=some (.dK (pgF P.len P.rest lp lo lv dv li lg lm)))(h:PgB ok H P lp lo lv dv li lg lm)(o:ok d):PgAt ok H d P:=by
 obtain⟨⟨p1,p2,p3,p4⟩,⟨o1,o2,o3,o4⟩,⟨v1,v2,v3,v4⟩,dd,li',⟨g1,g2⟩,m1,m2,m3,m4⟩:=h;exact⟨lp,lo,lv,dv,li,lg,lm,p1,o1,v1,m1,hd,p2,p3,o2,o3,v2,v3,dd,li',g1,m2,m3,o,p4,o4,v4,g2,m4⟩
theorem PgAt.other(h:PgAt ok H d P)(n:d≠e)(he:H e=some (.dK kvs)):PgAt ok (upd H e (.dK kvs')) d P:=by
 obtain⟨lp,lo,lv,dv,li,lg,lm,a1,a2,a3⟩:=h.split;exact .join (by rw[Zi n];exact a1) (a2.keepL (.dict he)) a3
theorem PgAt.setGoes(h:PgAt ok H d P)(hl:H l=some (.lst xs))(ol:ok l):∃ kvs,H d=some (.dK kvs)/\kvs.length<sizeLine/\PgAt ok (upd H d (.dK (putK kvs (.inr "goes") (.ref l)))) d { P with gv:=xs }:=by
 obtain⟨lp,lo,lv,dv,li,lg,lm,a1,a2,a3⟩:=h.split;refine⟨_,a1,ze8,?_⟩;rw[Cz];have b:=a2.keepL (.dict a1 (kvs':=pgF P.len P.rest lp lo lv dv li l lm));exact .join (P:={ P with gv:=xs }) Zc ⟨b.pp,b.oo,b.vv,b.dd,b.li,⟨(Xj.dict a1).1 _ _ hl,ol⟩,b.mm⟩ a3
def Vw(P:Pg):Qd->Pg
 | .enrol n g c=>{ P with ppl:=P.ppl++[(n,g,c)],deed:=some ("enrol",n,(P.over.length:Int)+1) }
 | .away i n=>{ P with out:=P.out++[(i,n)],deed:=some ("away",n,i) }
 | .draw ms=>{ P with lis:=some ms,deed:=some ("draw up",(ms.length:Int),(P.over.length:Int)+1) }
 | .close=>{ P with over:=P.over++[⟨P.lis.getD [],mayP P (P.lis.getD []),P.gv,P.mv⟩],lis:=none,gv:=[],mv:=[] }
 | .back=>P
def An(ds:List Addr)(d d':Addr):Qd->List Addr
 | .back=>ds
 | .close=>[d']
 | _=>ds++[d]++[d']
inductive Em(K:Frag)(vs:List V)(H:Hp)(Q:VK)(_:XK):Prop where
 | mk(ok:Addr->Prop)(l t:Addr)(ds:List Addr)(d:Addr)(P:Pg)(D:Qd)(_:vs=[.ref l,.ref t])(_:H l=some (.lst ((ds++[d]).map V.ref)))(_:PgAt ok H d P)(_:Wj ok H t D)(_:Mf P)(_:P.ppl.length<=100)(_:P.out.length<=900)(_:ds.length<=900)(_:(D=.close->∃ ms,P.lis=some ms/\ms.length<=100))(_:∀ l' d' H',H' l'=some (.lst ((An ds d d' D).map V.ref))->(D≠.back->PgAt (fun x=>ok x\/H x=none) H' d' (Vw P D))->Same H H'->H l'=none->H d'=none->Q (.ref l') H')
theorem zfb(xs:List V)(x:V):Io (xs++[x]) none (some (-1))=xs:=by
 unfold Io HT.sIx;simp;rw[show (-1+((xs.length:Int)+1)).toNat=xs.length by omega,List.take_left]
def Ao(ms:List P3):Prop:=(∀ m∈ms,¬ badM m)/\∀ m∈ms,m.1≠m.2.1
inductive Lo(K:Frag)(vs:List V)(H:Hp)(Q:VK)(_:XK):Prop where
 | mk(b:Addr)(ns:List Int)(cell:Int)(most mixed:Nat)(_:vs=[.int cell,.ref b,.int most,.int mixed])(_:H b=some (.lst (ns.map V.int)))(_:2<=ns.length)(_:ns.length<=100)(_:ns.Nodup)(_:(∀ n∈ns,1<=n/\n<=99))(_:most<=20)(_:mixed<=1)(_:∀ l ts ms H',H' l=some (.lst ts)->TupL H' ts (ms.map pV)->ms.length<=most->Ao ms->Same H H'->H l=none->Q (.ref l) H')
def enV(x:P3):List V:=[.str "enrol",.int x.1,.int x.2.1,.int x.2.2]
inductive Jn(K:Frag)(vs:List V)(H:Hp)(Q:VK)(_:XK):Prop where
 | mk(b t lc ln:Addr)(ns cs nu:List Int)(_:vs=[.ref b,.ref t])(_:SqL K H b (ns.map V.int))(_:Oc H t lc ln cs nu)(_:∀ l ts (es:List P3) H',H' l=some (.lst ts)->TupL H' ts (es.map enV)->es.map (·.1)=nu.take es.length->es.length<=nu.length->(∀ x∈es,1<=x.2.1/\x.2.1<=9/\x.2.2∈cs)->Same H H'->H l=none->Q (.ref l) H')
def zfc(P:Pg)(ds:List Addr)(cs nu:List Int)(most:Nat):Qd->Prop
 | .enrol n g c=>P.lis=none/\n∈nu/\n∉P.ppl.map (·.1)/\1<=g/\g<=9/\c∈cs
 | .away i n=>(P.over.length:Int)<i/\i<=P.len/\n∈P.ppl.map (·.1)/\(i,n)∉P.out
 | .draw ms=>P.lis=none/\ms.length<=most/\Ao ms
 | .close=>P.lis≠none
 | .back=>ds≠[]
inductive C3(K:Frag)(vs:List V)(H:Hp)(Q:VK)(_:XK):Prop where
 | mk(ok:Addr->Prop)(l t lc ln:Addr)(ds:List Addr)(d:Addr)(P:Pg)(cell:Int)(cs nu:List Int)(most mixed:Nat)(_:vs=[.ref l,.int cell,.ref t,.int most,.int mixed])(_:H l=some (.lst ((ds++[d]).map V.ref)))(_:PgAt ok H d P)(_:Oc H t lc ln cs nu)(_:most<=20)(_:mixed<=1)(_:P.over.length<P.len)(_:P.ppl.length<=100)(_:∀ t' D H',Wj (fun x=>H x=none) H' t' D->zfc P ds cs nu most D->Same H H'->H t'=none->Q (.ref t') H')
theorem Fg(h1:Gr t σ H b)(h2:∀ H1,Same H H1->Gr u σ H1 c):Gr (zhv t u) σ H (b&&c):=fun Q h=>by
 refine h1 _ fun H1 s1=>?_;cases b with
 | true=>exact h2 H1 s1 _ fun H2 s2=>h H2 (s1.trans s2)
 | false=>exact h H1 s1
theorem Lp{K:Frag}{H:Hp}:∀ ns:List Int,X7 K H (ns.map V.int) (ns.map Dt.int)
 | []=>.nil
 | w :: ws=>.cons (.int w) (Lp ws)
theorem Lq{K:Frag}{σ:L2.St}{H:Hp}{i:Nat}{l:Addr}{ns:List Int}(hv:σ[i]?=some (some (.ref l)))(hl:H l=some (.lst (ns.map V.int))):Gr (zhf (tOp (zea K true) (Ft i) (Bx Bw))) σ H (!ns.isEmpty):=fun Q q=>by
 refine⟨_,hv,zt4 _,fun le hle=>?_⟩;have s:=Ze (o:=.lst []) hle;refine⟨_,_,.lst (SqL.of (s _ _ hl)) (Lp _),.lst (SqL.of Zc) .nil,zaw _,zax,_,rfl,?_⟩;rw[if_pos rfl,zay];exact q _ s
theorem Md.some(h:Md ok H v x):(!decide (v=V.non))=x.isSome:=by
 cases x with
 | none=>cases (show v=V.non from h);rfl
 | some ms=>obtain⟨l,ts,rfl,_⟩:=h;rfl
theorem zfd{h y n:Int}(h0:0<=h)(h1:h<n)(y0:1<=y)(y1:y<=n-1):0<=(h+y)%n/\(h+y)%n<n/\(h+y)%n≠h:=by
 have hn:0<n:=by omega
 refine⟨zuj _ ⋯,zuc _ hn,?_⟩;by_cases c:h+y<n
 ·rw[Int.emod_eq_of_lt ⋯ c];omega
 ·have e:(h+y)%n=h+y-n:=by
   rw[<- Int.sub_emod_right,Int.emod_eq_of_lt ⋯ ⋯]
  omega
theorem at2(x y:Int){k:Nat}(h:k<=1):∃ z,atI [V.int x,V.int y] (k:Int)=some (.int z):=by
 match k,h with
 | 0,_=>exact⟨x,rfl⟩
 | 1,_=>exact⟨y,rfl⟩
def En:List Int:=[1,2,3,4,5,6,7,8,9,1,1,1,1,2,2,3,3,4]
theorem Ap:∀ k,k<18->1<=En.getD k 0/\En.getD k 0<=9:=by decide
def Eo:List Int:=[1,2,3,4,5,6,7,8,9,9,9,9,9,8,8,7,6,5]
theorem Aq:∀ k,k<18->1<=Eo.getD k 0/\Eo.getD k 0<=9:=by decide
theorem Ep{ns:List Int}{i:Nat}(hi:i<ns.length):ns.getD i 0=ns[i]:=by
 rw[zt1,ztb hi];rfl
theorem zfe{ns:List Int}(nd:ns.Nodup){i j:Nat}(hi:i<ns.length)(hj:j<ns.length)(h:ns.getD i 0=ns.getD j 0):i=j:=by
 rw[Ep hi,Ep hj] at h;exact(List.getElem_inj nd).mp h
theorem Uw{ns:List Int}{i:Nat}(hi:i<ns.length):ns.getD i 0∈ns:=by
 rw[Ep hi];exact zue hi
def Si(mb:Bool)(s:Z1):Z1:=if mb then s else { s with gaps:=[] }
theorem zg1(h:Si mb s=Si mb s'):s.ms=s'.ms/\s.may=s'.may/\s.gv=s'.gv/\(mb=true->s=s'):=by
 unfold Si at h;cases mb with
 | true=>simp at h;subst h;exact⟨rfl,rfl,rfl,fun _=>rfl⟩
 | false=>simp at h;exact⟨h.1,h.2.1,h.2.2,fun z=>nomatch z⟩
theorem zcu(mb:Bool)(s:Z1):Yb (Si mb s)=Yb s:=by
 unfold Si;cases mb<;>rfl
structure RelB(mb:Bool)(P:Pg)(S:Sea):Prop where
 len:P.len=S.len
 rest:P.rest=S.rest
 ppl:P.ppl=S.ppl
 out:P.out=S.out
 over:P.over.map (Si mb)=S.old.map (Si mb)
 lis:P.lis=S.cur.map (·.ms)
def Lr(S:Sea):zi7:=match S.cur with|some s=>s.gaps|none=>[]
theorem Ar(h:S.cur=some s):Lr S=s.gaps:=by unfold Lr;rw[h]
theorem Oe(h:S.cur=none):Lr S=[]:=by unfold Lr;rw[h]
structure Rel(mb:Bool)(P:Pg)(S:Sea):Prop where
 b:RelB mb P S
 gv:∀ s,S.cur=some s->P.gv=s.gv
 mv:mb=true->P.mv=Lr S
structure SOk(nu:List Int)(n:Nat)(S:Sea):Prop where
 cur:ze5 S
 nd:(S.ppl.map (·.1)).Nodup
 ppl:∀ x∈S.ppl,x.1∈nu/\¬ badI x.1 x.2.1 x.2.2
 few:S.ppl.length<=30
 led:S.led=S.old.map Yb
 old:∀ s∈S.old,s.ms.length<=20/\s.gv.length=s.ms.length/\∀ x∈s.gv,oneV x
 len:S.led.length<=S.len/\S.len<=60/\S.rest<=10
 lt:S.cur≠none->S.led.length<S.len
 num:S.out.length<=n/\S.std.length<=n
 gp:∀ s,S.cur=some s\/s∈S.old->s.gaps.length<=n/\∀ x∈s.gaps,x.2.length<=100
theorem SOk.mono(h:SOk nu n S)(e:n<=m):SOk nu m S:=⟨h.cur,h.nd,h.ppl,h.few,h.led,h.old,h.len,h.lt,⟨zts h.num.1 e,zts h.num.2 e⟩,fun s hs=>⟨zts (h.gp s hs).1 e,(h.gp s hs).2⟩⟩
theorem SOk.pok(h:SOk nu n S):Qb S:=⟨fun x hx=>(h.ppl x hx).2,h.few⟩
theorem SOk.olen(h:SOk nu n S):S.old.length=S.led.length:=by rw[h.led,zta]
theorem zff:∀ (Rs:List (List Row)),(∀ rs∈Rs,rs.length<=k)->tot Rs<=k*Rs.length
 | [],_=>by simp[tot]
 | rs :: Rs,h=>by
   have h1:=h rs (zt3);have h2:=zff Rs fun x hx=>h x (ztr _ hx);unfold tot at *;simp only[zto,List.sum_cons,ztt,Nat.mul_succ];omega
theorem SOk.tot(h:SOk nu n S):G.tot S.led<=1200:=by
 have h1:=zff (k:=20) S.led fun rs hrs=>by
  rw[h.led] at hrs;obtain⟨s,hs,rfl⟩:=ztk.mp hrs;have:=h.old s hs;unfold Yb;rw[List.length_zipWith];omega
 have:=h.len;omega
theorem RelB.rows(r:RelB mb P S):P.over.map Yb=S.old.map Yb:=by
 have e:∀ l:List Z1,l.map Yb=(l.map (Si mb)).map Yb:=fun l=>by
  rw[zu4];exact zux fun s _=>(zcu mb s).symm
 rw[e,r.over,<- e]
theorem RelB.olen(r:RelB mb P S):P.over.length=S.old.length:=by
 have:=congrArg List.length r.over
 simpa using this
theorem RelB.ovok(r:RelB mb P S)(o:SOk nu n S):Mf P:=by
 have h1:=r.olen;have h2:=o.olen;have h3:=o.len;refine⟨by omega,by rw[r.rest];omega,fun s hs=>?_⟩;have:Si mb s∈S.old.map (Si mb):=by rw[<- r.over];exact ztk.mpr ⟨s,hs,rfl⟩
 obtain⟨s',hs',e⟩:=ztk.mp this;obtain⟨e1,e2,e3,_⟩:=zg1 e;rw[<- e1,<- e3];exact o.old s' hs'
theorem RelB.may(r:RelB mb P S)(o:SOk nu n S)(ms:List P3):mayP P ms=mayS S ms :=
 zct r.ppl (by rw[r.rows,o.led]) r.out r.rest (by unfold atV;rw[r.olen,o.olen]) ms
theorem RelB.at(r:RelB mb P S)(o:SOk nu n S):(P.over.length:Int)+1=atV S:=by unfold atV;rw[r.olen,o.olen]
theorem RelB.undrawn(r:RelB mb P S)(h:P.lis=none):S.cur=none:=by
 have:=r.lis;rw[h] at this;cases e:S.cur with
 | none=>rfl
 | some s=>rw[e] at this;cases this
theorem RelB.drawn(r:RelB mb P S)(h:P.lis=some ms):∃ s,S.cur=some s/\s.ms=ms:=by
 have:=r.lis;rw[h] at this;cases e:S.cur with
 | none=>rw[e] at this;cases this
 | some s=>rw[e] at this;exact⟨s,rfl,(Option.some.inj this).symm⟩
theorem Er{l m:List Int}(nd:l.Nodup)(h:∀ x∈l,x∈m):l.length<=m.length:=by
 induction l generalizing m with
 | nil=>exact zt4 _
 | cons x l ih =>
   have hx:=h x (zt3);obtain⟨h1,h2⟩:=ztz.mp nd;have:=ih (m:=m.erase x) h2 fun y hy=>(List.mem_erase_of_ne (fun z=>h1 (by rw[<- z];exact hy))).mpr (h y (ztr _ hy));rw[List.length_erase_of_mem hx] at this;have:=zvc hx;simp only[ztt];omega
theorem zg2{mb:Bool}{P:Pg}{S:Sea}{nu cs:List Int}{n most:Nat}{ds:List Addr}{D:Qd}(r:RelB mb P S)(o:SOk nu n S)(g:zfc P ds cs nu most D)(hlt:P.over.length<P.len)(hm:most<=20)(hnu:nu.length<=30/\∀ n∈nu,1<=n/\n<=999)(hcs:∀ c∈cs,1<=c/\c<=99)(hb:ds≠[]->S.std≠[]):Ll S D:=by
 have h1:=r.olen;have h2:=o.olen;have h3:=r.len;cases D with
 | enrol k gr c =>
   obtain⟨g1,g2,g3,g4,g5,g6⟩:=g;rw[r.ppl] at g3;refine⟨by omega,r.undrawn g1,?_,g3,?_⟩
   ·have:=hnu.2 k g2;have:=hcs c g6;unfold badI;omega
   ·have:=Er (l:=k :: S.ppl.map (·.1)) (m:=nu) (ztz.mpr ⟨g3,o.nd⟩) fun x hx=>by
     rcases ztg.mp hx with rfl|hx
     ·exact g2
     ·obtain⟨y,hy,rfl⟩:=ztk.mp hx;exact(o.ppl y hy).1
    rw[ztt,zta] at this;omega
 | away i k =>
   obtain⟨g1,g2,g3,g4⟩:=g;rw[r.ppl] at g3;rw[r.out] at g4;exact⟨by omega,by omega,g3,g4⟩
 | draw ms =>
   obtain⟨g1,g2,g3⟩:=g;exact⟨by omega,r.undrawn g1,by omega,g3.1,g3.2⟩
 | close =>
   refine⟨by omega,fun z=>g ?_⟩;rw[r.lis,z];rfl
 | back=>exact hb g
theorem zcv(F:Ya rows gs)(hn:∀ i:Nat,gs[i]?≠some (V.int n)):Ya (without rows n) gs:=by
 refine⟨by unfold without;rw[zta];exact F.len,F.one,fun k m h=>?_,F.inj⟩;obtain⟨r,h1,h2⟩:=F.may k m h;refine⟨r.filter fun x=>decide (x≠n),by unfold without;rw[ztj,h1];rfl,ztw.mpr ⟨h2,?_⟩⟩;refine ztf fun z=>hn k ?_;rw[h,z]
theorem As(T:Wh rows gs):Wh (without rows n) gs:=fun p hp=>by
 obtain⟨S,h1,h2⟩:=T p hp;refine⟨S,h1,fun q hq=>⟨by unfold without;rw[zta];exact(h2 q hq).1,fun r hr m hm=>?_⟩⟩;unfold without at hr;rw[ztj] at hr;obtain⟨r0,e1,rfl⟩:=zvb.mp hr;exact(h2 q hq).2 r0 e1 m (ztw.mp hm).1
theorem zcw(h:atV S<i)(ms:List P3):mayS (Xe S i n) ms=mayS S ms:=by
 unfold mayS;refine zux fun m _=>?_;unfold Jb;have:∀ x:P3,pIn (Xe S i n).out (atV (Xe S i n)) x=pIn S.out (atV S) x:=fun x=>by
  show decide ((atV S,x.1)∈S.out++[(i,n)])=decide ((atV S,x.1)∈S.out);have:((atV S,x.1)∈S.out++[(i,n)])↔((atV S,x.1)∈S.out):=by
   simp only[ztl,zte,Prod.mk.injEq];constructor
   ·rintro(h|⟨h,_⟩)
    ·exact h
    ·omega
   ·exact .inl
  exact decide_eq_decide.mpr this
 simp only[this];rfl
theorem zfg(o:SOk nu n S)(g:Ll S D)(af:Rn H' S D S' v)(hb:D≠.back)(hn:∀ k gr c,D=.enrol k gr c->k∈nu):SOk nu (n+1) S'/\((D=.close/\S'.std=[]/\S'.cur=none)\/(D≠.close/\Lj S S')):=by
 obtain⟨n1,n2⟩:=o.num;cases af with
 | enrol k gr c =>
   obtain⟨g1,g2,g3,g4,g5⟩:=g;refine⟨⟨fun s hs=>?_,?_,fun x hx=>?_,?_,o.led,o.old,o.len,fun _=>g1,⟨?_,?_⟩,fun s hs=>⟨zuy (o.gp s hs).1,(o.gp s hs).2⟩⟩,.inr ⟨nofun,(("enrol":Str),k,atV S),rfl,.inl ⟨rfl,⟨gr,c,rfl⟩,rfl⟩,rfl,rfl,rfl,rfl⟩⟩
   ·have hs:S.cur=some s:=hs;rw[g2] at hs;cases hs
   ·show (List.map (·.1) (S.ppl++[(k,gr,c)])).Nodup;rw[zti,zvl];refine⟨o.nd,by simp,fun x hx y hy=>?_⟩;rw[zto,List.map_nil,zte] at hy;subst hy;rintro rfl;exact g4 hx
   ·rcases ztl.mp hx with hx|hx
    ·exact o.ppl x hx
    ·rw[zte.mp hx];exact⟨hn k gr c rfl,g3⟩
   ·show (S.ppl++[(k,gr,c)]).length<=30;rw[ztc];show S.ppl.length+1<=30;omega
   ·show S.out.length<=n+1;omega
   ·show (S.std++[_]).length<=n+1;rw[ztc];show S.std.length+1<=n+1;omega
 | @awayN i k l h hl =>
   obtain⟨g1,g2,g3,g4⟩:=g;refine⟨⟨fun s hs=>?_,o.nd,o.ppl,o.few,o.led,o.old,o.len,o.lt,⟨?_,?_⟩,fun s hs=>⟨zuy (o.gp s hs).1,(o.gp s hs).2⟩⟩,.inr ⟨nofun,(("away":Str),k,i),rfl,.inr (.inl ⟨rfl,rfl,rfl,g4⟩),rfl,rfl,rfl,rfl⟩⟩
   ·have hs:S.cur=some s:=hs;rcases h with h|h
    ·rw[h] at hs;cases hs
    ·obtain⟨c1,c2,c3,c4,c5⟩:=o.cur s hs;refine⟨c1,c2,c3,by rw[zcw h];exact c4,?_⟩;show s.gaps.length<=(S.std++[_]).length;rw[ztc];omega
   ·show (S.out++[_]).length<=n+1;rw[ztc];show S.out.length+1<=n+1;omega
   ·show (S.std++[_]).length<=n+1;rw[ztc];show S.std.length+1<=n+1;omega
 | @awayF k s l h hp hl =>
   obtain⟨g1,g2,g3,g4⟩:=g;obtain⟨c1,c2,c3,c4,c5⟩:=o.cur s h;refine⟨⟨fun s' hs=>?_,o.nd,o.ppl,o.few,o.led,o.old,o.len,fun _=>o.lt (by rw[h];exact nofun),⟨?_,?_⟩,fun s' hs=>?_⟩,.inr ⟨nofun,(("away":Str),k,atV S),rfl,.inr (.inl ⟨rfl,rfl,rfl,g4⟩),rfl,rfl,rfl,rfl⟩⟩
   ·have hs:some { s with may:=mayS (Xe S (atV S) k) s.ms }=some s':=hs;cases hs;have hno:∀ i:Nat,s.gv[i]?≠some (V.int k):=by
     rcases Lb s.gv k with z|⟨i,z,_⟩
     ·exact z.2
     ·rw[hp] at z;cases z
    refine⟨c1,?_,?_,rfl,?_⟩
    ·show Ya (mayS (Xe S (atV S) k) s.ms) s.gv;rw[Uc,<- c4];exact zcv c2 hno
    ·show Wh (mayS (Xe S (atV S) k) s.ms) s.gv;rw[Uc,<- c4];exact As c3
    ·show s.gaps.length<=(S.std++[_]).length;rw[ztc];omega
   ·show (S.out++[_]).length<=n+1;rw[ztc];show S.out.length+1<=n+1;omega
   ·show (S.std++[_]).length<=n+1;rw[ztc];show S.std.length+1<=n+1;omega
   ·have old:=o.gp s (.inl h);rcases hs with hs|hs
    ·have hs:some { s with may:=mayS (Xe S (atV S) k) s.ms }=some s':=hs;cases hs;exact⟨zuy old.1,old.2⟩
    ·have:=o.gp s' (.inr hs);exact⟨zuy this.1,this.2⟩
 | @awayC k s p e l us st w h hp hl tl CR =>
   obtain⟨g1,g2,g3,g4⟩:=g;obtain⟨c1,c2,c3,c4,c5⟩:=o.cur s h;refine⟨⟨fun s' hs=>?_,o.nd,o.ppl,o.few,o.led,o.old,o.len,fun _=>o.lt (by rw[h];exact nofun),⟨?_,?_⟩,fun s' hs=>?_⟩,.inr ⟨nofun,(("away":Str),k,atV S),rfl,.inr (.inl ⟨rfl,rfl,rfl,g4⟩),rfl,rfl,rfl,rfl⟩⟩
   ·have hs:some (⟨s.ms,mayS (Xe S (atV S) k) s.ms,Yg st (s.gv.set p .non),s.gaps++[(k,st)]⟩:Z1)=some s':=hs;cases hs;have hx:=S4 hp;rw[Uc,<- c4] at CR;have F0:=Uq c2 hx;have hpl:p<(without s.may k).length:=by
     unfold without;rw[zta,<- c2.len];exact(ztd.mp hx).1
    refine⟨c1,?_,?_,rfl,?_⟩
    ·show Ya (mayS (Xe S (atV S) k) s.ms) _;rw[Uc,<- c4];exact CR.fill F0 hpl
    ·show Wh (mayS (Xe S (atV S) k) s.ms) _;rw[Uc,<- c4];exact D6 c2 c3 hx CR
    ·show (s.gaps++[_]).length<=(S.std++[_]).length;rw[ztc,ztc];show s.gaps.length+1<=S.std.length+1;omega
   ·show (S.out++[_]).length<=n+1;rw[ztc];show S.out.length+1<=n+1;omega
   ·show (S.std++[_]).length<=n+1;rw[ztc];show S.std.length+1<=n+1;omega
   ·have old:=o.gp s (.inl h);rcases hs with hs|hs
    ·have hs:some (⟨s.ms,mayS (Xe S (atV S) k) s.ms,Yg st (s.gv.set p .non),s.gaps++[(k,st)]⟩:Z1)=some s':=hs;cases hs;have hx:=S4 hp;rw[Uc,<- c4] at CR;have hpl:p<(without s.may k).length:=by
      unfold without;rw[zta,<- c2.len];exact(ztd.mp hx).1
     have hcl:=CR.len (Uq c2 hx) hpl;have hwl:(without s.may k).length=s.may.length:=by unfold without;rw[zta]
     have hml:s.may.length=s.ms.length:=by rw[c4];unfold mayS;rw[zta]
     refine⟨by show (s.gaps++[_]).length<=n+1;rw[ztc];show s.gaps.length+1<=n+1;omega,fun x hx'=>?_⟩;rcases ztl.mp hx' with z|z
     ·exact old.2 x z
     ·rw[zte.mp z];show st.length<=100;omega
    ·have:=o.gp s' (.inr hs);exact⟨zuy this.1,this.2⟩
 | @draw ms gv l hl F T =>
   obtain⟨g1,g2,g3,g4,g5⟩:=g;refine⟨⟨fun s' hs=>?_,o.nd,o.ppl,o.few,o.led,o.old,o.len,fun _=>g1,⟨?_,?_⟩,fun s' hs=>?_⟩,.inr ⟨nofun,(("draw up":Str),(ms.length:Int),atV S),rfl,.inr (.inr ⟨rfl,rfl,rfl⟩),rfl,rfl,rfl,rfl⟩⟩
   ·have hs:some (⟨ms,mayS S ms,gv,[]⟩:Z1)=some s':=hs;cases hs;exact⟨g3,F,T,rfl,zt4 _⟩
   ·show S.out.length<=n+1;omega
   ·show (S.std++[_]).length<=n+1;rw[ztc];show S.std.length+1<=n+1;omega
   ·rcases hs with hs|hs
    ·have hs:some (⟨ms,mayS S ms,gv,[]⟩:Z1)=some s':=hs;cases hs;exact⟨zt4 _,nofun⟩
    ·have:=o.gp s' (.inr hs);exact⟨zuy this.1,this.2⟩
 | @close s h =>
   obtain⟨g1,g2⟩:=g;obtain⟨c1,c2,c3,c4,c5⟩:=o.cur s h;refine⟨⟨fun s' hs=>(by cases hs),o.nd,o.ppl,o.few,?_,fun x hx=>?_,⟨?_,o.len.2⟩,fun z=>absurd rfl z,⟨?_,zt4 _⟩,fun s' hs=>?_⟩,.inl ⟨rfl,rfl,rfl⟩⟩
   ·show S.led++[Yb s]=List.map Yb (S.old++[s]);rw[zti,o.led];rfl
   ·rcases ztl.mp hx with hx|hx
    ·exact o.old x hx
    ·rw[zte.mp hx];refine⟨c1,?_,c2.one⟩;rw[c2.len,c4];unfold mayS;rw[zta]
   ·show (S.led++[_]).length<=S.len;rw[ztc];exact g1
   ·show S.out.length<=n+1;omega
   ·rcases hs with hs|hs
    ·cases hs
    ·have hs:s'∈S.old++[s]:=hs;rcases ztl.mp hs with z|z
     ·have:=o.gp s' (.inr z);exact⟨zuy this.1,this.2⟩
     ·rw[zte.mp z];have:=o.gp s (.inl h);exact⟨zuy this.1,this.2⟩
 | back h ht hs=>exact absurd rfl hb
theorem zcx(r:Rel mb P S)(o:SOk nu n S)(g:Ll S D)(af:Rn H' S D S' v)(hb:D≠.back):RelB mb (Vw P D) S':=by
 obtain⟨⟨r1,r2,r3,r4,r5,r6⟩,rg,rm⟩:=id r;cases af with
 | enrol k gr c=>exact⟨r1,r2,by show P.ppl++_=S.ppl++_;rw[r3],r4,r5,r6⟩
 | @awayN i k l h hl=>exact⟨r1,r2,r3,by show P.out++_=S.out++_;rw[r4],r5,r6⟩
 | @awayF k s l h hp hl=>exact⟨r1,r2,r3,by show P.out++_=S.out++_;rw[r4],r5,by show P.lis=_;rw[r6,h];rfl⟩
 | @awayC k s p e l us st w h hp hl tl CR=>exact⟨r1,r2,r3,by show P.out++_=S.out++_;rw[r4],r5,by show P.lis=_;rw[r6,h];rfl⟩
 | @draw ms gv l hl F T=>exact⟨r1,r2,r3,r4,r5,rfl⟩
 | @close s h =>
   have hl:P.lis=some s.ms:=by rw[r6,h];rfl
   refine⟨r1,r2,r3,r4,?_,rfl⟩;show List.map (Si mb) (P.over++[⟨P.lis.getD [],mayP P (P.lis.getD []),P.gv,P.mv⟩])=List.map (Si mb) (S.old++[s]);rw[zti,zti,r5,hl]
   congr 1
   have e1:=(o.cur s h).2.2.2.1;have e2:=r.b.may o s.ms;have e3:=rg s h;unfold Si;cases mb with
   | true =>
     have e4:P.mv=s.gaps:=by rw[rm rfl,Ar h]
     show [(⟨s.ms,mayP P s.ms,P.gv,P.mv⟩:Z1)]=[s];rw[e2,e3,e4,<- e1]
   | false =>
     show [(⟨s.ms,mayP P s.ms,P.gv,[]⟩:Z1)]=[(⟨s.ms,s.may,s.gv,[]⟩:Z1)];rw[e2,e3,<- e1]
 | back h ht hs=>exact absurd rfl hb
theorem zcy(h1:Lj S1 S)(h2:Lj S2 S):S1=S2:=by
 obtain⟨d1,a1,a2,a3,a4,a5,a6⟩:=h1;obtain⟨d2,b1,b2,b3,b4,b5,b6⟩:=h2;have e:=a1.symm.trans b1;obtain⟨e1,e2⟩:=zuu e rfl;have e3:=List.cons.inj e2;obtain⟨e4,e5⟩:=Prod.mk.inj e3.1;subst e4;have w1:("enrol":Str)≠"away":=by decide +kernel
 have w2:("enrol":Str)≠"draw up":=by decide +kernel
 have w3:("away":Str)≠"draw up":=by decide +kernel
 have e6:S1.ppl=S2.ppl/\S1.out=S2.out:=by
  rcases a2 with ⟨x1,⟨g,c,x2⟩,x3⟩|⟨x1,x2,x3,_⟩|⟨x1,x2,x3⟩<;>rcases b2 with ⟨y1,⟨g',c',y2⟩,y3⟩|⟨y1,y2,y3,_⟩|⟨y1,y2,y3⟩
  ·exact⟨(zuu (x2.symm.trans y2) rfl).1,x3.trans y3.symm⟩
  ·exact absurd (x1.symm.trans y1) w1
  ·exact absurd (x1.symm.trans y1) w2
  ·exact absurd (y1.symm.trans x1) w1
  ·exact⟨x2.trans y2.symm,(zuu (x3.symm.trans y3) rfl).1⟩
  ·exact absurd (x1.symm.trans y1) w3
  ·exact absurd (y1.symm.trans x1) w2
  ·exact absurd (y1.symm.trans x1) w3
  ·exact⟨x2.trans y2.symm,x3.trans y3.symm⟩
 obtain⟨l1,q1,p1,d1',o1,ol1,c1,s1⟩:=S1;obtain⟨l2,q2,p2,d2',o2,ol2,c2,s2⟩:=S2;simp only at *;obtain⟨e7,e8⟩:=e6;subst e1 e5 e7 e8;rw[<- a3,<- b3,<- a4,<- b4,<- a5,<- b5,<- a6,<- b6]
structure FrN(A A':SAd)(H H':Hp):Prop where
 p:A'.p=A.p
 k:∀ b o,H b=some o->b∉A.fp->H' b=some o/\b∉A'.fp
 kt:∀ t xs,H t=some (.tup xs)->H' t=some (.tup xs)
theorem FrN.refl(A:SAd)(H:Hp):FrN A A H H:=⟨rfl,fun b o e n=>⟨e,n⟩,fun _ _ e=>e⟩
theorem FrN.of(e:Same H H'):FrN A A H H':=⟨rfl,fun b o z n=>⟨e _ _ z,n⟩,fun _ _ z=>e _ _ z⟩
theorem FrN.trans(h1:FrN A A1 H H1)(h2:FrN A1 A2 H1 H2):FrN A A2 H H2:=⟨h2.p.trans h1.p,fun b o e n=>by
 obtain⟨a1,a2⟩:=h1.k b o e n;exact h2.k b o a1 a2,fun t xs e=>h2.kt _ _ (h1.kt _ _ e)⟩
theorem Jg.out(nx:Jg A A' H)(e:H b=some o)(n:b∉A.fp):b∉A'.fp:=by
 obtain⟨x,rfl,hx⟩:=nx;simp only[SAd.fp,ztg,zud,or_false] at n ⊢;rcases hx with rfl|hx
 ·exact n
 ·have:b≠x:=Zh e hx;rintro(z|z|z|z|z|z|z)
  ·exact n (.inl z)
  ·exact n (.inr (.inl z))
  ·exact n (.inr (.inr (.inl z)))
  ·exact n (.inr (.inr (.inr (.inl z))))
  ·exact n (.inr (.inr (.inr (.inr (.inl z)))))
  ·exact n (.inr (.inr (.inr (.inr (.inr (.inl z))))))
  ·exact this z
theorem FrN.next(SA:Zx ca H A S)(nx:Jg A A' H)(f:FrS A H H'):FrN A A' H H':=⟨by obtain⟨x,rfl,_⟩:=nx;rfl,fun b o e n=>⟨f b o e n,nx.out e n⟩,SA.tups f⟩
def Ro(K:Frag)(A:SAd)(H:Hp)(b:Addr)(xs:List V):Prop:=(Rd H b (.lst xs)/\b∉A.fp)\/∀ H',SqL K H' b xs
theorem Ro.sq{K:Frag}{A:SAd}{H:Hp}{b:Addr}{xs:List V}(h:Ro K A H b xs):SqL K H b xs:=by
 rcases h with h|h
 ·exact .inl h.1
 ·exact h H
theorem Ro.fr{K:Frag}{A A':SAd}{H H':Hp}{b:Addr}{xs:List V}(f:FrN A A' H H')(h:Ro K A H b xs):Ro K A' H' b xs:=by
 rcases h with ⟨h,n⟩|h
 ·rcases h with h|⟨o,h⟩
  ·exact .inl ⟨.inl (f.k _ _ h n).1,(f.k _ _ h n).2⟩
  ·exact .inl ⟨.inr ⟨o,(f.k _ _ h n).1⟩,(f.k _ _ h n).2⟩
 ·exact .inr h
theorem Ro.make{K:Frag}{H:Hp}{b:Addr}{xs:List V}(h:SqL K H b xs)(A:SAd)(H':Hp)(s:Same H H')(hf:∀ x∈A.fp,H x=none):Ro K A H' b xs:=by
 rcases h with h|h
 ·have hn:b∉A.fp:=fun z=>by
   have:=hf b z;rcases h with h|⟨o,h⟩<;>(rw[this] at h;cases h)
  rcases h with h|⟨o,h⟩
  ·exact .inl ⟨.inl (s _ _ h),hn⟩
  ·exact .inl ⟨.inr ⟨o,s _ _ h⟩,hn⟩
 ·exact .inr fun _=>.inr h
structure Ls(A:SAd)(H:Hp)(t lc ln:Addr)(cs nu:List Int):Prop where
 at_:Oc H t lc ln cs nu
 o:t∉A.fp/\lc∉A.fp/\ln∉A.fp
theorem Ls.fr{A A':SAd}{H H':Hp}{t lc ln:Addr}{cs nu:List Int}(f:FrN A A' H H')(h:Ls A H t lc ln cs nu):Ls A' H' t lc ln cs nu:=by
 obtain⟨⟨a1,a2,a3,a4,a5,a6,a7,a8,a9⟩,o1,o2,o3⟩:=h;exact⟨⟨(f.k _ _ a1 o1).1,(f.k _ _ a2 o2).1,(f.k _ _ a3 o3).1,a4,a5,a6,a7,a8,a9⟩,(f.k _ _ a1 o1).2,(f.k _ _ a2 o2).2,(f.k _ _ a3 o3).2⟩
inductive Bk(mb:Bool)(ok:Addr->Prop)(H:Hp)(nu:List Int)(n:Nat):List Addr->Sea->Prop where
 | one {d:Addr} {P:Pg} {S:Sea} (h:PgAt ok H d P) (r:Rel mb P S) (o:SOk nu n S) (e:S.std=[]):Bk mb ok H nu n [d] S
 | snoc {ds:List Addr} {d:Addr} {P:Pg} {S S':Sea} (b:Bk mb ok H nu n ds S) (nd:d∉ds) (h:PgAt ok H d P) (r:Rel mb P S') (o:SOk nu n S') (st:Lj S S') (hd:∃ x,P.deed=some x/\S'.std=S.std++[(x,S.cur)]):Bk mb ok H nu n (ds++[d]) S'
section
variable{mb:Bool}{ok ok':Addr->Prop}{H H':Hp}{nu:List Int}{n m:Nat}{ds:List Addr}{d:Addr}{P:Pg}{S S':Sea}
theorem Bk.keep(b:Bk mb ok H nu n ds S)(k:∀ x o,ok x->H x=some o->H' x=some o)(kt:∀ t xs,H t=some (.tup xs)->H' t=some (.tup xs)):Bk mb ok H' nu n ds S:=by
 induction b with
 | one h r o e=>exact .one (h.keep k kt) r o e
 | snoc b nd h r o st hd ih=>exact .snoc ih nd (h.keep k kt) r o st hd
theorem Bk.imp(b:Bk mb ok H nu n ds S)(k:∀ x,(∃ o,H x=some o)->ok x->ok' x):Bk mb ok' H nu n ds S:=by
 induction b with
 | one h r o e=>exact .one (h.imp k) r o e
 | snoc b nd h r o st hd ih=>exact .snoc ih nd (h.imp k) r o st hd
theorem Bk.mono(b:Bk mb ok H nu n ds S)(e:n<=m):Bk mb ok H nu m ds S:=by
 induction b with
 | one h r o e'=>exact .one h r (o.mono e) e'
 | snoc b nd h r o st hd ih=>exact .snoc ih nd h r (o.mono e) st hd
theorem Bk.there(b:Bk mb ok H nu n ds S):∀ d∈ds,∃ kvs,H d=some (.dK kvs):=by
 induction b with
 | one h r o e =>
   intro d hd;rw[zte.mp hd];obtain⟨_,_,_,_,_,_,_,a,_⟩:=h.split;exact⟨_,a⟩
 | snoc b nd h r o st hd ih =>
   intro d' hd';rcases ztl.mp hd' with z|z
   ·exact ih d' z
   ·rw[zte.mp z];obtain⟨_,_,_,_,_,_,_,a,_⟩:=h.split;exact⟨_,a⟩
theorem Bk.other(b:Bk mb ok H nu n ds S)(he:H e=some (.dK kvs))(hn:e∉ds):Bk mb ok (upd H e (.dK kvs')) nu n ds S:=by
 induction b with
 | one h r o e'=>exact .one (h.other (fun z=>hn (by rw[z];exact zu9 _)) he) r o e'
 | snoc b nd h r o st hd ih=>exact .snoc (ih fun z=>hn (zt7 _ z)) nd (h.other (fun z=>hn (by rw[z];exact ztx _ (zu9 _))) he) r o st hd
structure zfh(mb:Bool)(ok:Addr->Prop)(H:Hp)(nu:List Int)(n:Nat)(ds:List Addr)(d:Addr)(dd:Option Sh)(S:Sea):Prop where
 nd:d∉ds
 ex:(ds=[]/\S.std=[])\/∃ S0,Bk mb ok H nu n ds S0/\Lj S0 S/\∃ x,dd=some x/\S.std=S0.std++[(x,S0.cur)]
structure Es(mb:Bool)(ok:Addr->Prop)(H:Hp)(nu:List Int)(n:Nat)(ds:List Addr)(d:Addr)(P:Pg)(S:Sea):Prop where
 pg:PgAt ok H d P
 rb:RelB mb P S
 so:SOk nu n S
 tl:zfh mb ok H nu n ds d P.deed S
structure Us(mb:Bool)(ok:Addr->Prop)(H:Hp)(nu:List Int)(n:Nat)(ds:List Addr)(d:Addr)(P:Pg)(S:Sea):Prop where
 pg:PgAt ok H d P
 re:Rel mb P S
 so:SOk nu n S
 tl:zfh mb ok H nu n ds d P.deed S
theorem Us.pend(h:Us mb ok H nu n ds d P S):Es mb ok H nu n ds d P S:=⟨h.pg,h.re.b,h.so,h.tl⟩
theorem Us.bk(h:Us mb ok H nu n ds d P S):Bk mb ok H nu n (ds++[d]) S:=by
 obtain⟨nd,⟨rfl,e⟩|⟨S0,b,st,hd⟩⟩:=h.tl
 ·exact .one h.pg h.re h.so e
 ·exact .snoc b nd h.pg h.re h.so st hd
theorem Bk.full(b:Bk mb ok H nu n xs S):∃ ds d P,xs=ds++[d]/\Us mb ok H nu n ds d P S:=by
 cases b with
 | one h r o e=>exact⟨[],_,_,rfl,h,r,o,nofun,.inl ⟨rfl,e⟩⟩
 | snoc b nd h r o st hd=>exact⟨_,_,_,rfl,h,r,o,nd,.inr ⟨_,b,st,hd⟩⟩
theorem zfh.keep(h:zfh mb ok H nu n ds d dd S)(k:∀ x o,ok x->H x=some o->H' x=some o)(kt:∀ t xs,H t=some (.tup xs)->H' t=some (.tup xs)):zfh mb ok H' nu n ds d dd S:=by
 obtain⟨nd,e|⟨S0,b,r⟩⟩:=h
 ·exact⟨nd,.inl e⟩
 ·exact⟨nd,.inr ⟨S0,b.keep k kt,r⟩⟩
theorem Es.same(h:Es mb ok H nu n ds d P S)(e:Same H H'):Es mb ok H' nu n ds d P S:=⟨h.pg.same e,h.rb,h.so,h.tl.keep (fun _ _ _ q=>e _ _ q) fun _ _ q=>e _ _ q⟩
theorem Us.same(h:Us mb ok H nu n ds d P S)(e:Same H H'):Us mb ok H' nu n ds d P S:=⟨h.pg.same e,h.re,h.so,h.tl.keep (fun _ _ _ q=>e _ _ q) fun _ _ q=>e _ _ q⟩
theorem Es.goes(h:Es mb ok H nu n ds d P S)(hl:H l=some (.lst xs))(ol:ok l)(hg:∀ s,S.cur=some s->xs=s.gv)(hm:mb=true->P.mv=Lr S):∃ kvs,H d=some (.dK kvs)/\kvs.length<sizeLine/\Us mb ok (upd H d (.dK (putK kvs (.inr "goes") (.ref l)))) nu n ds d { P with gv:=xs } S:=by
 obtain⟨kvs,a1,a2,a3⟩:=h.pg.setGoes hl ol;refine⟨kvs,a1,a2,a3,⟨⟨h.rb.len,h.rb.rest,h.rb.ppl,h.rb.out,h.rb.over,h.rb.lis⟩,hg,hm⟩,h.so,?_⟩;obtain⟨nd,e|⟨S0,b,r⟩⟩:=h.tl
 ·exact⟨nd,.inl e⟩
 ·exact⟨nd,.inr ⟨S0,b.other a1 nd,r⟩⟩
theorem Es.full(h:Es mb ok H nu n ds d P S)(hg:∀ s,S.cur=some s->P.gv=s.gv)(hm:mb=true->P.mv=Lr S):Us mb ok H nu n ds d P S:=⟨h.pg,⟨h.rb,hg,hm⟩,h.so,h.tl⟩
end
theorem zfi(r:RelB mb P S)(o:SOk nu n S)(af:Rn H' S D S' v)(hb:D≠.back)(hc:D≠.close):∃ x,(Vw P D).deed=some x/\S'.std=S.std++[(x,S.cur)]:=by
 have e:=r.at o;cases af with
 | enrol k gr c=>exact⟨_,rfl,by rw[e]⟩
 | awayN h hl=>exact⟨_,rfl,rfl⟩
 | awayF h hp hl=>exact⟨_,rfl,rfl⟩
 | awayC h hp hl tl CR=>exact⟨_,rfl,rfl⟩
 | draw hl F T=>exact⟨_,rfl,by rw[e];rfl⟩
 | close h=>exact absurd rfl hc
 | back h ht hs=>exact absurd rfl hb
theorem turn(F:Us mb (·∉A.fp) H nu n ds d P S)(SA:Zx ca H A S)(af:Rn H1 S D S' v)(SA1:Zx ca H1 A' S')(nx:Jg A A' H)(fr:FrS A H H1)(g:Ll S D)(hn:∀ k gr c,D=.enrol k gr c->k∈nu)
  (pg:D≠.back->PgAt (fun x=>x∉A'.fp\/H1 x=none) H2 d' (Vw P D)) (s2:Same H1 H2) (fd:H1 d'=none) :
  ∃ ds2 d2 P2,An ds d d' D=ds2++[d2]/\Es mb (·∉A'.fp) H2 nu (n+1) ds2 d2 P2 S'/\(D≠.back->P2=Vw P D)/\(D=.back\/D=.close->(∀ s,S'.cur=some s->P2.gv=s.gv)/\(mb=true->P2.mv=Lr S')):=by
 have mv:∀ {xs:List Addr} {S0:Sea},Bk mb (·∉A.fp) H nu n xs S0->Bk mb (·∉A'.fp) H2 nu (n+1) xs S0:=fun b=>by
  have b1:=b.imp (ok':=fun x=>x∉A.fp/\x∉A'.fp) fun x ⟨o,e⟩ z=>⟨z,nx.out e z⟩
  have b2:=b1.keep (H':=H2) (fun x o z e=>s2 _ _ (fr x o e z.1)) fun t xs e=>s2 _ _ (SA.tups fr t xs e);exact(b2.imp fun x _ z=>z.2).mono (Nat.le_succ n)
 have hd1:∀ x∈ds++[d],x≠d':=fun x hx z=>by
  have b1:=F.bk.imp (ok':=fun x=>x∉A.fp/\x∉A'.fp) fun x ⟨o,e⟩ z=>⟨z,nx.out e z⟩
  have b2:=b1.keep (H':=H1) (fun x o z e=>fr x o e z.1) fun t xs e=>SA.tups fr t xs e;obtain⟨kvs,e⟩:=b2.there x hx;rw[z,fd] at e;cases e
 by_cases hb:D=.back
 ·subst hb;cases af with
  | @back S0' dd t h ht hs =>
    obtain⟨nd,⟨_,e⟩|⟨S0,b,st,_⟩⟩:=F.tl
    ·exact absurd e g
    ·have es:=zcy hs st;subst es;obtain⟨ds2,d2,P2,e,F2⟩:=(mv b).full;exact⟨ds2,d2,P2,e,F2.pend,fun z=>absurd rfl z,fun _=>⟨F2.re.gv,F2.re.mv⟩⟩
 ·have pg':PgAt (·∉A'.fp) H2 d' (Vw P D):=(pg hb).imp fun x hx z=>by
   rcases z with z|z
   ·exact z
   ·exact SA1.newOk x z
  obtain⟨o',ho⟩:=zfg F.so g af hb hn;have rb:=zcx F.re F.so g af hb;rcases ho with ⟨rfl,e1,e2⟩|⟨hc,st⟩
  ·exact⟨[],d',_,rfl,⟨pg',rb,o',nofun,.inl ⟨rfl,e1⟩⟩,fun _=>rfl,fun _=>⟨fun s hs=>(by rw[e2] at hs;cases hs),fun _=>(by rw[Oe e2];rfl)⟩⟩
  ·have hk:An ds d d' D=(ds++[d])++[d']:=by
    cases D with
    | back=>exact absurd rfl hb
    | close=>exact absurd rfl hc
    | enrol _ _ _=>rfl
    | away _ _=>rfl
    | draw _=>rfl
   refine⟨ds++[d],d',_,hk,⟨pg',rb,o',fun z=>hd1 d' z rfl,.inr ⟨S,mv F.bk,st,zfi F.re.b F.so af hb hc⟩⟩,fun _=>rfl,?_⟩;rintro(z|z)
   ·exact absurd z hb
   ·exact absurd z hc
section
variable{mb:Bool}{ok ok':Addr->Prop}{A A':SAd}{H H':Hp}{nu:List Int}{n m:Nat}{ds:List Addr}{d:Addr}{P:Pg}{S S':Sea}{D:Qd}
theorem PgAt.fr(f:FrN A A' H H')(h:PgAt (·∉A.fp) H d P):PgAt (·∉A'.fp) H' d P:=by
 have b1:=h.imp (ok':=fun x=>x∉A.fp/\x∉A'.fp) fun x ⟨o,e⟩ z=>⟨z,(f.k x o e z).2⟩
 have b2:=b1.keep (H':=H') (fun x o z e=>(f.k x o e z.1).1) f.kt;exact b2.imp fun x _ z=>z.2
theorem Wj.fr(f:FrN A A' H H')(h:Wj (·∉A.fp) H t D):Wj (·∉A'.fp) H' t D:=by
 cases D with
 | enrol a b c=>exact f.kt _ _ h
 | away a b=>exact f.kt _ _ h
 | draw ms =>
   obtain⟨l,ts,a1,a2,a3,a4⟩:=h;exact⟨l,ts,f.kt _ _ a1,(f.k _ _ a2 a4).1,a3.mono f.kt,(f.k _ _ a2 a4).2⟩
 | close=>exact f.kt _ _ h
 | back=>exact f.kt _ _ h
theorem Wj.same(e:Same H H')(h:Wj ok H t D):Wj ok H' t D:=by
 cases D with
 | enrol a b c=>exact e _ _ h
 | away a b=>exact e _ _ h
 | draw ms =>
   obtain⟨l,ts,a1,a2,a3,a4⟩:=h;exact⟨l,ts,e _ _ a1,e _ _ a2,a3.mono fun _ _ z=>e _ _ z,a4⟩
 | close=>exact e _ _ h
 | back=>exact e _ _ h
theorem Wj.imp(k:∀ x,ok x->ok' x)(h:Wj ok H t D):Wj ok' H t D:=by
 cases D with
 | enrol a b c=>exact h
 | away a b=>exact h
 | draw ms =>
   obtain⟨l,ts,a1,a2,a3,a4⟩:=h;exact⟨l,ts,a1,a2,a3,k _ a4⟩
 | close=>exact h
 | back=>exact h
theorem Bk.len(b:Bk mb ok H nu n ds S):ds.length=S.std.length+1:=by
 induction b with
 | one h r o e=>rw[e];rfl
 | snoc b nd h r o st hd ih =>
   obtain⟨x,_,e⟩:=hd;rw[e,ztc,ztc,ih];rfl
theorem Us.len(F:Us mb ok H nu n ds d P S):ds.length=S.std.length:=by
 have:=F.bk.len;rw[ztc] at this;have h1:[d].length=1:=rfl;omega
theorem Us.pre(F:Us mb ok H nu n ds d P S)(g:Ll S D)(hn:n<100):ze5 S/\Qb S/\S.std.length<100/\S.out.length<=100000/\2*(tot S.led+1000)<=100000/\S.led.length<=1000/\S.old.length<=1000/\S.len<=1000/\(∀ i k,D=.away i k->Y2 k)/\(D=.back->∃ S0,Lj S0 S):=by
 have h1:=F.so.num;have h2:=F.so.len;have h3:=F.so.olen;have h4:=F.so.tot;refine⟨F.so.cur,F.so.pok,by omega,by omega,by omega,by omega,by omega,by omega,?_,?_⟩
 ·rintro i k rfl;obtain⟨_,_,g3,_⟩:=g;obtain⟨x,hx,rfl⟩:=ztk.mp g3;exact F.so.pok.small x hx
 ·rintro rfl;obtain⟨nd,⟨_,e⟩|⟨S0,b,st,_⟩⟩:=F.tl
  ·exact absurd e g
  ·exact⟨S0,st⟩
theorem Us.pre2(F:Us mb ok H nu n ds d P S)(g:Ll S D)(hn:n<100):Mf P/\P.ppl.length<=100/\P.out.length<=900/\ds.length<=900/\(D=.close->∃ ms,P.lis=some ms/\ms.length<=100):=by
 have h1:=F.so.num;have h2:=F.len;have h3:=F.so.few;refine⟨F.re.b.ovok F.so,by rw[F.re.b.ppl];omega,by rw[F.re.b.out];omega,by omega,?_⟩;rintro rfl;obtain⟨_,g2⟩:=g;cases e:S.cur with
 | none=>exact absurd e g2
 | some s=>exact⟨s.ms,by rw[F.re.b.lis,e];rfl,zts (F.so.cur s e).1 ⋯⟩
theorem Us.back(F:Us mb ok H nu n ds d P S)(h:ds≠[]):S.std≠[]:=by
 obtain⟨nd,⟨e,_⟩|⟨S0,b,st,x,_,e⟩⟩:=F.tl
 ·exact absurd e h
 ·rw[e];simp
end
inductive Jo(K:Frag)(ca:CA)(vs:List V)(H:Hp)(Q:VK)(_:XK):Prop where
 | mk(mb:Bool)(A:SAd)(l le:Addr)(ts:List V)(es:List P3)(ds:List Addr)(d:Addr)(P:Pg)(S:Sea)(nu:List Int)(n:Nat)(_:vs=[.ref A.p,.ref l,.ref le])(_:Zx ca H A S)(_:H l=some (.lst ((ds++[d]).map V.ref)))(_:l∉A.fp)(_:Us mb (·∉A.fp) H nu n ds d P S)(_:H le=some (.lst ts))(_:le∉A.fp)(_:TupL H ts (es.map enV))(_:(es.map (·.1)).Nodup)(_:(∀ x∈es,x.1∈nu/\¬ badI x.1 x.2.1 x.2.2/\x.1∉S.ppl.map (·.1)))(_:S.ppl.length+es.length<=30)(_:n+es.length<=90)(_:S.cur=none)(_:S.led.length<S.len)(_:∀ A' l' ds' d' P' S' H',Zx ca H' A' S'->H' l'=some (.lst ((ds'++[d']).map V.ref))->l'∉A'.fp->Us mb (·∉A'.fp) H' nu (n+es.length) ds' d' P' S'->FrN A A' H H'->S'.cur=none->S'.led=S.led->S'.len=S.len->Q (.ref l') H')
theorem Au(pg:PgAt ok H d (Al r q))(hr:r<=60)(hq:q<=10):Us mb ok H nu n [] d (Al r q) (ze0 r q) :=
 ⟨pg,⟨⟨rfl,rfl,rfl,rfl,rfl,rfl⟩,nofun,fun _=>rfl⟩,⟨nofun,.nil,nofun,zt4 _,rfl,nofun,⟨zt4 _,hr,hq⟩,fun z=>absurd rfl z,⟨zt4 _,zt4 _⟩,fun s hs=>(by rcases hs with z|z<;>cases z)⟩,nofun,.inl ⟨rfl,rfl⟩⟩
theorem Et{lo:Int}{n:Nat}{g:TG}{tb:TS}{D:Oz}{σ:L2.St}{H:Hp}(Pv:Nat->L2.St->Hp->Prop)(h0:Pv 0 σ H)
  (hs:∀ N:L2.St->Hp->Prop,(∀ i σ H,Pv i σ H->N σ H)->∀ i σ H,i<n->Pv i σ H->g (.int (lo+i)) σ H fun σ2 H2=>tb { D with nx:=Pv (i+1),ct:=Pv (i+1),bk:=N } σ2 H2) (hd:∀ i σ H,Pv i σ H->D.nx σ H) :
  ∃ W:Nat->Nat->L2.St->Hp->Prop,(∃ m,W 0 m σ H)/\∀ i m σ H,W i m σ H ->
    ((Itr lo n).stop i H/\D.nx σ H)\/((Itr lo n).go i H/\∃ N:L2.St->Hp->Prop,(∀ σ' H',N σ' H'->∃ m',m' < m/\W (i+1) m' σ' H')/\∀ x H',(Itr lo n).yld i H x H'->g x σ H' fun σ2 H2=>tb { D with nx:=N,ct:=N,bk:=D.nx } σ2 H2) :=
 Wn Pv h0 (hs D.nx hd) (fun σ H p=>hd n σ H p)
theorem zcz(S:Sea):Vf S (atV S)=S.cur:=by
 unfold Vf atV;rw[if_neg ⋯,if_neg ⋯]
theorem zi9(o:SOk nu n S)(h:S.cur=some s)(hk:k s):za7 ca H S (atV S) E k:=by
 have h1:=o.len;have h2:=o.lt (by rw[h];exact nofun);have h3:atV S=(S.led.length:Int)+1:=rfl;refine⟨Yx ⋯ ⋯,o.olen,?_⟩;rw[if_neg ⋯,zcz];exact⟨fun z=>(by rw[h] at z;cases z),fun s' hs=>(by rw[h] at hs;cases hs;exact hk)⟩
theorem zg3(SA:Zx ca H A S)(h:Wj (fun x=>H x=none) H' t D):Wj (·∉A.fp) H' t D:=h.imp fun x hx=>SA.newOk x hx
def Jp(H H':Hp):Prop:=Xj H H'/\∀ x c e f,H x=some (.ins c e f)->H' x=some (.ins c e f)
theorem Jp.dict(h:H d=some (.dK kvs)):Jp H (upd H d (.dK kvs')) :=
 ⟨.dict h,fun x c e f z=>by rw[Zi (Yo z h (by intro z;cases z))];exact z⟩
theorem ShAt.keepI(k:Jp H H')(h:ShAt C ok H q s):ShAt C ok H' q s:=by
 obtain⟨dx,l1,l2,l3,l4,ts,ls,gts,a1,a2,a3,a4,a5,a6,a7,a8,o1,o2,o3,o4,o5,o6⟩:=h;exact⟨dx,l1,l2,l3,l4,ts,ls,gts,k.2 _ _ _ _ a1,k.1.1 _ _ a2,a3.mono k.1.2,k.1.1 _ _ a4,ILs.keepL k.1 a5,k.1.1 _ _ a6,k.1.1 _ _ a7,a8.keepL k.1,o1,o2,o3,o4,o5,o6⟩
theorem ShO.keepI(k:Jp H H')(h:ShO C ok H v s):ShO C ok H' v s:=by
 cases s with
 | none=>exact h
 | some s=>obtain⟨q,e,h⟩:=h;exact⟨q,e,h.keepI k⟩
theorem ShL.keepI(k:Jp H H'):∀ {vs:List V} {ss:List Z1},ShL C ok H vs ss->ShL C ok H' vs ss
 | _,_,.nil=>.nil
 | _,_,.cons h r=>.cons (h.keepI k) (ShL.keepI k r)
theorem Uh.keepI(k:Jp H H'):∀ {vs:List V} {ss:List (Sh×Option Z1)},Uh C ok H vs ss->Uh C ok H' vs ss
 | _,_,.nil=>.nil
 | _,_,.cons h hu hs r=>.cons (k.1.2 _ _ h) (k.1.2 _ _ hu) (hs.keepI k) (Uh.keepI k r)
theorem Zx.dictW(h:Zx ca H A S)(hd:H d=some (.dK kvs))(n:d∉A.fp):Zx ca (upd H d (.dK kvs')) A S:=by
 have k:=Jp.dict hd (kvs':=kvs');have hn:∀ x∈A.fp,∀ o,H x=some o->upd H d (.dK kvs') x=some o:=fun x hx o e=>by rw[Zi (fun z=>n (by rw[<- z];exact hx))];exact e
 obtain⟨⟨dx,v,a1,a2⟩,b,c,⟨kvs0,d1,d2⟩,⟨vs,f1,f2⟩,⟨us,g1,g2⟩,nd,np⟩:=h;have hp:A.p∈A.fp:=by simp[SAd.fp]
 have hdr:A.dr∈A.fp:=by simp[SAd.fp]
 have hlr:A.lr∈A.fp:=by simp[SAd.fp]
 have hld:A.ld∈A.fp:=by simp[SAd.fp]
 have hda:A.da∈A.fp:=by simp[SAd.fp]
 have hls:A.ls∈A.fp:=by simp[SAd.fp]
 have hlt:A.lt∈A.fp:=by simp[SAd.fp]
 obtain⟨⟨dxr,kvr,r1,r2,r3⟩,ndr⟩:=b;obtain⟨⟨dxl,l1⟩,l2,l3⟩:=id c;refine⟨⟨dx,v,hn _ hp _ a1,a2.keepI k⟩,⟨⟨dxr,kvr,k.2 _ _ _ _ r1,hn _ hdr _ r2,r3.mono k.1.2⟩,ndr⟩,c.keep (fun o e=>?_) (hn _ hlr) (hn _ hld) k.1.2,⟨kvs0,hn _ hda _ d1,d2⟩,⟨vs,hn _ hls _ f1,f2.keepI k⟩,⟨us,hn _ hlt _ g1,g2.keepI k⟩,nd,np⟩;rw[l1] at e;cases e;exact k.2 _ _ _ _ l1
theorem FrN.dictW{A:SAd}{H:Hp}{d:Addr}{kvs kvs':List (Key×V)}(hd:H d=some (.dK kvs)){b:Addr}{o:HO}(e:H b=some o)(h:∀ k,o≠.dK k):upd H d (.dK kvs') b=some o:=by
 rw[Zi (Yo e hd (by intro z;exact h _ z))];exact e
theorem Ro.dictW{K:Frag}{A:SAd}{H:Hp}{d b:Addr}{kvs kvs':List (Key×V)}{xs:List V}(h:Ro K A H b xs)(hd:H d=some (.dK kvs)):Ro K A (upd H d (.dK kvs')) b xs:=by
 rcases h with ⟨h|⟨o,h⟩,n⟩|h
 ·exact .inl ⟨.inl (FrN.dictW (A:=A) hd h (by intro k z;cases z)),n⟩
 ·exact .inl ⟨.inr ⟨o,FrN.dictW (A:=A) hd h (by intro k z;cases z)⟩,n⟩
 ·exact .inr h
theorem Ls.dictW{A:SAd}{H:Hp}{d t lc ln:Addr}{cs nu:List Int}{kvs kvs':List (Key×V)}(h:Ls A H t lc ln cs nu)(hd:H d=some (.dK kvs)):Ls A (upd H d (.dK kvs')) t lc ln cs nu:=by
 have k:=Xj.dict hd (kvs':=kvs');obtain⟨⟨a1,a2,a3,a4,a5,a6,a7,a8,a9⟩,o⟩:=h;exact⟨⟨k.2 _ _ a1,k.1 _ _ a2,k.1 _ _ a3,a4,a5,a6,a7,a8,a9⟩,o⟩
end G
namespace L2
open PySem PySem.Spec PyProof.Rows
theorem fnS(a:sc.kind=.function:=by rfl)(b:sc.isCoroutine=false:=by rfl)(c:sc.isGenerator=false:=by rfl)(d:N.Nodup:=by decide +kernel)(e:N.take P.length=P:=by rfl)(f:∀ x∈P,sc.names.lookup x=some .local\/sc.names.lookup x=some .cell:=by decide +kernel)(g:∀ y∈sc.names,y.2≠.free:=by decide +kernel):Zl N P sc:=⟨a,b,c,d,e,f,g⟩
section
variable{X:Cx}{k j:Nat}{C:Addr}{ps:List Str}{sp:Sp}{E:XK}{x m:Str}{p pos pos' apos:Pos}{e o a b:Expr}{es:List Expr}{ta tb te:TE}{t:TA}{r:R2}
theorem pS(i:Nat)(hN:X.N.Nodup)(he:PE X e te)(hi:X.N[i]?=some x:=by rfl)(hx:Loc X.env.scope x:=by first|exact Or.inl rfl|exact Or.inr rfl)(hs:swapsWith e (some (.Name x pos')) pos.line X.env=pure false:=by rfl)(hf:Bo X i x:=by first|exact⟨.inl rfl,Wf⟩|exact⟨.inr rfl,Wf⟩|assumption|exact⟨.inl rfl,by assumption⟩|exact⟨.inr rfl,by assumption⟩) :
  PS X (.Assign [.Name x pos'] e pos) (zbo te (Wu i)):=zh2 hN hi hx he hs hf
theorem pN(i:Nat)(hN:X.N.Nodup)(hi:X.N[i]?=some x:=by rfl)(hx:Loc X.env.scope x:=by first|exact Or.inl rfl|exact Or.inr rfl)(hf:Bo X i x:=by first|exact⟨.inl rfl,Wf⟩|exact⟨.inr rfl,Wf⟩|assumption|exact⟨.inl rfl,by assumption⟩|exact⟨.inr rfl,by assumption⟩):PG X (.Name x pos) (Wu i):=Uo hN hi hx hf
theorem pI(hr:IxR X r)(ha:PE X a ta)(hb:PE X b tb)(hs:zak b:=by exact fun _ _=>rfl):PE X (.Subscript a b pos) (tOp r ta tb):=zj3 hr ha hb hs
theorem pD(hu:X.A.units+1<cLine)(ho:PE X a ta)(hi:PE X b tb)(hs:zh8 b:=by exact fun _ _=>rfl):PE X (.Subscript a b pos) (zhi ta tb):=zf9 hu ho hi hs
theorem pF(D:Z4 X.prog X.w X.K X.mg X.base x k ps sp)(hr:Wv j X.A)(ha:PA X (e :: es) t)(hk:k<=j:=by decide)(hx:Wy (CX1 X.prog X.w) X E:=by exact Zk)(hg:Gl X x:=by rfl)(hdb:(x == ("__debug__":Str))=false:=by decide)
  (he:starEach (e :: es) X.env=(false,eval e X.env) :: starEach es X.env:=by rfl) (hpl:(backTo pos (starEach es X.env)).any (·.1)=false:=by rfl):PE X (.Call (.Name x p) (e :: es) [] pos) (zds sp [] E t):=zao D (hr.mono hk) hx hg ha hdb he hpl
theorem iL(K:Frag)(h:X.K=K:=by rfl):IxR X (Ip K):=zeb h
theorem iU(K:Frag)(h:X.K=K:=by rfl):IxR X (zby K):=zgj h
theorem cL(K:Frag)(h:X.K=K:=by rfl):W8 X (.builtin "len") (fun xs H Q=>∃ p ys,xs=[.ref p]/\(SqL K H p ys\/SqT K H p ys)/\Q (.int ys.length) H):=Iw h
end
theorem cT(ys:List Str)(js:List Nat)(a:closureFor scope X.env=pure cl:=by rfl)(b:scope.kind=.function:=by rfl)(c:∀ y∈scope.names,y.2=.local->scope.names.lookup y.1=some .local:=by decide +kernel)(d:∀ y∈scope.names,y.2≠.cell:=by decide +kernel)(e:scope.names.lookup x=some .local:=by rfl)(f:(x :: ys).Nodup:=by decide +kernel)(g:js.map (X.N[·]?)=ys.map some:=by rfl)
  (h:Iv (fun y=>X.env.kindOf y=some .cell/\(relabel scope X.env).names.lookup y=some .cell/\cl.lookup y=X.env.cells.lookup y) ys:=by repeat' (first|exact True.intro|apply And.intro|rfl)) (i:Iv (fun p=>X.env.cells.lookup p.1=some p.2) cl:=by repeat' (first|exact True.intro|apply And.intro|rfl)) (j:∀ y∈scope.names,y.2=.free->y.1∈ys:=by decide +kernel):zam X x scope cl ys js:=⟨a,b,c,d,e,f,g,h,i,j⟩
abbrev LkF(K:Frag)(f:Addr)(x q:Str)(st:Stmt)(oc kV dc pm cd ct:Value)(od an:Option Addr)(sl:Array (Option Value)):Prop:=K.lookup f=some ⟨oc,od,.func (PySem.W.fnOf x q (Tf st) (Zr st) (Zj st) .none kV dc pm an cd ct),sl⟩
abbrev NsB(K:Frag)(x:Str)(f:Addr):Prop:=PySem.W.nsIn K mainGlobals x=some (some (.ref f))
abbrev FdB(K:Frag)(c:Addr)(x:Str)(f:Addr):Prop:=PySem.W.findIn K (.ref c) x=some (some (.ref f))
abbrev BnA(x q:Str)(st:Stmt)(ps:List Str):Prop:=∀ (kV doc pm:Value) (an:Option Addr) (cdv ct:Value) (us:List Value),us.length=ps.length->bindArgs (PySem.W.fnOf x q (Tf st) (Zr st) (Zj st) .none kV doc pm an cdv ct) ⟨us,[]⟩=pure (ps.zip us)
abbrev BnE(x q:Str)(st:Stmt)(ps:List Str)(us:List Value):Prop:=∀ (kV doc pm:Value) (an:Option Addr) (cdv ct:Value),bindArgs (PySem.W.fnOf x q (Tf st) (Zr st) (Zj st) .none kV doc pm an cdv ct) ⟨us,[]⟩=pure (ps.zip us)
section
variable{x q a b c d e g:Str}{st:Stmt}
theorem bn1(h:∀ u,BnE x q st [a] [u]:=by intros _ _ _ _ _ _ _;rfl):BnA x q st [a]:=fun _ _ _ _ _ _ us hl=>match us,hl with|[_],_=>h _ _ _ _ _ _ _
theorem bn2(h:∀ u v,BnE x q st [a,b] [u,v]:=by intros _ _ _ _ _ _ _ _;rfl):BnA x q st [a,b]:=fun _ _ _ _ _ _ us hl=>match us,hl with|[_,_],_=>h _ _ _ _ _ _ _ _
theorem bn3(h:∀ u v w,BnE x q st [a,b,c] [u,v,w]:=by intros _ _ _ _ _ _ _ _ _;rfl):BnA x q st [a,b,c]:=fun _ _ _ _ _ _ us hl=>match us,hl with|[_,_,_],_=>h _ _ _ _ _ _ _ _ _
theorem bn4(h:∀ u v w y,BnE x q st [a,b,c,d] [u,v,w,y]:=by intros _ _ _ _ _ _ _ _ _ _;rfl):BnA x q st [a,b,c,d]:=fun _ _ _ _ _ _ us hl=>match us,hl with|[_,_,_,_],_=>h _ _ _ _ _ _ _ _ _ _
theorem bn5(h:∀ u v w y z,BnE x q st [a,b,c,d,e] [u,v,w,y,z]:=by intros _ _ _ _ _ _ _ _ _ _ _;rfl):BnA x q st [a,b,c,d,e]:=fun _ _ _ _ _ _ us hl=>match us,hl with|[_,_,_,_,_],_=>h _ _ _ _ _ _ _ _ _ _ _
end
section
variable{K:Frag}{mg:Str->Option Value}{x y q m:Str}{k:Nat}{ps:List Str}{sp:Sp}{C:Addr}{st:Stmt}{f:Addr}{fd:FuncData}
theorem dMk(P:Program)(w:World)(base:Heap)(F:Fun K x q st f fd)(ok:FnOk P w K mg base (CX1 P w) k f fd ps sp)(b:mg y=some (.ref f))(hb:BnA x q st ps:=by first|exact bn1|exact bn2|exact bn3|exact bn4|exact bn5):Z4 P w K mg base y k ps sp:=⟨f,fd,ok,b,F.kp,F.binds hb⟩
theorem mMk(P:Program)(w:World)(base:Heap)(F:Fun K x q st f fd)(ok:FnOk P w K mg base (CX1 P w) k f fd ps sp)(b:zdr K C m f)(hb:BnA x q st ps:=by first|exact bn1|exact bn2|exact bn3|exact bn4|exact bn5):Zv P w K mg base C m k ps sp:=⟨f,fd,ok,b,F.binds hb⟩
theorem nMk(P:Program)(w:World)(base:Heap)(F:Fun K x q st f fd)(ok:FnOk P w K mg base (CX1 P w) k f fd ps sp)(b:Mk K C f)(c:mg y=some (.ref C))(hb:BnA x q st ps:=by first|exact bn1|exact bn2|exact bn3|exact bn4|exact bn5):Tt P w K mg base y C k ps sp:=⟨f,fd,ok,b,c,F.binds hb⟩
end
structure LN(K:Frag)(x q:Str)(st:Stmt)(f:Addr)(oc kV dc pm cd ct:Value)(od an:Option Addr)(sl:Array (Option Value)):Prop where
 b:NsB K x f
 l:LkF K f x q st oc kV dc pm cd ct od an sl
 c:PySem.W.codeIn K cd q=true
 k:PySem.W.keepIn K (.ref f)=true
structure LM(K:Frag)(C:Addr)(x q:Str)(st:Stmt)(f:Addr)(oc kV dc pm cd ct:Value)(od an:Option Addr)(sl:Array (Option Value)):Prop where
 b:FdB K C x f
 l:LkF K f x q st oc kV dc pm cd ct od an sl
 c:PySem.W.codeIn K cd q=true
 k:PySem.W.keepIn K (.ref f)=true
 i:PySem.W.isFn K (.ref f)=true
abbrev XcB(K:Frag)(c:Addr):Prop:=PySem.W.excIn K c [.type "ValueError",.type "Exception",.type "BaseException",.type "object"] "ValueError.__new__"=true
abbrev NzB(K:Frag)(x:Str):Prop:=PySem.W.nsIn K mainGlobals x=some none
structure XG(P:Program)(w:World)(base:Heap)(K:Frag)(mg:Str->Option Value)(h:Heap):Prop where
 X:K.In h
 G:h.Ns mainGlobals mg
section
variable{P:Program}{w:World}{base h:Heap}{K:Frag}{mg:Str->Option Value}{x y q:Str}{k:Nat}{ps:List Str}{sp:Sp}{C:Addr}{st:Stmt}{f:Addr}{oc kV dc pm cd ct:Value}{od an:Option Addr}{sl:Array (Option Value)}
theorem dN(Z:XG P w base K mg h)(l:LN K x q st f oc kV dc pm cd ct od an sl)(ok:∀ {fd},Fun K x q st f fd->FnOk P w K mg base (CX1 P w) k f fd ps sp)(hb:BnA x q st ps:=by first|exact bn1|exact bn2|exact bn3|exact bn4|exact bn5):Z4 P w K mg base x k ps sp :=
 dMk P w base (Pu l.l l.c l.k) (ok (Pu l.l l.c l.k)) (PySem.W.mg_of Z.X Z.G l.b) hb
theorem mM(_:XG P w base K mg h)(l:LM K C x q st f oc kV dc pm cd ct od an sl)(ok:∀ {fd},Fun K x q st f fd->FnOk P w K mg base (CX1 P w) k f fd ps sp)(hb:BnA x q st ps:=by first|exact bn1|exact bn2|exact bn3|exact bn4|exact bn5):Zv P w K mg base C x k ps sp :=
 mMk P w base (Pu l.l l.c l.k) (ok (Pu l.l l.c l.k)) ⟨l.b,l.i,l.k⟩ hb
theorem nM(Z:XG P w base K mg h)(l:LM K C "__init__" q st f oc kV dc pm cd ct od an sl)(m:PySem.W.makesIn K C=true)(kc:PySem.W.keepIn K (.ref C)=true)(c:PySem.W.nsIn K mainGlobals y=some (some (.ref C)))(ok:∀ {fd},Fun K "__init__" q st f fd->FnOk P w K mg base (CX1 P w) k f fd ps sp)(hb:BnA "__init__" q st ps:=by first|exact bn1|exact bn2|exact bn3|exact bn4|exact bn5):Tt P w K mg base y C k ps sp :=
 nMk P w base (Pu l.l l.c l.k) (ok (Pu l.l l.c l.k)) ⟨m,l.b,l.i,kc⟩ (PySem.W.mg_of Z.X Z.G c) hb
end
section
variable{X:Cx}{elt iter:Expr}{x:Str}{px pos:Pos}{ifs:List Expr}{scope:Scope}{cl:List (Str×Addr)}{ys:List Str}{js:List Nat}
theorem Jq{pins:List (Addr×Obj)}{σ:St}{H:Hp}{s:Shared}{tt:TT}{te:TE}{it:Addr}{fp:List Addr}{tn:Nat->Heap->Prop}{J:It}{W:Nat->Nat->List V->Hp->Prop}{m0:Nat}{Q:VK}{E:Value->Shared->Prop}{RR:Value->Addr->Result->Shared->Prop}
  (hcm:X.calm=true) (c:zam X x scope cl ys js) (ht:∀ pn s₀ H₀ fp C,PTs (Yt X pn (x :: ys) scope cl s₀ H₀ fp C) ifs tt) (hgt:∀ pn s₀ H₀ fp C,PG (Yt X pn (x :: ys) scope cl s₀ H₀ fp C) (.Name x px) (Wu 0)) (he:∀ pn s₀ H₀ fp C,PE (Yt X pn (x :: ys) scope cl s₀ H₀ fp C) elt te)
  (I:Inv X pins σ H s) (T:Dd X.prog X.w X.K (.Name x px) J fp it tn) (st0:tn 0 s.heap) (hf:∀ b∈fp,FpOk X pins H b) (w0:W 0 m0 [] H)
  (turn:∀ i m ys H,W i m ys H->(J.stop i H/\ys.length<=sizeLine/\∀ p,H p=none->Q (.ref p) (upd H p (.lst ys))) \/
   (J.go i H/\ys.length<sizeLine/\∃ N:List V->Hp->Prop,(∀ ys' H',N ys' H'->∃ m',m' < m/\W (i+1) m' ys' H')/\∀ x H',J.yld i H x H'->tt (cs js σ x) H' fun b H2=>if b=true then te (cs js σ x) H2 fun y H3=>N (ys++[y]) H3 else N ys H2))
  (hRR:∀ D C s' m,s'.heap.Ns C m->(∀ h',Heap.SameBut C s'.heap h'->∃ H',Inv X pins σ H' { s' with heap:=h' }/\Q (.ref D) H')->(∃ H',Inv X pins σ H' s'/\Q (.ref D) H'/\H' C=none)->s.heap.objs.size<=C->RR (.ref D) C (.ok .next) s') :
  wpAny (model X.prog X.w) X.A (newList []) (fun acc s₃=>wpAny (model X.prog X.w) X.A (newFunctionEnv scope X.env.globals cl [] X.env.qual none .none (some X.env)) (fun cenv s₄ =>
   codeAny (model X.prog X.w) X.A (.compStart (.ListComp elt [⟨.Name x px,iter,ifs,0⟩] scope pos) 0 (.ref it) acc { cenv with scope:=relabel scope X.env }) (RR acc cenv.locals) s₄) E s₃) E s :=
 K5 (xo:=[x]) (g:=Wu 0) hcm ⟨c.clos,c.kind,c.names,c.nocell,c.at_,c.free,c.only,c.vis⟩ ht hgt he I T st0 hf w0 (fun i m ys H w=>(turn i m ys H w).imp id fun ⟨a,b,N,n1,n2⟩=>⟨a,b,N,n1,fun y H' hy=>⟨⟨[some y],rfl,rfl⟩,n2 y H' hy⟩⟩) hRR
variable{wi:TI}{tt:TT}{te:TE}
theorem Vh(hcm:X.calm=true)(c:zam X x scope cl ys js)(hi:PI X (.Name x px) iter wi)(ht:∀ pn s₀ H₀ fp C,PTs (Yt X pn (x :: ys) scope cl s₀ H₀ fp C) ifs tt)(he:∀ pn s₀ H₀ fp C,PE (Yt X pn (x :: ys) scope cl s₀ H₀ fp C) elt te)
  (hx:∀ C,(compEnvC scope cl C X.env).scope.names.lookup x=some .local:=by intro _;rfl) (hs:∀ x,foldedSetIterable iter X.env x=pure x:=by intro _;rfl):PE X (.ListComp elt [⟨.Name x px,iter,ifs,0⟩] scope pos) (zhl wi js tt te):=by
 intro pins s σ H Q I h;rw[eval_ListComp];refine wpAny_comprehension_free (use:=none) rfl hs c.clos c.kind c.names (thn (hi pins s σ H _ I h) fun v s1 h1=>thn h1 fun itv s2 h2=>?_);obtain⟨it,fp,tn,J,H2,e,I2,T,st2,f2,W,⟨m0,w0⟩,turn⟩:=h2;subst e;exact Jq (RR:=fun acc C=>compPost (model X.prog X.w) X.A X.xe none (EP X pins σ Q) acc C) hcm c ht (fun _ _ _ _ C=>Uo (X:=Yt X _ (x :: ys) scope cl _ _ _ C) c.nd rfl (.inl (hx C)) ⟨.inr (hx C),Wf⟩) he I2 T st2 f2 w0 turn fun D C s' m hn hS _ _=>⟨m,hn,fun h' hs'=>let ⟨H',I',q⟩:=hS h' hs';⟨.ref D,H',I',rfl,q⟩⟩
theorem Tn{y:Str}{py spos:Pos}{i:Nat}(hN:X.N.Nodup)(hy:X.N[i]?=some y)(hk:X.env.scope.names.lookup y=some .local)(hcm:X.calm=true)(c:zam X x scope cl ys js)(hi:PI X (.Name x px) iter wi)(ht:∀ pn s₀ H₀ fp C,PTs (Yt X pn (x :: ys) scope cl s₀ H₀ fp C) ifs tt)
  (he:∀ pn s₀ H₀ fp C,PE (Yt X pn (x :: ys) scope cl s₀ H₀ fp C) elt te)
  (hx:∀ C,(compEnvC scope cl C X.env).scope.names.lookup x=some .local:=by intro _;rfl) (hsw:swapsWith (.ListComp elt [⟨.Name x px,iter,ifs,0⟩] scope pos) (some (.Name y py)) spos.line X.env=pure true:=by rfl) (hs:∀ x,foldedSetIterable iter X.env x=pure x:=by intro _;rfl)
  (hf:Bo X i y:=by first|exact⟨.inr rfl,Wf⟩|assumption|exact⟨.inr rfl,by assumption⟩) :
  PS X (.Assign [.Name y py] (.ListComp elt [⟨.Name x px,iter,ifs,0⟩] scope pos) spos) (zbo (zhl wi js tt te) (Wu i)):=by
 intro pins s σ H D0 I h;rw[exec_Assign_Name_used _ _ _ _ hsw];refine wpAny_bind (wpAny_standAt (wpAny_bind ?_));show wpAny _ X.A (do let _ <- comprehension (.ListComp elt [⟨.Name x px,iter,ifs,0⟩] scope pos) scope X.env _ (newList []) false (eval iter X.env) (some (assign (.Name y py) X.env))) _ _ s;refine wpAny_bind (wpAny_mono (wpAny_comprehension_free (use:=some (assign (.Name y py) X.env)) (Q:=fun _ s'=>SP X pins D0 .next s') rfl hs c.clos c.kind c.names
  (thn (hi pins s σ H _ I h) fun v s1 h1=>thn h1 fun itv s2 h2=>?_)) (fun _ s' hq=>wpAny_pure (wpAny_pure hq)) fun _ _ e=>e)
 obtain⟨it,fp,tn,J,H2,e,I2,T,st2,f2,W,⟨m0,w0⟩,turn⟩:=h2;subst e;refine Jq (Q:=fun x H1=>D0.nx (σ.set i (some x)) H1) (RR:=fun acc C=>compPost (model X.prog X.w) X.A X.xe (some (assign (.Name y py) X.env)) (fun _ s'=>SP X pins D0 .next s') acc C) hcm c ht (fun _ _ _ _ C=>Uo (X:=Yt X _ (x :: ys) scope cl _ _ _ C) c.nd rfl (.inl (hx C)) ⟨.inr (hx C),Wf⟩) he I2 T st2 f2 w0 turn fun D C s' m hn _ hS hC=>?_;obtain⟨H',I',q,fC⟩:=hS;show wpAny _ X.A (assign (.Name y py) X.env (.ref D)) _ _ _;have ltC:∀ b o,s2.heap.get? b=some o->b≠C:=fun b o e=>zt2 (zty (Heap.lt_size e) hC);have neL:C≠X.env.locals:=by
  obtain⟨_,⟨o,_,_,ho,_⟩,_⟩:=I2.loc;exact Ne.symm (ltC _ o ho)
 have neK:∀ z a,X.env.cells.lookup z=some a->a≠C:=fun z a e=>by
  obtain⟨_,o,ho,_⟩:=I2.cell z a e;exact ltC a o ho
 refine wpAny_assign_Name (Gk I' hN hy (.inl hk) (v:=.ref D) (show RelV (.ref D) (.ref D) from rfl) (fun s4 I4 ⟨a,hs4,ha⟩=>?_) hf);have naC:C≠a:=by
  rcases ha with ha|ha
  ·rw[ha];exact neL
  ·exact Ne.symm (neK _ _ ha)
 refine⟨m,hn.sameBut hs4 naC,fun h5 hs5=>⟨_,H',?_,q⟩⟩;refine I4.turned (t':=s4.toks) (it:=C) (fun b o hb e=>hs5.extBut b o hb e) fC neL (.inr (zts I2.sz hC)) neK fun p hp=>?_;obtain⟨e,_⟩:=I2.pin p hp;exact ltC _ _ e
end
end L2
namespace G
open PySem PySem.Spec PyProof.Rows L2
def C4:Qd->Str
 | .enrol _ _ _=>"enrol"
 | .away _ _=>"away"
 | .draw _=>"draw up"
 | .close=>"close"
 | .back=>"take back"
theorem Wj.word(h:Wj ok H t D):∃ r,H t=some (.tup (.str (C4 D) :: r)):=by
 cases D with
 | enrol a b c=>exact⟨_,h⟩
 | away a b=>exact⟨_,h⟩
 | draw ms=>obtain⟨l,ts,a1,_⟩:=h;exact⟨_,a1⟩
 | close=>exact⟨_,h⟩
 | back=>exact⟨_,h⟩
theorem Fh:decide (V.str (C4 D)=V.str "away")=match D with|.away _ _=>true|_=>false:=by
 cases D with
 | away a b=>exact Ek
 | enrol a b c=>exact Ur (show decide (("enrol":Str)="away")=false by decide +kernel)
 | draw ms=>exact Ur (show decide (("draw up":Str)="away")=false by decide +kernel)
 | close=>exact Ur (show decide (("close":Str)="away")=false by decide +kernel)
 | back=>exact Ur (show decide (("take back":Str)="away")=false by decide +kernel)
end G
namespace G
open PySem PySem.Spec PyProof.Rows L2
theorem zbb(h:¬ ∃ i n,D=.away i n):decide (V.str (C4 D)=V.str "away")=false:=by
 rw[Fh];cases D with
 | away i n=>exact absurd ⟨_,_,rfl⟩ h
 | enrol _ _ _=>rfl
 | draw _=>rfl
 | close=>rfl
 | back=>rfl
end G
namespace G
open PySem PySem.Spec PyProof.Rows L2
variable{rows:List (List Int)}{gs:List V}
def Vi(v:V):Nat:=if v=.non then 0 else 1
def binV(a:Nat)(gs:List V):Nat:=gs.foldl (fun a v=>2*a+Vi v) a
theorem Av(v:V):Vi v<=1:=by unfold Vi;split<;>omega
theorem Aw:∀ {xs ys:List V} {a b:Nat},xs.length=ys.length->a<b->binV a xs<binV b ys
 | [],[],a,b,_,h=>h
 | x :: xs,y :: ys,a,b,e,h=>by
   have hx:=Av x;exact Aw (xs:=xs) (ys:=ys) (a:=2*a+Vi x) (b:=2*b+Vi y) (by simpa using e) ⋯
theorem Qe:∀ {xs ys:List V} {a:Nat},xs.length=ys.length->(Th xs ys=true↔binV a ys<binV a xs)
 | [],[],a,_=>by simp[Th,binV]
 | x :: xs,y :: ys,a,e=>by
   have e':xs.length=ys.length:=by simpa using e
   show (if decide (x=.non)=decide (y=.non) then Th xs ys else decide (y=.non))=true↔binV (2*a+Vi y) ys<binV (2*a+Vi x) xs;by_cases hx:x=.non<;>by_cases hy:y=.non
   ·rw[if_pos (by rw[ztf hx,ztf hy]),hx,hy];exact Qe e'
   ·rw[if_neg (by rw[ztf hx,zth hy];decide),zth hy];have h1:Vi x=0:=by unfold Vi;rw[if_pos hx]
    have h2:Vi y=1:=by unfold Vi;rw[if_neg hy]
    have:=Aw (xs:=xs) (ys:=ys) (a:=2*a+Vi x) (b:=2*a+Vi y) e' ⋯;exact⟨(fun z=>nomatch z),fun z=>by omega⟩
   ·rw[if_neg (by rw[zth hx,ztf hy];decide),ztf hy];have h1:Vi x=1:=by unfold Vi;rw[if_neg hx]
    have h2:Vi y=0:=by unfold Vi;rw[if_pos hy]
    have:=Aw (xs:=ys) (ys:=xs) (a:=2*a+Vi y) (b:=2*a+Vi x) e'.symm ⋯;exact⟨fun _=>this,fun _=>rfl⟩
   ·have h1:Vi x=Vi y:=by unfold Vi;rw[if_neg hx,if_neg hy]
    rw[if_pos (by rw[zth hx,zth hy]),h1];exact Qe e'
theorem Jr:∀ {xs ys:List V},xs.length=ys.length->Th xs ys=true->∃ (p:Nat) (v:V),xs[p]?=some v/\v≠V.non/\ys[p]?=some V.non/\∀ q:Nat,q<p->(xs[q]?=some V.non↔ys[q]?=some V.non)
 | [],[],_,h=>nomatch h
 | x :: xs,y :: ys,e,h=>by
   have e':xs.length=ys.length:=by simpa using e
   replace h:(if decide (x=.non)=decide (y=.non) then Th xs ys else decide (y=.non))=true:=h
   by_cases hc:decide (x=.non)=decide (y=.non)
   ·rw[if_pos hc] at h;obtain⟨p,v,h1,h2,h3,h4⟩:=Jr e' h;refine⟨p+1,v,by simpa using h1,h2,by simpa using h3,fun q hq=>?_⟩;cases q with
    | zero =>
      have:x=.non↔y=.non:=decide_eq_decide.mp hc
      simpa using this
    | succ q=>simpa using h4 q ⋯
   ·rw[if_neg hc] at h;have hy:=of_decide_eq_true h;have hx:x≠.non:=fun z=>hc (by rw[ztf z,ztf hy]);exact⟨0,x,rfl,hx,by rw[hy];rfl,fun q hq=>absurd hq (zvr _)⟩
theorem C5(F:Ya rows gs)(S:Wh rows gs)(F':Ya rows hs):Th hs gs=false:=by
 cases hh:Th hs gs with
 | false=>rfl
 | true =>
   exfalso
   obtain⟨p,v,h1,h2,h3,h4⟩:=Jr (F'.len.trans F.len.symm) hh;obtain⟨C,cp,cl⟩:=S p h3
   classical
   let L:=(List.range p).filter fun q=>decide (C q)
   have go:∀ q,q∈L++[p]->gs[q]?≠some .non\/q=p->∃ q' n,hs[q]?=some (.int n)/\q' < p/\gs[q']?=some (.int n)/\C q':=fun q hq hf=>by
    have cq:C q/\(q<p\/q=p):=by
     rcases ztl.mp hq with z|z
     ·have:=ztw.mp z;exact⟨of_decide_eq_true this.2,.inl (zt5.mp this.1)⟩
     ·have z:=zte.mp z;subst z;exact⟨cp,.inr rfl⟩
    obtain⟨hlt,hcl⟩:=cl q cq.1;have hql:q<hs.length:=by rw[F'.len];exact hlt
    have hx:hs[q]?=some (hs[q]'hql):=ztb hql;rcases F'.one _ (zue hql) with z|⟨n,z⟩
    ·exfalso
     rw[z] at hx;rcases cq.2 with hp|hp
     ·rcases hf with hf|hf
      ·exact hf ((h4 q hp).mp hx)
      ·omega
     ·subst hp;rw[h1] at hx;exact h2 (Option.some.inj hx)
    ·rw[z] at hx;obtain⟨r,hr,hn⟩:=F'.may q n hx;obtain⟨q',a1,a2,a3⟩:=hcl r hr n hn;exact⟨q',n,hx,a1,a2,a3⟩
   let L2:=L.filter fun q=>decide (gs[q]?≠some .non)
   have go2:∀ q,q∈L2++[p]->∃ q' n,hs[q]?=some (.int n)/\gs[q']?=some (.int n)/\q'∈L2:=fun q hq=>by
    have:q∈L++[p]/\(gs[q]?≠some .non\/q=p):=by
     rcases ztl.mp hq with z|z
     ·have:=ztw.mp z;exact⟨ztl.mpr (.inl this.1),.inl (of_decide_eq_true this.2)⟩
     ·exact⟨ztl.mpr (.inr z),.inr (zte.mp z)⟩
    obtain⟨q',n,a1,a2,a3,a4⟩:=go q this.1 this.2;refine⟨q',n,a1,a3,ztw.mpr ⟨ztw.mpr ⟨zt5.mpr a2,ztf a4⟩,ztf ?_⟩⟩;rw[a3];exact(fun z=>nomatch z)
   have nd2:L2.Nodup:=(List.nodup_range.filter _).filter _;have np:p∉L2:=fun z=>by
    have:=zt5.mp (ztw.mp (ztw.mp z).1).1;omega
   let φ:Nat->Nat:=fun q=>if h:q∈L2++[p] then (go2 q h).choose else 0
   have φs:∀ q (h:q∈L2++[p]),∃ n,hs[q]?=some (.int n)/\gs[φ q]?=some (.int n)/\φ q∈L2:=fun q h=>by
    have:=(go2 q h).choose_spec;show ∃ n,hs[q]?=some (.int n)/\gs[if h:q∈L2++[p] then (go2 q h).choose else 0]?=_/\(if h:q∈L2++[p] then (go2 q h).choose else 0)∈L2;rw[dif_pos h];exact this
   have nd:((L2++[p]).map φ).Nodup:=by
    have ndA:(L2++[p]).Nodup:=zvl.mpr ⟨nd2,ztz.mpr ⟨zud,zu5⟩,fun a ha b hb e=>by
     have:=zte.mp hb;subst this;subst e;exact np ha⟩
    rw[zui,List.pairwise_map];refine List.Pairwise.imp_of_mem (fun {i j} hi hj (hne:i≠j) z=>?_) (zui.mp ndA);obtain⟨n,b1,b2,_⟩:=φs i hi;obtain⟨m,c1,c2,_⟩:=φs j hj;rw[z,c2] at b2;have:m=n:=by injection b2 with b2;injection b2
    subst this;exact hne (F'.inj i j m b1 c1)
   have:=nd.length_le_of_subset (l₂:=L2) fun x hx=>by
    obtain⟨q,hq,rfl⟩:=ztk.mp hx;obtain⟨_,_,_,z⟩:=φs q hq;exact z
   rw[zta,ztc] at this;simp only[ztt,zvh] at this;omega
theorem Ax(F:Ya rows gs)(S:Wh rows gs)(F':Ya rows hs):binV 0 hs<=binV 0 gs:=by
 have:=C5 F S F';by_cases h:binV 0 gs<binV 0 hs
 ·rw[(Qe (F'.len.trans F.len.symm)).mpr h] at this;cases this
 ·omega
inductive StR(nu:List Int):List (List Int)->Nat->Nat->Prop where
 | nil:StR nu [] 0 0
 | skip {rows:List (List Int)} {r:List Int} {f u:Nat} (h:StR nu rows f u):StR nu (rows++[r]) (2*f) u
 | take {rows:List (List Int)} {r:List Int} {f u b:Nat} {n:Int} (h:StR nu rows f u) (hb:nu[b]?=some n) (hn:n∈r) (hu:u/2 ^ b%2=0):StR nu (rows++[r]) (2*f+1) (u+2 ^ b)
theorem zfj(h:u/2 ^ b%2=0):(u+2 ^ b)/2 ^ b%2=1:=by
 rw[Nat.add_div_right _ (Nat.two_pow_pos b)];omega
theorem zc0(h:u/2 ^ b%2=0)(hc:c≠b):(u+2 ^ b)/2 ^ c%2=u/2 ^ c%2:=by
 rcases Nat.lt_or_gt_of_ne hc with z|z
 ·obtain⟨d,rfl⟩:∃ d,b=c+1+d:=⟨b-c-1,by omega⟩;have e:2 ^ (c+1+d)=2 ^ c*(2*2 ^ d):=by rw[Nat.pow_add,Nat.pow_succ,Nat.mul_assoc]
  rw[e,Nat.add_mul_div_left _ _ (Nat.two_pow_pos c)];omega
 ·obtain⟨d,rfl⟩:∃ d,c=b+1+d:=⟨c-b-1,by omega⟩;have e:2 ^ (b+1+d)=2 ^ b*2*2 ^ d:=by rw[Nat.pow_add,Nat.pow_succ]
  rw[e,<- zvd,<- zvd,<- zvd,<- zvd,Nat.add_div_right _ (Nat.two_pow_pos b)]
  congr 2
  omega
theorem Qf(xs:List α)(v:α)(k:Nat):(xs++[v])[k]?=if k<xs.length then xs[k]? else if k=xs.length then some v else none:=by
 by_cases h:k<xs.length
 ·rw[if_pos h,zt9 h]
 ·rw[if_neg h,zt6 (Nat.le_of_not_lt h)];by_cases e:k=xs.length
  ·rw[if_pos e,e,Nat.sub_self];rfl
  ·rw[if_neg e];obtain⟨d,hd⟩:∃ d,k-xs.length=d+1:=⟨k-xs.length-1,by omega⟩;rw[hd];rfl
theorem Vx{α:Type}{xs:List α}{k:Nat}{v:α}(h:xs[k]?=some v):k<xs.length:=(ztd.mp h).1
theorem U1{α:Type}{xs:List α}{v x:α}{k:Nat}(h:xs[k]?=some x):(xs++[v])[k]?=some x:=by rw[Qf,if_pos (Vx h)];exact h
theorem Vy(h:(xs++[v])[k]?=some x):xs[k]?=some x\/(k=xs.length/\v=x):=by
 rw[Qf] at h;split at h
 ·exact .inl h
 ·split at h
  ·rename_i e;exact .inr ⟨e,Option.some.inj h⟩
  ·cases h
theorem Fi{rows:List (List Int)}{gs:List V}{r:List Int}{v:V}(F:Ya rows gs)(hv:v=.non\/∃ n,v=.int n/\n∈r/\∀ k:Nat,gs[k]?≠some (.int n)):Ya (rows++[r]) (gs++[v]):=by
 refine⟨by rw[ztc,ztc,F.len];rfl,fun x hx=>?_,fun k n h=>?_,fun j k n h1 h2=>?_⟩
 ·rcases ztl.mp hx with z|z
  ·exact F.one x z
  ·have:=zte.mp z;subst this;rcases hv with z|⟨n,z,_⟩
   ·exact .inl z
   ·exact .inr ⟨n,z⟩
 ·rcases Vy h with z|⟨z,e⟩
  ·obtain⟨q,h1,h2⟩:=F.may k n z;exact⟨q,U1 h1,h2⟩
  ·rcases hv with z'|⟨m,z',hm,_⟩
   ·rw[z'] at e;cases e
   ·rw[z'] at e;injection e with e;subst e;exact⟨r,by rw[Qf,z,F.len,if_neg (zun _),if_pos rfl],hm⟩
 ·rcases Vy h1 with a|⟨a,ea⟩<;>rcases Vy h2 with b|⟨b,eb⟩
  ·exact F.inj j k n a b
  ·rcases hv with z|⟨m,z,_,hm⟩
   ·rw[z] at eb;cases eb
   ·rw[z] at eb;injection eb with eb;subst eb;exact absurd a (hm j)
  ·rcases hv with z|⟨m,z,_,hm⟩
   ·rw[z] at ea;cases ea
   ·rw[z] at ea;injection ea with ea;subst ea;exact absurd b (hm k)
  ·omega
theorem C6{rows:List (List Int)}{gs:List V}{r:List Int}{v:V}(F:Ya (rows++[r]) (gs++[v])):Ya rows gs/\(v=.non\/∃ n,v=.int n/\n∈r/\∀ k:Nat,gs[k]?≠some (.int n)):=by
 have hl:gs.length=rows.length:=by have:=F.len;rw[ztc,ztc] at this;simpa using this
 have hat:(gs++[v])[gs.length]?=some v:=by rw[Qf,if_neg (zun _),if_pos rfl]
 refine⟨⟨hl,fun x hx=>F.one x (ztl.mpr (.inl hx)),fun k n h=>?_,fun j k n h1 h2=>F.inj j k n (U1 h1) (U1 h2)⟩,?_⟩
 ·obtain⟨q,h1,h2⟩:=F.may k n (U1 h);rcases Vy h1 with z|⟨z,_⟩
  ·exact⟨q,z,h2⟩
  ·have:=Vx h;omega
 ·rcases F.one v (ztl.mpr (.inr (zte.mpr rfl))) with z|⟨n,z⟩
  ·exact .inl z
  ·refine .inr ⟨n,z,?_,fun k h=>?_⟩
   ·obtain⟨q,h1,h2⟩:=F.may gs.length n (by rw[hat,z]);rcases Vy h1 with y|⟨_,y⟩
    ·have:=Vx y;omega
    ·rw[y];exact h2
   ·have:=F.inj k gs.length n (U1 h) (by rw[hat,z]);have:=Vx h;omega
open Classical in
theorem zbc(h:p↔q):(if p then 1 else 0:Nat)=if q then 1 else 0:=by
 by_cases z:p
 ·rw[if_pos z,if_pos (h.mp z)]
 ·rw[if_neg z,if_neg fun y=>z (h.mpr y)]
open Classical in
def Fj(nu:List Int)(gs:List V)(u:Nat):Prop:=∀ (b:Nat) (n:Int),nu[b]?=some n->u/2 ^ b%2=if ∃ k:Nat,gs[k]?=some (.int n) then 1 else 0
theorem Qg(gs:List V)(v:V):binV 0 (gs++[v])=2*binV 0 gs+Vi v:=by unfold binV;rw[List.foldl_append];rfl
theorem zja{nu:List Int}(nd:nu.Nodup){b c:Nat}{n:Int}(h1:nu[b]?=some n)(h2:nu[c]?=some n):b=c:=by
 obtain⟨l1,e1⟩:=ztd.mp h1;obtain⟨l2,e2⟩:=ztd.mp h2;have hp:=List.pairwise_iff_getElem.mp (zui.mp nd);rcases Nat.lt_trichotomy b c with z|z|z
 ·exact absurd (e1.trans e2.symm) (hp b c l1 l2 z)
 ·exact z
 ·exact absurd (e2.trans e1.symm) (hp c b l2 l1 z)
theorem zbd{nu:List Int}{gs:List V}{u:Nat}(U:Fj nu gs u):Fj nu (gs++[.non]) u:=fun b n hb=>by
 rw[U b n hb];have:(∃ k:Nat,gs[k]?=some (.int n))↔∃ k:Nat,(gs++[V.non])[k]?=some (.int n):=⟨fun ⟨k,h⟩=>⟨k,U1 h⟩,fun ⟨k,h⟩=>by
  rcases Vy h with z|⟨_,z⟩
  ·exact⟨k,z⟩
  ·cases z⟩
 exact zbc this
theorem zbe{nu:List Int}{gs:List V}{u b:Nat}{n:Int}(nd:nu.Nodup)(U:Fj nu gs u)(hb:nu[b]?=some n)(hu:u/2 ^ b%2=0):Fj nu (gs++[.int n]) (u+2 ^ b):=fun c m hc=>by
 by_cases e:c=b
 ·subst e;rw[hb] at hc;injection hc with hc;subst hc;rw[zfj hu,if_pos ⟨gs.length,by rw[Qf,if_neg (zun _),if_pos rfl]⟩]
 ·rw[zc0 hu e,U c m hc];have hne:m≠n:=fun z=>e (zja nd hc (by rw[z];exact hb));have:(∃ k:Nat,gs[k]?=some (.int m))↔∃ k:Nat,(gs++[V.int n])[k]?=some (.int m):=⟨fun ⟨k,h⟩=>⟨k,U1 h⟩,fun ⟨k,h⟩=>by
   rcases Vy h with z|⟨_,z⟩
   ·exact⟨k,z⟩
   ·injection z with z;exact absurd z.symm hne⟩
  exact zbc this
end G
namespace L2
open PySem PySem.Spec PyProof.Rows
section
variable{X:Cx}{pins:List (Addr×Obj)}{σ:St}{H:Hp}{s:Shared}{a b:Addr}{u r:Value}{v:V}{A:Around}{E:Value->Shared->Prop}
theorem zjb(hu:A.units<cLine)(I:Inv X pins σ H s)(e:H a=some (.dT kvs))(eb:H b=some (.tup (k.map kV)))(l:kvs.length<sizeLine)(rv:RelV v r)
  (h:∀ s',Inv X pins σ (upd H a (.dT (putK kvs k v))) s'->Q () s'):wpAny (model X.prog X.w) A (dictSet a (.ref b) r) Q E s:=by
 obtain⟨z,hd,xs,rel,dd⟩:=zdy I.hok e;have hl:(putK kvs k v).length<=sizeLine:=zts (Y7 kvs k v) l;refine wpAny_dictSet_heap (hsz:=by rw[<- Paired.length rel];exact z) (show A.units<cLine from hu) (Rx I.hok eb) dd fun h' dd' hs=>h _ ?_;obtain⟨q,es,ep,hq,h2,h3,h4,_,h5⟩:=dd';refine Qv I (by rw[e];exact True.intro) hs ⟨q,hq⟩ ⟨hl,hd,_,(rel.put k eb rv).keeps fun c ys ec=>?_,q,es,ep,hq,h2,h3,h4,h5⟩;rw[Zi (Yo ec e (fun z=>nomatch z))];exact ec
end
def zjc(tk tv:TE):TE:=fun σ H Q=>∀ p,H p=none->tk σ (upd H p (.dT [])) fun x H1=>tv σ H1 fun y H2=>∃ (b:Addr) (k:List Key),x=.ref b/\H2 p=some (.dT [])/\H2 b=some (.tup (k.map kV))/\Q (.ref p) (upd H2 p (.dT [(k,y)]))
theorem zfk(hk:PE X k tk)(hv:PE X v tv)(hu:X.A.units+1<cLine):PE X (.Dict [some k] [v] pos) (zjc tk tv):=by
 intro pins s σ H Q I q;have hn:=I.hok.fresh (ztm s.heap.objs.size);have I1:=I.laid (a:=s.heap.objs.size) (o:=.dT []) (h':=s.heap.push { cls:=.type "dict",data:=.dict #[] }) (t':=s.toks) (fun _ _ q=>Heap.get?_push_of_some _ q) (ztm _) (Dm s.heap I.big);refine wpAny_Dict_any rfl rfl (by simp) (by simp) (thn (V9 (pos:=pos) hk hv Fw pins _ σ _ (fun ps H3=>match ps with
  | [(x,y)]=>∃ (b:Addr) (k:List Key),x=.ref b/\H3 s.heap.objs.size=some (.dT [])/\H3 b=some (.tup (k.map kV))/\Q (.ref s.heap.objs.size) (upd H3 s.heap.objs.size (.dT [(k,y)]))
  | _=>False) I1 (q _ hn)) fun ws s2 ⟨ps,H2,I2,rel,g⟩=>?_)
 match ps,g with
 | [(x,y)],⟨b,k,e1,h1,h2,h3⟩ =>
   subst e1;cases rel with
   | @cons _ w2 _ ws2 hw tl =>
     cases tl;obtain⟨u,r⟩:=w2;cases (show u=Value.ref b from hw.1);unfold storeAll;rw[List.forIn_cons];refine wpAny_bind (wpAny_bind (zjb (Nat.lt_of_succ_lt hu) I2 h1 h2 (by rw[zvh,sizeLine_eq];decide) hw.2 fun s3 I3=>wpAny_pure ?_));show wpAny _ _ (forIn ([]:List (Value×Value)) _ _) _ _ _;rw[List.forIn_nil];exact wpAny_pure ⟨.ref s.heap.objs.size,_,I3,rfl,h3⟩
def Js(h:Heap)(d:Addr)(es:Array DictEntry)(ep:Nat):Prop:=∃ o,h.get? d=some o/\o.ExactDict/\o.data=.dict es ep
section
variable{prog:Program}{w:World}{A:Around}{E:Value->Shared->Prop}{s:Shared}{d it:Addr}{es:Array DictEntry}{ep i:Nat}
theorem Js.type(x:Js s.heap d es ep):s.TypeIs (.ref d) "dict":=let ⟨o,h1,h2,_⟩:=x;⟨o,h1,h2.1⟩
theorem Js.iter(hd:(d == sysModules)=false)(x:Js s.heap d es ep)
  (q:Q (.ref s.heap.objs.size) { s with heap:=s.heap.push { cls:=.type "dict_keyiterator",data:=.fields #[.ref d,.int 0 0,.int es.size 0,.int ep 0] } }):wpAny (model prog w) A (pyIter (.ref d)) Q E s:=by
 obtain⟨o,h1,h2,h3⟩:=id x;refine wpAny_pyIter_slot x.type F.slot_dict_iter (wpAny_call_entry F.slot_dict_iter x.type F.entry_dict_iter ?_ (F.args_dict_iter_1 _));unfold Builtin.«dict.__iter__» Builtin.Dict.dictSlotNone;refine wpAny_bind (wpAny_bind (wpAny_notOrdered_dict x.type (wpAny_pure ?_)));refine wpAny_bind (m:=Builtin.Dict.showsAll d) ?_;rw[show Builtin.Dict.showsAll d=pure () from if_neg (by rw[hd];exact ztu)];exact wpAny_pure (wpAny_bind (wpAny_dictEntries h1 h3 (wpAny_bind (wpAny_dictEpoch h1 h3 (wpAny_bind (wpAny_newObj_type (wpAny_pure ⟨_,rfl,"dict_keyiterator",_,⟨_,Heap.get?_push_size _ rfl,rfl⟩,F.slot_dict_keyiterator_next.lookup,q⟩)))))))
theorem Js.next(hh:A.handled=none)(y:s.heap.IsKeyIter it d i es.size ep)(x:Js s.heap d es ep)
  (q1:∀ (hi:i<es.size) (h':Heap),h'.IsKeyIter it d (i+1) es.size ep->Heap.SameBut it s.heap h'->Q (some es[i].key) { s with heap:=h' })
  (q2:es.size<=i->∀ h',Heap.ExtBut it s.heap h'->Q none { s with heap:=h' }):wpAny (model prog w) A (pyNext (.ref it)) Q E s:=by
 obtain⟨oi,i1,i2,i3⟩:=id y;obtain⟨o,h1,h2,h3⟩:=id x;have own:Builtin.Dict_items.ownsTuple "dict_keyiterator"=false:=by decide
 unfold pyNext;refine wpAny_bind (wpAny_attempt (wpAny_callSpecial?_slot (name:=Str.ofString "__next__") y.typeIs F.slot_dict_keyiterator_next (wpAny_call_entry F.slot_dict_keyiterator_next y.typeIs F.entry_dict_keyiterator_next (wpAny_bind (wpAny_pure (wpAny_bind (wpAny_bind ?_)))) (F.args_dict_keyiterator_next_1 _))))
 first|refine wpAny_bind (wpAny_typeNameOfWhole_keyiter y.typeIs (wpAny_pure (wpAny_bind (wpAny_fieldsOf i1 i3 ?_))))|refine wpAny_bind (wpAny_typeNameOf_keyiter y.typeIs (wpAny_pure (wpAny_bind (wpAny_fieldsOf i1 i3 ?_))))
 simp only[own,zu3,if_false];show wpAny _ _ (if (Value.ref d == Value.none)=true then _ else _) _ _ s;rw[if_neg (by exact ztu)];refine wpAny_bind (wpAny_pure (wpAny_bind (wpAny_dictEntries h1 h3 ?_)));rw[if_neg (by simp)];refine wpAny_bind (wpAny_pure (wpAny_bind (wpAny_dictEpoch h1 h3 ?_)));rw[if_neg (by simp)];refine wpAny_pure ?_;rcases Nat.lt_or_ge i es.size with hi|hi
 ·simp only[show ¬ ((i:Int)<0) from by omega,if_false,ztv,Array.getElem?_eq_getElem hi];refine wpAny_bind ?_
  first|refine wpAny_bind (wpAny_typeNameOfWhole_keyiter y.typeIs (wpAny_pure (wpAny_bind (wpAny_isOneOf_keyiter y.typeIs ?_))))|refine wpAny_bind (wpAny_typeNameOf_keyiter y.typeIs (wpAny_pure (wpAny_bind (wpAny_isOneOf_keyiter y.typeIs ?_))))
  show wpAny _ _ (setField (.ref it) 1 (rawInt ((i:Int)+1)) >>= _) _ _ s;refine wpAny_bind (wpAny_setField i1 i3 (by simp) ?_);have y':(s.heap.update it (Obj.mapFields (·.setIfInBounds 1 (rawInt ((i:Int)+1))))).IsKeyIter it d (i+1) es.size ep:=⟨_,Heap.get?_update_self _ i1 (Obj.isFreed_of_fields (Obj.data_mapFields i3 _)),(Obj.cls_mapFields ..).trans i2,by rw[Obj.data_mapFields i3];simp[rawInt]⟩;refine wpAny_bind (wpAny_holding (wpAny_bind (wpAny_isOneOf_keyiter (s:={ s with heap:=s.heap.update it (Obj.mapFields (·.setIfInBounds 1 (rawInt ((i:Int)+1)))) }) y'.typeIs ?_)));show wpAny _ _ (pure es[i].key) _ _ _;exact wpAny_pure (wpAny_pure ⟨_,rfl,wpAny_pure (q1 hi _ y' (Heap.SameBut.update ..))⟩)
 ·simp only[show ¬ ((i:Int)<0) from by omega,if_false,ztv,Array.getElem?_eq_none hi];refine wpAny_bind ?_
  first|refine wpAny_bind (wpAny_typeNameOfWhole_keyiter y.typeIs (wpAny_pure ?_))|refine wpAny_bind (wpAny_typeNameOf_keyiter y.typeIs (wpAny_pure ?_))
  show wpAny _ _ (setField (.ref it) 0 .none >>= _) _ _ s;refine wpAny_bind (wpAny_setField i1 i3 (by simp) ?_);show wpAny _ _ (newExc (.type "StopIteration") [] >>= _) _ _ _;simp only[newExc,newTuple];refine wpAny_bind (wpAny_bind (wpAny_newObj_type ?_ (by size_fits)));refine wpAny_bind (m:=firstArgMember _ _) (wpAny_of_eq (a:=Value.none) (by first|rfl|(simp only[firstArgMember];rfl)) (wpAny_newObj_type ?_ (by size_fits)));simp only[raiseNew];refine wpAny_bind (wpAny_handled ?_);rw[show A.in1.handled=none from hh];refine wpAny_bind (wpAny_pure (wpAny_throw ?_));refine wpAny_bind (wpAny_isInstance (b:=true) (T:="StopIteration") ⟨_,Heap.get?_push_size _ rfl,rfl⟩ isSubtype_stop ?_);exact wpAny_pure (q2 hi _ (((Heap.SameBut.update ..).extBut.push _).push _))
theorem zc1(hh:A.handled=none)(I d:Addr)(hne:d≠I)(es:Array DictEntry)(ep:Nat) :
  Walks prog w A I [I,d] [I] es.size (fun i v=>∃ h:i<es.size,v=es[i].key) (fun i h=>h.IsKeyIter I d i es.size ep/\Js h d es ep) where
 sub:=fun b hb=>by simp at hb;simp[hb]
 frame:=fun _ h h' st hk=>⟨st.1.at fun o e=>hk I (by simp) o e,let ⟨o,h1,h2⟩:=st.2;⟨o,hk d (by simp) o h1,h2⟩⟩
 item:=fun i s Q E hi st hQ=>Js.next hh st.1 st.2 (fun hi h' y' hs=>hQ _ h' s.toks ⟨hi,rfl⟩ ⟨y',let ⟨o,h1,h2⟩:=st.2;⟨o,hs.extBut d o hne h1,h2⟩⟩ fun b o hb e=>hs.extBut b o (fun h=>hb (by simp[h])) e) fun h=>absurd hi (Nat.not_lt_of_le h)
 done:=fun s Q E st hQ=>Js.next hh st.1 st.2 (fun hi=>absurd hi (zun _)) fun _ h' he=>hQ h' s.toks fun b o hb e=>he b o (fun h=>hb (by simp[h])) e
 self:=fun _ _ _ _ st hQ=>wpAny_pyIter_keyiter st.1 hQ
theorem zg4(lo:(d == sysModules)=false):PySem.W.KdlSrc prog w "dict" d d es.size (fun i v=>∃ h:i<es.size,v=es[i].key) (fun h=>Js h d es ep) where
 type:=fun _ x=>x.type
 there:=fun _ x=>let ⟨_,h1,_⟩:=x;⟨Heap.lt_size h1,Heap.lt_size h1⟩
 keep:=fun _ _ x k=>let ⟨o,h1,h2⟩:=x;⟨o,k d (.inl rfl) o h1,h2⟩
 notList:=by decide
 notTuple:=by decide
 hint:=fun _ _ _ _ x q=>PySem.W.kdl_hint_dict x.type q
 iter:=fun _ _ hh x=>⟨_,_,(fun _ _ q=>Js.iter lo x q),zc1 hh _ d (by obtain⟨_,h1,_⟩:=x;exact zt2 (Heap.lt_size h1)) es ep,⟨⟨_,Heap.get?_push_size _ rfl,rfl,rfl⟩,let ⟨o,h1,h2⟩:=x;⟨o,Heap.get?_push_of_some _ h1,h2⟩⟩⟩
end
end L2
namespace G
open PySem PySem.Spec PyProof.Rows L2
theorem zbf{P:Program}{w:World}{H:Hp}:∀ {kvs:List (List Key×V)} {xs:List (List Key×Addr×Value)},KT H kvs xs->TupL H (xs.map fun x=>V.ref x.2.1) (kvs.map fun kv=>kv.1.map kV)
 | _,_,.nil=>.nil
 | _,_,.cons h t=>.cons h.2.1 (zbf (P:=P) (w:=w) t)
theorem Of{X:Cx}(hc:X.calm=true):W8 X (.type "list") (fun xs H Q=>∃ a kvs,xs=[.ref a]/\Rd H a (.dT kvs)/\∀ l ts,TupL H ts (kvs.map fun kv=>kv.1.map kV)->H l=none->Q (.ref l) (upd H l (.lst ts))):=by
 intro pins s σ H xs us Q I r h;obtain⟨a,kvs,rfl,ha,q⟩:=h;obtain⟨u,rfl,ru⟩:=Sa r;cases (show u=Value.ref a from ru);obtain⟨hz,lo,xs,kt,o,es,ep,e1,e2,e3,e4,e5⟩:=M7 I.hok ha;have hl:kvs.length=xs.length:=Paired.length kt;have hes:es.size=xs.length:=by rw[<- Array.length_toList,e4,zta]
 refine PySem.W.kdl_call (zg4 (es:=es) (ep:=ep) lo) (I.ok.hd hc) ⟨o,e1,e2,e3⟩ (by rw[hes,<- hl];exact hz) fun h' tk acc c hk hS hacc=>?_;have hf:H s.heap.objs.size=none:=I.hok.fresh (ztm _);refine⟨.ref s.heap.objs.size,upd H s.heap.objs.size (.lst (xs.map fun x=>V.ref x.2.1)),I.laid (t':=tk) hk (ztm _) ?_,rfl,q _ _ (zbf (P:=X.prog) (w:=X.w) kt) hf⟩;obtain⟨accl⟩:=acc;refine⟨by rw[zta,<- hl];exact hz,accl,c,?_,hS⟩;have hlen:accl.length=es.size:=by have:=hacc.1;simpa using this
 refine Rz (by rw[zta,hlen,hes]) fun j x u hx hu=>?_;obtain⟨hj,hk1⟩:=hacc.2 j u (by simpa using hu);have e6:es.toList[j]?=some es[j]:=by rw[Array.getElem?_toList,Array.getElem?_eq_getElem hj]
 rw[e4,ztj] at e6;rw[ztj] at hx;cases hxj:xs[j]? with
 | none=>rw[hxj] at hx;cases hx
 | some p =>
   rw[hxj] at hx e6;have h1:V.ref p.2.1=x:=Option.some.inj hx;have h2:entryOfKey (tupleKind (Yi X.prog X.w)) p=es[j]:=Option.some.inj e6;rw[<- h1,hk1,<- h2];rfl
inductive C7(K:Frag)(vs:List V)(H:Hp)(Q:VK)(_:XK):Prop where
 | mk(l:Addr)(gs:List V)(_:vs=[.ref l])(_:H l=some (.lst gs))(_:(∀ x∈gs,oneV x))(_:gs.length<=100)(_:∀ H',Same H H'->Q (.int (binV 0 gs:Nat)) H')
def Xc(p:Nat×Nat):List Key:=[.inl (p.1:Int),.inl (p.2:Int)]
def C8(p:Nat×Nat):List V:=[.int (p.1:Int),.int (p.2:Int)]
def insP(ps:List (Nat×Nat))(p:Nat×Nat):List (Nat×Nat):=if p∈ps then ps else ps++[p]
theorem Mi(h:Xc p=Xc q):p=q:=by
 unfold Xc at h;injection h with h1 h2;injection h2 with h2 _;injection h1 with h1;injection h2 with h2;obtain⟨a,b⟩:=p;obtain⟨c,d⟩:=q;simp only[Prod.mk.injEq];exact⟨by omega,by omega⟩
theorem C9:q∈insP ps p↔q∈ps\/q=p:=by
 unfold insP;split
 ·rename_i h;exact⟨.inl,fun z=>z.elim id fun e=>e▸h⟩
 ·rw[ztl,zte]
def zfl(N:List Int)(r:List Int)(b:Nat)(p q:Nat×Nat):Prop:=q=(2*p.1,p.2)\/∃ (c:Nat) (n:Int),c<b/\N[c]?=some n/\n∈r/\p.2/2 ^ c%2=0/\q=(2*p.1+1,p.2+2 ^ c)
theorem zfm:StR N (rows++[r]) q.1 q.2↔∃ p:Nat×Nat,StR N rows p.1 p.2/\zfl N r N.length p q:=by
 constructor
 ·intro h;generalize e:rows++[r]=R at h;generalize e1:q.1=f at h;generalize e2:q.2=u at h;cases h with
  | nil=>exact absurd e (by simp)
  | @skip rows' r' f' u' h =>
    obtain⟨ea,eb⟩:=zuu e rfl;subst ea;exact⟨(f',u),h,.inl (by rw[<- e1,<- e2])⟩
  | @take rows' r' f' u' b n h hb hn hu =>
    obtain⟨ea,eb⟩:=zuu e rfl;subst ea;injection eb with eb _;exact⟨(f',u'),h,.inr ⟨b,n,Vx hb,hb,by rw[eb];exact hn,hu,by rw[<- e1,<- e2]⟩⟩
 ·rintro⟨p,h,z|⟨b,n,_,hb,hn,hu,z⟩⟩
  ·rw[z];exact h.skip
  ·rw[z];exact h.take hb hn hu
def wF:Nat->Nat->List Nat
 | 0,0=>[0]
 | 0,_+1=>[]
 | n+1,0=>(wF n 0).map fun x=>2*x
 | n+1,k+1=>((wF n (k+1)).map fun x=>2*x)++(wF n k).map fun x=>2*x+1
def cF:Nat->Nat->Nat
 | 0,0=>1
 | 0,_+1=>0
 | n+1,0=>cF n 0
 | n+1,k+1=>cF n (k+1)+cF n k
theorem Eu:∀ n k,(wF n k).length=cF n k
 | 0,0=>rfl
 | 0,_+1=>rfl
 | n+1,0=>by rw[wF,cF,zta,Eu n 0]
 | n+1,k+1=>by rw[wF,cF,ztc,zta,zta,Eu n (k+1),Eu n k]
theorem zg5:∀ {n k x:Nat},x∈wF n k->2*x∈wF (n+1) k
 | n,0,x,h=>by rw[wF];exact ztk.mpr ⟨x,h,rfl⟩
 | n,k+1,x,h=>by rw[wF];exact ztl.mpr (.inl (ztk.mpr ⟨x,h,rfl⟩))
theorem zg6(h:x∈wF n k):2*x+1∈wF (n+1) (k+1):=by
 rw[wF];exact ztl.mpr (.inr (ztk.mpr ⟨x,h,rfl⟩))
def zg7(u:Nat):Nat:=u%2+u/2%2+u/4%2+u/8%2+u/16%2+u/32%2+u/64%2
def uL(k:Nat):List Nat:=(List.range 128).filter fun u=>zg7 u == k
theorem zg8(h:u∈uL k)(hb:b<7)(hu:u/2 ^ b%2=0):u+2 ^ b∈uL (k+1)/\k<7:=by
 have key:∀ u,u<128->∀ b,b<7->u/2 ^ b%2=0->u+2 ^ b<128/\zg7 (u+2 ^ b)=zg7 u+1/\zg7 u<7:=by decide +kernel
 unfold uL at h ⊢;obtain⟨h1,h2⟩:=ztw.mp h;obtain⟨k1,k2,k3⟩:=key u (zt5.mp h1) b hb hu;have h2:=eq_of_beq h2;exact⟨ztw.mpr ⟨zt5.mpr k1,beq_iff_eq.mpr ⋯⟩,by omega⟩
theorem Ay(hN:N.length=7)(h:StR N rows f u):∃ k,k<8/\f∈wF rows.length k/\u∈uL k:=by
 induction h with
 | nil=>exact⟨0,by decide,by decide,by decide⟩
 | skip _ ih =>
   obtain⟨k,h0,h1,h2⟩:=ih;exact⟨k,h0,by rw[ztc];exact zg5 h1,h2⟩
 | take _ hb hn hu ih =>
   obtain⟨k,h0,h1,h2⟩:=ih;obtain⟨h3,h4⟩:=zg8 h2 (by rw[<- hN];exact Vx hb) hu;exact⟨k+1,by omega,by rw[ztc];exact zg6 h1,h3⟩
def zjd(n:Nat):List (Nat×Nat):=(List.range 8).flatMap fun k=>(wF n k).flatMap fun f=>(uL k).map fun u=>(f,u)
theorem Ba(g:α->List β)(c:Nat):∀ l:List α,(∀ x∈l,(g x).length=c)->(l.flatMap g).length=l.length*c
 | [],_=>by simp
 | x :: l,h=>by
   rw[List.flatMap_cons,ztc,h x zt3,Ba g c l fun y hy=>h y (ztr _ hy),ztt,Nat.succ_mul];omega
theorem zfn(n:Nat):(zjd n).length=((List.range 8).map fun k=>cF n k*(uL k).length).sum:=by
 unfold zjd;rw[List.length_flatMap]
 congr 1
 refine zux fun k _=>?_;rw[Ba _ (uL k).length _ fun f _=>zta ..,Eu]
theorem zfo:∀ n,n<=20->((List.range 8).map fun k=>cF n k*(uL k).length).sum<=888030:=by decide +kernel
theorem Qh{N:List Int}(hN:N.length=7){rows:List (List Int)}(hr:rows.length<=20){l:List (Nat×Nat)}(nd:l.Nodup)(h:∀ q∈l,StR N rows q.1 q.2):l.length<=888030:=by
 refine zts (nd.length_le_of_subset (l₂:=zjd rows.length) fun q hq=>?_) (by rw[zfn];exact zfo _ hr);obtain⟨k,h0,h1,h2⟩:=Ay hN (h q hq);exact List.mem_flatMap.mpr ⟨k,zt5.mpr h0,List.mem_flatMap.mpr ⟨q.1,h1,ztk.mpr ⟨q.2,h2,rfl⟩⟩⟩
theorem zbg(h:ps.Nodup):(insP ps p).Nodup:=by
 unfold insP;split
 ·exact h
 ·rename_i z;exact zvl.mpr ⟨h,ztz.mpr ⟨zud,zu5⟩,fun a ha b hb e=>by
   have:=zte.mp hb;subst this;subst e;exact z ha⟩
end G
namespace G
open PySem PySem.Spec PyProof.Rows L2
inductive Ref where
 | out|known|many|unk|manyM|same|noMatch|noRound|over|seaOver|away|drawn|notDrawn|nothing|manyD
 deriving DecidableEq
end G
namespace G
open PySem PySem.Spec PyProof.Rows L2
structure I21(r i:Nat)(noted:List Int)(S:Sea):Prop where
 len:S.len=r
 led:S.led=[]
 cur:S.cur=none
 old:S.old=[]
 std:∀ x∈S.std,x.2=none
 sl:S.std.length<=i
 ol:S.out.length<=i
 z:(noted=[]/\S.ppl=[]/\S.std=[]/\S.out=[])\/∃ ds,noted=0 :: ds/\S.ppl=[(5,5,5)]/\S.out=ds.map fun i=>(i,5)
 e:i<=10->noted=[]
end G
namespace G
open PySem PySem.Spec PyProof.Rows L2
structure zlh(n:Nat)(s:Z1):Prop where
 ms:s.ms.length<=20
 ml:s.may.length=s.ms.length
 fi:Ya s.may s.gv
 st:Wh s.may s.gv
 mo:∃ nu,Lc s.may nu
 gp:s.gaps.length<=n/\∀ x∈s.gaps,x.2.length<=100
end G
namespace G
open PySem PySem.Spec PyProof.Rows L2
open Classical in
noncomputable def agree(xs ys:List V):Nat:=((List.range xs.length).filter fun k=>decide (xs[k]?=ys[k]?)).length
open Classical in
noncomputable def S5(xs ys:List V):Nat:=((List.range xs.length).filter fun k=>decide (¬ xs[k]?=ys[k]?)).length
theorem Jt(p:α->Prop)[DecidablePred p]:∀ l:List α,(l.filter fun x=>decide (p x)).length+(l.filter fun x=>decide (¬ p x)).length=l.length
 | []=>rfl
 | x :: l=>by
   have ih:=Jt p l;by_cases h:p x
   ·rw[zuq (by simpa using h),zup (by simpa using h)];simp only[ztt];omega
   ·rw[zup (by simpa using h),zuq (by simpa using h)];simp only[ztt];omega
theorem Nf(xs ys:List V):agree xs ys+S5 xs ys=xs.length:=by
 unfold agree S5;have:=Jt (fun k=>xs[k]?=ys[k]?) (List.range xs.length);rw[zuo] at this;exact this
theorem zc2{xs ys:List V}{L:List Nat}(nd:L.Nodup)(h:∀ k∈L,k<xs.length/\xs[k]?≠ys[k]?):L.length<=S5 xs ys:=by
 unfold S5;exact nd.length_le_of_subset fun k hk=>ztw.mpr ⟨zt5.mpr (h k hk).1,ztf (h k hk).2⟩
theorem zc3{xs ys:List V}{L:List Nat}(h:∀ k,k<xs.length->xs[k]?≠ys[k]?->k∈L):S5 xs ys<=L.length:=by
 unfold S5;have nd:((List.range xs.length).filter fun k=>decide (¬ xs[k]?=ys[k]?)).Nodup:=List.nodup_range.filter _;exact nd.length_le_of_subset fun k hk=>by
  have hk:=ztw.mp hk;exact h k (zt5.mp hk.1) (of_decide_eq_true hk.2)
theorem zbh:∀ {xs ys:List V} {a b:Nat},xs.length=ys.length->binV a xs=binV b ys->a=b/\∀ k:Nat,xs[k]?=some .non↔ys[k]?=some .non
 | [],[],a,b,_,h=>⟨h,fun k=>by simp⟩
 | x :: xs,y :: ys,a,b,e,h=>by
   obtain⟨h1,h2⟩:=zbh (xs:=xs) (ys:=ys) (a:=2*a+Vi x) (b:=2*b+Vi y) (by simpa using e) h;have bx:=Av x;have by':=Av y
   have e1:a=b:=by omega
   have e2:Vi x=Vi y:=by omega
   refine⟨e1,fun k=>?_⟩;cases k with
   | zero =>
     simp only[List.getElem?_cons_zero,Option.some.injEq];unfold Vi at e2;constructor
     ·intro z;rw[if_pos z] at e2;by_cases w:y=.non
      ·exact w
      ·rw[if_neg w] at e2;cases e2
     ·intro z;rw[if_pos z] at e2;by_cases w:x=.non
      ·exact w
      ·rw[if_neg w] at e2;cases e2
   | succ k=>simpa using h2 k
section
variable{rows:List (List Int)}{gs0 hs:List V}{p:Nat}{n0:Int}
structure zho(rows:List (List Int))(gs0 hs:List V)(p:Nat)(i:Nat)(L:List Nat)(q:Nat):Prop where
 len:L.length=i+1
 nd:L.Nodup
 mem:q∈L
 walk:Walk rows (gs0.set p .non) p q i
 df:∀ k∈L,k<gs0.length/\gs0[k]?≠hs[k]?
 back:∀ y∈L,y≠p->∃ x∈L,x≠q/\∃ n,hs[x]?=some (.int n)/\(gs0.set p .non)[y]?=some (.int n)
 full:∀ y∈L,gs0[y]?≠some .non
theorem Bb(F:Ya rows hs)(hl:gs0.length=rows.length)(hp:gs0[p]?=some (.int n0))(hn:∀ r∈rows,n0∉r):∀ i:Nat,(∃ j L q,j<=i/\zho rows gs0 hs p j L q/\(V6 rows (gs0.set p .non) q\/hs[q]?=some .non))\/∃ L q,zho rows gs0 hs p i L q
 | 0=>by
   refine .inr ⟨[p],p,rfl,by simp,by simp,.nil,fun k hk=>?_,fun y hy hne=>absurd (zte.mp hy) hne,fun y hy=>?_⟩
   ·rw[zte.mp hk];refine⟨Vx hp,fun z=>?_⟩;rw[hp] at z;obtain⟨r,h1,h2⟩:=F.may p n0 z.symm;exact hn r (ztn h1) h2
   ·rw[zte.mp hy,hp];exact fun z=>by cases z
 | i+1=>by
   rcases Bb F hl hp hn i with ⟨j,L,q,hj,h⟩|⟨L,q,T⟩
   ·exact .inl ⟨j,L,q,by omega,h⟩
   ·have hq:=(T.df q T.mem).1;have hql:q<hs.length:=by rw[F.len,<- hl];exact hq
    have hx:hs[q]?=some (hs[q]'hql):=ztb hql;rcases F.one _ (zue hql) with z|⟨n,z⟩
    ·rw[z] at hx;exact .inl ⟨i,L,q,by omega,T,.inr hx⟩
    ·rw[z] at hx;obtain⟨r,hr1,hr2⟩:=F.may q n hx;by_cases hf:∀ j:Nat,(gs0.set p .non)[j]?≠some (V.int n)
     ·exact .inl ⟨i,L,q,by omega,T,.inl ⟨n,⟨r,hr1,hr2⟩,hf⟩⟩
     ·obtain⟨q',hq'⟩:=Classical.not_forall.mp hf;have hq':=Classical.not_not.mp hq';have hqp:q'≠p:=fun z=>by
       rw[z,zug (Vx hp)] at hq';cases hq'
      have hg0:gs0[q']?=some (.int n):=by rw[zt8 (Ne.symm hqp)] at hq';exact hq'
      have hnm:q'∉L:=fun hm=>by
       obtain⟨x,hxL,hxq,m,h1,h2⟩:=T.back q' hm hqp;rw[hq'] at h2;have e:m=n:=by injection h2 with h2;injection h2 with h2;exact h2.symm
       rw[e] at h1;exact hxq (F.inj x q n h1 hx)
      refine .inr ⟨q' :: L,q',by rw[ztt,T.len],ztz.mpr ⟨hnm,T.nd⟩,zt3,.snoc T.walk ⟨⟨r,hr1,hr2⟩,hq'⟩,fun k hk=>?_,fun y hy hne=>?_,fun y hy=>?_⟩
      ·rcases ztg.mp hk with z|z
       ·rw[z];refine⟨Vx hg0,fun w=>?_⟩;rw[hg0] at w;have:=F.inj q' q n w.symm hx;exact hnm (this▸T.mem)
       ·exact T.df k z
      ·rcases ztg.mp hy with z|z
       ·rw[z];exact⟨q,ztr _ T.mem,fun w=>hnm (w▸T.mem),n,hx,hq'⟩
       ·obtain⟨x,h1,h2,m,h3,h4⟩:=T.back y z hne;exact⟨x,ztr _ h1,fun w=>hnm (w▸h1),m,h3,h4⟩
      ·rcases ztg.mp hy with z|z
       ·rw[z,hg0];exact fun w=>by cases w
       ·exact T.full y z
theorem Hj{st:List (Nat×Option Int)}{e:Nat}{w:Option Int}(F:Ya rows hs)(hl:gs0.length=rows.length)(hp:gs0[p]?=some (.int n0))(hn:∀ r∈rows,n0∉r)(C:Y1 rows (gs0.set p .non) p st e w)
  (hb:binV 0 hs=binV 0 (Yg st (gs0.set p .non))):agree hs gs0<=agree (Yg st (gs0.set p .non)) gs0:=by
 have nd:=C.nodup;have hsl:(Yg st (gs0.set p .non)).length=gs0.length:=by rw[Xo,zut]
 have hhl:hs.length=gs0.length:=by rw[F.len,hl]
 have same:=(zbh (by rw[hhl,hsl]) hb).2;have h1:S5 (Yg st (gs0.set p .non)) gs0<=st.length:=by
  have:=zc3 (xs:=Yg st (gs0.set p .non)) (ys:=gs0) (L:=st.map (·.1)) fun k hk hd=>by
   rw[hsl] at hk;rcases Xd (st:=st) (xs:=gs0.set p .non) (k:=k) nd (by rw[zut];exact hk) with ⟨_,z⟩|⟨v,z,_⟩
   ·by_cases hm:k∈st.map (·.1)
    ·exact hm
    ·exfalso
     obtain⟨x,r,hst⟩:=C.ch.hd;have hkp:k≠p:=fun y=>hm (by rw[y,hst];simp);rw[z,zt8 (Ne.symm hkp)] at hd;exact hd rfl
   ·exact ztk.mpr ⟨_,z,rfl⟩
  rwa [zta] at this
 have h2:st.length<=S5 hs gs0:=by
  rcases Bb F hl hp hn gs0.length with ⟨j,L,q,hj,T,hd⟩|⟨L,q,T⟩
  ·have hL:L.length<=S5 hs gs0:=zc2 T.nd fun k hk=>⟨by rw[hhl];exact(T.df k hk).1,fun z=>(T.df k hk).2 z.symm⟩
   rw[T.len] at hL
   suffices st.length<=j+1 by omega
   cases hw:w with
   | some n =>
     rcases hd with hd|hd
     ·exact(C.free n hw).2 q j T.walk hd
     ·
      exfalso
      have hq2:=(same q).mp hd;rcases Xd (st:=st) (xs:=gs0.set p .non) (k:=q) nd (by rw[zut];exact(T.df q T.mem).1) with ⟨hm,z⟩|⟨v,z1,z2⟩
      ·obtain⟨x,r,hst⟩:=C.ch.hd;have hqp:q≠p:=fun y=>hm (by rw[y,hst];simp);rw[z,zt8 (Ne.symm hqp)] at hq2;exact T.full q T.mem hq2
      ·rw[z2] at hq2;cases v with
       | none=>exact C.ch.somes (by rw[hw];exact nofun) _ z1 rfl
       | some m=>cases hq2
   | none =>
     obtain⟨c1,c2,c3⟩:=C.none hw;rcases hd with hd|hd
     ·exact absurd hd (c1 q j T.walk)
     ·have hq2:=(same q).mp hd;rcases Xd (st:=st) (xs:=gs0.set p .non) (k:=q) nd (by rw[zut];exact(T.df q T.mem).1) with ⟨hm,z⟩|⟨v,z1,z2⟩
      ·exfalso
       obtain⟨x,r,hst⟩:=C.ch.hd;have hqp:q≠p:=fun y=>hm (by rw[y,hst];simp);rw[z,zt8 (Ne.symm hqp)] at hq2;exact T.full q T.mem hq2
      ·rw[z2] at hq2;cases v with
       | some m=>cases hq2
       | none =>
         obtain⟨e1,_⟩:=C.ch.noneLast q z1;rw[e1] at T;exact c3 j T.walk
  ·exfalso
   have:=T.nd.length_le_of_subset (l₂:=List.range gs0.length) fun k hk=>zt5.mpr (T.df k hk).1;rw[T.len,zuo] at this;omega
 have a1:=Nf hs gs0;have a2:=Nf (Yg st (gs0.set p .non)) gs0;omega
end
open Classical in
noncomputable def eq1(x y:V):Nat:=if x=y then 1 else 0
theorem U2(h:xs.length=ys.length):agree (xs++[x]) (ys++[y])=agree xs ys+eq1 x y:=by
 unfold agree eq1;rw[ztc,ztt,zvh,List.range_succ,zu0,ztc];have e1:((List.range xs.length).filter fun k=>decide ((xs++[x])[k]?=(ys++[y])[k]?))=(List.range xs.length).filter fun k=>decide (xs[k]?=ys[k]?):=by
  refine List.filter_congr fun k hk=>?_;have hk:=zt5.mp hk;rw[zt9 hk,zt9 ⋯]
 rw[e1]
 congr 1
 have e2:((xs++[x])[xs.length]?=(ys++[y])[xs.length]?)↔x=y:=by
  rw[zt6 (ztm _),h,zt6 (ztm _),Nat.sub_self];simp
 by_cases z:x=y
 ·have e3:decide ((xs++[x])[xs.length]?=(ys++[y])[xs.length]?)=true:=ztf (e2.mpr z);rw[if_pos z];simp only[zum,zu2,e3,if_true];rfl
 ·have e3:decide ((xs++[x])[xs.length]?=(ys++[y])[xs.length]?)=false:=zth fun w=>z (e2.mp w);rw[if_neg z];simp only[zum,zu2,e3];rfl
inductive StK(N:List Int):List (List Int)->List V->Nat->Nat->Nat->Prop where
 | nil:StK N [] [] 0 0 0
 | skip {rows:List (List Int)} {r:List Int} {ah:List V} {v:V} {f u k:Nat} (h:StK N rows ah f u k):StK N (rows++[r]) (ah++[v]) (2*f) u (k+eq1 .non v)
 | take {rows:List (List Int)} {r:List Int} {ah:List V} {v:V} {f u k b:Nat} {n:Int} (h:StK N rows ah f u k) (hb:N[b]?=some n) (hn:n∈r) (hu:u/2 ^ b%2=0):StK N (rows++[r]) (ah++[v]) (2*f+1) (u+2 ^ b) (k+eq1 (.int n) v)
theorem StK.str(h:StK N rows ah f u k):StR N rows f u:=by
 induction h with
 | nil=>exact .nil
 | skip _ ih=>exact ih.skip
 | take _ hb hn hu ih=>exact ih.take hb hn hu
def SucK(N:List Int)(r:List Int)(v:V)(b:Nat)(p:Nat×Nat)(k:Nat)(q:Nat×Nat)(m:Nat):Prop :=
 (q=(2*p.1,p.2)/\m=k+eq1 .non v)\/∃ (c:Nat) (n:Int),c<b/\N[c]?=some n/\n∈r/\p.2/2 ^ c%2=0/\q=(2*p.1+1,p.2+2 ^ c)/\m=k+eq1 (.int n) v
theorem SucK.sucB(h:SucK N r v b p k q m):zfl N r b p q:=by
 rcases h with ⟨z,_⟩|⟨c,n,h1,h2,h3,h4,h5,_⟩
 ·exact .inl z
 ·exact .inr ⟨c,n,h1,h2,h3,h4,h5⟩
theorem SucK.more(h:SucK N r v b p k q m)(d:Nat):SucK N r v b p (k+d) q (m+d):=by
 rcases h with ⟨z,e⟩|⟨c,n,h1,h2,h3,h4,h5,e⟩
 ·exact .inl ⟨z,by omega⟩
 ·exact .inr ⟨c,n,h1,h2,h3,h4,h5,by omega⟩
theorem zc4:SucK N r v 0 p k q m↔q=(2*p.1,p.2)/\m=k+eq1 .non v:=by
 constructor
 ·rintro(z|⟨c,n,hc,_⟩)
  ·exact z
  ·omega
 ·exact .inl
theorem Fl(hn:N[b]?=some n):SucK N r v (b+1) p k q m↔SucK N r v b p k q m\/(n∈r/\p.2/2 ^ b%2=0/\q=(2*p.1+1,p.2+2 ^ b)/\m=k+eq1 (.int n) v):=by
 constructor
 ·rintro(z|⟨c,n',hc,h1,h2,h3,h4,h5⟩)
  ·exact .inl (.inl z)
  ·by_cases e:c=b
   ·subst e;rw[hn] at h1;injection h1 with h1;subst h1;exact .inr ⟨h2,h3,h4,h5⟩
   ·exact .inl (.inr ⟨c,n',by omega,h1,h2,h3,h4,h5⟩)
 ·rintro((z|⟨c,n',hc,h1,h2,h3,h4,h5⟩)|⟨h2,h3,h4,h5⟩)
  ·exact .inl z
  ·exact .inr ⟨c,n',by omega,h1,h2,h3,h4,h5⟩
  ·exact .inr ⟨b,n,by omega,hn,h2,h3,h4,h5⟩
theorem Ng:StK N (rows++[r]) (ah++[v]) q.1 q.2 m↔∃ (p:Nat×Nat) (k:Nat),StK N rows ah p.1 p.2 k/\SucK N r v N.length p k q m:=by
 constructor
 ·intro h;generalize e:rows++[r]=R at h;generalize e0:ah++[v]=A at h;generalize e1:q.1=f at h;generalize e2:q.2=u at h;cases h with
  | nil=>exact absurd e (by simp)
  | @skip rows' r' ah' v' f' _ k' h =>
    obtain⟨ea,eb⟩:=zuu e rfl;obtain⟨ec,ed⟩:=zuu e0 rfl;injection eb with eb _;injection ed with ed _;subst ea;subst ec;subst eb;subst ed;exact⟨(f',q.2),k',by rw[e2];exact h,.inl ⟨by rw[<- e1],rfl⟩⟩
  | @take rows' r' ah' v' f' u' k' b n h hb hn hu =>
    obtain⟨ea,eb⟩:=zuu e rfl;obtain⟨ec,ed⟩:=zuu e0 rfl;injection eb with eb _;injection ed with ed _;subst ea;subst ec;subst eb;subst ed;exact⟨(f',u'),k',h,.inr ⟨b,n,Vx hb,hb,hn,hu,by rw[<- e1,<- e2],rfl⟩⟩
 ·rintro⟨p,k,h,⟨z,e⟩|⟨b,n,_,hb,hn,hu,z,e⟩⟩
  ·rw[z,e];exact h.skip
  ·rw[z,e];exact h.take hb hn hu
theorem zbi:StK N [] [] f u k↔f=0/\u=0/\k=0:=by
 constructor
 ·intro h;generalize e:([]:List (List Int))=R at h;generalize e':([]:List V)=A at h;cases h with
  | nil=>exact⟨rfl,rfl,rfl⟩
  | skip _=>exact absurd e (by simp)
  | take _ _ _ _=>exact absurd e (by simp)
 ·rintro⟨rfl,rfl,rfl⟩;exact .nil
theorem zc5(nd:N.Nodup)(h:StK N rows ah f u k):∃ gs,Ya rows gs/\binV 0 gs=f/\Fj N gs u/\agree gs ah=k/\ah.length=rows.length:=by
 induction h with
 | nil=>exact⟨[],⟨rfl,fun x hx=>by simp at hx,fun k n h=>by simp at h,fun j k n h=>by simp at h⟩,rfl,fun b n _=>by simp,rfl,rfl⟩
 | skip _ ih =>
   obtain⟨gs,F,e,U,a,l⟩:=ih;exact⟨gs++[.non],Fi F (.inl rfl),by rw[Qg,e];rfl,zbd U,by rw[U2 (F.len.trans l.symm),a],by rw[ztc,ztc,l];rfl⟩
 | @take rows r ah v f u k b n _ hb hn hu ih =>
   obtain⟨gs,F,e,U,a,l⟩:=ih;refine⟨gs++[.int n],Fi F (.inr ⟨n,rfl,hn,fun k hk=>?_⟩),by rw[Qg,e];rfl,zbe nd U hb hu,by rw[U2 (F.len.trans l.symm),a],by rw[ztc,ztc,l];rfl⟩;have:=U b n hb;rw[if_pos ⟨k,hk⟩] at this;omega
theorem Fm(nd:N.Nodup):∀ (n:Nat) {rows:List (List Int)} {gs ah:List V},rows.length=n->ah.length=n->(∀ r∈rows,∀ x∈r,x∈N)->Ya rows gs->∃ u,StK N rows ah (binV 0 gs) u (agree gs ah)/\Fj N gs u
 | 0,rows,gs,ah,hn,ha,_,F=>by
   have h1:=zur.mp hn;subst h1;have h2:=zur.mp F.len;subst h2;have h3:=zur.mp ha;subst h3;exact⟨0,.nil,fun b n _=>by simp⟩
 | n+1,rows,gs,ah,hn,ha,hs,F=>by
   rcases zvi rows with z|⟨R,r,z⟩
   ·subst z;cases hn
   rcases zvi gs with y|⟨gs',v,y⟩
   ·subst y;have:=F.len;rw[hn] at this;cases this
   rcases zvi ah with x|⟨ah',a,x⟩
   ·subst x;cases ha
   rw[List.concat_eq_append] at z y x;subst z;subst y;subst x;obtain⟨F',hv⟩:=C6 F;have hR:R.length=n:=by rw[ztc] at hn;simpa using hn
   have hA:ah'.length=n:=by rw[ztc] at ha;simpa using ha
   obtain⟨u,S,U⟩:=Fm nd n (rows:=R) (gs:=gs') (ah:=ah') hR hA (fun r hr=>hs r (ztl.mpr (.inl hr))) F';have hga:gs'.length=ah'.length:=by rw[F'.len,hR,hA]
   rcases hv with z|⟨m,z,hm,hk⟩
   ·subst z;exact⟨u,by rw[Qg,U2 hga];exact S.skip,zbd U⟩
   ·subst z;obtain⟨b,hb⟩:=List.getElem?_of_mem (hs r (ztl.mpr (.inr (zte.mpr rfl))) m hm);have hu:u/2 ^ b%2=0:=by rw[U b m hb,if_neg fun ⟨k,h⟩=>hk k h]
    exact⟨u+2 ^ b,by rw[Qg,U2 hga];exact S.take hb hm hu,zbe nd U hb hu⟩
structure zhp(N:List Int)(rows:List (List Int))(ah:List V)(best kept:Nat):Prop where
 at_:∃ u,StK N rows ah best u kept
 top:∀ f u k,StK N rows ah f u k->f<=best
 most:∀ u k,StK N rows ah best u k->k<=kept
theorem zfp(nd:N.Nodup)(hs:∀ r∈rows,∀ x∈r,x∈N)(hl:ah.length=rows.length)(F:Ya rows gs)(S:Wh rows gs)(hm:∀ hs,Ya rows hs->binV 0 hs=binV 0 gs->agree hs ah<=agree gs ah)(h:zhp N rows ah best kept):best=binV 0 gs/\kept=agree gs ah:=by
 obtain⟨⟨u,h1⟩,h2,h3⟩:=h;obtain⟨u',S',_⟩:=Fm nd rows.length rfl hl hs F;obtain⟨g1,F1,e1,_,a1,_⟩:=zc5 nd h1;have b1:=h2 _ _ _ S';have b2:=Ax F S F1;have hb:best=binV 0 gs:=by omega
 refine⟨hb,?_⟩;rw[<- hb] at S';have c1:=h3 _ _ S';have c2:=hm g1 F1 ⋯;omega
def X1(ps:List (Nat×Nat))(g:Nat×Nat->Nat):List (List Key×V):=ps.map fun p=>(Xc p,V.int (g p:Nat))
open Classical in
noncomputable def setK(g:Nat×Nat->Nat)(p:Nat×Nat)(x:Nat):Nat×Nat->Nat:=fun q=>if q=p then x else g q
theorem Bc(ps:List (Nat×Nat))(g:Nat×Nat->Nat)(p:Nat×Nat)(x:Nat):putK (X1 ps g) (Xc p) (.int (x:Nat))=X1 (insP ps p) (setK g p x):=by
 have ha:((X1 ps g).any fun kv=>decide (kv.1=Xc p))=decide (p∈ps):=by
  unfold X1;rw[List.any_map,zve,List.any_eq_true,decide_eq_true_iff];constructor
  ·rintro⟨q,hq,e⟩;have:=Mi (of_decide_eq_true e);rw[<- this];exact hq
  ·intro h;exact⟨p,h,ztf rfl⟩
 have hg:∀ q,q≠p->setK g p x q=g q:=fun q h=>if_neg h;have hp:setK g p x p=x:=if_pos rfl;unfold putK insP;rw[ha];by_cases h:p∈ps
 ·rw[if_pos (ztf h),if_pos h];unfold X1;rw[zu4];refine zux fun q _=>?_;show (if Xc q=Xc p then (Xc q,V.int (x:Nat)) else (Xc q,V.int (g q:Nat)))=(Xc q,V.int (setK g p x q:Nat));by_cases e:q=p
  ·rw[e,if_pos rfl,hp]
  ·rw[if_neg (fun z=>e (Mi z)),hg q e]
 ·rw[if_neg (by rw[zth h];decide),if_neg h];unfold X1;rw[zti]
  congr 1
  ·refine zux fun q hq=>?_;rw[hg q (fun e=>h (e▸hq))]
  ·show [(Xc p,V.int (x:Nat))]=[(Xc p,V.int (setK g p x p:Nat))];rw[hp]
theorem Ju(ps:List (Nat×Nat))(g:Nat×Nat->Nat)(p:Nat×Nat):valV (X1 ps g) (Xc p)=if p∈ps then some (.int (g p:Nat)) else none:=by
 induction ps with
 | nil=>rfl
 | cons q ps ih =>
   by_cases e:q=p
   ·subst e;rw[if_pos (ztg.mpr (.inl rfl))];exact Y6 rfl
   ·have h1:valV (X1 (q :: ps) g) (Xc p)=valV (X1 ps g) (Xc p):=Y0 fun z=>e (Mi z);rw[h1,ih];by_cases m:p∈ps
    ·rw[if_pos m,if_pos (ztg.mpr (.inr m))]
    ·rw[if_neg m,if_neg fun z=>by rcases ztg.mp z with z|z;exact e z.symm;exact m z]
structure KMax(R:Nat×Nat->Nat->Prop)(ps:List (Nat×Nat))(g:Nat×Nat->Nat):Prop where
 mem:∀ q,q∈ps↔∃ k,R q k
 at_:∀ q∈ps,R q (g q)
 top:∀ q k,R q k->k<=g q
open Classical in
theorem KMax.put(h:KMax R ps g)(p:Nat×Nat)(x y:Nat)(hy:y=if p∈ps then g p else 0):KMax (fun q k=>R q k\/(q=p/\k=x)) (insP ps p) (setK g p (max y x)):=by
 have hg:∀ q,q≠p->setK g p (max y x) q=g q:=fun q h=>if_neg h;have hp:setK g p (max y x) p=max y x:=if_pos rfl;refine⟨fun q=>?_,fun q hq=>?_,fun q k hk=>?_⟩
 ·rw[C9,h.mem];constructor
  ·rintro(⟨k,z⟩|z)
   ·exact⟨k,.inl z⟩
   ·exact⟨x,.inr ⟨z,rfl⟩⟩
  ·rintro⟨k,z|⟨z,_⟩⟩
   ·exact .inl ⟨k,z⟩
   ·exact .inr z
 ·by_cases e:q=p
  ·rw[e,hp];by_cases hm:p∈ps
   ·rw[if_pos hm] at hy;by_cases hle:y<=x
    ·rw[Nat.max_eq_right hle];exact .inr ⟨rfl,rfl⟩
    ·rw[Nat.max_eq_left ⋯,hy];exact .inl (h.at_ p hm)
   ·rw[if_neg hm] at hy;rw[hy,Nat.max_eq_right (zt4 _)];exact .inr ⟨rfl,rfl⟩
  ·rw[hg q e];rcases C9.mp hq with z|z
   ·exact .inl (h.at_ q z)
   ·exact absurd z e
 ·by_cases e:q=p
  ·rw[e,hp];rcases hk with z|⟨_,z⟩
   ·rw[e] at z;have hm:=(h.mem p).mpr ⟨k,z⟩;rw[if_pos hm] at hy;have:=h.top p k z;rw[hy];exact zts this (Nat.le_max_left _ _)
   ·rw[z];exact Nat.le_max_right _ _
  ·rw[hg q e];rcases hk with z|⟨z,_⟩
   ·exact h.top q k z
   ·exact absurd z e
theorem KMax.congr(h:KMax R ps g)(e:∀ q k,R q k↔R' q k):KMax R' ps g :=
 ⟨fun q=>(h.mem q).trans ⟨fun ⟨k,z⟩=>⟨k,(e q k).mp z⟩,fun ⟨k,z⟩=>⟨k,(e q k).mpr z⟩⟩,fun q hq=>(e q _).mp (h.at_ q hq),fun q k z=>h.top q k ((e q k).mpr z)⟩
theorem KMax.row(h:KMax (fun q k=>StK N rows ah q.1 q.2 k) ps g)(h':KMax (fun q k=>∃ p∈ps,SucK N r v N.length p (g p) q k) qs g'):KMax (fun q k=>StK N (rows++[r]) (ah++[v]) q.1 q.2 k) qs g':=by
 refine⟨fun q=>?_,fun q hq=>?_,fun q k hk=>?_⟩
 ·rw[h'.mem];constructor
  ·rintro⟨k,p,hp,z⟩;exact⟨k,Ng.mpr ⟨p,g p,h.at_ p hp,z⟩⟩
  ·rintro⟨k,z⟩;obtain⟨p,m,z1,z2⟩:=Ng.mp z;have hle:=h.top p m z1;have:=z2.more (g p-m);rw[Nat.add_sub_cancel' hle] at this;exact⟨_,p,(h.mem p).mpr ⟨m,z1⟩,this⟩
 ·obtain⟨p,hp,z⟩:=h'.at_ q hq;exact Ng.mpr ⟨p,g p,h.at_ p hp,z⟩
 ·obtain⟨p,m,z1,z2⟩:=Ng.mp hk;have hle:=h.top p m z1;have:=z2.more (g p-m);rw[Nat.add_sub_cancel' hle] at this;have:=h'.top q _ ⟨p,(h.mem p).mpr ⟨m,z1⟩,this⟩;omega
theorem zfq(x y:V):eq1 x y<=1:=by unfold eq1;split<;>omega
theorem StK.le(h:StK N rows ah f u k):k<=rows.length:=by
 induction h with
 | nil=>exact ztm _
 | @skip rows r ah v f u k _ ih=>have:=zfq .non v;rw[ztc,List.length_singleton];omega
 | @take rows r ah v f u k b n _ _ _ _ ih=>have:=zfq (.int n) v;rw[ztc,List.length_singleton];omega
theorem Og(ps:List (Nat×Nat))(g:Nat×Nat->Nat):(X1 ps g).map (fun kv=>kv.1.map kV)=ps.map C8:=by
 unfold X1;rw[zu4];rfl
theorem Fn(ps:List (Nat×Nat))(g:Nat×Nat->Nat):(X1 ps g).length=ps.length:=by unfold X1;exact zta _
def NvL(ah:List V):Prop:=∀ v∈ah,v=.non\/∃ n:Int,v=.int n
inductive zbj(K:Frag)(vs:List V)(H:Hp)(Q:VK)(_:XK):Prop where
 | mk(l ln la:Addr)(ls:List Addr)(rows:List (List Int))(N:List Int)(ah:List V)(_:vs=[.ref l,.ref ln,.ref la])(_:H l=some (.lst (ls.map V.ref)))(_:ILs H ls rows)(_:H ln=some (.lst (N.map V.int)))(_:N.length=7)(_:rows.length<=20)(_:H la=some (.lst ah))(_:ah.length=rows.length)(_:NvL ah)(_:∀ (best kept:Nat) t H',zhp N rows ah best kept->H' t=some (.tup [.int best,.int kept])->H t=none->Same H H'->Q (.ref t) H')
open Classical in
noncomputable def atK(ps:List (Nat×Nat))(g:Nat×Nat->Nat)(p:Nat×Nat):Nat:=if p∈ps then g p else 0
theorem Fo(ps:List (Nat×Nat))(g:Nat×Nat->Nat)(p:Nat×Nat):(valV (X1 ps g) (Xc p)).getD (.int 0)=.int ((atK ps g p:Nat):Int):=by
 rw[Ju];unfold atK;by_cases h:p∈ps
 ·rw[if_pos h,if_pos h];rfl
 ·rw[if_neg h,if_neg h];rfl
theorem zbk(x y:Nat):(if (x:Int)>(y:Int) then (x:Int) else (y:Int))=((max y x:Nat):Int):=by split<;>omega
theorem Ew(x y:V):(if decide (y=x)=true then (1:Int) else 0)=((eq1 x y:Nat):Int):=by
 unfold eq1;by_cases h:x=y
 ·rw[if_pos h,h,ztf rfl];rfl
 ·rw[if_neg h,zth fun z=>h z.symm];rfl
theorem KMax.putA(h:KMax R ps g)(p:Nat×Nat)(x:Nat):KMax (fun q k=>R q k\/(q=p/\k=x)) (insP ps p) (setK g p (max (atK ps g p) x)):=h.put p x _ rfl
theorem zfr(x y:V):eq1 x y=eq1 y x:=by
 unfold eq1;by_cases h:x=y
 ·rw[if_pos h,if_pos h.symm]
 ·rw[if_neg h,if_neg fun z=>h z.symm]
inductive Fp(K:Frag)(vs:List V)(H:Hp)(Q:VK)(_:XK):Prop where
 | mk(ok:Addr->Prop)(d la lf ln:Addr)(P:Pg)(ms:List P3)(ah gs:List V)(N:List Int)(_:vs=[.ref d,.ref la,.ref lf,.ref ln])(_:PgAt ok H d P)(_:Mf P)(_:P.lis=some ms)(_:ms.length<=20)(_:P.ppl.length<=100)(_:H la=some (.lst ah))(_:H lf=some (.lst gs))(_:H ln=some (.lst (N.map V.int)))(_:N.length=7)(_:N.Nodup)(_:(∀ r∈mayP P ms,∀ x∈r,x∈N))(_:ah.length=ms.length)(_:NvL ah)(_:Ya (mayP P ms) gs)(_:Wh (mayP P ms) gs)(_:(∀ hs,Ya (mayP P ms) hs->binV 0 hs=binV 0 gs->agree hs ah<=agree gs ah))(_:∀ H',Same H H'->Q (.bl true) H')
end G
namespace K41
open PySem PySem.Spec PyProof.Rows L2 G
def top(i:Nat):Stmt:=PySem.Challenge.pw_whistlebook_k41_whole_fewest_moves.main.body.getD i (.Pass ⟨0,0,0,0⟩)
structure Ad where
 zo2:Addr
 zl0:Addr
 zmd:Addr
 zl3:Addr
 zl7:Addr
 zl8:Addr
 znj:Addr
 zna:Addr
 zmi:Addr
 zm5:Addr
 zmr:Addr
 zmk:Addr
 zod:Addr
 zno:Addr
 zlw:Addr
 zme:Addr
 zll:Addr
 zlm:Addr
 zln:Addr
 zli:Addr
abbrev ca(a:Ad):CA:=⟨a.zli,a.zln,a.zlm,a.zll,a.zl0,a.zmd,a.zl3,a.zl7,a.zl8,a.znj,a.zna,a.zmi,a.zm5,a.zmr,a.zmk,a.zod,a.zno,a.zlw,a.zme⟩
structure Tx(K:Frag)(mg:Str->Option Value)(a:Ad):Prop where
 zl9:Cls K a.zll
 znv:Xp K a.zll "rounds"
 zmo:Xp K a.zll "meetings"
 zl1:Cls K a.zlm
 zmb:Xp K a.zlm "entries"
 zlv:Cls K a.zln
 znc:Xp K a.zln "listed"
 zpu:Xp K a.zln "lists"
 znr:Xp K a.zln "given"
 zpd:Xp K a.zln "gaps"
 zlj:Cls K a.zli
 zoe:Xp K a.zli "length"
 zqg:Xp K a.zli "rest"
 zml:Xp K a.zli "roster"
 zmp:Xp K a.zli "ledger"
 zng:Xp K a.zli "absent"
 zn6:Xp K a.zli "sheets"
 zl5:Xp K a.zli "sheet"
 zmf:Xp K a.zli "standing"
 zq5:Ry K mg "OutOfRange" a.zl0
 zqj:Ry K mg "TooManyMatches" a.zl8
 zq9:Ry K mg "SameClub" a.znj
 zqq:Ry K mg "KnownReferee" a.zmd
 zpr:Ry K mg "TooManyReferees" a.zl3
 zp4:Ry K mg "UnknownReferee" a.zl7
 zq6:Ry K mg "SeasonOver" a.zmr
 zrb:Ry K mg "DrawnUp" a.zod
 zq3:Ry K mg "NoSuchRound" a.zmi
 zqp:Ry K mg "TooManyDeeds" a.zme
 zqy:Ry K mg "NotDrawn" a.zno
 zq8:Ry K mg "RoundOver" a.zm5
 zq2:Ry K mg "AwayAlready" a.zmk
 zph:Ry K mg "NothingToTakeBack" a.zlw
 zpa:mg "max"=none
 zly:mg "len"=none
 zpq:mg "tuple"=none
 zms:mg "list"=none
 znt:mg "enumerate"=none
 zmj:mg "range"=none
 zq7:mg "zip"=none
 zmc:mg "isinstance"=none
 zpi:mg "int"=none
 zqs:mg "bool"=none
 zqx:mg "dict"=none
 zq4:mg "min"=none
 gc_BookError:mg "BookError"=some (.ref a.zo2)
 gc_OutOfRange:mg "OutOfRange"=some (.ref a.zl0)
 gc_KnownReferee:mg "KnownReferee"=some (.ref a.zmd)
 gc_TooManyReferees:mg "TooManyReferees"=some (.ref a.zl3)
 gc_UnknownReferee:mg "UnknownReferee"=some (.ref a.zl7)
 gc_TooManyMatches:mg "TooManyMatches"=some (.ref a.zl8)
 gc_SameClub:mg "SameClub"=some (.ref a.znj)
 gc_NoSuchMatch:mg "NoSuchMatch"=some (.ref a.zna)
 gc_NoSuchRound:mg "NoSuchRound"=some (.ref a.zmi)
 gc_RoundOver:mg "RoundOver"=some (.ref a.zm5)
 gc_SeasonOver:mg "SeasonOver"=some (.ref a.zmr)
 gc_AwayAlready:mg "AwayAlready"=some (.ref a.zmk)
 gc_DrawnUp:mg "DrawnUp"=some (.ref a.zod)
 gc_NotDrawn:mg "NotDrawn"=some (.ref a.zno)
 gc_NothingToTakeBack:mg "NothingToTakeBack"=some (.ref a.zlw)
 gc_TooManyDeeds:mg "TooManyDeeds"=some (.ref a.zme)
 gc_Ledger:mg "Ledger"=some (.ref a.zll)
 gc_Roster:mg "Roster"=some (.ref a.zlm)
 gc_Sheet:mg "Sheet"=some (.ref a.zln)
 gc_Season:mg "Season"=some (.ref a.zli)
 zm4:∃ t,mg "MOST_NUMBER"=some (.int 999 t)
 zmu:∃ t,mg "MOST_GRADE"=some (.int 9 t)
 zmq:∃ t,mg "MOST_CLUB"=some (.int 99 t)
 zma:∃ t,mg "MOST_REFEREES"=some (.int 30 t)
 zmh:∃ t,mg "MOST_MATCHES"=some (.int 20 t)
 zm3:∃ t,mg "MOST_ROUNDS"=some (.int 60 t)
 znu:∃ t,mg "MOST_REST"=some (.int 10 t)
 zmz:∃ t,mg "MOST_DEEDS"=some (.int 100 t)
end K41
set_option maxHeartbeats 64000000
namespace K41
open PySem PySem.Spec PyProof.Rows L2 G
local macro_rules | `(tactic| walk_at "rd")=>`(tactic| repeat (first|(refine⟨_,rfl,?_⟩)|(refine⟨_,_,rfl,rfl,?_⟩)|(refine And.intro (show CMul _ _ from Or.inr (And.intro (by decide) (by decide))) ?_)|(refine And.intro (show CMul _ _ from Or.inl (And.intro (by decide) (by decide))) ?_)|(refine And.intro (show CDiv _ _ from(And.intro (by decide) (by decide))) ?_)|(refine And.intro (show CPow _ _ from(And.intro (by decide) (And.intro (by decide) (by decide)))) ?_)|(refine And.intro (show (0:Int)<_ from(by decide)) ?_)))
local macro_rules | `(tactic| walk_at "if")=>`(tactic| dsimp only[Wu,List.set])
local macro_rules | `(tactic| walk_at "ar")=>`(tactic| (intro _ _ _ _ h;first|(cases h;subst_vars;rfl)|repeat (first|(obtain⟨h1,_⟩:=h;subst h1;rfl)|(obtain⟨_,h⟩:=h))))
section
variable{P:Program}{w:World}{K:Frag}{mg:Str->Option Value}{base:Heap}{a:Ad}{f:Addr}{fd:FuncData}
abbrev S6:Stmt:=top 2
theorem Pn:Zl ["number","club","ledger","rest","rested"] ["number","club","ledger","rest"] (Zj S6):=fnS
theorem Hk(F:Fun K "met_lately" "met_lately" S6 f fd)(T:Tx K mg a)(zlo:Zv P w K mg base a.zll "over" 1 ["self"] (N5 a.zll))(zo7:Zv P w K mg base a.zll "met" 1 ["self","number","club"] (zhm a.zll)):FnOk P w K mg base (CX1 P w) 2 f fd ["number","club","ledger","rest"] (Dz a.zll):=by
 refine F.okX Pn ⋯ fun _ _ _ _ H _ Q E hr h=>?_;obtain⟨p,lr,ld,Rs,n,c,rest,rfl,LA,h⟩:=h;refine⟨_,(Zb (pS 4 Pn.nd (Zs (Qu rfl) (by rfl) T.zpa PyProof.Rows.boot_max (Za (Zp Pq (Yr (pv 2) T.zl9 zlo (hr.mono ⋯) Zk) (pv 3)) (Za Zg Zd))))
 (Zf (Zm (Wo Rk (Xy (pv 2) T.zl9 zo7 (hr.mono ⋯) Zk (Za (pv 0) (Za (pv 1) Zd))) (pv 4) (Zu _))))),?_⟩
 obtain⟨⟨dx,hp⟩,_,_⟩:=id LA;refine⟨_,rfl,p,dx,_,rfl,hp,K2 ⋯ ⋯,p,lr,ld,Rs,rfl,LA,_,rfl,_,_,rfl,rfl,_,_,rfl,?_⟩;refine⟨_,rfl,p,dx,_,rfl,hp,K2 ⋯ ⋯,_,rfl,_,rfl,p,lr,ld,Rs,n,c,rfl,LA,fun H' s'=>⟨_,rfl,_,_,rfl,rfl,h H' s'⟩⟩
abbrev Mj:Stmt:=top 3
theorem Wk:Zl ["referee","match","out","ledger","rest","number","grade","club","home","guest","asked","told"] ["referee","match","out","ledger","rest"] (Zj Mj):=fnS
theorem Az(F:Fun K "reasons" "reasons" Mj f fd)(T:Tx K mg a)(zn0:Z4 P w K mg base "met_lately" 2 ["number","club","ledger","rest"] (Dz a.zll)):FnOk P w K mg base (CX1 P w) 3 f fd ["referee","match","out","ledger","rest"] (G1 K a.zll):=by
 refine F.okX Wk ⋯ fun _ _ _ _ H _ Q E hr h=>?_;obtain⟨t1,t2,p,lr,ld,Rs,n,g,c,h,gu,d,rest,o,rfl,h1,h2,LA,hq⟩:=h;refine⟨_,(Zb (pS 5 Wk.nd (pI (iU K) (pv 0) Zg))
 (Zb (pS 6 Wk.nd (pI (iU K) (pv 0) Zg))
 (Zb (pS 7 Wk.nd (pI (iU K) (pv 0) Zg))
 (Zb (pS 8 Wk.nd (pI (iU K) (pv 1) Zg))
 (Zb (pS 9 Wk.nd (pI (iU K) (pv 1) Zg))
 (Zb (pS 10 Wk.nd (pI (iU K) (pv 1) Zg))
 (Zb (pS 11 Wk.nd (Z9 Zd))
 (Zb (Z5 (Ue (pv 2))
  (Zf (Yv (pv 11) Zo))
  Zt)
 (Zb (Z5 (Zn Rk (pv 10) (pv 6) (Zu _))
  (Zf (Yv (pv 11) Zo))
  Zt)
 (Zb (Z5 (PW.pt (Rj (Zn Xn (pv 7) (pv 8) (Zu _)) (Ux (Zn Xn (pv 7) (pv 9) (Zu _)))))
  (Zf (Yv (pv 11) Zo))
  Zt)
 (Zb (Z5 (PW.pt (Rj (Ue (pF zn0 hr (Za (pv 5) (Za (pv 8) (Za (pv 3) (Za (pv 4) Zd)))))) (Ux (Ue (pF zn0 hr (Za (pv 5) (Za (pv 9) (Za (pv 3) (Za (pv 4) Zd)))))))))
  (Zf (Yv (pv 11) Zo))
  Zt)
 (Zf (Zm (pv 11)))))))))))))),?_⟩
 show let y1:TS:=_;let y2:TS:=Zw _ y1;let y3:TS:=Zw _ y2;let y4:TS:=Zw _ y3;let y5:TS:=Zw _ y4;let y6:TS:=Zw _ y5;let y7:TS:=Zw _ y6;let y8:TS:=Zw _ y7;let y9:TS:=Zw _ y8;let y10:TS:=Zw _ y9;let y11:TS:=Zw _ y10;Zw _ y11 _ _ _;intro y1 y2 y3 y4 y5 y6 y7 y8 y9 y10 y11;refine⟨_,rfl,t1,_,_,_,rfl,rfl,SqT.of h1,(show atI [V.int n,V.int g,V.int c] 0=some _ from rfl),_,rfl,t1,_,_,_,rfl,rfl,SqT.of h1,(show atI [V.int n,V.int g,V.int c] 1=some _ from rfl),_,rfl,t1,_,_,_,rfl,rfl,SqT.of h1,(show atI [V.int n,V.int g,V.int c] 2=some _ from rfl),?_⟩;refine⟨_,rfl,t2,_,_,_,rfl,rfl,SqT.of h2,(show atI [V.int h,V.int gu,V.int d] 0=some _ from rfl),_,rfl,t2,_,_,_,rfl,rfl,SqT.of h2,(show atI [V.int h,V.int gu,V.int d] 1=some _ from rfl),_,rfl,t2,_,_,_,rfl,rfl,SqT.of h2,(show atI [V.int h,V.int gu,V.int d] 2=some _ from rfl),?_⟩;refine⟨by show 0<=sizeLine;decide,fun l hl=>?_⟩;have s1:=Ze (o:=.lst []) hl;have q1:upd H l (.lst []) l=some (.lst (([]:List Str).map V.str)):=Zc;generalize upd H l (.lst [])=H1 at s1 q1;walk_at "if";have b1:=N8 o "away";have b2:=N8 (decide (g<d)) "grade";have b3:=N8 (decide (c=h)||decide (c=gu)) "club";refine Tg (b:=o) (H0:=H) (Sv fun Q q=>⟨_,rfl,_,rfl,q⟩) hl s1 q1 ⋯ rfl (fun H2 s2 q2 _=>?_);rw[List.nil_append] at q2;refine Tg (b:=decide (g<d)) (H0:=H) (Sv fun Q q=>⟨_,rfl,_,rfl,_,_,rfl,rfl,_,rfl,q⟩) hl s2 q2 ⋯ rfl (fun H3 s3 q3 _=>?_);refine Tg (b:=decide (c=h)||decide (c=gu)) (H0:=H) (Sv (R4 (fun Q q=>⟨_,rfl,_,rfl,rfl,_,rfl,R1▸q⟩) (fun Q q=>⟨_,rfl,_,rfl,rfl,_,rfl,R1▸q⟩))) hl s3 q3 (by rw[ztc];omega) rfl (fun H4 s4 q4 _=>?_);refine Tg (b:=Rl Rs n h rest||Rl Rs n gu rest) (H0:=H) (D1 (fun Q q=>⟨_,rfl,_,rfl,_,rfl,_,rfl,p,lr,ld,Rs,n,h,rest,rfl,LA.same s4,fun H5 s5=>⟨_,rfl,q H5 s5⟩⟩) (fun H5 s5 Q q=>⟨_,rfl,_,rfl,_,rfl,_,rfl,p,lr,ld,Rs,n,gu,rest,rfl,LA.same (s4.trans s5),fun H6 s6=>⟨_,rfl,q H6 s6⟩⟩)) hl s4 q4 (by rw[ztc,ztc];omega) rfl (fun H5 s5 q5 _=>?_);refine⟨_,rfl,hq l H5 ?_ s5 hl⟩;unfold whyS;rw[q5,zu6,zu6]
abbrev Vj:Stmt:=Z3 (top 23) 0
theorem Oh:Zl ["self"] ["self"] (Zj Vj):=fnS
theorem Oi(F:Fun K "__init__" "Ledger.__init__" Vj f fd)(T:Tx K mg a):FnOk P w K mg base (CX1 P w) 1 f fd ["self"] (zav a.zll):=by
 refine F.okX Oh ⋯ fun _ _ _ _ H _ Q E hr h=>?_;obtain⟨p,dx,rfl,hp,h⟩:=h;refine⟨_,(Zb (Y5 (K:=K) rfl (pv 0) (Z9 Zd) rfl)
 (Zf (Y5 (K:=K) rfl (pv 0) O2 rfl))),?_⟩
 refine⟨by show 0<=sizeLine;decide,fun lr hlr=>?_⟩;have np:p≠lr:=Zh hp hlr;refine⟨_,rfl,p,a.zll,dx,[],rfl,(by rw[Zi np];exact hp),T.zl9,T.znv,⋯,?_⟩;intro ld hld;have n1:ld≠p:=fun z=>by rw[z,Zc] at hld;cases hld
 have n2:ld≠lr:=fun z=>by rw[z,Zi (Ne.symm np),Zc] at hld;cases hld
 have hld0:H ld=none:=by rw[Zi n1,Zi n2] at hld;exact hld
 refine⟨_,rfl,p,a.zll,dx,[("rounds",.ref lr)],rfl,(by rw[Zi (Ne.symm n1),Zc];rfl),T.zl9,T.zmo,(by show 1<1000;decide),?_⟩;rw[zkh];refine h lr ld _ ⟨⟨dx,Zc⟩,⟨[],?_,.nil⟩,⟨[],?_,fun n c=>rfl,zt4 _⟩⟩ (fun b o e hb=>?_) hlr hld0 (Ne.symm n2)
 ·rw[Zi (Ne.symm np),Zi (Ne.symm n2),Zi (Ne.symm np),Zc]
 ·rw[Zi n1,Zc]
 ·rw[Zi hb,Zi (Zh e hld0),Zi hb,Zi (Zh e hlr)];exact e
abbrev U3:Stmt:=Z3 (top 23) 1
theorem Xm:Zl ["self","rows","at","home","guest","grade","referee"] ["self","rows"] (Zj U3):=fnS
theorem L6(F:Fun K "write" "Ledger.write" U3 f fd)(T:Tx K mg a):FnOk P w K mg base (CX1 P w) 1 f fd ["self","rows"] (Cb a.zll):=by
 refine F.okX Xm ⋯ fun _ _ _ _ H _ Q E hr h=>?_;obtain⟨p,lr,ld,Rs,b,ts,rs,rfl,LA,hb,nb,tl,hl,hl2,h⟩:=h;have hu:=Wq hr;refine⟨_,(Zb (Yv (Zq (K:=K) rfl (pv 0) rfl) (Yj (K0 (K:=K) rfl) (by rfl) T.zpq PyProof.Rows.boot_tuple (Za (pv 1) Zd)))
 (Zb (pS 2 Xm.nd (Zs (cL K) (by rfl) T.zly PySem.boot_len (Za (Zq (K:=K) rfl (pv 0) rfl) Zd)))
 (Zf (Xf PassesOwn.leaving rfl (Yd (K:=K) rfl (pv 1)) (Wd (K:=K) (n:=4) rfl rfl (Zy (pN 3 Xm.nd) (Zy (pN 4 Xm.nd) (Zy (pN 5 Xm.nd) (Zy (pN 6 Xm.nd) Wb)))))
  (Zf (Z5 (Zn W9 (pv 6) Yz (Zu _))
   (Zb (Yn hu (Zq (K:=K) rfl (pv 0) rfl) (Z7 (Za (pv 6) (Za (pv 3) Zd))) (pv 2) rfl)
   (Zf (Yn hu (Zq (K:=K) rfl (pv 0) rfl) (Z7 (Za (pv 6) (Za (pv 4) Zd))) (pv 2) rfl)))
   Zt)))))),?_⟩
 obtain⟨⟨dx,hp⟩,⟨rr,hlr,rl⟩,⟨kvs,hd,mt,kl⟩⟩:=LA;have hlen:ts.length=rs.length:=by rw[tl.length,zta]
 have nrd:lr≠ld:=Yo hlr hd (by intro z;cases z);have nrp:p≠lr:=Yo hp hlr (by intro z;cases z);have npd:p≠ld:=Yo hp hd (by intro z;cases z);have nbd:b≠ld:=Yo hb hd (by intro z;cases z);refine⟨_,rfl,p,a.zll,dx,_,_,rfl,hp,T.zl9,T.znv,N4,lr,rr,rfl,hlr,_,rfl,b,ts,rfl,.inl ⟨SqL.of hb,fun t ht=>⟨rr,(by rw[Zi (Zh hlr ht)];exact hlr),Sg (by rw[rl.length];omega),?_⟩⟩⟩;have ntr:t≠lr:=Ne.symm (Zh hlr ht);have k1:∀ x o,H x=some o->x≠lr->upd (upd H t (.tup ts)) lr (.lst (rr++[.ref t])) x=some o:=fun x o e n=>by rw[Zi n,Zi (Zh e ht)];exact e
 have t1:∀ x xs,H x=some (.tup xs)->upd (upd H t (.tup ts)) lr (.lst (rr++[.ref t])) x=some (.tup xs):=fun x xs e=>k1 x _ e (Yo e hlr (by intro z;cases z));have r1:upd (upd H t (.tup ts)) lr (.lst (rr++[.ref t])) lr=some (.lst (rr++[.ref t])):=Zc;have rl1:Q9 (upd (upd H t (.tup ts)) lr (.lst (rr++[.ref t]))) (rr++[.ref t]) (Rs++[rs]):=(rl.mono t1).snoc (by rw[Zi ntr,Zc]) (tl.mono t1);have tl1:=tl.mono t1;generalize upd (upd H t (.tup ts)) lr (.lst (rr++[.ref t]))=H1 at k1 t1 r1 rl1 tl1;have hp1:=k1 _ _ hp nrp;have hb1:=k1 _ _ hb nb;have hd1:=k1 _ _ hd (Ne.symm nrd);refine⟨_,rfl,p,a.zll,dx,_,_,rfl,hp1,T.zl9,T.znv,N4,lr,_,rfl,.inl (SqL.of r1),?_⟩;have hN:(((rr++[V.ref t]).length:Nat):Int)=((Rs.length+1:Nat):Int):=by rw[ztc,rl.length];rfl
 rw[hN];refine⟨_,rfl,b,rfl,⟨_,SqL.of hb1⟩,X6 (K:=K) (a:=b) (xs:=ts) (fun i σ H'=>(∃ v1 v2 v3 v4,σ=[some (.ref p),some (.ref b),some (.int ((Rs.length+1:Nat):Int)),v1,v2,v3,v4])/\(∀ x o,H1 x=some o->x≠ld->H' x=some o) /\
  ∃ kvs',H' ld=some (.dT kvs')/\Dy kvs' (N6 Rs rs i)/\kvs'.length<=2*(tot Rs+i)) ⟨⟨_,_,_,_,rfl⟩,fun _ _ e _=>e,kvs,hd1,by rw[zb9];exact mt,by omega⟩ (fun i σ H' _ ⟨_,k,_⟩=>SqL.of (k _ _ hb1 nbd)) ?_ ?_⟩
 ·rintro i x σ H' hx ⟨⟨v1,v2,v3,v4,rfl⟩,k2,kvs',hd2,mt2,kl2⟩;obtain⟨tr,r,rfl,hr3,htr⟩:=ziu tl1 hx;have hi:i<rs.length:=(ztd.mp hr3).1;have htr2:=k2 _ _ htr (Yo htr hd1 (by intro z;cases z));refine⟨tr,_,rfl,SqT.of htr2,rfl,_,_,rfl,_,_,rfl,_,_,rfl,_,_,rfl,rfl,?_⟩;refine⟨_,rfl,rfl,_,rfl,?_⟩;cases hw:r.w with
  | none =>
    refine iteF ?_;exact⟨⟨_,_,_,_,rfl⟩,k2,kvs',hd2,by rw[zca hr3 hw];exact mt2,by omega⟩
  | some w =>
    refine iteT ?_;have hp2:=k2 _ _ hp1 npd;refine⟨_,rfl,_,rfl,p,a.zll,dx,_,_,rfl,hp2,T.zl9,T.zmo,R7,_,rfl,_,rfl,sz2,fun t2 ht2=>⟨ld,_,rfl,DPut.t (k:=[inl w,inl r.h]) (by rw[Zi (Zh hd2 ht2)];exact hd2) Zc ((Nat.lt_trans (zuz (show _<=200000 by omega) ⋯) Uz)),?_⟩⟩;have k3:∀ x o,H1 x=some o->x≠ld->upd (upd H' t2 (.tup [oV (some w),.int r.h])) ld (.dT (putK kvs' [inl w,inl r.h] (.int ((Rs.length+1:Nat):Int)))) x=some o:=fun x o e n=>by
     have:=k2 x o e n;rw[Zi n,Zi (Zh this ht2)];exact this
    have hd3:upd (upd H' t2 (.tup [oV (some w),.int r.h])) ld (.dT (putK kvs' [inl w,inl r.h] (.int ((Rs.length+1:Nat):Int)))) ld=some (.dT (putK kvs' [inl w,inl r.h] (.int ((Rs.length+1:Nat):Int)))):=Zc;have l3:=Y7 kvs' ([inl w,inl r.h]:List Key) (.int ((Rs.length+1:Nat):Int));generalize upd (upd H' t2 (.tup [oV (some w),.int r.h])) ld (.dT (putK kvs' [inl w,inl r.h] (.int ((Rs.length+1:Nat):Int))))=H3 at k3 hd3;have hp3:=k3 _ _ hp1 npd;refine⟨_,rfl,_,rfl,p,a.zll,dx,_,_,rfl,hp3,T.zl9,T.zmo,R7,_,rfl,_,rfl,sz2,fun t4 ht4=>⟨ld,_,rfl,DPut.t (k:=[inl w,inl r.g]) (by rw[Zi (Zh hd3 ht4)];exact hd3) Zc ((Nat.lt_trans (zuz (show _<=200000 by omega) ⋯) Uz)),?_⟩⟩;refine⟨⟨_,_,_,_,rfl⟩,fun x o e n=>?_,_,Zc,?_,?_⟩
    ·have:=k3 x o e n;rw[Zi n,Zi (Zh this ht4)];exact this
    ·rw[<- zcb hr3 hw];exact(mt2.put w r.h _ (Nat.succ_pos _)).put w r.g _ (Nat.succ_pos _)
    ·have:=Y7 (putK kvs' ([inl w,inl r.h]:List Key) (.int ((Rs.length+1:Nat):Int))) ([inl w,inl r.g]:List Key) (.int ((Rs.length+1:Nat):Int));omega
 ·rintro σ H' ⟨⟨v1,v2,v3,v4,rfl⟩,k2,kvs',hd2,mt2,kl2⟩;rw[hlen] at mt2 kl2;rw[zef] at mt2;refine h H' ⟨⟨dx,k2 _ _ hp1 npd⟩,⟨_,k2 _ _ r1 nrd,rl1.mono fun x xs e=>k2 _ _ e (Yo e hd1 (by intro z;cases z))⟩,kvs',hd2,mt2,by rw[zee];exact kl2⟩ fun x o e n1 n2=>k2 x o (k1 x o e n1) n2
abbrev Tu:Stmt:=Z3 (top 23) 2
theorem Jv:Zl ["self"] ["self"] (Zj Tu):=fnS
theorem Jw(F:Fun K "over" "Ledger.over" Tu f fd)(T:Tx K mg a):FnOk P w K mg base (CX1 P w) 1 f fd ["self"] (N5 a.zll):=by
 refine F.okX Jv ⋯ fun _ _ _ _ H _ Q E hr h=>?_;obtain⟨p,lr,ld,Rs,rfl,LA,h⟩:=h;refine⟨_,(Zf (Zm (Zs (cL K) (by rfl) T.zly PySem.boot_len (Za (Zq (K:=K) rfl (pv 0) rfl) Zd)))),?_⟩;obtain⟨⟨dx,hp⟩,⟨rr,hlr,rl⟩,_⟩:=LA;refine⟨_,rfl,p,a.zll,dx,_,_,rfl,hp,T.zl9,T.znv,N4,lr,_,rfl,.inl (SqL.of hlr),?_⟩;rw[rl.length];exact h
abbrev S7:Stmt:=Z3 (top 23) 4
theorem Hl:Zl ["self","number","club"] ["self","number","club"] (Zj S7):=fnS
theorem Hm(F:Fun K "met" "Ledger.met" S7 f fd)(T:Tx K mg a):FnOk P w K mg base (CX1 P w) 1 f fd ["self","number","club"] (zhm a.zll):=by
 refine F.okX Hl ⋯ fun _ _ _ _ H _ Q E hr h=>?_;obtain⟨p,lr,ld,Rs,n,c,rfl,LA,h⟩:=h;have hu:=Wq hr;refine⟨_,(Zf (Zm (Ky hu (Zq (K:=K) rfl (pv 0) rfl) (Z7 (Za (pv 1) (Za (pv 2) Zd))) Zg ⟨rfl,rfl,rfl,rfl⟩))),?_⟩;obtain⟨⟨dx,hp⟩,_,⟨kvs,hd,mt,kl⟩⟩:=LA;refine⟨_,rfl,p,a.zll,dx,_,_,rfl,hp,T.zl9,T.zmo,R7,ld,rfl,.inr ⟨kvs,.inl hd⟩,_,rfl,_,rfl,sz2,fun t ht=>⟨_,DGet.t (k:=[inl n,inl c]) (by rw[Zi (Zh hd ht)];exact hd) Zc,?_⟩⟩;have e:((valV kvs ([inl n,inl c]:List Key)).getD (.int 0))=.int (metS Rs n c:Nat):=by
  rw[mt n c];split
  ·rename_i z;rw[z];rfl
  ·rfl
 rw[e];exact h _ (Ze ht)
abbrev Tv:Stmt:=top 25
theorem Jx:Zl ["value","least","most"] ["value","least","most"] (Zj Tv):=fnS
theorem Jy(F:Fun K "check_range" "check_range" Tv f fd)(T:Tx K mg a):FnOk P w K mg base (CX1 P w) 1 f fd ["value","least","most"] (Nb a.zl0):=by
 refine F.okX Jx ⋯ fun _ _ _ _ H _ Q E hr h=>?_;obtain⟨v,lo,m,rfl,s1,s2,s3,h⟩:=h;refine⟨_,(Zf (Z5 (PW.pt (Rj (Zn zac (pv 0) (pv 1) (Zu _)) (Ux (Zn Rk (pv 0) (pv 2) (Zu _)))))
  (Zf (Xh Xg rfl T.zq5 rfl (Za (Vc (Z0 (Wz (pv 0)) (Z0 (Xx ⋯) (Z0 (Wz (pv 1)) (Z0 (Xx ⋯) (Z0 (Wz (pv 2)) Vb))))) ⋯) Zd)))
  Zt)),?_⟩
 walk_at "rd";refine itD (fun h1=>?_) (fun h1=>?_)
 ·rw[if_pos (Or.inl h1)] at h;refine iteT ?_;walk_at "rd";refine⟨.inl ⟨_,rfl,s1⟩,_,rfl,.inl ⟨_,rfl,s2⟩,_,rfl,.inl ⟨_,rfl,s3⟩,fun z=>⟨sz1,h⟩⟩
 ·walk_at "rd";refine itD (fun h2=>?_) (fun h2=>?_)
  ·rw[if_pos (Or.inr h2)] at h;walk_at "rd";refine⟨.inl ⟨_,rfl,s1⟩,_,rfl,.inl ⟨_,rfl,s2⟩,_,rfl,.inl ⟨_,rfl,s3⟩,fun z=>⟨sz1,h⟩⟩
  ·rw[if_neg (fun z=>z.elim h1 h2)] at h;exact h
abbrev Tw:Stmt:=top 35
theorem Qi:Zl ["matches","count"] ["matches"] (Zj Tw):=fnS
theorem Jz(F:Fun K "check_count" "check_count" Tw f fd)(T:Tx K mg a):FnOk P w K mg base (CX1 P w) 1 f fd ["matches"] (Cj K (ca a)):=by
 refine F.okX Qi ⋯ fun _ _ _ _ H _ Q E hr h=>?_;obtain⟨b,ts,rfl,hs,hl,h1,h2⟩:=h;refine⟨_,(Zb (pS 1 Qi.nd (Zs (cL K) (by rfl) T.zly PySem.boot_len (Za (pv 0) Zd)))
 (Zf (Z5 (Zn Rk (pv 1) (Wc rfl T.zmh) (Zu _))
  (Zf (Xh Xg rfl T.zqj rfl (Za (Vc (Z0 (Wz (pv 1)) (Z0 (Xx ⋯) (Z0 (Wz (Wc rfl T.zmh)) Vb))) ⋯) Zd)))
  Zt))),?_⟩
 refine⟨_,rfl,b,_,rfl,.inl hs,?_⟩;walk_at "rd";refine itD (fun hc=>?_) (fun hc=>?_)
 ·walk_at "rd";exact⟨.inl ⟨_,rfl,Yx ⋯ ⋯⟩,.inl ⟨_,rfl,Yh ⋯⟩,fun z=>⟨sz1,h1 ⋯⟩⟩
 ·exact h2 ⋯
abbrev U4:Stmt:=top 36
theorem Ww:Zl ["matches","home","guest","grade"] ["matches"] (Zj U4):=fnS
theorem L7(F:Fun K "check_ranges" "check_ranges" U4 f fd)(T:Tx K mg a)(zlq:Z4 P w K mg base "check_range" 1 ["value","least","most"] (Nb a.zl0)):FnOk P w K mg base (CX1 P w) 2 f fd ["matches"] (Fe K (ca a)):=by
 refine F.okX Ww ⋯ fun _ _ _ _ H _ Q E hr h=>?_;obtain⟨b,ts,Ms,rfl,hs,tl,sm,h1,h2⟩:=h;refine⟨_,(Zf (Xf PassesOwn.leaving rfl (Yd (K:=K) rfl (pv 0)) (Wd (K:=K) (n:=3) rfl rfl (Zy (pN 1 Ww.nd) (Zy (pN 2 Ww.nd) (Zy (pN 3 Ww.nd) Wb))))
  (Zb (Z6 (pF zlq hr (Za (pv 1) (Za Zg (Za (Wc rfl T.zmq) Zd)))))
  (Zb (Z6 (pF zlq hr (Za (pv 2) (Za Zg (Za (Wc rfl T.zmq) Zd)))))
  (Zf (Z6 (pF zlq hr (Za (pv 3) (Za Zg (Za (Wc rfl T.zmu) Zd)))))))))),?_⟩
 have hlen:ts.length=Ms.length:=by rw[tl.length,zta]
 let jv1:Nat->L2.St->Hp->Prop:=fun i σ H'=>H'=H/\(∃ v1 v2 v3,σ=[some (.ref b),v1,v2,v3])/\∀ m∈Ms.take i,¬ badM m
 refine⟨_,rfl,b,rfl,⟨_,hs⟩,X6 (K:=K) (a:=b) (xs:=ts) jv1 ⟨rfl,⟨_,_,_,rfl⟩,by simp⟩ (fun i σ H' _ ⟨e,_⟩=>e▸hs) ?_ ?_⟩
 ·rintro i x σ H' hx ⟨rfl,⟨v1,v2,v3,rfl⟩,hi⟩;obtain⟨t,m,rfl,hm,ht⟩:=K3 tl hx;have hmem:=ztn hm;obtain⟨s1,s2,s3⟩:=sm m hmem;have bad:badM m->E (.ref a.zl0) none H':=fun hb=>h1 ⟨m,hmem,hb⟩;refine⟨t,_,rfl,SqT.of ht,rfl,_,_,rfl,_,_,rfl,_,_,rfl,rfl,?_⟩;refine⟨_,rfl,_,1,99,rfl,s1,Yh ⋯,Yh ⋯,?_⟩;refine Dr (fun b1=>bad (by unfold badM;omega)) (fun b1=>?_);refine⟨_,rfl,_,1,99,rfl,s2,Yh ⋯,Yh ⋯,?_⟩;refine Dr (fun b2=>bad (by unfold badM;omega)) (fun b2=>?_);refine⟨_,rfl,_,1,9,rfl,s3,Yh ⋯,Yh ⋯,?_⟩;refine Dr (fun b3=>bad (by unfold badM;omega)) (fun b3=>?_);exact⟨rfl,⟨_,_,_,rfl⟩,Fd hm hi (by unfold badM;omega)⟩
 ·rintro σ H' ⟨rfl,⟨v1,v2,v3,rfl⟩,hi⟩;rw[hlen,ztq] at hi;exact h2 fun ⟨m,hm,hb⟩=>hi m hm hb
abbrev Tz:Stmt:=top 37
theorem Vk:Zl ["matches","home","guest","grade"] ["matches"] (Zj Tz):=fnS
theorem J0(F:Fun K "check_clubs" "check_clubs" Tz f fd)(T:Tx K mg a):FnOk P w K mg base (CX1 P w) 1 f fd ["matches"] (Ck K (ca a)):=by
 refine F.okX Vk ⋯ fun _ _ _ _ H _ Q E hr h=>?_;obtain⟨b,ts,Ms,rfl,hs,tl,sm,h1,h2⟩:=h;refine⟨_,(Zf (Xf PassesOwn.leaving rfl (Yd (K:=K) rfl (pv 0)) (Wd (K:=K) (n:=3) rfl rfl (Zy (pN 1 Vk.nd) (Zy (pN 2 Vk.nd) (Zy (pN 3 Vk.nd) Wb))))
  (Zf (Z5 (Zn Xn (pv 1) (pv 2) (Zu _))
   (Zf (Xh Xg rfl T.zq9 rfl (Za (Vc (Z0 (Xx ⋯) (Z0 (Wz (pv 1)) (Z0 (Xx ⋯) Vb))) ⋯) Zd)))
   Zt)))),?_⟩
 have hlen:ts.length=Ms.length:=by rw[tl.length,zta]
 let jv2:Nat->L2.St->Hp->Prop:=fun i σ H'=>H'=H/\(∃ v1 v2 v3,σ=[some (.ref b),v1,v2,v3])/\∀ m∈Ms.take i,¬ (m.1=m.2.1)
 refine⟨_,rfl,b,rfl,⟨_,hs⟩,X6 (K:=K) (a:=b) (xs:=ts) jv2 ⟨rfl,⟨_,_,_,rfl⟩,by simp⟩ (fun i σ H' _ ⟨e,_⟩=>e▸hs) ?_ ?_⟩
 ·rintro i x σ H' hx ⟨rfl,⟨v1,v2,v3,rfl⟩,hi⟩;obtain⟨t,m,rfl,hm,ht⟩:=K3 tl hx;have hmem:=ztn hm;obtain⟨s1,s2,s3⟩:=sm m hmem;refine⟨t,_,rfl,SqT.of ht,rfl,_,_,rfl,_,_,rfl,_,_,rfl,rfl,?_⟩;refine⟨_,rfl,_,rfl,rfl,_,rfl,?_⟩;refine itV (fun he=>?_) (fun he=>?_)
  ·exact⟨_,rfl,.inl ⟨_,rfl,s1⟩,fun z=>⟨sz1,h1 ⟨m,hmem,he⟩⟩⟩
  ·exact⟨rfl,⟨_,_,_,rfl⟩,Fd (p:=fun m=>m.1=m.2.1) hm hi he⟩
 ·rintro σ H' ⟨rfl,⟨v1,v2,v3,rfl⟩,hi⟩;rw[hlen,ztq] at hi;exact h2 fun ⟨m,hm,hb⟩=>hi m hm hb
abbrev Ml:Stmt:=top 38
theorem A0:Zl ["matches"] ["matches"] (Zj Ml):=fnS
theorem A4(F:Fun K "checked" "checked" Ml f fd)(T:Tx K mg a)(zoq:Z4 P w K mg base "check_count" 1 ["matches"] (Cj K (ca a)))(zoj:Z4 P w K mg base "check_ranges" 2 ["matches"] (Fe K (ca a)))(zos:Z4 P w K mg base "check_clubs" 1 ["matches"] (Ck K (ca a))):FnOk P w K mg base (CX1 P w) 3 f fd ["matches"] (Jc K (ca a)):=by
 refine F.okX A0 ⋯ fun _ _ _ _ H _ Q E hr h=>?_;obtain⟨b,ts,Ms,rfl,hs,tl,sm,hl,h1,h2,h3,h4⟩:=h;refine⟨_,(Zb (Z6 (pF zoq hr (Za (pv 0) Zd)))
 (Zb (Z6 (pF zoj hr (Za (pv 0) Zd)))
 (Zb (Z6 (pF zos hr (Za (pv 0) Zd)))
 (Zf (Zm (Yj (Xq (K:=K) rfl) (by rfl) T.zms PyProof.Rows.boot_list (Za (pv 0) Zd))))))),?_⟩
 have hlen:ts.length=Ms.length:=by rw[tl.length,zta]
 refine⟨_,rfl,b,ts,rfl,hs,by omega,fun hc=>h1 ⋯,fun hc=>?_⟩;refine⟨_,rfl,b,ts,Ms,rfl,hs,tl,sm,fun hb=>h2 ⋯ hb,fun hb=>?_⟩;refine⟨_,rfl,b,ts,Ms,rfl,hs,tl,sm,fun hb2=>h3 ⋯ hb hb2,fun hb2=>?_⟩;exact⟨_,rfl,b,ts,rfl,.inl hs,h4 ⋯ hb hb2⟩
abbrev Vl:Stmt:=Z3 (top 40) 0
theorem Oj:Zl ["self"] ["self"] (Zj Vl):=fnS
theorem Ol(F:Fun K "__init__" "Roster.__init__" Vl f fd)(T:Tx K mg a):FnOk P w K mg base (CX1 P w) 1 f fd ["self"] (za1 (ca a)):=by
 refine F.okX Oj ⋯ fun _ _ _ _ H _ Q E hr h=>?_;obtain⟨p,dx,rfl,hp,h⟩:=h;refine⟨_,(Zf (Y5 (K:=K) rfl (pv 0) Kw rfl)),?_⟩;intro d hd;exact⟨_,rfl,p,a.zlm,dx,[],rfl,(by rw[Zi (Zh hp hd)];exact hp),T.zl1,T.zmb,⋯,h d hd⟩
abbrev W3:Stmt:=Z3 (top 40) 1
theorem Pc:Zl ["self","number","grade","club"] ["self","number","grade","club"] (Zj W3):=fnS
theorem Pd(F:Fun K "check_new" "Roster.check_new" W3 f fd)(T:Tx K mg a)(zlq:Z4 P w K mg base "check_range" 1 ["value","least","most"] (Nb a.zl0)):FnOk P w K mg base (CX1 P w) 2 f fd ["self","number","grade","club"] (P6 (ca a)):=by
 refine F.okX Pc ⋯ fun _ _ _ _ H _ Q E hr h=>?_;obtain⟨p,d,R,n,g,c,rfl,RA,sm,h⟩:=h;have hu:=Wq hr;refine⟨_,(Zb (Z6 (pF zlq hr (Za (pv 1) (Za Zg (Za (Wc rfl T.zm4) Zd)))))
 (Zb (Z6 (pF zlq hr (Za (pv 2) (Za Zg (Za (Wc rfl T.zmu) Zd)))))
 (Zb (Z6 (pF zlq hr (Za (pv 3) (Za Zg (Za (Wc rfl T.zmq) Zd)))))
 (Zb (Z5 (Tr (Pt hu (pv 1) (Zq (K:=K) rfl (pv 0) rfl)))
  (Zf (Xh Xg rfl T.zqq rfl (Za (Vc (Z0 (Xx ⋯) (Z0 (Wz (pv 1)) (Z0 (Xx ⋯) Vb))) ⋯) Zd)))
  Zt)
 (Zf (Z5 (Zn zhe (Zs zb3 (by rfl) T.zly PySem.boot_len (Za (Zq (K:=K) rfl (pv 0) rfl) Zd)) (Wc rfl T.zma) (Zu _))
  (Zf (Xh Xg rfl T.zpr rfl (Za (Vc (Z0 (Xx ⋯) (Z0 (Wz (Wc rfl T.zma)) (Z0 (Xx ⋯) Vb))) ⋯) Zd)))
  Zt)))))),?_⟩
 obtain⟨sn,sg,sc⟩:=sm;obtain⟨⟨dx,kvs,hp,hd,en⟩,nd⟩:=id RA;have bad:∀ {A B:Prop},(badI n g c->(if badI n g c then A else B)->A):=fun hb z=>by rw[if_pos hb] at z;exact z
 refine⟨_,rfl,n,1,999,rfl,sn,Yh ⋯,Yh ⋯,?_⟩;refine Dr (fun b1=>bad (by unfold badI;omega) h) (fun b1=>?_);refine⟨_,rfl,g,1,9,rfl,sg,Yh ⋯,Yh ⋯,?_⟩;refine Dr (fun b2=>bad (by unfold badI;omega) h) (fun b2=>?_);refine⟨_,rfl,c,1,99,rfl,sc,Yh ⋯,Yh ⋯,?_⟩;refine Dr (fun b3=>bad (by unfold badI;omega) h) (fun b3=>?_);rw[if_neg (by unfold badI;omega)] at h;refine⟨_,rfl,_,rfl,p,a.zlm,dx,_,_,rfl,hp,T.zl1,T.zmb,W2,d,_,rfl,DGet.k (k:=inl n) hd,_,rfl,?_⟩;rw[en.isSome nd];refine itD (fun hn=>?_) (fun hn=>?_)
 ·rw[if_pos hn] at h;exact⟨_,rfl,.inl ⟨_,rfl,sn⟩,fun z=>⟨sz1,h⟩⟩
 rw[if_neg hn] at h;refine⟨_,rfl,p,a.zlm,dx,_,_,rfl,hp,T.zl1,T.zmb,W2,d,_,rfl,hd,_,_,rfl,rfl,_,rfl,?_⟩;rw[en.length];refine itD (fun hz=>?_) (fun hz=>?_)
 ·rw[if_pos ⋯] at h;exact⟨.inl ⟨_,rfl,Yh ⋯⟩,fun z=>⟨sz1,h⟩⟩
 rw[if_neg ⋯] at h;exact h
abbrev Wl:Stmt:=Z3 (top 40) 2
theorem Rr:Zl ["self","number"] ["self","number"] (Zj Wl):=fnS
theorem Rt(F:Fun K "check_known" "Roster.check_known" Wl f fd)(T:Tx K mg a):FnOk P w K mg base (CX1 P w) 1 f fd ["self","number"] (Sw (ca a)):=by
 refine F.okX Rr ⋯ fun _ _ _ _ H _ Q E hr h=>?_;obtain⟨p,d,R,n,rfl,RA,sn,h⟩:=h;have hu:=Wq hr;refine⟨_,(Zf (Z5 (Tr (N1 hu (pv 1) (Zq (K:=K) rfl (pv 0) rfl)))
  (Zf (Xh Xg rfl T.zp4 rfl (Za (Vc (Z0 (Xx ⋯) (Z0 (Wz (pv 1)) (Z0 (Xx ⋯) Vb))) ⋯) Zd)))
  Zt)),?_⟩
 obtain⟨⟨dx,kvs,hp,hd,en⟩,nd⟩:=id RA;refine⟨_,rfl,_,rfl,p,a.zlm,dx,_,_,rfl,hp,T.zl1,T.zmb,W2,d,_,rfl,DGet.k (k:=inl n) hd,_,rfl,?_⟩;rw[en.isSome nd];by_cases hn:n∈R.map (·.1)
 ·rw[ztf hn];rw[if_pos hn] at h;exact iteF h
 ·rw[zth hn];rw[if_neg hn] at h;exact iteT ⟨_,rfl,.inl ⟨_,rfl,sn⟩,fun z=>⟨sz1,h⟩⟩
abbrev S8:Stmt:=Z3 (top 40) 3
theorem Hn:Zl ["self","number","grade","club"] ["self","number","grade","club"] (Zj S8):=fnS
theorem Ho(F:Fun K "add" "Roster.add" S8 f fd)(T:Tx K mg a)(zl4:Zv P w K mg base a.zlm "check_new" 2 ["self","number","grade","club"] (P6 (ca a))):FnOk P w K mg base (CX1 P w) 3 f fd ["self","number","grade","club"] (zey (ca a)):=by
 refine F.okX Hn ⋯ fun _ _ _ _ H _ Q E hr h=>?_;obtain⟨p,d,R,n,g,c,rfl,RA,sm,hl,h⟩:=h;have hu:=Wq hr;refine⟨_,(Zb (Z6 (Xy (pv 0) T.zl1 zl4 (hr.mono ⋯) Zk (Za (pv 1) (Za (pv 2) (Za (pv 3) Zd)))))
 (Zf (Yn hu (Zq (K:=K) rfl (pv 0) rfl) (pv 1) (Z7 (Za (pv 2) (Za (pv 3) Zd))) rfl))),?_⟩
 obtain⟨⟨dx,kvs,hp,hd,en⟩,nd⟩:=id RA;refine⟨_,rfl,p,dx,_,rfl,hp,Xi.no ⋯,_,rfl,_,rfl,_,rfl,p,d,R,n,g,c,rfl,RA,sm,?_⟩;refine it2 h (fun _ z=>z) fun hb h=>it2 h (fun _ z=>z) fun hn h=>it2 h (fun _ z=>z) fun hz h=>?_;refine⟨_,rfl,_,rfl,sz2,fun t ht=>?_⟩;have ntp:p≠t:=Zh hp ht;have ntd:d≠t:=Zh hd ht;have npd:p≠d:=Yo hp hd (by intro z;cases z);refine⟨_,rfl,p,a.zlm,dx,_,_,rfl,(by rw[Zi ntp];exact hp),T.zl1,T.zmb,W2,_,rfl,d,_,rfl,DPut.k (k:=inl n) (by rw[Zi ntd];exact hd) (Sg (by rw[en.length];exact hl)),?_⟩;rw[zck (en.val_none hn)];refine h _ ⟨⟨dx,_,(by rw[Zi npd,Zi ntp];exact hp),Zc,?_⟩,?_⟩ fun b o e hb=>(by rw[Zi hb,Zi (Zh e ht)];exact e)
 ·refine W0.snoc (by rw[Zi (Ne.symm ntd)];exact Zc) (en.mono fun b xs e=>?_);rw[Zi (Yo e hd (by intro z;cases z)),Zi (Zh e ht)];exact e
 ·rw[zti];exact F5 nd hn
abbrev Ui:Stmt:=Z3 (top 40) 4
theorem Mm:Zl ["self","number"] ["self","number"] (Zj Ui):=fnS
theorem Mn(F:Fun K "strike" "Roster.strike" Ui f fd)(T:Tx K mg a):FnOk P w K mg base (CX1 P w) 1 f fd ["self","number"] (D7 (ca a)):=by
 refine F.okX Mm ⋯ fun _ _ _ _ H _ Q E hr h=>?_;obtain⟨p,d,R,n,g,c,rfl,RA,h⟩:=h;refine⟨_,(Zf (Z6 (zd0 (Zq (K:=K) rfl (pv 0) rfl) (pv 1) ⟨rfl,rfl,rfl,rfl⟩))),?_⟩;obtain⟨⟨dx,kvs,hp,hd,en⟩,nd⟩:=id RA;have npd:p≠d:=Yo hp hd (by intro z;cases z);obtain⟨t,e1,e2⟩:=en.val_some nd (show (n,g,c)∈R++[(n,g,c)] by simp);have hn:n∉R.map (·.1):=by
  rw[zti,zvl] at nd;exact fun z=>nd.2.2 n z n (by simp) rfl
 refine⟨_,rfl,p,a.zlm,dx,_,_,rfl,hp,T.zl1,T.zmb,W2,d,rfl,.inl ⟨kvs,.inl hd⟩,_,rfl,kvs,inl n,_,hd,rfl,e1,?_⟩;refine h _ ⟨⟨dx,_,(by rw[Zi npd];exact hp),Zc,(en.unsnoc hn).mono fun b xs e=>?_⟩,?_⟩ fun b o e hb=>(by rw[Zi hb];exact e)
 ·rw[Zi (Yo e hd (by intro z;cases z))];exact e
 ·rw[zti,zvl] at nd;exact nd.1
abbrev Vz:Stmt:=Z3 (top 40) 6
theorem Nh:Zl ["self"] ["self"] (Zj Vz):=fnS
theorem Ni(F:Fun K "numbers" "Roster.numbers" Vz f fd)(T:Tx K mg a):FnOk P w K mg base (CX1 P w) 1 f fd ["self"] (K7 (ca a)):=by
 refine F.okX Nh ⋯ fun _ _ _ _ H _ Q E hr h=>?_;obtain⟨p,d,R,rfl,RA,h⟩:=h;refine⟨_,(Zf (Zm (Yj (B9 rfl) (by rfl) T.zms PyProof.Rows.boot_list (Za (Zq (K:=K) rfl (pv 0) rfl) Zd)))),?_⟩;obtain⟨⟨dx,kvs,hp,hd,en⟩,nd⟩:=id RA;refine⟨_,rfl,p,a.zlm,dx,_,_,rfl,hp,T.zl1,T.zmb,W2,d,kvs,rfl,.inl hd,fun l hl=>?_⟩;rw[en.keys];exact h l hl
abbrev U5:Stmt:=Z3 (top 40) 7
theorem L8:Zl ["self","number"] ["self","number"] (Zj U5):=fnS
theorem L9(F:Fun K "entry" "Roster.entry" U5 f fd)(T:Tx K mg a)(zlx:Zv P w K mg base a.zlm "check_known" 1 ["self","number"] (Sw (ca a))):FnOk P w K mg base (CX1 P w) 2 f fd ["self","number"] (D8 (ca a)):=by
 refine F.okX L8 ⋯ fun _ _ _ _ H _ Q E hr h=>?_;obtain⟨p,d,R,n,rfl,RA,sn,h1,h2⟩:=h;have hu:=Wq hr;refine⟨_,(Zb (Z6 (Xy (pv 0) T.zl1 zlx (hr.mono ⋯) Zk (Za (pv 1) Zd)))
 (Zf (Zm (pD hu (Zq (K:=K) rfl (pv 0) rfl) (pv 1))))),?_⟩
 obtain⟨⟨dx,kvs,hp,hd,en⟩,nd⟩:=id RA;refine⟨_,rfl,p,dx,_,rfl,hp,Xi.no ⋯,_,rfl,p,d,R,n,rfl,RA,sn,?_⟩;refine Dr (fun hn=>?_) (fun hn=>h1 hn);obtain⟨⟨m,g,c⟩,q,rfl⟩:=ztk.mp hn;obtain⟨t,e1,e2⟩:=en.val_some nd q;exact⟨_,rfl,p,a.zlm,dx,_,_,rfl,hp,T.zl1,T.zmb,W2,_,rfl,d,_,rfl,(by rw[<- e1];exact DGet.k (k:=inl m) hd),h2 g c t q e2⟩
abbrev Uj:Stmt:=Z3 (top 40) 10
theorem Mo:Zl ["self","number"] ["self","number"] (Zj Uj):=fnS
theorem Mp(F:Fun K "person" "Roster.person" Uj f fd)(T:Tx K mg a)(zob:Zv P w K mg base a.zlm "entry" 2 ["self","number"] (D8 (ca a))):FnOk P w K mg base (CX1 P w) 3 f fd ["self","number"] (D9 (ca a)):=by
 refine F.okX Mo ⋯ fun _ _ _ _ H _ Q E hr h=>?_;obtain⟨p,d,R,n,rfl,RA,sn,h1,h2⟩:=h;refine⟨_,(Zf (Zm (Zp (Ca (K:=K) rfl) (Z7 (Za (pv 1) Zd)) (Xy (pv 0) T.zl1 zob (hr.mono ⋯) Zk (Za (pv 1) Zd))))),?_⟩;obtain⟨⟨dx,kvs,hp,hd,en⟩,nd⟩:=id RA;refine⟨_,rfl,sz1,fun t1 ht1=>?_⟩;have s1:=Ze (o:=.tup [.int n]) ht1;have q1:upd H t1 (.tup [.int n]) t1=some (.tup [.int n]):=Zc;generalize upd H t1 (.tup [.int n])=H1 at s1 q1;refine⟨_,rfl,p,dx,_,rfl,s1 _ _ hp,Xi.no ⋯,_,rfl,p,d,R,n,rfl,RA.same s1,sn,fun hn=>h1 hn H1 s1,fun g c t q ht=>?_⟩;refine⟨t1,t,_,_,rfl,rfl,SqT.of q1,SqT.of ht,by simp,by show 1+2<=sizeLine;exact sz3,fun z=>absurd z (by simp),fun _ t2 ht2=>?_⟩;exact h2 g c t2 _ q Zc (s1.trans (Ze ht2)) (s1.free ht2)
abbrev J1:Stmt:=top 4
theorem zc6:Zl ["people","match","out","ledger","rest"] ["people","match","out","ledger","rest"] (Zj J1):=fnS
theorem zc7(F:Fun K "takers" "takers" J1 f fd)(T:Tx K mg a)(zpz:Z4 P w K mg base "reasons" 3 ["referee","match","out","ledger","rest"] (G1 K a.zll)):FnOk P w K mg base (CX1 P w) 4 f fd ["people","match","out","ledger","rest"] (D2 K a.zll):=by
 refine F.okX zc6 ⋯ fun _ _ _ _ H _ Q E hr h=>?_;obtain⟨lp,lo,tm,p,lr,ld,Rs,ts,Ms,os,h,gu,d,rest,rfl,hp,tl,ho,hoo,ht,LA,hl,hq⟩:=h;refine⟨_,(Zf (Zm (Vh rfl (cT ["match","ledger","rest","out"] [1,3,4,2]) (Yd (K:=K) rfl (pv 0)) (fun _ _ _ _ _=>Qw (Ts (Gy (K:=K) rfl (zao zpz (hr.mono ⋯) zan rfl (Za (pv 0) (Za (pv 1) (Za (Wo (Su (K:=K) rfl) (pI (iU K) (pv 0) Zg) (pv 4) (by with_unfolding_all rfl)) (Za (pv 2) (Za (pv 3) Zd)))))) (fun _=>rfl)))) (fun _ _ _ _ _=>(pI (iU K) (pv 0) Zg))))),?_⟩;have hlen:ts.length=Ms.length:=by rw[tl.length,zta]
 refine⟨_,rfl,lp,rfl,⟨_,SqL.of hp⟩,?_⟩;refine Xw (K:=K) (a:=lp) (xs:=ts) (fun i ys H'=>Same H H'/\ys=((Ms.take i).filter (R8 Rs h gu d os rest)).map fun m=>V.int m.1) ⟨Same.refl _,rfl⟩ (fun i ys H' _ ⟨s,_⟩=>SqL.of (s _ _ hp)) (by rw[hlen];exact szN hl) (fun i ys H' ⟨_,e⟩=>by rw[e,zta];exact zts (zuf _ _) (zul _ _)) ?_ ?_
 ·rintro i x ys H' hx ⟨sm,rfl⟩;obtain⟨t,m,rfl,hm,htt⟩:=K3 tl hx;have htt':=sm _ _ htt;refine⟨_,rfl,_,rfl,_,rfl,t,_,_,_,rfl,rfl,SqT.of htt',(show atI (pV m) 0=some _ from rfl),_,rfl,lo,os,rfl,.inl (SqL.of (sm _ _ ho)),rfl,zva.mpr (fun y hy=>zeh (hoo y hy)),_,rfl,_,rfl,t,tm,p,lr,ld,Rs,m.1,m.2.1,m.2.2,h,gu,d,rest,inV (.int m.1) os,rfl,htt',sm _ _ ht,LA.same sm,fun l H2 hl2 s2 _=>?_⟩;refine⟨_,.inl ⟨_,SqL.of hl2,rfl⟩,?_⟩;have e:((whyS Rs m.1 m.2.1 m.2.2 h gu d (inV (.int m.1) os) rest).map V.str).isEmpty=R8 Rs h gu d os rest m:=by unfold R8;rw[List.isEmpty_map]
  have hys:∀ ys',((Ms.take (i+1)).filter (R8 Rs h gu d os rest)).map (fun m=>V.int m.1)=((Ms.take i).filter (R8 Rs h gu d os rest)).map (fun m=>V.int m.1)++ys'↔ys'=if R8 Rs h gu d os rest m then [V.int m.1] else []:=fun ys'=>by
   rw[zua,hm,zu0,zti,zvm];cases q:R8 Rs h gu d os rest m<;>simp[q,eq_comm]
  dsimp only;rw[e];refine itB (fun hb=>?_) (fun hb=>?_)
  ·rw[Bool.not_not] at hb;refine⟨_,rfl,t,_,_,_,rfl,rfl,SqT.of (s2 _ _ htt'),(show atI (pV m) 0=some _ from rfl),sm.trans s2,?_⟩;exact((hys [V.int m.1]).mpr (by rw[hb];rfl)).symm
  ·rw[Bool.not_not] at hb;refine⟨sm.trans s2,?_⟩;have:=(hys []).mpr (by rw[hb];rfl);rw[zvf] at this;exact this.symm
 ·rintro ys H' ⟨sm,rfl⟩ l hl';rw[hlen,ztq];exact hq l _ Zc (sm.trans (Ze hl')) (sm.free hl')
abbrev U6:Stmt:=top 42
theorem Wx:Zl ["given","taken","place","number"] ["given"] (Zj U6):=fnS
theorem Ka(F:Fun K "places_taken" "places_taken" U6 f fd)(T:Tx K mg a):FnOk P w K mg base (CX1 P w) 1 f fd ["given"] (zaz K):=by
 refine F.okX Wx ⋯ fun _ _ _ _ H _ Q E hr h=>?_;obtain⟨b,gs,rfl,hb,ho,hinj,hl,h⟩:=h;have hu:=Wq hr;refine⟨_,(Zb (pS 1 Wx.nd Kw)
 (Zb (Xf PassesOwn.leaving rfl (zgm (K:=K) rfl rfl T.znt (Za (pv 0) Zd)) (Wd (K:=K) (n:=2) rfl rfl (Zy (pN 2 Wx.nd) (Zy (pN 3 Wx.nd) Wb)))
  (Zf (Z5 (Zn W9 (pv 3) Yz (Zu _))
   (Zf (Yn hu (pv 1) (pv 3) (pv 2) rfl))
   Zt)))
 (Zf (Zm (pv 1))))),?_⟩
 have line:100<sizeLine:=by rw[sizeLine_eq];decide
 intro d hd
 let jv1:Nat->L2.St->Hp->Prop:=fun i σ' H'=>(∃ u v,σ'=[some (.ref b),some (.ref d),u,v])/\Same H H'/\∃ kvs,H' d=some (.dK kvs)/\kvs.length<=i/\(∀ (n:Int) (j:Nat),j<i->gs[j]?=some (.int n)->valV kvs (inl n:Key)=some (.int (j:Nat)))/\(∀ n:Int,(∀ j:Nat,j<i->gs[j]?≠some (.int n))->valV kvs (inl n:Key)=none)
 refine⟨_,rfl,b,rfl,⟨gs,SqL.of (Ze hd _ _ hb)⟩,zen (xs:=gs) jv1
  ⟨⟨none,none,rfl⟩,Ze hd,[],Zc,ztm _,fun n j hj=>absurd hj (zvr _),fun n _=>rfl⟩ (fun i σ' H' hi p=>SqL.of (p.2.1 _ _ hb)) (fun i x t σ' H' hx p htn=>?_) (fun σ' H' p=>?_)⟩
 ·obtain⟨⟨u,v,rfl⟩,hs,kvs,hk,hkl,h1,h2⟩:=p;have s2:=hs.trans (Ze (o:=.tup [.int (i:Nat),x]) htn);have hk2:=Ze (o:=.tup [.int (i:Nat),x]) htn _ _ hk;refine⟨t,_,rfl,SqT.of Zc,rfl,_,_,rfl,_,_,rfl,rfl,?_⟩;generalize upd H' t (.tup [.int (i:Nat),x])=H2 at s2 hk2;have hi:i<gs.length:=(ztd.mp hx).1;refine Vd (b:=!decide (x=.non)) (fun Q k=>⟨_,rfl,rfl,_,rfl,k⟩) ?_;rcases ho x (ztn hx) with rfl|⟨n,rfl⟩
  ·refine iteF (Zz ⟨⟨_,_,rfl⟩,s2,kvs,hk2,by omega,fun n j hj hg=>?_,fun n hn=>h2 n fun j hj=>hn j ⋯⟩);by_cases e:j=i
   ·subst e;rw[hx] at hg;cases hg
   ·exact h1 n j ⋯ hg
  ·refine iteT ⟨_,rfl,_,rfl,_,rfl,d,_,rfl,DPut.k (k:=inl n) hk2 ⋯,⟨_,_,rfl⟩,?_,_,Zc,?_,fun m j hj hg=>?_,fun m hm=>?_⟩
   ·exact Z8 hd s2
   ·exact zts (Y7 kvs _ _) ⋯
   ·rw[Va];by_cases e:j=i
    ·subst e;rw[hx] at hg;cases hg;rw[if_pos rfl]
    ·have hne:¬ ((inl m:Key)=inl n):=fun z=>by
      rw[inl.inj z] at hg;exact e (hinj j i n hg hx)
     rw[if_neg hne];exact h1 m j ⋯ hg
   ·have hne:¬ ((inl m:Key)=inl n):=fun z=>by
     rw[inl.inj z] at hm;exact hm i ⋯ hx
    rw[Va,if_neg hne];exact h2 m fun j hj=>hm j ⋯
 ·obtain⟨⟨u,v,rfl⟩,hs,kvs,hk,hkl,h1,h2⟩:=p;exact⟨_,rfl,h d kvs H' hk ⟨fun n j hj=>h1 n j (ztd.mp hj).1 hj,fun n hn=>h2 n fun j _=>hn j⟩ hs hd⟩
abbrev S9:Stmt:=top 43
theorem Xs:Zl ["may","taken","start","into","waiting","done","place","number"] ["may","taken","start"] (Zj S9):=fnS
theorem Hq(F:Fun K "steps_into" "steps_into" S9 f fd)(T:Tx K mg a):FnOk P w K mg base (CX1 P w) 1 f fd ["may","taken","start"] (zet K):=by
 refine F.okX Xs ⋯ fun _ _ _ _ H _ Q E hr h=>?_;obtain⟨l,d,ls,rows,kvs,gs,p,rfl,hl,il,hrl,hd,tk,FP,hp,h⟩:=h;have hu:=Wq hr;refine⟨_,(Zb (pS 3 Xs.nd (zaf (V9 (pv 2) Yz Fw) rfl rfl (by simp) ⋯))
 (Zb (pS 4 Xs.nd (Z9 (Za (pv 2) Zd)))
 (Zb (pS 5 Xs.nd Zg)
 (Zb (Dc PassesOwn.leaving (Zn zac (pv 5) (Zs (cL K) (by rfl) T.zly PySem.boot_len (Za (pv 4) Zd)) (Zu _))
  (Zb (pS 6 Xs.nd (pI (iL K) (pv 4) (pv 5)))
  (Zb (pS 5 Xs.nd (Zp Yk (pv 5) Zg))
  (Zf (Xf PassesOwn.leaving rfl (Yd (K:=K) rfl (pI (iL K) (pv 0) (pv 6))) (pN 7 Xs.nd)
   (Zf (Z5 (PW.pt (Sn (Tr (Pt hu (pv 7) (pv 1))) (Td (Tr (N1 hu (pD hu (pv 1) (pv 7)) (pv 3))))))
    (Zb (Yn hu (pv 3) (pD hu (pv 1) (pv 7)) (Z7 (Za (pv 6) (Za (pv 7) Zd))) rfl)
    (Zf (Yv (pv 4) (pD hu (pv 1) (pv 7)))))
    Zt)))))))
 (Zf (Zm (pv 3))))))),?_⟩
 show let y1:TS:=_;let y2:TS:=Zw _ y1;let y3:TS:=_;let y4:TS:=Zw (zdj _ (Zw _ y2)) y3;let y5:TS:=Zw _ y4;let y6:TS:=Zw _ y5;Zw _ y6 _ _ _;intro y1 y2 y3 y4 y5 y6;have line0:200<sizeLine:=by rw[sizeLine_eq];decide
 intro ld hld;refine⟨_,rfl,Zc,[(inl (p:Int),.non)],rfl,(by show 1<=15;decide),?_⟩;have s0:Same H (upd (upd H ld (.dK [])) ld (.dK (Ss [] [(inl (p:Int),.non)]))):=Z8 hld (Ze hld);have q0:upd (upd H ld (.dK [])) ld (.dK (Ss [] [(inl (p:Int),.non)])) ld=some (.dK [((inl (p:Int):Key),V.non)]):=Zc;generalize upd (upd H ld (.dK [])) ld (.dK (Ss [] [(inl (p:Int),.non)]))=H1 at s0 q0;refine⟨_,rfl,sz1,fun ln hln=>?_⟩;have s1:=Ze (o:=.lst [.int p]) hln;have e1:upd H1 ln (.lst [.int p]) ln=some (.lst (Rm [p])):=Zc;have q1:=s1 _ _ q0;have s01:=s0.trans s1;have nln:ld≠ln:=Zh q0 hln;have fln:H ln=none:=s0.free hln;generalize upd H1 ln (.lst [.int p])=H2 at s1 e1 q1 s01;have hbound:∀ line:List Nat,line.Nodup->(∀ c∈line,c<rows.length)->line.length<=rows.length:=fun line nd hc=>by
  have:=nd.length_le_of_subset (l₂:=List.range rows.length) fun c hcc=>zt5.mpr (hc c hcc);rw[zuo] at this;exact this
 refine⟨fun m σ' H'=>∃ (line:List Nat) (dep:Nat->Nat) (fr:Nat->Option (Nat×Int)) (into:List (Key×V)) (dn:Nat) (v6 v7:Option V),m=rows.length-dn/\dn<=line.length/\σ'=[some (.ref l),some (.ref d),some (.int p),some (.ref ld),some (.ref ln),some (.int (dn:Nat)),v6,v7]/\Same H H'/\H' ld=some (.dK into)/\H' ln=some (.lst (Rm line))/\Xr H' into line fr/\Bfs rows gs p line dep/\Done rows gs line dep dn/\Uy rows gs p line dep fr/\(∀ q∈line,q<rows.length)/\∀ here,line[dn]?=some here->∀ x∈line,dep x<=dep here+1,
  ⟨_,[p],fun _=>0,fun _=>none,_,0,_,_,rfl,zt4 _,rfl,s01,q1,e1,Ag _ _,zcf rows gs p,fun i q hi=>absurd hi (zvr _),Ah,by simpa using hp,fun here _ x _=>zt4 _⟩,?_⟩
 rintro m σ Ha ⟨line,dep,fr,into,dn,v6,v7,rfl,hdn,rfl,sa,hda,hna,io,B,Dn,fo,hlt,near⟩;have hll:=hbound _ B.nodup hlt;have hnl:(Rm line).length=line.length:=by unfold Rm;rw[zta]
 refine⟨_,rfl,_,rfl,ln,_,rfl,.inl (SqL.of hna),_,_,rfl,rfl,_,rfl,?_⟩;rw[hnl];by_cases hlt2:dn<line.length
 ·rw[ztf (show ((dn:Nat):Int)<(line.length:Nat) by omega)];refine iteT ?_;obtain⟨here,hh⟩:∃ here,line[dn]?=some here:=⟨_,ztb hlt2⟩;have hhm:=ztn hh;have hhere:=hlt here hhm;have hhv:(Rm line)[dn]?=some (.int (here:Nat)):=by unfold Rm;rw[ztj,hh];rfl
  refine⟨fun σ' H'=>∃ (line:List Nat) (dep:Nat->Nat) (fr:Nat->Option (Nat×Int)) (into:List (Key×V)) (v6 v7:Option V),dn+1<=line.length/\σ'=[some (.ref l),some (.ref d),some (.int p),some (.ref ld),some (.ref ln),some (.int ((dn+1:Nat):Int)),v6,v7]/\Same H H'/\H' ld=some (.dK into)/\H' ln=some (.lst (Rm line))/\Xr H' into line fr/\Bfs rows gs p line dep/\Done rows gs line dep (dn+1)/\Uy rows gs p line dep fr/\(∀ q∈line,q<rows.length)/\∀ here,line[dn+1]?=some here->∀ x∈line,dep x<=dep here+1,
   fun σ' H' ⟨line,dep,fr,into,v6,v7,a1,a2,a3,a4,a5,a6,a7,a8,a9,a10,a11⟩=>⟨rows.length-(dn+1),by omega,line,dep,fr,into,dn+1,v6,v7,rfl,a1,a2,a3,a4,a5,a6,a7,a8,a9,a10,a11⟩,?_⟩
  have hr':rows[here]?=some (rows[here]'hhere):=ztb hhere;generalize (rows[here]'hhere)=r at hr';obtain⟨lr,e2,e3⟩:=il.getR hr';have hl':(ls.map V.ref)[here]?=some (.ref lr):=by rw[ztj,e2];rfl
  refine⟨_,rfl,_,rfl,ln,_,_,_,rfl,rfl,SqL.of hna,Yf hhv,?_⟩;refine⟨_,rfl,_,_,rfl,rfl,?_⟩;refine⟨_,rfl,_,rfl,l,_,_,_,rfl,rfl,SqL.of (sa _ _ hl),Yf hl',lr,rfl,⟨_,SqL.of (sa _ _ e3)⟩,?_⟩
  let jv2:Nat->L2.St->Hp->Prop:=fun j σ' H'=>∃ (line:List Nat) (dep:Nat->Nat) (fr:Nat->Option (Nat×Int)) (into:List (Key×V)) (v7:Option V),σ'=[some (.ref l),some (.ref d),some (.int p),some (.ref ld),some (.ref ln),some (.int ((dn+1:Nat):Int)),some (.int (here:Nat)),v7]/\Same H H'/\H' ld=some (.dK into)/\H' ln=some (.lst (Rm line))/\Xr H' into line fr/\Bfs rows gs p line dep/\Done rows gs line dep dn/\Uy rows gs p line dep fr/\(∀ q∈line,q<rows.length)/\line[dn]?=some here/\(∀ x∈line,dep x<=dep here+1)/\∀ n∈r.take j,∀ q':Nat,gs[q']?=some (.int n)->q'∈line
  refine X6 (K:=K) (a:=lr) (xs:=r.map V.int) jv2
   ⟨line,dep,fr,into,_,rfl,sa,hda,hna,io,B,Dn,fo,hlt,hh,near here hh,by simp⟩ (fun j σ' H' _ ⟨_,_,_,_,_,_,z,_⟩=>SqL.of (z _ _ e3)) ?_ ?_
  ·rintro j y σ' Hx hy ⟨line,dep,fr,into,w7,rfl,sx,hdx,hnx,io,B,Dn,fo,hlt,hh,near,pr⟩;have hj:j<r.length:=by have:=(ztd.mp hy).1;rw[zta] at this;exact this
   have hhm:=ztn hh;have hrj:r[j]?=some (r[j]'hj):=ztb hj;have etk:r.take (j+1)=r.take j++[r[j]'hj]:=zub hj;generalize (r[j]'hj)=n at hrj etk;have ey:y=.int n:=by rw[ztj,hrj] at hy;exact(Option.some.inj hy).symm
   subst ey;have hnr:=ztn hrj;have hll:=hbound _ B.nodup hlt;have prev:(∀ q':Nat,gs[q']?=some (.int n)->q'∈line)->∀ m∈r.take (j+1),∀ q':Nat,gs[q']?=some (.int m)->q'∈line:=fun k m hm=>by
    rw[etk] at hm;rcases ztl.mp hm with z|z
    ·exact pr m z
    ·rw[zte.mp z];exact k
   rcases tk.iff n with ⟨q',hq',hv⟩|⟨hno,hv⟩
   ·by_cases hin:q'∈line
    ·refine Vd (b:=false) (fun Q k=>?_) (iteF (Zz ⟨line,dep,fr,into,_,rfl,sx,hdx,hnx,io,B,Dn,fo,hlt,hh,near,prev fun q2 h2=>by rw[FP.inj q2 q' n h2 hq'];exact hin⟩));refine⟨_,rfl,_,rfl,d,_,rfl,DGet.k (k:=inl n) (sx _ _ hd),_,rfl,?_⟩;rw[hv];refine iteT ⟨_,rfl,_,rfl,d,_,rfl,hv▸DGet.k (k:=inl n) (sx _ _ hd),_,rfl,ld,_,rfl,DGet.k (k:=inl (q':Int)) hdx,_,rfl,?_⟩;rw[(io.has q').mpr hin];exact k
    ·have hnin:(valV into (inl (q':Int):Key)).isSome=false:=by
      rw[Bool.eq_false_iff];exact fun z=>hin ((io.has q').mp z)
     have hq'l:q' < rows.length:=by
      have:=(ztd.mp hq').1;rw[FP.len] at this;exact this
     have ha:adjN rows gs here n q':=⟨⟨r,hr',hnr⟩,hq'⟩;obtain⟨B',old,all⟩:=B.app (dn:=dn) hh near ha hin;refine Vd (b:=true) (fun Q k=>?_) (iteT ?_)
     ·refine⟨_,rfl,_,rfl,d,_,rfl,DGet.k (k:=inl n) (sx _ _ hd),_,rfl,?_⟩;rw[hv];refine iteT ⟨_,rfl,_,rfl,d,_,rfl,hv▸DGet.k (k:=inl n) (sx _ _ hd),_,rfl,ld,_,rfl,DGet.k (k:=inl (q':Int)) hdx,_,rfl,?_⟩;rw[hnin];exact k
     ·refine⟨_,rfl,_,rfl,sz2,fun t ht=>?_⟩;have t1:=Ze (o:=.tup [.int (here:Nat),.int n]) ht;have st:=sx.trans t1;have hdt:=t1 _ _ hdx;have hnt:=t1 _ _ hnx;have et:upd Hx t (.tup [.int (here:Nat),.int n]) t=some (.tup [.int (here:Nat),.int n]):=Zc;have iot:=io.same t1;generalize upd Hx t (.tup [.int (here:Nat),.int n])=Ht at t1 st hdt hnt et iot;refine⟨_,rfl,_,rfl,_,rfl,d,_,rfl,hv▸DGet.k (k:=inl n) (st _ _ hd),ld,_,rfl,DPut.k (k:=inl (q':Int)) hdt ?_,?_⟩
      ·have:=io.len;omega
      have sd:Same H (upd Ht ld (.dK (putK into (inl (q':Int)) (.ref t)))):=Z8 hld st;have ed:upd Ht ld (.dK (putK into (inl (q':Int)) (.ref t))) ld=some (.dK (putK into (inl (q':Int)) (.ref t))):=Zc;have en:upd Ht ld (.dK (putK into (inl (q':Int)) (.ref t))) ln=some (.lst (Rm line)):=by rw[Zi (Ne.symm nln)];exact hnt
      have iod:Xr (upd Ht ld (.dK (putK into (inl (q':Int)) (.ref t)))) (putK into (inl (q':Int)) (.ref t)) (line++[q']) (Le fr q' (here,n)) :=
       (iot.app hin et).mono fun c xs e=>by rw[Zi (Yo e hdt (fun z=>nomatch z))];exact e
      generalize upd Ht ld (.dK (putK into (inl (q':Int)) (.ref t)))=Hd at sd ed en iod;have hsz:(Rm line).length<sizeLine:=by unfold Rm;rw[zta];omega
      refine⟨_,rfl,ln,_,rfl,en,_,rfl,_,rfl,d,_,rfl,hv▸DGet.k (k:=inl n) (sd _ _ hd),_,en,hsz,line++[q'],Ve dep q' (dep here+1),Le fr q' (here,n),putK into (inl (q':Int)) (.ref t),_,rfl,Z8 fln sd,?_,?_,?_,B',Dn.app ?_ ⟨_,rfl⟩ old,fo.app hin B.memp hhm ha,?_,?_,?_,?_⟩
      ·rw[Zi nln];exact ed
      ·rw[Zc];unfold Rm;rw[zti];rfl
      ·exact iod.mono fun c xs e=>by rw[Zi (Yo e en (fun z=>nomatch z))];exact e
      ·have:=(ztd.mp hh).1;omega
      ·intro q hq;rcases ztl.mp hq with z|z
       ·exact hlt q z
       ·rw[zte.mp z];exact hq'l
      ·rw[zt9 (ztd.mp hh).1];exact hh
      ·intro x hx;rw[old here hhm];exact all x hx
      ·intro m hm q2 h2;rw[etk] at hm;rcases ztl.mp hm with z|z
       ·exact zt7 _ (pr m z q2 h2)
       ·rw[zte.mp z] at h2;rw[FP.inj q2 q' n h2 hq'];exact ztx _ (zte.mpr rfl)
   ·refine Vd (b:=false) (fun Q k=>?_) (iteF (Zz ⟨line,dep,fr,into,_,rfl,sx,hdx,hnx,io,B,Dn,fo,hlt,hh,near,prev fun q2 h2=>absurd h2 (hno q2)⟩));refine⟨_,rfl,_,rfl,d,_,rfl,DGet.k (k:=inl n) (sx _ _ hd),_,rfl,?_⟩;rw[hv];exact iteF k
  ·rintro σ' Hx ⟨line,dep,fr,into,w7,rfl,sx,hdx,hnx,io,B,Dn,fo,hlt,hh,near,pr⟩;rw[zta,ztq] at pr;have hlt3:=(ztd.mp hh).1;refine⟨line,dep,fr,into,_,_,by omega,rfl,sx,hdx,hnx,io,B,fun i q hi hq n q' ha=>?_,fo,hlt,fun here2 hh2 x hx=>?_⟩
   ·by_cases e:i=dn
    ·rw[e,hh] at hq;cases hq;obtain⟨⟨r2,h1,h2⟩,h3⟩:=ha;rw[hr'] at h1;cases h1;have hm:=pr n h2 q' h3;exact⟨hm,near q' hm⟩
    ·exact Dn i q ⋯ hq n q' ha
   ·have:=B.sorted dn (dn+1) here here2 ⋯ hh hh2;have:=near x hx;omega
 ·rw[zth (show ¬ (((dn:Nat):Int)<(line.length:Nat)) by omega)];refine iteF ⟨_,rfl,?_⟩;have e:dn=line.length:=by omega
  subst e;exact h ld into line dep fr Ha hda io B Dn fo hlt sa hld
abbrev U7:Stmt:=top 44
theorem Rp:Zl ["numbers","taken","number"] ["numbers","taken"] (Zj U7):=fnS
theorem Kb(F:Fun K "free_referee" "free_referee" U7 f fd)(T:Tx K mg a):FnOk P w K mg base (CX1 P w) 1 f fd ["numbers","taken"] (G7 K):=by
 refine F.okX Rp ⋯ fun _ _ _ _ H _ Q E hr h=>?_;obtain⟨l,d,r,kvs,rfl,hl,hd,h⟩:=h;have hu:=Wq hr;refine⟨_,(Zb (Xf PassesOwn.leaving rfl (Yd (K:=K) rfl (pv 0)) (pN 2 Rp.nd)
  (Zf (Z5 (Tr (N1 hu (pv 2) (pv 1)))
   (Zf (Zm (pv 2)))
   Zt)))
 (Zf (Zm Yz))),?_⟩
 let jv3:Nat->L2.St->Hp->Prop:=fun i σ' H'=>(∃ u,σ'=[some (.ref l),some (.ref d),u])/\H'=H/\∀ n∈r.take i,(valV kvs (inl n:Key)).isSome=true
 refine⟨_,rfl,l,rfl,⟨_,SqL.of hl⟩,X6 (xs:=r.map V.int) jv3
  ⟨⟨none,rfl⟩,rfl,by simp⟩ (fun i σ' H' hi p=>by rw[p.2.1];exact SqL.of hl) (fun i x σ' H' hx p=>?_) (fun σ' H' p=>?_)⟩
 ·obtain⟨⟨u,rfl⟩,rfl,hp⟩:=p;have hi:i<r.length:=by have:=(ztd.mp hx).1;rw[zta] at this;exact this
  have e:x=.int (r[i]'hi):=by
   rw[ztj,ztb hi] at hx;exact(Option.some.inj hx).symm
  subst e;refine Vd (b:=!(valV kvs (inl (r[i]'hi):Key)).isSome) (fun Q k=>⟨_,rfl,_,rfl,d,_,rfl,DGet.k (k:=inl (r[i]'hi)) hd,_,rfl,k⟩) ?_;cases hv:valV kvs (inl (r[i]'hi):Key) with
  | none=>exact iteT ⟨_,rfl,h (some (r[i]'hi)) (fun n hn=>by cases hn;exact⟨zue hi,hv⟩) (fun z=>nomatch z)⟩
  | some y =>
    refine iteF (Zz ⟨⟨_,rfl⟩,rfl,fun n hn=>?_⟩);rw[zub hi] at hn;rcases ztl.mp hn with z|z
    ·exact hp n z
    ·rw[zte.mp z,hv];rfl
 ·obtain⟨⟨u,rfl⟩,rfl,hp⟩:=p;rw[zta,ztq] at hp;exact h none (fun n z=>nomatch z) fun _=>hp
abbrev J2:Stmt:=top 45
theorem Q7:Zl ["into","place","number","steps","step"] ["into","place","number"] (Zj J2):=fnS
theorem zc8(F:Fun K "traced" "traced" J2 f fd)(T:Tx K mg a):FnOk P w K mg base (CX1 P w) 1 f fd ["into","place","number"] (D5 K):=by
 refine F.okX Q7 ⋯ fun _ _ _ _ H _ Q E hr h=>?_;obtain⟨t,q,p,w,rows,gs,into,line,dep,fr,rfl,ht,io,fo,d0,hp,hq,hdq,h⟩:=h;have hu:=Wq hr;refine⟨_,(Zb (pS 3 Q7.nd (Z9 (Za (Z7 (Za (pv 1) (Za (pv 2) Zd))) Zd)))
 (Zb (pS 4 Q7.nd (pD hu (pv 0) (pv 1)))
 (Zb (Dc PassesOwn.leaving (Zn W9 (pv 4) Yz (Zu _))
  (Zb (Yv (pv 3) (pv 4))
  (Zf (pS 4 Q7.nd (pD hu (pv 0) (pI (iU K) (pv 4) Zg))))))
 (Zb (Z6 (zd3 PySem.F.plainAttrs_list PySem.F.slot_list_reverse PySem.F.type_list_reverse B6 (pv 3)))
 (Zf (Zm (pv 3))))))),?_⟩
 have line0:200<sizeLine:=by rw[sizeLine_eq];decide
 have get:∀ {H':Hp},Same H H'->∀ k:Nat,DGet H' t (.int (k:Nat)) (valV into (inl (k:Int):Key)):=fun {H'} hs k=>.inl ⟨into,inl (k:Int),ht.imp (hs _ _) (fun ⟨o,e⟩=>⟨o,hs _ _ e⟩),rfl,rfl⟩;have fr0:∀ c∈line,fr c=none->c=p:=fun c hc hf=>by
  by_cases e:c=p
  ·exact e
  ·obtain⟨par,n,h1,_⟩:=fo.2 c hc e;rw[hf] at h1;cases h1
 have some_of:∀ c∈line,∃ v,valV into (inl (c:Int):Key)=some v:=fun c hc=>zuv.mp ((io.has c).mpr hc);refine⟨_,rfl,_,rfl,sz2,fun m hm=>⟨sz1,fun lt hlt=>?_⟩⟩;have s1:=Ze (o:=.tup [.int (q:Nat),oV w]) hm;have e1:upd H m (.tup [.int (q:Nat),oV w]) m=some (.tup (Vt (q,w))):=Zc;generalize upd H m (.tup [.int (q:Nat),oV w])=H1 at s1 e1 hlt;have s2:=Ze (o:=.lst [V.ref m]) hlt;have e2:upd H1 lt (.lst [V.ref m]) lt=some (.lst [V.ref m]):=Zc;have e3:=s2 _ _ e1;have s3:=s1.trans s2;have hltn:H lt=none:=s1.free hlt;generalize upd H1 lt (.lst [V.ref m])=H2 at s2 e2 e3 s3;obtain⟨v0,hv0⟩:=some_of q hq;refine⟨_,rfl,_,rfl,t,v0,rfl,hv0▸get s3 q,?_⟩;refine⟨fun mm σ' H'=>∃ (cur:Nat) (st:List (Nat×Option Int)) (ts:List V) (v:V),mm=dep cur/\cur∈line/\valV into (inl (cur:Int):Key)=some v/\σ'=[some (.ref t),some (.int (q:Nat)),some (oV w),some (.ref lt),some v]/\Same H H'/\H' lt=some (.lst ts)/\TupL H' ts (st.reverse.map Vt)/\Ch rows gs cur st q w/\st.length+dep cur=dep q+1,
  ⟨_,q,[(q,w)],_,v0,rfl,hq,hv0,rfl,s3,e2,.cons e3 .nil,.one q w,by show 1+dep q=_;omega⟩,?_⟩
 rintro mm σ' Ha ⟨cur,st,ts,v,rfl,hc,hv,rfl,sa,hta,htl,hch,hlen⟩;have htsl:ts.length=st.length:=by have:=htl.length;rw[zta,List.length_reverse] at this;exact this
 refine⟨_,rfl,rfl,_,rfl,?_⟩;cases hf:fr cur with
 | none =>
   have hcp:=fr0 cur hc hf;subst hcp;have hvn:=io.none cur hc hf;rw[hv] at hvn;cases hvn;refine iteF ?_;refine⟨_,rfl,.inl ⟨rfl,_,SqL.of hta⟩,lt,ts,rfl,rfl,hta,_,rfl,?_⟩;refine h lt ts.reverse st _ Zc ?_ hch ⋯ (Z8 hltn sa) hltn;have hr:=htl.reverse;rw[<- List.map_reverse,List.reverse_reverse] at hr;exact hr.mono fun c xs e=>by rw[Zi (Yo e hta (fun z=>nomatch z))];exact e
 | some x =>
   obtain⟨par,n⟩:=x;obtain⟨tt,h1,h2⟩:=io.some cur hc par n hf;rw[hv] at h1;cases h1;have hcp:cur≠p:=fun z=>by rw[z,fo.1] at hf;cases hf
   obtain⟨par',n',h3,h4,h5,h6⟩:=fo.2 cur hc hcp;rw[hf] at h3;cases h3;obtain⟨v',hv'⟩:=some_of par h4;refine iteT ?_;refine⟨fun σ' H'=>∃ (st:List (Nat×Option Int)) (ts:List V),σ'=[some (.ref t),some (.int (q:Nat)),some (oV w),some (.ref lt),some v']/\Same H H'/\H' lt=some (.lst ts)/\TupL H' ts (st.reverse.map Vt)/\Ch rows gs par st q w/\st.length+dep par=dep q+1,
    fun σ' H' ⟨st,ts,a1,a2,a3,a4,a5,a6⟩=>⟨dep par,by omega,par,st,ts,v',rfl,h4,hv',a1,a2,a3,a4,a5,a6⟩,?_⟩
   have s4:Same H (upd Ha lt (.lst (ts++[V.ref tt]))):=Z8 hltn sa;refine⟨_,rfl,lt,_,rfl,hta,_,rfl,_,hta,by omega,?_⟩;refine⟨_,rfl,_,rfl,tt,_,_,_,rfl,rfl,SqT.of (s4 _ _ h2),rfl,t,v',rfl,hv'▸get s4 par,(par,some n) :: st,ts++[V.ref tt],rfl,s4,Zc,?_,.step h5 hch,?_⟩
   ·rw[zvk,zti];exact(htl.mono fun c xs e=>by rw[Zi (Yo e hta (fun z=>nomatch z))];exact e).snoc (s4 _ _ h2)
   ·rw[ztt];omega
abbrev Ex:Stmt:=top 46
theorem Qj:Zl ["may","given","place","taken","into","reached","number"] ["may","given","place"] (Zj Ex):=fnS
theorem zfs(F:Fun K "chain" "chain" Ex f fd)(T:Tx K mg a)(zog:Z4 P w K mg base "places_taken" 1 ["given"] (zaz K))(zoz:Z4 P w K mg base "steps_into" 1 ["may","taken","start"] (zet K))(zn7:Z4 P w K mg base "free_referee" 1 ["numbers","taken"] (G7 K))(zpt:Z4 P w K mg base "traced" 1 ["into","place","number"] (D5 K)):FnOk P w K mg base (CX1 P w) 2 f fd ["may","given","place"] (Ed K):=by
 refine F.okX Qj ⋯ fun _ _ _ _ H _ Q E hr h=>?_;obtain⟨l,lg,ls,rows,nu,gs,p,rfl,hl,il,mo,hg,FP,hp,hgp,h⟩:=h;refine⟨_,(Zb (pS 3 Qj.nd (pF zog hr (Za (pv 1) Zd)))
 (Zb (pS 4 Qj.nd (pF zoz hr (Za (pv 0) (Za (pv 3) (Za (pv 2) Zd)))))
 (Zb (Xf PassesOwn.leaving rfl (zgn (pv 4)) (pN 5 Qj.nd)
  (Zb (pS 6 Qj.nd (pF zn7 hr (Za (pI (iL K) (pv 0) (pv 5)) (Za (pv 3) Zd))))
  (Zf (Z5 (Zn W9 (pv 6) Yz (Zu _))
   (Zf (Zm (pF zpt hr (Za (pv 4) (Za (pv 5) (Za (pv 6) Zd))))))
   Zt))))
 (Zf (Zm (pF zpt hr (Za (pv 4) (Za (Zs (zci rfl) (by rfl) T.zpa PyProof.Rows.boot_max (Za (pv 4) Zd)) (Za Yz Zd))))))))),?_⟩
 have hrl:rows.length<=100:=zts mo.few ⋯;refine⟨_,rfl,lg,gs,rfl,hg,FP.one,FP.inj,by rw[FP.len];exact hrl,fun d kvs H1 hd1 tk s1 hdn=>?_⟩;refine⟨_,rfl,_,rfl,_,rfl,l,d,ls,rows,kvs,gs,p,rfl,s1 _ _ hl,il.same s1,hrl,hd1,tk,FP,hp,fun t into line dep fr H2 ht io B Dn fo hlt s2 htn=>?_⟩;have hbound:line.length<=rows.length:=by
  have:=B.nodup.length_le_of_subset (l₂:=List.range rows.length) fun c hcc=>zt5.mpr (hlt c hcc);rw[zuo] at this;exact this
 have hd2:=s2 _ _ hd1;have s02:=s1.trans s2;have hfree:∀ q n,(∃ r,rows[q]?=some r/\n∈r)->valV kvs (inl n:Key)=none->Py rows gs q n:=fun q n hr hv=>⟨hr,fun j hj=>by rw[tk.has n j hj] at hv;cases hv⟩
 have hdep:∀ q∈line,dep q<=100:=fun q hq=>by
  obtain⟨pre,hc,hlp⟩:=fo.back B.d0 (dep q) q q none [(q,none)] rfl hq (.one q none);have nd:=hc.nodup fun k hk=>by
   rw[ztc,hlp];have:=(B.full Dn hk).2;show dep q+1<=k+1;omega
  have hlt':=hc.lt FP hp;have:=nd.length_le_of_subset (l₂:=List.range rows.length) fun x hx=>by
   obtain⟨s,hs,rfl⟩:=ztk.mp hx;exact zt5.mpr (hlt' s hs)
  rw[zta,zuo,ztc,hlp] at this;omega
 have htH:H t=none:=s1.free htn;refine⟨_,rfl,t,into,rfl,ht,fun o=>?_⟩;have e0:upd H2 t (.frz o (.dK into)) t=some (.frz o (.dK into)):=Zc;have s3:Same H (upd H2 t (.frz o (.dK into))):=Z8 htH s02;have hd3:upd H2 t (.frz o (.dK into)) d=some (.dK kvs):=by rw[Zi (Zh hd1 htn)];exact hd2
 have io3:Xr (upd H2 t (.frz o (.dK into))) into line fr:=io.mono fun c xs e=>by rw[Zi (Yo e ht (fun z=>nomatch z))];exact e
 generalize upd H2 t (.frz o (.dK into))=H3 at e0 s3 hd3 io3;have hil:into.length=line.length:=io.len;have key:∀ (i:Nat) (k:Key) (v:V),into[i]?=some (k,v)->∃ q:Nat,line[i]?=some q/\k=inl (q:Int):=fun i k v e=>by
  have:=congrArg (·[i]?) io.keys;simp only[ztj,e,zus] at this;cases hq:line[i]? with
  | none=>rw[hq] at this;cases this
  | some q=>rw[hq] at this;exact⟨q,rfl,Option.some.inj this⟩
 let jv4:Nat->L2.St->Hp->Prop:=fun i σ' H'=>(∃ u v,σ'=[some (.ref l),some (.ref lg),some (.int p),some (.ref d),some (.ref t),u,v])/\H'=H3/\∀ (j q:Nat),j<i->line[j]?=some q->¬ V6 rows gs q
 refine zeq (a:=t) (o:=o) (kvs:=into) jv4 ⟨⟨none,none,rfl⟩,rfl,fun j q hj=>absurd hj (zvr _)⟩ (fun i σ' H' _ p=>by rw[p.2.1];exact e0) (fun i k v σ' H' hk hP=>?_) (fun σ' H' hP=>?_)
 ·obtain⟨⟨u,v',rfl⟩,rfl,hno⟩:=hP;obtain⟨q,hq,rfl⟩:=key i k v hk;have hqm:=ztn hq;have hqr:rows[q]?=some (rows[q]'(hlt q hqm)):=ztb (hlt q hqm);generalize (rows[q]'(hlt q hqm))=r at hqr;obtain⟨lr,e2,e3⟩:=il.getR hqr;have hl':(ls.map V.ref)[q]?=some (.ref lr):=by rw[ztj,e2];rfl
  refine⟨_,rfl,_,rfl,l,_,_,_,rfl,rfl,SqL.of (s3 _ _ hl),Yf hl',_,rfl,lr,d,r,kvs,rfl,s3 _ _ e3,hd3,fun w hw1 hw2=>?_⟩;walk_at "if";refine Vd (b:=!decide (oV w=.non)) (fun Q k=>⟨_,rfl,rfl,_,rfl,k⟩) ?_;cases w with
  | none =>
    refine iteF (Zz ⟨⟨_,_,rfl⟩,rfl,fun j q2 hj hq2=>?_⟩);by_cases e:j=i
    ·rw[e,hq] at hq2;cases hq2;rintro⟨n,⟨r2,h1,h2⟩,h3⟩;rw[hqr] at h1;cases h1;have:=hw2 rfl n h2;rw[tk.not n h3] at this;cases this
    ·exact hno j q2 ⋯ hq2
  | some n =>
    obtain⟨hn1,hn2⟩:=hw1 n rfl;refine iteT ⟨_,rfl,_,rfl,_,rfl,t,q,p,some n,rows,gs,into,line,dep,fr,rfl,.inr ⟨o,e0⟩,io3,fo,B.d0,B.memp,hqm,hdep q hqm,fun lt ts st H4 h1 h2 h3 h4 s4 hltn=>?_⟩;have hf:=hfree q n ⟨r,hqr,hn1⟩ hn2;have Di:Done rows gs line dep i:=fun j x hj=>Dn j x (Nat.lt_trans hj (ztd.mp hq).1);exact h lt ts st q (some n) H4 h1 h2 (Ac B Di hq hno hf h3 h4) (s3.trans s4) (s3.free hltn)
 ·obtain⟨⟨u,v',rfl⟩,rfl,hno⟩:=hP;have hpos:0<line.length:=zvc B.memp;refine⟨_,rfl,⟨_,rfl,t,into,line.map fun q:Nat=>(q:Int),rfl,.inr ⟨o,e0⟩,by rw[io.keys,zu4];rfl,by rw[zta];exact hpos,fun M hM hmax=>?_⟩⟩;obtain⟨e,he,rfl⟩:=ztk.mp hM;refine⟨t,e,p,none,rows,gs,into,line,dep,fr,rfl,.inr ⟨o,e0⟩,io3,fo,B.d0,B.memp,he,hdep e he,fun lt ts st H4 h1 h2 h3 h4 s4 hltn=>?_⟩;refine h lt ts st e none H4 h1 h2 (Ae B Dn (fun q hq=>?_) (fun q hq=>?_) h3 h4) (s3.trans s4) (s3.free hltn)
  ·obtain⟨j,hj,e2⟩:=zuk hq;exact hno j q ⋯ (by rw[ztb hj,e2])
  ·have:=hmax _ (ztk.mpr ⟨q,hq,rfl⟩);omega
abbrev Mq:Stmt:=top 47
theorem Ra:Zl ["given","steps","behind","place","number"] ["given","steps"] (Zj Mq):=fnS
theorem A5(F:Fun K "stepped" "stepped" Mq f fd)(T:Tx K mg a):FnOk P w K mg base (CX1 P w) 1 f fd ["given","steps"] (N9 K):=by
 refine F.okX Ra ⋯ fun _ _ _ _ H _ Q E hr h=>?_;obtain⟨b,c,xs,ts,st,rfl,hb,hc,ht,hst,ho,hl,hls,h⟩:=h;refine⟨_,(Zb (pS 2 Ra.nd (Yj (Xq (K:=K) rfl) (by rfl) T.zms PyProof.Rows.boot_list (Za (pv 0) Zd)))
 (Zb (Xf PassesOwn.leaving rfl (Yd (K:=K) rfl (pv 1)) (Wd (K:=K) (n:=2) rfl rfl (Zy (pN 3 Ra.nd) (Zy (pN 4 Ra.nd) Wb)))
  (Zf (Kt (pv 4) (zh1 (pv 2) (pv 3) zd2))))
 (Zf (Zm (pv 2))))),?_⟩
 have htl:ts.length=st.length:=by have:=ht.length;rw[zta] at this;exact this
 refine⟨_,rfl,b,_,rfl,.inl (SqL.of hb),fun l hln=>?_⟩
 let jv5:Nat->L2.St->Hp->Prop:=fun i σ' H'=>(∃ u v,σ'=[some (.ref b),some (.ref c),some (.ref l),u,v])/\H' l=some (.lst (Yg (st.take i) xs))/\(∀ a o,H a=some o->H' a=some o)
 refine⟨_,rfl,c,rfl,⟨ts,SqL.of (Ze hln _ _ hc)⟩,X6 (xs:=ts) jv5 ⟨⟨none,none,rfl⟩,Zc,Ze hln⟩ (fun i σ' H' hi p=>SqL.of (p.2.2 _ _ hc)) (fun i x σ' H' hx p=>?_) (fun σ' H' p=>?_)⟩
 ·obtain⟨⟨u,v,rfl⟩,hl2,hs⟩:=p;have hi:i<st.length:=by rw[<- htl];exact(ztd.mp hx).1
  obtain⟨t,e1,e2⟩:=zki ht (ztb hi);rw[hx] at e1;cases e1;refine⟨t,_,rfl,SqT.of (hs _ _ e2),rfl,_,_,rfl,_,_,rfl,rfl,?_⟩;have hlen:(Yg (st.take i) xs).length=xs.length:=Xo _ _;have hp:(st[i]'hi).1<xs.length:=hst _ (zue hi);have e3:Yg (st.take (i+1)) xs=(Yg (st.take i) xs).set (st[i]'hi).1 (oV (st[i]'hi).2):=by
   rw[zub hi,G6];rfl
  refine⟨_,rfl,_,rfl,_,rfl,l,_,_,(st[i]'hi).1,rfl,rfl,hl2,(show ixN _ (((st[i]'hi).1:Nat):Int)=some _ by unfold ixN;rw[if_pos ⋯,if_pos ⋯,ztv]),⟨_,_,rfl⟩,?_,fun a o q=>?_⟩
  ·rw[e3];exact Zc
  ·rw[Zi (Zh q hln)];exact hs a o q
 ·obtain⟨⟨u,v,rfl⟩,hl2,hs⟩:=p;rw[htl,ztq] at hl2;exact⟨_,rfl,h l H' hl2 hs hln⟩
abbrev A6:Stmt:=top 49
theorem Ks:Zl ["may","given","place"] ["may"] (Zj A6):=fnS
theorem zg9(F:Fun K "fill" "fill" A6 f fd)(T:Tx K mg a)(znk:Z4 P w K mg base "stepped" 1 ["given","steps"] (N9 K))(zpg:Z4 P w K mg base "chain" 2 ["may","given","place"] (Ed K)):FnOk P w K mg base (CX1 P w) 3 f fd ["may"] (zej K):=by
 refine F.okX Ks ⋯ fun _ _ _ _ H _ Q E hr h=>?_;obtain⟨l,ls,rows,nu,rfl,hl,il,mo,h⟩:=h;refine⟨_,(Zb (Tn (i:=1) Ks.nd rfl rfl rfl (cT [] []) (Yd (K:=K) rfl (pv 0)) (fun _ _ _ _ _=>V5) (fun _ _ _ _ _=>Yz))
 (Zb (Xf PassesOwn.leaving rfl (X9 rfl T.zmj (Za (Zs (cL K) (by rfl) T.zly PySem.boot_len (Za (pv 0) Zd)) Zd)) (pN 2 Ks.nd)
  (Zf (pS 1 Ks.nd (pF znk hr (Za (pv 1) (Za (pF zpg hr (Za (pv 0) (Za (pv 1) (Za (pv 2) Zd)))) Zd))))))
 (Zf (Zm (pv 1))))),?_⟩
 have hlen:=il.length;have hrl:rows.length<=100:=zts mo.few ⋯;refine⟨_,rfl,l,rfl,⟨_,SqL.of hl⟩,?_⟩;refine Xw (K:=K) (a:=l) (xs:=ls.map V.ref) (fun i ys H'=>H'=H/\ys=(rows.take i).map fun _=>V.non) ⟨rfl,by simp⟩ (fun i ys H' _ z=>by rw[z.1];exact SqL.of hl) (szN (by rw[zta];omega)) (fun i ys H' z=>by rw[z.2,zta,zu1];omega) ?_ ?_
 ·rintro i x ys H' hx ⟨rfl,rfl⟩;have hi:i<rows.length:=by
   have:=(ztd.mp hx).1;rw[zta] at this;omega
  unfold tYes;dsimp only;rw[if_pos rfl];refine⟨rfl,?_⟩;rw[zub hi,zti];rfl
 ·rintro ys H' ⟨rfl,rfl⟩ lg hlg;rw[zta,hlen,ztq];have s1:=Ze (o:=.lst (rows.map fun _=>V.non)) hlg;have e1:upd H' lg (.lst (rows.map fun _=>V.non)) lg=some (.lst (rows.map fun _=>V.non)):=Zc;generalize upd H' lg (.lst (rows.map fun _=>V.non))=H1 at s1 e1;refine⟨_,rfl,l,_,rfl,.inl (SqL.of (s1 _ _ hl)),_,rfl,by omega,by rw[zta];omega,?_⟩;rw[zta,hlen,ztv]
  let jv6:Nat->L2.St->Hp->Prop:=fun i σ' Hx=>∃ (lg:Addr) (gs:List V) (v2:Option V),σ'=[some (.ref l),some (.ref lg),v2]/\Same H' Hx/\Hx lg=some (.lst gs)/\Up rows gs i/\H' lg=none
  refine Wn jv6 ⟨lg,_,_,rfl,s1,e1,Iz rows,hlg⟩ ?_ ?_
  ·rintro i σ' Hx hi ⟨lg,gs,v2,rfl,sx,hgx,F,hn⟩;rw[zu8];refine⟨_,rfl,⟨_,rfl,_,rfl,_,rfl,l,lg,ls,rows,nu,gs,i,rfl,sx _ _ hl,il.same sx,mo,hgx,F.fill,hi,F.non (ztm _) hi,fun lt ts st e w H2 h1 h2 c s2 hltn=>?_⟩⟩;refine⟨lg,lt,gs,ts,st,rfl,s2 _ _ hgx,h1,h2,fun s hs=>?_,F.fill.one,by rw[F.fill.len];omega,?_,fun l' H3 h3 s3 hl'=>?_⟩
   ·rw[F.fill.len];exact c.ch.lt F.fill hi s hs
   ·have:=c.len F.fill hi;omega
   ·exact⟨l',_,_,rfl,(sx.trans s2).trans s3,h3,F.step hi c,(sx.trans s2).free hl'⟩
  ·rintro σ' Hx ⟨lg,gs,v2,rfl,sx,hgx,F,hn⟩;exact⟨_,rfl,h lg gs Hx hgx F.fill F.last sx hn⟩
abbrev Om:Stmt:=top 50
theorem Bd:Zl ["given","number"] ["given","number"] (Zj Om):=fnS
theorem Be(F:Fun K "place_of" "place_of" Om f fd)(T:Tx K mg a):FnOk P w K mg base (CX1 P w) 1 f fd ["given","number"] (G2 K):=by
 refine F.okX Bd ⋯ fun _ _ _ _ H _ Q E hr h=>?_;obtain⟨b,xs,n,rfl,hb,ho,hl,h⟩:=h;refine⟨_,(Zf (Zm (E8 (Zn (Su (K:=K) rfl) (pv 1) (pv 0) (by with_unfolding_all rfl)) (zj7 PySem.F.plainAttrs_list PySem.F.slot_list_index PySem.F.type_list_index zem (pv 0) (Za (pv 1) Zd)) Yz))),?_⟩;have fl:xs.all Te=true:=zva.mpr fun x hx=>by rcases ho x hx with rfl|⟨_,rfl⟩<;>rfl
 refine⟨_,rfl,_,rfl,b,xs,rfl,.inl (SqL.of hb),rfl,fl,_,rfl,?_⟩;have key:=@D3 xs n ho;show if inV (V.int n) xs=true then _ else _
 cases hp:Wg xs n with
 | none =>
   rw[hp] at h;have hno:¬ inV (V.int n) xs=true:=fun z=>by
    obtain⟨j,hj⟩:=key.mp z;have:=List.find?_eq_none.mp hp j (zt5.mpr (ztd.mp hj).1);exact this (ztf hj)
   rw[if_neg hno];exact h H (Same.refl H)
 | some j =>
   rw[hp] at h;obtain⟨h1,h2,h3⟩:=List.find?_range_eq_some.mp hp;have hj:xs[j]?=some (.int n):=of_decide_eq_true h1;rw[if_pos (key.mpr ⟨j,hj⟩)];refine⟨_,rfl,?_,_,rfl,b,xs,.int n,j,rfl,rfl,hb,rfl,fl,⟨_,hj,(Kq (.inr ⟨_,rfl⟩)).mpr rfl⟩,fun m z hm hz=>?_,h H (Same.refl H)⟩
   ·exact .inl ⟨rfl,xs,SqL.of hb⟩
   ·have:=h3 m hm;have hne:¬ z=.int n:=fun q=>by
     rw[q] at hz;rw[ztf hz] at this;cases this
    cases hb2:eqV z (.int n) with
    | false=>rfl
    | true=>exact absurd ((Kq (ho z (ztn hz))).mp hb2) hne
abbrev V0:Stmt:=Z3 (top 52) 0
theorem Nj:Zl ["self","listed","lists","given","gaps"] ["self","listed","lists","given","gaps"] (Zj V0):=fnS
theorem Nk(F:Fun K "__init__" "Sheet.__init__" V0 f fd)(T:Tx K mg a):FnOk P w K mg base (CX1 P w) 1 f fd ["self","listed","lists","given","gaps"] (Nd (ca a)):=by
 refine F.okX Nj ⋯ fun _ _ _ _ H _ Q E hr h=>?_;obtain⟨q,dx,l1,l2,l3,l4,rfl,hq,h⟩:=h;refine⟨_,(Zb (Y5 (K:=K) rfl (pv 0) (pv 1) rfl)
 (Zb (Y5 (K:=K) rfl (pv 0) (pv 2) rfl)
 (Zb (Y5 (K:=K) rfl (pv 0) (pv 3) rfl)
 (Zf (Y5 (K:=K) rfl (pv 0) (pv 4) rfl))))),?_⟩
 refine⟨_,rfl,_,rfl,q,a.zln,dx,[],rfl,hq,T.zlv,T.znc,⋯,?_⟩;refine⟨_,rfl,_,rfl,q,a.zln,dx,[("listed",.ref l1)],rfl,Zc,T.zlv,T.zpu,(by show 1<1000;decide),?_⟩;rw[zk7];refine⟨_,rfl,_,rfl,q,a.zln,dx,_,rfl,Zc,T.zlv,T.znr,(by show 2<1000;decide),?_⟩;rw[zk8];refine⟨_,rfl,_,rfl,q,a.zln,dx,_,rfl,Zc,T.zlv,T.zpd,(by show 3<1000;decide),?_⟩;rw[zk9];refine h _ ?_;rw[Km,Km,Km];rfl
abbrev U8:Stmt:=Z3 (top 52) 1
theorem Kc:Zl ["self","lists"] ["self","lists"] (Zj U8):=fnS
theorem Kd(F:Fun K "barred" "Sheet.barred" U8 f fd)(T:Tx K mg a)(zn2:Tt P w K mg base "Sheet" a.zln 1 ["self","listed","lists","given","gaps"] (Nd (ca a))):FnOk P w K mg base (CX1 P w) 3 f fd ["self","lists"] (Cc (ca a)):=by
 refine F.okX Kc ⋯ fun _ _ _ _ H _ Q E hr h=>?_;obtain⟨ok,q,l2,ls,rows,s,rfl,SA,hl2,il,ok2,okl,no,h⟩:=h;refine⟨_,(Zf (Zm (F6 zn2 (hr.mono ⋯) Zk rfl (Za (Zq (K:=K) rfl (pv 0) rfl) (Za (pv 1) (Za (Zq (K:=K) rfl (pv 0) rfl) (Za (Zq (K:=K) rfl (pv 0) rfl) Zd))))))),?_⟩;obtain⟨dx,m1,m2,m3,m4,ts,ms,gts,a1,a2,a3,a4,a5,a6,a7,a8,o1,o2,o3,o4,o5,o6⟩:=id SA;refine⟨_,rfl,q,a.zln,dx,_,_,rfl,a1,T.zlv,T.znc,Q4,_,rfl,_,rfl,q,a.zln,dx,_,_,rfl,a1,T.zlv,T.znr,Qa,_,rfl,q,a.zln,dx,_,_,rfl,a1,T.zlv,T.zpd,Ee,?_⟩;intro q' dx' hq' hdx' ne;refine⟨q',dx',m1,l2,m3,m4,rfl,Zc,fun H' e=>⟨rfl,?_⟩⟩;obtain⟨s1,q1⟩:=P8 (C:=a.zln) (l1:=m1) (l2:=l2) (l3:=m3) (l4:=m4) hq' hdx' ne;rw[<- e] at s1 q1;exact h q' H' ⟨dx',m1,l2,m3,m4,ts,ls,gts,q1,s1 _ _ a2,a3.same s1,s1 _ _ hl2,il.same s1,s1 _ _ a6,s1 _ _ a7,a8.keep (fun _ _ _ z=>s1 _ _ z) (fun _ _ z=>s1 _ _ z),no _ hq',o2,ok2,o4,o5,okl⟩ s1 hq'
abbrev W4:Stmt:=Z3 (top 52) 2
theorem Xt:Zl ["self","number","lists","place","gap","steps"] ["self","number","lists"] (Zj W4):=fnS
theorem Pf(F:Fun K "fallen_out" "Sheet.fallen_out" W4 f fd)(T:Tx K mg a)(zmm:Zv P w K mg base a.zln "where" 2 ["self","number"] (Ma (ca a)))(znk:Z4 P w K mg base "stepped" 1 ["given","steps"] (N9 K))(zpg:Z4 P w K mg base "chain" 2 ["may","given","place"] (Ed K))(zn2:Tt P w K mg base "Sheet" a.zln 1 ["self","listed","lists","given","gaps"] (Nd (ca a))):FnOk P w K mg base (CX1 P w) 3 f fd ["self","number","lists"] (Cd (ca a)):=by
 refine F.okX Xt ⋯ fun _ _ _ _ H _ Q E hr h=>?_;obtain⟨ok,q,l2,ls,rows,nu,s,n,p,rfl,SA,hl2,il,ok2,okl,no,mo,ho,hgp,hun,FP,hgz,h⟩:=h;refine⟨_,(Zb (pS 3 Xt.nd (Xy (pv 0) T.zlv zmm (hr.mono ⋯) Zk (Za (pv 1) Zd)))
 (Zb (pS 4 Xt.nd (pF znk hr (Za (Zq (K:=K) rfl (pv 0) rfl) (Za (Z9 (Za (Z7 (Za (pv 3) (Za Yz Zd))) Zd)) Zd))))
 (Zb (pS 5 Xt.nd (pF zpg hr (Za (pv 2) (Za (pv 4) (Za (pv 3) Zd)))))
 (Zf (Zm (F6 zn2 (hr.mono ⋯) Zk rfl (Za (Zq (K:=K) rfl (pv 0) rfl) (Za (pv 2) (Za (pF znk hr (Za (pv 4) (Za (pv 5) Zd))) (Za (Zp Kz (Zq (K:=K) rfl (pv 0) rfl) (Z9 (Za (Z7 (Za (pv 1) (Za (pv 5) Zd))) Zd))) Zd)))))))))),?_⟩
 obtain⟨dx,m1,m2,m3,m4,ts,ms,gts,a1,a2,a3,a4,a5,a6,a7,a8,o1,o2,o3,o4,o5,o6⟩:=id SA;have hrl:rows.length<=100:=zts mo.few ⋯;have hgl:s.gv.length<=100:=by have:=FP.len;rw[zut] at this;omega
 have hpl:p<s.gv.length:=(ztd.mp hgp).1;have hpr:p<rows.length:=by have:=FP.len;rw[zut] at this;omega
 have hplace:Wg s.gv n=some p:=by
  unfold Wg;rw[List.find?_eq_some_iff_getElem];refine⟨ztf hgp,p,by rw[zuo];exact hpl,by rw[List.getElem_range],fun j hj=>?_⟩;rw[List.getElem_range,Bool.not_eq_true',decide_eq_false_iff_not];exact fun z=>absurd (hun j z) ⋯
 refine⟨_,rfl,q,dx,_,rfl,a1,Sx ⋯ ⋯ ⋯ ⋯,_,rfl,ok,q,s,n,rfl,SA,ho,hgl,fun H1 s1=>?_⟩;rw[hplace,show oN (some p)=V.int (p:Nat) from rfl];have SA1:=SA.same s1;refine⟨_,rfl,q,a.zln,dx,_,_,rfl,s1 _ _ a1,T.zlv,T.znr,Qa,_,rfl,sz2,fun t1 ht1=>⟨sz1,fun lx hlx=>?_⟩⟩;have s2:=Ze (o:=.tup [.int (p:Nat),.non]) ht1;have q2:upd H1 t1 (.tup [.int (p:Nat),.non]) t1=some (.tup (Vt (p,none))):=Zc;generalize upd H1 t1 (.tup [.int (p:Nat),.non])=H2 at s2 q2 hlx;have s3:=Ze (o:=.lst [V.ref t1]) hlx;have q3:upd H2 lx (.lst [V.ref t1]) lx=some (.lst [V.ref t1]):=Zc;have q23:=s3 _ _ q2;generalize upd H2 lx (.lst [V.ref t1])=H3 at s3 q3 q23;have s13:=s1.trans (s2.trans s3);refine⟨m3,lx,s.gv,[V.ref t1],[(p,none)],rfl,s13 _ _ a6,q3,.cons q23 .nil,fun st hst=>by rw[zte.mp hst];exact hpl,ho,hgl,by show 1<=100;decide,fun lg H4 hg4 s4 f4=>?_⟩;have s14:=s13.trans s4;have hg4:H4 lg=some (.lst (s.gv.set p .non)):=hg4;refine⟨_,rfl,_,rfl,_,rfl,l2,lg,ls,rows,nu,s.gv.set p .non,p,rfl,s14 _ _ hl2,il.same s14,mo,hg4,FP,hpr,by rw[zug hpl],fun lt us st e w H5 hlt tl CR s5 f5=>?_⟩;have s15:=s14.trans s5;have hst100:st.length<=100:=zts (CR.len FP hpr) hrl;refine⟨_,rfl,q,a.zln,dx,_,_,rfl,s15 _ _ a1,T.zlv,T.znc,Q4,_,rfl,_,rfl,_,rfl,lg,lt,s.gv.set p .non,us,st,rfl,s5 _ _ hg4,hlt,tl,fun x hx=>?_,FP.one,by rw[FP.len];exact hrl,hst100,fun l3 H6 h6 s6 f6=>?_⟩
 ·rw[FP.len];exact CR.ch.lt FP hpr x hx
 have s16:=s15.trans s6;refine⟨_,rfl,q,a.zln,dx,_,_,rfl,s16 _ _ a1,T.zlv,T.zpd,Ee,_,rfl,_,rfl,sz2,fun t2 ht2=>⟨sz1,fun ly hly=>?_⟩⟩;have s7:=Ze (o:=.tup [.int n,.ref lt]) ht2;have q7:upd H6 t2 (.tup [.int n,.ref lt]) t2=some (.tup [.int n,.ref lt]):=Zc;generalize upd H6 t2 (.tup [.int n,.ref lt])=H7 at s7 q7 hly;have s8:=Ze (o:=.lst [V.ref t2]) hly;have q8:upd H7 ly (.lst [V.ref t2]) ly=some (.lst [V.ref t2]):=Zc;have q78:=s8 _ _ q7;generalize upd H7 ly (.lst [V.ref t2])=H8 at s8 q8 q78;have s18:=s16.trans (s7.trans s8);refine⟨m4,ly,gts,[V.ref t2],rfl,rfl,s18 _ _ a7,q8,by have:=a8.length;show gts.length+1<=sizeLine;have:=Uz;omega,fun l4 hl4=>?_⟩;have s9:=Ze (o:=.lst (gts++[V.ref t2])) hl4;have q9:upd H8 l4 (.lst (gts++[V.ref t2])) l4=some (.lst (gts++[V.ref t2])):=Zc;generalize upd H8 l4 (.lst (gts++[V.ref t2]))=H9 at s9 q9;have s19:=s18.trans s9;intro q' dx' hq' hdx' ne;refine⟨q',dx',m1,l2,l3,l4,rfl,Zc,fun H' e'=>⟨rfl,?_⟩⟩;obtain⟨s10,q10⟩:=P8 (C:=a.zln) (l1:=m1) (l2:=l2) (l3:=l3) (l4:=l4) hq' hdx' ne;rw[<- e'] at s10 q10;have s:=s19.trans s10;have s6x:=s7.trans (s8.trans (s9.trans s10));have s5x:=s6.trans s6x;refine h q' st e w H' ⟨dx',m1,l2,l3,l4,ts,ls,gts++[V.ref t2],q10,s _ _ a2,a3.same s,s _ _ hl2,il.same s,s6x _ _ h6,s10 _ _ q9,?_,no _ (s19.free hq'),o2,ok2,no _ (s15.free f6),no _ (s18.free hl4),okl⟩ CR s (s19.free hq');exact(a8.keep (fun _ _ _ z=>s _ _ z) (fun _ _ z=>s _ _ z)).snoc ((s9.trans s10) _ _ q78) (s5x _ _ hlt) (tl.same s5x) (no _ (s14.free f5))
abbrev Uk:Stmt:=Z3 (top 52) 3
theorem Mr:Zl ["self"] ["self"] (Zj Uk):=fnS
theorem Mt(F:Fun K "matches" "Sheet.matches" Uk f fd)(T:Tx K mg a):FnOk P w K mg base (CX1 P w) 1 f fd ["self"] (Lg (ca a)):=by
 refine F.okX Mr ⋯ fun _ _ _ _ H _ Q E hr h=>?_;obtain⟨ok,q,s,rfl,SA,h⟩:=h;refine⟨_,(Zf (Zm (Yj (Xq (K:=K) rfl) (by rfl) T.zms PyProof.Rows.boot_list (Za (Zq (K:=K) rfl (pv 0) rfl) Zd)))),?_⟩;obtain⟨dx,m1,m2,m3,m4,ts,ms,gts,a1,a2,a3,a4,a5,a6,a7,a8,o1,o2,o3,o4,o5,o6⟩:=id SA;refine⟨_,rfl,q,a.zln,dx,_,_,rfl,a1,T.zlv,T.znc,Q4,m1,_,rfl,.inl (SqL.of a2),fun l hl=>?_⟩;exact h l ts _ Zc (a3.same (Ze hl)) (Ze hl) hl
abbrev Rb:Stmt:=Z3 (top 52) 7
theorem Hr:Zl ["self"] ["self"] (Zj Rb):=fnS
theorem Hs(F:Fun K "goes" "Sheet.goes" Rb f fd)(T:Tx K mg a):FnOk P w K mg base (CX1 P w) 1 f fd ["self"] (K8 (ca a)):=by
 refine F.okX Hr ⋯ fun _ _ _ _ H _ Q E hr h=>?_;obtain⟨ok,q,s,rfl,SA,h⟩:=h;refine⟨_,(Zf (Zm (Yj (Xq (K:=K) rfl) (by rfl) T.zms PyProof.Rows.boot_list (Za (Zq (K:=K) rfl (pv 0) rfl) Zd)))),?_⟩;obtain⟨dx,m1,m2,m3,m4,ts,ms,gts,a1,a2,a3,a4,a5,a6,a7,a8,o1,o2,o3,o4,o5,o6⟩:=id SA;refine⟨_,rfl,q,a.zln,dx,_,_,rfl,a1,T.zlv,T.znr,Qa,m3,_,rfl,.inl (SqL.of a6),fun l hl=>?_⟩;exact h l _ Zc (Ze hl) hl
abbrev T1:Stmt:=Z3 (top 52) 8
theorem J3:Zl ["self","number"] ["self","number"] (Zj T1):=fnS
theorem J4(F:Fun K "where" "Sheet.where" T1 f fd)(T:Tx K mg a)(zpm:Z4 P w K mg base "place_of" 1 ["given","number"] (G2 K)):FnOk P w K mg base (CX1 P w) 2 f fd ["self","number"] (Ma (ca a)):=by
 refine F.okX J3 ⋯ fun _ _ _ _ H _ Q E hr h=>?_;obtain⟨ok,q,s,n,rfl,SA,ho,hgl,h⟩:=h;refine⟨_,(Zf (Zm (pF zpm hr (Za (Zq (K:=K) rfl (pv 0) rfl) (Za (pv 1) Zd))))),?_⟩;obtain⟨dx,m1,m2,m3,m4,ts,ms,gts,a1,a2,a3,a4,a5,a6,a7,a8,o1,o2,o3,o4,o5,o6⟩:=id SA;exact⟨_,rfl,q,a.zln,dx,_,_,rfl,a1,T.zlv,T.znr,Qa,_,rfl,m3,s.gv,n,rfl,a6,ho,hgl,fun H' s'=>h H' s'⟩
abbrev U9:Stmt:=Z3 (top 52) 11
theorem Ke:Zl ["self"] ["self"] (Zj U9):=fnS
theorem Kf(F:Fun K "chains" "Sheet.chains" U9 f fd)(T:Tx K mg a):FnOk P w K mg base (CX1 P w) 1 f fd ["self"] (K9 (ca a)):=by
 refine F.okX Ke ⋯ fun _ _ _ _ H _ Q E hr h=>?_;obtain⟨ok,q,s,rfl,SA,hgz,h⟩:=h;refine⟨_,(Zf (Zm (K6 rfl (O8.mk (xo:=["number","steps"]) (ys:=[]) (js:=[]) rfl rfl ⋯ ⋯ rfl (by repeat' (first|exact True.intro|apply And.intro|rfl)) (by repeat' (first|exact True.intro|apply And.intro|rfl)) ⋯) (Yd (K:=K) rfl (Zq (K:=K) rfl (pv 0) rfl)) (fun _ _ _ _ _=>V5) (fun _ _ _ _ _=>(Wd (K:=K) (n:=2) rfl rfl (Zy (Uo (i:=0) (show List.Nodup [("number":Str),("steps":Str)] by decide +kernel) rfl (by first|exact Or.inl rfl|exact Or.inr rfl)) (Zy (Uo (i:=1) (show List.Nodup [("number":Str),("steps":Str)] by decide +kernel) rfl (by first|exact Or.inl rfl|exact Or.inr rfl)) Wb)))) (fun _ _ _ _ _=>(Z7 (Za (pv 0) (Za (Yj (Xq (K:=K) rfl) (by rfl) T.zms PyProof.Rows.boot_list (Za (pv 1) Zd)) Zd))))))),?_⟩;obtain⟨dx,m1,m2,m3,m4,ts,ms,gts,a1,a2,a3,a4,a5,a6,a7,a8,o1,o2,o3,o4,o5,o6⟩:=id SA;have hgts:=a8.length;refine⟨_,rfl,q,a.zln,dx,_,_,rfl,a1,T.zlv,T.zpd,Ee,m4,rfl,⟨_,SqL.of a7⟩,?_⟩;refine Ja (K:=K) (xs:=gts) (fun i ys H'=>Same H H'/\We (fun x=>H x=none) H' ys (s.gaps.take i)/\ys.length=i) ⟨Same.refl _,.nil,rfl⟩ (fun i ys H' _ ⟨s',_⟩=>SqL.of (s' _ _ a7)) (szN ⋯) (fun i ys H' ⟨_,_,e⟩=>by omega) ?_ ?_
 ·rintro i x ys H' hx ⟨s1,gl,hyl⟩;obtain⟨t,l,n,us,st,rfl,hgi,ht,hl,tl,_⟩:=a8.get hx;have ht1:=s1 _ _ ht;have hl1:=s1 _ _ hl;refine⟨t,_,rfl,SqT.of ht1,rfl,_,_,rfl,_,_,rfl,rfl,⟨[some (.int n),some (.ref l)],rfl,rfl⟩,?_⟩;unfold tYes;dsimp only;rw[if_pos rfl];refine⟨_,rfl,_,rfl,l,_,rfl,.inl (SqL.of hl1),fun l2 hl2=>?_⟩;have s2:=Ze (o:=.lst us) hl2;have q2:upd H' l2 (.lst us) l2=some (.lst us):=Zc;have f2:H l2=none:=s1.free hl2;generalize upd H' l2 (.lst us)=H2 at s2 q2;refine⟨sz2,fun t2 ht2=>?_⟩;have s3:=Ze (o:=.tup [.int n,.ref l2]) ht2;have s23:=s2.trans s3;refine⟨s1.trans s23,?_,by rw[ztc,hyl];rfl⟩;have e:s.gaps.take (i+1)=s.gaps.take i++[(n,st)]:=by rw[zua,hgi];rfl
  rw[e];exact(gl.keep (fun _ _ _ z=>s23 _ _ z) (fun _ _ z=>s23 _ _ z)).snoc Zc (s3 _ _ q2) (tl.same (s1.trans s23)) f2
 ·rintro ys H' ⟨s1,gl,hyl⟩ l hl;rw[hgts,ztq] at gl;refine h l ys _ Zc ?_ (s1.trans (Ze hl)) (s1.free hl);exact(gl.imp (ok':=fun x=>H x=none/\x≠l) fun x ⟨o,e⟩ z=>⟨z,Zh e hl⟩).keep (fun _ _ _ z=>Ze hl _ _ z) (fun _ _ z=>Ze hl _ _ z)
abbrev Rc:Stmt:=Z3 (top 52) 12
theorem Hu:Zl ["self"] ["self"] (Zj Rc):=fnS
theorem Hv(F:Fun K "rows" "Sheet.rows" Rc f fd)(T:Tx K mg a):FnOk P w K mg base (CX1 P w) 1 f fd ["self"] (Cf (ca a)):=by
 refine F.okX Hu ⋯ fun _ _ _ _ H _ Q E hr h=>?_;obtain⟨ok,q,s,rfl,SA,ho,hgl,hml,h⟩:=h;refine⟨_,(Zf (Zm (K6 rfl (O8.mk (xo:=["match","number"]) (ys:=[]) (js:=[]) rfl rfl ⋯ ⋯ rfl (by repeat' (first|exact True.intro|apply And.intro|rfl)) (by repeat' (first|exact True.intro|apply And.intro|rfl)) ⋯) (zix (K:=K) rfl rfl T.zq7 (Za (Zq (K:=K) rfl (pv 0) rfl) (Za (Zq (K:=K) rfl (pv 0) rfl) Zd))) (fun _ _ _ _ _=>V5) (fun _ _ _ _ _=>(Wd (K:=K) (n:=2) rfl rfl (Zy (Uo (i:=0) (show List.Nodup [("match":Str),("number":Str)] by decide +kernel) rfl (by first|exact Or.inl rfl|exact Or.inr rfl)) (Zy (Uo (i:=1) (show List.Nodup [("match":Str),("number":Str)] by decide +kernel) rfl (by first|exact Or.inl rfl|exact Or.inr rfl)) Wb)))) (fun _ _ _ _ _=>(Zp (Ca (K:=K) rfl) (pv 0) (Z7 (Za (pv 1) Zd))))))),?_⟩;obtain⟨dx,m1,m2,m3,m4,ts,ms,gts,a1,a2,a3,a4,a5,a6,a7,a8,o1,o2,o3,o4,o5,o6⟩:=id SA;have hts:ts.length=s.ms.length:=by rw[a3.length,zta]
 refine⟨_,rfl,q,a.zln,dx,_,_,rfl,a1,T.zlv,T.znc,Q4,_,rfl,q,a.zln,dx,_,_,rfl,a1,T.zlv,T.znr,Qa,m1,m3,rfl,⟨_,SqL.of a2⟩,⟨_,SqL.of a6⟩,?_⟩;refine zcl (K:=K) (xs:=ts) (zs:=s.gv) (fun i ys H'=>Same H H'/\TupL H' ys (((Yb s).take i).map Eb)/\ys.length=i) ⟨Same.refl _,.nil,rfl⟩ ⋯ (fun i ys H' _ ⟨s',_⟩=>⟨SqL.of (s' _ _ a2),SqL.of (s' _ _ a6)⟩) (szN ⋯) (fun i ys H' ⟨_,_,e⟩=>by omega) ?_ ?_
 ·rintro i x z t ys H' hx hz ⟨s1,tl,hyl⟩ ht;obtain⟨tm,m,rfl,hm,htm⟩:=K3 a3 hx;have oz:=ho z (ztn hz);have s2:=s1.trans (Ze (o:=.tup [.ref tm,z]) ht);have tl2:=tl.same (Ze (o:=.tup [.ref tm,z]) ht);have q2:upd H' t (.tup [.ref tm,z]) t=some (.tup [.ref tm,z]):=Zc;generalize upd H' t (.tup [.ref tm,z])=H2 at s2 tl2 q2;refine⟨t,_,rfl,SqT.of q2,rfl,_,_,rfl,_,_,rfl,rfl,⟨[some (.ref tm),some z],rfl,rfl⟩,?_⟩;unfold tYes;dsimp only;rw[if_pos rfl];refine⟨_,rfl,_,rfl,sz1,fun t1 ht1=>?_⟩;have s3:=Ze (o:=.tup [z]) ht1;have q3:upd H2 t1 (.tup [z]) t1=some (.tup [z]):=Zc;generalize upd H2 t1 (.tup [z])=H3 at s3 q3;refine⟨tm,t1,_,_,rfl,rfl,SqT.of ((s2.trans s3) _ _ htm),SqT.of q3,by unfold pV;simp,by show 3+1<=sizeLine;exact sz4,fun z=>absurd z (by simp),fun _ t2 ht2=>?_⟩;have s4:=Ze (o:=.tup (pV m++[z])) ht2;refine⟨s2.trans (s3.trans s4),?_,by rw[ztc,hyl];rfl⟩;rw[zcm hm hz,zti];refine((tl2.same s3).same s4).snoc ?_;rw[Zc,zi2 m oz];rfl
 ·rintro ys H' ⟨s1,tl,hyl⟩ l hl;rw[hts,<- Cg hgl,ztq] at tl;exact h l ys _ Zc (tl.same (Ze hl)) (s1.trans (Ze hl)) (s1.free hl)
abbrev T2:Stmt:=top 53
theorem J5:Zl ["listed","lists"] ["listed","lists"] (Zj T2):=fnS
theorem J6(F:Fun K "drawn_sheet" "drawn_sheet" T2 f fd)(T:Tx K mg a)(zn2:Tt P w K mg base "Sheet" a.zln 1 ["self","listed","lists","given","gaps"] (Nd (ca a)))(zra:Z4 P w K mg base "fill" 3 ["may"] (zej K)):FnOk P w K mg base (CX1 P w) 4 f fd ["listed","lists"] (za3 (ca a)):=by
 refine F.okX J5 ⋯ fun _ _ _ _ H _ Q E hr h=>?_;obtain⟨ok,l1,l2,ts,ls,ms,rows,nu,rfl,hl1,tl,hl2,il,ok1,ok2,okl,no,mo,h⟩:=h;refine⟨_,(Zf (Zm (F6 zn2 (hr.mono ⋯) Zk rfl (Za (pv 0) (Za (pv 1) (Za (pF zra hr (Za (pv 1) Zd)) (Za (Z9 Zd) Zd))))))),?_⟩;refine⟨_,rfl,_,rfl,_,rfl,l2,ls,rows,nu,rfl,hl2,il,mo,fun l3 gv H1 h3 FP SP s1 f3=>?_⟩;refine⟨by show 0<=sizeLine;decide,fun l4 hl4=>?_⟩;have s2:=Ze (o:=.lst []) hl4;have q2:upd H1 l4 (.lst []) l4=some (.lst []):=Zc;generalize upd H1 l4 (.lst [])=H2 at s2 q2;have s12:=s1.trans s2;intro q dx hq hdx ne;refine⟨q,dx,l1,l2,l3,l4,rfl,Zc,fun H' e=>⟨rfl,?_⟩⟩;obtain⟨s3,q3⟩:=P8 (C:=a.zln) (l1:=l1) (l2:=l2) (l3:=l3) (l4:=l4) hq hdx ne;rw[<- e] at s3 q3;have s:=s12.trans s3;exact h q gv H' ⟨dx,l1,l2,l3,l4,ts,ls,[],q3,s _ _ hl1,tl.same s,s _ _ hl2,il.same s,s3 _ _ (s2 _ _ h3),s3 _ _ q2,.nil,no _ (s12.free hq),ok1,ok2,no _ f3,no _ (s1.free hl4),okl⟩ FP SP s (s12.free hq)
abbrev Vm:Stmt:=Z3 (top 55) 0
theorem Oo:Zl ["self","rounds","rest"] ["self","rounds","rest"] (Zj Vm):=fnS
theorem Oq(F:Fun K "__init__" "Season.__init__" Vm f fd)(T:Tx K mg a)(zlq:Z4 P w K mg base "check_range" 1 ["value","least","most"] (Nb a.zl0))(zqu:Tt P w K mg base "Roster" a.zlm 1 ["self"] (za1 (ca a)))(zqo:Tt P w K mg base "Ledger" a.zll 1 ["self"] (zav a.zll)):FnOk P w K mg base (CX1 P w) 3 f fd ["self","rounds","rest"] (za4 (ca a)):=by
 refine F.okX Oo ⋯ fun _ _ _ _ H _ Q E hr h=>?_;obtain⟨p,dx,r,q,rfl,hp,sr,sq,h⟩:=h;refine⟨_,(Zb (Z6 (pF zlq hr (Za (pv 1) (Za Zg (Za (Wc rfl T.zm3) Zd)))))
 (Zb (Z6 (pF zlq hr (Za (pv 2) (Za Zg (Za (Wc rfl T.znu) Zd)))))
 (Zb (Y5 (K:=K) rfl (pv 0) (pv 1) rfl)
 (Zb (Y5 (K:=K) rfl (pv 0) (pv 2) rfl)
 (Zb (Y5 (K:=K) rfl (pv 0) (zap zqu (hr.mono ⋯) Zk rfl) rfl)
 (Zb (Y5 (K:=K) rfl (pv 0) (zap zqo (hr.mono ⋯) Zk rfl) rfl)
 (Zb (Y5 (K:=K) rfl (pv 0) O2 rfl)
 (Zb (Y5 (K:=K) rfl (pv 0) (Z9 Zd) rfl)
 (Zb (Y5 (K:=K) rfl (pv 0) Yz rfl)
 (Zf (Y5 (K:=K) rfl (pv 0) (Z9 Zd) rfl))))))))))),?_⟩
 show let y1:TS:=_;let y2:TS:=Zw _ y1;let y3:TS:=Zw _ y2;let y4:TS:=Zw _ y3;let y5:TS:=Zw _ y4;let y6:TS:=Zw _ y5;let y7:TS:=Zw _ y6;let y8:TS:=Zw _ y7;let y9:TS:=Zw _ y8;Zw _ y9 _ _ _;intro y1 y2 y3 y4 y5 y6 y7 y8 y9;refine⟨_,rfl,r,0,60,rfl,sr,Yh ⋯,Yh ⋯,?_⟩;refine it2 h (fun _ z=>z) fun h1 h=>?_;refine⟨_,rfl,q,0,10,rfl,sq,Yh ⋯,Yh ⋯,?_⟩;refine it2 h (fun _ z=>z) fun h2 hF=>?_;have er:r=((r.toNat:Nat):Int):=by omega
 have eq':q=((q.toNat:Nat):Int):=by omega
 generalize r.toNat=rn at hF er;generalize q.toNat=qn at hF eq';subst er eq';refine⟨_,rfl,_,rfl,p,a.zli,dx,_,rfl,hp,T.zlj,T.zoe,(by show 0<1000;decide),?_⟩;rw[pF1];refine⟨_,rfl,_,rfl,p,a.zli,dx,_,rfl,Zc,T.zlj,T.zqg,(by show 1<1000;decide),?_⟩;rw[pF2,Km];have b1:Vg p H (upd H p (.ins a.zli dx (sF2 (.int rn) (.int qn)))):=.put;have q1:upd H p (.ins a.zli dx (sF2 (.int rn) (.int qn))) p=some (.ins a.zli dx (sF2 (.int rn) (.int qn))):=Zc;generalize upd H p (.ins a.zli dx (sF2 (.int rn) (.int qn)))=H1 at b1 q1;intro pr dxr hpr hdxr ne;refine⟨pr,dxr,rfl,Zc,fun dr hdr=>⟨rfl,?_⟩⟩;have ndp:dr≠pr:=fun z=>by rw[z,Zc] at hdr;cases hdr
 have ndx:dr≠dxr:=fun z=>by rw[z,Zi ne,Zc] at hdr;cases hdr
 have hdr1:H1 dr=none:=by rw[Zi ndp,Zi ndx] at hdr;exact hdr
 have s2:Same H1 (upd (upd (upd (upd H1 dxr (.own pr)) pr (.ins a.zlm dxr [])) dr (.dK [])) pr (.ins a.zlm dxr [("entries",.ref dr)])):=fun b o e=>by
  rw[Zi (Zh e hpr),Zi (Zh e hdr1),Zi (Zh e hpr),Zi (Zh e hdxr)];exact e
 have R2:Xi a.zlm (upd (upd (upd (upd H1 dxr (.own pr)) pr (.ins a.zlm dxr [])) dr (.dK [])) pr (.ins a.zlm dxr [("entries",.ref dr)])) pr dr []:=⟨⟨dxr,[],Zc,by rw[Zi ndp,Zc],.nil⟩,zu5⟩;generalize upd (upd (upd (upd H1 dxr (.own pr)) pr (.ins a.zlm dxr [])) dr (.dK [])) pr (.ins a.zlm dxr [("entries",.ref dr)])=H2 at s2 R2;refine⟨_,rfl,p,a.zli,dx,_,rfl,s2 _ _ q1,T.zlj,T.zml,(by show 2<1000;decide),?_⟩;rw[pF3];have np2:pr≠p/\dr≠p:=⟨Ne.symm (Zh q1 hpr),Ne.symm (Zh q1 hdr1)⟩;have b3:Vg p H (upd H2 p (.ins a.zli dx (sF3 (.int rn) (.int qn) (.ref pr)))):=b1.trans ((Vg.of s2).trans .put);have q3:upd H2 p (.ins a.zli dx (sF3 (.int rn) (.int qn) (.ref pr))) p=some (.ins a.zli dx (sF3 (.int rn) (.int qn) (.ref pr))):=Zc;have kt3:∀ t xs,H2 t=some (.tup xs)->upd H2 p (.ins a.zli dx (sF3 (.int rn) (.int qn) (.ref pr))) t=some (.tup xs):=fun t xs e=>by rw[Zi (Yo e (s2 _ _ q1) (fun z=>nomatch z))];exact e
 have R3:=R2.keep (H':=upd H2 p (.ins a.zli dx (sF3 (.int rn) (.int qn) (.ref pr)))) (fun o e=>by rw[Zi np2.1];exact e) (fun o e=>by rw[Zi np2.2];exact e) kt3;have fdr:H dr=none:=Vg.free b1 ⟨_,q1⟩ hdr1;have hr2:H2 dr=some (.dK [])/\∃ o,H2 pr=some o:=by
  obtain⟨⟨x,kv,z1,z2,z3⟩,_⟩:=R2;cases z3;exact⟨z2,_,z1⟩
 generalize upd H2 p (.ins a.zli dx (sF3 (.int rn) (.int qn) (.ref pr)))=H3 at b3 q3 R3;intro pl dxl hpl hdxl nel;refine⟨pl,dxl,rfl,Zc,fun lr ld H4 L0 k0 f0 g0 n0=>⟨rfl,?_⟩⟩;obtain⟨s4,fr0,fd0⟩:=zeg hpl hdxl nel k0 f0 g0;refine⟨_,rfl,p,a.zli,dx,_,rfl,s4 _ _ q3,T.zlj,T.zmp,(by show 3<1000;decide),?_⟩;rw[pF4];have q4:=s4 _ _ q3;have np4:pl≠p/\lr≠p/\ld≠p:=⟨Ne.symm (Zh q3 hpl),Ne.symm (Zh q3 fr0),Ne.symm (Zh q3 fd0)⟩;have b5:Vg p H (upd H4 p (.ins a.zli dx (sF4 (.int rn) (.int qn) (.ref pr) (.ref pl)))):=b3.trans ((Vg.of s4).trans .put);have q5:upd H4 p (.ins a.zli dx (sF4 (.int rn) (.int qn) (.ref pr) (.ref pl))) p=some (.ins a.zli dx (sF4 (.int rn) (.int qn) (.ref pr) (.ref pl))):=Zc;have kt5:∀ t xs,H4 t=some (.tup xs)->upd H4 p (.ins a.zli dx (sF4 (.int rn) (.int qn) (.ref pr) (.ref pl))) t=some (.tup xs):=fun t xs e=>by rw[Zi (Yo e q4 (fun z=>nomatch z))];exact e
 have R5:=(R3.same s4).keep (H':=upd H4 p (.ins a.zli dx (sF4 (.int rn) (.int qn) (.ref pr) (.ref pl)))) (fun o e=>by rw[Zi np2.1];exact e) (fun o e=>by rw[Zi np2.2];exact e) kt5;have L5:=L0.keep (H':=upd H4 p (.ins a.zli dx (sF4 (.int rn) (.int qn) (.ref pr) (.ref pl)))) (fun o e=>by rw[Zi np4.1];exact e) (fun o e=>by rw[Zi np4.2.1];exact e) (fun o e=>by rw[Zi np4.2.2];exact e) kt5;have flr:H lr=none:=Vg.free b3 ⟨_,q3⟩ fr0;have fld:H ld=none:=Vg.free b3 ⟨_,q3⟩ fd0;have nrp:pr≠pl/\dr≠pl/\pr≠lr/\dr≠lr/\pr≠ld/\dr≠ld:=by
  obtain⟨⟨x,kv,z1,z2,_⟩,_⟩:=R3;exact⟨Zh z1 hpl,Zh z2 hpl,Zh z1 fr0,Zh z2 fr0,Zh z1 fd0,Zh z2 fd0⟩
 generalize upd H4 p (.ins a.zli dx (sF4 (.int rn) (.int qn) (.ref pr) (.ref pl)))=H5 at b5 q5 R5 L5;intro da hda;have npa:da≠p:=Ne.symm (Zh q5 hda);refine⟨_,rfl,p,a.zli,dx,_,rfl,Ze (o:=.dT []) hda _ _ q5,T.zlj,T.zng,(by show 4<1000;decide),?_⟩;rw[pF5];have b7:Vg p H5 (upd (upd H5 da (.dT [])) p (.ins a.zli dx (sF5 (.int rn) (.int qn) (.ref pr) (.ref pl) (.ref da)))):=(Vg.of (Ze hda)).trans .put;have q7:upd (upd H5 da (.dT [])) p (.ins a.zli dx (sF5 (.int rn) (.int qn) (.ref pr) (.ref pl) (.ref da))) p=some (.ins a.zli dx (sF5 (.int rn) (.int qn) (.ref pr) (.ref pl) (.ref da))):=Zc;have d7:upd (upd H5 da (.dT [])) p (.ins a.zli dx (sF5 (.int rn) (.int qn) (.ref pr) (.ref pl) (.ref da))) da=some (.dT []):=by rw[Zi npa,Zc]
 generalize upd (upd H5 da (.dT [])) p (.ins a.zli dx (sF5 (.int rn) (.int qn) (.ref pr) (.ref pl) (.ref da)))=H7 at b7 q7 d7;refine⟨by show 0<=sizeLine;decide,fun ls hls=>?_⟩;have nps:ls≠p:=Ne.symm (Zh q7 hls);refine⟨_,rfl,p,a.zli,dx,_,rfl,Ze (o:=.lst []) hls _ _ q7,T.zlj,T.zn6,(by show 5<1000;decide),?_⟩;rw[pF6];have b9:Vg p H7 (upd (upd H7 ls (.lst [])) p (.ins a.zli dx (sF6 (.int rn) (.int qn) (.ref pr) (.ref pl) (.ref da) (.ref ls)))):=(Vg.of (Ze hls)).trans .put;have q9:upd (upd H7 ls (.lst [])) p (.ins a.zli dx (sF6 (.int rn) (.int qn) (.ref pr) (.ref pl) (.ref da) (.ref ls))) p=some (.ins a.zli dx (sF6 (.int rn) (.int qn) (.ref pr) (.ref pl) (.ref da) (.ref ls))):=Zc;have l9:upd (upd H7 ls (.lst [])) p (.ins a.zli dx (sF6 (.int rn) (.int qn) (.ref pr) (.ref pl) (.ref da) (.ref ls))) ls=some (.lst []):=by rw[Zi nps,Zc]
 generalize upd (upd H7 ls (.lst [])) p (.ins a.zli dx (sF6 (.int rn) (.int qn) (.ref pr) (.ref pl) (.ref da) (.ref ls)))=H9 at b9 q9 l9;refine⟨_,rfl,p,a.zli,dx,_,rfl,q9,T.zlj,T.zl5,(by show 6<1000;decide),?_⟩;rw[pF7];have b10:Vg p H9 (upd H9 p (.ins a.zli dx (sF7 (.int rn) (.int qn) (.ref pr) (.ref pl) (.ref da) (.ref ls) .non))):=.put;have q10:upd H9 p (.ins a.zli dx (sF7 (.int rn) (.int qn) (.ref pr) (.ref pl) (.ref da) (.ref ls) .non)) p=some (.ins a.zli dx (sF7 (.int rn) (.int qn) (.ref pr) (.ref pl) (.ref da) (.ref ls) .non)):=Zc;generalize upd H9 p (.ins a.zli dx (sF7 (.int rn) (.int qn) (.ref pr) (.ref pl) (.ref da) (.ref ls) .non))=H10 at b10 q10;refine⟨by show 0<=sizeLine;decide,fun lt hlt=>?_⟩;have npt:lt≠p:=Ne.symm (Zh q10 hlt);refine⟨_,rfl,p,a.zli,dx,_,rfl,Ze (o:=.lst []) hlt _ _ q10,T.zlj,T.zmf,(by show 7<1000;decide),?_⟩;rw[pF8];have b12:Vg p H10 (upd (upd H10 lt (.lst [])) p (.ins a.zli dx (sF8 (.int rn) (.int qn) (.ref pr) (.ref pl) (.ref da) (.ref ls) .non (.ref lt)))):=(Vg.of (Ze hlt)).trans .put;have q12:upd (upd H10 lt (.lst [])) p (.ins a.zli dx (sF8 (.int rn) (.int qn) (.ref pr) (.ref pl) (.ref da) (.ref ls) .non (.ref lt))) p=some (.ins a.zli dx (sF8 (.int rn) (.int qn) (.ref pr) (.ref pl) (.ref da) (.ref ls) .non (.ref lt))):=Zc;have l12:upd (upd H10 lt (.lst [])) p (.ins a.zli dx (sF8 (.int rn) (.int qn) (.ref pr) (.ref pl) (.ref da) (.ref ls) .non (.ref lt))) lt=some (.lst []):=by rw[Zi npt,Zc]
 generalize upd (upd H10 lt (.lst [])) p (.ins a.zli dx (sF8 (.int rn) (.int qn) (.ref pr) (.ref pl) (.ref da) (.ref ls) .non (.ref lt)))=H12 at b12 q12 l12;have b912:=b10.trans b12;have b712:=b9.trans b912;have b512:=b7.trans b712;have bb:=b5.trans b512;have kt:∀ t xs,H5 t=some (.tup xs)->H12 t=some (.tup xs):=fun t xs e=>b512 t _ e (Yo e q5 (fun z=>nomatch z));have R12:=R5.keep (fun o e=>b512 _ o e np2.1) (fun o e=>b512 _ o e np2.2) kt;have L12:=L5.keep (fun o e=>b512 _ o e np4.1) (fun o e=>b512 _ o e np4.2.1) (fun o e=>b512 _ o e np4.2.2) kt;have d12:=b712 _ _ d7 npa;have l912:=b912 _ _ l9 nps;have fda:H da=none:=Vg.free b5 ⟨_,q5⟩ hda;have fls:H ls=none:=Vg.free (b5.trans b7) ⟨_,q7⟩ hls;have flt:H lt=none:=Vg.free (b5.trans (b7.trans (b9.trans b10))) ⟨_,q10⟩ hlt;have ex5:(∃ o,H5 pr=some o)/\(∃ o,H5 dr=some o)/\(∃ o,H5 pl=some o)/\(∃ o,H5 lr=some o)/\(∃ o,H5 ld=some o):=by
  obtain⟨⟨x,kv,z1,z2,_⟩,_⟩:=id R5;obtain⟨⟨y,w1⟩,⟨rs,w2,_⟩,⟨ks,w3,_⟩⟩:=id L5;exact⟨⟨_,z1⟩,⟨_,z2⟩,⟨_,w1⟩,⟨_,w2⟩,⟨_,w3⟩⟩
 have n5:∀ {x y:Addr},(∃ o,H5 x=some o)->H5 y=none->x≠y:=fun ⟨o,e⟩ hy=>Zh e hy;have fls5:H5 ls=none:=Vg.free b7 ⟨_,q7⟩ hls;have flt5:H5 lt=none:=Vg.free (b7.trans (b9.trans b10)) ⟨_,q10⟩ hlt;have ndas:da≠ls:=Zh d7 hls;have ndat:da≠lt:=Zh (b10 _ _ (b9 _ _ d7 npa) npa) hlt;have nst:ls≠lt:=Zh (b10 _ _ l9 nps) hlt;obtain⟨e1,e2,e3,e4,e5⟩:=ex5;have nrl:lr≠ld:=n0;refine hF ⟨p,pr,dr,pl,lr,ld,da,ls,lt⟩ H12 rfl ⟨⟨dx,.non,q12,rfl⟩,R12,L12,⟨[],d12,fun i n=>rfl,ztm _⟩,⟨[],l912,.nil⟩,⟨[],l12,.nil⟩,?_,?_⟩ bb ?_
 ·show [p,dr,lr,ld,da,ls,lt].Nodup;simp only[ztz,ztg,zud,or_false,not_or];exact⟨⟨Ne.symm np2.2,Ne.symm np4.2.1,Ne.symm np4.2.2,Ne.symm npa,Ne.symm nps,Ne.symm npt⟩,⟨nrp.2.2.2.1,nrp.2.2.2.2.2,n5 e2 hda,n5 e2 fls5,n5 e2 flt5⟩,⟨nrl,n5 e4 hda,n5 e4 fls5,n5 e4 flt5⟩,⟨n5 e5 hda,n5 e5 fls5,n5 e5 flt5⟩,⟨ndas,ndat⟩,nst,by simp,zu5⟩
 ·have hpr5:∃ x fs,H5 pr=some (.ins a.zlm x fs):=by obtain⟨⟨x,kv,z1,_⟩,_⟩:=R5;exact⟨_,_,z1⟩
  have hdr5:∃ kv,H5 dr=some (.dK kv):=by obtain⟨⟨x,kv,_,z2,_⟩,_⟩:=R5;exact⟨_,z2⟩
  have hpl5:∃ x fs,H5 pl=some (.ins a.zll x fs):=by obtain⟨⟨y,w1⟩,_⟩:=L5;exact⟨_,_,w1⟩
  obtain⟨x1,y1,z1⟩:=hpr5;obtain⟨y2,z2⟩:=hdr5;obtain⟨x3,y3,z3⟩:=hpl5;obtain⟨_,⟨rs,w2,_⟩,⟨ks,w3,_⟩⟩:=id L5;have nm:∀ m,m∈([p,dr,lr,ld,da,ls,lt]:List Addr)↔m=p\/m=dr\/m=lr\/m=ld\/m=da\/m=ls\/m=lt:=fun m=>by simp
  refine⟨fun hm=>?_,fun hm=>?_⟩
  ·rcases(nm _).mp hm with q|q|q|q|q|q|q
   ·exact np2.1 q
   ·exact Yo z1 z2 (fun z=>nomatch z) q
   ·exact nrp.2.2.1 q
   ·exact nrp.2.2.2.2.1 q
   ·exact n5 e1 hda q
   ·exact n5 e1 fls5 q
   ·exact n5 e1 flt5 q
  ·rcases(nm _).mp hm with q|q|q|q|q|q|q
   ·exact np4.1 q
   ·exact nrp.2.1 q.symm
   ·exact Yo z3 w2 (fun z=>nomatch z) q
   ·exact Yo z3 w3 (fun z=>nomatch z) q
   ·exact n5 e3 hda q
   ·exact n5 e3 fls5 q
   ·exact n5 e3 flt5 q
 ·intro x hx hxp;simp only[SAd.fp,ztg,zud,or_false] at hx;rcases hx with q|q|q|q|q|q|q
  ·exact absurd q hxp
  ·rw[q];exact fdr
  ·rw[q];exact flr
  ·rw[q];exact fld
  ·rw[q];exact fda
  ·rw[q];exact fls
  ·rw[q];exact flt
abbrev Xz:Stmt:=Z3 (top 55) 1
theorem T3:Zl ["self"] ["self"] (Zj Xz):=fnS
theorem T4(F:Fun K "check_not_over" "Season.check_not_over" Xz f fd)(T:Tx K mg a)(zlk:Zv P w K mg base a.zli "at_hand" 2 ["self"] (Ub (ca a))):FnOk P w K mg base (CX1 P w) 3 f fd ["self"] (Mb (ca a)):=by
 refine F.okX T3 ⋯ fun _ _ _ _ H _ Q E hr h=>?_;obtain⟨A',S,rfl,SA,h⟩:=h;refine⟨_,(Zf (Z5 (Zn Rk (Yr (pv 0) T.zlj zlk (hr.mono ⋯) Zk) (Zq (K:=K) rfl (pv 0) rfl) (Zu _))
  (Zf (Xh Xg rfl T.zq6 rfl (Za Zo Zd)))
  Zt)),?_⟩
 obtain⟨⟨dx,v,a1,a2⟩,b,c,_⟩:=id SA;refine⟨_,rfl,A'.p,dx,_,rfl,a1,Yq ⋯,A',S,rfl,SA,_,rfl,A'.p,a.zli,dx,_,_,rfl,a1,T.zlj,T.zoe,G9,_,_,rfl,rfl,_,rfl,?_⟩;refine itD (fun hc=>?_) (fun hc=>?_)
 ·rw[if_pos (by unfold atV at hc;omega)] at h;exact⟨sz1,h⟩
 ·rw[if_neg (by unfold atV at hc;omega)] at h;exact h
abbrev X3:Stmt:=Z3 (top 55) 2
theorem Sj:Zl ["self"] ["self"] (Zj X3):=fnS
theorem Sk(F:Fun K "check_undrawn" "Season.check_undrawn" X3 f fd)(T:Tx K mg a)(zls:Zv P w K mg base a.zli "check_not_over" 3 ["self"] (Mb (ca a))):FnOk P w K mg base (CX1 P w) 4 f fd ["self"] (Mc (ca a)):=by
 refine F.okX Sj ⋯ fun _ _ _ _ H _ Q E hr h=>?_;obtain⟨A',S,rfl,SA,h⟩:=h;refine⟨_,(Zb (Z6 (Yr (pv 0) T.zlj zls (hr.mono ⋯) Zk))
 (Zf (Z5 (Zn W9 (Zq (K:=K) rfl (pv 0) rfl) Yz (Zu _))
  (Zf (Xh Xg rfl T.zrb rfl (Za Zo Zd)))
  Zt))),?_⟩
 obtain⟨⟨dx,v,a1,a2⟩,b,c,_⟩:=id SA;refine⟨_,rfl,A'.p,dx,_,rfl,a1,Yq ⋯,A',S,rfl,SA,?_⟩;refine it2 h (fun _ z=>z) fun hn h=>?_;refine⟨_,rfl,A'.p,a.zli,dx,_,_,rfl,a1,T.zlj,T.zl5,Wi,rfl,_,rfl,?_⟩;cases hc:S.cur with
 | none =>
   rw[hc] at a2 h;have a2:v=.non:=a2;rw[a2];exact iteF h
 | some s =>
   rw[hc] at a2 h;obtain⟨q,rfl,_⟩:=a2;exact iteT ⟨sz1,h⟩
abbrev Wm:Stmt:=Z3 (top 55) 3
theorem Ru:Zl ["self","at"] ["self","at"] (Zj Wm):=fnS
theorem Rv(F:Fun K "check_round" "Season.check_round" Wm f fd)(T:Tx K mg a):FnOk P w K mg base (CX1 P w) 1 f fd ["self","at"] (Ef (ca a)):=by
 refine F.okX Ru ⋯ fun _ _ _ _ H _ Q E hr h=>?_;obtain⟨A',S,i,rfl,SA,si,h⟩:=h;refine⟨_,(Zf (Z5 (PW.pt (Rj (Zn zac (pv 1) Zg (Zu _)) (Ux (Zn Rk (pv 1) (Zq (K:=K) rfl (pv 0) rfl) (Zu _)))))
  (Zf (Xh Xg rfl T.zq3 rfl (Za (Vc (Z0 (Wz (pv 1)) (Z0 (Xx ⋯) Vb)) ⋯) Zd)))
  Zt)),?_⟩
 obtain⟨⟨dx,v,a1,a2⟩,b,c,_⟩:=id SA;refine⟨_,rfl,_,_,rfl,rfl,_,rfl,?_⟩;refine itD (fun hc=>?_) (fun hc=>?_)
 ·rw[if_pos (.inl hc)] at h;refine iteT ?_;exact⟨_,rfl,.inl ⟨_,rfl,si⟩,fun z=>⟨sz1,h⟩⟩
 refine⟨_,rfl,_,rfl,A'.p,a.zli,dx,_,_,rfl,a1,T.zlj,T.zoe,G9,_,_,rfl,rfl,_,rfl,?_⟩;refine itD (fun hc2=>?_) (fun hc2=>?_)
 ·rw[if_pos (.inr hc2)] at h;exact⟨_,rfl,.inl ⟨_,rfl,si⟩,fun z=>⟨sz1,h⟩⟩
 ·rw[if_neg (fun z=>z.elim hc hc2)] at h;exact h
abbrev Wr:Stmt:=Z3 (top 55) 4
theorem Qk:Zl ["self"] ["self"] (Zj Wr):=fnS
theorem Ql(F:Fun K "check_room" "Season.check_room" Wr f fd)(T:Tx K mg a):FnOk P w K mg base (CX1 P w) 1 f fd ["self"] (Eg (ca a)):=by
 refine F.okX Qk ⋯ fun _ _ _ _ H _ Q E hr h=>?_;obtain⟨A',S,rfl,SA,h⟩:=h;refine⟨_,(Zf (Z5 (Zn zhe (Zs (cL K) (by rfl) T.zly PySem.boot_len (Za (Zq (K:=K) rfl (pv 0) rfl) Zd)) (Wc rfl T.zmz) (Zu _))
  (Zf (Xh Xg rfl T.zqp rfl (Za (Vc (Z0 (Wz (Wc rfl T.zmz)) (Z0 (Xx ⋯) Vb)) ⋯) Zd)))
  Zt)),?_⟩
 obtain⟨⟨dx,v,a1,a2⟩,b,c,d,f,⟨us,g1,g2⟩,nd,np⟩:=id SA;refine⟨_,rfl,A'.p,a.zli,dx,_,_,rfl,a1,T.zlj,T.zmf,Tj,A'.lt,_,rfl,.inl (SqL.of g1),_,_,rfl,rfl,_,rfl,?_⟩;rw[g2.length];refine itD (fun hc=>?_) (fun hc=>?_)
 ·rw[if_pos ⋯] at h;exact⟨.inl ⟨_,rfl,Yh ⋯⟩,fun z=>⟨sz1,h⟩⟩
 ·rw[if_neg ⋯] at h;exact h
abbrev T5:Stmt:=Z3 (top 55) 5
theorem J7:Zl ["self","word","number","at"] ["self","word","number","at"] (Zj T5):=fnS
theorem J8(F:Fun K "note" "Season.note" T5 f fd)(T:Tx K mg a):FnOk P w K mg base (CX1 P w) 1 f fd ["self","word","number","at"] (Eh (ca a)):=by
 refine F.okX J7 ⋯ fun _ _ _ _ H _ Q E hr h=>?_;obtain⟨A',S,w',n,i,rfl,SA,hz,h⟩:=h;refine⟨_,(Zf (Yv (Zq (K:=K) rfl (pv 0) rfl) (Z7 (Za (Z7 (Za (pv 1) (Za (pv 2) (Za (pv 3) Zd)))) (Za (Zq (K:=K) rfl (pv 0) rfl) Zd))))),?_⟩;obtain⟨⟨dx,v,a1,a2⟩,b,c,⟨kvs,d1,d2⟩,⟨vs,f1,f2⟩,⟨us,g1,g2⟩,nd,np⟩:=id SA;refine⟨_,rfl,A'.p,a.zli,dx,_,_,rfl,a1,T.zlj,T.zmf,Tj,A'.lt,us,rfl,g1,?_⟩;refine⟨_,rfl,_,rfl,_,rfl,sz3,fun t1 ht1=>?_⟩;have s1:=Ze (o:=.tup [.str w',.int n,.int i]) ht1;have q1:upd H t1 (.tup [.str w',.int n,.int i]) t1=some (.tup (Pm (w',n,i))):=Zc;generalize upd H t1 (.tup [.str w',.int n,.int i])=H1 at s1 q1;refine⟨_,rfl,A'.p,a.zli,dx,_,_,rfl,s1 _ _ a1,T.zlj,T.zl5,Wi,sz2,fun t2 ht2=>?_⟩;have s2:=Ze (o:=.tup [.ref t1,v]) ht2;have q2:upd H1 t2 (.tup [.ref t1,v]) t2=some (.tup [.ref t1,v]):=Zc;have q12:=s2 _ _ q1;have s12:=s1.trans s2;generalize upd H1 t2 (.tup [.ref t1,v])=H2 at s2 q2 q12 s12;refine⟨us,s12 _ _ g1,by have:=g2.length;have:=Uz;omega,?_⟩;have fr:FrS A' H (upd H2 A'.lt (.lst (us++[.ref t2]))):=fun b o e hb=>by
  rw[Zi (fun z=>hb (by rw[z];simp[SAd.fp]))];exact s12 _ _ e
 have kt:=SA.tups fr;have kp:∀ x o,x≠A'.lt->H x=some o->upd H2 A'.lt (.lst (us++[.ref t2])) x=some o:=fun x o hx e=>by rw[Zi hx];exact s12 _ _ e
 have kt2:∀ t xs,H2 t=some (.tup xs)->upd H2 A'.lt (.lst (us++[.ref t2])) t=some (.tup xs):=fun t xs e=>by
  rw[Zi (Yo e (s12 _ _ g1) (fun z=>nomatch z))];exact e
 have ko:∀ x o,x∉A'.fp->H x=some o->upd H2 A'.lt (.lst (us++[.ref t2])) x=some o:=fun x o hx e=>fr x o e hx;have nd':=nd;simp only[SAd.fp,ztz,ztg,zud,or_false,not_or] at nd';obtain⟨⟨n1,n2,n3,n4,n5,n6⟩,⟨n7,n8,n9,n10,n11⟩,⟨n12,n13,n14,n15⟩,⟨n16,n17,n18⟩,⟨n19,n20⟩,n21,_⟩:=nd';have npt:A'.pr≠A'.lt/\A'.pl≠A'.lt:=⟨fun z=>np.1 (by rw[z];simp[SAd.fp]),fun z=>np.2 (by rw[z];simp[SAd.fp])⟩;refine h _ ⟨⟨dx,v,kp _ _ n6 a1,a2.keep ko kt⟩,b.keep (fun o e=>kp _ o npt.1 e) (fun o e=>kp _ o n11 e) kt,c.keep (fun o e=>kp _ o npt.2 e) (fun o e=>kp _ o n15 e) (fun o e=>kp _ o n18 e) kt,⟨kvs,kp _ _ n20 d1,d2⟩,⟨vs,kp _ _ n21 f1,f2.keep ko kt⟩,⟨us++[.ref t2],Zc,?_⟩,nd,np⟩ fr;exact(g2.keep ko kt).snoc (kt2 _ _ q2) (kt2 _ _ q12) (a2.keep ko kt)
abbrev X4:Stmt:=Z3 (top 55) 6
theorem Sl:Zl ["self"] ["self"] (Zj X4):=fnS
theorem Sm(F:Fun K "sheet_at_hand" "Season.sheet_at_hand" X4 f fd)(T:Tx K mg a):FnOk P w K mg base (CX1 P w) 1 f fd ["self"] (P9 (ca a)):=by
 refine F.okX Sl ⋯ fun _ _ _ _ H _ Q E hr h=>?_;obtain⟨A',S,rfl,SA,h1,h2⟩:=h;refine⟨_,(Zb (Z5 (Zn Nw (Zq (K:=K) rfl (pv 0) rfl) Yz (Zu _))
  (Zf (Xh Xg rfl T.zqy rfl (Za Zo Zd)))
  Zt)
 (Zf (Zm (Zq (K:=K) rfl (pv 0) rfl)))),?_⟩
 obtain⟨⟨dx,v,a1,a2⟩,b,c,_⟩:=id SA;refine⟨_,rfl,A'.p,a.zli,dx,_,_,rfl,a1,T.zlj,T.zl5,Wi,rfl,_,rfl,?_⟩;cases hc:S.cur with
 | none =>
   rw[hc] at a2;have a2:v=.non:=a2;rw[a2];exact iteT ⟨sz1,h1 hc⟩
 | some s =>
   rw[hc] at a2;obtain⟨q,rfl,hs⟩:=a2;refine iteF ?_;exact⟨_,rfl,A'.p,a.zli,dx,_,_,rfl,a1,T.zlj,T.zl5,Wi,h2 s q hc hs⟩
abbrev Vn:Stmt:=Z3 (top 55) 7
theorem Ot:Zl ["self","at"] ["self","at"] (Zj Vn):=fnS
theorem Ou(F:Fun K "sheet_of" "Season.sheet_of" Vn f fd)(T:Tx K mg a)(zlz:Zv P w K mg base a.zli "check_round" 1 ["self","at"] (Ef (ca a)))(zlo:Zv P w K mg base a.zll "over" 1 ["self"] (N5 a.zll))(zlk:Zv P w K mg base a.zli "at_hand" 2 ["self"] (Ub (ca a)))(zlu:Zv P w K mg base a.zli "sheet_at_hand" 1 ["self"] (P9 (ca a))):FnOk P w K mg base (CX1 P w) 3 f fd ["self","at"] (Fc (ca a)):=by
 refine F.okX Ot ⋯ fun _ _ _ _ H _ Q E hr h=>?_;obtain⟨A',S,i,rfl,SA,si,hol,h⟩:=h;refine⟨_,(Zb (Z6 (Xy (pv 0) T.zlj zlz (hr.mono ⋯) Zk (Za (pv 1) Zd)))
 (Zb (Z5 (Zn zhd (pv 1) (Yr (Zq (K:=K) rfl (pv 0) rfl) T.zl9 zlo (hr.mono ⋯) Zk) (Zu _))
  (Zf (Zm (pI (iL K) (Zq (K:=K) rfl (pv 0) rfl) (Zp Pq (pv 1) Zg))))
  Zt)
 (Zb (Z5 (Zn Rk (pv 1) (Yr (pv 0) T.zlj zlk (hr.mono ⋯) Zk) (Zu _))
  (Zf (Xh Xg rfl T.zqy rfl (Za (Vc (Z0 (Xx ⋯) (Z0 (Wz (pv 1)) (Z0 (Xx ⋯) Vb))) ⋯) Zd)))
  Zt)
 (Zf (Zm (Yr (pv 0) T.zlj zlu (hr.mono ⋯) Zk)))))),?_⟩
 obtain⟨⟨dx,v,a1,a2⟩,b,c,d,⟨vs,f1,f2⟩,_⟩:=id SA;obtain⟨⟨dxl,hpl⟩,_⟩:=id c;refine⟨_,rfl,A'.p,dx,_,rfl,a1,Yq ⋯,_,rfl,A',S,i,rfl,SA,si,?_⟩;refine it2 h (fun _ z=>z) fun hn h=>?_;refine⟨_,rfl,_,rfl,A'.p,a.zli,dx,_,_,rfl,a1,T.zlj,T.zmp,Uv,A'.pl,dxl,_,rfl,hpl,K2 ⋯ ⋯,A'.pl,A'.lr,A'.ld,S.led,rfl,c,_,_,rfl,rfl,_,rfl,?_⟩;refine itD (fun hc=>?_) (fun hc=>?_)
 ·have hk:(i-1).toNat<S.old.length:=by omega
  have hs:Vf S i=some (S.old[(i-1).toNat]'hk):=by unfold Vf;rw[if_pos hc];exact ztb hk
  obtain⟨q,e1,e2⟩:=f2.getR (ztb hk);exact⟨_,rfl,A'.p,a.zli,dx,_,_,rfl,a1,T.zlj,T.zn6,Fb,_,rfl,_,_,rfl,rfl,A'.ls,_,_,_,rfl,rfl,SqL.of f1,(show atI vs (i-1)=some (.ref q) by rw[show i-1=(((i-1).toNat:Nat):Int) by omega];exact Yf e1),h.2 _ q hs e2⟩
 ·refine Zz ?_;refine⟨_,rfl,_,rfl,A'.p,dx,_,rfl,a1,Yq ⋯,A',S,rfl,SA,_,_,rfl,rfl,_,rfl,?_⟩;refine itD (fun hc2=>?_) (fun hc2=>?_)
  ·exact⟨_,rfl,.inl ⟨_,rfl,si⟩,fun z=>⟨sz1,h.1 (by unfold Vf;rw[if_neg hc,if_pos (by unfold atV at hc2;omega)])⟩⟩
  ·have hs:Vf S i=S.cur:=by unfold Vf;rw[if_neg hc,if_neg (by unfold atV at hc2;omega)]
   exact⟨_,rfl,A'.p,dx,_,rfl,a1,Yq ⋯,A',S,rfl,SA,fun hz=>h.1 (by rw[hs];exact hz),fun s q hz hq=>h.2 s q (by rw[hs];exact hz) hq⟩
abbrev W5:Stmt:=Z3 (top 55) 8
theorem Xu:Zl ["self","listed","people","at","out"] ["self","listed"] (Zj W5):=fnS
theorem Ph(F:Fun K "takers_of" "Season.takers_of" W5 f fd)(T:Tx K mg a)(zmw:Zv P w K mg base a.zlm "numbers" 1 ["self"] (K7 (ca a)))(znx:Zv P w K mg base a.zlm "person" 3 ["self","number"] (D9 (ca a)))(zlk:Zv P w K mg base a.zli "at_hand" 2 ["self"] (Ub (ca a)))(zqn:Z4 P w K mg base "takers" 4 ["people","match","out","ledger","rest"] (D2 K a.zll)):FnOk P w K mg base (CX1 P w) 5 f fd ["self","listed"] (Oa (ca a)):=by
 refine F.okX Xu ⋯ fun _ _ _ _ H _ Q E hr h=>?_;obtain⟨A',S,l,ts,ms,rfl,SA,hl,tl,hml,hpl,hsm,h⟩:=h;have hu:=Wq hr;refine⟨_,(Zb (pS 2 Xu.nd (Vh rfl (cT ["self"] [0]) (Yd (K:=K) rfl (Yr (Zq (K:=K) rfl (pv 0) rfl) T.zl1 zmw (hr.mono ⋯) Zk)) (fun _ _ _ _ _=>V5) (fun _ _ _ _ _=>(Xy (Zq (K:=K) rfl (pv 1) rfl) T.zl1 znx (hr.mono ⋯) zan (Za (pv 0) Zd)))))
 (Zb (pS 3 Xu.nd (Yr (pv 0) T.zlj zlk (hr.mono ⋯) Zk))
 (Zb (pS 4 Xu.nd (Vh rfl (cT ["at","self"] [3,0]) (Yd (K:=K) rfl (Yr (Zq (K:=K) rfl (pv 0) rfl) T.zl1 zmw (hr.mono ⋯) Zk)) (fun _ _ _ _ _=>Qw (Tr (Pt hu (Z7 (Za (pv 1) (Za (pv 0) Zd))) (Zq (K:=K) rfl (pv 2) rfl)))) (fun _ _ _ _ _=>(pv 0))))
 (Zf (Zm (Vh rfl (cT ["people","out","self"] [2,4,0]) (Yd (K:=K) rfl (pv 1)) (fun _ _ _ _ _=>V5) (fun _ _ _ _ _=>(zao zqn (hr.mono ⋯) zan rfl (Za (pv 1) (Za (pv 0) (Za (pv 2) (Za (Zq (K:=K) rfl (pv 3) rfl) (Za (Zq (K:=K) rfl (pv 3) rfl) Zd))))))))))))),?_⟩
 obtain⟨⟨dx,v,a1,a2⟩,b,c,⟨kvs,d1,d2⟩,_⟩:=id SA;obtain⟨⟨dxr,kvr,hpr,hdr,en⟩,ndr⟩:=id b;refine⟨_,rfl,A'.p,a.zli,dx,_,_,rfl,a1,T.zlj,T.zml,Vv,A'.pr,dxr,_,rfl,hpr,Xi.no ⋯,A'.pr,A'.dr,S.ppl,rfl,b,fun ln hln=>?_⟩;have s1:=Ze (o:=.lst (S.ppl.map fun x=>V.int x.1)) hln;have q1:upd H ln (.lst (S.ppl.map fun x=>V.int x.1)) ln=some (.lst (S.ppl.map fun x=>V.int x.1)):=Zc;generalize upd H ln (.lst (S.ppl.map fun x=>V.int x.1))=H1 at s1 q1;have hnl:(S.ppl.map fun x=>V.int x.1).length=S.ppl.length:=by rw[zta]
 refine⟨ln,rfl,⟨_,SqL.of q1⟩,Xw (K:=K) (xs:=S.ppl.map fun x=>V.int x.1) (fun i ys H'=>Same H H'/\Same H1 H'/\TupL H' ys ((S.ppl.take i).map pV)/\ys.length=i) ⟨s1,Same.refl _,.nil,rfl⟩ (fun i ys H' _ ⟨_,z,_⟩=>SqL.of (z _ _ q1)) (szN ⋯) (fun i ys H' ⟨_,_,_,e⟩=>by omega) ?_ ?_⟩
 ·rintro i x ys H' hx ⟨sh,s1',tl',hyl⟩;have hi:i<S.ppl.length:=by have:=(ztd.mp hx).1;omega
  have hpi:S.ppl[i]?=some (S.ppl[i]'hi):=ztb hi;have etk:S.ppl.take (i+1)=S.ppl.take i++[S.ppl[i]'hi]:=zub hi;have hmem:S.ppl[i]'hi∈S.ppl:=zue hi;have ex:x=.int (S.ppl[i]'hi).1:=by rw[ztj,hpi] at hx;exact(Option.some.inj hx).symm
  generalize (S.ppl[i]'hi)=pp at hpi etk hmem ex;subst ex;unfold tYes;dsimp only;rw[if_pos rfl];refine⟨_,rfl,A'.p,a.zli,dx,_,_,rfl,sh _ _ a1,T.zlj,T.zml,Vv,A'.pr,dxr,_,rfl,sh _ _ hpr,Xi.no ⋯,_,rfl,A'.pr,A'.dr,S.ppl,pp.1,rfl,b.same sh,hsm pp hmem,fun z=>absurd (ztk.mpr ⟨pp,hmem,rfl⟩) z,fun g c' t H2 hm ht s2 _=>?_⟩;have epp:=zgr b.nd hm hmem rfl;rw[epp] at ht;refine⟨sh.trans s2,s1'.trans s2,?_,by rw[ztc,hyl];rfl⟩;rw[etk,zti];exact(tl'.same s2).snoc ht
 rintro ys H2 ⟨sh2,s12,tl2,hyl⟩ lp hlp;rw[hnl,ztq] at tl2;have s3:=sh2.trans (Ze (o:=.lst ys) hlp);have q3:upd H2 lp (.lst ys) lp=some (.lst ys):=Zc;have tl3:=tl2.same (Ze (o:=.lst ys) hlp);generalize upd H2 lp (.lst ys)=H3 at s3 q3 tl3;have SA3:=SA.same s3;refine⟨_,rfl,A'.p,dx,_,rfl,s3 _ _ a1,Yq ⋯,A',S,rfl,SA3,?_⟩;refine⟨_,rfl,A'.p,a.zli,dx,_,_,rfl,s3 _ _ a1,T.zlj,T.zml,Vv,A'.pr,dxr,_,rfl,s3 _ _ hpr,Xi.no ⋯,A'.pr,A'.dr,S.ppl,rfl,b.same s3,fun ln4 hln4=>?_⟩;have s4:=Ze (o:=.lst (S.ppl.map fun x=>V.int x.1)) hln4;have q4:upd H3 ln4 (.lst (S.ppl.map fun x=>V.int x.1)) ln4=some (.lst (S.ppl.map fun x=>V.int x.1)):=Zc;generalize upd H3 ln4 (.lst (S.ppl.map fun x=>V.int x.1))=H4 at s4 q4;refine⟨ln4,rfl,⟨_,SqL.of q4⟩,Xw (K:=K) (xs:=S.ppl.map fun x=>V.int x.1) (fun i ys H'=>Same H4 H'/\ys=((S.ppl.take i).filter (pIn S.out (atV S))).map fun x=>V.int x.1) ⟨Same.refl _,rfl⟩ (fun i ys H' _ ⟨z,_⟩=>SqL.of (z _ _ q4)) (szN ⋯) (fun i ys H' ⟨_,e⟩=>by rw[e,zta];exact zts (zuf _ _) (zul _ _)) ?_ ?_⟩
 ·rintro i x zs H' hx ⟨s4',rfl⟩;have hi:i<S.ppl.length:=by have:=(ztd.mp hx).1;omega
  have hpi:S.ppl[i]?=some (S.ppl[i]'hi):=ztb hi;have etk:S.ppl.take (i+1)=S.ppl.take i++[S.ppl[i]'hi]:=zub hi;have ex:x=.int (S.ppl[i]'hi).1:=by rw[ztj,hpi] at hx;exact(Option.some.inj hx).symm
  generalize (S.ppl[i]'hi)=pp at hpi etk ex;subst ex;refine⟨_,rfl,_,rfl,sz2,fun t ht=>?_⟩;have s5:=Ze (o:=.tup [.int (atV S),.int pp.1]) ht;have q5:upd H' t (.tup [.int (atV S),.int pp.1]) t=some (.tup (([inl (atV S),inl pp.1]:List Key).map kV)):=Zc;generalize upd H' t (.tup [.int (atV S),.int pp.1])=H5 at s5 q5;have sh5:=s3.trans (s4.trans (s4'.trans s5));refine⟨_,rfl,A'.p,a.zli,dx,_,_,rfl,sh5 _ _ a1,T.zlj,T.zng,Q5,A'.da,_,rfl,DGet.t (k:=[inl (atV S),inl pp.1]) (sh5 _ _ d1) q5,_,rfl,?_⟩;rw[d2.isSome];have e2:∀ ws,((S.ppl.take (i+1)).filter (pIn S.out (atV S))).map (fun x=>V.int x.1)=((S.ppl.take i).filter (pIn S.out (atV S))).map (fun x=>V.int x.1)++ws↔ws=if pIn S.out (atV S) pp then [V.int pp.1] else []:=fun ws=>by
   rw[etk,zu0,zti,zvm];cases q:pIn S.out (atV S) pp<;>simp[q,eq_comm]
  refine itB (fun hb=>?_) (fun hb=>?_)
  ·exact⟨_,rfl,s4'.trans s5,((e2 [V.int pp.1]).mpr (by rw[show pIn S.out (atV S) pp=true from hb];rfl)).symm⟩
  ·refine⟨s4'.trans s5,?_⟩;have:=(e2 []).mpr (by rw[show pIn S.out (atV S) pp=false from hb];rfl);rw[zvf] at this;exact this.symm
 rintro zs H5 ⟨s45,rfl⟩ lo hlo;rw[hnl,ztq];have s6:=s45.trans (Ze (o:=.lst (outV S)) hlo);have q6:upd H5 lo (.lst (outV S)) lo=some (.lst (outV S)):=Zc;show Wu 4 (V.ref lo) _ (upd H5 lo (.lst (outV S))) _;generalize upd H5 lo (.lst (outV S))=H6 at s6 q6;have s36:=s4.trans s6;have s06:=s3.trans s36;have hl6:=s06 _ _ hl;have hts:ts.length=ms.length:=by rw[tl.length,zta]
 refine⟨_,rfl,l,rfl,⟨_,SqL.of hl6⟩,Xw (K:=K) (xs:=ts) (fun i ys H'=>Same H6 H'/\∃ ls,ys=ls.map V.ref/\ILs H' ls ((mayS S ms).take i)/\ls.length=i/\∀ x∈ls,H x=none) ⟨Same.refl _,[],rfl,.nil,rfl,by simp⟩ (fun i ys H' _ ⟨z,_⟩=>SqL.of (z _ _ hl6)) (szN ⋯) (fun i ys H' ⟨_,ls,e1,_,e2,_⟩=>by rw[e1,zta];omega) ?_ ?_⟩
 ·rintro i x ys' H' hx ⟨s6',ls,rfl,il,hll,hfr⟩;obtain⟨tm,m,rfl,hm,htm⟩:=K3 tl hx;have s0:=s06.trans s6';unfold tYes;dsimp only;rw[if_pos rfl];refine⟨_,rfl,_,rfl,_,rfl,_,rfl,A'.p,a.zli,dx,_,_,rfl,s0 _ _ a1,T.zlj,T.zmp,Uv,_,rfl,A'.p,a.zli,dx,_,_,rfl,s0 _ _ a1,T.zlj,T.zqg,zgq,lp,lo,tm,A'.pl,A'.lr,A'.ld,S.led,ys,S.ppl,outV S,m.1,m.2.1,m.2.2,S.rest,rfl,(s36.trans s6') _ _ q3,tl3.same (s36.trans s6'),s6' _ _ q6,zez S,s0 _ _ htm,c.same s0,by omega,fun l2 H2 hl2 s2 f2=>?_⟩;rw[zi3] at hl2;refine⟨s6'.trans s2,ls++[l2],by rw[zti];rfl,?_,by rw[ztc,hll];rfl,fun y hy=>?_⟩
  ·have e:(mayS S ms).take (i+1)=(mayS S ms).take i++[Jb S m]:=by
    unfold mayS;rw[zua,ztj,hm];rfl
   rw[e];exact(il.same s2).snoc hl2
  ·rcases ztl.mp hy with z|z
   ·exact hfr y z
   ·rw[zte.mp z];exact s0.free f2
 ·rintro ys' H' ⟨s6',ls,rfl,il,hll,hfr⟩ l' hl';have hmy:(mayS S ms).length=ms.length:=by unfold mayS;rw[zta]
  rw[hts,<- hmy,ztq] at il;have s0:=s06.trans s6';exact h l' ls _ Zc (il.same (Ze hl')) (s0.trans (Ze hl')) (s0.free hl') hfr
abbrev Ta:Stmt:=Z3 (top 55) 9
theorem Kg:Zl ["self","number","grade","club"] ["self","number","grade","club"] (Zj Ta):=fnS
theorem Kh(F:Fun K "enrol" "Season.enrol" Ta f fd)(T:Tx K mg a)(zlt:Zv P w K mg base a.zli "check_undrawn" 4 ["self"] (Mc (ca a)))(zl4:Zv P w K mg base a.zlm "check_new" 2 ["self","number","grade","club"] (P6 (ca a)))(zlp:Zv P w K mg base a.zli "check_room" 1 ["self"] (Eg (ca a)))(zl6:Zv P w K mg base a.zli "note" 1 ["self","word","number","at"] (Eh (ca a)))(zlk:Zv P w K mg base a.zli "at_hand" 2 ["self"] (Ub (ca a)))(zo3:Zv P w K mg base a.zlm "add" 3 ["self","number","grade","club"] (zey (ca a))):FnOk P w K mg base (CX1 P w) 5 f fd ["self","number","grade","club"] (za5 (ca a)):=by
 refine F.okX Kg ⋯ fun _ _ _ _ H _ Q E hr h=>?_;obtain⟨A',S,n,g,c0,rfl,SA,sm,hz,hz2,h⟩:=h;refine⟨_,(Zb (Z6 (Yr (pv 0) T.zlj zlt (hr.mono ⋯) Zk))
 (Zb (Z6 (Xy (Zq (K:=K) rfl (pv 0) rfl) T.zl1 zl4 (hr.mono ⋯) Zk (Za (pv 1) (Za (pv 2) (Za (pv 3) Zd)))))
 (Zb (Z6 (Yr (pv 0) T.zlj zlp (hr.mono ⋯) Zk))
 (Zb (Z6 (Xy (pv 0) T.zlj zl6 (hr.mono ⋯) Zk (Za Zo (Za (pv 1) (Za (Yr (pv 0) T.zlj zlk (hr.mono ⋯) Zk) Zd)))))
 (Zf (Z6 (Xy (Zq (K:=K) rfl (pv 0) rfl) T.zl1 zo3 (hr.mono ⋯) Zk (Za (pv 1) (Za (pv 2) (Za (pv 3) Zd)))))))))),?_⟩
 obtain⟨⟨dx,v,a1,a2⟩,b,c,_⟩:=id SA;obtain⟨⟨dxr,kvr,hpr,hdr,en⟩,ndr⟩:=id b;refine⟨_,rfl,A'.p,dx,_,rfl,a1,Yq ⋯,A',S,rfl,SA,?_⟩;refine it2 h (fun _ z=>z) fun h1 h=>it2 h (fun _ z=>z) fun h2 h=>?_;refine⟨_,rfl,A'.p,a.zli,dx,_,_,rfl,a1,T.zlj,T.zml,Vv,A'.pr,dxr,_,rfl,hpr,Xi.no ⋯,_,rfl,_,rfl,_,rfl,A'.pr,A'.dr,S.ppl,n,g,c0,rfl,b,sm,?_⟩;refine it2 h (fun _ z=>z) fun h3 h=>it2 h (fun _ z=>z) fun h4 h=>it2 h (fun _ z=>z) fun h5 h=>?_;refine⟨_,rfl,A'.p,dx,_,rfl,a1,Yq ⋯,A',S,rfl,SA,?_⟩;refine it2 h (fun _ z=>z) fun h6 h=>?_;refine⟨_,rfl,A'.p,dx,_,rfl,a1,Yq ⋯,_,rfl,_,rfl,A'.p,dx,_,rfl,a1,Yq ⋯,A',S,rfl,SA,A',S,"enrol",n,atV S,rfl,SA,hz,fun H1 SA1 f1=>?_⟩;obtain⟨⟨dx1,v1,a11,a12⟩,b1,c1,_⟩:=id SA1;obtain⟨⟨dxr1,kvr1,hpr1,hdr1,en1⟩,ndr1⟩:=id b1;refine⟨_,rfl,A'.p,a.zli,dx1,_,_,rfl,a11,T.zlj,T.zml,Vv,A'.pr,dxr1,_,rfl,hpr1,Xi.no ⋯,_,rfl,_,rfl,_,rfl,A'.pr,A'.dr,S.ppl,n,g,c0,rfl,b1,sm,hz2,?_⟩;rw[if_neg h3,if_neg h4,if_neg h5];intro H2 R2 k2;obtain⟨SA2,f2⟩:=SA1.setRos R2 k2;exact h H2 SA2 (f1.trans f2)
abbrev V1:Stmt:=Z3 (top 55) 10
theorem To:Zl ["self","matches","listed"] ["self","matches"] (Zj V1):=fnS
theorem Nl(F:Fun K "draw_up" "Season.draw_up" V1 f fd)(T:Tx K mg a)(zlt:Zv P w K mg base a.zli "check_undrawn" 4 ["self"] (Mc (ca a)))(zp3:Z4 P w K mg base "checked" 3 ["matches"] (Jc K (ca a)))(zlp:Zv P w K mg base a.zli "check_room" 1 ["self"] (Eg (ca a)))(zl6:Zv P w K mg base a.zli "note" 1 ["self","word","number","at"] (Eh (ca a)))(zlk:Zv P w K mg base a.zli "at_hand" 2 ["self"] (Ub (ca a)))(zol:Z4 P w K mg base "drawn_sheet" 4 ["listed","lists"] (za3 (ca a)))(zl2:Zv P w K mg base a.zli "takers_of" 5 ["self","listed"] (Oa (ca a)))(zm0:Zv P w K mg base a.zln "goes" 1 ["self"] (K8 (ca a))):FnOk P w K mg base (CX1 P w) 6 f fd ["self","matches"] (Cm K (ca a)):=by
 refine F.okX To ⋯ fun _ _ _ _ H _ Q E hr h=>?_;obtain⟨A',S,b,ts,ms,rfl,SA,hs,tl,sm,hml,hz,po,h⟩:=h;refine⟨_,(Zb (Z6 (Yr (pv 0) T.zlj zlt (hr.mono ⋯) Zk))
 (Zb (pS 2 To.nd (pF zp3 hr (Za (pv 1) Zd)))
 (Zb (Z6 (Yr (pv 0) T.zlj zlp (hr.mono ⋯) Zk))
 (Zb (Z6 (Xy (pv 0) T.zlj zl6 (hr.mono ⋯) Zk (Za Zo (Za (Zs (cL K) (by rfl) T.zly PySem.boot_len (Za (pv 2) Zd)) (Za (Yr (pv 0) T.zlj zlk (hr.mono ⋯) Zk) Zd)))))
 (Zb (Y5 (K:=K) rfl (pv 0) (pF zol hr (Za (pv 2) (Za (Xy (pv 0) T.zlj zl2 (hr.mono ⋯) Zk (Za (pv 2) Zd)) Zd))) rfl)
 (Zf (Zm (Yr (Zq (K:=K) rfl (pv 0) rfl) T.zlv zm0 (hr.mono ⋯) Zk)))))))),?_⟩
 obtain⟨⟨dx,v,a1,a2⟩,br,cl,_⟩:=id SA;have hts:ts.length=ms.length:=by rw[tl.length,zta]
 refine⟨_,rfl,A'.p,dx,_,rfl,a1,Yq ⋯,A',S,rfl,SA,?_⟩;refine it2 h (fun _ z=>z) fun h1 h=>it2 h (fun _ z=>z) fun h2 h=>?_;refine⟨_,rfl,b,ts,ms,rfl,hs,tl,sm,hml,h.1,h.2.1,h.2.2.1,fun g1 g2 g3 l1 hl1=>?_⟩;have h4:=h.2.2.2 g1 g2 g3;have s1:=Ze (o:=.lst ts) hl1;have q1:upd H l1 (.lst ts) l1=some (.lst ts):=Zc;generalize upd H l1 (.lst ts)=H1 at s1 q1;have SA1:=SA.same s1;have a11:=s1 _ _ a1;refine⟨_,rfl,A'.p,dx,_,rfl,a11,Yq ⋯,A',S,rfl,SA1,?_⟩;refine Dr (fun z=>h4.1 z H1 s1) (fun hroom=>?_);refine⟨_,rfl,A'.p,dx,_,rfl,a11,Yq ⋯,_,rfl,l1,_,rfl,.inl (SqL.of q1),_,rfl,A'.p,dx,_,rfl,a11,Yq ⋯,A',S,rfl,SA1,A',S,"draw up",(ts.length:Nat),atV S,rfl,SA1,hz,fun H2 SA2 f2=>?_⟩;rw[hts] at SA2;have ok1:l1∉A'.fp:=SA.newOk l1 hl1;have q12:=f2 _ _ q1 ok1;have tl2:=(tl.same s1).mono (SA1.tups f2);obtain⟨⟨dx2,v2,a21,a22⟩,br2,_⟩:=id SA2;refine⟨_,rfl,_,rfl,A'.p,dx2,_,rfl,a21,Yq ⋯,_,rfl,A',_,l1,ts,ms,rfl,SA2,q12,tl2,by omega,zts po.2 ⋯,po.small,fun l2 ls H3 h3 il3 s3 f3 fl3=>?_⟩;have SA3:=SA2.same s3;have mo:Lc (mayS S ms) (S.ppl.map (·.1)):=po.may br2.nd g1;refine⟨(·∉A'.fp),l1,l2,ts,ls,ms,mayS S ms,_,rfl,s3 _ _ q12,tl2.same s3,h3,il3,ok1,SA2.newOk l2 f3,fun x hx=>SA2.newOk x (fl3 x hx),SA3.newOk,mo,fun q gv H4 ShA FP SP s4 fq=>?_⟩;have SA4:=SA3.same s4;obtain⟨⟨dx4,v4,a41,a42⟩,_⟩:=id SA4;refine⟨_,rfl,A'.p,a.zli,dx4,_,rfl,a41,T.zlj,T.zl5,(by show 8<1000;decide),?_⟩;obtain⟨SA5,f5,Sh5⟩:=SA4.newSheet a41 ShA;generalize upd H4 A'.p (.ins a.zli dx4 (putF "sheet" (.ref q) (seaF A' S.len S.rest v4)))=H5 at SA5 f5 Sh5;obtain⟨⟨dx5,v5,a51,a52⟩,_⟩:=id SA5;obtain⟨q',rfl,Sq⟩:=a52;obtain⟨dxq,m1,m2,m3,m4,hq'⟩:=ShAt.ins Sq;refine⟨_,rfl,A'.p,a.zli,dx5,_,_,rfl,a51,T.zlj,T.zl5,Wi,q',dxq,_,rfl,hq',Sx ⋯ ⋯ ⋯ ⋯,(·∉A'.fp),q',_,rfl,Sq,fun l H6 hl s6 fl=>?_⟩;have fr5:FrS A' H H5:=(FrS.of A' s1).trans (f2.trans ((FrS.of A' (s3.trans s4)).trans f5));exact h4.2 ⋯ l gv H6 hl (SA5.same s6) FP SP (fr5.trans (FrS.of A' s6)) (fr5.free SA5 fl)
abbrev T6:Stmt:=Z3 (top 55) 11
theorem J9:Zl ["self","at","number"] ["self","at","number"] (Zj T6):=fnS
theorem Ia(F:Fun K "away" "Season.away" T6 f fd)(T:Tx K mg a)(zlz:Zv P w K mg base a.zli "check_round" 1 ["self","at"] (Ef (ca a)))(zlo:Zv P w K mg base a.zll "over" 1 ["self"] (N5 a.zll))(zlx:Zv P w K mg base a.zlm "check_known" 1 ["self","number"] (Sw (ca a)))(zlp:Zv P w K mg base a.zli "check_room" 1 ["self"] (Eg (ca a)))(zl6:Zv P w K mg base a.zli "note" 1 ["self","word","number","at"] (Eh (ca a)))(zlk:Zv P w K mg base a.zli "at_hand" 2 ["self"] (Ub (ca a)))(znn:Zv P w K mg base a.zli "step_in" 6 ["self","number"] (Cn (ca a))):FnOk P w K mg base (CX1 P w) 7 f fd ["self","at","number"] (ze2 (ca a)):=by
 refine F.okX J9 ⋯ fun _ _ _ _ H _ Q E hr h=>?_;obtain⟨A',S,i,n,rfl,SA,si,sn,hz,hoz,po,hcur,h⟩:=h;have hu:=Wq hr;refine⟨_,(Zb (Z6 (Xy (pv 0) T.zlj zlz (hr.mono ⋯) Zk (Za (pv 1) Zd)))
 (Zb (Z5 (Zn zhd (pv 1) (Yr (Zq (K:=K) rfl (pv 0) rfl) T.zl9 zlo (hr.mono ⋯) Zk) (Zu _))
  (Zf (Xh Xg rfl T.zq8 rfl (Za (Vc (Z0 (Xx ⋯) (Z0 (Wz (pv 1)) (Z0 (Xx ⋯) Vb))) ⋯) Zd)))
  Zt)
 (Zb (Z6 (Xy (Zq (K:=K) rfl (pv 0) rfl) T.zl1 zlx (hr.mono ⋯) Zk (Za (pv 2) Zd)))
 (Zb (Z5 (Tr (Pt hu (Z7 (Za (pv 1) (Za (pv 2) Zd))) (Zq (K:=K) rfl (pv 0) rfl)))
  (Zf (Xh Xg rfl T.zq2 rfl (Za (Vc (Z0 (Xx ⋯) (Z0 (Wz (pv 2)) (Z0 (Xx ⋯) (Z0 (Wz (pv 1)) (Z0 (Xx ⋯) Vb))))) ⋯) Zd)))
  Zt)
 (Zb (Z6 (Yr (pv 0) T.zlj zlp (hr.mono ⋯) Zk))
 (Zb (Z6 (Xy (pv 0) T.zlj zl6 (hr.mono ⋯) Zk (Za Zo (Za (pv 2) (Za (pv 1) Zd)))))
 (Zb (Yn hu (Zq (K:=K) rfl (pv 0) rfl) (Z7 (Za (pv 1) (Za (pv 2) Zd))) T9 rfl)
 (Zb (Z5 (PW.pt (Rj (Zn Rk (pv 1) (Yr (pv 0) T.zlj zlk (hr.mono ⋯) Zk) (Zu _)) (Ux (Zn Nw (Zq (K:=K) rfl (pv 0) rfl) Yz (Zu _)))))
  (Zf (Zm (Z9 Zd)))
  Zt)
 (Zf (Zm (Xy (pv 0) T.zlj znn (hr.mono ⋯) Zk (Za (pv 2) Zd)))))))))))),?_⟩
 show let y1:TS:=_;let y2:TS:=Zw _ y1;let y3:TS:=Zw _ y2;let y4:TS:=Zw _ y3;let y5:TS:=Zw _ y4;let y6:TS:=Zw _ y5;let y7:TS:=Zw _ y6;let y8:TS:=Zw _ y7;Zw _ y8 _ _ _;intro y1 y2 y3 y4 y5 y6 y7 y8;obtain⟨⟨dx,v,a1,a2⟩,br,cl,⟨kvs,d1,d2⟩,_⟩:=id SA;obtain⟨⟨dxl,hpl⟩,_⟩:=id cl;obtain⟨⟨dxr,kvr,hpr,hdr,en⟩,ndr⟩:=id br;refine⟨_,rfl,A'.p,dx,_,rfl,a1,Yq ⋯,_,rfl,A',S,i,rfl,SA,si,?_⟩;refine it2 h (fun _ z=>z) fun h1 h=>?_;refine⟨_,rfl,_,rfl,A'.p,a.zli,dx,_,_,rfl,a1,T.zlj,T.zmp,Uv,A'.pl,dxl,_,rfl,hpl,K2 ⋯ ⋯,A'.pl,A'.lr,A'.ld,S.led,rfl,cl,_,_,rfl,rfl,_,rfl,?_⟩;refine itD (fun hc=>?_) (fun hc=>?_)
 ·rw[if_pos hc] at h;exact⟨_,rfl,.inl ⟨_,rfl,si⟩,fun z=>⟨sz1,h⟩⟩
 rw[if_neg hc] at h;refine Zz ?_;refine⟨_,rfl,A'.p,a.zli,dx,_,_,rfl,a1,T.zlj,T.zml,Vv,A'.pr,dxr,_,rfl,hpr,Xi.no ⋯,_,rfl,A'.pr,A'.dr,S.ppl,n,rfl,br,sn,?_⟩;refine it2 h (fun hk h=>?_) (fun _ z=>z);refine⟨_,rfl,_,rfl,sz2,fun t ht=>?_⟩;have s1:=Ze (o:=.tup [.int i,.int n]) ht;have q1:upd H t (.tup [.int i,.int n]) t=some (.tup (([inl i,inl n]:List Key).map kV)):=Zc;generalize upd H t (.tup [.int i,.int n])=H1 at s1 q1;have SA1:=SA.same s1;have a11:=s1 _ _ a1;refine⟨_,rfl,A'.p,a.zli,dx,_,_,rfl,a11,T.zlj,T.zng,Q5,A'.da,_,rfl,DGet.t (k:=[inl i,inl n]) (s1 _ _ d1) q1,_,rfl,?_⟩;rw[d2.isSome];refine itD (fun hm=>?_) (fun hm=>?_)
 ·rw[if_pos hm] at h;exact⟨_,rfl,.inl ⟨_,rfl,sn⟩,_,rfl,.inl ⟨_,rfl,si⟩,fun z=>⟨sz1,h H1 s1⟩⟩
 rw[if_neg hm] at h;refine Zz ?_;refine⟨_,rfl,A'.p,dx,_,rfl,a11,Yq ⋯,A',S,rfl,SA1,?_⟩;refine it2 h (fun _ z=>z H1 s1) fun h6 h=>?_;refine⟨_,rfl,A'.p,dx,_,rfl,a11,Yq ⋯,_,rfl,_,rfl,A',S,"away",n,i,rfl,SA1,hz,fun H2 SA2 f2=>?_⟩;obtain⟨⟨dx2,v2,a21,a22⟩,br2,cl2,⟨kvs2,d21,d22⟩,_⟩:=id SA2;refine⟨_,rfl,A'.p,a.zli,dx2,_,_,rfl,a21,T.zlj,T.zng,Q5,_,rfl,_,rfl,sz2,fun t2 ht2=>?_⟩;have s3:=Ze (o:=.tup [.int i,.int n]) ht2;have q3:upd H2 t2 (.tup [.int i,.int n]) t2=some (.tup (([inl i,inl n]:List Key).map kV)):=Zc;generalize upd H2 t2 (.tup [.int i,.int n])=H3 at s3 q3;have SA3:=SA2.same s3;refine⟨A'.da,_,rfl,DPut.t (k:=[inl i,inl n]) (s3 _ _ d21) q3 (by have:=d22.2;have h9:kvs2.length<=S.out.length:=this;have:=Uz;omega),?_⟩;obtain⟨SA4,f4⟩:=SA3.setOut (out:=S.out++[(i,n)]) Zc (d22.put i n) (fun b o e hb=>by rw[Zi hb];exact e);generalize upd H3 A'.da (.dT (putK kvs2 [inl i,inl n] (.bl true)))=H4 at SA4 f4;have SA4:Zx (ca a) H4 A' (Xe S i n):=SA4;have fr4:FrS A' H H4:=(FrS.of A' s1).trans (f2.trans ((FrS.of A' s3).trans f4));obtain⟨⟨dx4,v4,a41,a42⟩,br4,_⟩:=id SA4;have empty:(S.cur=none\/atV S<i)->∀ l,H4 l=none->Q (.ref l) (upd H4 l (.lst [])):=fun hz l hl=>h.1 hz l _ Zc (SA4.same (Ze hl)) (fr4.trans (FrS.of A' (Ze hl))) (fr4.free SA4 hl);refine⟨_,rfl,_,rfl,A'.p,dx4,_,rfl,a41,Yq ⋯,A',_,rfl,SA4,_,_,rfl,rfl,_,rfl,?_⟩;refine itD (fun hgt=>?_) (fun hle=>?_)
 ·refine iteT ?_;exact⟨by show 0<=sizeLine;decide,fun l hl=>empty (.inr hgt) l hl⟩
 have hat:i=atV S:=by
  have hle:¬ (atV S<i):=hle;unfold atV at hle ⊢;omega
 refine⟨_,rfl,A'.p,a.zli,dx4,_,_,rfl,a41,T.zlj,T.zl5,Wi,rfl,_,rfl,?_⟩;cases hc4:S.cur with
 | none =>
   have e4:v4=.non:=by
    have:ShO a.zln (·∉A'.fp) H4 v4 S.cur:=a42;rw[hc4] at this;exact this
   rw[e4];refine iteT ?_;exact⟨by show 0<=sizeLine;decide,fun l hl=>empty (.inl hc4) l hl⟩
 | some s =>
   have e4:∃ q,v4=.ref q:=by
    have:ShO a.zln (·∉A'.fp) H4 v4 S.cur:=a42;rw[hc4] at this;obtain⟨q,e,_⟩:=this;exact⟨q,e⟩
   obtain⟨q4,rfl⟩:=e4;refine iteF (Zz ?_);obtain⟨hm20,FP,emay,hgz⟩:=hcur s hc4;have po4:Qb (Xe S i n):=po;have hgl:s.gv.length<=100:=by rw[FP.len,emay];unfold mayS;rw[zta];omega
   refine⟨_,rfl,A'.p,dx4,_,rfl,a41,Yq ⋯,_,rfl,A',Xe S i n,n,s,(Xe S i n).ppl.map (·.1),rfl,SA4,hc4,po4,hm20,FP.one,hgl,hgz,po4.may br4.nd hm20,fun hp l H5 hl SA5 f5 fl=>?_,fun p hp=>?_⟩
   ·exact h.2.1 s hat hc4 hp l H5 hl SA5 (fr4.trans f5) (fr4.free SA4 fl)
   ·have hgp:=S4 hp;refine⟨hgp,fun j hj=>FP.inj j p n hj hgp,?_,fun l us st e w' H5 hl tl CR SA5 f5 fl=>?_⟩
    ·rw[hat,Uc,<- emay];exact Uq FP hgp
    ·exact h.2.2 s p hat hc4 hp l us st e w' H5 hl tl CR SA5 (fr4.trans f5) (fr4.free SA4 fl)
abbrev V2:Stmt:=Z3 (top 55) 12
theorem Vo:Zl ["self","number","lists","fallen"] ["self","number"] (Zj V2):=fnS
theorem Nm(F:Fun K "step_in" "Season.step_in" V2 f fd)(T:Tx K mg a)(zl2:Zv P w K mg base a.zli "takers_of" 5 ["self","listed"] (Oa (ca a)))(znz:Zv P w K mg base a.zln "matches" 1 ["self"] (Lg (ca a)))(zmm:Zv P w K mg base a.zln "where" 2 ["self","number"] (Ma (ca a)))(zof:Zv P w K mg base a.zln "barred" 3 ["self","lists"] (Cc (ca a)))(zm7:Zv P w K mg base a.zln "fallen_out" 3 ["self","number","lists"] (Cd (ca a)))(zoi:Zv P w K mg base a.zln "chains" 1 ["self"] (K9 (ca a))):FnOk P w K mg base (CX1 P w) 6 f fd ["self","number"] (Cn (ca a)):=by
 refine F.okX Vo ⋯ fun _ _ _ _ H _ Q E hr h=>?_;obtain⟨A',S,n,s,nu,rfl,SA,hc,po,hml,ho,hgl,hgz,mo,h1,h2⟩:=h;refine⟨_,(Zb (pS 2 Vo.nd (Xy (pv 0) T.zlj zl2 (hr.mono ⋯) Zk (Za (Yr (Zq (K:=K) rfl (pv 0) rfl) T.zlv znz (hr.mono ⋯) Zk) Zd)))
 (Zb (Z5 (Zn Nw (Xy (Zq (K:=K) rfl (pv 0) rfl) T.zlv zmm (hr.mono ⋯) Zk (Za (pv 1) Zd)) Yz (Zu _))
  (Zb (Y5 (K:=K) rfl (pv 0) (Xy (Zq (K:=K) rfl (pv 0) rfl) T.zlv zof (hr.mono ⋯) Zk (Za (pv 2) Zd)) rfl)
  (Zf (Zm (Z9 Zd))))
  Zt)
 (Zb (Y5 (K:=K) rfl (pv 0) (Xy (Zq (K:=K) rfl (pv 0) rfl) T.zlv zm7 (hr.mono ⋯) Zk (Za (pv 1) (Za (pv 2) Zd))) rfl)
 (Zb (pS 3 Vo.nd (Yr (Zq (K:=K) rfl (pv 0) rfl) T.zlv zoi (hr.mono ⋯) Zk))
 (Zf (Zm (pI (iU K) (pI (iL K) (pv 3) (O1 Sr Zg)) Zg))))))),?_⟩
 obtain⟨⟨dx,v,a1,a2⟩,br,cl,_⟩:=id SA;rw[hc] at a2;obtain⟨q,rfl,Sq⟩:=a2;obtain⟨dxq,m1,m2,m3,m4,hq⟩:=ShAt.ins Sq;refine⟨_,rfl,A'.p,dx,_,rfl,a1,Yq ⋯,_,rfl,A'.p,a.zli,dx,_,_,rfl,a1,T.zlj,T.zl5,Wi,q,dxq,_,rfl,hq,Sx ⋯ ⋯ ⋯ ⋯,(·∉A'.fp),q,s,rfl,Sq,fun l1 ts H1 hl1 tl s1 f1=>?_⟩;have SA1:=SA.same s1;refine⟨A',S,l1,ts,s.ms,rfl,SA1,hl1,tl,by omega,zts po.2 ⋯,po.small,fun l2 ls H2 h3 il3 s2 f3 fl3=>?_⟩;have s12:=s1.trans s2;have SA2:=SA1.same s2;have Sq2:=Sq.same s12;refine⟨_,rfl,A'.p,a.zli,dx,_,_,rfl,s12 _ _ a1,T.zlj,T.zl5,Wi,q,dxq,_,rfl,s12 _ _ hq,Sx ⋯ ⋯ ⋯ ⋯,_,rfl,(·∉A'.fp),q,s,n,rfl,Sq2,ho,hgl,fun H3 s3=>?_⟩;have s13:=s12.trans s3;have SA3:=SA2.same s3;have Sq3:=Sq2.same s3;have il4:=il3.same s3;refine⟨rfl,_,rfl,?_⟩;cases hp:Wg s.gv n with
 | none =>
   refine iteT ?_;refine⟨_,rfl,A'.p,a.zli,dx,_,_,rfl,s13 _ _ a1,T.zlj,T.zl5,Wi,q,dxq,_,rfl,s13 _ _ hq,Sx ⋯ ⋯ ⋯ ⋯,_,rfl,(·∉A'.fp),q,l2,ls,mayS S s.ms,s,rfl,Sq3,s3 _ _ h3,il4,SA1.newOk l2 f3,fun x hx=>SA1.newOk x (fl3 x hx),SA3.newOk,fun q' H4 ShA s4 fq=>?_⟩;have SA4:=SA3.same s4;obtain⟨⟨dx4,v4,a41,a42⟩,_⟩:=id SA4;refine⟨_,rfl,A'.p,a.zli,dx4,_,rfl,a41,T.zlj,T.zl5,(by show 8<1000;decide),?_⟩;obtain⟨SA5,f5,Sh5⟩:=SA4.newSheet a41 ShA;generalize upd H4 A'.p (.ins a.zli dx4 (putF "sheet" (.ref q') (seaF A' S.len S.rest v4)))=H5 at SA5 f5 Sh5;have fr5:FrS A' H H5:=(FrS.of A' (s13.trans s4)).trans f5;refine⟨by show 0<=sizeLine;decide,fun l hl=>?_⟩;exact h1 hp l _ Zc (SA5.same (Ze hl)) (fr5.trans (FrS.of A' (Ze hl))) (fr5.free SA5 hl)
 | some p =>
   refine iteF (Zz ?_);obtain⟨hgp,hun,FP,h3'⟩:=h2 p hp;refine⟨_,rfl,A'.p,a.zli,dx,_,_,rfl,s13 _ _ a1,T.zlj,T.zl5,Wi,q,dxq,_,rfl,s13 _ _ hq,Sx ⋯ ⋯ ⋯ ⋯,_,rfl,_,rfl,(·∉A'.fp),q,l2,ls,mayS S s.ms,nu,s,n,p,rfl,Sq3,s3 _ _ h3,il4,SA1.newOk l2 f3,fun x hx=>SA1.newOk x (fl3 x hx),SA3.newOk,mo,ho,hgp,hun,FP,by omega,fun q' st e w' H4 ShA CR s4 fq=>?_⟩;have SA4:=SA3.same s4;obtain⟨⟨dx4,v4,a41,a42⟩,_⟩:=id SA4;refine⟨_,rfl,A'.p,a.zli,dx4,_,rfl,a41,T.zlj,T.zl5,(by show 8<1000;decide),?_⟩;obtain⟨SA5,f5,Sh5⟩:=SA4.newSheet a41 ShA;generalize upd H4 A'.p (.ins a.zli dx4 (putF "sheet" (.ref q') (seaF A' S.len S.rest v4)))=H5 at SA5 f5 Sh5;have fr5:FrS A' H H5:=(FrS.of A' (s13.trans s4)).trans f5;obtain⟨⟨dx5,v5,a51,a52⟩,_⟩:=id SA5;obtain⟨q5,rfl,Sq5⟩:=a52;obtain⟨dxq5,m51,m52,m53,m54,hq5⟩:=ShAt.ins Sq5;refine⟨_,rfl,A'.p,a.zli,dx5,_,_,rfl,a51,T.zlj,T.zl5,Wi,q5,dxq5,_,rfl,hq5,Sx ⋯ ⋯ ⋯ ⋯,(·∉A'.fp),q5,_,rfl,Sq5,by show (s.gaps++[(n,st)]).length<=1000;rw[ztc];show s.gaps.length+1<=1000;omega,fun l us H6 hl gl s6 fl=>?_⟩;obtain⟨vs',t,l',us',rfl,ht,hl',tl',ok',_⟩:=We.unsnoc gl;refine⟨_,rfl,_,rfl,l,_,_,_,rfl,rfl,SqL.of hl,atI_last,t,_,_,_,rfl,rfl,SqT.of ht,rfl,?_⟩;exact h3' l' us' st e w' H6 hl' tl' CR (SA5.same s6) (fr5.trans (FrS.of A' s6)) (fr5.free SA5 ok')
abbrev Tb:Stmt:=Z3 (top 55) 13
theorem Rq:Zl ["self","sheet"] ["self"] (Zj Tb):=fnS
theorem Ki(F:Fun K "close" "Season.close" Tb f fd)(T:Tx K mg a)(zls:Zv P w K mg base a.zli "check_not_over" 3 ["self"] (Mb (ca a)))(zlu:Zv P w K mg base a.zli "sheet_at_hand" 1 ["self"] (P9 (ca a)))(zoc:Zv P w K mg base a.zll "write" 1 ["self","rows"] (Cb a.zll))(zo5:Zv P w K mg base a.zln "rows" 1 ["self"] (Cf (ca a)))(zlo:Zv P w K mg base a.zll "over" 1 ["self"] (N5 a.zll)):FnOk P w K mg base (CX1 P w) 4 f fd ["self"] (za6 (ca a)):=by
 refine F.okX Rq ⋯ fun _ _ _ _ H _ Q E hr h=>?_;obtain⟨A',S,rfl,SA,ht,hl,hol,hcur,h⟩:=h;refine⟨_,(Zb (Z6 (Yr (pv 0) T.zlj zls (hr.mono ⋯) Zk))
 (Zb (pS 1 Rq.nd (Yr (pv 0) T.zlj zlu (hr.mono ⋯) Zk))
 (Zb (Z6 (Xy (Zq (K:=K) rfl (pv 0) rfl) T.zl9 zoc (hr.mono ⋯) Zk (Za (Yr (pv 1) T.zlv zo5 (hr.mono ⋯) Zk) Zd)))
 (Zb (Yv (Zq (K:=K) rfl (pv 0) rfl) (pv 1))
 (Zb (Y5 (K:=K) rfl (pv 0) Yz rfl)
 (Zb (Y5 (K:=K) rfl (pv 0) (Z9 Zd) rfl)
 (Zf (Zm (Yr (Zq (K:=K) rfl (pv 0) rfl) T.zl9 zlo (hr.mono ⋯) Zk))))))))),?_⟩
 obtain⟨⟨dx,v,a1,a2⟩,br,cl,_⟩:=id SA;obtain⟨⟨dxl,hpl⟩,_⟩:=id cl;refine⟨_,rfl,A'.p,dx,_,rfl,a1,Yq ⋯,A',S,rfl,SA,?_⟩;refine it2 h (fun _ z=>z) fun h1 h=>?_;refine⟨_,rfl,A'.p,dx,_,rfl,a1,Yq ⋯,A',S,rfl,SA,h.1,fun s q hc Sq=>?_⟩;obtain⟨ho,hgl,hml⟩:=hcur s hc;obtain⟨dxq,m1,m2,m3,m4,hq⟩:=ShAt.ins Sq;refine⟨_,rfl,A'.p,a.zli,dx,_,_,rfl,a1,T.zlj,T.zmp,Uv,A'.pl,dxl,_,rfl,hpl,K2 ⋯ ⋯,_,rfl,q,dxq,_,rfl,hq,Sx ⋯ ⋯ ⋯ ⋯,(·∉A'.fp),q,s,rfl,Sq,ho,hgl,hml,fun l1 ts H1 hl1 tl s1 f1=>?_⟩;have SA1:=SA.same s1;have ok1:l1∉A'.fp:=SA.newOk l1 f1;refine⟨A'.pl,A'.lr,A'.ld,S.led,l1,ts,Yb s,rfl,SA1.led,hl1,fun z=>ok1 (by rw[z];simp[SAd.fp]),tl,by rw[Cg hgl];omega,hl,fun H2 L2' k2=>?_⟩;obtain⟨SA2,f2⟩:=SA1.setLed L2' k2;obtain⟨⟨dx2,v2,a21,a22⟩,br2,cl2,d2,⟨vs,f21,f22⟩,_⟩:=id SA2;have Sq2:=(Sq.same s1).keep (fun x o hx e=>f2 x o e hx) (SA1.tups f2);refine⟨_,rfl,A'.p,a.zli,dx2,_,_,rfl,a21,T.zlj,T.zn6,Fb,A'.ls,vs,rfl,f21,_,rfl,vs,f21,by have:=f22.length;have h9:vs.length=S.old.length:=this;have:=Uz;omega,?_⟩;have k3:∀ b o,H2 b=some o->b≠A'.ls->upd H2 A'.ls (.lst (vs++[.ref q])) b=some o:=fun b o e hb=>by rw[Zi hb];exact e
 have kt3:∀ t xs,H2 t=some (.tup xs)->upd H2 A'.ls (.lst (vs++[.ref q])) t=some (.tup xs):=fun t xs e=>k3 t _ e (Yo e f21 (fun z=>nomatch z));have ko3:∀ x o,x∉A'.fp->H2 x=some o->upd H2 A'.ls (.lst (vs++[.ref q])) x=some o:=fun x o hx e=>k3 x o e fun z=>hx (by rw[z];simp[SAd.fp]);obtain⟨SA3,f3⟩:=SA2.setOld (old:=S.old++[s]) Zc ((f22.keep ko3 kt3).snoc (Sq2.keep ko3 kt3)) k3;generalize upd H2 A'.ls (.lst (vs++[.ref q]))=H3 at SA3 f3;obtain⟨⟨dx3,v3,a31,a32⟩,_⟩:=id SA3;refine⟨_,rfl,A'.p,a.zli,dx3,_,rfl,a31,T.zlj,T.zl5,(by show 8<1000;decide),?_⟩;obtain⟨SA4,f4⟩:=SA3.setCur (H':=upd H3 A'.p (.ins a.zli dx3 (putF "sheet" .non (seaF A' S.len S.rest v3)))) (cur:=none) (v:=.non) ⟨dx3,by rw[Zc];exact congrArg (fun x=>some (HO.ins a.zli dx3 x)) Ob⟩ rfl (fun b o e hb=>by rw[Zi hb];exact e);generalize upd H3 A'.p (.ins a.zli dx3 (putF "sheet" .non (seaF A' S.len S.rest v3)))=H4 at SA4 f4;obtain⟨⟨dx4,v4,a41,a42⟩,_⟩:=id SA4;refine⟨by show 0<=sizeLine;decide,fun x hx=>?_⟩;have npx:A'.p≠x:=Zh a41 hx;refine⟨_,rfl,A'.p,a.zli,dx4,_,rfl,(by rw[Zi npx];exact a41),T.zlj,T.zmf,(by show 8<1000;decide),?_⟩;obtain⟨SA5,f5⟩:=SA4.freshStd hx a41 a42 rfl;have fr4:FrS A' H H4:=(FrS.of A' s1).trans (f2.trans (f3.trans f4));have fx:H x=none:=fr4.free SA4 hx;generalize upd (upd H4 x (.lst [])) A'.p (.ins a.zli dx4 (putF "standing" (.ref x) (seaF A' S.len S.rest v4)))=H5 at SA5 f5;have SA5:Zx (ca a) H5 { A' with lt:=x } (Ej S s):=SA5;obtain⟨⟨dx5,v5,a51,a52⟩,br5,cl5,_⟩:=id SA5;obtain⟨⟨dxl5,hpl5⟩,_⟩:=id cl5;refine⟨_,rfl,A'.p,a.zli,dx5,_,_,rfl,a51,T.zlj,T.zmp,Uv,A'.pl,dxl5,_,rfl,hpl5,K2 ⋯ ⋯,A'.pl,A'.lr,A'.ld,S.led++[Yb s],rfl,cl5,?_⟩;have hfin:=h.2 s x H5 hc SA5 (fr4.trans f5) fx;have e:(((S.led++[Yb s]).length:Nat):Int)=atV S:=by rw[ztc];rfl
 rw[e];exact hfin
abbrev W6:Stmt:=Z3 (top 55) 14
theorem Ws:Zl ["self","last","deed"] ["self"] (Zj W6):=fnS
theorem Pj(F:Fun K "take_back" "Season.take_back" W6 f fd)(T:Tx K mg a)(zny:Zv P w K mg base a.zlm "strike" 1 ["self","number"] (D7 (ca a))):FnOk P w K mg base (CX1 P w) 2 f fd ["self"] (Je (ca a)):=by
 refine F.okX Ws ⋯ fun _ _ _ _ H _ Q E hr h=>?_;obtain⟨A',S,rfl,SA,h1,h2⟩:=h;have hu:=Wq hr;refine⟨_,(Zb (Z5 (Ts (Gy (K:=K) rfl (Zq (K:=K) rfl (pv 0) rfl) (fun _=>rfl)))
  (Zf (Xh Xg rfl T.zph rfl (Za Zo Zd)))
  Zt)
 (Zb (pS 1 Ws.nd (zd3 PySem.F.plainAttrs_list PySem.F.slot_list_pop PySem.F.type_list_pop zij (Zq (K:=K) rfl (pv 0) rfl)))
 (Zb (pS 2 Ws.nd (pI (iU K) (pv 1) Zg))
 (Zb (Y5 (K:=K) rfl (pv 0) (pI (iU K) (pv 1) Zg) rfl)
 (Zb (Z5 (Zn Xn (pI (iU K) (pv 2) Zg) Zo (Zu _))
  (Zf (Z6 (Xy (Zq (K:=K) rfl (pv 0) rfl) T.zl1 zny (hr.mono ⋯) Zk (Za (pI (iU K) (pv 2) Zg) Zd))))
  Zt)
 (Zb (Z5 (Zn Xn (pI (iU K) (pv 2) Zg) Zo (Zu _))
  (Zf (Z6 (zex hu (Zq (K:=K) rfl (pv 0) rfl) (Z7 (Za (pI (iU K) (pv 2) Zg) (Za (pI (iU K) (pv 2) Zg) Zd))) ⟨rfl,rfl,rfl,rfl⟩)))
  Zt)
 (Zf (Zm (pv 2))))))))),?_⟩
 show let y1:TS:=_;let y2:TS:=Zw _ y1;let y3:TS:=Zw _ y2;let y4:TS:=Zw _ y3;let y5:TS:=Zw _ y4;let y6:TS:=Zw _ y5;Zw _ y6 _ _ _;intro y1 y2 y3 y4 y5 y6;obtain⟨⟨dx,v,a1,a2⟩,br,cl,d0,f0,⟨us,g1,g2⟩,_⟩:=id SA;refine⟨_,rfl,A'.p,a.zli,dx,_,_,rfl,a1,T.zlj,T.zmf,Tj,_,.inl ⟨_,SqL.of g1,rfl⟩,?_⟩;have hul:=g2.length;rcases zvi S.std with hn|⟨std',⟨d,s⟩,he⟩
 ·rw[hn] at hul;have hu0:us=[]:=zur.mp hul;rw[hu0];exact iteT ⟨sz1,h1 hn⟩
 have he:S.std=std'++[(d,s)]:=by rw[he,List.concat_eq_append]
 rw[he] at g2;obtain⟨vs',t,u,v',rfl,ht,hu',hs,g3⟩:=Uh.unsnoc g2;have hne:(vs'++[V.ref t]).isEmpty=false:=by cases vs'<;>rfl
 rw[hne];refine iteF (Zz ?_);obtain⟨ppl,out,hbk,hfin⟩:=h2 std' d s he;refine⟨_,rfl,A'.p,a.zli,dx,_,_,rfl,a1,T.zlj,T.zmf,Tj,.inl ⟨rfl,_,SqL.of g1⟩,A'.lt,_,V.ref t,rfl,rfl,g1,by simp,?_⟩;rw[List.dropLast_concat];have k1:∀ b o,H b=some o->b≠A'.lt->upd H A'.lt (.lst vs') b=some o:=fun b o e hb=>by rw[Zi hb];exact e
 have kt1:∀ t xs,H t=some (.tup xs)->upd H A'.lt (.lst vs') t=some (.tup xs):=fun t xs e=>k1 t _ e (Yo e g1 (fun z=>nomatch z));have ko1:∀ x o,x∉A'.fp->H x=some o->upd H A'.lt (.lst vs') x=some o:=fun x o hx e=>k1 x o e fun z=>hx (by rw[z];simp[SAd.fp]);obtain⟨SA1,f1⟩:=SA.setStd (std:=std') Zc (g3.keep ko1 kt1) k1;have ht1:=kt1 _ _ ht;have hu1:=kt1 _ _ hu';have hs1:=hs.keep ko1 kt1;generalize upd H A'.lt (.lst vs')=H1 at SA1 f1 ht1 hu1 hs1;refine⟨_,rfl,t,_,_,_,rfl,rfl,SqT.of ht1,rfl,?_⟩;obtain⟨⟨dx1,v1,a11,a12⟩,_⟩:=id SA1;refine⟨_,rfl,t,_,_,_,rfl,rfl,SqT.of ht1,rfl,_,rfl,A'.p,a.zli,dx1,_,rfl,a11,T.zlj,T.zl5,(by show 8<1000;decide),?_⟩;have k2:∀ b o,H1 b=some o->b≠A'.p->upd H1 A'.p (.ins a.zli dx1 (putF "sheet" v' (seaF A' S.len S.rest v1))) b=some o:=fun b o e hb=>by rw[Zi hb];exact e
 have kt2:∀ t xs,H1 t=some (.tup xs)->upd H1 A'.p (.ins a.zli dx1 (putF "sheet" v' (seaF A' S.len S.rest v1))) t=some (.tup xs):=fun t xs e=>k2 t _ e (Yo e a11 (fun z=>nomatch z));obtain⟨SA2,f2⟩:=SA1.setCur (cur:=s) (v:=v') ⟨dx1,by rw[Zc];exact congrArg (fun x=>some (HO.ins a.zli dx1 x)) Ob⟩ (hs1.keep (fun x o hx e=>k2 x o e fun z=>hx (by rw[z];simp[SAd.fp])) kt2) k2;have hu2:=kt2 _ _ hu1;generalize upd H1 A'.p (.ins a.zli dx1 (putF "sheet" v' (seaF A' S.len S.rest v1)))=H2 at SA2 f2 hu2;have fr2:=f1.trans f2;have d0:atI (Pm d) 0=some (.str d.1):=rfl;have d1:atI (Pm d) 1=some (.int d.2.1):=rfl;have d2:atI (Pm d) 2=some (.int d.2.2):=rfl;have es:∀ w:Str,decide (V.str d.1=V.str w)=decide (d.1=w):=fun w=>by
  by_cases z:d.1=w
  ·rw[ztf z,ztf (congrArg V.str z)]
  ·rw[zth z,zth (fun q=>z (V.str.inj q))]
 walk_at "if";refine Px ?_;refine⟨_,rfl,u,_,_,_,rfl,rfl,SqT.of hu2,d0,rfl,_,rfl,?_⟩;rw[es];obtain⟨⟨dx2,v2,a21,a22⟩,br2,cl2,⟨kvs2,e21,e22⟩,_⟩:=id SA2;have n1:¬ (("enrol":Str)="away"):=by decide +kernel
 have n2:¬ (("draw up":Str)="away"):=by decide +kernel
 have n3:¬ (("draw up":Str)="enrol"):=by decide +kernel
 have n4:¬ (("away":Str)="enrol"):=by decide +kernel
 rcases hbk with ⟨hd,⟨g,c0,hp⟩,ho⟩|⟨hd,hp,ho,hno⟩|⟨hd,hp,ho⟩
 ·rw[ztf hd];refine iteT ?_;obtain⟨⟨dxr,kvr,hpr,hdr,en⟩,ndr⟩:=id br2;refine⟨_,rfl,A'.p,a.zli,dx2,_,_,rfl,a21,T.zlj,T.zml,Vv,A'.pr,dxr,_,rfl,hpr,Xi.no ⋯,_,rfl,u,_,_,_,rfl,rfl,SqT.of hu2,d1,A'.pr,A'.dr,ppl,d.2.1,g,c0,rfl,(show Xi a.zlm H2 A'.pr A'.dr (ppl++[(d.2.1,g,c0)]) by have:Xi a.zlm H2 A'.pr A'.dr S.ppl:=br2;rw[hp] at this;exact this),fun H3 R3 k3=>?_⟩;obtain⟨SA3,f3⟩:=SA2.setRos R3 k3;have hu3:=SA2.tups f3 _ _ hu2;refine⟨_,rfl,u,_,_,_,rfl,rfl,SqT.of hu3,d0,rfl,_,rfl,?_⟩;rw[es,zth (by rw[hd];exact n1)];refine iteF (Zz ⟨_,rfl,?_⟩);refine hfin u H3 hu3 ?_ (fr2.trans f3);rw[ho];exact SA3
 ·rw[zth (by rw[hd];exact n4)];refine iteF (Zz ?_);refine⟨_,rfl,u,_,_,_,rfl,rfl,SqT.of hu2,d0,rfl,_,rfl,?_⟩;rw[es,ztf hd];refine iteT ?_;refine⟨_,rfl,A'.p,a.zli,dx2,_,_,rfl,a21,T.zlj,T.zng,Q5,A'.da,rfl,.inr ⟨kvs2,.inl e21⟩,_,rfl,u,_,_,_,rfl,rfl,SqT.of hu2,d2,_,rfl,u,_,_,_,rfl,rfl,SqT.of hu2,d1,sz2,fun tk htk=>?_⟩;have s3:=Ze (o:=.tup [.int d.2.2,.int d.2.1]) htk;have q3:upd H2 tk (.tup [.int d.2.2,.int d.2.1]) tk=some (.tup (([inl d.2.2,inl d.2.1]:List Key).map kV)):=Zc;generalize upd H2 tk (.tup [.int d.2.2,.int d.2.1])=H3 at s3 q3;have SA3:=SA2.same s3;have e22:R9 kvs2 S.out:=e22;rw[ho] at e22;have hv:∃ vv,valV kvs2 [inl d.2.2,inl d.2.1]=some vv:=zuv.mp (by rw[e22.1,ztf (by simp)]);obtain⟨vv,hv⟩:=hv;refine⟨kvs2,[inl d.2.2,inl d.2.1],tk,vv,s3 _ _ e21,rfl,q3,hv,?_⟩;obtain⟨SA4,f4⟩:=SA3.setOut (out:=out) Zc (e22.drop hno) (fun b o e hb=>by rw[Zi hb];exact e);have hu4:=SA3.tups f4 _ _ (s3 _ _ hu2);refine⟨_,rfl,hfin u _ hu4 ?_ (fr2.trans ((FrS.of A' s3).trans f4))⟩;rw[hp];exact SA4
 ·rw[zth (by rw[hd];exact n3)];refine iteF (Zz ?_);refine⟨_,rfl,u,_,_,_,rfl,rfl,SqT.of hu2,d0,rfl,_,rfl,?_⟩;rw[es,zth (by rw[hd];exact n2)];refine iteF (Zz ⟨_,rfl,hfin u H2 hu2 ?_ fr2⟩);rw[hp,ho];exact SA2
abbrev V3:Stmt:=Z3 (top 55) 15
theorem Nn:Zl ["self"] ["self"] (Zj V3):=fnS
theorem Np(F:Fun K "at_hand" "Season.at_hand" V3 f fd)(T:Tx K mg a)(zlo:Zv P w K mg base a.zll "over" 1 ["self"] (N5 a.zll)):FnOk P w K mg base (CX1 P w) 2 f fd ["self"] (Ub (ca a)):=by
 refine F.okX Nn ⋯ fun _ _ _ _ H _ Q E hr h=>?_;obtain⟨A',S,rfl,SA,h⟩:=h;refine⟨_,(Zf (Zm (Zp Yk (Yr (Zq (K:=K) rfl (pv 0) rfl) T.zl9 zlo (hr.mono ⋯) Zk) Zg))),?_⟩;obtain⟨⟨dx,v,a1,a2⟩,b,c,_⟩:=id SA;obtain⟨⟨dxl,hpl⟩,_⟩:=id c;refine⟨_,rfl,A'.p,a.zli,dx,_,_,rfl,a1,T.zlj,T.zmp,Uv,A'.pl,dxl,_,rfl,hpl,K2 ⋯ ⋯,A'.pl,A'.lr,A'.ld,S.led,rfl,c,_,_,rfl,rfl,?_⟩;exact h
abbrev T7:Stmt:=Z3 (top 55) 21
theorem Ib:Zl ["self","at"] ["self","at"] (Zj T7):=fnS
theorem Ie(F:Fun K "goes" "Season.goes" T7 f fd)(T:Tx K mg a)(zne:Zv P w K mg base a.zli "sheet_of" 3 ["self","at"] (Fc (ca a)))(zm0:Zv P w K mg base a.zln "goes" 1 ["self"] (K8 (ca a))):FnOk P w K mg base (CX1 P w) 4 f fd ["self","at"] (ze4 (ca a)):=by
 refine F.okX Ib ⋯ fun _ _ _ _ H _ Q E hr h=>?_;obtain⟨A',S,i,rfl,SA,hr0⟩:=h;refine⟨_,(Zf (Zm (Yr (Xy (pv 0) T.zlj zne (hr.mono ⋯) Zk (Za (pv 1) Zd)) T.zlv zm0 (hr.mono ⋯) Zk))),?_⟩;obtain⟨si,hol,h⟩:=hr0;obtain⟨⟨dx,v,a1,a2⟩,_⟩:=id SA;refine⟨_,rfl,A'.p,dx,_,rfl,a1,Yq ⋯,_,rfl,A',S,i,rfl,SA,si,hol,it2 h (fun _ z=>z) fun hn h=>⟨h.1,fun s q hs Sq=>?_⟩⟩;obtain⟨dxq,m1,m2,m3,m4,hq⟩:=ShAt.ins Sq;exact⟨q,dxq,_,rfl,hq,Sx ⋯ ⋯ ⋯ ⋯,(·∉A'.fp),q,s,rfl,Sq,fun l H' a b c=>h.2 s hs l H' a b c⟩
abbrev Qm:Stmt:=top 57
theorem Ey:Zl ["_law_found"] ["_law_found"] (Zj Qm):=fnS
theorem Ez(F:Fun K "_law_whole" "_law_whole" Qm f fd)(T:Tx K mg a):FnOk P w K mg base (CX1 P w) 1 f fd ["_law_found"] F7:=by
 refine F.okX Ey ⋯ fun _ _ _ _ H _ Q E hr h=>?_;obtain⟨i,rfl,h⟩:=h;refine⟨_,(Zf (Zm (Fu (Zs (Qx (K:=K) rfl) (by rfl) T.zmc PyProof.Rows.boot_isinstance (Za (pv 0) (Za (Kn rfl T.zpi PyProof.Rows.boot_int (show RelV (.ty "int") _ from rfl)) Zd))) (Bp (zhy (Zs (Qx (K:=K) rfl) (by rfl) T.zmc PyProof.Rows.boot_isinstance (Za (pv 0) (Za (Kn rfl T.zqs PyProof.Rows.boot_bool (show RelV (.ty "bool") _ from rfl)) Zd)))))))),?_⟩;refine⟨_,rfl,_,_,_,_,rfl,.of (.int i),.inl ⟨_,rfl⟩,ziq K,_,rfl,?_⟩;refine iteT ?_;exact⟨_,rfl,_,_,_,_,rfl,.of (.int i),.inl ⟨_,rfl⟩,zir K,_,rfl,h⟩
abbrev Ig:Stmt:=top 58
theorem zc9:Zl ["_law_script","_law_k"] ["_law_script","_law_k"] (Zj Ig):=fnS
theorem zda(F:Fun K "_law_at" "_law_at" Ig f fd)(T:Tx K mg a):FnOk P w K mg base (CX1 P w) 1 f fd ["_law_script","_law_k"] (Aa K):=by
 refine F.okX zc9 ⋯ fun _ _ _ _ H _ Q E hr h=>?_;obtain⟨b,ns,k,rfl,hs,h⟩:=h;refine⟨_,(Zb (Z5 (Zn zac (pv 1) (Zs (cL K) (by rfl) T.zly PySem.boot_len (Za (pv 0) Zd)) (Zu _))
  (Zf (Zm (pI (iL K) (pv 0) (pv 1))))
  Zt)
 (Zf (Zm Zg))),?_⟩
 refine⟨_,rfl,_,rfl,b,_,rfl,.inl hs,_,_,rfl,rfl,_,rfl,?_⟩;rw[zta];refine itD (fun hk=>?_) (fun hk=>?_)
 ·have hk':k<ns.length:=by omega
  refine⟨_,rfl,_,rfl,b,_,_,_,rfl,rfl,hs,Yf (show (ns.map V.int)[k]?=some (.int (Y8 ns k)) from ?_),h⟩;unfold Y8;rw[ztj,ztb hk'];rfl
 ·have e:Y8 ns k=0:=by unfold Y8;rw[List.getElem?_eq_none ⋯];rfl
  rw[e] at h;exact h
abbrev Mu:Stmt:=top 59
theorem Rf:Zl ["_law_cell_here","_law_k","_law_one","_law_two","_law_three"] ["_law_cell_here","_law_k"] (Zj Mu):=fnS
theorem A7(F:Fun K "_law_mix" "_law_mix" Mu f fd)(T:Tx K mg a):FnOk P w K mg base (CX1 P w) 1 f fd ["_law_cell_here","_law_k"] zas:=by
 refine F.okX Rf ⋯ fun _ _ _ _ H _ Q E hr h=>?_;obtain⟨c,k,rfl,h⟩:=h;refine⟨_,(Zb (pS 2 Rf.nd (Zp Yp (Zp Yk (Zp Ug (pv 0) Zg) (pv 1)) Zg))
 (Zb (pS 3 Rf.nd (Zp Yp (Zp Yk (Zp Ug (pv 2) Zg) (Zp Ug Zg (pv 1))) Zg))
 (Zb (pS 4 Rf.nd (Zp Yp (Zp Yk (Zp Ug (pv 3) Zg) (pv 2)) Zg))
 (Zf (Zm (Zp Yk (Zp Ug (Zp Yk (Zp Ug (pv 2) Zg) (pv 3)) Zg) (pv 4))))))),?_⟩
 walk_at "rd";exact h
abbrev Ym:Stmt:=top 60
theorem Qn:Zl ["_law_cell_here","_law_many","_law_step"] ["_law_cell_here","_law_many"] (Zj Ym):=fnS
@[irreducible] def Vp:List Expr:=zcp (Cu (Pa (Xl (Zr Ym) 0)))
@[irreducible] def Qo:Pos:=zcq (Cu (Pa (Xl (Zr Ym) 0)))
theorem Mv:Zr Ym=[.Assign (ze6 (Xl (Zr Ym) 0)) (.Subscript (.List Vp Qo) (zgu (Pa (Xl (Zr Ym) 0))) (zgv (Pa (Xl (Zr Ym) 0)))) (stP (Xl (Zr Ym) 0)),Xl (Zr Ym) 1]:=by unfold Vp Qo;kernel_rfl
theorem Mw:Jh Vp [1,2,5,10,100,500,998]:=by unfold Vp;exact⟨by kernel_rfl,by kernel_rfl⟩
theorem Ih(F:Fun K "_law_numbers" "_law_numbers" Ym f fd)(T:Tx K mg a):FnOk P w K mg base (CX1 P w) 1 f fd ["_law_cell_here","_law_many"] K1:=by
 refine F.okX Qn ⋯ fun _ _ _ _ H _ Q E hr h=>?_;obtain⟨c,m,rfl,hm,h⟩:=h;rw[Mv];refine⟨_,(Zb (pS 2 Qn.nd (pI (iL K) (Z9 (Q6 [1,2,5,10,100,500,998] Mw)) (Zp Yp (pv 0) Zg)))
 (Zf (Zm (Vh rfl (cT ["_law_cell_here","_law_step"] [0,2]) (X9 rfl T.zmj (Za (pv 1) Zd)) (fun _ _ _ _ _=>V5) (fun _ _ _ _ _=>(Zp Yk Zg (Zp Yp (Zp Yk (Zp Y4 (pv 1) Zg) (Zp Ug (pv 2) (pv 0))) Zg))))))),?_⟩
 refine⟨by show 7<=sizeLine;decide,fun p0 hp0=>?_⟩;walk_at "rd";refine⟨p0,_,_,_,rfl,rfl,SqL.of Zc,X8 (xs:=[1,2,5,10,100,500,998]) ⋯ (by show c%7<7;omega),?_⟩;refine⟨_,rfl,_,rfl,by omega,by omega,Gx (fun j=>V.int (zb7 c j)) (by rw[ztv];exact zts hm ⋯) (fun i R hi k=>?_) (fun p hp=>?_)⟩
 ·rw[ztv] at hi;walk_at "rd";refine⟨.inr ⟨by omega,by omega⟩,?_⟩;walk_at "rd";rw[zu8];exact k
 ·rw[ztv];refine h p _ ?_ ((Ze hp0).trans (Ze hp)) ((Ze hp0).free hp);rw[Zc];unfold M9;rw[zu4];rfl
abbrev Y9:Stmt:=top 61
theorem Nq:Zl ["_law_cell_here","_law_many","_law_step"] ["_law_cell_here","_law_many"] (Zj Y9):=fnS
@[irreducible] def Ut:List Expr:=zcp (Cu (Pa (Xl (Zr Y9) 0)))
@[irreducible] def Nr:Pos:=zcq (Cu (Pa (Xl (Zr Y9) 0)))
theorem Ii:Zr Y9=[.Assign (ze6 (Xl (Zr Y9) 0)) (.Subscript (.List Ut Nr) (zgu (Pa (Xl (Zr Y9) 0))) (zgv (Pa (Xl (Zr Y9) 0)))) (stP (Xl (Zr Y9) 0)),Xl (Zr Y9) 1]:=by unfold Ut Nr;kernel_rfl
theorem Ij:Jh Ut [1,2,5,10,50,97,98]:=by unfold Ut;exact⟨by kernel_rfl,by kernel_rfl⟩
theorem E1(F:Fun K "_law_clubs" "_law_clubs" Y9 f fd)(T:Tx K mg a):FnOk P w K mg base (CX1 P w) 1 f fd ["_law_cell_here","_law_many"] zat:=by
 refine F.okX Nq ⋯ fun _ _ _ _ H _ Q E hr h=>?_;obtain⟨c,m,rfl,hm,h⟩:=h;rw[Ii];refine⟨_,(Zb (pS 2 Nq.nd (pI (iL K) (Z9 (Q6 [1,2,5,10,50,97,98] Ij)) (Zp Yp (pv 0) Zg)))
 (Zf (Zm (Vh rfl (cT ["_law_cell_here","_law_step"] [0,2]) (X9 rfl T.zmj (Za (pv 1) Zd)) (fun _ _ _ _ _=>V5) (fun _ _ _ _ _=>(Zp Yk Zg (Zp Yp (Zp Yk (Zp Y4 (pv 1) Zg) (Zp Ug (pv 2) (pv 0))) Zg))))))),?_⟩
 refine⟨by show 7<=sizeLine;decide,fun p0 hp0=>?_⟩;walk_at "rd";refine⟨p0,_,_,_,rfl,rfl,SqL.of Zc,X8 (xs:=[1,2,5,10,50,97,98]) ⋯ (by show c%7<7;omega),?_⟩;refine⟨_,rfl,_,rfl,by omega,by omega,Gx (fun j=>V.int (Gz c j)) (by rw[ztv];exact zts hm ⋯) (fun i R hi k=>?_) (fun p hp=>?_)⟩
 ·rw[ztv] at hi;walk_at "rd";refine⟨.inr ⟨by omega,by omega⟩,?_⟩;walk_at "rd";rw[zu8];exact k
 ·rw[ztv];refine h p _ ?_ ((Ze hp0).trans (Ze hp)) ((Ze hp0).free hp);rw[Zc];unfold R6;rw[zu4];rfl
abbrev Rg:Stmt:=top 62
theorem Hw:Zl ["_law_found","_law_due"] ["_law_found","_law_due"] (Zj Rg):=fnS
theorem Hz(F:Fun K "_law_one_is" "_law_one_is" Rg f fd)(T:Tx K mg a)(zm9:Z4 P w K mg base "_law_whole" 1 ["_law_found"] F7):FnOk P w K mg base (CX1 P w) 2 f fd ["_law_found","_law_due"] Ea:=by
 refine F.okX Hw ⋯ fun _ _ _ _ H _ Q E hr h=>?_;obtain⟨x,rfl,hx,h⟩:=h;refine⟨_,(Zf (Zm (E8 (Zn Nw (pv 1) Yz (Zu _)) (Wo Nw (pv 0) Yz (Zu _)) (Fu (pF zm9 hr (Za (pv 0) Zd)) (Bp (Wo Xn (pv 0) (pv 1) (Zu _))))))),?_⟩;rcases hx with rfl|⟨i,rfl⟩
 ·refine⟨_,rfl,rfl,_,rfl,?_⟩;refine iteT ?_;exact⟨_,rfl,rfl,h⟩
 ·refine⟨_,rfl,rfl,_,rfl,?_⟩;refine iteF ?_;refine⟨_,rfl,i,rfl,_,rfl,?_⟩;refine iteT ?_;refine⟨_,rfl,_,rfl,rfl,?_⟩;rw[ztf rfl];exact h
abbrev T8:Stmt:=top 63
theorem Qp:Zl ["_law_found","_law_due","_law_k"] ["_law_found","_law_due"] (Zj T8):=fnS
theorem Ik(F:Fun K "_law_list_is" "_law_list_is" T8 f fd)(T:Tx K mg a)(zmt:Z4 P w K mg base "_law_one_is" 2 ["_law_found","_law_due"] Ea):FnOk P w K mg base (CX1 P w) 3 f fd ["_law_found","_law_due"] (Dx K):=by
 refine F.okX Qp ⋯ fun _ _ _ _ H _ Q E hr h=>?_;obtain⟨b,c,xs,rfl,hb,hc,ho,hl,h⟩:=h;refine⟨_,(Zb (Z5 (PW.pt (Rj (Ts (Ue (Zs (Qx (K:=K) rfl) (by rfl) T.zmc PyProof.Rows.boot_isinstance (Za (pv 0) (Za (Kn rfl T.zms PyProof.Rows.boot_list (show RelV (.ty "list") _ from rfl)) Zd))))) (Ux (Zn zhc (Zs (cL K) (by rfl) T.zly PySem.boot_len (Za (pv 0) Zd)) (Zs (cL K) (by rfl) T.zly PySem.boot_len (Za (pv 1) Zd)) (Zu _)))))
  (Zf (Zm T9))
  Zt)
 (Zb (Xf PassesOwn.leaving rfl (X9 rfl T.zmj (Za (Zs (cL K) (by rfl) T.zly PySem.boot_len (Za (pv 1) Zd)) Zd)) (pN 2 Qp.nd)
  (Zf (Z5 (Ts (Ue (pF zmt hr (Za (pI (iL K) (pv 0) (pv 2)) (Za (pI (iL K) (pv 1) (pv 2)) Zd)))))
   (Zf (Zm T9))
   Zt)))
 (Zf (Zm T9)))),?_⟩
 refine⟨_,rfl,_,_,_,_,rfl,.of (.lst hb),.inl ⟨_,rfl⟩,zec K,_,rfl,?_⟩;refine iteF ?_;refine⟨_,rfl,b,_,rfl,.inl (SqL.of hb),_,rfl,c,_,rfl,.inl hc,rfl,_,rfl,?_⟩;rw[ztf rfl];refine iteF ?_;refine⟨_,rfl,c,_,rfl,.inl hc,_,rfl,by omega,by omega,Wn (fun i σ H'=>H'=H/\(∃ v,σ=[some (.ref b),some (.ref c),v])) ⟨rfl,⟨_,rfl⟩⟩ (fun i σ H' hi ⟨e,⟨v,hv⟩⟩=>?_) (fun σ H' ⟨e,⟨v,hv⟩⟩=>?_)⟩
 ·subst e hv;rw[ztv] at hi;have h1:xs[i]?=some (xs[i]'hi):=ztb hi;rw[zu8];refine⟨_,rfl,_,rfl,b,_,_,_,rfl,rfl,SqL.of hb,Yf h1,_,rfl,_,rfl,c,_,_,_,rfl,rfl,hc,Yf h1,_,rfl,ho _ (zue hi),_,rfl,?_⟩;exact iteF ⟨rfl,⟨_,rfl⟩⟩
 ·subst e hv;exact h
abbrev V4:Stmt:=top 64
theorem Vq:Zl ["_law_may","_law_given","_law_seen","_law_k"] ["_law_may","_law_given"] (Zj V4):=fnS
theorem Nt(F:Fun K "_law_is_filling" "_law_is_filling" V4 f fd)(T:Tx K mg a)(zm9:Z4 P w K mg base "_law_whole" 1 ["_law_found"] F7):FnOk P w K mg base (CX1 P w) 2 f fd ["_law_may","_law_given"] (Ld K):=by
 refine F.okX Vq ⋯ fun _ _ _ _ H _ Q E hr h=>?_;obtain⟨l,lg,ls,rows,gs,rfl,hl,il,hrl,hg,FP,h⟩:=h;have hu:=Wq hr;refine⟨_,(Zb (Z5 (PW.pt (Rj (Ts (Ue (Zs (Qx (K:=K) rfl) (by rfl) T.zmc PyProof.Rows.boot_isinstance (Za (pv 1) (Za (Kn rfl T.zms PyProof.Rows.boot_list (show RelV (.ty "list") _ from rfl)) Zd))))) (Ux (Zn zhc (Zs (cL K) (by rfl) T.zly PySem.boot_len (Za (pv 1) Zd)) (Zs (cL K) (by rfl) T.zly PySem.boot_len (Za (pv 0) Zd)) (Zu _)))))
  (Zf (Zm T9))
  Zt)
 (Zb (pS 2 Vq.nd Kw)
 (Zb (Xf PassesOwn.leaving rfl (X9 rfl T.zmj (Za (Zs (cL K) (by rfl) T.zly PySem.boot_len (Za (pv 0) Zd)) Zd)) (pN 3 Vq.nd)
  (Zf (Z5 (Zn W9 (pI (iL K) (pv 1) (pv 3)) Yz (Zu _))
   (Zb (Z5 (PW.pt (Rj (Ts (Ue (pF zm9 hr (Za (pI (iL K) (pv 1) (pv 3)) Zd)))) (Rj (Zn (Pl (K:=K) rfl) (pI (iL K) (pv 1) (pv 3)) (pI (iL K) (pv 0) (pv 3)) (by with_unfolding_all rfl)) (Ux (Tr (Pt hu (pI (iL K) (pv 1) (pv 3)) (pv 2)))))))
    (Zf (Zm T9))
    Zt)
   (Zf (Yn hu (pv 2) (pI (iL K) (pv 1) (pv 3)) T9 rfl)))
   Zt)))
 (Zf (Zm T9))))),?_⟩
 refine⟨_,rfl,_,_,_,_,rfl,.of (.lst hg),.inl ⟨_,rfl⟩,zec K,_,rfl,?_⟩;refine iteF ?_;refine⟨_,rfl,lg,_,rfl,.inl (SqL.of hg),_,rfl,l,_,rfl,.inl (SqL.of hl),rfl,_,rfl,?_⟩;rw[zta,il.length,FP.len,ztf rfl];refine iteF ?_;intro ld hld;have s0:=Ze (o:=.dK []) hld;have q0:upd H ld (.dK []) ld=some (.dK []):=Zc;generalize upd H ld (.dK [])=H1 at s0 q0;refine⟨_,rfl,l,_,rfl,.inl (SqL.of (s0 _ _ hl)),_,rfl,by omega,by rw[zta,il.length];omega,?_⟩;rw[zta,il.length,ztv]
 let jv1:Nat->L2.St->Hp->Prop:=fun i σ H'=>(∃ v3,σ=[some (.ref l),some (.ref lg),some (.ref ld),v3])/\Same H H'/\∃ kvs,H' ld=some (.dK kvs)/\kvs.length<=i/\∀ n:Int,(valV kvs (inl n:Key)).isSome=true->∃ j,j<i/\gs[j]?=some (.int n)
 refine Wn jv1 ⟨⟨_,rfl⟩,s0,[],q0,ztm _,fun n z=>(nomatch z)⟩ ?_ ?_
 ·rintro i σ H' hi ⟨⟨v3,rfl⟩,sm,kvs,hd,hkl,hks⟩;rw[zu8];have hgi:i<gs.length:=by rw[FP.len];exact hi
  have hx:gs[i]?=some (gs[i]'hgi):=ztb hgi;have hone:=FP.one _ (zue hgi);generalize (gs[i]'hgi)=x at hx hone;refine⟨_,rfl,_,rfl,lg,_,_,_,rfl,rfl,SqL.of (sm _ _ hg),Yf hx,rfl,_,rfl,?_⟩;rcases hone with rfl|⟨n,rfl⟩
  ·refine iteF ?_;refine⟨⟨_,rfl⟩,sm,kvs,hd,by omega,fun n hn=>?_⟩;obtain⟨j,h1,h2⟩:=hks n hn;exact⟨j,by omega,h2⟩
  ·refine iteT ?_;obtain⟨r,hr',hnr⟩:=FP.may i n hx;obtain⟨lr,e1,e2⟩:=il.getR hr';have hl':(ls.map V.ref)[i]?=some (.ref lr):=by rw[ztj,e1];rfl
   have hno:valV kvs (inl n:Key)=none:=by
    cases q:valV kvs (inl n:Key) with
    | none=>rfl
    | some v =>
      obtain⟨j,h1,h2⟩:=hks n (by rw[q];rfl);exact absurd (FP.inj j i n h2 hx) ⋯
   have gx:∀ {Q:VK},Q (.int n) H'->∃ v,([some (V.ref l),some (V.ref lg),some (V.ref ld),some (V.int (i:Int))]:L2.St)[1]?=some (some v)/\∃ w,([some (V.ref l),some (V.ref lg),some (V.ref ld),some (V.int (i:Int))]:L2.St)[3]?=some (some w)/\Ip K v w H' Q:=fun q=>⟨_,rfl,_,rfl,lg,_,_,_,rfl,rfl,SqL.of (sm _ _ hg),Yf hx,q⟩
   walk_at "if";refine Px (Vd (b:=false) (R4 (b:=false) (c:=false) (fun Q q=>⟨_,rfl,_,rfl,lg,_,_,_,rfl,rfl,SqL.of (sm _ _ hg),Yf hx,n,rfl,_,rfl,q⟩) (R4 (b:=false) (c:=false) (fun Q q=>⟨_,rfl,_,rfl,lg,_,_,_,rfl,rfl,SqL.of (sm _ _ hg),Yf hx,_,rfl,_,rfl,l,_,_,_,rfl,rfl,SqL.of (sm _ _ hl),Yf hl',lr,_,rfl,.inl (SqL.of (sm _ _ e2)),rfl,G3 r,_,rfl,by rw[Kp,ztf hnr];exact q⟩)
    (fun Q q=>⟨_,rfl,_,rfl,lg,_,_,_,rfl,rfl,SqL.of (sm _ _ hg),Yf hx,_,rfl,ld,_,rfl,DGet.k (k:=inl n) hd,_,rfl,by rw[hno];exact q⟩))) (iteF (Zz ?_)))
   refine⟨_,rfl,_,rfl,_,rfl,lg,_,_,_,rfl,rfl,SqL.of (sm _ _ hg),Yf hx,ld,_,rfl,DPut.k (k:=inl n) hd (Sg ⋯),?_⟩;refine⟨⟨_,rfl⟩,Z8 hld sm,_,Zc,zts (Y7 _ _ _) ⋯,fun n' hn'=>?_⟩;rw[Va] at hn';by_cases e:(inl n':Key)=inl n
   ·cases e;exact⟨i,zvn _,hx⟩
   ·rw[if_neg e] at hn';obtain⟨j,h1,h2⟩:=hks n' hn';exact⟨j,by omega,h2⟩
 ·rintro σ H' ⟨⟨v3,rfl⟩,sm,_⟩;exact h H' sm
theorem zft{gs:List V}{i:Nat}{x:V}(h:gs[i]?=some x):((binV 0 (gs.take (i+1)):Nat):Int)=2*((binV 0 (gs.take i):Nat):Int)+(if (!decide (x=V.non))=true then 1 else 0):=by
 rw[zua,h];show ((binV 0 (gs.take i++[x]):Nat):Int)=_;rw[Qg];unfold Vi;by_cases e:x=V.non
 ·rw[if_pos e,ztf e];simp
 ·rw[if_neg e,zth e];simp
abbrev Rh:Stmt:=top 65
theorem V7:Zl ["_law_given","_law_out","_law_number"] ["_law_given"] (Zj Rh):=fnS
theorem Ga(F:Fun K "_law_filled" "_law_filled" Rh f fd)(T:Tx K mg a):FnOk P w K mg base (CX1 P w) 1 f fd ["_law_given"] (C7 K):=by
 refine F.okX V7 ⋯ fun _ _ _ _ H _ Q E hr h=>?_;obtain⟨l,gs,rfl,hl,ho,hn,h⟩:=h;refine⟨_,(Zb (pS 1 V7.nd Zg)
 (Zb (Xf PassesOwn.leaving rfl (Yd (K:=K) rfl (pv 0)) (pN 2 V7.nd)
  (Zf (pS 1 V7.nd (Zp Yk (Zp Ug Zg (pv 1)) (Yj Sb (by rfl) T.zpi PyProof.Rows.boot_int (Za (Wo W9 (pv 2) Yz (Zu _)) Zd))))))
 (Zf (Zm (pv 1))))),?_⟩
 let jv2:Nat->L2.St->Hp->Prop:=fun i σ' H'=>H'=H/\∃ v2,σ'=[some (.ref l),some (.int (binV 0 (gs.take i):Nat)),v2]
 refine⟨_,rfl,l,rfl,⟨_,SqL.of hl⟩,X6 (K:=K) (a:=l) (xs:=gs) jv2 ⟨rfl,_,rfl⟩ (fun i σ' H' _ ⟨e,_⟩=>e▸SqL.of hl) ?_ ?_⟩
 ·rintro i x σ' H' hx ⟨rfl,v2,rfl⟩;refine⟨_,rfl,_,_,rfl,rfl,.inl ⟨by decide,by decide⟩,_,rfl,rfl,.inr ⟨_,rfl,_,_,rfl,rfl,rfl,some x,?_⟩⟩;rw[zft hx];rfl
 ·rintro σ' H' ⟨rfl,v2,rfl⟩;rw[ztq];exact⟨_,rfl,h _ (Same.refl _)⟩
abbrev Qq:Stmt:=top 66
theorem Nu:Zl ["_law_rounds_here","_law_rest_here","_law_page"] ["_law_rounds_here","_law_rest_here"] (Zj Qq):=fnS
theorem E2(F:Fun K "_law_first" "_law_first" Qq f fd)(T:Tx K mg a):FnOk P w K mg base (CX1 P w) 1 f fd ["_law_rounds_here","_law_rest_here"] za9:=by
 refine F.okX Nu ⋯ fun _ _ _ _ H _ Q E hr h=>?_;obtain⟨r,q,rfl,h⟩:=h;have hu:=Wq hr;refine⟨_,(Zb (pS 2 Nu.nd (zaf (V9 Zo (pv 0) (V9 Zo (pv 1) (V9 Zo (Z9 Zd) (V9 Zo (Z9 Zd) (V9 Zo (Z9 Zd) (V9 Zo Yz Fw)))))) rfl rfl (by simp) ⋯))
 (Zb (Yn hu (pv 2) Zo Yz rfl)
 (Zb (Yn hu (pv 2) Zo (Z9 Zd) rfl)
 (Zb (Yn hu (pv 2) Zo (Z9 Zd) rfl)
 (Zf (Zm (pv 2))))))),?_⟩
 have sz0:([]:List V).length<=sizeLine:=zt4 _;refine fun p fp=>?_;have s1:=Ze (o:=.dK []) fp;have p1:(upd H p (.dK [])) p=some (.dK []):=Zc;generalize upd H p (.dK [])=H1 at s1 p1 ⊢;refine⟨_,rfl,_,rfl,sz0,fun l1 f1=>?_⟩;have s2:=Ze (o:=.lst []) f1;have a1:(upd H1 l1 (.lst [])) l1=some (.lst []):=Zc;have n1:l1≠p:=fun z=>by rw[z,p1] at f1;cases f1
 generalize upd H1 l1 (.lst [])=H2 at s2 a1 ⊢;refine⟨sz0,fun l2 f2=>?_⟩;have s3:=Ze (o:=.lst []) f2;have a2:(upd H2 l2 (.lst [])) l2=some (.lst []):=Zc;have n2:l2≠p:=fun z=>by rw[z,s2 _ _ p1] at f2;cases f2
 generalize upd H2 l2 (.lst [])=H3 at s3 a2 ⊢;refine⟨sz0,fun l3 f3=>?_⟩;have s4:=Ze (o:=.lst []) f3;have a3:(upd H3 l3 (.lst [])) l3=some (.lst []):=Zc;have n3:l3≠p:=fun z=>by rw[z,s3 _ _ (s2 _ _ p1)] at f3;cases f3
 generalize upd H3 l3 (.lst [])=H4 at s4 a3 ⊢;refine⟨s4 _ _ (s3 _ _ (s2 _ _ p1)),pg6 r q l1 l2 l3 .non,rfl,(show 6<=15 by decide),?_⟩;rw[zcs];have s5:=Z8 (o:=.dK (pg6 r q l1 l2 l3 .non)) fp (s1.trans (s2.trans (s3.trans s4)));have p5:(upd H4 p (.dK (pg6 r q l1 l2 l3 .non))) p=some (.dK (pg6 r q l1 l2 l3 .non)):=Zc;have b1:(upd H4 p (.dK (pg6 r q l1 l2 l3 .non))) l1=some (.lst []):=by rw[Zi n1];exact s4 _ _ (s3 _ _ a1)
 have b2:(upd H4 p (.dK (pg6 r q l1 l2 l3 .non))) l2=some (.lst []):=by rw[Zi n2];exact s4 _ _ a2
 have b3:(upd H4 p (.dK (pg6 r q l1 l2 l3 .non))) l3=some (.lst []):=by rw[Zi n3];exact a3
 generalize upd H4 p (.dK (pg6 r q l1 l2 l3 .non))=H5 at s5 p5 b1 b2 b3 ⊢;walk_at "if";refine⟨_,rfl,p,_,rfl,DPut.k (k:=inr "listed") p5 (Me (x:=.non) (y:=.non)).1,?_⟩;have s6:=Z8 (o:=.dK (putK (pg6 r q l1 l2 l3 .non) (.inr "listed") .non)) fp s5;have p6:(upd H5 p (.dK (putK (pg6 r q l1 l2 l3 .non) (.inr "listed") .non))) p=some (.dK (putK (pg6 r q l1 l2 l3 .non) (.inr "listed") .non)):=Zc;have c1:=(Zi (H:=H5) (o:=.dK (putK (pg6 r q l1 l2 l3 .non) (.inr "listed") .non)) n1).trans b1;have c2:=(Zi (H:=H5) (o:=.dK (putK (pg6 r q l1 l2 l3 .non) (.inr "listed") .non)) n2).trans b2;have c3:=(Zi (H:=H5) (o:=.dK (putK (pg6 r q l1 l2 l3 .non) (.inr "listed") .non)) n3).trans b3;generalize upd H5 p (.dK (putK (pg6 r q l1 l2 l3 .non) (.inr "listed") .non))=H6 at s6 p6 c1 c2 c3 ⊢;refine⟨sz0,fun l4 f4=>?_⟩;have s7:=Ze (o:=.lst []) f4;have a4:(upd H6 l4 (.lst [])) l4=some (.lst []):=Zc;have n4:l4≠p:=fun z=>by rw[z,p6] at f4;cases f4
 generalize upd H6 l4 (.lst [])=H7 at s7 a4 ⊢;refine⟨_,rfl,p,_,rfl,DPut.k (k:=inr "goes") (s7 _ _ p6) (Me (y:=.non)).2.1,?_⟩;have s8:=Z8 (o:=.dK (putK (putK (pg6 r q l1 l2 l3 .non) (.inr "listed") .non) (.inr "goes") (.ref l4))) fp (s6.trans s7);have p8:(upd H7 p (.dK (putK (putK (pg6 r q l1 l2 l3 .non) (.inr "listed") .non) (.inr "goes") (.ref l4)))) p=some (.dK (putK (putK (pg6 r q l1 l2 l3 .non) (.inr "listed") .non) (.inr "goes") (.ref l4))):=Zc;have d1:=(Zi (H:=H7) (o:=.dK (putK (putK (pg6 r q l1 l2 l3 .non) (.inr "listed") .non) (.inr "goes") (.ref l4))) n1).trans (s7 _ _ c1);have d2:=(Zi (H:=H7) (o:=.dK (putK (putK (pg6 r q l1 l2 l3 .non) (.inr "listed") .non) (.inr "goes") (.ref l4))) n2).trans (s7 _ _ c2);have d3:=(Zi (H:=H7) (o:=.dK (putK (putK (pg6 r q l1 l2 l3 .non) (.inr "listed") .non) (.inr "goes") (.ref l4))) n3).trans (s7 _ _ c3);have d4:=(Zi (H:=H7) (o:=.dK (putK (putK (pg6 r q l1 l2 l3 .non) (.inr "listed") .non) (.inr "goes") (.ref l4))) n4).trans a4;generalize upd H7 p (.dK (putK (putK (pg6 r q l1 l2 l3 .non) (.inr "listed") .non) (.inr "goes") (.ref l4)))=H8 at s8 p8 d1 d2 d3 d4 ⊢;refine⟨sz0,fun l5 f5=>?_⟩;have s9:=Ze (o:=.lst []) f5;have a5:(upd H8 l5 (.lst [])) l5=some (.lst []):=Zc;have n5:l5≠p:=fun z=>by rw[z,p8] at f5;cases f5
 generalize upd H8 l5 (.lst [])=H9 at s9 a5 ⊢;refine⟨_,rfl,p,_,rfl,DPut.k (k:=inr "moves") (s9 _ _ p8) Me.2.2,?_⟩;rw[zgx];refine⟨_,rfl,h p _ ?_ (Z8 fp (s8.trans s9)) fp⟩;have fr:∀ x,H4 x=none->H x=none:=fun x hx=>s1.free (s2.free (s3.free (s4.free hx)));exact⟨l1,l2,l3,.non,.non,l4,l5,[],[],[],[],Zc,(Zi n1).trans (s9 _ _ d1),.nil,(Zi n2).trans (s9 _ _ d2),.nil,(Zi n3).trans (s9 _ _ d3),.nil,rfl,rfl,(Zi n4).trans (s9 _ _ d4),(Zi n5).trans a5,.nil,
  fp,s1.free f1,s1.free (s2.free f2),s1.free (s2.free (s3.free f3)),s6.free f4,s8.free f5⟩
abbrev Mx:Stmt:=top 67
theorem W7:Zl ["_law_page","_law_met_here","_law_listed","_law_goes","_law_moves","_law_may","_law_k"] ["_law_page"] (Zj Mx):=fnS
theorem A8(F:Fun K "_law_met" "_law_met" Mx f fd)(T:Tx K mg a):FnOk P w K mg base (CX1 P w) 1 f fd ["_law_page"] (zba K):=by
 refine F.okX W7 ⋯ fun _ _ _ _ H _ Q E hr h=>?_;obtain⟨ok,d,P0,rfl,PA,PO,h⟩:=h;have hu:=Wq hr;refine⟨_,(Zb (pS 1 W7.nd O2)
 (Zb (Xf PassesOwn.leaving rfl (Yd (K:=K) rfl (Dp (Dw (K:=K) rfl) (pD hu (pv 0) Zo) (zah (Zs (Qu rfl) (by rfl) T.zpa PyProof.Rows.boot_max (Za Zg (Za (Zp Pq (Zs (cL K) (by rfl) T.zly PySem.boot_len (Za (pD hu (pv 0) Zo) Zd)) (pD hu (pv 0) Zo)) Zd)))) zag)) (Wd (K:=K) (n:=4) rfl rfl (Zy (pN 2 W7.nd) (Zy (pN 3 W7.nd) (Zy (pN 4 W7.nd) (Zy (pN 5 W7.nd) Wb)))))
  (Zf (Xf PassesOwn.leaving rfl (X9 rfl T.zmj (Za (Zs (cL K) (by rfl) T.zly PySem.boot_len (Za (pv 2) Zd)) Zd)) (pN 6 W7.nd)
   (Zf (Z5 (Zn W9 (pI (iL K) (pv 3) (pv 6)) Yz (Zu _))
    (Zb (Yn hu (pv 1) (Z7 (Za (pI (iL K) (pv 3) (pv 6)) (Za (pI (iU K) (pI (iL K) (pv 2) (pv 6)) Zg) Zd))) T9 rfl)
    (Zf (Yn hu (pv 1) (Z7 (Za (pI (iL K) (pv 3) (pv 6)) (Za (pI (iU K) (pI (iL K) (pv 2) (pv 6)) Zg) Zd))) T9 rfl)))
    Zt)))))
 (Zf (Zm (pv 1))))),?_⟩
 obtain⟨lp,lo,lv,dv,li,lg,lm,pts,ots,vts,mts,a1,a2,a3,a4,a5,a6,a7,a8,a9,b1,b2,b3,o1,o2,o3,o4,o5,o6⟩:=PA;refine fun m fm=>?_;have s1:=Ze (o:=.dT []) fm;have m1:(upd H m (.dT [])) m=some (.dT []):=Zc;generalize upd H m (.dT [])=H1 at s1 m1 ⊢;walk_at "if";refine⟨_,rfl,d,_,rfl,DGet.k (k:=.inr "over") (s1 _ _ a1),?_⟩;refine⟨_,rfl,d,_,rfl,DGet.k (k:=.inr "over") (s1 _ _ a1),lv,vts,rfl,.inl (SqL.of (s1 _ _ a6)),_,rfl,d,_,rfl,DGet.k (k:=.inr "rest") (s1 _ _ a1),_,_,rfl,rfl,_,_,rfl,_,rfl,lv,vts,rfl,SqL.of (s1 _ _ a6),fun c fc=>?_⟩;have e0:=zfa vts vts.length P0.rest;rw[a7.length] at e0;have ez:(vts.length:Int)=(P0.over.length:Int):=by rw[a7.length]
 rw[ez,e0];obtain⟨k0,hk0⟩:∃ k:Nat,k=((P0.over.length:Int)-P0.rest).toNat:=⟨_,rfl⟩;rw[<- hk0];have s2:=Ze (o:=.lst (vts.drop k0)) fc;have c2:(upd H1 c (.lst (vts.drop k0))) c=some (.lst (vts.drop k0)):=Zc;have ncm:c≠m:=fun z=>by rw[z,m1] at fc;cases fc
 have OV:Xb ok (upd H1 c (.lst (vts.drop k0))) (vts.drop k0) (P0.over.drop k0):=(a7.drop k0).keep (fun x o _ z=>s2 _ _ (s1 _ _ z)) (fun x o z=>s2 _ _ (s1 _ _ z));have m2:=s2 _ _ m1;generalize upd H1 c (.lst (vts.drop k0))=H2 at s2 c2 OV m2 ⊢;have hin:∀ s∈P0.over.drop k0,s∈P0.over:=fun s hs=>List.mem_of_mem_drop hs;have hlen:(P0.over.drop k0).length<=100:=by rw[List.length_drop];have:=PO.1;omega
 generalize vts.drop k0=ds at c2 OV ⊢;refine⟨c,rfl,⟨_,SqL.of c2⟩,X6 (K:=K) (a:=c) (xs:=ds) (fun i σ H'=>(∃ v1 v2 v3 v4 v5,σ=[some (.ref d),some (.ref m),v1,v2,v3,v4,v5])/\(∀ x o,H2 x=some o->x≠m->H' x=some o) /\
  ∃ kvs,H' m=some (.dT kvs)/\Od kvs (P0.over.drop k0) i 0/\kvs.length<=40*i) ⟨⟨_,_,_,_,_,rfl⟩,fun _ _ e _=>e,[],m2,.zero _,by simp⟩ (fun i σ H' _ ⟨_,k,_⟩=>SqL.of (k _ _ c2 ncm)) ?_ ?_⟩
 ·rintro i x σ H' hx ⟨⟨v1,v2,v3,v4,v5,rfl⟩,k2,kvs,hm,mi,kl⟩;obtain⟨t,l,g,mm,y,ts,s,rfl,hs,ht,hl,tl,hg,_,_⟩:=OV.get hx;have htn:t≠m:=Yo ht m2 (by intro z;cases z);have hln:l≠m:=Yo hl m2 (by intro z;cases z);have hgn:g≠m:=Yo hg m2 (by intro z;cases z);refine⟨t,_,rfl,SqT.of (k2 _ _ ht htn),rfl,_,_,rfl,_,_,rfl,_,_,rfl,_,_,rfl,rfl,?_⟩;have hsz:=PO.2.2 s (hin s (ztn hs));have hi:i<ds.length:=(ztd.mp hx).1;have hdl:=OV.length;have tln:ts.length=s.ms.length:=by rw[tl.length,zta]
  have rln:(Yb s).length=s.ms.length:=by unfold Yb;rw[List.length_zipWith,hsz.2.1,Nat.min_self]
  refine⟨_,rfl,l,ts,rfl,.inl (SqL.of (k2 _ _ hl hln)),_,rfl,by omega,by omega,Wn (fun j σ H'=>(∃ v,σ=[some (.ref d),some (.ref m),some (.ref l),some (.ref g),some (.ref mm),some (.ref y),v])/\(∀ x o,H2 x=some o->x≠m->H' x=some o) /\
   ∃ kvs,H' m=some (.dT kvs)/\Od kvs (P0.over.drop k0) i j/\kvs.length<=40*i+2*j) ⟨⟨_,rfl⟩,k2,kvs,hm,mi,by omega⟩ ?_ ?_⟩
  ·rintro j σ H3 hj ⟨⟨v,rfl⟩,k3,kvs3,hm3,mi3,kl3⟩;rw[ztv] at hj;rw[zu8];have hj2:j<s.gv.length:=by omega
   have hg3:s.gv[j]?=some (s.gv[j]'hj2):=ztb hj2;have hone:=hsz.2.2 _ (zue hj2);generalize s.gv[j]'hj2=xv at hg3 hone;have ht3:ts[j]?=some (ts[j]'hj):=ztb hj;obtain⟨tj,mj,e1,hmj,htj⟩:=K3 tl ht3;rw[e1] at ht3;have htjn:tj≠m:=Yo htj m2 (by intro z;cases z);have hr3:(Yb s)[j]?=some (Ce mj xv):=by unfold Yb;rw[List.getElem?_zipWith,hmj,hg3]
   refine⟨_,rfl,_,rfl,g,_,_,_,rfl,rfl,SqL.of (k3 _ _ hg hgn),Yf hg3,rfl,_,rfl,?_⟩;rcases hone with rfl|⟨w,rfl⟩
   ·refine iteF ?_;exact⟨⟨_,rfl⟩,k3,kvs3,hm3,mi3.none hs hr3 rfl,by omega⟩
   ·refine iteT ?_;refine⟨_,rfl,_,rfl,_,rfl,g,_,_,_,rfl,rfl,SqL.of (k3 _ _ hg hgn),Yf hg3,?_⟩;have big:∀ n:Nat,n<=200000->n<sizeLine:=fun n hn=>Nat.lt_trans (zuz hn ⋯) Uz;refine⟨_,rfl,_,rfl,l,_,_,_,rfl,rfl,SqL.of (k3 _ _ hl hln),Yf ht3,tj,_,_,_,rfl,rfl,SqT.of (k3 _ _ htj htjn),rfl,sz2,fun t2 ht2=>⟨m,_,rfl,DPut.t (k:=[inl w,inl mj.1]) (by rw[Zi (Zh hm3 ht2)];exact hm3) Zc (big _ ⋯),?_⟩⟩;have k4:∀ x o,H2 x=some o->x≠m->upd (upd H3 t2 (.tup [.int w,.int mj.1])) m (.dT (putK kvs3 [inl w,inl mj.1] (.bl true))) x=some o:=fun x o e n=>by
     have:=k3 x o e n;rw[Zi n,Zi (Zh this ht2)];exact this
    have hm4:upd (upd H3 t2 (.tup [.int w,.int mj.1])) m (.dT (putK kvs3 [inl w,inl mj.1] (.bl true))) m=some (.dT (putK kvs3 [inl w,inl mj.1] (.bl true))):=Zc;have l4:=Y7 kvs3 ([inl w,inl mj.1]:List Key) (.bl true);generalize upd (upd H3 t2 (.tup [.int w,.int mj.1])) m (.dT (putK kvs3 [inl w,inl mj.1] (.bl true)))=H4 at k4 hm4 ⊢;refine⟨_,rfl,_,rfl,_,rfl,g,_,_,_,rfl,rfl,SqL.of (k4 _ _ hg hgn),Yf hg3,?_⟩;refine⟨_,rfl,_,rfl,l,_,_,_,rfl,rfl,SqL.of (k4 _ _ hl hln),Yf ht3,tj,_,_,_,rfl,rfl,SqT.of (k4 _ _ htj htjn),rfl,sz2,fun t4 ht4=>⟨m,_,rfl,DPut.t (k:=[inl w,inl mj.2.1]) (by rw[Zi (Zh hm4 ht4)];exact hm4) Zc (big _ ⋯),?_⟩⟩;have l5:=Y7 (putK kvs3 ([inl w,inl mj.1]:List Key) (.bl true)) ([inl w,inl mj.2.1]:List Key) (.bl true);refine⟨⟨_,rfl⟩,fun x o e n=>?_,_,Zc,mi3.some hs hr3 rfl,by omega⟩;have:=k4 x o e n;rw[Zi n,Zi (Zh this ht4)];exact this
  ·rintro σ H3 ⟨⟨v,rfl⟩,k3,kvs3,hm3,mi3,kl3⟩;rw[ztv] at mi3 kl3;rw[tln,<- rln] at mi3;exact⟨⟨_,_,_,_,_,rfl⟩,k3,kvs3,hm3,mi3.next hs,by omega⟩
 ·rintro σ H' ⟨⟨v1,v2,v3,v4,v5,rfl⟩,k2,kvs,hm,mi,kl⟩;rw[OV.length] at mi;refine⟨_,rfl,h m kvs H' hm (mi.all hk0) (fun x o e=>k2 _ _ (s2 _ _ (s1 _ _ e)) (Zh e fm)) fm⟩
abbrev Ov:Stmt:=top 68
theorem X2:Zl ["_law_page","_law_met_here","_law_person","_law_match","_law_number","_law_grade","_law_club","_law_home","_law_guest","_law_asked","_law_told"] ["_law_page","_law_met_here","_law_person","_law_match"] (Zj Ov):=fnS
theorem Bf(F:Fun K "_law_bars" "_law_bars" Ov f fd)(T:Tx K mg a):FnOk P w K mg base (CX1 P w) 1 f fd ["_law_page","_law_met_here","_law_person","_law_match"] (C2 K):=by
 refine F.okX X2 ⋯ fun _ _ _ _ H _ Q E hr h=>?_;obtain⟨ok,d,m,t1,t2,P0,kvs,x,y,rfl,PA,hm,mo,h1,h2,h⟩:=h;have hu:=Wq hr;refine⟨_,(Zb (Kt (pv 2) (Wd (K:=K) (n:=3) rfl rfl (Zy (pN 4 X2.nd) (Zy (pN 5 X2.nd) (Zy (pN 6 X2.nd) Wb)))))
 (Zb (Kt (pv 3) (Wd (K:=K) (n:=3) rfl rfl (Zy (pN 7 X2.nd) (Zy (pN 8 X2.nd) (Zy (pN 9 X2.nd) Wb)))))
 (Zb (pS 10 X2.nd (Z9 Zd))
 (Zb (Z5 (Zn (El (K:=K) rfl hr.units) (Z7 (Za (Zp Yk (Zs (cL K) (by rfl) T.zly PySem.boot_len (Za (pD hu (pv 0) Zo) Zd)) Zg) (Za (pv 4) Zd))) (pD hu (pv 0) Zo) (by with_unfolding_all rfl))
  (Zf (Yv (pv 10) Zo))
  Zt)
 (Zb (Z5 (Zn Rk (pv 9) (pv 5) (Zu _))
  (Zf (Yv (pv 10) Zo))
  Zt)
 (Zb (Z5 (PW.pt (Rj (Zn Xn (pv 6) (pv 7) (Zu _)) (Ux (Zn Xn (pv 6) (pv 8) (Zu _)))))
  (Zf (Yv (pv 10) Zo))
  Zt)
 (Zb (Z5 (PW.pt (Rj (Tr (Pt hu (Z7 (Za (pv 4) (Za (pv 7) Zd))) (pv 1))) (Ux (Tr (Pt hu (Z7 (Za (pv 4) (Za (pv 8) Zd))) (pv 1))))))
  (Zf (Yv (pv 10) Zo))
  Zt)
 (Zf (Zm (pv 10)))))))))),?_⟩
 show let y1:TS:=_;let y2:TS:=Zw _ y1;let y3:TS:=Zw _ y2;let y4:TS:=Zw _ y3;let y5:TS:=Zw _ y4;let y6:TS:=Zw _ y5;let y7:TS:=Zw _ y6;Zw _ y7 _ _ _;intro y1 y2 y3 y4 y5 y6 y7;obtain⟨n,g,c⟩:=x;obtain⟨ho,gu,as⟩:=y;have h1:H t1=some (.tup [.int n,.int g,.int c]):=h1;have h2:H t2=some (.tup [.int ho,.int gu,.int as]):=h2;obtain⟨lp,lo,lv,dv,li,lg,lm,pts,ots,vts,mts,a1,a2,a3,a4,a5,a6,a7,a8,a9,c1,c2,c3,o1,o2,o3,o4,o5,o6⟩:=PA;refine⟨_,rfl,t1,_,rfl,SqT.of h1,rfl,_,_,rfl,_,_,rfl,_,_,rfl,rfl,?_⟩;refine⟨_,rfl,t2,_,rfl,SqT.of h2,rfl,_,_,rfl,_,_,rfl,_,_,rfl,rfl,?_⟩;refine⟨by show 0<=sizeLine;decide,fun l hl=>?_⟩;have s1:=Ze (o:=.lst []) hl;have q1:upd H l (.lst []) l=some (.lst (([]:List Str).map V.str)):=Zc;generalize upd H l (.lst [])=H1 at s1 q1;walk_at "if";have b1:=N8 (decide (((P0.over.length:Int)+1,n)∈P0.out)) "away";have b2:=N8 (decide (g<as)) "grade";have b3:=N8 (decide (c=ho)||decide (c=gu)) "club";refine Tg (b:=decide (((P0.over.length:Int)+1,n)∈P0.out)) (H0:=H) (fun Q q=>?_) hl s1 q1 ⋯ rfl (fun H2 s2 q2 _=>?_)
 ·refine⟨_,rfl,d,_,rfl,DGet.k (k:=.inr "over") (s1 _ _ a1),lv,vts,rfl,.inl (SqL.of (s1 _ _ a6)),_,_,rfl,rfl,_,rfl,sz2,fun t ht=>?_⟩;have s3:=Ze (o:=.tup [.int ((vts.length:Int)+1),.int n]) ht;refine⟨_,rfl,d,_,rfl,DGet.k (k:=.inr "out") (s3 _ _ (s1 _ _ a1)),t,lo,ots,_,_,P0.out,rfl,rfl,SqT.of Zc,SqL.of (s3 _ _ (s1 _ _ a4)),(a5.mono fun _ _ z=>s3 _ _ (s1 _ _ z)),_,rfl,?_⟩;rw[a7.length] at s3 ⊢;exact q _ s3
 rw[List.nil_append] at q2;have din:∀ (H3:Hp) (cc:Int) (Q3:Bool->Hp->Prop),Same H H3->(∀ H4,Same H3 H4->Q3 (Rl (P0.over.map Yb) n cc P0.rest) H4)->∀ t,H3 t=none->Q3 (valV kvs [inl n,inl cc]).isSome (upd H3 t (.tup [.int n,.int cc])):=fun H3 cc Q3 s3 q3 t ht=>by
  rw[mo n cc];exact q3 _ (Ze ht)
 refine Tg (b:=decide (g<as)) (H0:=H) (Sv fun Q q=>⟨_,rfl,_,rfl,_,_,rfl,rfl,_,rfl,q⟩) hl s2 q2 ⋯ rfl (fun H3 s3 q3 _=>?_);refine Tg (b:=decide (c=ho)||decide (c=gu)) (H0:=H) (Sv (R4 (fun Q q=>⟨_,rfl,_,rfl,rfl,_,rfl,R1▸q⟩) (fun Q q=>⟨_,rfl,_,rfl,rfl,_,rfl,R1▸q⟩))) hl s3 q3 (by rw[ztc];omega) rfl (fun H4 s4 q4 _=>?_);refine Tg (b:=Rl (P0.over.map Yb) n ho P0.rest||Rl (P0.over.map Yb) n gu P0.rest) (H0:=H) (D1 (fun Q q=>?_) (fun H5 s5 Q q=>?_)) hl s4 q4 (by rw[ztc,ztc];omega) rfl (fun H5 s5 q5 _=>?_)
 ·exact⟨_,rfl,_,rfl,sz2,fun t ht=>⟨_,rfl,m,_,rfl,DGet.t (k:=[inl n,inl ho]) (Ze ht _ _ (s4 _ _ hm)) Zc,_,rfl,din _ ho _ s4 q t ht⟩⟩
 ·exact⟨_,rfl,_,rfl,sz2,fun t ht=>⟨_,rfl,m,_,rfl,DGet.t (k:=[inl n,inl gu]) (Ze ht _ _ (s5 _ _ (s4 _ _ hm))) Zc,_,rfl,din _ gu _ (s4.trans s5) q t ht⟩⟩
 refine⟨_,rfl,h l H5 ?_ s5 hl⟩;unfold Pb whyS;rw[q5,zu6,zu6]
abbrev Ow:Stmt:=top 69
theorem Ud:Zl ["_law_page","_law_met_here","_law_may","_law_match","_law_fit"] ["_law_page"] (Zj Ow):=fnS
theorem Bg(F:Fun K "_law_open" "_law_open" Ow f fd)(T:Tx K mg a)(zp0:Z4 P w K mg base "_law_met" 1 ["_law_page"] (zba K))(zpl:Z4 P w K mg base "_law_bars" 1 ["_law_page","_law_met_here","_law_person","_law_match"] (C2 K)):FnOk P w K mg base (CX1 P w) 2 f fd ["_law_page"] (Am K):=by
 refine F.okX Ud ⋯ fun _ _ _ _ H _ Q E hr h=>?_;obtain⟨ok,d,P0,ms,rfl,PA,PO,hms,hl1,hl2,h⟩:=h;have hu:=Wq hr;refine⟨_,(Zb (pS 1 Ud.nd (pF zp0 hr (Za (pv 0) Zd)))
 (Zb (pS 2 Ud.nd (Z9 Zd))
 (Zb (Xf PassesOwn.leaving rfl (Yd (K:=K) rfl (pD hu (pv 0) Zo)) (pN 3 Ud.nd)
  (Zb (Tn (i:=4) Ud.nd rfl rfl rfl (cT ["_law_page","_law_met_here","_law_match"] [0,1,3]) (Yd (K:=K) rfl (pD hu (pv 0) Zo)) (fun _ _ _ _ _=>Qw (Zn (zaq (K:=K) rfl hr.units) (zao zpl (hr.mono ⋯) zan rfl (Za (pv 1) (Za (pv 2) (Za (pv 0) (Za (pv 3) Zd))))) (Z9 Zd) (Zu _))) (fun _ _ _ _ _=>(pv 0)))
  (Zf (Yv (pv 2) (Vh rfl (cT [] []) (Yd (K:=K) rfl (pv 4)) (fun _ _ _ _ _=>V5) (fun _ _ _ _ _=>(pI (iU K) (pv 0) Zg)))))))
 (Zf (Zm (pv 2)))))),?_⟩
 refine⟨_,rfl,ok,d,P0,rfl,PA,PO,fun m kvs H1 hm mo s1 fm=>?_⟩;obtain⟨lp,lo,lv,dv,li,lg,lm,pts,ots,vts,mts,a1,a2,a3,a4,a5,a6,a7,a8,a9,c1,c2,c3,o1,o2,o3,o4,o5,o6⟩:=id PA;refine⟨by show 0<=sizeLine;decide,fun r hr'=>?_⟩;have s2:=s1.trans (Ze (o:=.lst []) hr');have q2:upd H1 r (.lst []) r=some (.lst []):=Zc;have hm2:upd H1 r (.lst []) m=some (.dT kvs):=Ze hr' _ _ hm;have fr:=s1.free hr';walk_at "if";generalize upd H1 r (.lst [])=H2 at s2 q2 hm2 ⊢;rw[hms] at a9;obtain⟨ll,ts,rfl,hll,tl,_⟩:=a9;have htl:ts.length=ms.length:=by rw[tl.length,zta]
 have hpl:pts.length=P0.ppl.length:=by rw[a3.length,zta]
 have hmr:m≠r:=fun z=>by rw[z,q2] at hm2;cases hm2
 refine⟨_,rfl,d,_,rfl,DGet.k (k:=.inr "listed") (s2 _ _ a1),ll,rfl,⟨_,SqL.of (s2 _ _ hll)⟩,X6 (K:=K) (a:=ll) (xs:=ts) (fun i σ H'=>(∃ v1 v2,σ=[some (.ref d),some (.ref m),some (.ref r),v1,v2])/\(∀ x o,H2 x=some o->x≠r->H' x=some o) /\
  ∃ ls,H' r=some (.lst (ls.map V.ref))/\ILs H' ls ((mayP P0 ms).take i)/\ls.length=i/\∀ x∈ls,H x=none/\x≠r) ⟨⟨_,_,rfl⟩,fun _ _ e _=>e,[],q2,.nil,rfl,by simp⟩ (fun i σ H' _ ⟨_,k,_⟩=>SqL.of (k _ _ (s2 _ _ hll) (Zh hll fr))) ?_ ?_⟩
 ·rintro i x σ H' hx ⟨⟨v1,v2,rfl⟩,k2,ls,hr3,il,hln,hfr⟩;obtain⟨t,mm,rfl,hmm,ht⟩:=K3 tl hx;have sh:Same H H':=fun x o e=>k2 _ _ (s2 _ _ e) (Zh e fr);refine⟨_,rfl,d,_,rfl,DGet.k (k:=.inr "people") (sh _ _ a1),lp,rfl,⟨_,SqL.of (sh _ _ a2)⟩,?_⟩;refine Xw (K:=K) (a:=lp) (xs:=pts) (fun i ys H''=>Same H' H''/\TupL H'' ys (((P0.ppl.take i).filter fun x=>(Pb P0 x mm).isEmpty).map pV)) ⟨Same.refl _,.nil⟩ (fun i ys H'' _ ⟨z,_⟩=>SqL.of (z _ _ (sh _ _ a2))) (szN ⋯) (fun i ys H' ⟨_,e⟩=>by rw[e.length,zta];exact zts (zuf _ _) (zul _ _)) ?_ ?_
  ·rintro j x ys H3 hx3 ⟨s3,tl3⟩;obtain⟨tp,pp,rfl,hpp,htp⟩:=K3 a3 hx3;have sh3:=sh.trans s3;refine⟨_,rfl,_,rfl,_,rfl,_,rfl,ok,d,m,tp,t,P0,kvs,pp,mm,rfl,PA.same sh3,s3 _ _ (k2 _ _ hm2 hmr),mo,sh3 _ _ htp,sh3 _ _ ht,fun lw H4 hlw s4 fw=>?_⟩;refine⟨by show 0<=sizeLine;decide,fun le hle=>?_⟩;have s5:=s4.trans (Ze (o:=.lst []) hle);refine⟨_,_,.lst (SqL.of (Ze hle _ _ hlw)) (Jm _),.lst (SqL.of Zc) .nil,zgz _ zg0,zax,_,rfl,?_⟩;generalize upd H4 le (.lst [])=H5 at s5 ⊢;rw[if_neg (show ¬ false=true by decide),zay];have e:P0.ppl.take (j+1)=P0.ppl.take j++[pp]:=Wa hpp;rw[e,zu0,zti];refine itB (fun hb=>?_) (fun hb=>?_)
   ·refine⟨_,rfl,s3.trans s5,?_⟩;rw[zuq (p:=fun x=>(Pb P0 x mm).isEmpty) (a:=pp) hb,zu2];exact(tl3.same s5).snoc (s5 _ _ (sh3 _ _ htp))
   ·refine⟨s3.trans s5,?_⟩;rw[zup (p:=fun x=>(Pb P0 x mm).isEmpty) (a:=pp) (by rw[hb];decide),zu2,List.map_nil,zvf];exact tl3.same s5
  ·rintro ys H3 ⟨s3,tl3⟩ lf hlf;rw[hpl,ztq] at tl3;have s4:=s3.trans (Ze (o:=.lst ys) hlf);have q4:upd H3 lf (.lst ys) lf=some (.lst ys):=Zc;have tl4:=tl3.same (Ze (o:=.lst ys) hlf);show Wu 4 (V.ref lf) _ (upd H3 lf (.lst ys)) _;generalize upd H3 lf (.lst ys)=H4 at s4 q4 tl4 ⊢;have hfl:ys.length<=100:=by rw[tl3.length,zta];exact zts (zuf _ _) hl2
   walk_at "if";refine⟨_,rfl,r,_,rfl,s4 _ _ hr3,_,rfl,lf,rfl,⟨_,SqL.of q4⟩,Xw (K:=K) (a:=lf) (xs:=ys) (fun i zs H''=>Same H4 H''/\zs=((P0.ppl.filter fun x=>(Pb P0 x mm).isEmpty).take i).map fun x=>V.int x.1) ⟨Same.refl _,rfl⟩ (fun i zs H'' _ ⟨z,_⟩=>SqL.of (z _ _ q4)) (szN ⋯) (fun i zs H'' ⟨_,e⟩=>by rw[e,zta];exact zul _ _) ?_ ?_⟩
   ·rintro j x zs H5 hx5 ⟨s5,rfl⟩;obtain⟨tp,pp,rfl,hpp,htp⟩:=K3 tl4 hx5;unfold tYes;dsimp only;rw[if_pos rfl];refine⟨_,rfl,tp,_,_,_,rfl,rfl,SqT.of (s5 _ _ htp),(show atI (pV pp) 0=some _ from rfl),s5,?_⟩;rw[Wa hpp,zti];rfl
   ·rintro zs H5 ⟨s5,rfl⟩ ln hln';have hyl:ys.length=(P0.ppl.filter fun x=>(Pb P0 x mm).isEmpty).length:=by rw[tl3.length,zta]
    rw[hyl,ztq];have er:(P0.ppl.filter fun x=>(Pb P0 x mm).isEmpty).map (fun x=>V.int x.1)=((P0.ppl.filter fun x=>(Pb P0 x mm).isEmpty).map (·.1)).map V.int:=by rw[zu4];rfl
    rw[er];have s6:=(s4.trans s5).trans (Ze (o:=.lst (((P0.ppl.filter fun x=>(Pb P0 x mm).isEmpty).map (·.1)).map V.int)) hln');have q6:upd H5 ln (.lst (((P0.ppl.filter fun x=>(Pb P0 x mm).isEmpty).map (·.1)).map V.int)) ln=some (.lst (((P0.ppl.filter fun x=>(Pb P0 x mm).isEmpty).map (·.1)).map V.int)):=Zc;have fl:H' ln=none:=(s4.trans s5).free hln';dsimp only;generalize upd H5 ln (.lst (((P0.ppl.filter fun x=>(Pb P0 x mm).isEmpty).map (·.1)).map V.int))=H6 at s6 q6 ⊢;refine⟨_,s6 _ _ hr3,szN (by rw[zta];have:=(ztd.mp hx).1;omega),⟨_,_,rfl⟩,fun x o e n=>by rw[Zi n];exact s6 _ _ (k2 _ _ e n),ls++[ln],by rw[zti];exact Zc,?_,by rw[ztc,hln];rfl,fun y hy=>?_⟩
    ·have e:(mayP P0 ms).take (i+1)=(mayP P0 ms).take i++[(P0.ppl.filter fun x=>(Pb P0 x mm).isEmpty).map (·.1)]:=by
      unfold mayP;rw[zua,ztj,hmm];rfl
     rw[e];refine ILs.snoc (by rw[Zi (Zh hr3 fl).symm];exact q6) (il.keep fun x hx' o q=>?_);rw[Zi (hfr x hx').2];exact s6 _ _ q
    ·rcases ztl.mp hy with z|z
     ·exact hfr y z
     ·rw[zte.mp z];exact⟨sh.free fl,(Zh hr3 fl).symm⟩
 ·rintro σ H' ⟨⟨v1,v2,rfl⟩,k2,ls,hr3,il,hln,hfr⟩;have sh:Same H H':=fun x o e=>k2 _ _ (s2 _ _ e) (Zh e fr);have hml:(mayP P0 ms).length=ms.length:=by unfold mayP;rw[zta]
  rw[htl,<- hml,ztq] at il;exact⟨_,rfl,h r ls H' hr3 il sh fr fun x hx=>(hfr x hx).1⟩
abbrev Qr:Stmt:=top 70
theorem Uu:Zl ["_law_pages","_law_deed_here","_law_page","_law_at_here","_law_kept"] ["_law_pages","_law_deed_here"] (Zj Qr):=fnS
theorem E3(F:Fun K "_law_paged" "_law_paged" Qr f fd)(T:Tx K mg a)(znl:Z4 P w K mg base "_law_open" 2 ["_law_page"] (Am K)):FnOk P w K mg base (CX1 P w) 3 f fd ["_law_pages","_law_deed_here"] (Em K):=by
 refine F.okX Uu ⋯ fun _ _ _ _ H _ Q E hr h=>?_;obtain⟨ok,l,t,ds,d,P0,D,rfl,hl,PA,hD,PO,hpl,hol,hdl,hcl,h⟩:=h;have hu:=Wq hr;refine⟨_,(Zb (pS 2 Uu.nd (Yj Aj (by rfl) T.zqx PyProof.Rows.boot_dict (Za (pI (iL K) (pv 0) (O1 Sr Zg)) Zd)))
 (Zb (pS 3 Uu.nd (Zp Yk (Zs (cL K) (by rfl) T.zly PySem.boot_len (Za (pD hu (pv 2) Zo) Zd)) Zg))
 (Zb (Z5 (Zn Xn (pI (iU K) (pv 1) Zg) Zo (Zu _))
  (Zf (Zm (Dp (Dw (K:=K) rfl) (pv 0) zag (zah (O1 Sr Zg)))))
  Zt)
 (Zb (Z5 (Zn Xn (pI (iU K) (pv 1) Zg) Zo (Zu _))
  (Zb (pS 4 Uu.nd (Z7 (Za (pD hu (pv 2) Zo) (Za (pD hu (pv 2) Zo) (Za (pD hu (pv 2) Zo) (Za (pF znl hr (Za (pv 2) Zd)) Zd))))))
  (Zb (Yn hu (pv 2) Zo (Zp Kz (pD hu (pv 2) Zo) (Z9 (Za (pv 4) Zd))) rfl)
  (Zb (Yn hu (pv 2) Zo Yz rfl)
  (Zb (Yn hu (pv 2) Zo (Z9 Zd) rfl)
  (Zb (Yn hu (pv 2) Zo (Z9 Zd) rfl)
  (Zf (Zm (Z9 (Za (pv 2) Zd)))))))))
  Zt)
 (Zb (Z5 (Zn Xn (pI (iU K) (pv 1) Zg) Zo (Zu _))
  (Zb (Yn hu (pv 2) Zo (Zp Kz (pD hu (pv 2) Zo) (Z9 (Za (Z7 (Za (pI (iU K) (pv 1) Zg) (Za (pI (iU K) (pv 1) Zg) (Za (pI (iU K) (pv 1) Zg) Zd)))) Zd))) rfl)
  (Zf (Yn hu (pv 2) Zo (Z7 (Za Zo (Za (pI (iU K) (pv 1) Zg) (Za (pv 3) Zd)))) rfl)))
  (Zf (Z5 (Zn Xn (pI (iU K) (pv 1) Zg) Zo (Zu _))
   (Zb (Yn hu (pv 2) Zo (pI (iU K) (pv 1) Zg) rfl)
   (Zf (Yn hu (pv 2) Zo (Z7 (Za Zo (Za (Zs (cL K) (by rfl) T.zly PySem.boot_len (Za (pI (iU K) (pv 1) Zg) Zd)) (Za (pv 3) Zd)))) rfl)))
   (Zb (Yn hu (pv 2) Zo (Zp Kz (pD hu (pv 2) Zo) (Z9 (Za (Z7 (Za (pI (iU K) (pv 1) Zg) (Za (pI (iU K) (pv 1) Zg) Zd))) Zd))) rfl)
   (Zf (Yn hu (pv 2) Zo (Z7 (Za Zo (Za (pI (iU K) (pv 1) Zg) (Za (pI (iU K) (pv 1) Zg) Zd)))) rfl))))))
 (Zf (Zm (Zp Kz (pv 0) (Z9 (Za (pv 2) Zd)))))))))),?_⟩
 show let y1:TS:=_;let y2:TS:=Zw _ y1;let y3:TS:=Zw _ y2;let y4:TS:=Zw _ y3;let y5:TS:=Zw _ y4;let y6:TS:=_;let y7:TS:=Zw _ y6;let y8:TS:=Zw (E9 _ (Zw _ y5) _) y7;let y9:TS:=Zw _ y8;let y10:TS:=Zw _ y9;Zw _ y10 _ _ _;intro y1 y2 y3 y4 y5 y6 y7 y8 y9 y10;obtain⟨lp,lo,lv,dv,li,lg,lm,a1,PB,okd⟩:=id PA.split;have hat:atI ((ds++[d]).map V.ref) (-1)=some (V.ref d):=by rw[zti];exact L2.atI_last _ _
 refine⟨_,rfl,_,rfl,l,_,_,_,rfl,rfl,SqL.of hl,hat,d,_,rfl,.inl a1,fun d' fd'=>?_⟩;obtain⟨ok1,hok1⟩:∃ ok1:Addr->Prop,ok1=fun x=>ok x\/H x=none:=⟨_,rfl⟩;have okf:∀ x,H x=none->ok1 x:=fun x hx=>by rw[hok1];exact .inr hx
 have oko:∀ x,ok x->ok1 x:=fun x hx=>by rw[hok1];exact .inl hx
 rw[<- hok1] at h;have s1:=Ze (o:=.dK (pgF P0.len P0.rest lp lo lv dv li lg lm)) fd';have q1:upd H d' (.dK (pgF P0.len P0.rest lp lo lv dv li lg lm)) d'=some (.dK (pgF P0.len P0.rest lp lo lv dv li lg lm)):=Zc;have PB1:=(PB.imp (fun x _ o=>oko x o)).keepL (.of s1);walk_at "if";generalize upd H d' (.dK (pgF P0.len P0.rest lp lo lv dv li lg lm))=H1 at s1 q1 PB1 ⊢;have PA1:PgAt ok1 H1 d' P0:=.join q1 PB1 (okf _ fd');obtain⟨vts,v1,v2,v3⟩:=PB1.vv;refine⟨_,rfl,d',_,rfl,DGet.k (k:=.inr "over") q1,lv,vts,rfl,.inl (SqL.of v1),_,_,rfl,rfl,?_⟩;rw[v2.length];have wr:∀ {H:Hp} {lp lo lv:Addr} {dv li:V} {lg lm:Addr} {x:V} {k:Str},H d'=some (.dK (pgF P0.len P0.rest lp lo lv dv li lg lm))->DPut H d' (.str k) x (upd H d' (.dK (putK (pgF P0.len P0.rest lp lo lv dv li lg lm) (.inr k) x))):=fun q=>DPut.k (k:=.inr _) q ze8;have sz0:([]:List V).length<=sizeLine:=zt4 _;have sz1:∀ x:V,[x].length<=sizeLine:=fun x=>by show 1<=sizeLine;rw[sizeLine_eq];decide
 walk_at "if";cases D with
 | back =>
   have ht:H t=some (.tup [.str "take back"]):=hD;refine⟨_,rfl,t,_,_,_,rfl,rfl,SqT.of (s1 _ _ ht),rfl,rfl,_,rfl,?_⟩;rw[Ek];refine iteT ?_;refine⟨_,rfl,_,rfl,_,rfl,l,_,rfl,SqL.of (s1 _ _ hl),fun c fc=>?_⟩;rw[zti,show Io (ds.map V.ref++[d].map V.ref) none (some (-1))=ds.map V.ref from zfb _ _];exact h c d' _ Zc (fun z=>absurd rfl z) (s1.trans (Ze fc)) (s1.free fc) fd'
 | close =>
   have ht:H t=some (.tup [.str "close"]):=hD;refine⟨_,rfl,t,_,_,_,rfl,rfl,SqT.of (s1 _ _ ht),rfl,rfl,_,rfl,?_⟩;rw[Ur ⋯];refine iteF (Zz ?_);refine⟨_,rfl,t,_,_,_,rfl,rfl,SqT.of (s1 _ _ ht),rfl,rfl,_,rfl,?_⟩;rw[Ek];refine iteT ?_;obtain⟨ms,hms,hml⟩:=hcl rfl;refine⟨_,rfl,d',_,rfl,DGet.k (k:=.inr "listed") q1,_,rfl,d',_,rfl,DGet.k (k:=.inr "goes") q1,_,rfl,d',_,rfl,DGet.k (k:=.inr "moves") q1,_,rfl,ok1,d',P0,ms,rfl,PA1,PO,hms,hml,hpl,fun ly ls H2 hly ily s2 fly fls=>?_⟩;obtain⟨ll,ts,rfl,b1,b2,b3⟩:∃ l ts,li=.ref l/\H1 l=some (.lst ts)/\TupL H1 ts (ms.map pV)/\ok1 l:=by have:=PB1.li;rw[hms] at this;exact this
   obtain⟨mts,c1,c2,c3⟩:=PB1.mm;obtain⟨g1,g2⟩:=PB1.gg;have sh2:=s1.trans s2;refine⟨by show 4<=sizeLine;rw[sizeLine_eq];decide,fun tk ftk=>?_⟩;have s3:=s2.trans (Ze (o:=.tup [.ref ll,.ref lg,.ref lm,.ref ly]) ftk);have t3:=Zc (H:=H2) (a:=tk) (o:=.tup [.ref ll,.ref lg,.ref lm,.ref ly]);have y3:=Ze (o:=.tup [.ref ll,.ref lg,.ref lm,.ref ly]) ftk _ _ hly;have i3:=ily.same (Ze (o:=.tup [.ref ll,.ref lg,.ref lm,.ref ly]) ftk);generalize upd H2 tk (.tup [.ref ll,.ref lg,.ref lm,.ref ly])=H3 at s3 t3 y3 i3 ⊢;walk_at "if";refine⟨_,rfl,d',_,rfl,DGet.k (k:=.inr "over") (s3 _ _ q1),_,rfl,sz1 _,fun l1 f1=>?_⟩;have s4:=Ze (o:=.lst [.ref tk]) f1;have t4:=Zc (H:=H3) (a:=l1) (o:=.lst [.ref tk]);generalize upd H3 l1 (.lst [.ref tk])=H4 at s4 t4 ⊢;have s04:=s3.trans s4;refine⟨lv,l1,vts,_,rfl,rfl,s04 _ _ v1,t4,szN (by rw[v2.length];have:=PO.1;show P0.over.length+1<=1000;omega),fun lv' fv'=>?_⟩;have s5:=s4.trans (Ze (o:=.lst (vts++[.ref tk])) fv');have t5:=Zc (H:=H4) (a:=lv') (o:=.lst (vts++[.ref tk]));generalize upd H4 lv' (.lst (vts++[.ref tk]))=H5 at s5 t5 ⊢;have s15:=s3.trans s5;refine⟨_,rfl,d',_,rfl,wr (s15 _ _ q1),?_⟩;rw[ze7];have s6:=Z8 (o:=.dK (pgF P0.len P0.rest lp lo lv' dv (.ref ll) lg lm)) fd' (s1.trans s15);have q6:=Zc (H:=H5) (a:=d') (o:=.dK (pgF P0.len P0.rest lp lo lv' dv (.ref ll) lg lm));have k6:=Xj.dict (s15 _ _ q1) (kvs':=pgF P0.len P0.rest lp lo lv' dv (.ref ll) lg lm);generalize upd H5 d' (.dK (pgF P0.len P0.rest lp lo lv' dv (.ref ll) lg lm))=H6 at s6 q6 k6 ⊢;refine⟨_,rfl,d',_,rfl,wr q6,?_⟩;rw[Jj];have s7:=Z8 (o:=.dK (pgF P0.len P0.rest lp lo lv' dv .non lg lm)) fd' s6;have q7:=Zc (H:=H6) (a:=d') (o:=.dK (pgF P0.len P0.rest lp lo lv' dv .non lg lm));have k7:=k6.trans (Xj.dict q6 (kvs':=pgF P0.len P0.rest lp lo lv' dv .non lg lm));generalize upd H6 d' (.dK (pgF P0.len P0.rest lp lo lv' dv .non lg lm))=H7 at s7 q7 k7 ⊢;refine⟨sz0,fun lg' fg'=>?_⟩;have s8:=Ze (o:=.lst []) fg';have t8:=Zc (H:=H7) (a:=lg') (o:=.lst []);generalize upd H7 lg' (.lst [])=H8 at s8 t8 ⊢;refine⟨_,rfl,d',_,rfl,wr (s8 _ _ q7),?_⟩;rw[Cz];have s9:=Z8 (o:=.dK (pgF P0.len P0.rest lp lo lv' dv .non lg' lm)) fd' (s7.trans s8);have q9:=Zc (H:=H8) (a:=d') (o:=.dK (pgF P0.len P0.rest lp lo lv' dv .non lg' lm));have k9':=Xj.dict (s8 _ _ q7) (kvs':=pgF P0.len P0.rest lp lo lv' dv .non lg' lm);generalize upd H8 d' (.dK (pgF P0.len P0.rest lp lo lv' dv .non lg' lm))=H9 at s9 q9 k9' ⊢;have k9:=(k7.trans (.of s8)).trans k9';refine⟨sz0,fun lm' fm'=>?_⟩;have s10:=Ze (o:=.lst []) fm';have t10:=Zc (H:=H9) (a:=lm') (o:=.lst []);generalize upd H9 lm' (.lst [])=H10 at s10 t10 ⊢;refine⟨_,rfl,d',_,rfl,wr (s10 _ _ q9),?_⟩;rw[zcr];have s11:=Z8 (o:=.dK (pgF P0.len P0.rest lp lo lv' dv .non lg' lm')) fd' (s9.trans s10);have q11:=Zc (H:=H10) (a:=d') (o:=.dK (pgF P0.len P0.rest lp lo lv' dv .non lg' lm'));have k11':=Xj.dict (s10 _ _ q9) (kvs':=pgF P0.len P0.rest lp lo lv' dv .non lg' lm');generalize upd H10 d' (.dK (pgF P0.len P0.rest lp lo lv' dv .non lg' lm'))=H11 at s11 q11 k11' ⊢;have k11:=(k9.trans (.of s10)).trans k11';refine⟨_,rfl,sz1 _,fun lr flr=>?_⟩;have s12:=Ze (o:=.lst [.ref d']) flr;have t12:=Zc (H:=H11) (a:=lr) (o:=.lst [.ref d']);have k12:=k11.trans (.of s12);have k1:=(Xj.of s15).trans k12;have k3:=(Xj.of s5).trans k12;generalize upd H11 lr (.lst [.ref d'])=H12 at s12 t12 k12 k1 k3 ⊢;refine h lr d' H12 t12 (fun _=>?_) (s11.trans s12) (s11.free flr) fd';have b:=PB1.keepL k1;have e:Vw P0 .close={ P0 with over:=P0.over++[⟨ms,mayP P0 ms,P0.gv,P0.mv⟩],lis:=none,gv:=[],mv:=[] }:=by unfold Vw;rw[hms];rfl
   rw[e];have fr2:∀ x,H2 x=none->H x=none:=fun x hx=>sh2.free hx;refine .join (P:={ P0 with over:=P0.over++[⟨ms,mayP P0 ms,P0.gv,P0.mv⟩],lis:=none,gv:=[],mv:=[] }) (s12 _ _ q11) ⟨b.pp,b.oo,⟨_,k12.1 _ _ t5,Xb.snoc (s:=⟨ms,mayP P0 ms,P0.gv,P0.mv⟩) (k3.2 _ _ t3) (k1.1 _ _ b1) (b2.mono k1.2) (k1.1 _ _ g1) (k1.1 _ _ c1) (c2.keepL k1) (k3.1 _ _ y3) (ILs.keepL k3 i3) ⟨b3,g2,c3,okf _ (s1.free fly),fun x hx=>okf _ (s1.free (fls x hx))⟩ (v2.keepL k1),okf _ (s1.free (s04.free fv'))⟩,b.dd,rfl,⟨?_,okf _ (s7.free fg')⟩,[],?_,.nil,okf _ (s9.free fm')⟩ (okf _ fd')
   ·exact s12 _ _ (k11'.1 _ _ (s10 _ _ (k9'.1 _ _ t8)))
   ·exact s12 _ _ (k11'.1 _ _ t10)
 | enrol n g c =>
   have ht:H t=some (.tup [.str "enrol",.int n,.int g,.int c]):=hD;have ht1:=s1 _ _ ht;have sz3:∀ x y z:V,[x,y,z].length<=sizeLine:=fun x y z=>by show 3<=sizeLine;rw[sizeLine_eq];decide
   refine⟨_,rfl,t,_,_,_,rfl,rfl,SqT.of ht1,rfl,rfl,_,rfl,?_⟩;rw[Ur ⋯];refine iteF (Zz ?_);refine⟨_,rfl,t,_,_,_,rfl,rfl,SqT.of ht1,rfl,rfl,_,rfl,?_⟩;rw[Ur ⋯];refine iteF (Zz ?_);refine⟨_,rfl,t,_,_,_,rfl,rfl,SqT.of ht1,rfl,rfl,_,rfl,?_⟩;rw[Ek];refine iteT ?_;obtain⟨pts,p1,p2,p3⟩:=PB1.pp;refine⟨_,rfl,d',_,rfl,DGet.k (k:=.inr "people") q1,_,rfl,t,_,_,_,rfl,rfl,SqT.of ht1,rfl,_,rfl,t,_,_,_,rfl,rfl,SqT.of ht1,rfl,_,rfl,t,_,_,_,rfl,rfl,SqT.of ht1,rfl,sz3 _ _ _,fun tp ftp=>?_⟩;have s2:=Ze (o:=.tup [.int n,.int g,.int c]) ftp;have t2:=Zc (H:=H1) (a:=tp) (o:=.tup [.int n,.int g,.int c]);generalize upd H1 tp (.tup [.int n,.int g,.int c])=H2 at s2 t2 ⊢;refine⟨sz1 _,fun l1 f1=>?_⟩;have s3:=Ze (o:=.lst [.ref tp]) f1;have t3:=Zc (H:=H2) (a:=l1) (o:=.lst [.ref tp]);generalize upd H2 l1 (.lst [.ref tp])=H3 at s3 t3 ⊢;have s13:=s2.trans s3;refine⟨lp,l1,pts,_,rfl,rfl,s13 _ _ p1,t3,szN (by rw[p2.length,zta];show _+1<=1000;omega),fun lp' fp'=>?_⟩;have s4:=s13.trans (Ze (o:=.lst (pts++[.ref tp])) fp');have t4:=Zc (H:=H3) (a:=lp') (o:=.lst (pts++[.ref tp]));have t2':=(s3.trans (Ze (o:=.lst (pts++[.ref tp])) fp')) _ _ t2;generalize upd H3 lp' (.lst (pts++[.ref tp]))=H4 at s4 t4 t2' ⊢;refine⟨_,rfl,d',_,rfl,wr (s4 _ _ q1),?_⟩;rw[Ak];have s5:=Z8 (o:=.dK (pgF P0.len P0.rest lp' lo lv dv li lg lm)) fd' (s1.trans s4);have q5:=Zc (H:=H4) (a:=d') (o:=.dK (pgF P0.len P0.rest lp' lo lv dv li lg lm));have k5':=Xj.dict (s4 _ _ q1) (kvs':=pgF P0.len P0.rest lp' lo lv dv li lg lm);generalize upd H4 d' (.dK (pgF P0.len P0.rest lp' lo lv dv li lg lm))=H5 at s5 q5 k5' ⊢;have k5:=(Xj.of s4).trans k5';refine⟨_,rfl,t,_,_,_,rfl,rfl,SqT.of (s5 _ _ ht),rfl,_,rfl,sz3 _ _ _,fun td ftd=>?_⟩;have s6:=Ze (o:=.tup [.str "enrol",.int n,.int ((P0.over.length:Int)+1)]) ftd;have t6:=Zc (H:=H5) (a:=td) (o:=.tup [.str "enrol",.int n,.int ((P0.over.length:Int)+1)]);generalize upd H5 td (.tup [.str "enrol",.int n,.int ((P0.over.length:Int)+1)])=H6 at s6 t6 ⊢;refine⟨_,rfl,d',_,rfl,wr (s6 _ _ q5),?_⟩;rw[Ji];have s7:=Z8 (o:=.dK (pgF P0.len P0.rest lp' lo lv (.ref td) li lg lm)) fd' (s5.trans s6);have q7:=Zc (H:=H6) (a:=d') (o:=.dK (pgF P0.len P0.rest lp' lo lv (.ref td) li lg lm));have k7':=Xj.dict (s6 _ _ q5) (kvs':=pgF P0.len P0.rest lp' lo lv (.ref td) li lg lm);generalize upd H6 d' (.dK (pgF P0.len P0.rest lp' lo lv (.ref td) li lg lm))=H7 at s7 q7 k7' ⊢;have k7:=(k5.trans (.of s6)).trans k7';refine⟨_,rfl,_,rfl,sz1 _,fun l2 f2=>?_⟩;have s8:=Ze (o:=.lst [.ref d']) f2;have t8:=Zc (H:=H7) (a:=l2) (o:=.lst [.ref d']);generalize upd H7 l2 (.lst [.ref d'])=H8 at s8 t8 ⊢;refine⟨l,l2,_,_,rfl,rfl,s8 _ _ (s7 _ _ hl),t8,szN (by rw[zta,ztc];show ds.length+1+1<=1000;omega),fun lr flr=>?_⟩;have er:(ds++[d]).map V.ref++[.ref d']=(ds++[d]++[d']).map V.ref:=by rw[zti (l₁:=ds++[d])];rfl
   rw[er];have s9:=s8.trans (Ze (o:=.lst ((ds++[d]++[d']).map V.ref)) flr);have t9:=Zc (H:=H8) (a:=lr) (o:=.lst ((ds++[d]++[d']).map V.ref));generalize upd H8 lr (.lst ((ds++[d]++[d']).map V.ref))=H9 at s9 t9 ⊢;have k9:=k7.trans (.of s9);have t6':=s9 _ _ (k7'.2 _ _ t6);refine h lr d' H9 t9 (fun _=>?_) (s7.trans s9) (s7.free (s8.free flr)) fd';have b:=PB1.keepL k9;refine .join (P:=Vw P0 (.enrol n g c)) (s9 _ _ q7) ⟨⟨_,s9 _ _ (k7'.1 _ _ (s6 _ _ (k5'.1 _ _ t4))),?_,okf _ (s1.free (s13.free fp'))⟩,b.oo,b.vv,⟨td,rfl,t6'⟩,b.li,b.gg,b.mm⟩ (okf _ fd');unfold Vw;dsimp only;rw[zti];exact(p2.mono k9.2).snoc (s9 _ _ (k7'.2 _ _ (s6 _ _ (k5'.2 _ _ t2'))))
 | draw ms =>
   obtain⟨ll,ts,ht,hll,tl,okl⟩:∃ l ts,H t=some (.tup [.str "draw up",.ref l])/\H l=some (.lst ts)/\TupL H ts (ms.map pV)/\ok l:=hD;have ht1:=s1 _ _ ht;have sz3:∀ x y z:V,[x,y,z].length<=sizeLine:=fun x y z=>by show 3<=sizeLine;rw[sizeLine_eq];decide
   refine⟨_,rfl,t,_,_,_,rfl,rfl,SqT.of ht1,rfl,rfl,_,rfl,?_⟩;rw[Ur ⋯];refine iteF (Zz ?_);refine⟨_,rfl,t,_,_,_,rfl,rfl,SqT.of ht1,rfl,rfl,_,rfl,?_⟩;rw[Ur ⋯];refine iteF (Zz ?_);refine⟨_,rfl,t,_,_,_,rfl,rfl,SqT.of ht1,rfl,rfl,_,rfl,?_⟩;rw[Ur ⋯];refine iteF ?_;refine⟨_,rfl,t,_,_,_,rfl,rfl,SqT.of ht1,rfl,rfl,_,rfl,?_⟩;rw[Ek];refine iteT ?_;refine⟨_,rfl,t,_,_,_,rfl,rfl,SqT.of ht1,rfl,_,rfl,d',_,rfl,wr q1,?_⟩;rw[Jj];have s5:=Z8 (o:=.dK (pgF P0.len P0.rest lp lo lv dv (.ref ll) lg lm)) fd' s1;have q5:=Zc (H:=H1) (a:=d') (o:=.dK (pgF P0.len P0.rest lp lo lv dv (.ref ll) lg lm));have k5:=Xj.dict q1 (kvs':=pgF P0.len P0.rest lp lo lv dv (.ref ll) lg lm);generalize upd H1 d' (.dK (pgF P0.len P0.rest lp lo lv dv (.ref ll) lg lm))=H5 at s5 q5 k5 ⊢;have ez:(ts.length:Int)=(ms.length:Int):=by rw[tl.length,zta]
   refine⟨_,rfl,t,_,_,_,rfl,rfl,SqT.of (s5 _ _ ht),rfl,ll,ts,rfl,.inl (SqL.of (s5 _ _ hll)),_,rfl,sz3 _ _ _,fun td ftd=>?_⟩;have s6:=Ze (o:=.tup [.str "draw up",.int (ts.length:Int),.int ((P0.over.length:Int)+1)]) ftd;have t6:=Zc (H:=H5) (a:=td) (o:=.tup [.str "draw up",.int (ts.length:Int),.int ((P0.over.length:Int)+1)]);generalize upd H5 td (.tup [.str "draw up",.int (ts.length:Int),.int ((P0.over.length:Int)+1)])=H6 at s6 t6 ⊢;refine⟨_,rfl,d',_,rfl,wr (s6 _ _ q5),?_⟩;rw[Ji];have s7:=Z8 (o:=.dK (pgF P0.len P0.rest lp lo lv (.ref td) (.ref ll) lg lm)) fd' (s5.trans s6);have q7:=Zc (H:=H6) (a:=d') (o:=.dK (pgF P0.len P0.rest lp lo lv (.ref td) (.ref ll) lg lm));have k7':=Xj.dict (s6 _ _ q5) (kvs':=pgF P0.len P0.rest lp lo lv (.ref td) (.ref ll) lg lm);generalize upd H6 d' (.dK (pgF P0.len P0.rest lp lo lv (.ref td) (.ref ll) lg lm))=H7 at s7 q7 k7' ⊢;have k7:=(k5.trans (.of s6)).trans k7';refine⟨_,rfl,_,rfl,sz1 _,fun l2 f2=>?_⟩;have s8:=Ze (o:=.lst [.ref d']) f2;have t8:=Zc (H:=H7) (a:=l2) (o:=.lst [.ref d']);generalize upd H7 l2 (.lst [.ref d'])=H8 at s8 t8 ⊢;refine⟨l,l2,_,_,rfl,rfl,s8 _ _ (s7 _ _ hl),t8,szN (by rw[zta,ztc];show ds.length+1+1<=1000;omega),fun lr flr=>?_⟩;have er:(ds++[d]).map V.ref++[.ref d']=(ds++[d]++[d']).map V.ref:=by rw[zti (l₁:=ds++[d])];rfl
   rw[er];have s9:=s8.trans (Ze (o:=.lst ((ds++[d]++[d']).map V.ref)) flr);have t9:=Zc (H:=H8) (a:=lr) (o:=.lst ((ds++[d]++[d']).map V.ref));generalize upd H8 lr (.lst ((ds++[d]++[d']).map V.ref))=H9 at s9 t9 ⊢;have k9:=k7.trans (.of s9);have t6':=s9 _ _ (k7'.2 _ _ t6);refine h lr d' H9 t9 (fun _=>?_) (s7.trans s9) (s7.free (s8.free flr)) fd';have b:=PB1.keepL k9;rw[ez] at t6';exact .join (P:=Vw P0 (.draw ms)) (s9 _ _ q7) ⟨b.pp,b.oo,b.vv,⟨td,rfl,t6'⟩,⟨ll,ts,rfl,s9 _ _ (s7 _ _ hll),tl.mono (fun x xs z=>s9 _ _ (s7 _ _ z)),oko _ okl⟩,b.gg,b.mm⟩ (okf _ fd')
 | away i n =>
   have ht:H t=some (.tup [.str "away",.int i,.int n]):=hD;have ht1:=s1 _ _ ht;have sz3:∀ x y z:V,[x,y,z].length<=sizeLine:=fun x y z=>by show 3<=sizeLine;rw[sizeLine_eq];decide
   refine⟨_,rfl,t,_,_,_,rfl,rfl,SqT.of ht1,rfl,rfl,_,rfl,?_⟩;rw[Ur ⋯];refine iteF (Zz ?_);refine⟨_,rfl,t,_,_,_,rfl,rfl,SqT.of ht1,rfl,rfl,_,rfl,?_⟩;rw[Ur ⋯];refine iteF (Zz ?_);refine⟨_,rfl,t,_,_,_,rfl,rfl,SqT.of ht1,rfl,rfl,_,rfl,?_⟩;rw[Ur ⋯];refine iteF ?_;refine⟨_,rfl,t,_,_,_,rfl,rfl,SqT.of ht1,rfl,rfl,_,rfl,?_⟩;rw[Ur ⋯];refine iteF ?_;obtain⟨pts,p1,p2,p3⟩:=PB1.oo;refine⟨_,rfl,d',_,rfl,DGet.k (k:=.inr "out") q1,_,rfl,t,_,_,_,rfl,rfl,SqT.of ht1,rfl,_,rfl,t,_,_,_,rfl,rfl,SqT.of ht1,rfl,sz2,fun tp ftp=>?_⟩;have s2:=Ze (o:=.tup [.int i,.int n]) ftp;have t2:=Zc (H:=H1) (a:=tp) (o:=.tup [.int i,.int n]);generalize upd H1 tp (.tup [.int i,.int n])=H2 at s2 t2 ⊢;refine⟨sz1 _,fun l1 f1=>?_⟩;have s3:=Ze (o:=.lst [.ref tp]) f1;have t3:=Zc (H:=H2) (a:=l1) (o:=.lst [.ref tp]);generalize upd H2 l1 (.lst [.ref tp])=H3 at s3 t3 ⊢;have s13:=s2.trans s3;refine⟨lo,l1,pts,_,rfl,rfl,s13 _ _ p1,t3,szN (by rw[p2.length,zta];show _+1<=1000;omega),fun lo' fp'=>?_⟩;have s4:=s13.trans (Ze (o:=.lst (pts++[.ref tp])) fp');have t4:=Zc (H:=H3) (a:=lo') (o:=.lst (pts++[.ref tp]));have t2':=(s3.trans (Ze (o:=.lst (pts++[.ref tp])) fp')) _ _ t2;generalize upd H3 lo' (.lst (pts++[.ref tp]))=H4 at s4 t4 t2' ⊢;refine⟨_,rfl,d',_,rfl,wr (s4 _ _ q1),?_⟩;rw[zgw];have s5:=Z8 (o:=.dK (pgF P0.len P0.rest lp lo' lv dv li lg lm)) fd' (s1.trans s4);have q5:=Zc (H:=H4) (a:=d') (o:=.dK (pgF P0.len P0.rest lp lo' lv dv li lg lm));have k5':=Xj.dict (s4 _ _ q1) (kvs':=pgF P0.len P0.rest lp lo' lv dv li lg lm);generalize upd H4 d' (.dK (pgF P0.len P0.rest lp lo' lv dv li lg lm))=H5 at s5 q5 k5' ⊢;have k5:=(Xj.of s4).trans k5';refine⟨_,rfl,t,_,_,_,rfl,rfl,SqT.of (s5 _ _ ht),rfl,_,rfl,t,_,_,_,rfl,rfl,SqT.of (s5 _ _ ht),rfl,sz3 _ _ _,fun td ftd=>?_⟩;have s6:=Ze (o:=.tup [.str "away",.int n,.int i]) ftd;have t6:=Zc (H:=H5) (a:=td) (o:=.tup [.str "away",.int n,.int i]);generalize upd H5 td (.tup [.str "away",.int n,.int i])=H6 at s6 t6 ⊢;refine⟨_,rfl,d',_,rfl,wr (s6 _ _ q5),?_⟩;rw[Ji];have s7:=Z8 (o:=.dK (pgF P0.len P0.rest lp lo' lv (.ref td) li lg lm)) fd' (s5.trans s6);have q7:=Zc (H:=H6) (a:=d') (o:=.dK (pgF P0.len P0.rest lp lo' lv (.ref td) li lg lm));have k7':=Xj.dict (s6 _ _ q5) (kvs':=pgF P0.len P0.rest lp lo' lv (.ref td) li lg lm);generalize upd H6 d' (.dK (pgF P0.len P0.rest lp lo' lv (.ref td) li lg lm))=H7 at s7 q7 k7' ⊢;have k7:=(k5.trans (.of s6)).trans k7';refine⟨_,rfl,_,rfl,sz1 _,fun l2 f2=>?_⟩;have s8:=Ze (o:=.lst [.ref d']) f2;have t8:=Zc (H:=H7) (a:=l2) (o:=.lst [.ref d']);generalize upd H7 l2 (.lst [.ref d'])=H8 at s8 t8 ⊢;refine⟨l,l2,_,_,rfl,rfl,s8 _ _ (s7 _ _ hl),t8,szN (by rw[zta,ztc];show ds.length+1+1<=1000;omega),fun lr flr=>?_⟩;have er:(ds++[d]).map V.ref++[.ref d']=(ds++[d]++[d']).map V.ref:=by rw[zti (l₁:=ds++[d])];rfl
   rw[er];have s9:=s8.trans (Ze (o:=.lst ((ds++[d]++[d']).map V.ref)) flr);have t9:=Zc (H:=H8) (a:=lr) (o:=.lst ((ds++[d]++[d']).map V.ref));generalize upd H8 lr (.lst ((ds++[d]++[d']).map V.ref))=H9 at s9 t9 ⊢;have k9:=k7.trans (.of s9);have t6':=s9 _ _ (k7'.2 _ _ t6);refine h lr d' H9 t9 (fun _=>?_) (s7.trans s9) (s7.free (s8.free flr)) fd';have b:=PB1.keepL k9;refine .join (P:=Vw P0 (.away i n)) (s9 _ _ q7) ⟨b.pp,⟨_,s9 _ _ (k7'.1 _ _ (s6 _ _ (k5'.1 _ _ t4))),?_,okf _ (s1.free (s13.free fp'))⟩,b.vv,⟨td,rfl,t6'⟩,b.li,b.gg,b.mm⟩ (okf _ fd');unfold Vw;dsimp only;rw[zti];exact(p2.mono k9.2).snoc (s9 _ _ (k7'.2 _ _ (s6 _ _ (k5'.2 _ _ t2'))))
abbrev Ye:Stmt:=top 71
theorem Yu:Zl ["_law_cell_here","_law_clubs_here","_law_most","_law_mixed","_law_matches_here","_law_many","_law_grades","_law_rest_here","_law_k","_law_home","_law_guest"] ["_law_cell_here","_law_clubs_here","_law_most","_law_mixed"] (Zj Ye):=fnS
@[irreducible] def Vr:List Expr:=zcp (Pa (Xl (Zr Ye) 2))
@[irreducible] def Qs:Pos:=zcq (Pa (Xl (Zr Ye) 2))
theorem My:Zr Ye=[Xl (Zr Ye) 0,Xl (Zr Ye) 1,.Assign (ze6 (Xl (Zr Ye) 2)) (.List Vr Qs) (stP (Xl (Zr Ye) 2)),Xl (Zr Ye) 3,Xl (Zr Ye) 4,Xl (Zr Ye) 5]:=by unfold Vr Qs;kernel_rfl
theorem Mz:Jh Vr [1,2,3,4,5,6,7,8,9,1,1,1,1,2,2,3,3,4]:=by unfold Vr;exact⟨by kernel_rfl,by kernel_rfl⟩
theorem Il(F:Fun K "_law_matches" "_law_matches" Ye f fd)(T:Tx K mg a)(zmv:Z4 P w K mg base "_law_mix" 1 ["_law_cell_here","_law_k"] zas):FnOk P w K mg base (CX1 P w) 2 f fd ["_law_cell_here","_law_clubs_here","_law_most","_law_mixed"] (Lo K):=by
 refine F.okX Yu ⋯ fun _ _ _ _ H _ Q E hr h=>?_;obtain⟨b,ns,cell,most,mixed,rfl,hb,hl1,hl2,nd,rng,hm1,hmx,h⟩:=h;rw[My];refine⟨_,(Zb (pS 4 Yu.nd (Z9 Zd))
 (Zb (pS 5 Yu.nd (Zs (cL K) (by rfl) T.zly PySem.boot_len (Za (pv 1) Zd)))
 (Zb (pS 6 Yu.nd (Z9 (Q6 [1,2,3,4,5,6,7,8,9,1,1,1,1,2,2,3,3,4] Mz)))
 (Zb (pS 7 Yu.nd (Zp Y4 (pv 0) (Zp Yk (pv 2) Zg)))
 (Zb (Xf PassesOwn.leaving rfl (X9 rfl T.zmj (Za (Zp Yp (pv 0) (Zp Yk (pv 2) Zg)) Zd)) (pN 8 Yu.nd)
  (Zb (pS 9 Yu.nd (Zp Yp (pv 7) (pv 5)))
  (Zb (pS 10 Yu.nd (Zp Yp (Zp Yk (Zp Yk (pv 9) Zg) (Zp Yp (Zp Y4 (pv 7) (pv 5)) (Zp Pq (pv 5) Zg))) (pv 5)))
  (Zb (Yv (pv 4) (Z7 (Za (pI (iL K) (pv 1) (pv 9)) (Za (pI (iL K) (pv 1) (pv 10)) (Za (pI (iL K) (pv 6) (Zp Yp (Zp Y4 (Zp Y4 (pv 7) (pv 5)) (Zp Pq (pv 5) Zg)) Zg)) Zd)))))
  (Zf (pS 7 Yu.nd (pI (iL K) (Z9 (Za (Zp Y4 (Zp Y4 (Zp Y4 (pv 7) (pv 5)) (Zp Pq (pv 5) Zg)) Zg) (Za (pF zmv hr (Za (pv 7) (Za (pv 8) Zd))) Zd))) (pv 3))))))))
 (Zf (Zm (pv 4)))))))),?_⟩
 show let y1:TS:=_;let y2:TS:=Zw _ y1;let y3:TS:=Zw _ y2;let y4:TS:=_;let y5:TS:=Zw (zdl _ _ (Zw _ y3)) y4;let y6:TS:=Zw _ y5;let y7:TS:=Zw _ y6;let y8:TS:=Zw _ y7;Zw _ y8 _ _ _;intro y1 y2 y3 y4 y5 y6 y7 y8;have sz0:([]:List V).length<=sizeLine:=zt4 _;have sz3:∀ x y z:V,[x,y,z].length<=sizeLine:=fun x y z=>by show 3<=sizeLine;rw[sizeLine_eq];decide
 refine⟨sz0,fun r fr=>?_⟩;have s1:=Ze (o:=.lst []) fr;have q1:=Zc (H:=H) (a:=r) (o:=.lst []);walk_at "if";generalize upd H r (.lst [])=H1 at s1 q1 ⊢;refine⟨_,rfl,b,_,rfl,.inl (SqL.of (s1 _ _ hb)),?_⟩;rw[zta];walk_at "if";refine Cw [1,2,3,4,5,6,7,8,9,1,1,1,1,2,2,3,3,4] ⋯ fun lg H2 hg s2 fg=>?_;have frg:lg≠r:=(Zh q1 fg).symm;have hc:(0:Int)<(most:Int)+1:=by omega
 refine⟨_,rfl,_,rfl,_,_,rfl,rfl,_,_,rfl,rfl,⟨hc,by omega⟩,?_⟩;walk_at "if";refine⟨_,rfl,_,rfl,_,_,rfl,rfl,_,_,rfl,rfl,hc,_,rfl,?_⟩;have c0:=zuj cell (show ((most:Int)+1)≠0 by omega);have c1:=zuc cell hc;have hn0:(0:Int)<(ns.length:Int):=by omega
 have hn1:(0:Int)<(ns.length:Int)-1:=by omega
 let jv3:Nat->L2.St->Hp->Prop:=fun i σ H'=>(∃ v8 v9 v10 R,σ=[some (.int cell),some (.ref b),some (.int most),some (.int mixed),some (.ref r),some (.int ns.length),some (.ref lg),some (.int R),v8,v9,v10])/\(∀ x o,H2 x=some o->x≠r->H' x=some o)/\∃ ts ms,H' r=some (.lst ts)/\TupL H' ts (ms.map pV)/\ms.length=i/\Ao ms
 refine⟨by omega,by omega,Wn jv3
  ⟨⟨_,_,_,_,rfl⟩,fun _ _ e _=>e,[],[],s2 _ _ q1,.nil,rfl,(fun m z=>nomatch z),(fun m z=>nomatch z)⟩ ?_ ?_⟩
 ·rintro i σ H' hi ⟨⟨v8,v9,v10,R,rfl⟩,k,ts,ms,hr',tl,hml,gm⟩;have hb':=k _ _ (s2 _ _ (s1 _ _ hb)) (Zh hb fr);have hg':=k _ _ hg frg;have e0:=zuj R (show (ns.length:Int)≠0 by omega);have e1:=zuc R hn0;have f0:=zuj (R/(ns.length:Int)) (show (ns.length:Int)-1≠0 by omega);have f1:=zuc (R/(ns.length:Int)) hn1;have w0:=zuj (R/(ns.length:Int)/((ns.length:Int)-1)) (show (18:Int)≠0 by omega);have w1:=zuc (R/(ns.length:Int)/((ns.length:Int)-1)) (show (0:Int)<18 by omega);obtain⟨g0,g1,g2⟩:=zfd e0 e1 (y:=1+R/(ns.length:Int)%((ns.length:Int)-1)) ⋯ ⋯;rw[<- Int.add_assoc] at g0 g1 g2;refine⟨_,rfl,_,rfl,_,_,rfl,rfl,hn0,?_⟩;walk_at "if";refine⟨_,rfl,_,_,rfl,rfl,_,rfl,_,rfl,_,_,rfl,rfl,⟨hn0,by omega⟩,_,rfl,_,_,rfl,rfl,_,_,rfl,rfl,hn1,_,_,rfl,rfl,_,rfl,_,_,rfl,rfl,hn0,?_⟩;walk_at "if";generalize hG:(R%(ns.length:Int)+1+R/(ns.length:Int)%((ns.length:Int)-1))%(ns.length:Int)=gu at g0 g1 g2 ⊢;generalize hHo:R%(ns.length:Int)=ho at e0 e1 g2 ⊢;refine⟨_,rfl,r,_,rfl,hr',?_⟩;have hgr:=X8 (xs:=En) w0 (by show _<((18:Nat):Int);omega);have rgr:=Ap (R/(ns.length:Int)/((ns.length:Int)-1)%18).toNat ⋯;generalize hgv:En.getD (R/(ns.length:Int)/((ns.length:Int)-1)%18).toNat 0=gv at hgr rgr;have hho:=X8 (xs:=ns) e0 ⋯;have hgu:=X8 (xs:=ns) g0 ⋯;have mho:=Uw (ns:=ns) (i:=ho.toNat) ⋯;have mgu:=Uw (ns:=ns) (i:=gu.toNat) ⋯;have hne:ns.getD ho.toNat 0≠ns.getD gu.toNat 0:=fun z=>by
   have:=zfe nd ⋯ ⋯ z;omega
  generalize ns.getD ho.toNat 0=a1 at hho mho hne;generalize ns.getD gu.toNat 0=a2 at hgu mgu hne;refine⟨_,rfl,_,rfl,b,_,_,_,rfl,rfl,SqL.of hb',hho,_,rfl,_,rfl,b,_,_,_,rfl,rfl,SqL.of hb',hgu,?_⟩;refine⟨_,rfl,_,rfl,_,rfl,_,_,rfl,rfl,⟨hn0,by omega⟩,_,rfl,_,_,rfl,rfl,_,_,rfl,rfl,⟨hn1,by omega⟩,_,_,rfl,rfl,⋯,lg,_,_,_,rfl,rfl,SqL.of hg',hgr,sz3 _ _ _,fun t ft=>?_⟩;have s3:=Ze (o:=.tup [.int a1,.int a2,.int gv]) ft;have q3:=Zc (H:=H') (a:=t) (o:=.tup [.int a1,.int a2,.int gv]);generalize upd H' t (.tup [.int a1,.int a2,.int gv])=H3 at s3 q3 ⊢;have tln:=tl.length;rw[zta] at tln;refine⟨ts,s3 _ _ hr',szN ⋯,?_⟩;have hi':i<21:=by omega
  have k4:∀ x o,H3 x=some o->x≠r->upd H3 r (.lst (ts++[.ref t])) x=some o:=fun x o e n=>by rw[Zi n];exact e
  have q4:=Zc (H:=H3) (a:=r) (o:=.lst (ts++[.ref t]));have kt4:∀ x ys,H3 x=some (.tup ys)->upd H3 r (.lst (ts++[.ref t])) x=some (.tup ys):=fun x ys e=>k4 _ _ e (Yo e (s3 _ _ hr') (by intro z;cases z));dsimp only;generalize upd H3 r (.lst (ts++[.ref t]))=H4 at k4 q4 kt4 ⊢;obtain⟨z,hz⟩:=at2 (R/(ns.length:Int)/((ns.length:Int)-1)/18) (Ab R (0+(i:Int))) hmx;refine⟨_,rfl,_,rfl,_,_,rfl,rfl,⟨hn0,by omega⟩,_,rfl,_,_,rfl,rfl,_,_,rfl,rfl,⟨hn1,by omega⟩,_,_,rfl,rfl,⟨by omega,by omega⟩,_,rfl,_,rfl,_,_,rfl,sz2,fun l2 f2=>⟨_,rfl,l2,_,_,_,rfl,rfl,SqL.of Zc,hz,?_⟩⟩;have s5:=Ze (o:=.lst [.int (R/(ns.length:Int)/((ns.length:Int)-1)/18),.int (Ab R (0+(i:Int)))]) f2;refine⟨⟨_,_,_,_,rfl⟩,fun x o e n=>s5 _ _ (k4 _ _ (s3 _ _ (k _ _ e n)) n),ts++[.ref t],ms++[(a1,a2,gv)],s5 _ _ q4,?_,by rw[ztc,hml];rfl,?_,?_⟩
  ·rw[zti];exact(tl.mono fun x ys e=>s5 _ _ (kt4 _ _ (s3 _ _ e))).snoc (s5 _ _ (kt4 _ _ q3))
  ·intro m hm;rcases ztl.mp hm with hm|hm
   ·exact gm.1 m hm
   ·rw[zte.mp hm];have:=rng _ mho;have:=rng _ mgu;unfold badM;dsimp only;omega
  ·intro m hm;rcases ztl.mp hm with hm|hm
   ·exact gm.2 m hm
   ·rw[zte.mp hm];exact hne
 ·rintro σ H' ⟨⟨v8,v9,v10,R,rfl⟩,k,ts,ms,hr',tl,hml,gm⟩;refine⟨_,rfl,h r ts ms H' hr' tl ⋯ gm (fun x o e=>k _ _ (s2 _ _ (s1 _ _ e)) (Zh e fr)) fr⟩
abbrev Im:Stmt:=top 72
theorem zdb:Zl ["_law_season","_law_deed_here"] ["_law_season","_law_deed_here"] (Zj Im):=fnS
theorem zdc(F:Fun K "_law_do" "_law_do" Im f fd)(T:Tx K mg a)(zoh:Zv P w K mg base a.zli "enrol" 5 ["self","number","grade","club"] (za5 (ca a)))(zor:Zv P w K mg base a.zli "away" 7 ["self","at","number"] (ze2 (ca a)))(znh:Zv P w K mg base a.zli "draw_up" 6 ["self","matches"] (Cm K (ca a)))(zn8:Zv P w K mg base a.zli "close" 4 ["self"] (za6 (ca a)))(zm6:Zv P w K mg base a.zli "take_back" 2 ["self"] (Je (ca a))):FnOk P w K mg base (CX1 P w) 8 f fd ["_law_season","_law_deed_here"] (zi4 K (ca a)):=by
 refine F.okX zdb ⋯ fun _ _ _ _ H _ Q E hr h=>?_;obtain⟨A',S,t,d,rfl,SA,hd,gd,co,po,hz,hoz,htot,hl,hol,hln,hsn,hbk,h⟩:=h;refine⟨_,(Zb (Z5 (Zn Xn (pI (iU K) (pv 1) Zg) Zo (Zu _))
  (Zf (Zm (Xy (pv 0) T.zlj zoh (hr.mono ⋯) Zk (Za (pI (iU K) (pv 1) Zg) (Za (pI (iU K) (pv 1) Zg) (Za (pI (iU K) (pv 1) Zg) Zd))))))
  Zt)
 (Zb (Z5 (Zn Xn (pI (iU K) (pv 1) Zg) Zo (Zu _))
  (Zf (Zm (Xy (pv 0) T.zlj zor (hr.mono ⋯) Zk (Za (pI (iU K) (pv 1) Zg) (Za (pI (iU K) (pv 1) Zg) Zd)))))
  Zt)
 (Zb (Z5 (Zn Xn (pI (iU K) (pv 1) Zg) Zo (Zu _))
  (Zf (Zm (Xy (pv 0) T.zlj znh (hr.mono ⋯) Zk (Za (Yj (Xq (K:=K) rfl) (by rfl) T.zms PyProof.Rows.boot_list (Za (pI (iU K) (pv 1) Zg) Zd)) Zd))))
  Zt)
 (Zb (Z5 (Zn Xn (pI (iU K) (pv 1) Zg) Zo (Zu _))
  (Zf (Zm (Yr (pv 0) T.zlj zn8 (hr.mono ⋯) Zk)))
  Zt)
 (Zf (Zm (Yr (pv 0) T.zlj zm6 (hr.mono ⋯) Zk))))))),?_⟩
 obtain⟨⟨dx,v,a1,a2⟩,_⟩:=id SA;cases d with
 | enrol n g c0 =>
   have ht:H t=some (.tup [.str "enrol",.int n,.int g,.int c0]):=hd;obtain⟨g1,g2,g3,g4,g5⟩:=gd;have hb:=g3;unfold badI at hb;refine⟨_,rfl,t,_,_,_,rfl,rfl,SqT.of ht,rfl,rfl,_,rfl,?_⟩;rw[Ek];refine iteT ?_;refine⟨_,rfl,A'.p,dx,_,rfl,a1,Yq ⋯,_,rfl,t,_,_,_,rfl,rfl,SqT.of ht,rfl,_,rfl,t,_,_,_,rfl,rfl,SqT.of ht,rfl,_,rfl,t,_,_,_,rfl,rfl,SqT.of ht,rfl,A',S,n,g,c0,rfl,SA,⟨Yx ⋯ ⋯,Yx ⋯ ⋯,Yx ⋯ ⋯⟩,by omega,by omega,?_⟩;rw[if_neg ⋯,if_neg (by rw[g2];decide),if_neg g3,if_neg g4,if_neg ⋯,if_neg ⋯];exact fun H' SA' f'=>h .non A' _ H' (.enrol n g c0) SA' (.refl A' H) f' (fun l z=>nomatch z)
 | away i n =>
   have ht:H t=some (.tup [.str "away",.int i,.int n]):=hd;obtain⟨g1,g2,g3,g4⟩:=gd;refine⟨_,rfl,t,_,_,_,rfl,rfl,SqT.of ht,rfl,rfl,_,rfl,?_⟩;rw[Ur ⋯];refine iteF (Zz ?_);refine⟨_,rfl,t,_,_,_,rfl,rfl,SqT.of ht,rfl,rfl,_,rfl,?_⟩;rw[Ek];refine iteT ?_;have si:Y2 i:=Yx ⋯ ⋯;refine⟨_,rfl,A'.p,dx,_,rfl,a1,Yq ⋯,_,rfl,t,_,_,_,rfl,rfl,SqT.of ht,rfl,_,rfl,t,_,_,_,rfl,rfl,SqT.of ht,rfl,A',S,i,n,rfl,SA,si,hsn i n rfl,by omega,hoz,po,fun s hs=>?_,?_⟩
   ·obtain⟨c1,c2,c3,c4,c5⟩:=co s hs;exact⟨c1,c2,c4,by omega⟩
   rw[if_neg ⋯,if_neg ⋯,if_pos g3,if_neg g4,if_neg ⋯];refine⟨fun hc l H' hl' SA' f' fl=>h _ A' _ H' (.awayN hc hl') SA' (.refl A' H) f' (fun l2 z _=>by cases z;exact fl),fun s hi hs hp l H' hl' SA' f' fl=>?_,fun s p hi hs hp l us st e w' H' hl' tl CR SA' f' fl=>?_⟩
   ·subst hi;exact h _ A' _ H' (.awayF hs hp hl') SA' (.refl A' H) f' (fun l2 z _=>by cases z;exact fl)
   ·subst hi;exact h _ A' _ H' (.awayC hs hp hl' tl CR) SA' (.refl A' H) f' (fun l2 z _=>by cases z;exact fl)
 | draw ms =>
   obtain⟨l0,ts,ht,hl0,tl,okl⟩:∃ l ts,H t=some (.tup [.str "draw up",.ref l])/\H l=some (.lst ts)/\TupL H ts (ms.map pV)/\l∉A'.fp:=hd;obtain⟨g1,g2,g3,g4,g5⟩:=gd;refine⟨_,rfl,t,_,_,_,rfl,rfl,SqT.of ht,rfl,rfl,_,rfl,?_⟩;rw[Ur ⋯];refine iteF (Zz ?_);refine⟨_,rfl,t,_,_,_,rfl,rfl,SqT.of ht,rfl,rfl,_,rfl,?_⟩;rw[Ur ⋯];refine iteF (Zz ?_);refine⟨_,rfl,t,_,_,_,rfl,rfl,SqT.of ht,rfl,rfl,_,rfl,?_⟩;rw[Ek];refine iteT ?_;refine⟨_,rfl,A'.p,dx,_,rfl,a1,Yq ⋯,_,rfl,t,_,_,_,rfl,rfl,SqT.of ht,rfl,l0,ts,rfl,.inl (SqL.of hl0),fun l1 hl1=>?_⟩;have s1:=Ze (o:=.lst ts) hl1;have q1:upd H l1 (.lst ts) l1=some (.lst ts):=Zc;generalize upd H l1 (.lst ts)=H1 at s1 q1;have nb:¬ Sy ms:=fun ⟨m,hm,hb⟩=>g4 m hm hb;have ns:¬ Sz ms:=fun ⟨m,hm,hb⟩=>g5 m hm hb;refine⟨A',S,l1,ts,ms,rfl,SA.same s1,SqL.of q1,tl.same s1,fun m hm=>?_,by omega,by omega,po,?_⟩
   ·have:=g4 m hm;unfold badM at this;exact⟨Yx ⋯ ⋯,Yx ⋯ ⋯,Yx ⋯ ⋯⟩
   rw[if_neg ⋯,if_neg (by rw[g2];decide)];refine⟨fun z=>absurd z ⋯,fun _ z=>absurd z nb,fun _ _ z=>absurd z ns,fun _ _ _=>⟨fun z=>absurd z ⋯,fun _ l gv H' hl' SA' FP SP f' fl=>?_⟩⟩;exact h _ A' _ H' (.draw hl' FP SP) SA' (.refl A' H) ((FrS.of A' s1).trans f') (fun l2 z _=>by cases z;exact s1.free fl)
 | close =>
   have ht:H t=some (.tup [.str "close"]):=hd;obtain⟨g1,g2⟩:=gd;refine⟨_,rfl,t,_,_,_,rfl,rfl,SqT.of ht,rfl,rfl,_,rfl,?_⟩;rw[Ur ⋯];refine iteF (Zz ?_);refine⟨_,rfl,t,_,_,_,rfl,rfl,SqT.of ht,rfl,rfl,_,rfl,?_⟩;rw[Ur ⋯];refine iteF (Zz ?_);refine⟨_,rfl,t,_,_,_,rfl,rfl,SqT.of ht,rfl,rfl,_,rfl,?_⟩;rw[Ur ⋯];refine iteF (Zz ?_);refine⟨_,rfl,t,_,_,_,rfl,rfl,SqT.of ht,rfl,rfl,_,rfl,?_⟩;rw[Ek];refine iteT ?_;refine⟨_,rfl,A'.p,dx,_,rfl,a1,Yq ⋯,A',S,rfl,SA,htot,hl,hol,fun s hs=>?_,?_⟩
   ·obtain⟨c1,c2,c3,c4,c5⟩:=co s hs;refine⟨c2.one,?_,by omega⟩;rw[c2.len,c4];unfold mayS;rw[zta]
   rw[if_neg ⋯];exact⟨fun z=>absurd z g2,fun s x H' hs SA' f' fx=>h _ { A' with lt:=x } _ H' (.close hs) SA' ⟨x,rfl,.inr fx⟩ f' (fun l2 z=>nomatch z)⟩
 | back =>
   have ht:H t=some (.tup [.str "take back"]):=hd;refine⟨_,rfl,t,_,_,_,rfl,rfl,SqT.of ht,rfl,rfl,_,rfl,?_⟩;rw[Ur ⋯];refine iteF (Zz ?_);refine⟨_,rfl,t,_,_,_,rfl,rfl,SqT.of ht,rfl,rfl,_,rfl,?_⟩;rw[Ur ⋯];refine iteF (Zz ?_);refine⟨_,rfl,t,_,_,_,rfl,rfl,SqT.of ht,rfl,rfl,_,rfl,?_⟩;rw[Ur ⋯];refine iteF (Zz ?_);refine⟨_,rfl,t,_,_,_,rfl,rfl,SqT.of ht,rfl,rfl,_,rfl,?_⟩;rw[Ur ⋯];refine iteF (Zz ?_);obtain⟨S0,hs0⟩:=hbk rfl;obtain⟨d0,e1,e2,e3,e4,e5,e6⟩:=id hs0;refine⟨_,rfl,A'.p,dx,_,rfl,a1,Yq ⋯,A',S,rfl,SA,fun z=>absurd z gd,fun std d s he=>?_⟩;rw[e1] at he;obtain⟨he1,he2⟩:=zuu he rfl;have he2:(d0,S0.cur)=(d,s):=by simpa using he2
   cases he2;subst he1;refine⟨S0.ppl,S0.out,e2,fun t' H' ht' SA' f'=>?_⟩;have eS:{ S with ppl:=S0.ppl,out:=S0.out,cur:=S0.cur,std:=S0.std }=S0:=by
    cases S;cases S0;simp only at e3 e4 e5 e6 ⊢;subst e3 e4 e5 e6;rfl
   rw[eS] at SA';exact h _ A' S0 H' (.back e1 ht' hs0) SA' (.refl A' H) f' (fun l2 z hx=>by cases z;obtain⟨xs,hx⟩:=hx;rw[ht'] at hx;cases hx)
abbrev Ox:Stmt:=top 73
theorem Yy:Zl ["_law_pages","_law_cell_here","_law_pool_here","_law_most","_law_mixed","_law_clubs_here","_law_numbers_here","_law_page","_law_at_here","_law_kind","_law_rest_here","_law_day","_law_here","_law_known","_law_fresh","_law_club"] ["_law_pages","_law_cell_here","_law_pool_here","_law_most","_law_mixed"] (Zj Ox):=fnS
theorem Bh(F:Fun K "_law_deed" "_law_deed" Ox f fd)(T:Tx K mg a)(zom:Z4 P w K mg base "_law_matches" 2 ["_law_cell_here","_law_clubs_here","_law_most","_law_mixed"] (Lo K)):FnOk P w K mg base (CX1 P w) 3 f fd ["_law_pages","_law_cell_here","_law_pool_here","_law_most","_law_mixed"] (C3 K):=by
 refine F.okX Yy ⋯ fun _ _ _ _ H _ Q E hr h=>?_;obtain⟨ok,l,t,lc,ln,ds,d,P0,cell,cs,nu,most,mixed,rfl,hl,PA,PL,hm1,hmx,hov,hpp,h⟩:=h;have hu:=Wq hr;refine⟨_,(Zb (Kt (pv 2) (Wd (K:=K) (n:=2) rfl rfl (Zy (pN 5 Yy.nd) (Zy (pN 6 Yy.nd) Wb))))
 (Zb (pS 7 Yy.nd (pI (iL K) (pv 0) (O1 Sr Zg)))
 (Zb (pS 8 Yy.nd (Zp Yk (Zs (cL K) (by rfl) T.zly PySem.boot_len (Za (pD hu (pv 7) Zo) Zd)) Zg))
 (Zb (pS 9 Yy.nd (Zp Yp (pv 1) Zg))
 (Zb (pS 10 Yy.nd (Zp Y4 (pv 1) Zg))
 (Zb (Z5 (PW.pt (Sn (Zn Xn (pv 9) Zg (Zu _)) (Td (Zn Rk (Zs (cL K) (by rfl) T.zly PySem.boot_len (Za (pv 0) Zd)) Zg (Zu _)))))
  (Zf (Zm (Z7 (Za Zo Zd))))
  Zt)
 (Zb (pS 11 Yy.nd (Zs (Gm rfl) (by rfl) T.zq4 PyProof.Rows.boot_min (Za (pD hu (pv 7) Zo) (Za (Zp Yk (pv 8) (pI (iL K) (Z9 (Za Zg (Za (Zp Yk Zg (Zp Yp (Zp Y4 (pv 10) Zg) Zg)) Zd))) (Yj Sb (by rfl) T.zpi PyProof.Rows.boot_int (Za (Wo Xn (pv 9) Zg (Zu _)) Zd)))) Zd))))
 (Zb (Tn (i:=12) Yy.nd rfl rfl rfl (cT ["_law_day","_law_page"] [11,7]) (Yd (K:=K) rfl (pD hu (pv 7) Zo)) (fun _ _ _ _ _=>Qw (Zn (L4 (K:=K) rfl hr.units) (Z7 (Za (pv 1) (Za (pI (iU K) (pv 0) Zg) Zd))) (pD hu (pv 2) Zo) (by with_unfolding_all rfl))) (fun _ _ _ _ _=>(pI (iU K) (pv 0) Zg)))
 (Zb (Z5 (PW.pt (Sn (Zn (zar (K:=K) rfl hr.units) (pv 12) (Z9 Zd) (Zu _)) (Td (PW.pt (Rj (Zn Rk (pv 9) Zg (Zu _)) (Ux (PW.pt (Sn (Zn Rk (pv 9) Zg (Zu _)) (Td (Zn W9 (pD hu (pv 7) Zo) Yz (Zu _)))))))))))
  (Zf (Zm (Z7 (Za Zo (Za (pv 11) (Za (pI (iL K) (pv 12) (Zp Yp (pv 10) (Zs (cL K) (by rfl) T.zly PySem.boot_len (Za (pv 12) Zd)))) Zd))))))
  Zt)
 (Zb (Z5 (Zn W9 (pD hu (pv 7) Zo) Yz (Zu _))
  (Zf (Zm (Z7 (Za Zo Zd))))
  Zt)
 (Zb (pS 13 Yy.nd (Vh rfl (cT [] []) (Yd (K:=K) rfl (pD hu (pv 7) Zo)) (fun _ _ _ _ _=>V5) (fun _ _ _ _ _=>(pI (iU K) (pv 0) Zg))))
 (Zb (Tn (i:=14) Yy.nd rfl rfl rfl (cT ["_law_known"] [13]) (Yd (K:=K) rfl (pv 6)) (fun _ _ _ _ _=>Qw (Zn (Pl (K:=K) rfl) (pv 0) (pv 1) (by with_unfolding_all rfl))) (fun _ _ _ _ _=>(pv 0)))
 (Zb (Z5 (PW.pt (Sn (Zn Xn (pv 9) Zg (Zu _)) (Td (Zn (zar (K:=K) rfl hr.units) (pv 14) (Z9 Zd) (Zu _)))))
  (Zb (pS 15 Yy.nd (pI (iL K) (pv 5) (Zp Yp (Zp Y4 (pv 10) Zg) (Zs (cL K) (by rfl) T.zly PySem.boot_len (Za (pv 5) Zd)))))
  (Zf (Zm (Z7 (Za Zo (Za (pI (iL K) (pv 14) (Zp Yp (pv 10) (Zs (cL K) (by rfl) T.zly PySem.boot_len (Za (pv 14) Zd)))) (Za (Zp Yk Zg (Zp Yp (Zp Y4 (pv 10) Zg) Zg)) (Za (pv 15) Zd))))))))
  Zt)
 (Zf (Zm (Z7 (Za Zo (Za (pF zom hr (Za (pv 10) (Za (pv 5) (Za (pv 3) (Za (pv 4) Zd))))) Zd)))))))))))))))))),?_⟩
 show let y1:TS:=_;let y2:TS:=Zw _ y1;let y3:TS:=Zw _ y2;let y4:TS:=Zw _ y3;let y5:TS:=Zw _ y4;let y6:TS:=Zw _ y5;let y7:TS:=Zw _ y6;let y8:TS:=Zw _ y7;let y9:TS:=Zw _ y8;let y10:TS:=Zw _ y9;let y11:TS:=Zw _ y10;let y12:TS:=Zw _ y11;let y13:TS:=Zw _ y12;Zw _ y13 _ _ _;intro y1 y2 y3 y4 y5 y6 y7 y8 y9 y10 y11 y12 y13;have sz0:([]:List V).length<=sizeLine:=zt4 _;obtain⟨lp,lo,lv,dv,li,lg,lm,a1,PB,okd⟩:=id PA.split;have hat:atI ((ds++[d]).map V.ref) (-1)=some (V.ref d):=by rw[zti];exact L2.atI_last _ _
 obtain⟨vts,v1,v2,v3⟩:=PB.vv;refine⟨_,rfl,t,_,rfl,SqT.of PL.tup,rfl,_,_,rfl,_,_,rfl,rfl,?_⟩;walk_at "if";refine⟨_,rfl,_,rfl,l,_,_,_,rfl,rfl,SqL.of hl,hat,?_⟩;walk_at "if";refine⟨_,rfl,d,_,rfl,DGet.k (k:=.inr "over") a1,lv,vts,rfl,.inl (SqL.of v1),_,_,rfl,rfl,?_⟩;rw[v2.length];walk_at "if";refine⟨_,rfl,_,_,rfl,rfl,⋯,?_⟩;walk_at "if";refine⟨_,rfl,_,_,rfl,rfl,⟨by omega,by omega⟩,?_⟩;walk_at "if";obtain⟨kd,hkd⟩:∃ kd,kd=cell%8:=⟨_,rfl⟩;obtain⟨R,hR⟩:∃ R,R=cell/8:=⟨_,rfl⟩;rw[<- hkd,<- hR];show Zw _ _ _ [some (.ref l),some (.int cell),some (.ref t),some (.int most),some (.int mixed),some (.ref lc),some (.ref ln),some (.ref d),some (.int ((P0.over.length:Int)+1)),some (.int kd),some (.int R),none,none,none,none,none] H;have hdl:((((ds++[d]).map V.ref).length:Nat):Int)=(ds.length:Int)+1:=by rw[zta,ztc];rfl
 have tup1:∀ (w:Str),([V.str w]).length<=sizeLine:=fun w=>by show 1<=sizeLine;rw[sizeLine_eq];decide
 refine Px (Vd (b:=decide (V.int kd=V.int 7)&&decide (1<(ds.length:Int)+1)) (N7 (fun Q q=>⟨_,rfl,rfl,_,rfl,q⟩) (fun Q q=>⟨_,rfl,l,_,rfl,.inl (SqL.of hl),_,_,rfl,rfl,_,rfl,by rw[hdl];exact q⟩)) (itB (fun hb=>?_) (fun _=>Zz ?_)))
 ·refine⟨tup1 _,fun tt ft=>?_⟩;refine h tt .back _ (show upd H tt _ tt=_ from Zc) ?_ (Ze ft) ft;rw[zuw,decide_eq_true_eq,decide_eq_true_eq] at hb;intro z;rw[z] at hb;have:=hb.2;simp at this
 refine⟨_,rfl,d,_,rfl,DGet.k (k:=.inr "rounds") a1,_,rfl,_,rfl,_,_,rfl,rfl,⟨by omega,by omega⟩,_,_,rfl,rfl,⋯,_,_,rfl,rfl,sz2,fun l2 f2=>?_⟩;have s2:=Ze (o:=.lst [.int 0,.int (1+R/60%3)]) f2;have q2:=Zc (H:=H) (a:=l2) (o:=.lst [.int 0,.int (1+R/60%3)]);generalize upd H l2 (.lst [.int 0,.int (1+R/60%3)])=H2 at s2 q2 ⊢;obtain⟨z,hz,hz0⟩:∃ z:Int,atI [V.int 0,V.int (1+R/60%3)] (if decide (V.int kd=V.int 6)=true then 1 else 0)=some (.int z)/\0<=z:=by
  cases decide (V.int kd=V.int 6) with
  | true=>exact⟨_,rfl,by omega⟩
  | false=>exact⟨0,rfl,by omega⟩
 refine⟨_,rfl,rfl,.inr ⟨_,rfl,l2,_,_,_,rfl,rfl,SqL.of q2,hz,_,_,rfl,rfl,_,_,rfl,?_⟩⟩;obtain⟨day,hday,hd1,hd2⟩:∃ day:Int,(if ((P0.over.length:Int)+1+z)<(P0.len:Int) then ((P0.over.length:Int)+1+z) else (P0.len:Int))=day/\(P0.over.length:Int)<day/\day<=P0.len:=⟨_,rfl,by split<;>omega,by split<;>omega⟩;rw[hday];walk_at "if";obtain⟨pts,p1,p2,p3⟩:=PB.pp;obtain⟨ots,o1,o2,o3⟩:=PB.oo;have hpl:pts.length=P0.ppl.length:=by rw[p2.length,zta]
 have hls:=PB.li.some;refine⟨_,rfl,d,_,rfl,DGet.k (k:=.inr "people") (s2 _ _ a1),lp,rfl,⟨_,SqL.of (s2 _ _ p1)⟩,Xw (K:=K) (a:=lp) (xs:=pts) (fun i ys H'=>Same H2 H'/\ys=(((P0.ppl.take i).filter fun x=>!decide ((day,x.1)∈P0.out)).map (·.1)).map V.int) ⟨Same.refl _,rfl⟩ (fun i ys H' _ ⟨z,_⟩=>SqL.of (z _ _ (s2 _ _ p1))) (szN ⋯) (fun i ys H' ⟨_,e⟩=>by rw[e,zta,zta];exact zts (zuf _ _) (zul _ _)) ?_ ?_⟩
 ·rintro j x ys H3 hx3 ⟨s3,rfl⟩;obtain⟨tp,pp,rfl,hpp',htp⟩:=K3 p2 hx3;have sh3:=s2.trans s3;refine⟨_,rfl,_,rfl,tp,_,_,_,rfl,rfl,SqT.of (sh3 _ _ htp),(show atI (pV pp) 0=some _ from rfl),sz2,fun t3 f3=>?_⟩;have s4:=Ze (o:=.tup [.int day,.int pp.1]) f3;have q4:=Zc (H:=H3) (a:=t3) (o:=.tup [.int day,.int pp.1]);generalize upd H3 t3 (.tup [.int day,.int pp.1])=H4 at s4 q4 ⊢;have sh4:=sh3.trans s4;refine⟨_,rfl,d,_,rfl,DGet.k (k:=.inr "out") (sh4 _ _ a1),t3,lo,ots,_,_,P0.out,rfl,rfl,SqT.of q4,SqL.of (sh4 _ _ o1),o2.same sh4,_,rfl,?_⟩;rw[if_pos rfl,Wa hpp',zu0,zti,zti];refine itB (fun hb=>?_) (fun hb=>?_)
  ·refine⟨_,rfl,tp,_,_,_,rfl,rfl,SqT.of (sh4 _ _ htp),(show atI (pV pp) 0=some _ from rfl),s3.trans s4,?_⟩;rw[zuq (p:=fun x:P3=>!decide ((day,x.1)∈P0.out)) (a:=pp) hb,zu2];rfl
  ·refine⟨s3.trans s4,?_⟩;rw[zup (p:=fun x:P3=>!decide ((day,x.1)∈P0.out)) (a:=pp) (by rw[hb];decide),zu2];simp
 rintro ys H3 ⟨s3,rfl⟩ lh flh;rw[hpl,ztq];obtain⟨he,hhe⟩:∃ he,he=(P0.ppl.filter fun x=>!decide ((day,x.1)∈P0.out)).map (·.1):=⟨_,rfl⟩;rw[<- hhe];have hel:he.length<=100:=by rw[hhe,zta];exact zts (zuf _ _) hpp
 have hem:∀ n∈he,n∈P0.ppl.map (·.1)/\(day,n)∉P0.out:=fun n hn=>by
  rw[hhe] at hn;obtain⟨x,hx,rfl⟩:=ztk.mp hn;obtain⟨hx1,hx2⟩:=ztw.mp hx;exact⟨ztk.mpr ⟨x,hx1,rfl⟩,by simpa using hx2⟩
 have s4:=(s2.trans s3).trans (Ze (o:=.lst (he.map V.int)) flh);have q4:=Zc (H:=H3) (a:=lh) (o:=.lst (he.map V.int));show Wu 12 (V.ref lh) _ (upd H3 lh (.lst (he.map V.int))) _;generalize upd H3 lh (.lst (he.map V.int))=H4 at s4 q4 ⊢;walk_at "if";refine Px (D4 (b:=!he.isEmpty&&(decide (3<kd)||(decide (0<kd)&&P0.lis.isSome))) (Fg (Lq rfl q4) (fun H5 s5=>Sv (R4 (fun Q q=>⟨_,rfl,_,_,rfl,rfl,_,rfl,q⟩) (N7 (fun Q q=>⟨_,rfl,_,_,rfl,rfl,_,rfl,q⟩) (fun Q q=>⟨_,rfl,d,_,rfl,DGet.k (k:=.inr "listed") (s5 _ _ (s4 _ _ a1)),rfl,_,rfl,by rw[hls];exact q⟩))))) (fun H5 s5=>itB (fun hb=>?_) (fun _=>Zz ?_)))
 ·rw[zuw] at hb;have hne:he.length≠0:=by have:=hb.1;intro z;rw[zur.mp z] at this;exact absurd this ⋯
  have hpos:(0:Int)<(he.length:Int):=by omega
  have y0:=zuj R (show (he.length:Int)≠0 by omega);have y1:=zuc R hpos;have hix:=X8 (xs:=he) y0 ⋯;have mix:=Uw (ns:=he) (i:=(R%(he.length:Int)).toNat) ⋯;generalize he.getD (R%(he.length:Int)).toNat 0=n at hix mix;refine⟨_,rfl,_,rfl,_,rfl,_,rfl,lh,_,rfl,.inl (SqL.of (s5 _ _ q4)),?_⟩;rw[zta];refine⟨_,_,rfl,rfl,hpos,lh,_,_,_,rfl,rfl,SqL.of (s5 _ _ q4),hix,(by show 3<=sizeLine;rw[sizeLine_eq];decide),fun tt ft=>?_⟩;exact h tt (.away day n) _ (show upd H5 tt _ tt=_ from Zc) ⟨hd1,hd2,(hem n mix).1,(hem n mix).2⟩ ((s4.trans s5).trans (Ze ft)) ((s4.trans s5).free ft)
 have s05:=s4.trans s5;dsimp only;refine Px (Vd (b:=P0.lis.isSome) (fun Q q=>⟨_,rfl,d,_,rfl,DGet.k (k:=.inr "listed") (s05 _ _ a1),rfl,_,rfl,by rw[hls];exact q⟩) (itB (fun hb=>?_) (fun hb=>Zz ?_)))
 ·refine⟨tup1 _,fun tt ft=>?_⟩;exact h tt .close _ (show upd H5 tt _ tt=_ from Zc) (fun z=>by rw[z] at hb;cases hb) (s05.trans (Ze ft)) (s05.free ft)
 have hno:P0.lis=none:=by
  cases hq:P0.lis with
  | none=>rfl
  | some ms=>rw[hq] at hb;cases hb
 dsimp only;have nul:=PL.nfew;have csl:=PL.few;refine⟨_,rfl,d,_,rfl,DGet.k (k:=.inr "people") (s05 _ _ a1),lp,rfl,⟨_,SqL.of (s05 _ _ p1)⟩,Xw (K:=K) (a:=lp) (xs:=pts) (fun i ys H'=>Same H5 H'/\ys=((P0.ppl.take i).map (·.1)).map V.int) ⟨Same.refl _,rfl⟩ (fun i ys H' _ ⟨z,_⟩=>SqL.of (z _ _ (s05 _ _ p1))) (szN ⋯) (fun i ys H' ⟨_,e⟩=>by rw[e,zta,zta];exact zul _ _) ?_ ?_⟩
 ·rintro j x ys H6 hx6 ⟨s6,rfl⟩;obtain⟨tp,pp,rfl,hpp',htp⟩:=K3 p2 hx6;unfold tYes;dsimp only;rw[if_pos rfl];refine⟨_,rfl,tp,_,_,_,rfl,rfl,SqT.of (s6 _ _ (s05 _ _ htp)),(show atI (pV pp) 0=some _ from rfl),s6,?_⟩;rw[Wa hpp',zti,zti];rfl
 rintro ys H6 ⟨s6,rfl⟩ lk flk;rw[hpl,ztq];obtain⟨kn,hkn⟩:∃ kn,kn=P0.ppl.map (·.1):=⟨_,rfl⟩;rw[<- hkn];have s7:=(s05.trans s6).trans (Ze (o:=.lst (kn.map V.int)) flk);have q7:=Zc (H:=H6) (a:=lk) (o:=.lst (kn.map V.int));show Wu 13 (V.ref lk) _ (upd H6 lk (.lst (kn.map V.int))) _;generalize upd H6 lk (.lst (kn.map V.int))=H7 at s7 q7 ⊢;walk_at "if";refine⟨_,rfl,ln,rfl,⟨_,SqL.of (s7 _ _ PL.nums)⟩,Xw (K:=K) (a:=ln) (xs:=nu.map V.int) (fun i ys H'=>H'=H7/\ys=((nu.take i).filter fun n=>!decide (n∈kn)).map V.int) ⟨rfl,rfl⟩ (fun i ys H' _ ⟨z,_⟩=>by rw[z];exact SqL.of (s7 _ _ PL.nums)) (szN (by rw[zta];omega)) (fun i ys H' ⟨_,e⟩=>by rw[e,zta];exact zts (zuf _ _) (zul _ _)) ?_ ?_⟩
 ·rintro j x ys H8 hx8 ⟨rfl,rfl⟩;rw[ztj] at hx8;obtain⟨n,hn,rfl⟩:=zvb.mp hx8;refine⟨_,rfl,_,rfl,lk,_,rfl,.inl (SqL.of q7),rfl,(zva.mpr fun y hy=>by obtain⟨i,_,rfl⟩:=ztk.mp hy;rfl),_,rfl,?_⟩;rw[if_pos rfl,Kp,Wa hn,zu0,zti];refine itB (fun hb=>?_) (fun hb=>?_)
  ·refine⟨_,rfl,rfl,?_⟩;rw[zuq (p:=fun n:Int=>!decide (n∈kn)) (a:=n) hb,zu2];rfl
  ·refine⟨rfl,?_⟩;rw[zup (p:=fun n:Int=>!decide (n∈kn)) (a:=n) (by rw[hb];decide),zu2];simp
 rintro ys H8 ⟨rfl,rfl⟩ lf flf;rw[zta,ztq];obtain⟨fs,hfs⟩:∃ fs,fs=nu.filter fun n=>!decide (n∈kn):=⟨_,rfl⟩;rw[<- hfs];have hfm:∀ n∈fs,n∈nu/\n∉P0.ppl.map (·.1):=fun n hn=>by
  rw[hfs] at hn;obtain⟨hx1,hx2⟩:=ztw.mp hn;exact⟨hx1,by rw[<- hkn];simpa using hx2⟩
 have hfl:fs.length<=100:=by rw[hfs];exact zts (zuf _ _) ⋯
 have s9:=s7.trans (Ze (o:=.lst (fs.map V.int)) flf);have q9:=Zc (H:=H8) (a:=lf) (o:=.lst (fs.map V.int));show Wu 14 (V.ref lf) _ (upd H8 lf (.lst (fs.map V.int))) _;generalize upd H8 lf (.lst (fs.map V.int))=H9 at s9 q9 ⊢;walk_at "if";refine Px (D4 (b:=decide (V.int kd=V.int 3) && !fs.isEmpty) (Fg (Sv (fun Q q=>⟨_,rfl,rfl,_,rfl,q⟩)) (fun H10 s10=>Lq rfl (s10 _ _ q9))) (fun H10 s10=>itB (fun hb=>?_) (fun _=>Zz ?_)))
 ·rw[zuw] at hb;have hne:fs.length≠0:=by have:=hb.2;intro z;rw[zur.mp z] at this;exact absurd this ⋯
  have hpos:(0:Int)<(fs.length:Int):=by omega
  have y0:=zuj R (show (fs.length:Int)≠0 by omega);have y1:=zuc R hpos;have hix:=X8 (xs:=fs) y0 ⋯;have mix:=Uw (ns:=fs) (i:=(R%(fs.length:Int)).toNat) ⋯;generalize fs.getD (R%(fs.length:Int)).toNat 0=n at hix mix;have hcl:(0:Int)<(cs.length:Int):=by omega
  have w0:=zuj (R/360) (show (cs.length:Int)≠0 by omega);have w1:=zuc (R/360) hcl;have hcs:=X8 (xs:=cs) w0 ⋯;have mcs:=Uw (ns:=cs) (i:=(R/360%(cs.length:Int)).toNat) ⋯;generalize cs.getD (R/360%(cs.length:Int)).toNat 0=c at hcs mcs;have s010:=s9.trans s10;refine⟨_,rfl,_,rfl,_,_,rfl,rfl,⟨by omega,by omega⟩,_,rfl,lc,_,rfl,.inl (SqL.of (s010 _ _ PL.clubs)),?_⟩;rw[zta];refine⟨_,_,rfl,rfl,hcl,lc,_,_,_,rfl,rfl,SqL.of (s010 _ _ PL.clubs),hcs,?_⟩;walk_at "if";refine⟨_,rfl,_,rfl,_,rfl,lf,_,rfl,.inl (SqL.of (s10 _ _ q9)),?_⟩;rw[zta];refine⟨_,_,rfl,rfl,hpos,lf,_,_,_,rfl,rfl,SqL.of (s10 _ _ q9),hix,_,rfl,_,_,rfl,rfl,⟨by omega,by omega⟩,_,_,rfl,rfl,⋯,_,_,rfl,rfl,_,rfl,(by show 4<=sizeLine;rw[sizeLine_eq];decide),fun tt ft=>?_⟩;exact h tt (.enrol n (1+R/40%9) c) _ (show upd H10 tt _ tt=_ from Zc) ⟨hno,(hfm n mix).1,(hfm n mix).2,by omega,by omega,mcs⟩ (s010.trans (Ze ft)) (s010.free ft)
 have s010:=s9.trans s10;dsimp only;refine⟨_,rfl,_,rfl,_,rfl,_,rfl,lc,cs,R,most,mixed,rfl,s010 _ _ PL.clubs,by omega,by omega,PL.cnd,PL.crng,hm1,hmx,fun lm' ts ms H11 hlm tl hml gm s11 flm=>⟨sz2,fun tt ft=>?_⟩⟩;have s12:=Ze (o:=.tup [.str "draw up",.ref lm']) ft;exact h tt (.draw ms) _ ⟨lm',ts,Zc,s12 _ _ hlm,tl.same s12,s010.free flm⟩ ⟨hno,hml,gm⟩ ((s010.trans s11).trans s12) ((s010.trans s11).free ft)
abbrev Xk:Stmt:=top 74
theorem Lu:Zl ["_law_script","_law_crowd","_law_many"] ["_law_script","_law_crowd"] (Zj Xk):=fnS
@[irreducible] def Tp:List Expr:=zcp (Cu (Pa (Xl (Zr Xk) 0)))
@[irreducible] def Lv:Pos:=zcq (Cu (Pa (Xl (Zr Xk) 0)))
theorem Gb:Zr Xk=[.Assign (ze6 (Xl (Zr Xk) 0)) (.Subscript (.List Tp Lv) (zgu (Pa (Xl (Zr Xk) 0))) (zgv (Pa (Xl (Zr Xk) 0)))) (stP (Xl (Zr Xk) 0)),Xl (Zr Xk) 1]:=by unfold Tp Lv;kernel_rfl
theorem Gd:Jh Tp [4,3,5,4,6,10,4,8]:=by unfold Tp;exact⟨by kernel_rfl,by kernel_rfl⟩
theorem Bi(F:Fun K "_law_pool" "_law_pool" Xk f fd)(T:Tx K mg a)(zlr:Z4 P w K mg base "_law_at" 1 ["_law_script","_law_k"] (Aa K))(zpb:Z4 P w K mg base "_law_clubs" 1 ["_law_cell_here","_law_many"] zat)(zot:Z4 P w K mg base "_law_numbers" 1 ["_law_cell_here","_law_many"] K1):FnOk P w K mg base (CX1 P w) 2 f fd ["_law_script","_law_crowd"] (Cq K):=by
 refine F.okX Lu ⋯ fun _ _ _ _ H _ Q E hr h=>?_;obtain⟨b,ns,cr,rfl,hS,hc1,hc2,h⟩:=h;rw[Gb];refine⟨_,(Zb (pS 2 Lu.nd (pI (iL K) (Z9 (Q6 [4,3,5,4,6,10,4,8] Gd)) (Zp Yp (Zp Y4 (pF zlr hr (Za (pv 0) (Za Zg Zd))) Zg) Zg)))
 (Zf (Zm (Z7 (Za (pF zpb hr (Za (pF zlr hr (Za (pv 0) (Za Zg Zd))) (Za (pv 2) Zd))) (Za (pF zot hr (Za (pF zlr hr (Za (pv 0) (Za Zg Zd))) (Za (pv 1) Zd))) Zd)))))),?_⟩
 refine zi6 [4,3,5,4,6,10,4,8] ⋯ fun l H1 q1 s1 fl=>?_;have h0:=zuj (Y8 ns 0/4) (show (8:Int)≠0 by decide);have h1:=zuc (Y8 ns 0/4) (show (0:Int)<8 by decide);refine⟨_,rfl,b,ns,0,rfl,s1.seq hS,_,_,rfl,rfl,⟨by decide,by decide⟩,_,_,rfl,rfl,(show (0:Int)<8 by decide),l,_,_,_,rfl,rfl,SqL.of q1,X8 (xs:=[4,3,5,4,6,10,4,8]) h0 (by show _<((8:Nat):Int);omega),?_⟩;obtain⟨m,hm,hm1,hm2⟩:∃ m:Nat,([4,3,5,4,6,10,4,8]:List Int).getD (Y8 ns 0/4%8).toNat 0=m/\3<=m/\m<=10:=by
  have hk:(Y8 ns 0/4%8).toNat<8:=by omega
  generalize (Y8 ns 0/4%8).toNat=k at hk
  match k,hk with
  | 0,_=>exact⟨4,rfl,by decide,by decide⟩
  | 1,_=>exact⟨3,rfl,by decide,by decide⟩
  | 2,_=>exact⟨5,rfl,by decide,by decide⟩
  | 3,_=>exact⟨4,rfl,by decide,by decide⟩
  | 4,_=>exact⟨6,rfl,by decide,by decide⟩
  | 5,_=>exact⟨10,rfl,by decide,by decide⟩
  | 6,_=>exact⟨4,rfl,by decide,by decide⟩
  | 7,_=>exact⟨8,rfl,by decide,by decide⟩
 rw[hm];refine⟨_,rfl,b,ns,3,rfl,s1.seq hS,_,rfl,_,m,rfl,by omega,fun lc H2 hlc s2 f2=>?_⟩;refine⟨_,rfl,b,ns,2,rfl,(s1.trans s2).seq hS,_,rfl,_,cr,rfl,by omega,fun ln H3 hln s3 f3=>?_⟩;refine⟨sz2,fun t ht=>?_⟩;have s4:=Ze (o:=.tup [.ref lc,.ref ln]) ht;have s13:=s1.trans (s2.trans s3);refine h t lc ln _ _ _ ⟨Zc,s4 _ _ (s3 _ _ hlc),s4 _ _ hln,by rw[Iy];exact⟨hm1,hm2⟩,Cs _ hm2,zcn _ _,by rw[O6];exact⟨hc1,hc2⟩,Ct _ ⋯,zco _ _⟩ (O6 _ _) (s13.trans s4) (s13.free ht) (s1.free f2) ((s1.trans s2).free f3)
abbrev Yc:Stmt:=top 75
theorem Ys:Zl ["_law_script","_law_pool_here","_law_clubs_here","_law_numbers_here","_law_many","_law_grades","_law_rest_here","_law_deeds","_law_k"] ["_law_script","_law_pool_here"] (Zj Yc):=fnS
@[irreducible] def V8:List Expr:=zcp (Pa (Xl (Zr Yc) 3))
@[irreducible] def Po:Pos:=zcq (Pa (Xl (Zr Yc) 3))
theorem Kj:Zr Yc=[Xl (Zr Yc) 0,Xl (Zr Yc) 1,Xl (Zr Yc) 2,.Assign (ze6 (Xl (Zr Yc) 3)) (.List V8 Po) (stP (Xl (Zr Yc) 3)),Xl (Zr Yc) 4,Xl (Zr Yc) 5,Xl (Zr Yc) 6,Xl (Zr Yc) 7]:=by unfold V8 Po;kernel_rfl
theorem Kk:Jh V8 [1,2,3,4,5,6,7,8,9,9,9,9,9,8,8,7,6,5]:=by unfold V8;exact⟨by kernel_rfl,by kernel_rfl⟩
theorem Ge(F:Fun K "_law_people" "_law_people" Yc f fd)(T:Tx K mg a)(zlr:Z4 P w K mg base "_law_at" 1 ["_law_script","_law_k"] (Aa K))(zmv:Z4 P w K mg base "_law_mix" 1 ["_law_cell_here","_law_k"] zas):FnOk P w K mg base (CX1 P w) 2 f fd ["_law_script","_law_pool_here"] (Jn K):=by
 refine F.okX Ys ⋯ fun _ _ _ _ H _ Q E hr h=>?_;obtain⟨b,t,lc,ln,ns,cs,nu,rfl,hS,PA,h⟩:=h;rw[Kj];refine⟨_,(Zb (Kt (pv 1) (Wd (K:=K) (n:=2) rfl rfl (Zy (pN 2 Ys.nd) (Zy (pN 3 Ys.nd) Wb))))
 (Zb (pS 4 Ys.nd (Zp Yp (pF zlr hr (Za (pv 0) (Za Zg Zd))) (Zp Yk (Zs (cL K) (by rfl) T.zly PySem.boot_len (Za (pv 3) Zd)) Zg)))
 (Zb (Z5 (Zn Xn (Zp Yp (Zp Y4 (pF zlr hr (Za (pv 0) (Za Zg Zd))) (Zp Yk (Zs (cL K) (by rfl) T.zly PySem.boot_len (Za (pv 3) Zd)) Zg)) Zg) Zg (Zu _))
  (Zf (pS 4 Ys.nd (Zp Pq (Zs (cL K) (by rfl) T.zly PySem.boot_len (Za (pv 3) Zd)) (Zp Yp (pv 4) Zg))))
  Zt)
 (Zb (pS 5 Ys.nd (Z9 (Q6 [1,2,3,4,5,6,7,8,9,9,9,9,9,8,8,7,6,5] Kk)))
 (Zb (pS 6 Ys.nd (pF zlr hr (Za (pv 0) (Za Zg Zd))))
 (Zb (pS 7 Ys.nd (Z9 Zd))
 (Zb (Xf PassesOwn.leaving rfl (X9 rfl T.zmj (Za (pv 4) Zd)) (pN 8 Ys.nd)
  (Zb (Yv (pv 7) (Z7 (Za Zo (Za (pI (iL K) (pv 3) (pv 8)) (Za (pI (iL K) (pv 5) (Zp Yp (pv 6) Zg)) (Za (pI (iL K) (pv 2) (Zp Yp (Zp Y4 (pv 6) Zg) (Zs (cL K) (by rfl) T.zly PySem.boot_len (Za (pv 2) Zd)))) Zd))))))
  (Zf (pS 6 Ys.nd (pI (iL K) (Z9 (Za (Zp Y4 (Zp Y4 (pv 6) Zg) (Zs (cL K) (by rfl) T.zly PySem.boot_len (Za (pv 2) Zd))) (Za (pF zmv hr (Za (pv 6) (Za (pv 8) Zd))) Zd))) (Zp Yp (pF zlr hr (Za (pv 0) (Za Zg Zd))) Zg))))))
 (Zf (Zm (pv 7)))))))))),?_⟩
 show let y1:TS:=_;let y2:TS:=Zw _ y1;let y3:TS:=Zw _ y2;let y4:TS:=Zw _ y3;let y5:TS:=Zw _ y4;let y6:TS:=Zw _ y5;let y7:TS:=Zw _ y6;Zw _ y7 _ _ _;intro y1 y2 y3 y4 y5 y6 y7;have sz0:([]:List V).length<=sizeLine:=zt4 _;have hw:(0:Int)<(nu.length:Int)+1:=by omega
 obtain⟨c1,c2⟩:=PA.few;obtain⟨n1,n2⟩:=PA.nfew;refine⟨_,rfl,t,_,rfl,SqT.of PA.tup,rfl,_,_,rfl,_,_,rfl,rfl,?_⟩;walk_at "if";refine⟨_,rfl,b,ns,4,rfl,hS,_,rfl,ln,_,rfl,.inl (SqL.of PA.nums),_,_,rfl,rfl,?_⟩;rw[zta];refine⟨_,_,rfl,rfl,hw,?_⟩;walk_at "if";have u0:=zuj (Y8 ns 4) (show (nu.length:Int)+1≠0 by omega);have u1:=zuc (Y8 ns 4) hw
 let jv4:L2.St->Hp->Prop:=fun σ' H'=>H'=H/\∃ m:Nat,σ'=[some (.ref b),some (.ref t),some (.ref lc),some (.ref ln),some (.int m),none,none,none,none]/\m<=nu.length
 refine M8 (b:=decide (V.int (Y8 ns 4/((nu.length:Int)+1)%2)=V.int 1)) jv4 (fun Q q=>?_) (fun _ N hN=>?_) (fun _ N hN=>?_) ?_
 ·refine⟨_,rfl,b,ns,4,rfl,hS,_,rfl,ln,_,rfl,.inl (SqL.of PA.nums),_,_,rfl,rfl,?_⟩;rw[zta];exact⟨_,_,rfl,rfl,⟨hw,by omega⟩,_,_,rfl,rfl,by omega,rfl,_,rfl,q⟩
 ·refine⟨_,rfl,ln,_,rfl,.inl (SqL.of PA.nums),?_⟩;rw[zta];refine⟨_,rfl,_,_,rfl,rfl,by omega,_,_,rfl,rfl,hN _ _ ⟨rfl,((nu.length:Int)-Y8 ns 4%((nu.length:Int)+1)%2).toNat,?_,by omega⟩⟩;rw[zvp ⋯];rfl
 ·refine Zz (hN _ _ ⟨rfl,(Y8 ns 4%((nu.length:Int)+1)).toNat,?_,by omega⟩);rw[zvp ⋯];rfl
 rintro σ H' ⟨rfl,m,rfl,hm⟩;refine Cw [1,2,3,4,5,6,7,8,9,9,9,9,9,8,8,7,6,5] ⋯ fun lg H2 hg s2 fg=>?_;refine⟨_,rfl,b,ns,5,rfl,s2.seq hS,sz0,fun r fr=>?_⟩;have s1:=s2.trans (Ze (o:=.lst []) fr);have q1:=Zc (H:=H2) (a:=r) (o:=.lst []);have hg1:=Ze (o:=.lst []) fr _ _ hg;walk_at "if";generalize upd H2 r (.lst [])=H1 at s1 q1 hg1 ⊢;have fr0:=s2.free fr;have frg:lg≠r:=Zh hg fr
 let jv5:Nat->L2.St->Hp->Prop:=fun i σ H3=>(∃ v8 R,σ=[some (.ref b),some (.ref t),some (.ref lc),some (.ref ln),some (.int m),some (.ref lg),some (.int R),some (.ref r),v8])/\(∀ x o,H1 x=some o->x≠r->H3 x=some o)/\∃ ts es,H3 r=some (.lst ts)/\TupL H3 ts ((es:List P3).map enV)/\es.length=i/\es.map (·.1)=nu.take i/\(∀ x∈es,1<=x.2.1/\x.2.1<=9/\x.2.2∈cs)
 refine⟨_,rfl,_,rfl,by omega,by omega,Wn jv5
  ⟨⟨_,_,rfl⟩,fun _ _ e _=>e,[],[],q1,.nil,rfl,rfl,(fun m z=>nomatch z)⟩ ?_ ?_⟩
 ·rintro i σ H3 hi ⟨⟨v8,R,rfl⟩,k,ts,es,hr',tl,hml,enu,eok⟩;rw[ztv] at hi;rw[zu8];have s3:Same H' H3:=fun x o e=>k _ _ (s1 _ _ e) (Zh e fr0);have hg3:=k _ _ hg1 frg;have PA3:=PA.same s3;have hcl:(0:Int)<(cs.length:Int):=by omega
  have w0:=zuj R (show (18:Int)≠0 by omega);have w1:=zuc R (show (0:Int)<18 by omega);have y0:=zuj (R/18) (show (cs.length:Int)≠0 by omega);have y1:=zuc (R/18) hcl;have hgr:=X8 (xs:=Eo) w0 (by show _<((18:Nat):Int);omega);have rgr:=Aq (R%18).toNat ⋯;generalize hgv:Eo.getD (R%18).toNat 0=gv at hgr rgr;have hcs:=X8 (xs:=cs) y0 ⋯;have mcs:=Uw (ns:=cs) (i:=(R/18%(cs.length:Int)).toNat) ⋯;generalize cs.getD (R/18%(cs.length:Int)).toNat 0=c at hcs mcs;have hni:i<nu.length:=by omega
  have hnu:nu[i]?=some (nu[i]'hni):=ztb hni;have etk:nu.take (i+1)=nu.take i++[nu[i]'hni]:=zub hni;generalize nu[i]'hni=n at hnu etk;walk_at "if";refine⟨_,rfl,r,_,rfl,hr',?_⟩;refine⟨_,rfl,_,rfl,ln,_,_,_,rfl,rfl,SqL.of PA3.nums,Yf (by rw[ztj,hnu];rfl),_,rfl,_,rfl,_,_,rfl,rfl,⋯,lg,_,_,_,rfl,rfl,SqL.of hg3,hgr,?_⟩;refine⟨_,rfl,_,rfl,_,_,rfl,rfl,⟨by omega,by omega⟩,_,rfl,lc,_,rfl,.inl (SqL.of PA3.clubs),?_⟩;rw[zta];refine⟨_,_,rfl,rfl,hcl,lc,_,_,_,rfl,rfl,SqL.of PA3.clubs,hcs,(by show 4<=sizeLine;rw[sizeLine_eq];decide),fun tt ft=>?_⟩;have s4:=Ze (o:=.tup [.str "enrol",.int n,.int gv,.int c]) ft;have q4:=Zc (H:=H3) (a:=tt) (o:=.tup [.str "enrol",.int n,.int gv,.int c]);generalize upd H3 tt (.tup [.str "enrol",.int n,.int gv,.int c])=H4 at s4 q4 ⊢;have tln:=tl.length;rw[zta] at tln;refine⟨ts,s4 _ _ hr',szN ⋯,?_⟩;have k5:∀ x o,H4 x=some o->x≠r->upd H4 r (.lst (ts++[.ref tt])) x=some o:=fun x o e n=>by rw[Zi n];exact e
  have q5:=Zc (H:=H4) (a:=r) (o:=.lst (ts++[.ref tt]));have kt5:∀ x ys,H4 x=some (.tup ys)->upd H4 r (.lst (ts++[.ref tt])) x=some (.tup ys):=fun x ys e=>k5 _ _ e (Yo e (s4 _ _ hr') (by intro z;cases z));dsimp only;generalize upd H4 r (.lst (ts++[.ref tt]))=H5 at k5 q5 kt5 ⊢;have s05:Same H' H5:=fun x o e=>k5 _ _ (s4 _ _ (s3 _ _ e)) (Zh e fr0);have PA5:=PA.same s05;obtain⟨mx,hmx,hmx1⟩:∃ mx:Nat,Y8 ns 0%2=mx/\mx<=1:=⟨(Y8 ns 0%2).toNat,by omega,by omega⟩;obtain⟨z,hz⟩:=at2 (R/18/(cs.length:Int)) (Ab R (i:Int)) hmx1;refine⟨_,rfl,_,_,rfl,rfl,⟨by omega,by omega⟩,_,rfl,lc,_,rfl,.inl (SqL.of PA5.clubs),?_⟩;rw[zta];refine⟨_,_,rfl,rfl,⟨hcl,by omega⟩,_,rfl,_,rfl,_,_,rfl,sz2,fun l2 f2=>?_⟩;have s6:=Ze (o:=.lst [.int (R/18/(cs.length:Int)),.int (Ab R (i:Int))]) f2;have q6:=Zc (H:=H5) (a:=l2) (o:=.lst [.int (R/18/(cs.length:Int)),.int (Ab R (i:Int))]);generalize upd H5 l2 (.lst [.int (R/18/(cs.length:Int)),.int (Ab R (i:Int))])=H6 at s6 q6 ⊢;refine⟨_,rfl,b,ns,0,rfl,(s05.trans s6).seq hS,_,_,rfl,rfl,⋯,l2,_,_,_,rfl,rfl,SqL.of q6,(by rw[hmx];exact hz),?_⟩;refine⟨⟨_,_,rfl⟩,fun x o e n=>s6 _ _ (k5 _ _ (s4 _ _ (k _ _ e n)) n),ts++[.ref tt],es++[(n,gv,c)],s6 _ _ q5,?_,by rw[ztc,hml];rfl,?_,?_⟩
  ·rw[zti];exact(tl.mono fun x ys e=>s6 _ _ (kt5 _ _ (s4 _ _ e))).snoc (s6 _ _ (kt5 _ _ q4))
  ·rw[zti,enu,etk];rfl
  ·intro m hm;rcases ztl.mp hm with hm|hm
   ·exact eok m hm
   ·rw[zte.mp hm];exact⟨rgr.1,rgr.2,mcs⟩
 ·rintro σ H3 ⟨⟨v8,R,rfl⟩,k,ts,es,hr',tl,hml,enu,eok⟩;rw[ztv] at hml enu;refine⟨_,rfl,h r ts es H3 hr' tl (by rw[hml];exact enu) ⋯ eok (fun x o e=>k _ _ (s1 _ _ e) (Zh e fr0)) fr0⟩
abbrev Tc:Stmt:=top 76
theorem Ul:Zl ["_law_season","_law_pages","_law_deeds","_law_deed_here"] ["_law_season","_law_pages","_law_deeds"] (Zj Tc):=fnS
theorem Kl(F:Fun K "_law_enrolled" "_law_enrolled" Tc f fd)(T:Tx K mg a)(zow:Z4 P w K mg base "_law_do" 8 ["_law_season","_law_deed_here"] (zi4 K (ca a)))(zm8:Z4 P w K mg base "_law_paged" 3 ["_law_pages","_law_deed_here"] (Em K)):FnOk P w K mg base (CX1 P w) 9 f fd ["_law_season","_law_pages","_law_deeds"] (Jo K (ca a)):=by
 refine F.okX Ul ⋯ fun _ _ _ _ H _ Q E hr h=>?_;obtain⟨mb,A',l,le,ts,es,ds,d,P0,S,nu,n,rfl,SA,hl,hlo,F,hle,hlf,tl,nd,eok,hp30,hn90,hcur,hlen,h⟩:=h;refine⟨_,(Zb (Xf PassesOwn.leaving rfl (Yd (K:=K) rfl (pv 2)) (pN 3 Ul.nd)
  (Zb (Z6 (pF zow hr (Za (pv 0) (Za (pv 3) Zd))))
  (Zf (pS 1 Ul.nd (pF zm8 hr (Za (pv 1) (Za (pv 3) Zd)))))))
 (Zf (Zm (pv 1)))),?_⟩
 have tln:=tl.length;rw[zta] at tln
 let jv6:Nat->L2.St->Hp->Prop:=fun i σ H1=>∃ A1 l1 ds1 d1 P1 S1 v,σ=[some (.ref A'.p),some (.ref l1),some (.ref le),v]/\Zx (ca a) H1 A1 S1/\H1 l1=some (.lst ((ds1++[d1]).map V.ref))/\l1∉A1.fp/\Us mb (·∉A1.fp) H1 nu (n+i) ds1 d1 P1 S1/\FrN A' A1 H H1/\S1.cur=none/\S1.led=S.led/\S1.len=S.len/\S1.ppl=S.ppl++es.take i
 refine⟨_,rfl,le,rfl,⟨_,SqL.of hle⟩,X6 (K:=K) (a:=le) (xs:=ts) jv6
  ⟨A',l,ds,d,P0,S,_,rfl,SA,hl,hlo,F,.refl _ _,hcur,rfl,rfl,by simp⟩ (fun i σ H1 _ ⟨A1,_,_,_,_,_,_,_,_,_,_,_,f,_⟩=>SqL.of (f.k _ _ hle hlf).1) ?_ ?_⟩
 ·rintro i x σ H1 hx ⟨A1,l1,ds1,d1,P1,S1,v,rfl,SA1,hl1,ho1,F1,f1,e1,e2,e3,e4⟩;have hi:i<ts.length:=(ztd.mp hx).1;have hie:i<es.length:=by omega
  have hex:es[i]?=some (es[i]'hie):=ztb hie;have etk:=Wa hex;have hmem:es[i]'hie∈es:=zue hie;obtain⟨t,ht1,ht2⟩:∃ t,x=.ref t/\H t=some (.tup (enV (es[i]'hie))):=by
   obtain⟨t,r,z1,z2,z3⟩:=tl.get hx;rw[ztj,hex] at z2;cases z2;exact⟨t,z1,z3⟩
  have hfr:(es[i]'hie).1∉(es.take i).map (·.1):=fun z=>by
   obtain⟨y,hy,ey⟩:=ztk.mp z;obtain⟨j,hj,rfl⟩:=zuk hy;rw[zu1] at hj;rw[List.getElem_take] at ey;have h1:(es.map (·.1))[j]'(by rw[zta];omega)=(es.map (·.1))[i]'(by rw[zta];omega):=by rw[List.getElem_map,List.getElem_map];exact ey
   have:=(List.getElem_inj nd).mp h1;omega
  have hok:=eok _ hmem;generalize es[i]'hie=x0 at hex etk hmem ht2 hfr hok;obtain⟨k,gr,c⟩:=x0;subst ht1;have hD:Wj (·∉A1.fp) H1 t (.enrol k gr c):=f1.kt _ _ ht2;have g:Ll S1 (.enrol k gr c):=by
   refine⟨by rw[e2,e3];exact hlen,e1,hok.2.1,?_,?_⟩
   ·rw[e4,zti];intro z;rcases ztl.mp z with z|z
    ·exact hok.2.2 z
    ·exact hfr z
   ·rw[e4,ztc,zu1];omega
  obtain⟨b1,b2,b3,b4,b5,b6,b7,b8,b9,b10⟩:=F1.pre g ⋯;refine⟨_,rfl,_,rfl,A1,S1,t,_,(by rw[f1.p];rfl),SA1,hD,g,b1,b2,b3,b4,b5,b6,b7,b8,b9,b10,fun v' A2 S2 H2 af SA2 nx fr _=>?_⟩;have f12:=FrN.next SA1 nx fr;obtain⟨c1,c2,c3,c4,c5⟩:=F1.pre2 g ⋯
  refine⟨_,rfl,_,rfl,(·∉A2.fp),l1,t,ds1,d1,P1,.enrol k gr c,rfl,(f12.k _ _ hl1 ho1).1,F1.pg.fr f12,hD.fr f12,c1,c2,c3,c4,c5,fun l3 d3 H3 hl3 pg s3 fl3 fd3=>?_⟩;obtain⟨ds2,d2,P2,ek,Pe,eP,_⟩:=turn F1 SA1 af SA2 nx fr g (fun k' gr' c' z=>by cases z;exact hok.1) pg s3 fd3;cases af with
  | enrol k gr c =>
    rw[ek] at hl3;refine⟨A2,l3,ds2,d2,P2,_,_,rfl,SA2.same s3,hl3,SA2.newOk _ fl3,Pe.full (fun s hs=>?_) (fun z=>?_),f1.trans (f12.trans (.of s3)),e1,e2,e3,?_⟩
    ·have hs:S1.cur=some s:=hs;rw[e1] at hs;cases hs
    ·rw[eP nofun];show P1.mv=_;rw[F1.re.mv z,Oe e1];exact(Oe e1).symm
    ·show S1.ppl++[(k,gr,c)]=_;rw[e4,etk,zu6]
 ·rintro σ H1 ⟨A1,l1,ds1,d1,P1,S1,v,rfl,SA1,hl1,ho1,F1,f1,e1,e2,e3,e4⟩;rw[tln] at F1;exact⟨_,rfl,h A1 l1 ds1 d1 P1 S1 H1 SA1 hl1 ho1 F1 f1 e1 e2 e3⟩
abbrev X5:Stmt:=top 77
theorem Bj:Zl ["_law_script"] ["_law_script"] (Zj X5):=fnS
@[irreducible] def Tq:List Expr:=zcp (Cu (zgt (Xl (Zr X5) 0)))
@[irreducible] def Lw:Pos:=zcq (Cu (zgt (Xl (Zr X5) 0)))
theorem Gf:Zr X5=[.Return (some (.Subscript (.List Tq Lw) (zgu (zgt (Xl (Zr X5) 0))) (zgv (zgt (Xl (Zr X5) 0))))) (stP (Xl (Zr X5) 0))]:=by unfold Tq Lw;kernel_rfl
theorem Gg:Jh Tq [0,1,2,3,4,5,6,7,8,9,10,0,0,0,1,1,1,2,2,0,1,3]:=by unfold Tq;exact⟨by kernel_rfl,by kernel_rfl⟩
theorem Bl(F:Fun K "_law_rest" "_law_rest" X5 f fd)(T:Tx K mg a)(zlr:Z4 P w K mg base "_law_at" 1 ["_law_script","_law_k"] (Aa K)):FnOk P w K mg base (CX1 P w) 2 f fd ["_law_script"] (Co K):=by
 refine F.okX Bj ⋯ fun _ _ _ _ H _ Q E hr h=>?_;obtain⟨b,ns,rfl,hS,h⟩:=h;rw[Gf];refine⟨_,(Zf (Zm (pI (iL K) (Z9 (Q6 [0,1,2,3,4,5,6,7,8,9,10,0,0,0,1,1,1,2,2,0,1,3] Gg)) (Zp Yp (pF zlr hr (Za (pv 0) (Za Zg Zd))) Zg)))),?_⟩;refine zi5 Li ⋯ fun l H1 q1 s1 fl=>?_;have h0:=zuj (Y8 ns 1) (show (22:Int)≠0 by decide);have h1:=zuc (Y8 ns 1) (show (0:Int)<22 by decide);have hat:=X8 (xs:=Li) h0 (show _<((22:Nat):Int) by omega);have hb:0<=Li.getD (Y8 ns 1%22).toNat 0/\Li.getD (Y8 ns 1%22).toNat 0<=10:=by
  generalize (Y8 ns 1%22).toNat=k;rw[zt1];cases e:Li[k]? with
  | none=>exact⟨by decide,by decide⟩
  | some x =>
    have hm:=ztn e;have:∀ x∈Li,0<=x/\x<=10:=by decide
    exact this x hm
 have hfin:=h (Li.getD (Y8 ns 1%22).toNat 0).toNat H1 rfl ⋯ s1;rw[zvp hb.1] at hfin;exact⟨_,rfl,b,ns,1,rfl,s1.seq hS,_,_,rfl,rfl,(show (0:Int)<22 by decide),l,_,_,_,rfl,rfl,SqL.of q1,hat,hfin⟩
abbrev Ri:Stmt:=top 78
theorem Gh:Zl ["_law_script"] ["_law_script"] (Zj Ri):=fnS
theorem Gi(F:Fun K "_law_rounds" "_law_rounds" Ri f fd)(T:Tx K mg a)(zlr:Z4 P w K mg base "_law_at" 1 ["_law_script","_law_k"] (Aa K)):FnOk P w K mg base (CX1 P w) 2 f fd ["_law_script"] (Jf K):=by
 refine F.okX Gh ⋯ fun _ _ _ _ H _ Q E hr h=>?_;obtain⟨b,ns,rfl,hS,h⟩:=h;refine⟨_,(Zf (Zm (pI (iL K) (Z9 (Za Zg (Za (Zp Yk Zg (Zp Yp (Zp Y4 (pF zlr hr (Za (pv 0) (Za Zg Zd))) Zg) Zg)) Zd))) (Zp Yp (Zp Y4 (pF zlr hr (Za (pv 0) (Za Zg Zd))) Zg) Zg)))),?_⟩;refine⟨_,rfl,b,ns,1,rfl,hS,?_⟩;refine⟨_,_,rfl,rfl,⟨by decide,by decide⟩,_,_,rfl,rfl,(show (0:Int)<60 by decide),_,_,rfl,rfl,sz2,fun l hl=>?_⟩;have s1:=Ze (o:=.lst [V.int 60,V.int (1+Y8 ns 1/22%60)]) hl;have q1:upd H l (.lst [V.int 60,V.int (1+Y8 ns 1/22%60)]) l=some (.lst [V.int 60,V.int (1+Y8 ns 1/22%60)]):=Zc;refine⟨_,rfl,b,ns,0,rfl,s1.seq hS,_,_,rfl,rfl,⟨by decide,by decide⟩,_,_,rfl,rfl,(show (0:Int)<2 by decide),?_⟩;have h01:Y8 ns 0/2%2=0\/Y8 ns 0/2%2=1:=by omega
 have hat:atI [V.int 60,V.int (1+Y8 ns 1/22%60)] (Y8 ns 0/2%2)=some (.int (((Qc ns).toNat:Nat):Int))/\1<=(Qc ns).toNat/\(Qc ns).toNat<=60:=by
  unfold Qc;rcases h01 with e|e
  ·rw[e,if_pos rfl];exact⟨rfl,by decide,by decide⟩
  ·rw[e,if_neg ⋯,zvp ⋯];exact⟨rfl,by omega,by omega⟩
 exact⟨l,_,_,_,rfl,rfl,SqL.of q1,hat.1,h _ _ rfl hat.2.1 hat.2.2 s1⟩
abbrev Oy:Stmt:=top 79
theorem Bm:Zl ["_law_script","_law_k"] ["_law_script","_law_k"] (Zj Oy):=fnS
theorem Bn(F:Fun K "_law_cell" "_law_cell" Oy f fd)(T:Tx K mg a)(zlr:Z4 P w K mg base "_law_at" 1 ["_law_script","_law_k"] (Aa K))(zmv:Z4 P w K mg base "_law_mix" 1 ["_law_cell_here","_law_k"] zas):FnOk P w K mg base (CX1 P w) 2 f fd ["_law_script","_law_k"] (Cp K):=by
 refine F.okX Bm ⋯ fun _ _ _ _ H _ Q E hr h=>?_;obtain⟨b,ns,k,rfl,hS,hk,h⟩:=h;refine⟨_,(Zb (Z5 (Zn Xn (Zp Yp (pF zlr hr (Za (pv 0) (Za Zg Zd))) Zg) Zg (Zu _))
  (Zf (Zm (pF zmv hr (Za (pI (iL K) (pv 0) (pv 1)) (Za (pv 1) Zd)))))
  Zt)
 (Zf (Zm (pI (iL K) (pv 0) (pv 1))))),?_⟩
 have hk':(ns.map V.int)[k]?=some (.int (ns[k]'hk)):=by rw[ztj,ztb hk];rfl
 refine⟨_,rfl,b,ns,0,rfl,hS,_,_,rfl,rfl,(show (0:Int)<2 by decide),rfl,_,rfl,?_⟩;refine itB (fun _=>?_) (fun _=>?_)
 ·exact⟨_,rfl,_,rfl,b,_,_,_,rfl,rfl,hS,Yf hk',_,rfl,_,_,rfl,h _ H (Same.refl _)⟩
 ·exact⟨_,rfl,_,rfl,b,_,_,_,rfl,rfl,hS,Yf hk',h _ H (Same.refl _)⟩
def SB(m:Addr)(H H':Hp):Prop:=∀ b o,b≠m->H b=some o->H' b=some o
theorem SB.new{m t:Addr}{H H':Hp}{o:HO}(h:SB m H H')(ht:H' t=none):SB m H (upd H' t o):=fun b u e hb=>by
 have:=h b u e hb;rw[Zi (Zh this ht)];exact this
theorem SB.put{m:Addr}{H H':Hp}{o:HO}(h:SB m H H'):SB m H (upd H' m o):=fun b u e hb=>by
 rw[Zi e];exact h b u e hb
theorem zfu(f u:Nat):(HO.tup [V.int (2*(f:Int)),V.int (u:Int)])=.tup ((Xc (2*f,u)).map kV):=by
 show _=HO.tup [V.int ((2*f:Nat):Int),V.int (u:Int)];rw[show ((2*f:Nat):Int)=2*(f:Int) by omega]
theorem zdd(f u b:Nat):(HO.tup [V.int (2*(f:Int)+1),V.int ((u:Int)+((2 ^ b:Nat):Int))])=.tup ((Xc (2*f+1,u+2 ^ b)).map kV):=by
 show _=HO.tup [V.int ((2*f+1:Nat):Int),V.int ((u+2 ^ b:Nat):Int)];rw[show ((2*f+1:Nat):Int)=2*(f:Int)+1 by omega,show ((u+2 ^ b:Nat):Int)=(u:Int)+((2 ^ b:Nat):Int) from Int.natCast_add ..]
theorem zla{b:Nat}(h:b<7):0<2 ^ b/\2 ^ b<=64:=⟨Nat.two_pow_pos b,Nat.pow_le_pow_right ⋯ (show b<=6 by omega)⟩
theorem zde{N r:List Int}{b c:Nat}{p q:Nat×Nat}(h:zfl N r b p q)(e:b<=c):zfl N r c p q:=by
 rcases h with z|⟨d,n,h1,h2⟩
 ·exact .inl z
 ·exact .inr ⟨d,n,by omega,h2⟩
theorem zha(u b:Nat):decide (V.int ((u:Int)/((2 ^ b:Nat):Int)%2)=V.int 0)=decide (u/2 ^ b%2=0):=by
 have e:(u:Int)/((2 ^ b:Nat):Int)%2=((u/2 ^ b%2:Nat):Int):=by rw[Int.natCast_emod,Int.natCast_ediv];rfl
 rw[e];by_cases h:u/2 ^ b%2=0
 ·rw[h,ztf rfl];rfl
 ·rw[zth h,zth fun z=>h (by injection z with z;omega)]
abbrev Um:Stmt:=top 80
theorem Z2:Zl ["_law_may","_law_numbers_here","_law_ahead","_law_states","_law_k","_law_more","_law_filled_here","_law_used","_law_kept","_law_spot","_law_bit","_law_number","_law_best"] ["_law_may","_law_numbers_here","_law_ahead"] (Zj Um):=fnS
theorem M0(F:Fun K "_law_most_kept" "_law_most_kept" Um f fd)(T:Tx K mg a):FnOk P w K mg base (CX1 P w) 1 f fd ["_law_may","_law_numbers_here","_law_ahead"] (zbj K):=by
 refine F.okX Z2 ⋯ fun _ _ _ _ H _ Q E hr h=>?_;obtain⟨l,ln,la,ls,rows,N,ah,rfl,hl,il,hN,h7,h6,ha,hal,hnv,h⟩:=h;have hu:=Wq hr;refine⟨_,(Zb (pS 3 Z2.nd (zfk (Z7 (Za Zg (Za Zg Zd))) Zg hu))
 (Zb (Xf PassesOwn.leaving rfl (X9 rfl T.zmj (Za (Zs (cL K) (by rfl) T.zly PySem.boot_len (Za (pv 0) Zd)) Zd)) (pN 4 Z2.nd)
  (Zb (pS 5 Z2.nd O2)
  (Zb (Xf PassesOwn.leaving rfl (Yd (K:=K) rfl (Yj (Of rfl) (by rfl) T.zms PyProof.Rows.boot_list (Za (pv 3) Zd))) (Wd (K:=K) (n:=2) rfl rfl (Zy (pN 6 Z2.nd) (Zy (pN 7 Z2.nd) Wb)))
   (Zb (pS 8 Z2.nd (pD hu (pv 3) (Z7 (Za (pv 6) (Za (pv 7) Zd)))))
   (Zb (pS 9 Z2.nd (Z7 (Za (Zp Ug Zg (pv 6)) (Za (pv 7) Zd))))
   (Zb (Yn hu (pv 5) (pv 9) (Zs (Qu rfl) (by rfl) T.zpa PyProof.Rows.boot_max (Za (Ky hu (pv 5) (pv 9) Zg ⟨rfl,rfl,rfl,rfl⟩) (Za (Zp Yk (pv 8) (Yj Sb (by rfl) T.zpi PyProof.Rows.boot_int (Za (Wo Nw (pI (iL K) (pv 2) (pv 4)) Yz (Zu _)) Zd))) Zd))) rfl)
   (Zb (pS 10 Z2.nd Zg)
   (Zf (Xf PassesOwn.leaving rfl (Yd (K:=K) rfl (pv 1)) (pN 11 Z2.nd)
    (Zb (Z5 (PW.pt (Sn (Zn (Su (K:=K) rfl) (pv 11) (pI (iL K) (pv 0) (pv 4)) (by with_unfolding_all rfl)) (Td (Zn Xn (Zp Yp (Zp Y4 (pv 7) (pv 10)) Zg) Zg (Zu _)))))
     (Zb (pS 9 Z2.nd (Z7 (Za (Zp Yk (Zp Ug Zg (pv 6)) Zg) (Za (Zp Yk (pv 7) (pv 10)) Zd))))
     (Zf (Yn hu (pv 5) (pv 9) (Zs (Qu rfl) (by rfl) T.zpa PyProof.Rows.boot_max (Za (Ky hu (pv 5) (pv 9) Zg ⟨rfl,rfl,rfl,rfl⟩) (Za (Zp Yk (pv 8) (Yj Sb (by rfl) T.zpi PyProof.Rows.boot_int (Za (Wo Xn (pI (iL K) (pv 2) (pv 4)) (pv 11) (Zu _)) Zd))) Zd))) rfl)))
     Zt)
    (Zf (pS 10 Z2.nd (Zp Ug Zg (pv 10))))))))))))
  (Zf (pS 3 Z2.nd (pv 5))))))
 (Zb (pS 12 Z2.nd (Zs (G5 (K:=K) rfl rfl) (by rfl) T.zpa PyProof.Rows.boot_max (Za (K6 rfl (O8.mk (xo:=["_law_filled_here","_law_used"]) (ys:=[]) (js:=[]) rfl rfl ⋯ ⋯ rfl (by repeat' (first|exact True.intro|apply And.intro|rfl)) (by repeat' (first|exact True.intro|apply And.intro|rfl)) ⋯) (Yd (K:=K) rfl (Yj (Of rfl) (by rfl) T.zms PyProof.Rows.boot_list (Za (pv 3) Zd))) (fun _ _ _ _ _=>V5) (fun _ _ _ _ _=>(Wd (K:=K) (n:=2) rfl rfl (Zy (Uo (i:=0) (show List.Nodup [("_law_filled_here":Str),("_law_used":Str)] by decide +kernel) rfl (by first|exact Or.inl rfl|exact Or.inr rfl)) (Zy (Uo (i:=1) (show List.Nodup [("_law_filled_here":Str),("_law_used":Str)] by decide +kernel) rfl (by first|exact Or.inl rfl|exact Or.inr rfl)) Wb)))) (fun _ _ _ _ _=>(pv 0))) Zd)))
 (Zf (Zm (Z7 (Za (pv 12) (Za (Zs (G5 (K:=K) rfl rfl) (by rfl) T.zpa PyProof.Rows.boot_max (Za (Vh rfl (cT ["_law_states","_law_best"] [3,12]) (Yd (K:=K) rfl (Yj (Of rfl) (by rfl) T.zms PyProof.Rows.boot_list (Za (pv 3) Zd))) (fun _ _ _ _ _=>Qw (Zn Xn (pI (iU K) (pv 0) Zg) (pv 2) (Zu _))) (fun _ _ _ _ _=>(pD hu (pv 1) (pv 0)))) Zd)) Zd)))))))),?_⟩
 show let y1:TS:=_;let y2:TS:=Zw _ y1;let y3:TS:=Zw _ y2;let y4:TS:=Zw _ y3;let y5:TS:=_;let y6:TS:=Zw (zdl _ _ (Zw _ y4)) y5;let y7:TS:=_;let y8:TS:=Zw _ y7;let y9:TS:=Zw (zdl _ _ (Zw _ y6)) y8;Zw _ y9 _ _ _;intro y1 y2 y3 y4 y5 y6 y7 y8 y9;refine fun d hd=>⟨sz2,fun t0 ht0=>⟨t0,Xc (0,0),rfl,?_,Zc,?_⟩⟩
 ·rw[Zi (Zh Zc ht0)];exact Zc
 have s0:Same H (upd (upd (upd H d (.dT [])) t0 (.tup [V.int 0,V.int 0])) d (.dT [(Xc (0,0),V.int 0)])):=Z8 hd ((Ze hd).trans (Ze ht0));have q0:(upd (upd (upd H d (.dT [])) t0 (.tup [V.int 0,V.int 0])) d (.dT [(Xc (0,0),V.int 0)])) d=some (.dT (X1 [(0,0)] fun _=>0)):=Zc;generalize (upd (upd (upd H d (.dT [])) t0 (.tup [V.int 0,V.int 0])) d (.dT [(Xc (0,0),V.int 0)]))=H0 at s0 q0;have hll:(ls.map V.ref).length=rows.length:=by rw[zta];exact il.length
 refine⟨_,rfl,l,_,rfl,.inl (SqL.of (s0 _ _ hl)),_,rfl,by omega,by rw[hll];omega,?_⟩;rw[hll,ztv]
 let jv1:Nat->L2.St->Hp->Prop:=fun i σ' H'=>∃ (d:Addr) (ps:List (Nat×Nat)) (g:Nat×Nat->Nat) (v4 v5 v6 v7 v8 v9 v10 v11 v12:Option V),σ'=[some (.ref l),some (.ref ln),some (.ref la),some (.ref d),v4,v5,v6,v7,v8,v9,v10,v11,v12]/\Same H H'/\H' d=some (.dT (X1 ps g))/\KMax (fun q k=>StK N (rows.take i) (ah.take i) q.1 q.2 k) ps g/\ps.Nodup/\0<ps.length
 refine Wn jv1
  ⟨d,[(0,0)],fun _=>0,_,_,_,_,_,_,_,_,_,rfl,s0,q0,⟨fun q=>?_,fun q hq=>?_,fun q k hk=>?_⟩,ztz.mpr ⟨zud,zu5⟩,by decide⟩ ?_ ?_
 ·rw[List.take_zero,List.take_zero,zte];constructor
  ·rintro rfl;exact⟨0,.nil⟩
  ·rintro⟨k,z⟩;obtain⟨a,b,_⟩:=zbi.mp z;obtain⟨x,y⟩:=q;cases a;cases b;rfl
 ·cases zte.mp hq;exact .nil
 ·exact Nat.le_of_eq (zbi.mp hk).2.2
 ·rintro i σ' Ha hi ⟨d,ps,g,v4,v5,v6,v7,v8,v9,v10,v11,v12,rfl,sa,hda,hk,h8,hpos⟩;rw[zu8];obtain⟨r,hri⟩:∃ r,rows[i]?=some r:=⟨_,ztb hi⟩;obtain⟨v,hvi⟩:∃ v,ah[i]?=some v:=⟨_,ztb ⋯⟩;have hvn:=hnv v (ztn hvi);obtain⟨lr,hlr,hrl⟩:=il.getR hri;have hl':(ls.map V.ref)[i]?=some (.ref lr):=by rw[ztj,hlr];rfl
  have et:rows.take (i+1)=rows.take i++[r]:=by rw[zua,hri];rfl
  have ea:ah.take (i+1)=ah.take i++[v]:=by rw[zua,hvi];rfl
  have hlen:(rows.take i).length=i:=by rw[zu1];omega
  have hgi:∀ p∈ps,g p<=i:=fun p hp=>by have:=(hk.at_ p hp).le;omega
  have hin:∀ {q:Nat×Nat} {p:Nat×Nat},p∈ps->zfl N r 7 p q->StR N (rows.take i++[r]) q.1 q.2:=fun {q p} hp hq=>zfm.mpr ⟨p,(hk.at_ p hp).str,by rw[h7];exact hq⟩;have hrt:(rows.take i++[r]).length<=20:=by rw[ztc,hlen];simp only[ztt,zvh];omega
  refine fun m hm=>?_;have fm:H m=none:=sa.free hm;have s1:=sa.trans (Ze (o:=.dT []) hm);have q1:upd Ha m (.dT []) m=some (.dT (X1 [] g)):=Zc;have d1:=Ze (o:=.dT []) hm _ _ hda;generalize upd Ha m (.dT [])=H1 at s1 q1 d1;refine⟨_,rfl,d,_,rfl,.inl d1,fun lt ts tl hlt=>?_⟩;rw[Og] at tl;have tl2:=tl.same (Ze (o:=.lst ts) hlt);have s2:=s1.trans (Ze (o:=.lst ts) hlt);have q2:=Ze (o:=.lst ts) hlt _ _ q1;have d2:=Ze (o:=.lst ts) hlt _ _ d1;have l2:upd H1 lt (.lst ts) lt=some (.lst ts):=Zc;generalize upd H1 lt (.lst ts)=Hb at s2 q2 d2 l2 tl2;have htl:ts.length=ps.length:=by rw[tl2.length,zta]
  have nl:lt≠m:=Yo l2 q2 (fun z=>nomatch z);have nd:d≠m:=fun z=>by rw[z,hm] at hda;cases hda
  have keep:∀ {H':Hp} {b:Addr} {o:HO},SB m Hb H'->H b=some o->H' b=some o:=fun sb e=>sb _ _ (Zh e fm) (s2 _ _ e)
  let jv2:Nat->L2.St->Hp->Prop:=fun j σ' H'=>∃ (qs:List (Nat×Nat)) (g':Nat×Nat->Nat) (v6 v7 v8 v9 v10 v11:Option V),σ'=[some (.ref l),some (.ref ln),some (.ref la),some (.ref d),some (.int i),some (.ref m),v6,v7,v8,v9,v10,v11,v12]/\SB m Hb H'/\H' m=some (.dT (X1 qs g'))/\KMax (fun q k=>∃ j' p,j' < j/\ps[j']?=some p/\SucK N r v 7 p (g p) q k) qs g'/\qs.Nodup
  refine⟨lt,rfl,⟨_,SqL.of l2⟩,X6 (K:=K) (a:=lt) (xs:=ts) jv2
   ⟨[],g,_,_,_,_,_,_,rfl,fun _ _ _ e=>e,q2,⟨fun q=>by simp,fun q hq=>(by cases hq),fun q k hk=>(by obtain⟨_,_,h,_⟩:=hk;omega)⟩,zu5⟩ (fun j σ' H' _ z=>by obtain⟨_,_,_,_,_,_,_,_,_,sb,_⟩:=z;exact SqL.of (sb _ _ nl l2)) ?_ ?_⟩
  ·rintro j x σ' Hc hxj ⟨qs,g',v6,v7,v8,v9,v10,v11,rfl,sb,qm,hqs,hql⟩;obtain⟨t,rr,rfl,hrr,ht⟩:=tl2.get hxj;obtain⟨p,hp,rfl⟩:∃ p,ps[j]?=some p/\C8 p=rr:=by
    rw[ztj] at hrr;cases e:ps[j]? with
    | none=>rw[e] at hrr;cases hrr
    | some y=>rw[e] at hrr;exact⟨y,rfl,Option.some.inj hrr⟩
   obtain⟨f,u⟩:=p;have hj:j<ps.length:=Vx hp;have hpm:(f,u)∈ps:=ztn hp;have hg0:=hgi _ hpm;have hq8:qs.length<=888030:=Qh h7 hrt hql fun q hq=>by
    obtain⟨j',p,_,h2,h3⟩:=hqs.at_ q hq;exact hin (ztn h2) h3.sucB
   have tm:t≠m:=Yo ht q2 (fun z=>nomatch z);refine⟨t,_,rfl,SqT.of (sb _ _ tm ht),rfl,_,_,rfl,_,_,rfl,rfl,?_⟩;have dc:=sb _ _ nd d2;have hv:valV (X1 ps g) (Xc (f,u))=some (.int (g (f,u):Nat)):=by rw[Ju,if_pos hpm]
   refine⟨_,rfl,_,rfl,_,rfl,sz2,fun t1 ht1=>⟨d,_,rfl,hv▸DGet.t (k:=Xc (f,u)) (Ze ht1 _ _ dc) Zc,?_⟩⟩;have m1:t1≠m:=fun z=>by rw[z,qm] at ht1;cases ht1
   have sb1:SB m Hb (upd Hc t1 (.tup [V.int (f:Int),V.int (u:Int)])):=sb.new ht1;have qm1:=Ze (o:=.tup [V.int (f:Int),V.int (u:Int)]) ht1 _ _ qm;generalize upd Hc t1 (.tup [V.int (f:Int),V.int (u:Int)])=Hd at sb1 qm1;dsimp only;refine⟨_,rfl,_,_,rfl,rfl,.inl ⟨by decide,by decide⟩,_,rfl,sz2,fun t2 ht2=>?_⟩;have m2:t2≠m:=fun z=>by rw[z,qm1] at ht2;cases ht2
   have sb2:SB m Hb (upd Hd t2 (.tup [V.int (2*(f:Int)),V.int (u:Int)])):=sb1.new ht2;have qm2:=Ze (o:=.tup [V.int (2*(f:Int)),V.int (u:Int)]) ht2 _ _ qm1;have t2q:(upd Hd t2 (.tup [V.int (2*(f:Int)),V.int (u:Int)])) t2=some (.tup ((Xc (2*f,u)).map kV)):=by rw[Zc,zfu]
   generalize upd Hd t2 (.tup [V.int (2*(f:Int)),V.int (u:Int)])=He at sb2 qm2 t2q;dsimp only;refine⟨_,rfl,m,rfl,.inr ⟨_,.inl qm2⟩,_,rfl,_,DGet.t (k:=Xc (2*f,u)) qm2 t2q,_,rfl,?_⟩;refine⟨_,rfl,_,rfl,la,_,_,_,rfl,rfl,SqL.of (keep sb2 ha),Yf hvi,rfl,.inr ⟨_,rfl,_,_,rfl,rfl,((atK qs g' (2*f,u):Nat):Int),((g (f,u)+eq1 .non v:Nat):Int),?_,?_⟩⟩
   ·rw[Fo];show [V.int _,V.int ((g (f,u):Int)+(if decide (v=V.non)=true then 1 else 0))]=_;rw[Ew,<- Int.natCast_add]
   rw[zbk];refine⟨_,rfl,_,rfl,m,_,rfl,DPut.t (k:=Xc (2*f,u)) qm2 t2q (by rw[Fn,sizeLine_eq];omega),?_⟩;rw[Bc];have sb3:SB m Hb (upd He m (.dT (X1 (insP qs (2*f,u)) (setK g' (2*f,u) (max (atK qs g' (2*f,u)) (g (f,u)+eq1 .non v)))))):=sb2.put;have qm3:(upd He m (.dT (X1 (insP qs (2*f,u)) (setK g' (2*f,u) (max (atK qs g' (2*f,u)) (g (f,u)+eq1 .non v)))))) m=some (.dT (X1 (insP qs (2*f,u)) (setK g' (2*f,u) (max (atK qs g' (2*f,u)) (g (f,u)+eq1 .non v))))):=Zc;have k3:=hqs.putA (2*f,u) (g (f,u)+eq1 .non v);have n3:=zbg (p:=(2*f,u)) hql;generalize upd He m (.dT (X1 (insP qs (2*f,u)) (setK g' (2*f,u) (max (atK qs g' (2*f,u)) (g (f,u)+eq1 .non v)))))=Hf at sb3 qm3;generalize insP qs (2*f,u)=qs3 at qm3 k3 n3;generalize setK g' (2*f,u) (max (atK qs g' (2*f,u)) (g (f,u)+eq1 .non v))=g3 at qm3 k3;dsimp only
   let jv3:Nat->L2.St->Hp->Prop:=fun b σ' H'=>∃ (qs':List (Nat×Nat)) (g2:Nat×Nat->Nat) (v9 v11:Option V),σ'=[some (.ref l),some (.ref ln),some (.ref la),some (.ref d),some (.int i),some (.ref m),some (.int (f:Nat)),some (.int (u:Nat)),some (.int (g (f,u):Nat)),v9,some (.int (2 ^ b:Nat)),v11,v12]/\SB m Hb H'/\H' m=some (.dT (X1 qs' g2))/\KMax (fun q k=>(∃ j' p,j' < j/\ps[j']?=some p/\SucK N r v 7 p (g p) q k)\/SucK N r v b (f,u) (g (f,u)) q k) qs' g2/\qs'.Nodup
   refine⟨_,rfl,ln,rfl,⟨_,SqL.of (keep sb3 hN)⟩,X6 (K:=K) (a:=ln) (xs:=N.map V.int) jv3
    ⟨qs3,g3,_,_,rfl,sb3,qm3,k3.congr fun q k=>or_congr_right (zc4 (p:=(f,u))).symm,n3⟩ (fun b σ' H' _ z=>by obtain⟨_,_,_,_,_,sb',_⟩:=z;exact SqL.of (keep sb' hN)) ?_ ?_⟩
   ·rintro b x σ' Hg hxb ⟨qs',g2,v9',v11',rfl,sbe,qme,hqe,hle⟩;have hb7:b<7:=by have:=Vx hxb;rw[zta,h7] at this;exact this
    obtain⟨n,hn,rfl⟩:∃ n,N[b]?=some n/\V.int n=x:=by
     rw[ztj] at hxb;cases e:N[b]? with
     | none=>rw[e] at hxb;cases hxb
     | some y=>rw[e] at hxb;exact⟨y,rfl,Option.some.inj hxb⟩
    have hp7:=zla hb7;have hq9:qs'.length<=888030:=Qh h7 hrt hle fun q hq=>by
     rcases hqe.at_ q hq with ⟨j',p,_,h2,h3⟩|z
     ·exact hin (ztn h2) h3.sucB
     ·exact hin hpm (zde z.sucB ⋯)
    walk_at "if";have hi1:inV (V.int n) (r.map V.int)=decide (n∈r):=Kp
    let jv4:L2.St->Hp->Prop:=fun σ' H'=>∃ (qs2:List (Nat×Nat)) (g4:Nat×Nat->Nat) (v9:Option V),σ'=[some (.ref l),some (.ref ln),some (.ref la),some (.ref d),some (.int i),some (.ref m),some (.int (f:Nat)),some (.int (u:Nat)),some (.int (g (f,u):Nat)),v9,some (.int (2 ^ b:Nat)),some (.int n),v12]/\SB m Hb H'/\H' m=some (.dT (X1 qs2 g4))/\KMax (fun q k=>(∃ j' p,j' < j/\ps[j']?=some p/\SucK N r v 7 p (g p) q k)\/SucK N r v (b+1) (f,u) (g (f,u)) q k) qs2 g4/\qs2.Nodup
    refine M8 (b:=decide (n∈r)&&decide (u/2 ^ b%2=0)) jv4
     (fun Q k=>N7 (b:=decide (n∈r)) (c:=decide (u/2 ^ b%2=0)) (fun Q k=>⟨_,rfl,_,rfl,_,rfl,l,_,_,_,rfl,rfl,SqL.of (keep sbe hl),Yf hl',lr,_,rfl,.inl (SqL.of (keep sbe hrl)),rfl,G3 r,_,rfl,by rw[<- hi1] at k;exact k⟩) (fun Q k=>⟨_,rfl,_,rfl,_,_,rfl,rfl,⟨by omega,by omega⟩,_,_,rfl,rfl,(show (0:Int)<2 by decide),rfl,_,rfl,by rw[zha];exact k⟩) Q k)
     (fun hc N' hN'=>?_) (fun hc N' hN'=>Zz (hN' _ _ ⟨qs',g2,_,rfl,sbe,qme,hqe.congr fun q k=>or_congr_right ?_,hle⟩)) ?_
    ·have hc:=Bool.and_eq_true_iff.mp hc;have hnr:=of_decide_eq_true hc.1;have hbt:=of_decide_eq_true hc.2;refine⟨_,rfl,_,_,rfl,rfl,.inl ⟨by decide,by decide⟩,_,_,rfl,rfl,_,rfl,_,rfl,_,_,rfl,rfl,sz2,fun t2 ht2=>?_⟩;have m2:t2≠m:=fun z=>by rw[z,qme] at ht2;cases ht2
     have sb4:SB m Hb (upd Hg t2 (.tup [V.int (2*(f:Int)+1),V.int ((u:Int)+((2 ^ b:Nat):Int))])):=sbe.new ht2;have qm4:=Ze (o:=.tup [V.int (2*(f:Int)+1),V.int ((u:Int)+((2 ^ b:Nat):Int))]) ht2 _ _ qme;have t2q:(upd Hg t2 (.tup [V.int (2*(f:Int)+1),V.int ((u:Int)+((2 ^ b:Nat):Int))])) t2=some (.tup ((Xc (2*f+1,u+2 ^ b)).map kV)):=by rw[Zc,zdd]
     generalize upd Hg t2 (.tup [V.int (2*(f:Int)+1),V.int ((u:Int)+((2 ^ b:Nat):Int))])=Hh at sb4 qm4 t2q;dsimp only;refine⟨_,rfl,m,rfl,.inr ⟨_,.inl qm4⟩,_,rfl,_,DGet.t (k:=Xc (2*f+1,u+2 ^ b)) qm4 t2q,_,rfl,?_⟩;refine⟨_,rfl,_,rfl,la,_,_,_,rfl,rfl,SqL.of (keep sb4 ha),Yf hvi,_,rfl,?_⟩;have hsc:zfz v (.int n)=true:=by rcases hvn with z|⟨x,z⟩<;>rw[z]<;>rfl
     refine⟨hsc,.inr ⟨_,rfl,_,_,rfl,rfl,((atK qs' g2 (2*f+1,u+2 ^ b):Nat):Int),((g (f,u)+eq1 (.int n) v:Nat):Int),?_,?_⟩⟩
     ·rw[Fo];show [V.int _,V.int ((g (f,u):Int)+(if decide (v=V.int n)=true then 1 else 0))]=_;rw[Ew,<- Int.natCast_add]
     rw[zbk];refine⟨_,rfl,_,rfl,m,_,rfl,DPut.t (k:=Xc (2*f+1,u+2 ^ b)) qm4 t2q (by rw[Fn,sizeLine_eq];omega),?_⟩;rw[Bc];refine hN' _ _ ⟨_,_,_,rfl,sb4.put,Zc,(hqe.putA (2*f+1,u+2 ^ b) (g (f,u)+eq1 (.int n) v)).congr fun q k=>?_,zbg hle⟩;rw[Fl hn];constructor
     ·rintro((z|z)|⟨z,y⟩)
      ·exact .inl z
      ·exact .inr (.inl z)
      ·exact .inr (.inr ⟨hnr,hbt,z,y⟩)
     ·rintro(z|z|⟨_,_,z,y⟩)
      ·exact .inl (.inl z)
      ·exact .inl (.inr z)
      ·exact .inr ⟨z,y⟩
    ·rw[Fl hn];constructor
     ·exact .inl
     ·rintro(z|⟨h1,h2,_⟩)
      ·exact z
      ·rw[ztf h1,ztf h2] at hc;cases hc
    ·rintro σ' Hi ⟨qs2,g4,v9,rfl,sb2,qm2,hq2,hl2⟩;refine⟨_,rfl,_,_,rfl,rfl,.inl ⟨by decide,by decide⟩,qs2,g4,v9,some (.int n),?_,sb2,qm2,hq2,hl2⟩;rw[show ((2 ^ (b+1):Nat):Int)=2*((2 ^ b:Nat):Int) by rw[Nat.pow_succ];omega];rfl
   ·rintro σ' Hg ⟨qs',g2,v9',v11',rfl,sbe,qme,hqe,hle⟩;rw[zta,h7] at hqe;refine⟨qs',g2,_,_,_,_,_,_,rfl,sbe,qme,hqe.congr fun q k=>?_,hle⟩;constructor
    ·rintro(⟨j',p,h1,h2,h3⟩|z)
     ·exact⟨j',p,by omega,h2,h3⟩
     ·exact⟨j,_,by omega,hp,z⟩
    ·rintro⟨j',p,h1,h2,h3⟩;by_cases e:j'=j
     ·subst e;rw[hp] at h2;cases h2;exact .inr h3
     ·exact .inl ⟨j',p,by omega,h2,h3⟩
  ·rintro σ' Hc ⟨qs,g',v6,v7,v8,v9,v10,v11,rfl,sb,qm,hqs,hql⟩;rw[htl] at hqs;have hrow:KMax (fun q k=>StK N (rows.take i++[r]) (ah.take i++[v]) q.1 q.2 k) qs g':=hk.row (hqs.congr fun q k=>by
    rw[h7];constructor
    ·rintro⟨j',p,_,h2,h3⟩;exact⟨p,ztn h2,h3⟩
    ·rintro⟨p,h1,h3⟩;obtain⟨j',h2⟩:=List.getElem?_of_mem h1;exact⟨j',p,Vx h2,h2,h3⟩)
   rw[<- et,<- ea] at hrow;refine⟨_,rfl,m,qs,g',_,_,_,_,_,_,_,_,_,rfl,fun b o e=>keep sb e,qm,hrow,hql,?_⟩;obtain⟨p,hp⟩:∃ p,ps[0]?=some p:=⟨_,ztb hpos⟩;exact zvc ((hqs.mem (2*p.1,p.2)).mpr ⟨_,0,p,hpos,hp,.inl ⟨rfl,rfl⟩⟩)
 ·rintro σ' Ha ⟨d,ps,g,v4,v5,v6,v7,v8,v9,v10,v11,v12,rfl,sa,hda,hk,h8,hpos⟩;rw[ztq,<- hal,ztq] at hk;have h8':ps.length<=888030:=Qh h7 h6 h8 fun q hq=>(hk.at_ q hq).str;refine⟨_,rfl,d,_,rfl,.inl hda,fun lt ts tl hlt=>?_⟩;rw[Og] at tl;have tl2:=tl.same (Ze (o:=.lst ts) hlt);have s2:=sa.trans (Ze (o:=.lst ts) hlt);have d2:=Ze (o:=.lst ts) hlt _ _ hda;have l2:upd Ha lt (.lst ts) lt=some (.lst ts):=Zc;generalize upd Ha lt (.lst ts)=Hb at s2 d2 l2 tl2;have htl:ts.length=ps.length:=by rw[tl2.length,zta]
  refine⟨lt,rfl,⟨_,SqL.of l2⟩,Ja (K:=K) (xs:=ts) (fun i ys H'=>H'=Hb/\ys=((ps.take i).map fun p=>((p.1:Nat):Int)).map V.int) ⟨rfl,rfl⟩ (fun i ys H' _ ⟨e,_⟩=>by rw[e];exact SqL.of l2) (by rw[htl,sizeLine_eq];omega) (fun i ys H' ⟨_,e⟩=>by rw[e,zta,zta];exact zul _ _) ?_ ?_⟩
  ·rintro i x ys H' hx ⟨rfl,rfl⟩;obtain⟨t,rr,rfl,hrr,ht⟩:=tl2.get hx;obtain⟨p,hp,rfl⟩:∃ p,ps[i]?=some p/\C8 p=rr:=by
    rw[ztj] at hrr;cases e:ps[i]? with
    | none=>rw[e] at hrr;cases hrr
    | some y=>rw[e] at hrr;exact⟨y,rfl,Option.some.inj hrr⟩
   refine⟨t,_,rfl,SqT.of ht,rfl,_,_,rfl,_,_,rfl,rfl,⟨[some (.int (p.1:Nat)),some (.int (p.2:Nat))],rfl,rfl⟩,?_⟩;unfold tYes;dsimp only;rw[if_pos rfl];refine⟨_,rfl,rfl,?_⟩;rw[zua,hp,zti,zti];rfl
  ·rintro ys H' ⟨rfl,rfl⟩ lx hlx;rw[htl,ztq];refine⟨lx,ps.map fun p=>((p.1:Nat):Int),rfl,SqL.of Zc,by rw[zta];exact hpos,fun M hM hmax=>?_⟩;obtain⟨p0,hp0,rfl⟩:=ztk.mp hM;have htop:∀ f u k,StK N rows ah f u k->f<=p0.1:=fun f u k z=>by
    have:=hmax _ (ztk.mpr ⟨(f,u),(hk.mem (f,u)).mpr ⟨k,z⟩,rfl⟩);omega
   have s3:=s2.trans (Ze (o:=.lst ((ps.map fun p=>((p.1:Nat):Int)).map V.int)) hlx);have d3:=Ze (o:=.lst ((ps.map fun p=>((p.1:Nat):Int)).map V.int)) hlx _ _ d2;generalize upd H' lx (.lst ((ps.map fun p=>((p.1:Nat):Int)).map V.int))=Hc at s3 d3;walk_at "if";refine⟨_,rfl,_,rfl,d,_,rfl,.inl d3,fun lt2 ts2 tl3 hlt2=>?_⟩;rw[Og] at tl3;have tl4:=tl3.same (Ze (o:=.lst ts2) hlt2);have s4:=s3.trans (Ze (o:=.lst ts2) hlt2);have d4:=Ze (o:=.lst ts2) hlt2 _ _ d3;have l4:upd Hc lt2 (.lst ts2) lt2=some (.lst ts2):=Zc;generalize upd Hc lt2 (.lst ts2)=Hd at s4 d4 l4 tl4;have htl2:ts2.length=ps.length:=by rw[tl4.length,zta]
   refine⟨lt2,rfl,⟨_,SqL.of l4⟩,Xw (K:=K) (a:=lt2) (xs:=ts2) (fun i ys H'=>H'=Hd/\ys=(((ps.take i).filter fun p=>decide (p.1=p0.1)).map fun p=>((g p:Nat):Int)).map V.int) ⟨rfl,rfl⟩ (fun i ys H' _ ⟨e,_⟩=>by rw[e];exact SqL.of l4) (by rw[htl2,sizeLine_eq];omega) (fun i ys H' ⟨_,e⟩=>by rw[e,zta,zta];exact zts (zuf _ _) (zul _ _)) ?_ ?_⟩
   ·rintro i x ys H' hx ⟨rfl,rfl⟩;obtain⟨t,rr,rfl,hrr,ht⟩:=tl4.get hx;obtain⟨p,hp,rfl⟩:∃ p,ps[i]?=some p/\C8 p=rr:=by
     rw[ztj] at hrr;cases e:ps[i]? with
     | none=>rw[e] at hrr;cases hrr
     | some y=>rw[e] at hrr;exact⟨y,rfl,Option.some.inj hrr⟩
    have hpm:p∈ps:=ztn hp;have hv:valV (X1 ps g) (Xc p)=some (.int (g p:Nat)):=by rw[Ju,if_pos hpm]
    have hys:∀ ys',(((ps.take (i+1)).filter fun p=>decide (p.1=p0.1)).map fun p=>((g p:Nat):Int)).map V.int=(((ps.take i).filter fun p=>decide (p.1=p0.1)).map fun p=>((g p:Nat):Int)).map V.int++ys'↔ys'=if decide (p.1=p0.1)=true then [V.int (g p:Nat)] else []:=fun ys'=>by
     rw[zua,hp,zu0,zti,zti,zvm];show List.map V.int (List.map _ (List.filter _ [p]))=ys'↔_;rw[zum];by_cases q:decide (p.1=p0.1)=true
     ·rw[if_pos q,if_pos q];exact eq_comm
     ·rw[if_neg q,if_neg q];exact eq_comm
    have hde:decide (V.int ((p.1:Nat):Int)=V.int ((p0.1:Nat):Int))=decide (p.1=p0.1):=by
     by_cases q:p.1=p0.1
     ·rw[q,ztf rfl,ztf rfl]
     ·rw[zth q,zth fun z=>q (by injection z with z;omega)]
    refine⟨_,rfl,t,_,_,_,rfl,rfl,SqT.of ht,(show atI (C8 p) 0=some (V.int ((p.1:Nat):Int)) from rfl),_,rfl,rfl,_,rfl,?_⟩;rw[hde];refine itB (fun hb=>?_) (fun hb=>?_)
    ·refine⟨_,rfl,_,rfl,d,_,rfl,hv▸DGet.t (k:=Xc p) d4 ht,rfl,?_⟩;exact((hys _).mpr (by rw[hb];rfl)).symm
    ·refine⟨rfl,?_⟩;have:=(hys []).mpr (by rw[hb];rfl);rw[zvf] at this;exact this.symm
   ·rintro ys H' ⟨rfl,rfl⟩ ly hly;rw[htl2,ztq];refine⟨ly,(ps.filter fun p=>decide (p.1=p0.1)).map fun p=>((g p:Nat):Int),rfl,SqL.of Zc,by rw[zta];exact zvc (ztw.mpr ⟨hp0,ztf rfl⟩),fun M hM hmax=>⟨sz2,fun tt htt=>?_⟩⟩;obtain⟨p1,hp1,rfl⟩:=ztk.mp hM;obtain⟨hp1,he1⟩:=ztw.mp hp1;have he1:=of_decide_eq_true he1;have s5:=s4.trans (Ze (o:=.lst (((ps.filter fun p=>decide (p.1=p0.1)).map fun p=>((g p:Nat):Int)).map V.int)) hly);refine h p0.1 (g p1) tt _ ⟨⟨p1.2,by rw[<- he1];exact hk.at_ p1 hp1⟩,htop,fun u k z=>?_⟩ Zc (s5.free htt) (s5.trans (Ze htt));have hm2:=(hk.mem (p0.1,u)).mpr ⟨k,z⟩;have h1:=hk.top (p0.1,u) k z;have h2:=hmax _ (ztk.mpr ⟨(p0.1,u),ztw.mpr ⟨hm2,ztf rfl⟩,rfl⟩);omega
abbrev Wt:Stmt:=top 81
theorem Xa:Zl ["_law_page","_law_ahead","_law_found","_law_numbers_here","_law_may","_law_kept","_law_k"] ["_law_page","_law_ahead","_law_found","_law_numbers_here"] (Zj Wt):=fnS
theorem Qt(F:Fun K "_law_touched_least" "_law_touched_least" Wt f fd)(T:Tx K mg a)(znl:Z4 P w K mg base "_law_open" 2 ["_law_page"] (Am K))(znm:Z4 P w K mg base "_law_is_filling" 2 ["_law_may","_law_given"] (Ld K))(zo4:Z4 P w K mg base "_law_filled" 1 ["_law_given"] (C7 K))(znw:Z4 P w K mg base "_law_most_kept" 1 ["_law_may","_law_numbers_here","_law_ahead"] (zbj K)):FnOk P w K mg base (CX1 P w) 3 f fd ["_law_page","_law_ahead","_law_found","_law_numbers_here"] (Fp K):=by
 refine F.okX Xa ⋯ fun _ _ _ _ H _ Q E hr h=>?_;obtain⟨ok,d,la,lf,ln,P0,ms,ah,gs,N,rfl,PA,PO,hms,h20,hpl,hla,hlf,hln,h7,nd,hsub,hal,hnv,FP,SP,hmx,h⟩:=h;refine⟨_,(Zb (pS 4 Xa.nd (pF znl hr (Za (pv 0) Zd)))
 (Zb (Z5 (Ts (Ue (pF znm hr (Za (pv 4) (Za (pv 2) Zd)))))
  (Zf (Zm T9))
  Zt)
 (Zb (pS 5 Xa.nd Zg)
 (Zb (Xf PassesOwn.leaving rfl (X9 rfl T.zmj (Za (Zs (cL K) (by rfl) T.zly PySem.boot_len (Za (pv 4) Zd)) Zd)) (pN 6 Xa.nd)
  (Zf (pS 5 Xa.nd (Zp Yk (pv 5) (Yj Sb (by rfl) T.zpi PyProof.Rows.boot_int (Za (Wo Xn (pI (iL K) (pv 2) (pv 6)) (pI (iL K) (pv 1) (pv 6)) (Zu _)) Zd))))))
 (Zf (Zm (Wo (zaq (K:=K) rfl hr.units) (Z7 (Za (pF zo4 hr (Za (pv 2) Zd)) (Za (pv 5) Zd))) (pF znw hr (Za (pv 4) (Za (pv 3) (Za (pv 1) Zd)))) (Zu _)))))))),?_⟩
 refine⟨_,rfl,ok,d,P0,ms,rfl,PA,PO,hms,by omega,hpl,fun lw ls H1 hlw ilw s1 flw _=>?_⟩;have hrl:(mayP P0 ms).length=ms.length:=by unfold mayP;rw[zta]
 have hgl:gs.length=ms.length:=FP.len.trans hrl;refine⟨_,rfl,_,rfl,lw,lf,ls,mayP P0 ms,gs,rfl,hlw,ilw,by omega,s1 _ _ hlf,FP,fun H2 s2=>⟨true,rfl,?_⟩⟩;refine iteF ?_;have s12:=s1.trans s2;have hw2:=s2 _ _ hlw;have il2:=ilw.same s2;have hll:(ls.map V.ref).length=ms.length:=by rw[zta,ilw.length,hrl]
 refine⟨_,rfl,lw,_,rfl,.inl (SqL.of hw2),_,rfl,by omega,by rw[hll];omega,?_⟩;rw[hll,ztv]
 let jv1:Nat->L2.St->Hp->Prop:=fun i σ H'=>(∃ v6,σ=[some (.ref d),some (.ref la),some (.ref lf),some (.ref ln),some (.ref lw),some (.int (agree (gs.take i) (ah.take i):Nat)),v6])/\Same H2 H'
 refine Wn jv1 ⟨⟨_,rfl⟩,Same.refl _⟩ ?_ ?_
 ·rintro i σ H' hi ⟨⟨v6,rfl⟩,sm⟩;rw[zu8];obtain⟨x,hx⟩:∃ x,gs[i]?=some x:=⟨_,ztb ⋯⟩;obtain⟨y,hy⟩:∃ y,ah[i]?=some y:=⟨_,ztb ⋯⟩;have hone:=FP.one _ (ztn hx);have hyn:=hnv _ (ztn hy);have hsc:zfz x y=true:=by rcases hone with z|⟨n,z⟩<;>rcases hyn with w|⟨m,w⟩<;>rw[z,w]<;>rfl
  have s3:=s12.trans sm;refine⟨_,rfl,_,rfl,_,rfl,lf,_,_,_,rfl,rfl,SqL.of (s3 _ _ hlf),Yf hx,_,rfl,_,rfl,la,_,_,_,rfl,rfl,SqL.of (s3 _ _ hla),Yf hy,hsc,.inr ⟨_,rfl,_,_,rfl,rfl,?_⟩⟩;rw[Ew,zfr];refine⟨⟨some (.int (i:Nat)),?_⟩,sm⟩;have e1:gs.take (i+1)=gs.take i++[x]:=by rw[zua,hx];rfl
  have e2:ah.take (i+1)=ah.take i++[y]:=by rw[zua,hy];rfl
  rw[e1,e2,U2 (by rw[zu1,zu1];omega)];rw[Int.natCast_add];rfl
 ·rintro σ H' ⟨⟨v6,rfl⟩,sm⟩;rw[<- hgl,ztq,hgl,<- hal,ztq];have s3:=s12.trans sm;refine⟨_,rfl,lf,gs,rfl,s3 _ _ hlf,FP.one,by omega,fun H3 s4=>?_⟩;have s5:=s3.trans s4;refine⟨_,rfl,sz2,fun t ht=>?_⟩;have s6:=s5.trans (Ze (o:=.tup [V.int (binV 0 gs:Nat),V.int (agree gs ah:Nat)]) ht);have q6:(upd H3 t (.tup [V.int (binV 0 gs:Nat),V.int (agree gs ah:Nat)])) t=some (.tup [V.int (binV 0 gs:Nat),V.int (agree gs ah:Nat)]):=Zc;have w6:=((sm.trans s4).trans (Ze (o:=.tup [V.int (binV 0 gs:Nat),V.int (agree gs ah:Nat)]) ht)) _ _ hw2;have i6:=il2.same ((sm.trans s4).trans (Ze (o:=.tup [V.int (binV 0 gs:Nat),V.int (agree gs ah:Nat)]) ht));generalize upd H3 t (.tup [V.int (binV 0 gs:Nat),V.int (agree gs ah:Nat)])=H6 at s6 q6 w6 i6;refine⟨_,rfl,_,rfl,_,rfl,lw,ln,la,ls,mayP P0 ms,N,ah,rfl,w6,i6,s6 _ _ hln,h7,by omega,s6 _ _ hla,by omega,hnv,fun best kept t2 H7 hM ht2 f2 s7=>?_⟩;obtain⟨hb,hk⟩:=zfp nd hsub ⋯ FP SP hmx hM;subst hb;subst hk;refine⟨.tup [.int (binV 0 gs:Nat),.int (agree gs ah:Nat)],.tup [.int (binV 0 gs:Nat),.int (agree gs ah:Nat)],.tup (SqT.of (s7 _ _ q6)) (.cons (.int _) (.cons (.int _) .nil)),.tup (SqT.of ht2) (.cons (.int _) (.cons (.int _) .nil)),rfl,rfl,?_⟩;rw[if_neg (show ¬ false=true by decide),Dv];exact h H7 (s6.trans s7)
abbrev Fq:Stmt:=top 82
theorem Vs:Zl ["_law_script","_law_mixed","_law_season","_law_pool_here","_law_pages","_law_k","_law_deed_here","_law_ahead","_law_page","_law_at_here","_law_found","_law_falls"] ["_law_script"] (Zj Fq):=fnS
theorem zje(F:Fun K "law" "law" Fq f fd)(T:Tx K mg a)(zlr:Z4 P w K mg base "_law_at" 1 ["_law_script","_law_k"] (Aa K))(zqz:Tt P w K mg base "Season" a.zli 3 ["self","rounds","rest"] (za4 (ca a)))(zo8:Z4 P w K mg base "_law_rest" 2 ["_law_script"] (Co K))(zn4:Z4 P w K mg base "_law_rounds" 2 ["_law_script"] (Jf K))(zpp:Z4 P w K mg base "_law_pool" 2 ["_law_script","_law_crowd"] (Cq K))(zpc:Z4 P w K mg base "_law_first" 1 ["_law_rounds_here","_law_rest_here"] za9)(zoa:Z4 P w K mg base "_law_enrolled" 9 ["_law_season","_law_pages","_law_deeds"] (Jo K (ca a)))(zo6:Z4 P w K mg base "_law_people" 2 ["_law_script","_law_pool_here"] (Jn K))(zpo:Z4 P w K mg base "_law_deed" 3 ["_law_pages","_law_cell_here","_law_pool_here","_law_most","_law_mixed"] (C3 K))(zpn:Z4 P w K mg base "_law_cell" 2 ["_law_script","_law_k"] (Cp K))(zow:Z4 P w K mg base "_law_do" 8 ["_law_season","_law_deed_here"] (zi4 K (ca a)))(zm8:Z4 P w K mg base "_law_paged" 3 ["_law_pages","_law_deed_here"] (Em K))(zoo:Zv P w K mg base a.zli "goes" 4 ["self","at"] (ze4 (ca a)))(zm2:Z4 P w K mg base "_law_touched_least" 3 ["_law_page","_law_ahead","_law_found","_law_numbers_here"] (Fp K))(zov:Z4 P w K mg base "_law_list_is" 3 ["_law_found","_law_due"] (Dx K))(zmt:Z4 P w K mg base "_law_one_is" 2 ["_law_found","_law_due"] Ea)(zlk:Zv P w K mg base a.zli "at_hand" 2 ["self"] (Ub (ca a))):FnOk P w K mg base (CX1 P w) 10 f fd ["_law_script"] (zau K):=by
 refine F.okX Vs ⋯ fun _ _ _ _ H _ Q E hr h=>?_;obtain⟨b,ns,rfl,hS,hlen,h⟩:=h;have hu:=Wq hr;refine⟨_,(Zb (pS 1 Vs.nd (Zp Yp (pF zlr hr (Za (pv 0) (Za Zg Zd))) Zg))
 (Zb (pS 2 Vs.nd (F6 zqz (hr.mono ⋯) Zk rfl (Za (pF zn4 hr (Za (pv 0) Zd)) (Za (pF zo8 hr (Za (pv 0) Zd)) Zd))))
 (Zb (pS 3 Vs.nd (pF zpp hr (Za (pv 0) (Za Zg Zd))))
 (Zb (pS 4 Vs.nd (Z9 (Za (pF zpc hr (Za (pF zn4 hr (Za (pv 0) Zd)) (Za (pF zo8 hr (Za (pv 0) Zd)) Zd))) Zd)))
 (Zb (pS 4 Vs.nd (pF zoa hr (Za (pv 2) (Za (pv 4) (Za (pF zo6 hr (Za (pv 0) (Za (pv 3) Zd))) Zd)))))
 (Zb (Xf PassesOwn.leaving rfl (zbq rfl T.zmj (Za Zg (Za (Zs (Gm rfl) (by rfl) T.zq4 PyProof.Rows.boot_min (Za Zg (Za (Zs (cL K) (by rfl) T.zly PySem.boot_len (Za (pv 0) Zd)) Zd))) Zd))) (pN 5 Vs.nd)
  (Zb (Z5 (Zn Xn (Zs (cL K) (by rfl) T.zly PySem.boot_len (Za (pD hu (pI (iL K) (pv 4) (O1 Sr Zg)) Zo) Zd)) (pD hu (pI (iL K) (pv 4) (O1 Sr Zg)) Zo) (Zu _))
   (Zf zdi)
   Zt)
  (Zb (pS 6 Vs.nd (pF zpo hr (Za (pv 4) (Za (pF zpn hr (Za (pv 0) (Za (pv 5) Zd))) (Za (pv 3) (Za Zg (Za (pv 1) Zd)))))))
  (Zb (pS 7 Vs.nd (pD hu (pI (iL K) (pv 4) (O1 Sr Zg)) Zo))
  (Zb (Z6 (pF zow hr (Za (pv 2) (Za (pv 6) Zd))))
  (Zb (pS 4 Vs.nd (pF zm8 hr (Za (pv 4) (Za (pv 6) Zd))))
  (Zb (pS 8 Vs.nd (pI (iL K) (pv 4) (O1 Sr Zg)))
  (Zf (Z5 (Zn W9 (pD hu (pv 8) Zo) Yz (Zu _))
   (Zb (pS 9 Vs.nd (Zp Yk (Zs (cL K) (by rfl) T.zly PySem.boot_len (Za (pD hu (pv 8) Zo) Zd)) Zg))
   (Zb (pS 10 Vs.nd (Xy (pv 2) T.zlj zoo (hr.mono ⋯) Zk (Za (pv 9) Zd)))
   (Zb (pS 11 Vs.nd (Fu (Wo Xn (pI (iU K) (pv 6) Zg) Zo (Zu _)) (Fu (Wo Xn (pI (iU K) (pv 6) Zg) (pv 9) (Zu _)) (Bp (Wo (Su (K:=K) rfl) (pI (iU K) (pv 6) Zg) (pv 7) (by with_unfolding_all rfl))))))
   (Zb (Z5 (PW.pt (Sn (Ue (pv 11)) (Td (Ts (Ue (pF zm2 hr (Za (pv 8) (Za (pv 7) (Za (pv 10) (Za (pI (iU K) (pv 3) Zg) Zd))))))))))
    (Zf (Zm T9))
    Zt)
   (Zb (Z5 (PW.pt (Sn (Zn Xn (pI (iU K) (pv 6) Zg) Zo (Zu _)) (Sn (Ts (Ue (pv 11))) (Td (Ts (Ue (pF zov hr (Za (pv 10) (Za (pv 7) Zd)))))))))
    (Zf (Zm T9))
    Zt)
   (Zf (Yn hu (pv 8) Zo (Yj (Xq (K:=K) rfl) (by rfl) T.zms PyProof.Rows.boot_list (Za (pv 10) Zd)) rfl)))))))
   Zt)))))))))
 (Zf (Zm (pF zmt hr (Za (Yr (pv 2) T.zlj zlk (hr.mono ⋯) Zk) (Za (Zp Yk (Zs (cL K) (by rfl) T.zly PySem.boot_len (Za (pD hu (pI (iL K) (pv 4) (O1 Sr Zg)) Zo) Zd)) Zg) Zd))))))))))),?_⟩
 show let y1:TS:=_;let y2:TS:=Zw _ y1;let y3:TS:=Zw _ y2;let y4:TS:=Zw _ y3;let y5:TS:=Zw _ y4;let y6:TS:=(E9 _ (Zw _ y5) _);let y7:TS:=Zw _ y6;let y8:TS:=Zw _ y7;let y9:TS:=Zw _ y8;let y10:TS:=Zw _ y9;let y11:TS:=Zw _ y10;let y12:TS:=_;let y13:TS:=Zw (zdl _ _ (Zw _ y11)) y12;let y14:TS:=Zw _ y13;let y15:TS:=Zw _ y14;let y16:TS:=Zw _ y15;let y17:TS:=Zw _ y16;Zw _ y17 _ _ _;intro y1 y2 y3 y4 y5 y6 y7 y8 y9 y10 y11 y12 y13 y14 y15 y16 y17;refine⟨_,rfl,b,ns,0,rfl,hS,_,_,rfl,rfl,(show (0:Int)<2 by decide),?_⟩;obtain⟨mx,hmx,hmx1⟩:∃ mx:Nat,Y8 ns 0%2=(mx:Int)/\mx<=1:=⟨(Y8 ns 0%2).toNat,by omega,by omega⟩;walk_at "if";rw[hmx];refine⟨_,rfl,b,ns,rfl,hS,fun rr H1 hrr hr1 hr60 s1=>?_⟩;refine⟨_,rfl,b,ns,rfl,s1.seq hS,fun rq H2 hrq hq10 s2=>?_⟩;have s12:=s1.trans s2;have hS2:=s12.seq hS;intro p0 dx0 hp0 hdx0 ne0;refine⟨p0,dx0,rr,rq,rfl,Zc,Yx ⋯ ⋯,Yx ⋯ ⋯,?_⟩;rw[if_neg ⋯,if_neg ⋯];intro A1 H4 hAp SA4 k4 f4;rw[ztv,ztv] at SA4;have s4:Same H2 H4:=fun x o e=>k4 x o (by rw[Zi (Zh e hp0),Zi (Zh e hdx0)];exact e) (Zh e hp0);have ff:∀ x∈A1.fp,H2 x=none:=fun x hx=>by
  by_cases z:x=p0
  ·rw[z];exact hp0
  ·have:=f4 x hx z;rw[Zi z] at this;by_cases w:x=dx0
   ·rw[w];exact hdx0
   ·rw[Zi w] at this;exact this
 have SC4:Ro K A1 H4 b (ns.map V.int):=.make hS2 A1 H4 s4 ff;clear f4 k4;subst hAp;refine⟨rfl,?_⟩;walk_at "if";refine⟨_,rfl,b,ns,7,rfl,SC4.sq,by decide,by decide,fun t lc ln cs nu H6 PL hnu s6 ft flc fln=>?_⟩;have SA6:=SA4.same s6;have SC6:=SC4.fr (.of s6);have no5:=SA4.newOk;have PO6:Ls A1 H6 t lc ln cs nu:=⟨PL,no5 _ ft,no5 _ flc,no5 _ fln⟩;walk_at "if";refine⟨_,rfl,b,ns,rfl,SC6.sq,fun rr' H7 hrr' _ _ s7=>?_⟩;have SC7:=SC6.fr (.of s7);refine⟨_,rfl,b,ns,rfl,SC7.sq,fun rq' H8 hrq' _ s8=>?_⟩;cases (hrr'.trans hrr.symm);cases (hrq'.trans hrq.symm);refine⟨rr,rq,rfl,fun d9 H9 pg9 s9 fd9=>⟨(by show 1<=sizeLine;rw[sizeLine_eq];decide),fun l10 fl10=>?_⟩⟩;have SC9:=((SC7.fr (.of s8)).fr (.of s9));have SA9:=((SA6.same s7).same s8).same s9;have PO9:=((PO6.fr (.of s7)).fr (.of s8)).fr (.of s9);have no8:=((SA6.same s7).same s8).newOk;have F9:=Au (mb:=false) (nu:=nu) (n:=0) (pg9.imp (ok':=(·∉A1.fp)) fun x _ hx=>no8 x hx) hr60 hq10;have s10:=Ze (o:=.lst [.ref d9]) fl10;have q10:=Zc (H:=H9) (a:=l10) (o:=.lst [.ref d9]);have o10:=SA9.newOk _ fl10;walk_at "if";generalize upd H9 l10 (.lst [.ref d9])=H10 at s10 q10 ⊢;have SA10:=SA9.same s10;have SC10:=SC9.fr (.of s10);have PO10:=PO9.fr (.of s10);have F10:=F9.same s10;show Zw _ _ _ [some (.ref b),some (.int mx),some (.ref A1.p),some (.ref t),some (.ref l10),none,none,none,none,none,none,none] H10;clear SA9 SC9 PO9 F9 SA6 SC6 PO6 PL SC7 SC4 SA4 no5 no8 pg9 hS hS2 s12;have nfew:=PO10.at_.nfew;refine⟨_,rfl,_,rfl,_,rfl,_,rfl,b,t,lc,ln,ns,cs,nu,rfl,SC10.sq,PO10.at_,fun le ts es H11 hle tl en el eok s11 fle=>?_⟩;have SA11:=SA10.same s11;have nd11:(es.map (·.1)).Nodup:=by rw[en];exact PO10.at_.nnd.sublist (List.take_sublist _ _)
 refine⟨false,A1,l10,le,ts,es,[],d9,_,_,nu,0,rfl,SA11,s11 _ _ q10,o10,F10.same s11,hle,SA10.newOk _ fle,tl,nd11,fun x hx=>?_,(by show 0+es.length<=30;omega),by omega,rfl,(by show 0<rr;omega),fun A2 l2 ds2 d2 P2 S2 H12 SA12 hl12 ho12 F12 f12 hc12 he12 hn12=>?_⟩
 ·obtain⟨x1,x2,x3⟩:=eok x hx;have hxn:x.1∈nu:=by
   have:x.1∈es.map (·.1):=ztk.mpr ⟨x,hx,rfl⟩;rw[en] at this;exact List.mem_of_mem_take this
  refine⟨hxn,?_,nofun⟩;have:=PO10.at_.nrng _ hxn;have:=PO10.at_.crng _ x3;unfold badI;omega
 have SC12:=(SC10.fr (.of s11)).fr f12;have PO12:=(PO10.fr (.of s11)).fr f12;have hAp:=f12.p;walk_at "if";refine⟨_,rfl,b,_,rfl,.inl SC12.sq,?_⟩;rw[zta];refine⟨_,_,rfl,6,_,rfl,⟨by omega,by omega,by split<;>omega,by split<;>omega⟩,?_⟩;obtain⟨N0,hN0,hN1⟩:∃ N0:Nat,((if (ns.length:Int)<63 then (ns.length:Int) else 63)-6).toNat=N0/\∀ i:Nat,i<N0->6+i<ns.length:=⟨_,rfl,fun i hi=>by split at hi<;>omega⟩;have hN57:N0<=57:=by rw[<- hN0];split<;>omega
 rw[hN0]
 let jv1:Nat->L2.St->Hp->Prop:=fun i σ H'=>∃ A2 l2 ds2 d2 P2 S2 v6 v7 v8 v9 v10 v11 v12,σ=[some (.ref b),some (.int mx),some (.ref A1.p),some (.ref t),some (.ref l2),v6,v7,v8,v9,v10,v11,v12]/\Zx (ca a) H' A2 S2/\H' l2=some (.lst ((ds2++[d2]).map V.ref))/\l2∉A2.fp/\Us false (·∉A2.fp) H' nu (30+i) ds2 d2 P2 S2/\Ro K A2 H' b (ns.map V.int)/\Ls A2 H' t lc ln cs nu/\A2.p=A1.p
 refine Et jv1
  ⟨A2,l2,ds2,d2,P2,S2,_,_,_,_,_,_,_,rfl,SA12,hl12,ho12,⟨F12.pg,F12.re,F12.so.mono ⋯,?_⟩,SC12,PO12,hAp⟩ ?_ ?_
 ·obtain⟨nd,e|⟨S0,bb,rr'⟩⟩:=F12.tl
  ·exact⟨nd,.inl e⟩
  ·exact⟨nd,.inr ⟨S0,bb.mono ⋯,rr'⟩⟩
 ·rintro N hN i σ H1 hi ⟨A2,l2,ds2,d2,P2,S2,v6,v7,v8,v9,v10,v11,v12,rfl,SA,hl2,ho2,F,SC,PO,eAp⟩;have hki:=hN1 i hi;have e6:(6:Int)+(i:Int)=((6+i:Nat):Int):=by omega
  rw[e6];walk_at "if";obtain⟨lp,lo,lv,dv,li,lg,lm,a1,PB,okd⟩:=id F.pg.split;have hat:atI ((ds2++[d2]).map V.ref) (-1)=some (V.ref d2):=by rw[zti];exact L2.atI_last _ _
  obtain⟨vts,u1,u2,u3⟩:=PB.vv;have hvl:(vts.length:Int)=(P2.over.length:Int):=by rw[u2.length]
  refine Px (Vd (b:=decide (V.int (P2.over.length:Int)=V.int (P2.len:Int))) (fun Q q=>⟨_,rfl,_,rfl,l2,_,_,_,rfl,rfl,SqL.of hl2,hat,d2,_,rfl,DGet.k (k:=.inr "over") a1,lv,vts,rfl,.inl (SqL.of u1),_,rfl,_,rfl,l2,_,_,_,rfl,rfl,SqL.of hl2,hat,d2,_,rfl,DGet.k (k:=.inr "rounds") a1,rfl,_,rfl,by rw[hvl];exact q⟩) (itB (fun _=>hN i _ _ ⟨A2,l2,ds2,d2,P2,S2,_,_,_,_,_,_,_,rfl,SA,hl2,ho2,F,SC,PO,eAp⟩) (fun hb=>Zz ?_)));have hlt:P2.over.length<P2.len:=by
   have h1:=F.re.b.olen;have h2:=F.so.olen;have h3:=F.so.len;have h4:=F.re.b.len;have h5:=of_decide_eq_false hb;have h6:P2.over.length≠P2.len:=fun z=>h5 (by rw[z]);omega
  dsimp only;refine⟨_,rfl,_,rfl,_,rfl,b,ns,6+i,rfl,SC.sq,hki,fun cell H2 s2=>?_⟩;have s3:=s2;refine⟨_,rfl,_,rfl,(·∉A2.fp),l2,t,lc,ln,ds2,d2,P2,cell,cs,nu,6,mx,rfl,s3 _ _ hl2,F.pg.same s3,PO.at_.same s3,by decide,hmx1,hlt,(by rw[F.re.b.ppl];have:=F.so.few;omega),fun t' D H4 hD gD s4 ft'=>?_⟩;have s34:=s3.trans s4;have SA4:=SA.same s34;have F4:=F.same s34;have SC4:=SC.fr (.of s34);have PO4:=PO.fr (.of s34);have hD4:=zg3 (SA.same s3) hD;have g:=zg2 F.re.b F.so gD hlt ⋯ ⟨nfew.2,PO.at_.nrng⟩ PO.at_.crng F.back;have hkn:∀ k gr c,D=.enrol k gr c->k∈nu:=fun k gr c z=>by rw[z] at gD;exact gD.2.1
  walk_at "if";obtain⟨gg1,gg2⟩:=PB.gg;refine⟨_,rfl,_,rfl,l2,_,_,_,rfl,rfl,SqL.of (s34 _ _ hl2),hat,d2,_,rfl,DGet.k (k:=.inr "goes") (s34 _ _ a1),?_⟩;walk_at "if";obtain⟨w1,w2,w3,w4,w5,w6,w7,w8,w9,w10⟩:=F4.pre g ⋯;refine⟨_,rfl,_,rfl,A2,S2,t',D,(by rw[<- eAp];rfl),SA4,hD4,g,w1,w2,w3,w4,w5,w6,w7,w8,w9,w10,fun v' A3 S3 H5 af SA5 nx fr _=>?_⟩;have f5:=FrN.next SA4 nx fr;obtain⟨c1,c2,c3,c4,c5⟩:=F4.pre2 g ⋯
  dsimp only;refine⟨_,rfl,_,rfl,(·∉A3.fp),l2,t',ds2,d2,P2,D,rfl,(f5.k _ _ (s34 _ _ hl2) ho2).1,F4.pg.fr f5,hD4.fr f5,c1,c2,c3,c4,c5,fun l6 d6 H6 hl6 pg6 s6 fl6 fd6=>?_⟩;obtain⟨ds7,d7,P7,ek,Pe,eP,eR⟩:=turn F4 SA4 af SA5 nx fr g hkn pg6 s6 fd6;have SA6:=SA5.same s6;have o6:=SA5.newOk _ fl6;have SC6:=(SC4.fr f5).fr (.of s6);have PO6:=(PO4.fr f5).fr (.of s6);have eAp6:=f5.p.trans eAp;rw[ek] at hl6;have hat7:atI ((ds7++[d7]).map V.ref) (-1)=some (V.ref d7):=by rw[zti];exact L2.atI_last _ _
  walk_at "if";refine⟨_,rfl,_,rfl,l6,_,_,_,rfl,rfl,SqL.of hl6,hat7,?_⟩;walk_at "if";obtain⟨lp7,lo7,lv7,dv7,li7,lg7,lm7,y1,y2,y3⟩:=id Pe.pg.split;have hls:=y2.li.some;refine Vd (b:=P7.lis.isSome) (fun Q q=>⟨_,rfl,d7,_,rfl,DGet.k (k:=.inr "listed") y1,rfl,_,rfl,by rw[hls];exact q⟩) (itB (fun hb=>?_) (fun hb=>Zz ?_))
  rotate_left
  ·have hno:P7.lis=none:=by
    cases hq:P7.lis with
    | none=>rfl
    | some ms=>rw[hq] at hb;cases hb
   have hcn:=Pe.rb.undrawn hno;have eN:30+i+1=30+(i+1):=by omega
   rw[eN] at Pe;exact⟨A3,l6,ds7,d7,P7,S3,_,_,_,_,_,_,_,rfl,SA6,hl6,o6,Pe.full (fun s hs=>by rw[hcn] at hs;cases hs) (fun z=>nomatch z),SC6,PO6,eAp6⟩
  have hD6:=(hD4.fr f5).same s6;obtain⟨rw6,hw6⟩:=hD6.word;have hw0:atI (V.str (C4 D) :: rw6) 0=some (V.str (C4 D)):=Yf (j:=0) rfl;have hg6:H6 lg=some (.lst P2.gv):=s6 _ _ (f5.k _ _ (s34 _ _ gg1) gg2).1;obtain⟨ms,hms⟩:=zuv.mp hb;obtain⟨sh,hcur,hshm⟩:=Pe.rb.drawn hms;subst hshm;obtain⟨k1,k2,k3,k4,k5⟩:=Pe.so.cur sh hcur;obtain⟨vts7,z1,z2,z3⟩:=y2.vv;have hvl7:(vts7.length:Int)+1=atV S3:=by rw[z2.length];exact Pe.rb.at Pe.so
  have hpl7:P7.ppl.length<=100:=by rw[Pe.rb.ppl];have:=Pe.so.few;omega
  have hml:sh.may.length=sh.ms.length:=by rw[k4];unfold mayS;rw[zta]
  have hgl:sh.gv.length=sh.may.length:=k2.len;have re2:=F4.re;have so2:=F4.so;clear SA F SA4 F4 SC4 PO4 SC PO hD4 hD;refine⟨_,rfl,d7,_,rfl,DGet.k (k:=.inr "over") y1,lv7,vts7,rfl,.inl (SqL.of z1),_,_,rfl,rfl,?_⟩;walk_at "if";rw[hvl7];obtain⟨⟨dx7,vv7,ob7,_⟩,_⟩:=id SA6;rw[eAp6] at ob7;refine⟨_,rfl,A1.p,dx7,_,rfl,ob7,Yq ⋯,_,rfl,A3,S3,atV S3,(by rw[eAp6];rfl),SA6,zi9 Pe.so hcur fun lf H8 hlf s8 flf=>?_⟩;walk_at "if";have hw8:=s8 _ _ hw6;have hg8:=s8 _ _ hg6;have SA8:=SA6.same s8;have Pe8:=Pe.same s8;have PO8:=PO6.fr (.of s8);have haw:∀ i0 n0,D=.away i0 n0->∃ s0,S2.cur=some s0/\P2.gv=s0.gv/\sh.ms=s0.ms/\((sh.gv=s0.gv/\(i0≠atV S3\/∀ j:Nat,s0.gv[j]?≠some (.int n0)))\/(i0=atV S3/\(∀ r∈mayS S3 s0.ms,n0∉r)/\∃ p e st w',s0.gv[p]?=some (.int n0)/\Y1 (mayS S3 s0.ms) (s0.gv.set p .non) p st e w'/\sh.gv=Yg st (s0.gv.set p .non))):=fun i0 n0 eD=>by
   subst eD;cases af with
   | @awayN _ _ l hc hl =>
     have hcur:S2.cur=some sh:=hcur;refine⟨sh,hcur,re2.gv sh hcur,rfl,.inl ⟨rfl,.inl ?_⟩⟩;rcases hc with z|z
     ·rw[z] at hcur;cases hcur
     ·show i0≠atV S2;omega
   | @awayF _ s l hc hp hl =>
     have hc2:some { s with may:=mayS (Xe S2 (atV S2) n0) s.ms }=some sh:=hcur;cases hc2;refine⟨s,hc,re2.gv s hc,rfl,.inl ⟨rfl,.inr ?_⟩⟩;rcases Lb s.gv n0 with z|⟨i,z,_⟩
     ·exact z.2
     ·rw[hp] at z;cases z
   | @awayC _ s p e l us st w0 hc hp hl tl CR =>
     have hc2:some (⟨s.ms,mayS (Xe S2 (atV S2) n0) s.ms,Yg st (s.gv.set p .non),s.gaps++[(n0,st)]⟩:Z1)=some sh:=hcur;cases hc2;refine⟨s,hc,re2.gv s hc,rfl,.inr ⟨rfl,fun r hr hx=>?_,p,e,st,w0,S4 hp,CR,rfl⟩⟩;have hr:r∈mayS (Xe S2 (atV S2) n0) s.ms:=hr;rw[Uc] at hr;obtain⟨r0,_,rfl⟩:=ztk.mp hr;exact absurd rfl (of_decide_eq_true (ztw.mp hx).2)
  have hfal:∃ f:Bool,(∀ {X:VK},X (.bl f) H8->(zdg (tOp rEq (tOp (zby K) (Ft 6) (tC (V.int 0))) (tC (V.str "away"))) (zdg (tOp rEq (tOp (zby K) (Ft 6) (tC (V.int 1))) (Ft 9)) (tOp (rIn K false) (tOp (zby K) (Ft 6) (tC (V.int 2))) (Ft 7)))) [some (V.ref b),some (V.int ↑mx),some (V.ref A1.p),some (V.ref t),some (V.ref l6),some (V.int ↑(6+i)),some (V.ref t'),some (V.ref lg),some (V.ref d7),some (V.int (atV S3)),some (V.ref lf),v12] H8 X) /\
    (f=true->∃ i0 n0 s0,D=.away i0 n0/\S2.cur=some s0/\P2.gv=s0.gv/\sh.ms=s0.ms/\(∀ r∈mayS S3 s0.ms,n0∉r)/\∃ p e st w',s0.gv[p]?=some (.int n0)/\Y1 (mayS S3 s0.ms) (s0.gv.set p .non) p st e w'/\sh.gv=Yg st (s0.gv.set p .non)) /\
    (f=false->∀ i0 n0,D=.away i0 n0->sh.gv=P2.gv):=by
   by_cases hw:∃ i0 n0,D=.away i0 n0
   ·obtain⟨i0,n0,rfl⟩:=hw;have ht8:H8 t'=some (.tup [.str "away",.int i0,.int n0]):=s8 _ _ hD6;obtain⟨s0,e1,e2,e3,hc⟩:=haw i0 n0 rfl;have hone:=(so2.cur s0 e1).2.1.one;have fl:P2.gv.all Te=true:=zva.mpr fun x hx=>by rcases hone x (by rw[<- e2];exact hx) with rfl|⟨_,rfl⟩<;>rfl
    have key:=@D3 P2.gv n0 (by rw[e2];exact hone);refine⟨decide (i0=atV S3)&&inV (.int n0) P2.gv,fun {X} q=>?_,fun hf=>?_,fun hf i1 n1 eD=>?_⟩
    ·refine⟨_,rfl,t',_,_,_,rfl,rfl,SqT.of ht8,rfl,rfl,_,rfl,?_⟩;rw[show decide (V.str ("away":Str)=V.str "away")=true from ztf rfl];refine iteT ⟨_,rfl,t',_,_,_,rfl,rfl,SqT.of ht8,rfl,_,rfl,rfl,_,rfl,?_⟩;by_cases hi:i0=atV S3
     ·rw[ztf hi,Bool.true_and] at q;rw[ztf (congrArg V.int hi)];exact iteT ⟨_,rfl,t',_,_,_,rfl,rfl,SqT.of ht8,rfl,_,rfl,lg,P2.gv,rfl,.inl (SqL.of hg8),rfl,fl,q⟩
     ·rw[zth hi,Bool.false_and] at q;rw[zth (fun z=>hi (V.int.inj z))];exact iteF q
    ·obtain⟨f1,f2⟩:=Bool.and_eq_true_iff.mp hf;rcases hc with ⟨_,z|z⟩|⟨_,z,r⟩
     ·exact absurd (of_decide_eq_true f1) z
     ·obtain⟨j,hj⟩:=key.mp f2;rw[e2] at hj;exact absurd hj (z j)
     ·exact⟨i0,n0,s0,rfl,e1,e2,e3,z,r⟩
    ·cases eD;rcases hc with ⟨z,_⟩|⟨z,_,p,e,st,w',g1,_⟩
     ·rw[e2];exact z
     ·rw[ztf z,Bool.true_and,key.mpr ⟨p,by rw[e2];exact g1⟩] at hf;cases hf
   ·refine⟨false,fun {X} q=>?_,nofun,fun _ i0 n0 eD=>absurd ⟨i0,n0,eD⟩ hw⟩;refine⟨_,rfl,t',_,_,_,rfl,rfl,SqT.of hw8,hw0,rfl,_,rfl,?_⟩;rw[zbb hw];exact iteF q
  obtain⟨f,hf0,hf1,hf2⟩:=hfal;refine hf0 ?_;walk_at "if"
  let jv2:L2.St->Hp->Prop:=fun σ' Hy=>σ'=[some (V.ref b),some (V.int ↑mx),some (V.ref A1.p),some (V.ref t),some (V.ref l6),some (V.int ↑(6+i)),some (V.ref t'),some (V.ref lg),some (V.ref d7),some (V.int (atV S3)),some (V.ref lf),some (.bl f)]/\Same H8 Hy
  refine O7 (b:=false) jv2 (fun Q q=>?_) (fun z=>nomatch z) (fun _ H1 s1 N hN=>Zz (hN _ _ ⟨rfl,s1⟩)) ?_
  ·refine⟨_,rfl,f,rfl,?_⟩;cases f with
   | false=>exact iteF (q _ (.refl _))
   | true =>
     obtain⟨i0,n0,s0,eD,e1,e2,e3,e4,p,e,st,w',g1,CR,g2⟩:=hf1 rfl;have em:=Pe.rb.may Pe.so sh.ms;obtain⟨x1,x2,x3,x4,x5⟩:=so2.cur s0 e1;have hl0:s0.gv.length=sh.ms.length:=by rw[e3,x2.len,x4];unfold mayS;rw[zta]
     have hm3:(mayS S3 sh.ms).length=sh.ms.length:=by unfold mayS;rw[zta]
     refine iteT ⟨_,rfl,_,rfl,_,rfl,_,rfl,t,_,_,_,rfl,rfl,SqT.of PO8.at_.tup,rfl,(·∉A3.fp),d7,lg,lf,ln,P7,sh.ms,P2.gv,sh.gv,nu,rfl,Pe8.pg,Pe.rb.ovok Pe.so,hms,k1,hpl7,hg8,hlf,PO8.at_.nums,hnu,PO8.at_.nnd,fun r hr x hx=>?_,by rw[e2];exact hl0,by rw[e2];exact x2.one,by rw[em,<- k4];exact k2,by rw[em,<- k4];exact k3,fun hs F hb=>?_,fun H' s'=>⟨true,rfl,q _ s'⟩⟩
     ·rw[em] at hr;unfold mayS at hr;obtain⟨m,_,rfl⟩:=ztk.mp hr;unfold Jb at hx;obtain⟨y,hy,rfl⟩:=ztk.mp hx;exact(Pe.so.ppl y (ztw.mp hy).1).1
     ·rw[em,e3] at F;rw[g2] at hb ⊢;rw[e2];exact Hj F (by rw[hl0,<- hm3,e3]) g1 e4 CR hb
  rintro σ2 H9 ⟨rfl,s9⟩
  let jv3:L2.St->Hp->Prop:=fun σ' Hy=>σ'=[some (V.ref b),some (V.int ↑mx),some (V.ref A1.p),some (V.ref t),some (V.ref l6),some (V.int ↑(6+i)),some (V.ref t'),some (V.ref lg),some (V.ref d7),some (V.int (atV S3)),some (V.ref lf),some (.bl f)]/\Same H9 Hy
  refine O7 (b:=false) jv3 (fun Q q=>?_) (fun z=>nomatch z) (fun _ H1 s1 N hN=>Zz (hN _ _ ⟨rfl,s1⟩)) ?_
  ·refine⟨_,rfl,t',_,_,_,rfl,rfl,SqT.of (s9 _ _ hw8),hw0,rfl,_,rfl,?_⟩;by_cases hw:∃ i0 n0,D=.away i0 n0
   ·obtain⟨i0,n0,eD⟩:=hw;rw[eD,Fh];refine iteT ⟨_,rfl,f,rfl,?_⟩;cases f with
    | true=>exact iteF (q _ (.refl _))
    | false =>
      have eg:=hf2 rfl i0 n0 eD;exact iteT ⟨_,rfl,_,rfl,lf,lg,sh.gv,rfl,s9 _ _ hlf,SqL.of (by rw[eg];exact s9 _ _ hg8),k2.one,by omega,true,rfl,q _ (.refl _)⟩
   ·rw[zbb hw];exact iteF (q _ (.refl _))
  rintro σ2 H10 ⟨rfl,s10⟩;have s810:=s9.trans s10;refine⟨_,rfl,lf,_,rfl,.inl (SqL.of (s810 _ _ hlf)),fun lg' flg=>?_⟩;have s13:=s810.trans (Ze (o:=.lst sh.gv) flg);have q13:=Zc (H:=H10) (a:=lg') (o:=.lst sh.gv);have o13:=(SA8.same s810).newOk _ flg;generalize upd H10 lg' (.lst sh.gv)=H13 at s13 q13 ⊢;have SA13:=SA8.same s13;obtain⟨kvs,b1,b2,F14⟩:=(Pe8.same s13).goes q13 o13 (fun s hs=>by rw[hcur] at hs;cases hs;rfl) (fun z=>nomatch z);have s613:=s8.trans s13;refine⟨_,rfl,d7,_,rfl,DPut.k (k:=.inr "goes") b1 b2,?_⟩;have eN:30+i+1=30+(i+1):=by omega
  rw[eN] at F14;exact⟨A3,l6,ds7,d7,_,S3,_,_,_,_,_,_,_,rfl,SA13.dictW b1 y3,(Xj.dict b1).1 _ _ (s613 _ _ hl6),o6,F14,(SC6.fr (.of s613)).dictW b1,(PO6.fr (.of s613)).dictW b1,eAp6⟩
 ·rintro i σ H1 ⟨A2,l2,ds2,d2,P2,S2,v6,v7,v8,v9,v10,v11,v12,rfl,SA,hl2,ho2,F,SC,PO,eAp⟩;obtain⟨lp,lo,lv,dv,li,lg,lm,a1,PB,okd⟩:=id F.pg.split;have hat:atI ((ds2++[d2]).map V.ref) (-1)=some (V.ref d2):=by rw[zti];exact L2.atI_last _ _
  obtain⟨vts,u1,u2,u3⟩:=PB.vv;obtain⟨⟨dx2,vv2,ob2,_⟩,_⟩:=id SA;rw[eAp] at ob2;refine⟨_,rfl,A1.p,dx2,_,rfl,ob2,Yq ⋯,A2,S2,(by rw[eAp];rfl),SA,?_⟩;refine⟨_,rfl,_,rfl,l2,_,_,_,rfl,rfl,SqL.of hl2,hat,d2,_,rfl,DGet.k (k:=.inr "over") a1,lv,vts,rfl,.inl (SqL.of u1),_,_,rfl,rfl,?_⟩;have hvl:(vts.length:Int)+1=atV S2:=by rw[u2.length];exact F.re.b.at F.so
  dsimp only;rw[hvl];exact⟨_,rfl,.inr ⟨_,rfl⟩,h H1⟩
end
end K41
namespace K41
open PySem PySem.Spec PyProof.Rows L2 G PySem.W
theorem zjf{l:OpenLaw}{w:World}{K:Frag}{h:Heap}{mg:Str->Option Value}{fa zo2 zl0 zmd zl3 zl7 zl8 znj zna zmi zm5 zmr zmk zod zno zlw zme zll zlm zln zli f0 f1 f2 f3 f4 f5 f6 f7 f8 f9 f10 f11 f12 f13 f14 f15 f16 f17 f18 f19 f20 f21 f22 f23 f24 f25 f26 f27 f28 f29 f30 f31 f32 f33 f34 f35 f36 f37 f38 f39 f40 f41 f42 f43 f44 f45 f46 f47 f48 f49 f50 f51 f52 f53 f54 f55 f56 f57 f58 f59 f60 f61 f62 f63 f64 f65 f66 f67 f68 f69 f70 f71 f72 f73 f74 f75 f76 f77 f78 f79:Addr}{tk0 tk1 tk2 tk3 tk4 tk5 tk6 tk7:Tok}{u0 n0 u1 n1 u2 n2 u3 n3 u4 n4 u5 n5 u6 n6 u7 n7 u8 n8 u9 n9 u10 n10 u11 n11 u12 n12 u13 n13 u14 n14 u15 n15 u16 n16 u17 n17 u18 n18 u19 n19 u20 n20 u21 n21 u22 n22 u23 n23 u24 n24 u25 n25 u26 n26 u27 n27 u28 n28 u29 n29 u30 n30 u31 n31 u32 n32 u33 n33 u34 n34 u35 n35 u36 n36 u37 n37 u38 n38 u39 n39 u40 n40 u41 n41 u42 n42 u43 n43 u44 n44 u45 n45 u46 n46 u47 n47 u48 n48 u49 n49 u50 n50 u51 n51 u52 n52 u53 n53 u54 n54 u55 n55 u56 n56 u57 n57 u58 n58 u59 n59 u60 n60 u61 n61 u62 n62 u63 n63 u64 n64 u65 n65 u66 n66 u67 n67 u68 n68 u69 n69 u70 n70 u71 n71 u72 n72 u73 n73 u74 n74 u75 n75 u76 n76 u77 n77 u78 n78 u79 n79:Option Addr}{z0 z1 z2 z3 z4 z5 z6 z7 z8 z9 z10 z11 z12 z13 z14 z15 z16 z17 z18 z19 z20 z21 z22 z23 z24 z25 z26 z27 z28 z29 z30 z31 z32 z33 z34 z35 z36 z37 z38 z39 z40 z41 z42 z43 z44 z45 z46 z47 z48 z49 z50 z51 z52 z53 z54 z55 z56 z57 z58 z59 z60 z61 z62 z63 z64 z65 z66 z67 z68 z69 z70 z71 z72 z73 z74 z75 z76 z77 z78 z79:Array (Option Value)}{o0 v0 d0 m0 c0 t0 o1 v1 d1 m1 c1 t1 o2 v2 d2 m2 c2 t2 o3 v3 d3 m3 c3 t3 o4 v4 d4 m4 c4 t4 o5 v5 d5 m5 c5 t5 o6 v6 d6 m6 c6 t6 o7 v7 d7 m7 c7 t7 o8 v8 d8 m8 c8 t8 o9 v9 d9 m9 c9 t9 o10 v10 d10 m10 c10 t10 o11 v11 d11 m11 c11 t11 o12 v12 d12 m12 c12 t12 o13 v13 d13 m13 c13 t13 o14 v14 d14 m14 c14 t14 o15 v15 d15 m15 c15 t15 o16 v16 d16 m16 c16 t16 o17 v17 d17 m17 c17 t17 o18 v18 d18 m18 c18 t18 o19 v19 d19 m19 c19 t19 o20 v20 d20 m20 c20 t20 o21 v21 d21 m21 c21 t21 o22 v22 d22 m22 c22 t22 o23 v23 d23 m23 c23 t23 o24 v24 d24 m24 c24 t24 o25 v25 d25 m25 c25 t25 o26 v26 d26 m26 c26 t26 o27 v27 d27 m27 c27 t27 o28 v28 d28 m28 c28 t28 o29 v29 d29 m29 c29 t29 o30 v30 d30 m30 c30 t30 o31 v31 d31 m31 c31 t31 o32 v32 d32 m32 c32 t32 o33 v33 d33 m33 c33 t33 o34 v34 d34 m34 c34 t34 o35 v35 d35 m35 c35 t35 o36 v36 d36 m36 c36 t36 o37 v37 d37 m37 c37 t37 o38 v38 d38 m38 c38 t38 o39 v39 d39 m39 c39 t39 o40 v40 d40 m40 c40 t40 o41 v41 d41 m41 c41 t41 o42 v42 d42 m42 c42 t42 o43 v43 d43 m43 c43 t43 o44 v44 d44 m44 c44 t44 o45 v45 d45 m45 c45 t45 o46 v46 d46 m46 c46 t46 o47 v47 d47 m47 c47 t47 o48 v48 d48 m48 c48 t48 o49 v49 d49 m49 c49 t49 o50 v50 d50 m50 c50 t50 o51 v51 d51 m51 c51 t51 o52 v52 d52 m52 c52 t52 o53 v53 d53 m53 c53 t53 o54 v54 d54 m54 c54 t54 o55 v55 d55 m55 c55 t55 o56 v56 d56 m56 c56 t56 o57 v57 d57 m57 c57 t57 o58 v58 d58 m58 c58 t58 o59 v59 d59 m59 c59 t59 o60 v60 d60 m60 c60 t60 o61 v61 d61 m61 c61 t61 o62 v62 d62 m62 c62 t62 o63 v63 d63 m63 c63 t63 o64 v64 d64 m64 c64 t64 o65 v65 d65 m65 c65 t65 o66 v66 d66 m66 c66 t66 o67 v67 d67 m67 c67 t67 o68 v68 d68 m68 c68 t68 o69 v69 d69 m69 c69 t69 o70 v70 d70 m70 c70 t70 o71 v71 d71 m71 c71 t71 o72 v72 d72 m72 c72 t72 o73 v73 d73 m73 c73 t73 o74 v74 d74 m74 c74 t74 o75 v75 d75 m75 c75 t75 o76 v76 d76 m76 c76 t76 o77 v77 d77 m77 c77 t77 o78 v78 d78 m78 c78 t78 o79 v79 d79 m79 c79 t79:Value}(X:K.In h)(G:h.Ns mainGlobals mg)(hfa:mg "law"=some (.ref fa))
  (zpe:NsB K "BookError" zo2)
  (zn1:NsB K "OutOfRange" zl0)
  (znb:NsB K "KnownReferee" zmd)
  (zmn:NsB K "TooManyReferees" zl3)
  (zmx:NsB K "UnknownReferee" zl7)
  (zmy:NsB K "TooManyMatches" zl8)
  (zo0:NsB K "SameClub" znj)
  (zou:NsB K "NoSuchMatch" zna)
  (zns:NsB K "NoSuchRound" zmi)
  (zok:NsB K "RoundOver" zm5)
  (zn3:NsB K "SeasonOver" zmr)
  (znq:NsB K "AwayAlready" zmk)
  (zpf:NsB K "DrawnUp" zod)
  (zoy:NsB K "NotDrawn" zno)
  (zmg:NsB K "NothingToTakeBack" zlw)
  (znf:NsB K "TooManyDeeds" zme)
  (zps:NsB K "Ledger" zll)
  (zpw:NsB K "Roster" zlm)
  (zqm:NsB K "Sheet" zln)
  (zpv:NsB K "Season" zli)
  (zp9:plainGet K zll Str.empty=true)
  (zqc:hasDictIn K zll=true)
  (zqb:plainOver K zll=true)
  (zp6:findIn K (.ref zll) "__setattr__"=some (some (.builtin "object.__setattr__")))
  (zqf:makesIn K zll=true)
  (zp7:keepIn K (.ref zll)=true)
  (znv:findIn K (.ref zll) "rounds"=some none)
  (zmo:findIn K (.ref zll) "meetings"=some none)
  (zqh:plainGet K zlm Str.empty=true)
  (zql:hasDictIn K zlm=true)
  (zpy:plainOver K zlm=true)
  (zqi:findIn K (.ref zlm) "__setattr__"=some (some (.builtin "object.__setattr__")))
  (zp2:makesIn K zlm=true)
  (zqa:keepIn K (.ref zlm)=true)
  (zmb:findIn K (.ref zlm) "entries"=some none)
  (zqw:plainGet K zln Str.empty=true)
  (zq0:hasDictIn K zln=true)
  (zqv:plainOver K zln=true)
  (zqr:findIn K (.ref zln) "__setattr__"=some (some (.builtin "object.__setattr__")))
  (zqt:makesIn K zln=true)
  (zq1:keepIn K (.ref zln)=true)
  (znc:findIn K (.ref zln) "listed"=some none)
  (zpu:findIn K (.ref zln) "lists"=some none)
  (znr:findIn K (.ref zln) "given"=some none)
  (zpd:findIn K (.ref zln) "gaps"=some none)
  (zqe:plainGet K zli Str.empty=true)
  (zp1:hasDictIn K zli=true)
  (zqd:plainOver K zli=true)
  (zqk:findIn K (.ref zli) "__setattr__"=some (some (.builtin "object.__setattr__")))
  (zpx:makesIn K zli=true)
  (zp5:keepIn K (.ref zli)=true)
  (zoe:findIn K (.ref zli) "length"=some none)
  (zqg:findIn K (.ref zli) "rest"=some none)
  (zml:findIn K (.ref zli) "roster"=some none)
  (zmp:findIn K (.ref zli) "ledger"=some none)
  (zng:findIn K (.ref zli) "absent"=some none)
  (zn6:findIn K (.ref zli) "sheets"=some none)
  (zl5:findIn K (.ref zli) "sheet"=some none)
  (zmf:findIn K (.ref zli) "standing"=some none)
  (zo1:XcB K zl0)
  (znp:XcB K zl8)
  (zpk:XcB K znj)
  (zn9:XcB K zmd)
  (znd:XcB K zl3)
  (zni:XcB K zl7)
  (zox:XcB K zmr)
  (zp8:XcB K zod)
  (zop:XcB K zmi)
  (zn5:XcB K zme)
  (zpj:XcB K zno)
  (zo9:XcB K zm5)
  (zon:XcB K zmk)
  (zm1:XcB K zlw)
  (zpa:NzB K "max")
  (zly:NzB K "len")
  (zpq:NzB K "tuple")
  (zms:NzB K "list")
  (znt:NzB K "enumerate")
  (zmj:NzB K "range")
  (zq7:NzB K "zip")
  (zmc:NzB K "isinstance")
  (zpi:NzB K "int")
  (zqs:NzB K "bool")
  (zqx:NzB K "dict")
  (zq4:NzB K "min")
  (zm4:nsIn K mainGlobals "MOST_NUMBER"=some (some (.int 999 tk0)))
  (zmu:nsIn K mainGlobals "MOST_GRADE"=some (some (.int 9 tk1)))
  (zmq:nsIn K mainGlobals "MOST_CLUB"=some (some (.int 99 tk2)))
  (zma:nsIn K mainGlobals "MOST_REFEREES"=some (some (.int 30 tk3)))
  (zmh:nsIn K mainGlobals "MOST_MATCHES"=some (some (.int 20 tk4)))
  (zm3:nsIn K mainGlobals "MOST_ROUNDS"=some (some (.int 60 tk5)))
  (znu:nsIn K mainGlobals "MOST_REST"=some (some (.int 10 tk6)))
  (zmz:nsIn K mainGlobals "MOST_DEEDS"=some (some (.int 100 tk7)))
  (l0:LN K "met_lately" "met_lately" S6 f0 o0 v0 d0 m0 c0 t0 u0 n0 z0)
  (l1:LN K "reasons" "reasons" Mj f1 o1 v1 d1 m1 c1 t1 u1 n1 z1)
  (l2:LN K "takers" "takers" J1 f2 o2 v2 d2 m2 c2 t2 u2 n2 z2)
  (l3:LM K zll "__init__" "Ledger.__init__" Vj f3 o3 v3 d3 m3 c3 t3 u3 n3 z3)
  (l4:LM K zll "write" "Ledger.write" U3 f4 o4 v4 d4 m4 c4 t4 u4 n4 z4)
  (l5:LM K zll "over" "Ledger.over" Tu f5 o5 v5 d5 m5 c5 t5 u5 n5 z5)
  (l6:LM K zll "met" "Ledger.met" S7 f6 o6 v6 d6 m6 c6 t6 u6 n6 z6)
  (l7:LN K "check_range" "check_range" Tv f7 o7 v7 d7 m7 c7 t7 u7 n7 z7)
  (l8:LN K "check_count" "check_count" Tw f8 o8 v8 d8 m8 c8 t8 u8 n8 z8)
  (l9:LN K "check_ranges" "check_ranges" U4 f9 o9 v9 d9 m9 c9 t9 u9 n9 z9)
  (l10:LN K "check_clubs" "check_clubs" Tz f10 o10 v10 d10 m10 c10 t10 u10 n10 z10)
  (l11:LN K "checked" "checked" Ml f11 o11 v11 d11 m11 c11 t11 u11 n11 z11)
  (l12:LM K zlm "__init__" "Roster.__init__" Vl f12 o12 v12 d12 m12 c12 t12 u12 n12 z12)
  (l13:LM K zlm "check_new" "Roster.check_new" W3 f13 o13 v13 d13 m13 c13 t13 u13 n13 z13)
  (l14:LM K zlm "check_known" "Roster.check_known" Wl f14 o14 v14 d14 m14 c14 t14 u14 n14 z14)
  (l15:LM K zlm "add" "Roster.add" S8 f15 o15 v15 d15 m15 c15 t15 u15 n15 z15)
  (l16:LM K zlm "strike" "Roster.strike" Ui f16 o16 v16 d16 m16 c16 t16 u16 n16 z16)
  (l17:LM K zlm "numbers" "Roster.numbers" Vz f17 o17 v17 d17 m17 c17 t17 u17 n17 z17)
  (l18:LM K zlm "entry" "Roster.entry" U5 f18 o18 v18 d18 m18 c18 t18 u18 n18 z18)
  (l19:LM K zlm "person" "Roster.person" Uj f19 o19 v19 d19 m19 c19 t19 u19 n19 z19)
  (l20:LN K "places_taken" "places_taken" U6 f20 o20 v20 d20 m20 c20 t20 u20 n20 z20)
  (l21:LN K "steps_into" "steps_into" S9 f21 o21 v21 d21 m21 c21 t21 u21 n21 z21)
  (l22:LN K "free_referee" "free_referee" U7 f22 o22 v22 d22 m22 c22 t22 u22 n22 z22)
  (l23:LN K "traced" "traced" J2 f23 o23 v23 d23 m23 c23 t23 u23 n23 z23)
  (l24:LN K "chain" "chain" Ex f24 o24 v24 d24 m24 c24 t24 u24 n24 z24)
  (l25:LN K "stepped" "stepped" Mq f25 o25 v25 d25 m25 c25 t25 u25 n25 z25)
  (l26:LN K "fill" "fill" A6 f26 o26 v26 d26 m26 c26 t26 u26 n26 z26)
  (l27:LN K "place_of" "place_of" Om f27 o27 v27 d27 m27 c27 t27 u27 n27 z27)
  (l28:LM K zln "__init__" "Sheet.__init__" V0 f28 o28 v28 d28 m28 c28 t28 u28 n28 z28)
  (l29:LM K zln "barred" "Sheet.barred" U8 f29 o29 v29 d29 m29 c29 t29 u29 n29 z29)
  (l30:LM K zln "fallen_out" "Sheet.fallen_out" W4 f30 o30 v30 d30 m30 c30 t30 u30 n30 z30)
  (l31:LM K zln "matches" "Sheet.matches" Uk f31 o31 v31 d31 m31 c31 t31 u31 n31 z31)
  (l32:LM K zln "goes" "Sheet.goes" Rb f32 o32 v32 d32 m32 c32 t32 u32 n32 z32)
  (l33:LM K zln "where" "Sheet.where" T1 f33 o33 v33 d33 m33 c33 t33 u33 n33 z33)
  (l34:LM K zln "chains" "Sheet.chains" U9 f34 o34 v34 d34 m34 c34 t34 u34 n34 z34)
  (l35:LM K zln "rows" "Sheet.rows" Rc f35 o35 v35 d35 m35 c35 t35 u35 n35 z35)
  (l36:LN K "drawn_sheet" "drawn_sheet" T2 f36 o36 v36 d36 m36 c36 t36 u36 n36 z36)
  (l37:LM K zli "__init__" "Season.__init__" Vm f37 o37 v37 d37 m37 c37 t37 u37 n37 z37)
  (l38:LM K zli "check_not_over" "Season.check_not_over" Xz f38 o38 v38 d38 m38 c38 t38 u38 n38 z38)
  (l39:LM K zli "check_undrawn" "Season.check_undrawn" X3 f39 o39 v39 d39 m39 c39 t39 u39 n39 z39)
  (l40:LM K zli "check_round" "Season.check_round" Wm f40 o40 v40 d40 m40 c40 t40 u40 n40 z40)
  (l41:LM K zli "check_room" "Season.check_room" Wr f41 o41 v41 d41 m41 c41 t41 u41 n41 z41)
  (l42:LM K zli "note" "Season.note" T5 f42 o42 v42 d42 m42 c42 t42 u42 n42 z42)
  (l43:LM K zli "sheet_at_hand" "Season.sheet_at_hand" X4 f43 o43 v43 d43 m43 c43 t43 u43 n43 z43)
  (l44:LM K zli "sheet_of" "Season.sheet_of" Vn f44 o44 v44 d44 m44 c44 t44 u44 n44 z44)
  (l45:LM K zli "takers_of" "Season.takers_of" W5 f45 o45 v45 d45 m45 c45 t45 u45 n45 z45)
  (l46:LM K zli "enrol" "Season.enrol" Ta f46 o46 v46 d46 m46 c46 t46 u46 n46 z46)
  (l47:LM K zli "draw_up" "Season.draw_up" V1 f47 o47 v47 d47 m47 c47 t47 u47 n47 z47)
  (l48:LM K zli "away" "Season.away" T6 f48 o48 v48 d48 m48 c48 t48 u48 n48 z48)
  (l49:LM K zli "step_in" "Season.step_in" V2 f49 o49 v49 d49 m49 c49 t49 u49 n49 z49)
  (l50:LM K zli "close" "Season.close" Tb f50 o50 v50 d50 m50 c50 t50 u50 n50 z50)
  (l51:LM K zli "take_back" "Season.take_back" W6 f51 o51 v51 d51 m51 c51 t51 u51 n51 z51)
  (l52:LM K zli "at_hand" "Season.at_hand" V3 f52 o52 v52 d52 m52 c52 t52 u52 n52 z52)
  (l53:LM K zli "goes" "Season.goes" T7 f53 o53 v53 d53 m53 c53 t53 u53 n53 z53)
  (l54:LN K "_law_whole" "_law_whole" Qm f54 o54 v54 d54 m54 c54 t54 u54 n54 z54)
  (l55:LN K "_law_at" "_law_at" Ig f55 o55 v55 d55 m55 c55 t55 u55 n55 z55)
  (l56:LN K "_law_mix" "_law_mix" Mu f56 o56 v56 d56 m56 c56 t56 u56 n56 z56)
  (l57:LN K "_law_numbers" "_law_numbers" Ym f57 o57 v57 d57 m57 c57 t57 u57 n57 z57)
  (l58:LN K "_law_clubs" "_law_clubs" Y9 f58 o58 v58 d58 m58 c58 t58 u58 n58 z58)
  (l59:LN K "_law_one_is" "_law_one_is" Rg f59 o59 v59 d59 m59 c59 t59 u59 n59 z59)
  (l60:LN K "_law_list_is" "_law_list_is" T8 f60 o60 v60 d60 m60 c60 t60 u60 n60 z60)
  (l61:LN K "_law_is_filling" "_law_is_filling" V4 f61 o61 v61 d61 m61 c61 t61 u61 n61 z61)
  (l62:LN K "_law_filled" "_law_filled" Rh f62 o62 v62 d62 m62 c62 t62 u62 n62 z62)
  (l63:LN K "_law_first" "_law_first" Qq f63 o63 v63 d63 m63 c63 t63 u63 n63 z63)
  (l64:LN K "_law_met" "_law_met" Mx f64 o64 v64 d64 m64 c64 t64 u64 n64 z64)
  (l65:LN K "_law_bars" "_law_bars" Ov f65 o65 v65 d65 m65 c65 t65 u65 n65 z65)
  (l66:LN K "_law_open" "_law_open" Ow f66 o66 v66 d66 m66 c66 t66 u66 n66 z66)
  (l67:LN K "_law_paged" "_law_paged" Qr f67 o67 v67 d67 m67 c67 t67 u67 n67 z67)
  (l68:LN K "_law_matches" "_law_matches" Ye f68 o68 v68 d68 m68 c68 t68 u68 n68 z68)
  (l69:LN K "_law_do" "_law_do" Im f69 o69 v69 d69 m69 c69 t69 u69 n69 z69)
  (l70:LN K "_law_deed" "_law_deed" Ox f70 o70 v70 d70 m70 c70 t70 u70 n70 z70)
  (l71:LN K "_law_pool" "_law_pool" Xk f71 o71 v71 d71 m71 c71 t71 u71 n71 z71)
  (l72:LN K "_law_people" "_law_people" Yc f72 o72 v72 d72 m72 c72 t72 u72 n72 z72)
  (l73:LN K "_law_enrolled" "_law_enrolled" Tc f73 o73 v73 d73 m73 c73 t73 u73 n73 z73)
  (l74:LN K "_law_rest" "_law_rest" X5 f74 o74 v74 d74 m74 c74 t74 u74 n74 z74)
  (l75:LN K "_law_rounds" "_law_rounds" Ri f75 o75 v75 d75 m75 c75 t75 u75 n75 z75)
  (l76:LN K "_law_cell" "_law_cell" Oy f76 o76 v76 d76 m76 c76 t76 u76 n76 z76)
  (l77:LN K "_law_most_kept" "_law_most_kept" Um f77 o77 v77 d77 m77 c77 t77 u77 n77 z77)
  (l78:LN K "_law_touched_least" "_law_touched_least" Wt f78 o78 v78 d78 m78 c78 t78 u78 n78 z78)
  (l79:LN K "law" "law" Fq f79 o79 v79 d79 m79 c79 t79 u79 n79 z79)
  : ∃ fd:FuncData,(∀ (s:Shared) (v:Value),BindsTo s fd ⟨[v],[]⟩ [("_law_script",v)])/\∀ base:Heap,K.In base->base.Ns mainGlobals mg->FnOk l.prog w K mg base (CX1 l.prog w) 10 fa fd ["_law_script"] (zau K):=by
 have e:=hfa.symm.trans (mg_of X G l79.b);cases e
 let a:Ad:=⟨zo2,zl0,zmd,zl3,zl7,zl8,znj,zna,zmi,zm5,zmr,zmk,zod,zno,zlw,zme,zll,zlm,zln,zli⟩
 have T:Tx K mg a:=⟨⟨zp9,zqc,zqb,zp6⟩,
  znv,
  zmo,
  ⟨zqh,zql,zpy,zqi⟩,
  zmb,
  ⟨zqw,zq0,zqv,zqr⟩,
  znc,
  zpu,
  znr,
  zpd,
  ⟨zqe,zp1,zqd,zqk⟩,
  zoe,
  zqg,
  zml,
  zmp,
  zng,
  zn6,
  zl5,
  zmf,
  ⟨mg_of X G zn1,zo1⟩,
  ⟨mg_of X G zmy,znp⟩,
  ⟨mg_of X G zo0,zpk⟩,
  ⟨mg_of X G znb,zn9⟩,
  ⟨mg_of X G zmn,znd⟩,
  ⟨mg_of X G zmx,zni⟩,
  ⟨mg_of X G zn3,zox⟩,
  ⟨mg_of X G zpf,zp8⟩,
  ⟨mg_of X G zns,zop⟩,
  ⟨mg_of X G znf,zn5⟩,
  ⟨mg_of X G zoy,zpj⟩,
  ⟨mg_of X G zok,zo9⟩,
  ⟨mg_of X G znq,zon⟩,
  ⟨mg_of X G zmg,zm1⟩,
  mg_none_of X G zpa,
  mg_none_of X G zly,
  mg_none_of X G zpq,
  mg_none_of X G zms,
  mg_none_of X G znt,
  mg_none_of X G zmj,
  mg_none_of X G zq7,
  mg_none_of X G zmc,
  mg_none_of X G zpi,
  mg_none_of X G zqs,
  mg_none_of X G zqx,
  mg_none_of X G zq4,
  mg_of X G zpe,
  mg_of X G zn1,
  mg_of X G znb,
  mg_of X G zmn,
  mg_of X G zmx,
  mg_of X G zmy,
  mg_of X G zo0,
  mg_of X G zou,
  mg_of X G zns,
  mg_of X G zok,
  mg_of X G zn3,
  mg_of X G znq,
  mg_of X G zpf,
  mg_of X G zoy,
  mg_of X G zmg,
  mg_of X G znf,
  mg_of X G zps,
  mg_of X G zpw,
  mg_of X G zqm,
  mg_of X G zpv,
  ⟨_,mg_of X G zm4⟩,
  ⟨_,mg_of X G zmu⟩,
  ⟨_,mg_of X G zmq⟩,
  ⟨_,mg_of X G zma⟩,
  ⟨_,mg_of X G zmh⟩,
  ⟨_,mg_of X G zm3⟩,
  ⟨_,mg_of X G znu⟩,
  ⟨_,mg_of X G zmz⟩⟩
 refine⟨fnOf "law" "law" (Tf Fq) (Zr Fq) (Zj Fq) .none v79 d79 m79 n79 c79 t79,fun s v=>.of_eq rfl,fun base KX NX=>?_⟩;have Z:XG l.prog w base K mg h:=⟨X,G⟩;have zqo:=nM Z l3 zqf zp7 zps fun F=>Oi F T;have zoc:=mM Z l4 fun F=>L6 F T;have zlo:=mM Z l5 fun F=>Jw F T;have zo7:=mM Z l6 fun F=>Hm F T;have zlq:=dN Z l7 fun F=>Jy F T;have zoq:=dN Z l8 fun F=>Jz F T;have zos:=dN Z l10 fun F=>J0 F T;have zqu:=nM Z l12 zp2 zqa zpw fun F=>Ol F T;have zlx:=mM Z l14 fun F=>Rt F T;have zny:=mM Z l16 fun F=>Mn F T;have zmw:=mM Z l17 fun F=>Ni F T;have zog:=dN Z l20 fun F=>Ka F T;have zoz:=dN Z l21 fun F=>Hq F T;have zn7:=dN Z l22 fun F=>Kb F T;have zpt:=dN Z l23 fun F=>zc8 F T;have znk:=dN Z l25 fun F=>A5 F T;have zpm:=dN Z l27 fun F=>Be F T;have zn2:=nM Z l28 zqt zq1 zqm fun F=>Nk F T;have znz:=mM Z l31 fun F=>Mt F T;have zm0:=mM Z l32 fun F=>Hs F T;have zoi:=mM Z l34 fun F=>Kf F T;have zo5:=mM Z l35 fun F=>Hv F T;have zlz:=mM Z l40 fun F=>Rv F T;have zlp:=mM Z l41 fun F=>Ql F T;have zl6:=mM Z l42 fun F=>J8 F T;have zlu:=mM Z l43 fun F=>Sm F T;have zm9:=dN Z l54 fun F=>Ez F T;have zlr:=dN Z l55 fun F=>zda F T;have zmv:=dN Z l56 fun F=>A7 F T;have zot:=dN Z l57 fun F=>Ih F T;have zpb:=dN Z l58 fun F=>E1 F T;have zo4:=dN Z l62 fun F=>Ga F T;have zpc:=dN Z l63 fun F=>E2 F T;have zp0:=dN Z l64 fun F=>A8 F T;have zpl:=dN Z l65 fun F=>Bf F T;have znw:=dN Z l77 fun F=>M0 F T;have zn0:=dN Z l0 fun F=>Hk F T zlo zo7;have zoj:=dN Z l9 fun F=>L7 F T zlq;have zl4:=mM Z l13 fun F=>Pd F T zlq;have zob:=mM Z l18 fun F=>L9 F T zlx;have zpg:=dN Z l24 fun F=>zfs F T zog zoz zn7 zpt;have zmm:=mM Z l33 fun F=>J4 F T zpm;have zm6:=mM Z l51 fun F=>Pj F T zny;have zlk:=mM Z l52 fun F=>Np F T zlo;have zmt:=dN Z l59 fun F=>Hz F T zm9;have znm:=dN Z l61 fun F=>Nt F T zm9;have znl:=dN Z l66 fun F=>Bg F T zp0 zpl;have zom:=dN Z l68 fun F=>Il F T zmv;have zpp:=dN Z l71 fun F=>Bi F T zlr zpb zot;have zo6:=dN Z l72 fun F=>Ge F T zlr zmv;have zo8:=dN Z l74 fun F=>Bl F T zlr;have zn4:=dN Z l75 fun F=>Gi F T zlr;have zpn:=dN Z l76 fun F=>Bn F T zlr zmv;have zpz:=dN Z l1 fun F=>Az F T zn0;have zp3:=dN Z l11 fun F=>A4 F T zoq zoj zos;have zo3:=mM Z l15 fun F=>Ho F T zl4;have znx:=mM Z l19 fun F=>Mp F T zob;have zra:=dN Z l26 fun F=>zg9 F T znk zpg;have zof:=mM Z l29 fun F=>Kd F T zn2;have zm7:=mM Z l30 fun F=>Pf F T zmm znk zpg zn2;have zqz:=nM Z l37 zpx zp5 zpv fun F=>Oq F T zlq zqu zqo;have zls:=mM Z l38 fun F=>T4 F T zlk;have zne:=mM Z l44 fun F=>Ou F T zlz zlo zlk zlu;have zov:=dN Z l60 fun F=>Ik F T zmt;have zm8:=dN Z l67 fun F=>E3 F T znl;have zpo:=dN Z l70 fun F=>Bh F T zom;have zm2:=dN Z l78 fun F=>Qt F T znl znm zo4 znw;have zqn:=dN Z l2 fun F=>zc7 F T zpz;have zol:=dN Z l36 fun F=>J6 F T zn2 zra;have zlt:=mM Z l39 fun F=>Sk F T zls;have zn8:=mM Z l50 fun F=>Ki F T zls zlu zoc zo5 zlo;have zoo:=mM Z l53 fun F=>Ie F T zne zm0;have zl2:=mM Z l45 fun F=>Ph F T zmw znx zlk zqn;have zoh:=mM Z l46 fun F=>Kh F T zlt zl4 zlp zl6 zlk zo3;have znh:=mM Z l47 fun F=>Nl F T zlt zp3 zlp zl6 zlk zol zl2 zm0;have znn:=mM Z l49 fun F=>Nm F T zl2 znz zmm zof zm7 zoi;have zor:=mM Z l48 fun F=>Ia F T zlz zlo zlx zlp zl6 zlk znn;have zow:=dN Z l69 fun F=>zdc F T zoh zor znh zn8 zm6;have zoa:=dN Z l73 fun F=>Kl F T zow zm8;exact zje (Pu l79.l l79.c l79.k) T zlr zqz zo8 zn4 zpp zpc zoa zo6 zpo zpn zow zm8 zoo zm2 zov zmt zlk
theorem walk{l:OpenLaw}{q:Program}{loose:List Str}{XP:(Str->Option Value)->Heap->Prop}{YP:World->Heap->Prop}{d:DefRec}{K:Params->Frag}(hn:l.most=some 63)(hdf:d.params.defaults=[])
  (hY:∀ (w:World) (h:Heap),YP w h->(K w.params).In h)
  (F:∀ (w:World) (mg:Str->Option Value) (fa:Addr) (h:Heap),(K w.params).In h->h.Ns mainGlobals mg->mg d.name=some (.ref fa) ->
   ∃ fd:FuncData,(∀ (s:Shared) (u:Value),BindsTo s fd ⟨[u],[]⟩ [("_law_script",u)])/\∀ base:Heap,(K w.params).In base->base.Ns mainGlobals mg->FnOk l.prog w (K w.params) mg base (CX1 l.prog w) 10 fa fd ["_law_script"] (zau (K w.params))) :
  WalkO q loose XP YP l.row.toRowW d [] (fun f vs=>PySem.call f vs) :=
 L2.zgh (n:=63) (k:=10) (x:="_law_script") (CX:=fun w=>CX1 l.prog w) (sp:=fun w=>zau (K w.params)) hn ⋯ hdf ⟨rfl,by decide,by decide⟩ hY F (fun _ _ a ns hl _ hS=>⟨a,ns,rfl,hS,hl,fun _=>rfl⟩) fun _ _ _ _ _ z=>by obtain⟨_,_,_,_,_,_,_,_,_,_,z⟩:=z;exact z
end K41
open PySem PySem.W PyProof.Rows
local macro_rules|`(command|universe $x*)=>do return Lean.mkNullNode (<-x.mapM fun i=>let n:=i.getId.toString.foldl (fun n c=>let k:=c.toNat;n*62+(if k<58 then k-48 else if k<91 then k-55 else k-61)) 0;let i:=Lean.mkIdent (.mkSimple s!"tw{n-10*62^10}");`(command|def $i:ident:=Nat))
namespace PySem.W.Fast
universe MpXV7J2hstG B0R3sowSSus DAjI0IKpxKf EPl2vT0FSvz VvzbWQwVZrb N1nzvaYhRgI RBL3kcAJkZO RKFWFKpmEoo KkBWONS27yV A6ZromPKzyU SAuYeMfpa0n ULFH4WEuqze CC7uHhGGdsP Bmj2RTAOYLW BKP5x7rhSJm FJ2EURPHeyi Ct1cJB0pvlb TCVkCzYHJL6 BZVSB0E7ayf LaJ1umXLVzU QXdsUwCs03t DK2CKakF2Sh BJ7jUQh6qJE NYBXYa6CpXd RVueFoZO2CQ FPgzbNn7Kjw FeAAxFSH8XO S8tTAzhyjP6 RTKohv7pUKO BzkUoppi1Wy MV1UrlFd7KL TgLF1sohiac DCCkX9vgrXT AcJygom13LY KFspfLTg8Ge UGtGLC1Y9dr PACDQmwoApF IqdKPINJXK5 S5WSH4D6Ch7 VJF7YrnqGfX GFzFPprOh9e HH7zThQl7Ot NA6zRu3lHSn UJ8PkdpK7r3 BdKVhkZ1L0X G9d4eSDr0Kv Na2jZJ7ktMz D0ZidyjW5SI NUnw5O0KCKq Gkh6u4bpcrK AsmQNAXQ6Pm P01CEyfs0vU ELZv1vaZLaX El0cavHCHfc Gxh5EerBsQf APLQcLJWgGD QQ5frbna5po RB5XCvaGJ3b AaLBrLROUlQ TynRp7d0PNB M4NUz8eZOdb FIK5iqYdWqI NApBYAL4IvV B3wsbJmWCly GM6oqMJsCyS Aw19CJDii7s QN3g5SpGruM BP7tIgY0eBC TvYxh6FY5ai TrIYTaw1W4v C6Y77pKuZKD HJM6hn0g8hY E4PNSNGjHXT QVSw3v6zsNU E77thnpjsUA QGi699X7S4F FYOCizESGav MYXytwcW50y Go6dEPBXHA5 GCh9mEOwpFJ BZshuRpDEEg QSmj5xsxRHT FxgBoefrFOf NIgO9IQYEpq F04hKtnTyRl I0mZAcWw2JU VuWZnU8wqsn R6B95zqJnXF FXodLRqU5BC AbVlpzYlaLe M9mCH3BUyiy OS8fYAc6ORH I8reoCKqr9I OC4AXGcJIlm GF745hjgKpv BxiE3WAea6I P89h0w3lZWN LDhRGjqwtLa MbJXmm1M0mQ SwnhpOQoczV NVnU3v0AT3p AO4RTKI9zXD OR69Pcrq5rc RsEiwkp3geF R2NXASV0ORx SkmxxJc6MTb JrM4mFIXJ32 MzK6vQh4dKS VDzpgq5kHCc H3rZtLcKBNA LDLrffofReI VxYcH3s08tN GwkJia6XEnC RGgU7wtG8dr I28BRuQ9G7I VDK22mJLdll MW1UfiF2YT1 KHmVo7e9fjB FJWzYbcPNe5 KrLCiQ3TvZ8 Th2ZsFfaOQL MyvYKlJDXil HNNy4iZScTO IVi8Bysazho BdgEVDy5Iq8 HRa2xdn7Kxe UcOtEOfXTjj TE82Wg5iZWI Q88HhGJjTtb ESC5BBx9ZWM H8XGggl8aZu DvPXe4xKE4U PWNsy1ZVWlg DXe0VRoNg2b IphwiOeJa7D PYw2qMW6l1Y OQKhfc1T0bL N1PRhYAOgag Ray5Tdvw45H KD5up5qLJep JnCllJv5xY5 PVJYbRiSwM6 C9SKp1ajnBr KNKPTLLFV92 PNR12hL07up H7Cr73iZuDB K4TdZv6j1Cv CPNp4snSSgq OyL9RrT4pGG NIoOzsnxIz0 UM8c3NLQJ5y NFJczQJfVZp SbvBfqYvxfA EJTi9oP908V PsoLNVmFvt1 OxddJDmpPfT QxPgT3tsjQP O4aCb0OUvga VvNIeqcO0cu Miiatp0EwLL JUtWxhzmPUd CecQ5omU5zR MigRYG1RL2t Ma7ZuvkNu4q EgSGzcfNSzQ AZyh8eSNf9O C6tZxHPF6sS THxMyxuzjdo U70qo9Dovd8 JJd620JjuvO DCJkEyaaS51 BqXXrREiGWQ ExjNkD87gqa GSHeUJ3OJ9d F3JF03ri2g5 EuqeAeTyLho HwWLKPNepsg VdGlT6GyzDU H23wsNMeulQ Jy3GcjMkhn9 DRhsuNtMt9c PzEfpL6u50T GBgGey4j2SK VRhhhT0Q9d2 CVwsQTvJXkn QRAr3Z1QXej Pvg0iYntsVo Bwlih66jAlC QqT42gwHAtl RQLHTSPfKpO FNMj7na0vur M68M8IPaeLY Fom19GYsOYR UMQQeOqUfgI CtOWbCGGZtn LqoDpZw6LOG AkcyDKQ5vGw Vt91I5ffyZf DlX9LJzGxkI G3YGDCoyo7M La5J1AJHcSy AZ3BNZo70m8 LOVzUrzXgX2 VlXLAHMJDVk Ky8wLrMmMEo Gl2gvtc8wEf GQWOaQPYIzj JoXszvCjD1s O3HDY4cDjmc F9Zw5Fk4358 IShjJf1ipr2 NIzcuCG2gPB QhFrJPCJahx Pt2n3NtKLkS BxJE5BljyFj QXQ877RFCWR Oy0OXMdR3Fv Ib1f5DM0k3r NjRHJANzoC2 MGgPHOWfZek QoF7RoPInBZ JVEesxNTuDn PwBuTQm1lZ0 FlxZBCLPr39 MVawvANRTO8 PIw1AnljDtP H7DxxQXFJTW AGPyWmkkl2D ViiCGb9fMob GaeevB3d0j9 ExlYTEjiUCj GkQnlWWaJvw KnxfaPpaZAX VkA3IEih6Sm TWJmhpdnjIa DVDA2VQlPL5 LY3w4noZaNz PtsSZZGDAgB Nd2MFVRoEVM UlELCqRsumn Oqtaz4QRB1D ATjEdXLXrZ2 DbxCX2qbXMO B5VxiuylLpd DNG3bDqKecW LW7qEv5xabV JlT2Xs2XMgy GJoeMvZgvMv MaziklR4Wut LWxqz2sAuBR BB25d6psvsH DfZrVSTNS0g H5zohCohttW PNmTALOT7Py TqFUFIaHNOo D7gofpznyVg DiKnQrkOTPX AkCkmA7AhkJ C3Cgjxovu7f Ulen7Mk6FQM GerCxutf54x Aw2tKCYTdg5 VJcaclZyxjS GUHTLUlKHfc Ih2rxfQipyP SHeWcuGWXxL LsNTlNRIvTz VoPaNfn0Obr MofkwMtvbep Aw3GfJH9mZ6 GZ6YiOw64Ez L4VZOUQxzpx KvBcci8FLAs VtmmCPagvfd RSqCzLj6ltl MFx67mLS0rT GpsO9P33ygY UlpGpbwfpiw Q47aj1Qb4G8 UuVL4Sjv0Fz GxrJgrogCOk RhJkXw3bSzn Oitcqxniwjw Aqp6pFjVoVM KTuwQAq4YAS VaXGAtyxOI5 HarHvIkZTEv InCXPHwquxv UEwiTzXkn7N NGb4qiJQFq5 ElD7lbGHDYa UPK7Mun7E4B K9x0g4yiPWd Tr6Gi0a4t2A DGCLkAAZu3x EQnZG1QWfRh MY2cCw4rmsK KQbAP2QQaCu Ts67gNX4elg Jl4ql05kd7j AaBszbZPND6 HLcuchYn1bR Rq4Sj7jI28O ESRW3WAyEh4 Uj0gpNmvlBT N7SUo0owdqp DAIS2jiWz0d B8D1cuQthRp GNKy0JiFjvB TeefmnL9tZZ GywrLuvYkQ8 HGXejxkZckv Q1zNrrbC8Rx AgLGc0HxGRp FZZITDxzJKD Oat1WDYT6Wl TOzCJIXnjRC Dnecl8T4sEX JhG0TqJjOJq TmvIeCkYXTd AcSnJ4uvg9C OhLEGR5ssbA A60ZvsgSzF4 QCjG2BpJ0BY SvXfg08M2UV R1ugFd1ORPi SKpX3oaTKDd Uc1obxTe06i I4yVLzhBEkl CRzUfm5igRV Rv00qYyE9il JMFpt5U6PLh IqGhzKQvS2N GBa7EI5kKCC STautQoKN3t RDyxVX70kBU HzBbd2FYP6s E8BmDsNfwV3 LshnaXry1mQ RKDTDyze6d1 IjvqQ7WtiT7 PCFHBRQtSUQ TZnfJAoJuoM NOMIcy6iVFf CqHP82CRWJb IAKky0580tH TUgkOIo4o2y IxbIs9qs9UF DsO5ZSUhId4 QPrnRChIazR VqWu1abvYZW F8SKim2q6Lt VGY8GoCYWno V2HZy2VGaed OmGi5ftYdQ9 HfLoG3YAMwI Jgd8QbM17HQ FXuSCKTYSS3 EJoFBOx6ai6 Vcjc2Nd995n AzzrwtcwKlA L1uX1jCaNnY Oy230ozll2S QMkuKuj1S6J RygGjBU1skj NcGZBz7zWQf MX7h1cnSTSy KJkoiJbRs76 M9xSJcC8HJB IRnES6MYuNz EsszxpmSrso AnReSGwdFQQ LebHKcHUG7j HwH1S9iEE1D E10tx1CQToQ IBC51PmVjSL TLqCUrLlGFU MQhINHFHPC6 UeOp2JzBa60 SezjzS2TXKv TnQKb74VUoO LSCmmNmIGmT Jh0NjHsAWiD FZLv5oUSrWH K3e5EVtNIj2 EtXThonGNip HNgyz3RwQ4A M7qukQE19db SoJpkFvKavV RLcF87DLEzc OUriuKwM9F1 DuZtNoqo2pt BhDNfYAfhUZ DBsWJlSPh40 VDQuPULVjHg UwpeRKz8X58 LJyHo1xmSNT PVxTao3ik3l SBjmFD55cuB AdN7ClltT9N O98pZRI7kaR FfFZYMpRoqu TJo9iqHu9xw BwW4jPLKYRv JrF0QOEO0fQ J3w3lrY1JDH NMQp0sFyzdF QY2F6DsizTB PPpEYm155Al GJaorMVkQOo TAXH6A0fihR SIJ60cCmI8j MoBq8DFUila KVOm93KAqWT VTYHZr3nVMs V1HL0Oja6JO CBAKEtReEzu CRwxgYiepl5 Kr41QQd0UGK QmxUla2vEzn NGZRujuR59x B96VnXI4c9f NwRg84bkJnd GsfTpuuErdE VqjLZWEtsFG F8nb3yf2dLz OmbqCZAxJ9Q MqTrS6zDPWl QwqqLK6Qikg SkxHqPL9yI9 Fd06NcPAnYw PoRCV0i69cP MojZGikaaGu QlPnP7M10bB DTKnL1m8eRS ESFFBNe7Wvs B2u8mIQAR1x SJ7QpkejpM3 IWwtELQT329 BiOUciLFTFY NSHjHfJz7kI P2ifB9U7cdi PG560blRZig JCzMOkmBkjl L58gYyORKV4 U6wLOi20ziV OVijHHANMkg RJ8vP6g60jc L428EzezQ2Z RiXGw2kBhgI IJ7fKvinLLR DRxCVgwkQ6e V0arzbftX0p CyaaOtJt1D9 DC2qcbG0a22 Bdu6dKrChH3 EFxKrZb7n8d U8arjwVAyBi AuT2zwgD1Hx CTHEIZOc7LN Tpos7pxjSSC Cly4R8QGwuy OEmCPVRs0fj OyNYURJeajH AGcLtn2FozR C8cPcxjzBsQ Clzz7ox8qdU BJlzTXU7vSj JGfgKgg4Aph D0KkiydcnjL EoOslTnG5R3 GeUgngyoL3n IMcYWN5E8Tr ThHZ7gdqAyL JvjgPusjS3p Jl7gquHn8Wj FcgWH8yOCLB BoYINJNnL8P MIqDlaBlVt6 UhhZLqlMu5E AoKOZFANsuW SxtX5DEi0kk Stl3AevO4dF FFZzZ4SWN8N ORlvXSWPIeI KgxYhQPv2ub ShSe1dr4BNU PiDrk7a4ODi GzGfexY1TeT HOFF059X6wz IBYOcIml5Vs PWYwflDfwkv GAraQRBczp6 L4rqh5IzbHk NEiNphjde7p Nqo5iSI92Yc KeEvrhFGraH REt4IG5nwOd P7gTUAnWOAz T8asWZlGnuA AfH25wQpeD0 AK8SRuIzPoZ Rt5cN7Z9PWi UnJom9qEaBt MTpcmnf35Kv M4GvgAZdMzP H4HEGMAbccn OwgRe6S9MGY HFxqmg5V1pE Je221tBg7Q8 BL25BKJlYCw EHVxulA7jye KxmbtyyzFit SddkP5Vz9b7 RdLIxuZbVlO HqOZF2uBo52 PoIiODAuck6 E3w9nDlxZv0 Tac3JeYXcQ2 D8k6zuE33vR FLOl4xFP8a7 P3qMmnsUrI6 I1y2g4WsnBo J61j3UxzIoo UdSY7OfCZEl KMcwZSL0RBH HhuDCq2MVSI U0NwiyKwVGV KKne7fiIWoN T3ZqEfudgrQ Pqf4d0UztaS KylO713bCDX JES9CqAVvR1 PTSfHo8uHFC LEnfn7R8Fhp JNsKGlu2zwT RvXSRISk373 GTjKrwVkMk2 OnQp2vcqfUf C6Htt5YYUCY DoWSN6bel5j KMzKtY4guLg EkxugjoaPjL RiUcPj6641c TN5gGIvBRo7 LGSk57DBIZj PaOkPsfhFUH FldAcaC4YRN GQ4aGcCeITi InZ4MDInVSo TJqcVp3PcFO UKNKOnVZ9Gx JTjzXEQG1Kh MYHxNsskmvX N8VK20zEUB4 Baxn4LKw3tH O9NJc9e5pTT NOmn9AI0DQT NhoJ75WEXdm QxbCmjHNhCr VLjYZjkWwtw LWsRu5WEZa1 Jso4SZuUDto NmhSmX9RnUQ OXiBtfFNKKU RrKD8oULRD7 J4xIvzvFz49 E1f4JC3cy9u LWS9moDmWaX NZAMunT0ukR Gb48HxeeATQ FrmorIROc3d R3DKTqIFVYl CD8z8TODgdL JdVtedTa9X4 RUVedG3UsdB HuItsvp60pT G9JjgC8bp2N L7TocxUHE1M Owi6UcbvSr0 MR18LmxvVi5 HGjZDgpFT4m Ne2u1Hlp4zA Ocf6fuZRsMB K9R1NVw8bnE AxGDytFDmFp PEWPNo7eqUe QtosfmgaOXc JceyRClqIod FmIDgsPHdMZ CPIHNFuGOK6 K0Hn3ruzqFU KOLVvEe8HMe FsgNIcxWvBn IWZx8s2WGfr NI34WBrEY5a PTnp3iUk6Gq B48OS2c7AKA DeZiIwHor4B DhdyNaGRL2G UJUS6Uw471k DUOT6uIMiOU R2A9SlQ9LKW MMazlCsUDqq FCjRoNpxyay Gwq4i6vH3sn VWV424TaFf3 QryPvooMDAg Jd1m12B6JrY SpU4KKzro6S CNLtpWM7Rw8 GGZwQF9r3TF MtGxhh4iZGZ Ayil1t9ISQC JbkonjYIiSb F9MvRmixuRO R5VK3V8NPC0 RU7rV4f2qz4 Kbn3mKyUOx9 RxgmEYmhXti QTTPAORvZqi OpHfoF75OLP ABiAiI4i3p5 ABlJFpiAbTu IH0JFu4VBpY VSvgrLqqt6q A6a93ONS3yF OZvpFMCnHbz EVl6Xa1wD5k N0F7KHYvPJ4 Jsj7GnSfcau GKD5qBHqi6w PYIffKrC50G RuYebeHxjuL AbYxGG8Zr2F IOuf2URZcoy EdngoF5o3o4 MVWZe5hAasu B8xCR3G00Gg SgBJETQhowV RkNWzssHMM1 VYwN9I9L2sN GNdhmGqVlAO KB1Y1vTtvwQ Qh1rBxGsO1A BOuMyM9Nkq6 NL1yg8JEtSl UnoFxqt0bEE I9j85WwZydg O4WyhtEchvg HfVoL0QkMD1 GjoX7tNDVO7 E39cYHUuTFy STEjIZqpFDB CIRSWJQjYRD GMYxlAoxjlS BQhbZmHG3ZJ Lm8yVKYjAvn VK3DcyIyr1D DRtQlsdgFU8 JHZowHmHBPh H2WhZoz4li0 G4OsMPaMfeL MWSJaqLoyn1 SiuJmO7U9i3 OGj7j2NwYsj CDMwnvNPtUX HBqN85Sd1hu EfPkGQwAjgW UCXWZpV7E9r B1Ju3J9aqeL AgHsDZlvifA TuocTsZboia KqUlATc86O6 F81296tPH0p N8YJCxmtKai A1SyveOFiLV MjnnvR3tB2b JED3coZ8X5Y F3G1n9NuXeS PsHIdgnis2n V5jueM8FbSm F0PsWIb7fNu Mn8pGXadb8J FrXYcHRjrnG KkLKIGibGAT FymqouZW5a7 AKoloXb9c4E SonfK62MfnU VoxQ5t8uxcT D8meOSbZQr8 CJ0LITz5wYd DRK6fVuBYMb BGcPpr7U3Y3 VkNzQA3cjbc HkAcb40pFbq SUgyj0cZqEH AiQqz4MW2df L1NtbvqDurh PeWvVb1pTar S7O6lSkegQY H0mud6I6H6M GXmHpnBnw4j OYClhsO9QUJ L65viFuYBpc CitVICAbMr9 UqCt8CSsgDb ApvYnSY6lF4 JbZYMUOjZJ1 Uws5cREDSfG EiOoY2KrS2T QtqG4NRcmcl El0SgLFrWSb MWt2NdSfVp7 HCdLP2lMcKX DGRRgiKYVf6 TrNS0VxEud0 RJaM83d7VTD Tf7WZ4ESl74 KBWifTEULPI LwCNaRKC23u HP7pjNGFj8x PArIXH9wmuS PVIRMjaWipr KgEkOr0XdMr BNrKsbCvXPI U4jCPbBkDkU OhQX6Oye1oR QEmJ03OBlZ3 CuJowCPrGd9 OET3X0oRDo1 NteYkBdtwlS IHb6mJoUc42 Cxe3lNURSkw H7ztZFmmBds BOnnf6IcQWh R8JjQMo3KNm OtF3wFiWicd KQ2oG4Dh2Af JUXQ8vlji9P HPliobD1Gng AEEV5nFFxDJ RjedphlxWso ORliTeaYzAP KlkpoeOWY5e M6jJ2s8nOWW Jk8DxZ2MG2p B2rINUmQdCR IW30And0sBn UXsVdwgtvmw GaQV24hSRih OjeYt8I3mpQ K8hhbfG7p68 OCuLqfPHDHO DFGbT8ZaghA FIanBnhevQh AKU4sM8aF5N DP4NFD2DTzI QZtoskveMuX UbB4nt7CK0F VBcrWRjdNoz FemOKeict3K Pk2HUaAhd8R DpH6BpdbpxZ UPJK8zt90Pl J6b2p7iLNqk VXwfnf9Hik7 NDi3vAOSO74 UrLC0O5JMWQ JbZ85CaB5Wl FQFTeUGNtAn Pi9Nn8mbXPI CEfcU5yp7Bs KuKsemOFNMu LdNFzNVR35i CJNz8FvRZGz PZKkJBtGWB2 RX1WhVbRtJJ GDJCbnsJ93d IinerfQFjvp Gq1jfGzWwdv NEP6GvW3A4h NF7EUMgIOMu MAMI0UmGS6R M3ebTYo9mow QvyuEv88d5m HUXSichefOo T5iZC1zKDbt GralmZQukg7 F8a3LaLqrZp EP5Y0bh4Qzy DiJOZbDa75K JZKBEHMi0jX M2lHvexMeOB PZF8ILpIGIQ E8cHE6eTBjr GEv162OFELj BeuOBz1G4bA GLzqdYkjNr5 FbAvEwhiZWZ KpVyctqdtmv KSzr6uBe5j4 UJtS4HQqL9C KBVTuDP9whx AcWIWCXyill Fzu7RpIqXD8 CI3pczmdEdM TRWGgEDHBuo FX2VbGfGOio CzAMQ8NSnNK FxPTuOTYnLK LSED0bi37V6 JAgDcDPowCV Ft4qZHRDjMC SGyyRTnMfRf LsLKRszaTMt LjdqBiPUyLc A9OVdOJIjAE MB4QfoFWv8i SHMZMUtwf1c K3za1NvFGJJ EuDcjhwELsn EIlzGvO2F1U NDOExUY1sBD GWTcmwIAGia NKpTEL0GyPj P0PqnGkRStE Lknu8M6e2LG G4ex6qTk3wT CbASgbGVbnT JOYN6bHMS8W AKqc47CbOuc PBXcW1uyFs3 F0oq6dHfcfA NxsOff8LUa3 VyMU5AT7F1N O1qixr8CsvY PnsgQ1W9D7x G6NdYUsiFHp SG2Anvx5h5Z OKPs6mBE4lR GMs7YCRfYcV Q0RP7pbxRXf A97uDjWfu5D LMdk4xnjY44 SSUQ8gBkh9F SRGxgFBQahV KtZneyAkWHn LsPXLS7f5vS JsAwutxsTel M5zORqsbcMF Gja3iwpAXDM JojweYxM4gS B0Y1lCNRTv2 BvDvKH0wmDB GTXH7YS5dqU PES0VE1M79v Fmi0TqjWzKJ Mz9iasPT15c HIZRlLil1yJ KpYkJglmgT7 UTUep9k5fCX LhHqZjoolyq IZmlfFPJyHa QcEbxmlMCje Edsn3Hl6O7t DstrWlQCCLe MUswalOdjtK SUwdSYSGK0P Be5RnrJS7cc CkB2SwYjobx TDIHQxb92dK FNT7wndBhVz EpOwxffyWe0 FBDnxSU2vGQ Ktq3XBZd3sc INJkdpS1rOZ ApiIMfuPG8F BsO02uMrgqQ UJMhtgHIKUr QSXc5h9eOyz BQtXoKhAXdh KwzP5nGmuXP LipPpvpWnyD QPeltWldyfu O5jDQ22hpH4 FbzWTlz3aWn CzWi8MrYsQH QBe461BMIEE IjL9BF2v0m6 PKIwrpDhBBP DXXCX5kNsUT RVXMJXgwMAi Rw6L0SBzHh3 TPbwkgOxhuZ FGGLw4EBKAV L4OoQTvtvpP AE77SChqFIx JKSfxHX2fS2 FUMGS6rmh0N FMjrZsufbhz Cn3MNmJCJsJ Ssuftwm59T6 SFyf2RxrvQS NgOwLYLaoHY CNUUzddjLAr CWCgi9p1sXm TkzAh9257pK UlXM33bhxVv Bo39CsLAP3S C17LCpZLh65 I0oDRwjMTCT NasLZhwhQmH G82oKhF89j6 R6lHGyxc3L5 Mon1WKOqX8Z FxFURSUFWtx UKU5fE4d2Uz GRQ29IfmfzB DHH9Zmf4YDY VpeMrKy9ezc TUNdeCw8wam FXFtLizvksV Iz69bKCkhNY P5Yj0LVb8Mh FFTolN7FWMz RiHzFsUNi7U U6aXfyxp2qO MSV8fNhriK8 LgFZByrVpwq NvAm471mUUq PrjZjbQOlSo BLiI1Gbse75 SEXLeXHLvWc KVHS6cSM3tg Q3zQKYU0BLA Rm61n8BrDSY K15FP9Txa0e Tr3VxqsAfZi PUkrlBEOWmC Jh7HAYpyCxo GN13aDIlLrA LEitf8z6lPr T91LAQdNCGz P8MrjSfQekw O35SsSEAZUt NAQl8SEMwHS F6GrNR7uNqr QD1X2ENmigp JCVIMYDgf4q Nkn7MUOYcFR AozhFwlKeZO KxTMgm2mdEV P9PMvxsEulE Ql77Wiyta6N SJUKBo3x2S6 Dm1YKWLOHbQ HRiqo552SCI IThIIzhm1yg JviPP7ecQ1w Cndo0ZeiLud OUmX4qCiFxK GiAsN7MRR2B DDTk0LksfJJ TnAOQL5sGl3 N9y6ruNmoi0 JQLzxEdgkf6 D1go7v94wXW P6Ptfo3CxYg QcsGuSVhQWh GAhah8Xusti KTQYUqSnTXt RrYyRgg9uHV L2C1Xm9tIDN HPItzbZML9I PycX8aH25PQ BBz8d75kt5a RCh8sXDdo71 EksD96Kd7Hy L3znOP1urbK DPBw4AO7GFR Q4953tkpWgC FqezCywFrVS LEE4vMhseVn U2znNCtkUTL HHi9ZUx83vO P7y8sKvxiAp VXYCnizcfsw K4I0V9ZyiJl KheCIwhstU3 DqH4GOCmQcy Bs0Xbiq0XzC TgYdyqIvgjs LK1xCgG7Y0f NuoyQsZ08ka HDyVd2jEmI6 V1qKWKfkp0H T82iEhK8BRT JYDtfzVIime NDWwhHvDGWq UZJKjM5PFtw H49Bazqh8PE PZRu2Lq6Jrw AUTgDwNQN63 TykaVOthkGU H392yqXbg83 Vtds4Bm7po9 BBK9ieZMH94 F07qlIdMQ0e RGZXCyu7TSz PEz59YmJ5EK MlvMIAJtjGf PvdCW4tJsgz OLfNK9w2TiM KefnVgqDXyQ KlPufRXsDHc E6HRj3S5QWE GZku7eTziT5 Fzn2bMCUE5a A5exECochf4 Pc45myrRLce Kihhyd8kjRe Pz2T050sQpD O4m3PasjP7o HmAdDONtlBG PReW9cRiiFV ANzEbcP6ibh R3LB4E4VOJ4 IJ0fsH1WnHQ Q5WzsvVpvnr Tw4cUWyEKyy OHbLqcS4f3E GF0xtECp4Fr U1ae2WJmneI NQkP6zJhBtw PL2Ur4QXpz8 RrlxSkOG66v JIEEf8rWBjh D0me2noz9in FpuiAxrV7yY CvY6T09isK9 TU8f01Lnq4s RmcTDF2OK2y MOj5v6O9XW8 UeObgrN2EnP NhSMg5ouqkU JhAPOyjKFqC JjlTQifyKQC UwdwFDBTf1X SWPBVEjp9Oh STlr6nXHcoI LiaIfDYEp1c Vk0YxWSXzbF PAHJCc7dVIP AX8xRpfC0cq HNeS0GKROEf CHf55T3u63P MMck9DvYLoc OqMYbF5cG1R LnztMhVnu2G DXZ2vfWA7NQ SMvvuBEOqtH HLVxfWs3irG R6wFeaMg8v2 NEHtTCSWTR9 C3YUice1qI9 RYNepzozM19 ExjjanR3CwN Oflok9ZZyJL DvbG51zYzy2 NfEOajehhOT IHd4azuRPmF TQNCN3Xvogc TjY9gW3qP2L F4Bl2ohbhZR HziOANItr5p OTsS8hlRuit FHsX2GmsO8w S9gvb2bCfUm CtnX3IQo6Z1 SNPikqaD314 JuSF3sO7tQr LFuztjnc5ra Ts4SmJ4duSS Iy7CtkqC4EC HGmKYsnPzEg MqnLZ1LA0NX CtkaeqmoAUl BcRetSHQ1nk NxFhB5SCpkp EYKPG0bOXxm IL1GiuW9ql6 EV749UEDTmh RYi8Iyqwb9M UQx6cxHz0GU HGWkaUINgv5 LA8XYRL99CF NZq8uOsB89k V6tjrT8afSx MemZbjNAdJu LzS7t2AoNDk Ho7heSom8YQ HlKpoOSGHBR OLFQbzB2GsM HdB23hV6eFO J0lcn2lvXH0 JTjQn035i1Q IphpaugJABH FdvZ6SLZUuy AnhGRolkDcw CK8RdEb4fwq NgtnXemjcFM MBX5uV9OsKz NyDIw5cGoP0 JRxozZ1oJdM A3eKG5Q8K3o FMJhYxlNo9R Jlz9XD1j80W PyoBLEG6WMH RjZGprSNbO7 MQ2dRfxfxFP P6jBCcr3YIo NhoOFL7Hxh6 GTXi2pa02Ok VwHflMeAq5j NNWiUtKNatJ MavJu0Bxg9O FeCgN2G6i45 TLAgTvaat5V AspVidR4Krr H1F3QW8vsFv UH4SNEOJln3 QyIwT7fli1D PEWYnZLgXJN QNnzDJtujj4 IIEXPByIgvO GXLmIz5EOjY MfzOty0ehdb VqZ4N9qffqk Hn98On7u7cR J1IQBt13KRp AML52uBdFWl HbP92oobHPE PeRBwXPCu2A GnebNpuw9RD
end PySem.W.Fast
set_option maxRecDepth 100000 in
set_option maxHeartbeats 0 in
theorem PySem.Challenge.cw_whistlebook_k41_whole_fewest_moves_holds : PySem.Challenge.rw_whistlebook_k41_whole_fewest_moves.Holds := by
 w_on;o_law;k_head;(case hw=>w_witness2)
 k_fill
 refine K41.walk (l:=PySem.Challenge.rw_whistlebook_k41_whole_fewest_moves) rfl rfl (fun w h Y=>PySem.W.kIn_of Y) ?F
 case F =>
  intro w mg fa h KX G hmg
  refine' K41.zjf KX G hmg ?zpe ?zn1 ?znb ?zmn ?zmx ?zmy ?zo0 ?zou ?zns ?zok ?zn3 ?znq ?zpf ?zoy ?zmg ?znf ?zps ?zpw ?zqm ?zpv ?zp9 ?zqc ?zqb ?zp6 ?zqf ?zp7 ?znv ?zmo ?zqh ?zql ?zpy ?zqi ?zp2 ?zqa ?zmb ?zqw ?zq0 ?zqv ?zqr ?zqt ?zq1 ?znc ?zpu ?znr ?zpd ?zqe ?zp1 ?zqd ?zqk ?zpx ?zp5 ?zoe ?zqg ?zml ?zmp ?zng ?zn6 ?zl5 ?zmf ?zo1 ?znp ?zpk ?zn9 ?znd ?zni ?zox ?zp8 ?zop ?zn5 ?zpj ?zo9 ?zon ?zm1 ?zpa ?zly ?zpq ?zms ?znt ?zmj ?zq7 ?zmc ?zpi ?zqs ?zqx ?zq4 ?zm4 ?zmu ?zmq ?zma ?zmh ?zm3 ?znu ?zmz ?l0 ?l1 ?l2 ?l3 ?l4 ?l5 ?l6 ?l7 ?l8 ?l9 ?l10 ?l11 ?l12 ?l13 ?l14 ?l15 ?l16 ?l17 ?l18 ?l19 ?l20 ?l21 ?l22 ?l23 ?l24 ?l25 ?l26 ?l27 ?l28 ?l29 ?l30 ?l31 ?l32 ?l33 ?l34 ?l35 ?l36 ?l37 ?l38 ?l39 ?l40 ?l41 ?l42 ?l43 ?l44 ?l45 ?l46 ?l47 ?l48 ?l49 ?l50 ?l51 ?l52 ?l53 ?l54 ?l55 ?l56 ?l57 ?l58 ?l59 ?l60 ?l61 ?l62 ?l63 ?l64 ?l65 ?l66 ?l67 ?l68 ?l69 ?l70 ?l71 ?l72 ?l73 ?l74 ?l75 ?l76 ?l77 ?l78 ?l79
  (case zpe|zn1|znb|zmn|zmx|zmy|zo0|zou|zns|zok|zn3|znq|zpf|zoy|zmg|znf|zps|zpw|zqm|zpv|zp9|zqc|zqb|zp6|zqf|zp7|znv|zmo|zqh|zql|zpy|zqi|zp2|zqa|zmb|zqw|zq0|zqv|zqr|zqt|zq1|znc|zpu|znr|zpd|zqe|zp1|zqd|zqk|zpx|zp5|zoe|zqg|zml|zmp|zng|zn6|zl5|zmf|zpa|zly|zpq|zms|znt|zmj|zq7|zmc|zpi|zqs|zqx|zq4|zm4|zmu|zmq|zma|zmh|zm3|znu|zmz=>(show _=_;k_is))
  (case zo1|znp|zpk|zn9|znd|zni|zox|zp8|zop|zn5|zpj|zo9|zon|zm1=>(show PySem.W.excIn _ _ _ _=true;k_exc))
  (case l0|l1|l2|l7|l8|l9|l10|l11|l20|l21|l22|l23|l24|l25|l26|l27|l36|l54|l55|l56|l57|l58|l59|l60|l61|l62|l63|l64|l65|l66|l67|l68|l69|l70|l71|l72|l73|l74|l75|l76|l77|l78|l79=>(constructor<;>(show _=_;k_is)))
  (case l3|l4|l5|l6|l12|l13|l14|l15|l16|l17|l18|l19|l28|l29|l30|l31|l32|l33|l34|l35|l37|l38|l39|l40|l41|l42|l43|l44|l45|l46|l47|l48|l49|l50|l51|l52|l53=>(constructor<;>(show _=_;k_is)))
#print axioms PySem.Challenge.cw_whistlebook_k41_whole_fewest_moves_holds

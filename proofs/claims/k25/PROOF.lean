import PyProof.Rows.All
import Wide.All
import OpenK.AllK
import Wide.FinOn
import PyProof.EqAt
import PyProof.EqKinds
import PyProof.TupleCall
import Lean
import KE.KDictList
import PyProof.MaxThree
import KE.LcSums
import PyProof.Rows.FactsN_abs
import PyProof.FactsAll.list_3
import PyProof.SeqI3
import PyProof.EnumIter
import PyProof.EnumMake
import PyProof.EnumFor
import PyProof.ZipIter
import PyProof.FactsAll.zip_1
import PyProof.DictIter
import PyProof.MinMaxWalk
import PyProof.Rows.TupDisplay
import PyProof.Rows.SetFrom
import PyProof.FactsAll.NoneType_1
import PyProof.StrCalls2
import PyProof.FactsAll.list_4
import PyProof.ListRange
import PySem.Challenge.RW_whistlebook_k25_hundred_deeds
open PySem.W(Frag)
open Sum(inl inr)
local macro_rules|`(⋯)=>`(by first|decide +kernel|omega|walk_at "ar")
abbrev zsg:=@List.length_map
abbrev zsh:=@List.length_append
abbrev zsi:=@List.getElem?_eq_getElem
abbrev zsj:=@List.getElem?_eq_some_iff
abbrev zsk:=@List.mem_cons
abbrev zsl:=@List.mem_singleton
abbrev zsm:=@decide_eq_true
abbrev zsn:=@List.getElem?_map
abbrev zso:=@Nat.le_refl
abbrev zsp:=@List.map_append
abbrev zsq:=@List.mem_map
abbrev zsr:=@decide_eq_false
abbrev zss:=@List.size_toArray
abbrev zst:=@List.map_cons
abbrev zsu:=@List.mem_of_getElem?
abbrev zsv:=@List.mem_append
abbrev zsw:=@List.mem_cons_of_mem
abbrev zsx:=@Bool.false_ne_true
abbrev zsy:=@Nat.lt_of_lt_of_le
abbrev zsz:=@List.mem_cons_self
abbrev zs0:=@List.take_length
abbrev zs1:=@Nat.zero_le
abbrev zs2:=@beq_eq_false_iff_ne
abbrev zs3:=@Nat.le_trans
abbrev zs4:=@List.length_cons
abbrev zs5:=@List.mem_append_right
abbrev zs6:=@List.nodup_cons
abbrev zs7:=@Int.toNat_natCast
abbrev zs8:=@List.mem_append_left
abbrev zs9:=@Nat.ne_of_lt
abbrev zta:=@List.getD_eq_getElem?_getD
abbrev ztb:=@List.getElem?_append_left
abbrev ztc:=@List.length_take
abbrev ztd:=@List.getElem?_append_right
abbrev zte:=@List.take_succ_eq_append_getElem
abbrev ztf:=@List.getElem?_set_ne
abbrev ztg:=@List.nodup_iff_pairwise_ne
abbrev zth:=@List.not_mem_nil
abbrev zti:=@List.mem_range
abbrev ztj:=@List.getElem?_set_self
abbrev ztk:=@List.lookup_cons
abbrev ztl:=@List.length_range
abbrev ztm:=@List.getElem_mem
abbrev ztn:=@List.append_assoc
abbrev zto:=@List.take_add_one
abbrev ztp:=@Int.emod_lt_of_pos
abbrev ztq:=@Option.map_some
abbrev ztr:=@Nat.le_succ_of_le
abbrev zts:=@List.mem_filter
abbrev ztt:=@Bool.false_eq_true
abbrev ztu:=@List.length_drop
abbrev ztv:=@List.replicate_succ
abbrev ztw:=@List.getElem_of_mem
abbrev ztx:=@Int.emod_nonneg
abbrev zty:=@Option.isSome_iff_exists
abbrev ztz:=@List.filter_cons
abbrev zt0:=@Nat.lt_irrefl
abbrev zt1:=@List.length_set
abbrev zt2:=@List.append_inj'
abbrev zt3:=@Nat.lt_of_le_of_lt
abbrev zt4:=@List.mem_of_mem_take
abbrev zt5:=@List.getElem?_take_of_lt
abbrev zt6:=@List.flatten_cons
abbrev zt7:=@List.map_map
abbrev zt8:=@Int.zero_add
abbrev zt9:=@List.any_cons
abbrev zua:=@Bool.and_eq_true
abbrev zub:=@List.find?_cons
abbrev zuc:=@List.length_filter_le
abbrev zud:=@List.getElem?_eq_none
abbrev zue:=@List.take_sublist
abbrev zuf:=@List.reverse_cons
abbrev zug:=@Nat.lt_succ_of_lt
abbrev zuh:=@List.mem_of_mem_drop
abbrev zui:=@List.any_eq_true
abbrev zuj:=@Nat.min_eq_right
abbrev zuk:=@List.filterMap_cons
abbrev zul:=@Nat.le_succ
abbrev zum:=@List.length_take_le
abbrev zun:=@List.mem_filterMap
abbrev zuo:=@Bool.eq_iff_iff
abbrev zup:=@List.append_nil
abbrev zuq:=@Nat.not_lt_zero
set_option Elab.async false
set_option linter.all false
set_option maxRecDepth 100000
namespace L2
open PySem PySem.Spec PyProof.Rows
abbrev Key:=Sum Int Str
def Ho:Key->Value->Bool
 | .inl k,v=>Value.isInt k v
 | .inr x,v=>Value.isStrOf x v
def zi7(w:World):Key->Int
 | .inl k=>hashInt k
 | .inr x=>hashStr w x
theorem Yu:∀ {k:Key} {v:Value},Ho k v=true->(∃ i t,k=inl i/\v=Value.int i t)\/(∃ x t,k=inr x/\v=Value.str x t)
 | .inl i,v,h=>by
   obtain⟨t,e⟩:=Value.isInt_shape (k:=i) (v:=v) h;exact .inl ⟨i,t,rfl,e⟩
 | .inr x,v,h=>by
   obtain⟨t,e⟩:=Value.isStrOf_shape (x:=x) (v:=v) h;exact .inr ⟨x,t,rfl,e⟩
theorem A7(i:Int)(t:Tok):Ho (.inl i) (.int i t)=true:=by simp[Ho,Value.isInt]
theorem A8(x:Str)(t:Tok):Ho (.inr x) (.str x t)=true:=by simp[Ho,Value.isStrOf]
theorem zfn(a b:Int):decide ((inl a:Key)=inl b)=(a == b):=by
 by_cases e:a=b
 ·subst e;simp
 ·have h:¬ (inl a:Key)=inl b:=fun q=>e (inl.inj q);rw[zsr h];exact(zs2.mpr e).symm
theorem zfo(a b:Str):decide ((inr a:Key)=inr b)=decide (a=b):=by
 by_cases e:a=b
 ·subst e;simp
 ·have h:¬ (inr a:Key)=inr b:=fun q=>e (inr.inj q);rw[zsr h,zsr e]
theorem zfp(a:Int)(b:Str):decide ((inl a:Key)=inr b)=false:=zsr (fun q=>nomatch q)
theorem zfq(a:Str)(b:Int):decide ((inr a:Key)=inl b)=false:=zsr (fun q=>nomatch q)
def Ym(prog:Program)(w:World):PySem.KeyKind prog w Key where
 is:=Ho
 hash:=zi7 w
 inj:=fun v a b ha hb=>by
  rcases Yu ha with ⟨i,t,rfl,rfl⟩|⟨x,t,rfl,rfl⟩
  ·rcases Yu hb with ⟨j,u,rfl,e⟩|⟨y,u,rfl,e⟩
   ·injection e with e1 _;rw[e1]
   ·exact nomatch e
  ·rcases Yu hb with ⟨j,u,rfl,e⟩|⟨y,u,rfl,e⟩
   ·exact nomatch e
   ·injection e with e1 _;rw[e1]
 byValue:=fun k v h=>by
  rcases Yu h with ⟨i,t,rfl,rfl⟩|⟨x,t,rfl,rfl⟩<;>rfl
 pyHash:=fun hv h=>by
  rcases Yu hv with ⟨i,t,rfl,rfl⟩|⟨x,t,rfl,rfl⟩
  ·exact wpAny_pyHash_int h
  ·exact wpAny_pyHash_str h
 eqBool:=fun hu hv h=>by
  rcases Yu hu with ⟨i,t,rfl,rfl⟩|⟨x,t,rfl,rfl⟩
  ·rcases Yu hv with ⟨j,u,rfl,rfl⟩|⟨y,u,rfl,rfl⟩
   ·rw[zfn] at h;exact wpAny_eqBool_int h
   ·rw[zfp] at h;exact SeqAt.EqAt.int_str i t y u _ _ _ _ h
  ·rcases Yu hv with ⟨j,u,rfl,rfl⟩|⟨y,u,rfl,rfl⟩
   ·rw[zfq] at h;exact SeqAt.EqAt.str_int x t j u _ _ _ _ h
   ·rw[zfo] at h;exact wpAny_eqBool_str h
 «strs»:=fun k x t v h=>by
  rcases Yu h with ⟨i,u,rfl,e⟩|⟨y,u,rfl,e⟩
  ·exact nomatch e
  ·injection e with e1 _;subst e1;cases v<;>rfl
theorem El(prog:Program)(w:World)(i:Int)(t:Tok):(Ym prog w).is (.inl i) (.int i t)=true:=A7 i t
theorem Em(prog:Program)(w:World)(x:Str)(t:Tok):(Ym prog w).is (.inr x) (.str x t)=true:=A8 x t
inductive V where
 | non|bl (b:Bool)|int (i:Int)|str (x:Str)|byt (b:Array UInt8)|flt (b:UInt64)|ref (a:Addr)|ty (n:String)
 deriving DecidableEq
def RelV:V->Value->Prop
 | .non,u=>u=Value.none
 | .bl b,u=>u=Value.bool b
 | .int i,u=>∃ t,u=Value.int i t
 | .str x,u=>∃ t,u=Value.str x t
 | .byt b,u=>∃ t,u=Value.bytes b t
 | .flt b,u=>∃ t,u=Value.float b t
 | .ref a,u=>u=Value.ref a
 | .ty n,u=>u=Value.type n
abbrev Vals:List V->List Value->Prop:=Paired RelV
theorem Vals.length(r:Vals xs us):xs.length=us.length:=Paired.length r
theorem Vals.get:∀ {xs:List V} {us:List Value} {i:Nat} {x:V},Vals xs us->xs[i]?=some x->∃ u,us[i]?=some u/\RelV x u
 | _,_,_,_,.nil,e=>by simp at e
 | _,_,0,_,.cons r _,e=>by simp at e;subst e;exact⟨_,rfl,r⟩
 | _,_,i+1,x,.cons _ t,e=>by
   obtain⟨u,h1,h2⟩:=Vals.get (i:=i) (x:=x) t (by simpa using e);exact⟨u,by simpa using h1,h2⟩
theorem Vals.set(r:RelV x u):∀ {xs:List V} {us:List Value} (i:Nat),Vals xs us->Vals (xs.set i x) (us.set i u)
 | _,_,_,.nil=>.nil
 | _,_,0,.cons _ t=>.cons r t
 | _,_,i+1,.cons q t=>.cons q (Vals.set r i t)
theorem Vals.append:∀ {xs ys:List V} {us ws:List Value},Vals xs us->Vals ys ws->Vals (xs++ys) (us++ws)
 | _,_,_,_,.nil,s=>s
 | _,_,_,_,.cons r t,s=>.cons r (Vals.append t s)
theorem Vals.take:∀ {xs:List V} {us:List Value} (n:Nat),Vals xs us->Vals (xs.take n) (us.take n)
 | _,_,0,_=>.nil
 | _,_,_+1,.nil=>.nil
 | _,_,n+1,.cons r t=>.cons r (Vals.take n t)
theorem Vals.drop:∀ {xs:List V} {us:List Value} (n:Nat),Vals xs us->Vals (xs.drop n) (us.drop n)
 | _,_,0,r=>r
 | _,_,_+1,.nil=>.nil
 | _,_,n+1,.cons _ t=>Vals.drop n t
def RelO:Option V->Option Value->Prop
 | some v,some u=>RelV v u
 | none,none=>True
 | _,_=>False
def KV{κ:Type}:List (κ×V)->List (κ×Value)->Prop:=Paired fun (p:κ×V) (q:κ×Value)=>p.1=q.1/\RelV p.2 q.2
def kV:Key->V
 | .inl i=>.int i
 | .inr x=>.str x
inductive HO where
 | lst (xs:List V)
 | tup (xs:List V)
 | dK (kvs:List (Key×V))|dT (kvs:List (List Key×V))
 | set (S:Int->Bool) (n:Nat)
 | ins (C dx:Addr) (fs:List (Str×V))
 | own (x:Addr)
 | xd (fs:List (Str×V))
 | met (f x:Addr)
 | rng (lo hi:Int)
 | frz (o:Obj) (u:HO)
 | tbl (ps:Array Value)
 | ext (φ:Heap->Prop)
abbrev Hp:=Addr->Option HO
def upd(H:Hp)(a:Addr)(o:HO):Hp:=fun b=>if b=a then some o else H b
theorem Zb:upd H a o a=some o:=by unfold upd;rw[if_pos rfl]
theorem Zi(h:b≠a):upd H a o b=H b:=by unfold upd;rw[if_neg h]
theorem Lj:upd (upd H a o) a u=upd H a u:=by
 funext b;unfold upd;split<;>rfl
theorem Ye{H:Hp}{a b:Addr}{o u:HO}(h:H a=some o)(h':H b=some u)(d:o≠u):a≠b:=by
 intro e;subst e;rw[h] at h';exact d (Option.some.inj h')
theorem Zh{H:Hp}{a b:Addr}{o:HO}(h:H a=some o)(h':H b=none):a≠b:=by
 intro e;subst e;rw[h] at h';cases h'
section
variable(P:Program)(w:World)
def Yp(H:Hp)(h:Heap)(a:Addr):HO->Prop
 | .lst xs=>xs.length<=sizeLine/\∃ (its:List Value) (n:Nat),Vals xs its/\h.get? a=some { cls:=.type "list",data:=.seq its.toArray n }
 | .tup xs=>xs.length<=sizeLine/\∃ its:List Value,Vals xs its/\IsTup h a its.toArray
 | .dK kvs=>kvs.length<=sizeLine/\(a == sysModules)=false/\∃ vs,KV kvs vs/\h.DictOf (Ym P w) a vs
 | .dT kvs=>kvs.length<=sizeLine/\(a == sysModules)=false/\∃ xs:List (List Key×Addr×Value),
   Paired (fun (p:List Key×V) (q:List Key×Addr×Value)=>p.1=q.1/\H q.2.1=some (.tup (p.1.map kV))/\RelV p.2 q.2.2) kvs xs /\
   ∃ o es ep,h.get? a=some o/\o.ExactDict/\o.data=.dict es ep/\es.toList=xs.map (entryOfKey (tupleKind (Ym P w)))/\(xs.map (·.1)).Nodup
 | .set S n=>h.SetOf (intKind P w) a S n
 | .ins C dx fs=>H dx=some (.own a)/\fs.length<=1000/\dx≠a/\h.get? a=some (PySem.W.instObj C dx) /\
   ∃ mA,h.Ns1 dx mA/\(∀ f,RelO (fs.lookup f) (mA f))/\PySem.Within mA (fs.map (·.1))
 | .own _=>∃ o,h.get? a=some o
 | .xd fs=>∃ mA,h.Ns1 a mA/\∀ f,RelO (fs.lookup f) (mA f)
 | .rng lo hi=>∃ t u v,h.get? a=some { cls:=.type "range",data:=.fields #[.int lo t,.int hi u,.int 1 v] }
 | .frz o u=>h.get? a=some o/\Yp H h a u
 | .tbl ps=>h.get? a=some { cls:=.none,data:=.fields ps }
 | .met f x=>h.get? a=some (PySem.W.methodObj (.ref f) (.ref x))
 | .ext φ=>φ h/\(∃ o,h.get? a=some o)/\∀ h1 h2:Heap,φ h1->(∀ o,h1.get? a=some o->h2.get? a=some o)->φ h2
def HOk(H:Hp)(h:Heap):Prop:=∀ a o,H a=some o->Yp P w H h a o
end
section
variable{P:Program}{w:World}{H H':Hp}{h h':Heap}{a:Addr}{o:HO}
theorem Yp.lt(x:Yp P w H h a o):a<h.objs.size:=by
 cases o with
 | lst xs=>obtain⟨_,_,_,_,e⟩:=x;exact Heap.lt_size e
 | tup xs=>obtain⟨_,_,_,p⟩:=x;exact p.lt
 | dK kvs=>obtain⟨_,_,_,_,o,_,_,e,_⟩:=x;exact Heap.lt_size e
 | dT kvs=>obtain⟨_,_,_,_,o,_,_,e,_⟩:=x;exact Heap.lt_size e
 | set S n=>obtain⟨o,_,_,_,e,_⟩:=x;exact Heap.lt_size e
 | ins C dx fs=>obtain⟨_,_,_,e,_⟩:=x;exact Heap.lt_size e
 | own y=>obtain⟨_,e⟩:=x;exact Heap.lt_size e
 | xd fs=>obtain⟨_,⟨_,_,_,e,_⟩,_⟩:=x;exact Heap.lt_size e
 | rng lo hi=>obtain⟨_,_,_,e⟩:=x;exact Heap.lt_size e
 | frz ob u=>obtain⟨e,_⟩:=x;exact Heap.lt_size e
 | tbl ps=>exact Heap.lt_size (show h.get? a=some _ from x)
 | met f y=>exact Heap.lt_size (show h.get? a=some _ from x)
 | ext φ=>obtain⟨_,⟨_,e⟩,_⟩:=x;exact Heap.lt_size e
theorem Paired.mapP:∀ {l₁:List α} {l₂:List β},Paired F l₁ l₂->(∀ a b,F a b->G a b)->Paired G l₁ l₂
 | _,_,.nil,_=>.nil
 | _,_,.cons r t,f=>.cons (f _ _ r) (Paired.mapP t f)
theorem Yp.stay(x:Yp P w H h a o)(k:∀ b u,(b=a\/H b=some (.own a))->h.get? b=some u->h'.get? b=some u)
  (ho:∀ b,H b=some (.own a)->H' b=some (.own a)) (ht:∀ b xs,H b=some (.tup xs)->H' b=some (.tup xs)):Yp P w H' h' a o:=by
 induction o with
 | lst xs=>obtain⟨z,its,n,r,e⟩:=x;exact⟨z,its,n,r,k _ _ (.inl rfl) e⟩
 | tup xs=>obtain⟨z,its,r,ob,e,c⟩:=x;exact⟨z,its,r,ob,k _ _ (.inl rfl) e,c⟩
 | dK kvs=>obtain⟨z,y,vs,r,ob,es,ep,e,c⟩:=x;exact⟨z,y,vs,r,ob,es,ep,k _ _ (.inl rfl) e,c⟩
 | dT kvs =>
   obtain⟨z,y,xs,r,ob,es,ep,e,c⟩:=x;exact⟨z,y,xs,Paired.mapP r fun p q z=>⟨z.1,ht _ _ z.2.1,z.2.2⟩,ob,es,ep,k _ _ (.inl rfl) e,c⟩
 | set S n=>obtain⟨ob,es,ep,t,e,c⟩:=x;exact⟨ob,es,ep,t,k _ _ (.inl rfl) e,c⟩
 | ins C dx fs =>
   obtain⟨d,z,ne,e,mA,⟨od,es,ep,e2,c⟩,r⟩:=x;exact⟨ho _ d,z,ne,k _ _ (.inl rfl) e,mA,⟨od,es,ep,k _ _ (.inr d) e2,c⟩,r⟩
 | own y=>obtain⟨ob,e⟩:=x;exact⟨ob,k _ _ (.inl rfl) e⟩
 | xd fs=>obtain⟨mA,⟨od,es,ep,e,c⟩,r⟩:=x;exact⟨mA,⟨od,es,ep,k _ _ (.inl rfl) e,c⟩,r⟩
 | rng lo hi=>obtain⟨t,u,v,e⟩:=x;exact⟨t,u,v,k _ _ (.inl rfl) e⟩
 | frz ob u ih=>obtain⟨e,q⟩:=x;exact⟨k _ _ (.inl rfl) e,ih q⟩
 | tbl ps =>
   have e:h.get? a=some { cls:=.none,data:=.fields ps }:=x;show h'.get? a=some { cls:=.none,data:=.fields ps };exact k a _ (.inl rfl) e
 | met f y =>
   have e:h.get? a=some (PySem.W.methodObj (.ref f) (.ref y)):=x;show h'.get? a=some (PySem.W.methodObj (.ref f) (.ref y));exact k a _ (.inl rfl) e
 | ext φ=>obtain⟨p,⟨o,e⟩,st⟩:=x;exact⟨st _ _ p fun o q=>k _ _ (.inl rfl) q,⟨o,k _ _ (.inl rfl) e⟩,st⟩
theorem HOk.lt(x:HOk P w H h)(e:H a=some o):a<h.objs.size:=(x a o e).lt
theorem HOk.fresh(x:HOk P w H h)(e:h.objs.size<=a):H a=none:=by
 cases q:H a with
 | none=>rfl
 | some u=>exact absurd (zsy (x.lt q) e) (zt0 _)
theorem HOk.kept(x:HOk P w H h)(k:∀ b u,h.get? b=some u->h'.get? b=some u):HOk P w H h':=fun a o e =>
 (x a o e).stay (fun b u _ q=>k b u q) (fun _ q=>q) fun _ _ q=>q
theorem HOk.laid(x:HOk P w H h)(k:∀ b u,h.get? b=some u->h'.get? b=some u)(hp:h.objs.size<=a)(new:Yp P w (upd H a o) h' a o):HOk P w (upd H a o) h':=fun b u e=>by
 have hn:=x.fresh hp;by_cases hb:b=a
 ·subst hb;rw[Zb] at e;cases e;exact new
 ·rw[Zi hb] at e;exact(x b u e).stay (fun c v _ q=>k c v q) (fun c q=>by rw[Zi (Zh q hn)];exact q) fun c xs q=>by rw[Zi (Zh q hn)];exact q
end
def Rd(H:Hp)(a:Addr)(u:HO):Prop:=H a=some u\/∃ o,H a=some (.frz o u)
theorem Rd.ok(r:Rd H a u)(x:HOk P w H h):Yp P w H h a u:=by
 rcases r with r|⟨o,r⟩
 ·exact x a u r
 ·obtain⟨_,q⟩:=x a _ r;exact q
def Mut:Option HO->Prop
 | some (.lst _)=>True
 | some (.dK _)=>True
 | some (.dT _)=>True
 | some (.set _ _)=>True
 | some (.ins _ _ _)=>True
 | some (.ext _)=>True
 | _=>False
section
variable{P:Program}{w:World}{H:Hp}{h h':Heap}{x e:Addr}{o':HO}
theorem HOk.write(ok:HOk P w H h)(mu:Mut (H x))(he:e=x\/H e=some (.own x))(k:∀ b u,b≠e->h.get? b=some u->h'.get? b=some u)(heo:∃ u,h'.get? e=some u)
  (new:Yp P w (upd H x o') h' x o'):HOk P w (upd H x o') h':=fun b u q=>by
 have nown:∀ c y,H c=some (.own y)->c≠x:=fun c y r z=>by subst z;rw[r] at mu;exact mu
 have ntup:∀ c xs,H c=some (.tup xs)->c≠x:=fun c xs r z=>by subst z;rw[r] at mu;exact mu
 by_cases hb:b=x
 ·subst hb;rw[Zb] at q;cases q;exact new
 ·rw[Zi hb] at q;by_cases hbe:b=e
  ·have q':H b=some (.own x):=by
    rcases he with z|z
    ·exact absurd (hbe.trans z) hb
    ·rw[hbe];exact z
   rw[q] at q';cases q';obtain⟨v,hv⟩:=heo;exact⟨v,by rw[hbe];exact hv⟩
  ·refine(ok b u q).stay (fun c v hc r=>k c v ?_ r) (fun c r=>by rw[Zi (nown c b r)];exact r) fun c xs r=>by rw[Zi (ntup c xs r)];exact r
   rcases hc with rfl|hc
   ·exact hbe
   ·rintro rfl;rcases he with z|z
    ·exact nown c b hc z
    ·rw[hc] at z;cases z;exact hb rfl
end
structure Un(fs ex:List Addr)(H H':Hp)(h h':Heap):Prop where
 keep:∀ b o,h.get? b=some o->H b=none->b∉fs->b∉ex->h'.get? b=some o
 slot:∀ b o,h.get? b=some o->H b=none->b∈fs->b∉ex->∃ sl,h'.get? b=some { o with slots:=sl }
 free:∀ b o,h.get? b=some o->H b=none->b∉ex->H' b=none
 there:∀ b o,h.get? b=some o->b∉ex->∃ o',h'.get? b=some o'
 tups:∀ b xs,H b=some (.tup xs)->H' b=some (.tup xs)
 frzs:∀ b o u,H b=some (.frz o u)->H' b=some (.frz o u)
 tbls:∀ b ps,H b=some (.tbl ps)->∃ more,H' b=some (.tbl (ps++more))
section
variable{fs fs' ex ex':List Addr}{H H1 H2:Hp}{h h1 h2 h':Heap}{a x e:Addr}{o:HO}
theorem Un.any(u:Un fs ex H H1 h h1)(q:h.get? b=some ob)(n:H b=none)(hx:b∉ex):∃ sl,h1.get? b=some { ob with slots:=sl }:=by
 by_cases hb:b∈fs
 ·exact u.slot b ob q n hb hx
 ·exact⟨ob.slots,u.keep b ob q n hb hx⟩
theorem Un.kept(k:∀ b u,h.get? b=some u->h'.get? b=some u):Un fs ex H H h h' :=
 ⟨fun b ob q _ _ _=>k b ob q,fun b ob q _ _ _=>⟨ob.slots,k b ob q⟩,fun _ _ _ n _=>n,fun b ob q _=>⟨ob,k b ob q⟩,fun _ _ q=>q,fun _ _ _ q=>q,fun _ ps q=>⟨#[],by rw[q];simp⟩⟩
theorem Un.refl:Un fs ex H H h h:=Un.kept fun _ _ q=>q
theorem Un.laid(k:∀ b u,h.get? b=some u->h'.get? b=some u)(hp:h.objs.size<=a)(hn:H a=none):Un fs ex H (upd H a o) h h' where
 keep:=fun b u q _ _ _=>k b u q
 slot:=fun b u q _ _ _=>⟨u.slots,k b u q⟩
 free:=fun b u q n _=>by rw[Zi (zs9 (zsy (Heap.lt_size q) hp))];exact n
 there:=fun b u q _=>⟨u,k b u q⟩
 tups:=fun b xs q=>by rw[Zi (Zh q hn)];exact q
 frzs:=fun b u xs q=>by rw[Zi (Zh q hn)];exact q
 tbls:=fun b ps q=>⟨#[],by rw[Zi (Zh q hn),q];simp⟩
theorem Un.write(mu:Mut (H x))(he:e=x\/H e=some (.own x))(k:∀ b u,b≠e->h.get? b=some u->h'.get? b=some u)(heo:∃ u,h'.get? e=some u):Un fs ex H (upd H x o) h h':=by
 have hx:∀ b,H b=none->b≠x:=fun b n z=>by subst z;rw[n] at mu;exact mu
 have hb:∀ b,H b=none->b≠e:=fun b n z=>by
  subst z;rcases he with r|r
  ·exact hx b n r
  ·rw[n] at r;cases r
 have hm:∀ b u,H b=some u->¬ Mut (some u)->b≠x:=fun b u q nm z=>by subst z;rw[q] at mu;exact nm mu
 refine⟨fun b u q n _ _=>k b u (hb b n) q,fun b u q n _ _=>⟨u.slots,k b u (hb b n) q⟩,fun b u q n _=>by rw[Zi (hx b n)];exact n,fun b u q _=>?_,
  fun b xs q=>by rw[Zi (hm b _ q fun z=>z)];exact q,fun b u xs q=>by rw[Zi (hm b _ q fun z=>z)];exact q,fun b ps q=>⟨#[],by rw[Zi (hm b _ q fun z=>z),q];simp⟩⟩
 by_cases hbe:b=e
 ·subst hbe;exact heo
 ·exact⟨u,k b u hbe q⟩
end
def trk(h:Heap)(H:Hp):List Addr:=(List.range h.objs.size).filter fun a=>(H a).isSome
def Ff(h:Heap)(H:Hp):Heap:=PySem.W.hideAll h (trk h H)
theorem A9(h:Heap)(H:Hp):(Ff h H).objs.size=h.objs.size:=PySem.W.hideAll_size _ _
theorem zbp(e:h.get? b=some o)(n:H b=none):(Ff h H).get? b=some o :=
 PySem.W.hideAll_get _ e fun hm=>by
  have q:(H b).isSome=true:=(zts.mp hm).2;rw[n] at q;simp at q
theorem zd0(e:(Ff h H).get? b=some o):h.get? b=some o/\H b=none:=by
 have e':h.get? b=some o:=PySem.W.of_hideAll (trk h H) e;refine⟨e',?_⟩;cases q:H b with
 | none=>rfl
 | some x =>
   have hm:b∈trk h H:=zts.mpr ⟨zti.mpr (Heap.lt_size e'),by simp[q]⟩;have z:(Ff h H).get? b=none:=PySem.W.hideAll_none (trk h H) hm;rw[z] at e;cases e
structure Mod(K:Frag)(mg:Str->Option Value)(base:Heap):Prop where
 kin:K.In base
 glob:base.Ns mainGlobals mg
 blt:∃ mb,base.Ns builtinsNs mb/\∀ x:Str,x≠"__name__"->mb x=bootBuiltins x
 nolimit:base.NoLimit
structure Cx where
 prog:Program
 w:World
 K:Frag
 mg:Str->Option Value
 base:Heap
 A:Around
 N:List Str
 s₀:Shared
 H₀:Hp
 env:Env
 outer:List Env
 stack:List Env
 ex:List Addr
 fn:Str->Bool
 calm:Bool
 pn:List (Addr×Obj)
 xe:Value->Shared->Prop
 lk:List (Option V):=[]
def frs(l:List Env):List Addr:=l.filterMap (·.frame)
abbrev Cx.fs(X:Cx):List Addr:=frs X.outer
def Vis(sc:Scope)(x:Str):Prop:=sc.names.lookup x=some .local\/sc.names.lookup x=some .cell\/sc.names.lookup x=some .free
def Loc(sc:Scope)(x:Str):Prop:=sc.names.lookup x=some .local\/sc.names.lookup x=some .cell
def Look(env:Env)(h:Heap)(m:Str->Option Value)(x:Str)(u:Value):Prop :=
 (env.kindOf x=some .local/\m x=some u)\/((env.kindOf x=some .cell\/env.kindOf x=some .free)/\∃ c,env.cells.lookup x=some c/\h.IsCell c (some u))
structure Cx.Ok(X:Cx):Prop where
 mod:Mod X.K X.mg X.base
 kind:X.env.scope.kind=.function
 glob:X.env.globals=mainGlobals
 blt:X.env.builtins=builtinsNs
 above:X.s₀.heap.objs.size<=X.env.locals
 inj:∀ x y c,X.env.cells.lookup x=some c->X.env.cells.lookup y=some c->x=y
 has:∀ x,(X.env.kindOf x=some .cell\/X.env.kindOf x=some .free)->∃ c,X.env.cells.lookup x=some c
 cab:∀ x c,X.fn x=true->X.env.cells.lookup x=some c->X.s₀.heap.objs.size<=c
 hd:X.calm=true->X.A.handled=none
 frames:X.A.frames=some X.stack
 stk:X.stack=X.outer\/(X.stack=X.env :: X.outer/\X.env.frame=some X.env.locals)
 exf:∀ b∈X.ex,b≠X.env.locals/\∀ x c,X.env.cells.lookup x=some c->c≠b
 bs:∀ b o,X.base.get? b=some o->X.s₀.heap.get? b=some o/\X.H₀ b=none
 bsz:X.base.objs.size<=X.s₀.heap.objs.size
 noex:∀ b o,X.base.get? b=some o->b∉X.ex
 exfs:∀ b∈X.ex,b∉X.fs
 funs:X.s₀.heap.FunFrames X.base X.outer
 frf:∀ b∈X.fs,X.H₀ b=none
structure Inv(X:Cx)(pins:List (Addr×Obj))(σ:List (Option V))(H:Hp)(s:Shared):Prop where
 ok:X.Ok
 os:s.os=X.s₀.os
 bare:AllBare s.gens
 base:Un X.fs X.ex X.H₀ H X.s₀.heap s.heap
 loc:∃ m,s.heap.Ns X.env.locals m/\∀ (i:Nat) (x:Str) (v:V),X.N[i]?=some x->(σ[i]?=some (some v)\/X.lk[i]?=some (some v))->Vis X.env.scope x->∃ u,RelV v u/\Look X.env s.heap m x u
 cell:∀ x c,X.env.cells.lookup x=some c->∃ v,s.heap.IsCell c v
 free:H X.env.locals=none
 freeC:∀ x c,X.env.cells.lookup x=some c->H c=none
 pin:∀ p∈X.pn++pins,s.heap.get? p.1=some p.2/\H p.1=none/\p.1≠X.env.locals/\p.1∉X.fs/\∀ v,p.2.data≠.cell v
 hok:HOk X.prog X.w H s.heap
 len:σ.length=X.N.length
section
variable{X:Cx}{pins:List (Addr×Obj)}{σ:List (Option V)}{H H':Hp}{s:Shared}{h':Heap}
theorem Cx.Ok.nofr(ok:X.Ok)(e:X.base.get? b=some o):b∉X.fs:=fun hb=>by
 have:=(ok.funs.mem hb).1;rw[e] at this;cases this
theorem Inv.bs(I:Inv X pins σ H s):∀ b o,X.base.get? b=some o->s.heap.get? b=some o/\H b=none:=fun b o e =>
 ⟨I.base.keep b o (I.ok.bs b o e).1 (I.ok.bs b o e).2 (I.ok.nofr e) (I.ok.noex b o e),I.base.free b o (I.ok.bs b o e).1 (I.ok.bs b o e).2 (I.ok.noex b o e)⟩
theorem Inv.bk(I:Inv X pins σ H s):∀ b o,X.base.get? b=some o->s.heap.get? b=some o:=fun b o e=>(I.bs b o e).1
theorem Inv.mod(I:Inv X pins σ H s):Mod X.K X.mg X.base:=I.ok.mod
theorem Inv.kIn(I:Inv X pins σ H s):X.K.In s.heap:=I.ok.mod.kin.keeps I.bk
theorem Inv.lt(I:Inv X pins σ H s):X.env.locals<s.heap.objs.size:=let ⟨_,hn,_⟩:=I.loc;hn.lt
theorem Inv.sz(I:Inv X pins σ H s):X.s₀.heap.objs.size<=s.heap.objs.size:=zs3 I.ok.above (Nat.le_of_lt I.lt)
theorem Inv.nofs(I:Inv X pins σ H s)(h:s.heap.objs.size<=a):a∉X.fs:=fun hb=>by
 obtain⟨_,o,ho,_⟩:=I.ok.funs.mem hb;exact absurd (zsy (Heap.lt_size ho) (zs3 I.sz h)) (zt0 _)
theorem Inv.cne(I:Inv X pins σ H s):∀ x c,X.env.cells.lookup x=some c->c≠X.env.locals:=fun x c e z=>by
 obtain⟨v,o,ho,hd⟩:=I.cell x c e;obtain⟨m,⟨o',es,ep,ho',hd',_⟩,_⟩:=I.loc;rw[z,ho'] at ho;cases ho;rw[hd'] at hd;cases hd
theorem Inv.funs(I:Inv X pins σ H s):s.heap.FunFrames X.base X.outer:=by
 have all:∀ (l:List Env),(∀ b∈frs l,b∈X.fs)->X.s₀.heap.FunFrames X.base l->s.heap.FunFrames X.base l:=by
  intro l
  induction l with
  | nil=>intro _ _;trivial
  | cons env r ih =>
    intro hs hl;obtain⟨hk,⟨L,o,hf,hn,ho,hd⟩,hr⟩:=hl;have hL:L∈X.fs:=hs L (by unfold frs;rw[zuk,hf];exact zsz);obtain⟨sl,e⟩:=I.base.slot L o ho (I.ok.frf L hL) hL fun z=>I.ok.exfs L z hL;exact⟨hk,⟨L,_,hf,hn,e,hd⟩,ih (fun b hb=>hs b (by unfold frs;rw[zuk,hf];exact zsw _ hb)) hr⟩
 exact all X.outer (fun _ hb=>hb) I.ok.funs
theorem Inv.stack(I:Inv X pins σ H s):s.heap.FunFrames X.base X.stack:=by
 rcases I.ok.stk with e|⟨e,hf⟩
 ·rw[e];exact I.funs
 ·rw[e];obtain⟨m,hn,_⟩:=I.loc;refine .cons (by rw[I.ok.kind];decide) hf hn ?_ I.funs;exact Heap.get?_none_of_le (zs3 I.ok.bsz I.ok.above)
theorem Inv.stkSub(I:Inv X pins σ H s):∀ b∈frs X.stack,b∈X.env.locals :: X.fs:=fun b hb=>by
 rcases I.ok.stk with e|⟨e,hf⟩
 ·rw[e] at hb;exact zsw _ hb
 ·rw[e] at hb;unfold frs at hb;rw[zuk,hf] at hb;exact hb
theorem Inv.stkFree(I:Inv X pins σ H s):∀ b∈frs X.stack,H b=none:=fun b hb=>by
 rcases zsk.mp (I.stkSub b hb) with e|hb
 ·rw[e];exact I.free
 ·obtain⟨_,o,ho,_⟩:=I.ok.funs.mem hb;exact I.base.free b o ho (I.ok.frf b hb) fun z=>I.ok.exfs b z hb
theorem Inv.step{g':Array GenState}{t':Nat}{d':Drawn}{ch:List Addr}(I:Inv X pins σ H s)
  (hch:∀ b∈ch,(b∈X.ex\/X.s₀.heap.objs.size<=b)/\b≠X.env.locals/\(∀ x c,X.env.cells.lookup x=some c->c≠b)/\∀ p∈X.pn++pins,p.1≠b)
  (keep:∀ b o,b≠X.env.locals->b∉X.fs->b∉ch->s.heap.get? b=some o->H b=none->h'.get? b=some o)
  (slot:∀ b o,b≠X.env.locals->b∈X.fs->b∉ch->s.heap.get? b=some o->H b=none->∃ sl,h'.get? b=some { o with slots:=sl }) (free:∀ b o,b∉ch->s.heap.get? b=some o->H b=none->H' b=none)
  (there:∀ b o,b∉ch->s.heap.get? b=some o->∃ o',h'.get? b=some o')
  (tups:∀ b xs,H b=some (.tup xs)->H' b=some (.tup xs)) (frzs:∀ b o u,H b=some (.frz o u)->H' b=some (.frz o u)) (tbls:∀ b ps,H b=some (.tbl ps)->∃ more,H' b=some (.tbl (ps++more)))
  (ns:∀ m,s.heap.Ns X.env.locals m->h'.Ns X.env.locals m) (hok:HOk X.prog X.w H' h') (hg:AllBare g') :
  Inv X pins σ H' { s with heap:=h',gens:=g',drawn:=d',toks:=t' }:=by
 have neL:∀ b o,X.s₀.heap.get? b=some o->b≠X.env.locals:=fun b o e=>zs9 (zsy (Heap.lt_size e) I.ok.above);have neC:∀ b o,X.s₀.heap.get? b=some o->b∉X.ex->b∉ch:=fun b o e hx hb=>by
  rcases(hch b hb).1 with z|z
  ·exact hx z
  ·exact absurd (zsy (Heap.lt_size e) z) (zt0 _)
 have cellK:∀ x c,X.env.cells.lookup x=some c->∀ v,s.heap.IsCell c v->h'.IsCell c v:=fun x c e v ⟨o,ho,hd⟩=>by
  have nch:c∉ch:=fun z=>(hch c z).2.2.1 x c e rfl;by_cases hc:c∈X.fs
  ·obtain⟨sl,q⟩:=slot c o (I.cne x c e) hc nch ho (I.freeC x c e);exact⟨_,q,hd⟩
  ·exact⟨o,keep c o (I.cne x c e) hc nch ho (I.freeC x c e),hd⟩
 refine⟨I.ok,I.os,hg,⟨fun b o e n hb hx=>?_,fun b o e n hb hx=>?_,fun b o e n hx=>?_,fun b o e hx=>?_,fun b xs e=>tups b xs (I.base.tups b xs e),fun b o xs e=>frzs b o xs (I.base.frzs b o xs e),fun b ps e=>?_⟩,?_,fun x c e=>?_,?_,fun x c e=>?_,fun p hp=>?_,hok,I.len⟩
 ·exact keep b o (neL b o e) hb (neC b o e hx) (I.base.keep b o e n hb hx) (I.base.free b o e n hx)
 ·obtain⟨sl,e1⟩:=I.base.slot b o e n hb hx;obtain⟨sl',e2⟩:=slot b _ (neL b o e) hb (neC b o e hx) e1 (I.base.free b o e n hx);exact⟨sl',e2⟩
 ·obtain⟨o',e1⟩:=I.base.there b o e hx;exact free b o' (neC b o e hx) e1 (I.base.free b o e n hx)
 ·obtain⟨o',e1⟩:=I.base.there b o e hx;exact there b o' (neC b o e hx) e1
 ·obtain⟨m1,e1⟩:=I.base.tbls b ps e;obtain⟨m2,e2⟩:=tbls b _ e1;exact⟨m1++m2,by rw[e2,Array.append_assoc]⟩
 ·obtain⟨m,hn,hl⟩:=I.loc;refine⟨m,ns m hn,fun i x v e1 e2 e3=>?_⟩;obtain⟨u,r,l⟩:=hl i x v e1 e2 e3;refine⟨u,r,?_⟩;rcases l with l|⟨k,c,e,z⟩
  ·exact .inl l
  ·exact .inr ⟨k,c,e,cellK x c e _ z⟩
 ·obtain⟨v,z⟩:=I.cell x c e;exact⟨v,cellK x c e v z⟩
 ·obtain⟨m,⟨o,_,_,ho,_⟩,_⟩:=I.loc;exact free _ o (fun z=>(hch _ z).2.1 rfl) ho I.free
 ·obtain⟨v,o,ho,hd⟩:=I.cell x c e;exact free c o (fun z=>(hch c z).2.2.1 x c e rfl) ho (I.freeC x c e)
 ·obtain⟨e,n,ne,nf,d⟩:=I.pin p hp;have nch:p.1∉ch:=fun z=>(hch p.1 z).2.2.2 p hp rfl;exact⟨keep p.1 p.2 ne nf nch e n,free p.1 p.2 nch e n,ne,nf,d⟩
theorem Inv.un{t':Nat}(I:Inv X pins σ H s)(u:Un X.fs [] H H' s.heap h')(hok:HOk X.prog X.w H' h'):Inv X pins σ H' { s with heap:=h',toks:=t' }:=by
 obtain⟨m,⟨o,es,ep,ho,r⟩,_⟩:=id I.loc;obtain⟨sl,hL⟩:=u.any ho I.free (by simp);exact I.step (g':=s.gens) (d':=s.drawn) (ch:=[]) (fun _ z=>nomatch z) (fun b o _ hb _ e n=>u.keep b o e n hb (by simp)) (fun b o _ hb _ e n=>u.slot b o e n hb (by simp)) (fun b o _ e n=>u.free b o e n (by simp)) (fun b o _ e=>u.there b o e (by simp)) u.tups u.frzs u.tbls (fun m' hm=>by
  obtain⟨o',es',ep',ho',r'⟩:=hm;rw[ho] at ho';cases ho';exact⟨_,es',ep',hL,r'⟩) hok I.bare
theorem Inv.call{g':Array GenState}{t':Nat}{d':Drawn}{ch:List Addr}(I:Inv X pins σ H s)(u:Un (frs X.stack) ch H H' s.heap h')(hok:HOk X.prog X.w H' h')(hg:AllBare g')
  (hch:∀ b∈ch,(b∈X.ex\/X.s₀.heap.objs.size<=b)/\b≠X.env.locals/\(∀ x c,X.env.cells.lookup x=some c->c≠b)/\∀ p∈X.pn++pins,p.1≠b) :
  Inv X pins σ H' { s with heap:=h',gens:=g',drawn:=d',toks:=t' }:=by
 obtain⟨m,⟨o,es,ep,ho,r⟩,_⟩:=id I.loc;obtain⟨sl,hL⟩:=u.any ho I.free fun z=>(hch _ z).2.1 rfl;exact I.step (ch:=ch) hch (fun b o hL hb hc e n=>u.keep b o e n (fun z=>(zsk.mp (I.stkSub b z)).elim hL hb) hc) (fun b o _ _ hc e n=>u.any e n hc) (fun b o hc e n=>u.free b o e n hc) (fun b o hc e=>u.there b o e hc) u.tups u.frzs u.tbls (fun m' hm=>by
  obtain⟨o',es',ep',ho',r'⟩:=hm;rw[ho] at ho';cases ho';exact⟨_,es',ep',hL,r'⟩) hok hg
theorem Inv.turned{t':Nat}{it:Addr}(I:Inv X pins σ H s)(k:∀ b o,b≠it->s.heap.get? b=some o->h'.get? b=some o)(hn:H it=none)(hL:it≠X.env.locals)
  (h1:it∈X.ex\/X.s₀.heap.objs.size<=it) (h2:∀ x c,X.env.cells.lookup x=some c->c≠it) (h3:∀ p∈X.pn++pins,p.1≠it):Inv X pins σ H { s with heap:=h',toks:=t' }:=by
 have nit:∀ b u,H b=some u->b≠it:=fun b u e z=>by rw[z,hn] at e;cases e
 refine I.step (g':=s.gens) (d':=s.drawn) (ch:=[it]) (fun b hb=>?_) (fun b o _ _ hc e _=>k b o (fun z=>hc (by simp[z])) e) (fun b o _ _ hc e _=>⟨o.slots,k b o (fun z=>hc (by simp[z])) e⟩) (fun _ _ _ _ n=>n)
  (fun b o hc e=>⟨o,k b o (fun z=>hc (by simp[z])) e⟩) (fun _ _ e=>e) (fun _ _ _ e=>e) (fun b ps e=>⟨#[],by rw[e];simp⟩) (fun m hm=>?_) (fun b u e=>?_) I.bare
 ·have e:b=it:=by simpa using hb
  subst e;exact⟨h1,hL,h2,h3⟩
 ·obtain⟨o,es,ep,ho,r⟩:=hm;exact⟨o,es,ep,k _ o (Ne.symm hL) ho,r⟩
 ·refine(I.hok b u e).stay (fun c v hc q=>k c v ?_ q) (fun _ q=>q) fun _ _ q=>q;rcases hc with z|z
  ·rw[z];exact nit b u e
  ·exact nit c _ z
theorem Inv.tok(I:Inv X pins σ H s)(t:Nat):Inv X pins σ H { s with toks:=t }:=I.un (h':=s.heap) (t':=t) Un.refl I.hok
theorem Inv.kept(I:Inv X pins σ H s)(k:∀ b u,s.heap.get? b=some u->h'.get? b=some u):Inv X pins σ H { s with heap:=h',toks:=t' }:=I.un (Un.kept k) (I.hok.kept k)
theorem Inv.laid(I:Inv X pins σ H s)(k:∀ b u,s.heap.get? b=some u->h'.get? b=some u)(hp:s.heap.objs.size<=a)(new:Yp X.prog X.w (upd H a o) h' a o) :
  Inv X pins σ (upd H a o) { s with heap:=h',toks:=t' }:=I.un (Un.laid k hp (I.hok.fresh hp)) (I.hok.laid k hp new)
theorem Inv.write(I:Inv X pins σ H s)(mu:Mut (H x))(he:e=x\/H e=some (.own x))(k:∀ b u,b≠e->s.heap.get? b=some u->h'.get? b=some u)(heo:∃ u,h'.get? e=some u)
  (new:Yp X.prog X.w (upd H x o) h' x o):Inv X pins σ (upd H x o) { s with heap:=h',toks:=t' }:=I.un (Un.write mu he k heo) (I.hok.write mu he k heo new)
theorem Inv.weak(I:Inv X pins σ H s)(hl:σ'.length=σ.length)(w:∀ (i:Nat) v,σ'[i]?=some (some v)->σ[i]?=some (some v)):Inv X pins σ' H s :=
 ⟨I.ok,I.os,I.bare,I.base,let ⟨m,hn,hl'⟩:=I.loc;⟨m,hn,fun i x v e1 e2 e3=>hl' i x v e1 (e2.imp_left (w i v)) e3⟩,I.cell,I.free,I.freeC,I.pin,I.hok,hl.trans I.len⟩
theorem Inv.pins_of(I:Inv X pins σ H s)(h:∀ p∈pins',s.heap.get? p.1=some p.2/\H p.1=none/\p.1≠X.env.locals/\p.1∉X.fs/\∀ v,p.2.data≠.cell v):Inv X pins' σ H s :=
 ⟨I.ok,I.os,I.bare,I.base,I.loc,I.cell,I.free,I.freeC,fun p hp=>(zsv.mp hp).elim (fun z=>I.pin p (zs8 _ z)) (h p),I.hok,I.len⟩
theorem Lw{N:List Str}(hN:N.Nodup){i j:Nat}{x:Str}(a:N[i]?=some x)(b:N[j]?=some x):i=j:=by
 obtain⟨h1,e1⟩:=zsj.mp a;obtain⟨h2,e2⟩:=zsj.mp b;exact(List.getElem_inj hN).mp (e1.trans e2.symm)
def Cv(X:Cx)(i:Nat)(x:Str):Prop:=(X.fn x=true\/X.env.scope.names.lookup x=some .local)/\∀ v,X.lk[i]?≠some (some v)
theorem Xu{i:Nat}:∀ v:V,([]:List (Option V))[i]?≠some (some v):=fun _ h=>by simp at h
theorem Hq{M:Model}{A:Around}{E:Value->Shared->Prop}{i:Nat}{x:Str}{v:V}{u:Value}{Q:Unit->Shared->Prop}(I:Inv X pins σ H s)(hN:X.N.Nodup)(hi:X.N[i]?=some x)(hx:Loc X.env.scope x)(r:RelV v u)
  (h:∀ s',Inv X pins (σ.set i (some v)) H s'->(∃ a,Heap.SameBut a s.heap s'.heap/\(a=X.env.locals\/X.env.cells.lookup x=some a))->Q () s') (hf:Cv X i x:=by first|exact⟨.inl rfl,Xu⟩|exact⟨.inr rfl,Xu⟩|assumption|exact⟨.inl rfl,by assumption⟩|exact⟨.inr rfl,by assumption⟩):wpAny M A (storeName X.env x u) Q E s:=by
 obtain⟨m,hn,hl⟩:=id I.loc;have hcls:(X.env.scope.kind == .class||(X.env.scope.kind == .module&&X.env.locals != X.env.globals))=false:=by rw[I.ok.kind];rfl
 have hiσ:i<σ.length:=by rw[I.len];exact(zsj.mp hi).1
 have cne:=I.cne;have tracked:∀ {a:Addr} {h':Heap},(∃ o,s.heap.get? a=some o/\H a=none)->Heap.SameBut a s.heap h'->HOk X.prog X.w H h':=fun {a h'} ha hs b ob e=>by
  obtain⟨_,_,hfree⟩:=ha;refine(I.hok b ob e).stay (fun c w' hc q=>(hs.2 c ?_).trans q) (fun _ q=>q) fun _ _ q=>q;rintro rfl;rcases hc with rfl|hc
  ·rw[hfree] at e;cases e
  ·rw[hfree] at hc;cases hc
 rcases hx with hk|hk
 ·refine wpAny_storeName_local hk hn (fun h' hn' hs=>?_) hcls;obtain⟨oL,_,_,hoL,_⟩:=id hn;refine h _ ⟨I.ok,I.os,I.bare,⟨fun b o e n hb hx=>?_,fun b o e n hb hx=>?_,I.base.free,fun b o e hx=>?_,I.base.tups,I.base.frzs,I.base.tbls⟩,⟨_,hn',fun j y v' e1 e2 e3=>?_⟩,fun y c e=>?_,I.free,I.freeC,fun p hp=>?_,tracked ⟨oL,hoL,I.free⟩ hs,by simpa using I.len⟩ ⟨_,hs,.inl rfl⟩
  ·exact(hs.2 b (zs9 (zsy (Heap.lt_size e) I.ok.above))).trans (I.base.keep b o e n hb hx)
  ·obtain⟨sl,e1⟩:=I.base.slot b o e n hb hx;exact⟨sl,(hs.2 b (zs9 (zsy (Heap.lt_size e) I.ok.above))).trans e1⟩
  ·obtain⟨o',e1⟩:=I.base.there b o e hx;exact⟨o',(hs.2 b (zs9 (zsy (Heap.lt_size e) I.ok.above))).trans e1⟩
  ·by_cases hj:j=i
   ·subst hj;rw[hi] at e1;cases e1;rcases e2 with e2|e2
    case' inr=>exact absurd e2 (hf.2 _)
    rw[ztj hiσ] at e2;cases e2;exact⟨u,r,.inl ⟨hk,by simp⟩⟩
   ·have e2:σ[j]?=some (some v')\/X.lk[j]?=some (some v'):=e2.imp_left fun z=>by rw[ztf (Ne.symm hj)] at z;exact z
    obtain⟨u',r',q⟩:=hl j y v' e1 e2 e3;refine⟨u',r',?_⟩;rcases q with ⟨k,e⟩|⟨k,c,e,z⟩
    ·refine .inl ⟨k,?_⟩;have:y≠x:=fun e=>hj (Lw hN e1 (e▸hi));simp[this,e]
    ·exact .inr ⟨k,c,e,z.sameBut hs (cne y c e)⟩
  ·obtain⟨w',z⟩:=I.cell y c e;exact⟨w',z.sameBut hs (cne y c e)⟩
  ·obtain⟨e,n,ne,nf,d⟩:=I.pin p hp;exact⟨(hs.2 p.1 ne).trans e,n,ne,nf,d⟩
 ·have hfn:X.fn x=true:=by
   rcases hf.1 with z|z
   ·exact z
   ·rw[z] at hk;cases hk
  obtain⟨c,hc⟩:=I.ok.has x (.inl hk);obtain⟨w',z⟩:=I.cell x c hc;refine wpAny_storeName_cell I.ok.kind hk hc z (fun h' hc' hs=>?_);obtain⟨oc,hoc,hocd⟩:=id z;refine h { s with heap:=h' } ⟨I.ok,I.os,I.bare,⟨fun b o e n hb hx=>?_,fun b o e n hb hx=>?_,I.base.free,fun b o e hx=>?_,I.base.tups,I.base.frzs,I.base.tbls⟩,⟨m,hn.sameBut hs (Ne.symm (cne x c hc)),fun j y v' e1 e2 e3=>?_⟩,fun y c' e=>?_,I.free,I.freeC,fun p hp=>?_,tracked ⟨oc,hoc,I.freeC x c hc⟩ hs,by simpa using I.len⟩ ⟨c,hs,.inr hc⟩
  ·exact(hs.2 b (zs9 (zsy (Heap.lt_size e) (I.ok.cab x c hfn hc)))).trans (I.base.keep b o e n hb hx)
  ·obtain⟨sl,e1⟩:=I.base.slot b o e n hb hx;exact⟨sl,(hs.2 b (zs9 (zsy (Heap.lt_size e) (I.ok.cab x c hfn hc)))).trans e1⟩
  ·obtain⟨o',e1⟩:=I.base.there b o e hx;exact⟨o',(hs.2 b (zs9 (zsy (Heap.lt_size e) (I.ok.cab x c hfn hc)))).trans e1⟩
  ·by_cases hj:j=i
   ·subst hj;rw[hi] at e1;cases e1;rcases e2 with e2|e2
    case' inr=>exact absurd e2 (hf.2 _)
    rw[ztj hiσ] at e2;cases e2;exact⟨u,r,.inr ⟨.inl hk,c,hc,hc'⟩⟩
   ·have e2:σ[j]?=some (some v')\/X.lk[j]?=some (some v'):=e2.imp_left fun z=>by rw[ztf (Ne.symm hj)] at z;exact z
    obtain⟨u',r',q⟩:=hl j y v' e1 e2 e3;refine⟨u',r',?_⟩;rcases q with q|⟨k,c',e,z'⟩
    ·exact .inl q
    ·refine .inr ⟨k,c',e,z'.sameBut hs ?_⟩;rintro rfl;exact hj (Lw hN e1 (I.ok.inj _ _ _ e hc▸hi))
  ·by_cases hcc:c'=c
   ·subst hcc;exact⟨_,hc'⟩
   ·obtain⟨w2,z2⟩:=I.cell y c' e;exact⟨w2,z2.sameBut hs hcc⟩
  ·obtain⟨e,n,ne,nf,d⟩:=I.pin p hp;refine⟨(hs.2 p.1 ?_).trans e,n,ne,nf,d⟩;intro q;rw[q,hoc] at e;have q':oc=p.2:=Option.some.inj e;exact d w' (by rw[<- q'];exact hocd)
theorem Ly(I:Inv X pins σ H s)(hN:X.N.Nodup)(hi:X.N[i]?=some x)(hx:Loc X.env.scope x)(r:RelV v u)
  (h:∀ s',Inv X pins (σ.set i (some v)) H s'->Q () s') (hf:Cv X i x:=by first|exact⟨.inl rfl,Xu⟩|exact⟨.inr rfl,Xu⟩|assumption|exact⟨.inl rfl,by assumption⟩|exact⟨.inr rfl,by assumption⟩):wpAny M A (storeName X.env x u) Q E s :=
 Hq I hN hi hx r (fun s' I' _=>h s' I') hf
theorem Inv.call'(I:Inv X pins σ H s)(ho:s'.os=s.os)(u:Un (frs X.stack) ch H H' s.heap s'.heap)(hok:HOk X.prog X.w H' s'.heap)(hg:AllBare s'.gens)
  (hch:∀ b∈ch,(b∈X.ex\/X.s₀.heap.objs.size<=b)/\b≠X.env.locals/\(∀ x c,X.env.cells.lookup x=some c->c≠b)/\∀ p∈X.pn++pins,p.1≠b):Inv X pins σ H' s':=by
 obtain⟨h',g',d',t',o'⟩:=s';have e:o'=s.os:=ho;subst e;exact I.call (g':=g') (t':=t') (d':=d') u hok hg hch
end
abbrev XK:=Value->Option Addr->Hp->Prop
abbrev St:=List (Option V)
abbrev VK:=V->Hp->Prop
abbrev TE:=St->Hp->VK->Prop
abbrev TT:=St->Hp->(Bool->Hp->Prop)->Prop
abbrev TA:=St->Hp->(List V->Hp->Prop)->Prop
structure Og where
 nx:St->Hp->Prop
 rt:VK
 bk:St->Hp->Prop:=fun _ _=>False
 ct:St->Hp->Prop:=fun _ _=>False
abbrev TS:=Og->St->Hp->Prop
def EP(X:Cx)(pins:List (Addr×Obj))(σ:St)(Q:VK)(u:Value)(s':Shared):Prop:=∃ v H',Inv X pins σ H' s'/\RelV v u/\Q v H'
def TP(X:Cx)(pins:List (Addr×Obj))(σ:St)(Q:Bool->Hp->Prop)(b:Bool)(s':Shared):Prop:=∃ H',Inv X pins σ H' s'/\Q b H'
def AP(X:Cx)(pins:List (Addr×Obj))(σ:St)(Q:List V->Hp->Prop)(us:List Value)(s':Shared):Prop:=∃ vs H',Inv X pins σ H' s'/\Vals vs us/\Q vs H'
def SP(X:Cx)(pins:List (Addr×Obj))(D:Og)(f:Flow)(s':Shared):Prop :=
 match f with
 | .next=>∃ σ' H',Inv X pins σ' H' s'/\D.nx σ' H'
 | .brk=>∃ σ' H',Inv X pins σ' H' s'/\D.bk σ' H'
 | .cont=>∃ σ' H',Inv X pins σ' H' s'/\D.ct σ' H'
 | .ret u=>∃ v σ' H',Inv X pins σ' H' s'/\RelV v u/\D.rt v H'
def PE(X:Cx)(e:Expr)(t:TE):Prop :=
 ∀ (pins:List (Addr×Obj)) (s:Shared) (σ:St) (H:Hp) (Q:VK),Inv X pins σ H s->t σ H Q->wpAny (model X.prog X.w) X.A (eval e X.env) (EP X pins σ Q) X.xe s
def PT(X:Cx)(e:Expr)(t:TT):Prop :=
 ∀ (pins:List (Addr×Obj)) (s:Shared) (σ:St) (H:Hp) (Q:Bool->Hp->Prop),Inv X pins σ H s->t σ H Q->wpAny (model X.prog X.w) X.A (isTrue e X.env (eval e X.env)) (TP X pins σ Q) X.xe s
def PW(X:Cx)(e:Expr)(t:TT):Prop :=
 ∀ (whole:Sem Value) (pins:List (Addr×Obj)) (s:Shared) (σ:St) (H:Hp) (Q:Bool->Hp->Prop),Inv X pins σ H s->t σ H Q->wpAny (model X.prog X.w) X.A (isTrue e X.env whole) (TP X pins σ Q) X.xe s
theorem PW.pt(h:PW X e t):PT X e t:=h _
def PA(X:Cx)(es:List Expr)(t:TA):Prop :=
 ∀ (pos:Pos) (pins:List (Addr×Obj)) (s:Shared) (σ:St) (H:Hp) (Q:List V->Hp->Prop),Inv X pins σ H s->t σ H Q->wpAny (model X.prog X.w) X.A (spliced (backTo pos (starEach es X.env))) (AP X pins σ Q) X.xe s
def PS(X:Cx)(st:Stmt)(t:TS):Prop :=
 ∀ (pins:List (Addr×Obj)) (s:Shared) (σ:St) (H:Hp) (D:Og),Inv X pins σ H s->t D σ H->wpAny (model X.prog X.w) X.A (exec st X.env) (SP X pins D) X.xe s
def PSs(X:Cx)(st:List Stmt)(t:TS):Prop :=
 ∀ (pins:List (Addr×Obj)) (s:Shared) (σ:St) (H:Hp) (D:Og),Inv X pins σ H s->t D σ H->wpAny (model X.prog X.w) X.A (execs st X.env) (SP X pins D) X.xe s
theorem thn(h:wpAny M A t Q E s)(hQ:∀ a s,Q a s->Q' a s):wpAny M A t Q' E s:=wpAny_mono h hQ fun _ _ x=>x
section
variable{X:Cx}
inductive tVar(i:Nat)(σ:L2.St)(H:Hp)(Q:VK):Prop where
 | mk(v)(_:σ[i]?=some (some v))(_:Q v H)
def tC(v:V):TE:=fun _ H Q=>Q v H
theorem zfr(hN:X.N[i]?=some x)(hv:Vis X.env.scope x)(hd:(x == ("__debug__":Str))=false:=by decide)(hcd:(x == ("__classdict__":Str))=false:=by decide):PE X (.Name x pos) (tVar i):=by
 intro pins s σ H Q I h;obtain⟨v,e,h⟩:=h;obtain⟨m,hn,hl⟩:=I.loc;obtain⟨u,r,l⟩:=hl i x v hN (.inl e) hv;have fin:EP X pins σ Q u s:=⟨v,H,I,r,h⟩;rcases l with ⟨hk,hm⟩|⟨hk,c,hc,hcell⟩
 ·exact wpAny_Name (wpAny_loadName_local I.ok.kind hk hn hm fin) hd
 ·rcases hk with hk|hk
  ·exact wpAny_Name (wpAny_loadName_cell I.ok.kind hk hc hcell fin) hd
  ·exact wpAny_Name (wpAny_loadName_free I.ok.kind hk hc hcell fin hcd) hd
theorem Zg{i j pos}:PE X (.Constant (.int i) j pos) (tC (.int i)):=fun _ _ _ H _ I h=>wpAny_Constant_int ⟨.int i,H,I.tok _,⟨_,rfl⟩,h⟩
theorem Vd{b j pos}:PE X (.Constant (.bool b) j pos) (tC (.bl b)):=fun _ _ _ H _ I h=>Constant_bool ⟨.bl b,H,I,rfl,h⟩
theorem X1{j pos}:PE X (.Constant .none j pos) (tC .non):=fun _ _ _ H _ I h=>Constant_none ⟨.non,H,I,rfl,h⟩
theorem Zl{x j pos}:PE X (.Constant (.str x) j pos) (tC (.str x)):=fun _ _ _ H _ I h=>Calls.Constant_str ⟨.str x,H,I.tok _,⟨_,rfl⟩,h⟩
def Gl(X:Cx)(x:Str):Prop:=X.env.kindOf x=some .globalImplicit
theorem Qq(I:Inv X pins σ H s)(hg:Gl X x)(hm:X.mg x=some u)(h:Q u s)
  (hd:(x == ("__debug__":Str))=false:=by decide):wpAny (model X.prog X.w) X.A (eval (.Name x pos) X.env) Q E s :=
 Calls.Name_function_global I.ok.kind hg (Calls.loadGlobal_global (by rw[I.ok.glob];exact I.mod.glob.keeps I.bk) hm h) hd
theorem Nb(I:Inv X pins σ H s)(hg:Gl X x)(hm:X.mg x=none)(hv:bootBuiltins x=some u)(h:Q u s)
  (hn:x≠"__name__":=by decide) (hd:(x == ("__debug__":Str))=false:=by decide):wpAny (model X.prog X.w) X.A (eval (.Name x pos) X.env) Q E s:=by
 obtain⟨mb,h1,h2⟩:=I.mod.blt;exact Calls.Name_function_global I.ok.kind hg (Calls.loadGlobal_builtin (by rw[I.ok.glob];exact I.mod.glob.keeps I.bk) hm (by rw[I.ok.blt];exact h1.keeps I.bk) ((h2 x hn).trans hv) h) hd
theorem B2(hg:Gl X x)(hm:X.mg x=some u)(r:RelV v u)(hd:(x == ("__debug__":Str))=false:=by decide):PE X (.Name x pos) (tC v) :=
 fun _ _ _ H _ I h=>Qq I hg hm ⟨v,H,I,r,h⟩ hd
theorem S8(hg:Gl X x)(hm:X.mg x=none)(hv:bootBuiltins x=some u)(r:RelV v u)(hn:x≠"__name__":=by decide)(hd:(x == ("__debug__":Str))=false:=by decide):PE X (.Name x pos) (tC v) :=
 fun _ _ _ H _ I h=>Nb I hg hm hv ⟨v,H,I,r,h⟩ hn hd
variable{a b:Expr}{ta tb:TE}{pos:Pos}
def PC(X:Cx)(op:CmpOp)(a b:Expr)(t:TE):Prop :=
 ∀ (pins:List (Addr×Obj)) (s:Shared) (σ:St) (H:Hp) (Q:VK),Inv X pins σ H s->t σ H Q ->
   wpAny (model X.prog X.w) X.A (eval a X.env) (fun v s₁=>wpAny (model X.prog X.w) X.A (eval b X.env) (fun u s₂=>wpAny (model X.prog X.w) X.A (compareOp op v u) (EP X pins σ Q) X.xe s₂) X.xe s₁) X.xe s
inductive tBI(Q:Bool->Hp->Prop)(x:V)(H1:Hp):Prop where
 | mk(c)(_:x=.bl c)(_:Q c H1)
def tB(t:TE):TT:=fun σ H Q=>t σ H fun x H1=>tBI Q x H1
theorem Ph(h:PC X op a b t)(h1:behindInMarks op b=false:=by first|exact nobehind _ ⋯ ⋯|rfl):PT X (.Compare a [op] [b] pos) (tB t):=by
 intro pins s σ H Q I hw;refine wpAny_isTrue_Compare1 (thn (h pins s σ H _ I hw) fun v s1 h1=>thn h1 fun u s2 h2=>thn h2 fun c s3 ⟨x,H1,I1,r1,q1⟩=>?_) h1;obtain⟨d,rfl,q⟩:=q1;cases r1;exact wpAny_truthy_bool ⟨H1,I1,q⟩
theorem Wn(h:PE X e t)(he:∀ whole,isTrue e X.env whole=(do let v <- whole;standAt e.pos;holding [v] (truthy v)):=by intro _;rfl):PT X e (tB t):=by
 intro pins s σ H Q I hw;refine isTrue_plain (thn (h pins s σ H _ I hw) fun v s1 ⟨x,H1,I1,r1,q1⟩=>?_) (he _);obtain⟨d,rfl,q⟩:=q1;cases r1;exact wpAny_truthy_bool ⟨H1,I1,q⟩
variable{tA tB':TT}{rest:List Expr}
def zi8(t u:TT):TT:=fun σ H Q=>t σ H fun c H1=>if c=true then u σ H1 Q else Q false H1
def tOr(t u:TT):TT:=fun σ H Q=>t σ H fun c H1=>if c=true then Q true H1 else u σ H1 Q
def zi9(t:TT):TT:=fun σ H Q=>t σ H fun c H1=>Q (!c) H1
theorem S9(ha:PT X a tA):PW X (.BoolOp .And [a] pos) tA:=by
 intro wh pins s σ H Q I h;refine isTrue_and (thn (ha pins s σ H Q I h) fun c s1 e=>?_);cases c with
 | true=>exact isTrue_and_nil e
 | false=>exact e
theorem W3(ha:PT X a tA):PW X (.BoolOp .Or [a] pos) tA:=by
 intro wh pins s σ H Q I h;refine isTrue_or (thn (ha pins s σ H Q I h) fun c s1 e=>?_);cases c with
 | false=>exact isTrue_or_nil e
 | true=>exact e
theorem Pj(ha:PT X a tA)(hb:PW X (.BoolOp .And (b :: rest) pos) tB'):PW X (.BoolOp .And (a :: b :: rest) pos) (zi8 tA tB'):=by
 intro wh pins s σ H Q I h;refine isTrue_and (thn (ha pins s σ H _ I h) fun c s1 ⟨H1,I1,q1⟩=>?_);cases c with
 | true=>exact hb wh pins s1 σ H1 Q I1 q1
 | false=>exact⟨H1,I1,q1⟩
theorem V1(ha:PT X a tA)(hb:PW X (.BoolOp .Or (b :: rest) pos) tB'):PW X (.BoolOp .Or (a :: b :: rest) pos) (tOr tA tB'):=by
 intro wh pins s σ H Q I h;refine isTrue_or (thn (ha pins s σ H _ I h) fun c s1 ⟨H1,I1,q1⟩=>?_);cases c with
 | true=>exact⟨H1,I1,q1⟩
 | false=>exact hb wh pins s1 σ H1 Q I1 q1
theorem V6(ha:PT X a tA):PT X (.UnaryOp .Not a pos) (zi9 tA):=by
 intro pins s σ H Q I h;exact isTrue_not (ha pins s σ H (fun c H1=>Q (!c) H1) I h)
inductive zfs(tb:TE)(σ:L2.St)(Q:VK)(x:V)(H1:Hp):Prop where
 | mk(c)(_:x=.bl c)(_:if c=true then tb σ H1 Q else Q (.bl false) H1)
def zhm(ta tb:TE):TE:=fun σ H Q=>ta σ H fun x H1=>zfs tb σ Q x H1
inductive zft(Q:VK)(x:V)(H1:Hp):Prop where
 | mk(c)(_:x=.bl c)(_:Q (.bl (!c)) H1)
def zhn(ta:TE):TE:=fun σ H Q=>ta σ H fun x H1=>zft Q x H1
theorem Cw{op}(h:PE X a t):PE X (.BoolOp op [a] pos) t:=fun pins s σ H Q I hw=>BoolOp_one (h pins s σ H Q I hw)
theorem Fg(ha:PE X a ta)(hb:PE X (.BoolOp .And (b :: rest) pos) tb):PE X (.BoolOp .And (a :: b :: rest) pos) (zhm ta tb):=by
 intro pins s σ H Q I h;refine BoolOp_and (thn (ha pins s σ H _ I h) fun v s1 ⟨x,H1,I1,r1,q1⟩=>?_);obtain⟨c,rfl,q1⟩:=q1;cases r1;refine wpAny_truthy_bool ?_;cases c with
 | true=>exact hb pins s1 σ H1 Q I1 q1
 | false=>exact⟨.bl false,H1,I1,rfl,q1⟩
theorem zfu(ha:PE X a ta):PE X (.UnaryOp .Not a pos) (zhn ta):=by
 intro pins s σ H Q I h;refine UnaryOp_ (thn (ha pins s σ H _ I h) fun v s1 ⟨x,H1,I1,r1,q1⟩=>?_);obtain⟨c,rfl,q1⟩:=q1;cases r1;exact not_of (wpAny_truthy_bool ⟨.bl (!c),H1,I1,rfl,q1⟩)
def tIf(t:TT)(ta tb:TE):TE:=fun σ H Q=>t σ H fun c H1=>if c=true then ta σ H1 Q else tb σ H1 Q
theorem En(hc:PT X c tA)(ha:PE X a ta)(hb:PE X b tb):PE X (.IfExp c a b pos) (tIf tA ta tb):=by
 intro pins s σ H Q I h;refine wpAny_IfExp (thn (hc pins s σ H _ I h) fun d s1 ⟨H1,I1,q1⟩=>?_);cases d with
 | true=>exact ha pins s1 σ H1 Q I1 q1
 | false=>exact hb pins s1 σ H1 Q I1 q1
end
def SqL(K:Frag)(H:Hp)(a:Addr)(xs:List V):Prop :=
 Rd H a (.lst xs) \/
  ∃ (o:Obj) (its:Array Value) (n:Nat),K.lookup a=some o/\o.cls=.type "list"/\o.dict=none/\o.data=.seq its n/\its.size<=sizeLine/\Vals xs its.toList
def SqT(K:Frag)(H:Hp)(a:Addr)(xs:List V):Prop :=
 Rd H a (.tup xs) \/
  ∃ (o:Obj) (its:Array Value) (n:Nat),K.lookup a=some o/\o.cls=.type "tuple"/\o.data=.seq its n/\its.size<=sizeLine/\Vals xs its.toList
def zja:Value->Option V
 | .none=>some .non
 | .bool b=>some (.bl b)
 | .int i _=>some (.int i)
 | .str x _=>some (.str x)
 | .bytes b _=>some (.byt b)
 | .float b _=>some (.flt b)
 | .ref a=>some (.ref a)
 | .type n=>some (.ty n)
 | _=>none
theorem RelV.abs(r:RelV x u):zja u=some x:=by
 cases x with
 | non=>cases r;rfl
 | bl _=>cases r;rfl
 | int _=>obtain⟨t,rfl⟩:=r;rfl
 | str _=>obtain⟨t,rfl⟩:=r;rfl
 | byt _=>obtain⟨t,rfl⟩:=r;rfl
 | flt _=>obtain⟨t,rfl⟩:=r;rfl
 | ref _=>cases r;rfl
 | ty _=>cases r;rfl
theorem RelV.inj(r:RelV x u)(q:RelV y u):x=y:=Option.some.inj (r.abs.symm.trans q.abs)
theorem Vals.inj:∀ {xs ys:List V} {us:List Value},Vals xs us->Vals ys us->xs=ys
 | _,_,_,.nil,.nil=>rfl
 | _,_,_,.cons r t,.cons r' t'=>by rw[r.inj r',Vals.inj t t']
section
variable{X:Cx}{pins:List (Addr×Obj)}{σ:St}{H:Hp}{s:Shared}{a:Addr}{xs ys:List V}
theorem SqL.of{K:Frag}(h:H a=some (.lst xs)):SqL K H a xs:=.inl (.inl h)
theorem SqT.of{K:Frag}(h:H a=some (.tup xs)):SqT K H a xs:=.inl (.inl h)
theorem Inv.list(I:Inv X pins σ H s)(h:SqL X.K H a xs):∃ its:List Value,Vals xs its/\PlainL s.heap a its.toArray/\xs.length<=sizeLine:=by
 rcases h with h|⟨o,its,n,hk,hc,hd,hs,hz,r⟩
 ·obtain⟨z,its,n,r,e⟩:=h.ok I.hok;exact⟨its,r,⟨_,n,e,rfl,rfl,rfl⟩,z⟩
 ·refine⟨its.toList,r,⟨o,n,I.kIn a o hk,hc,hd,by simpa using hs⟩,?_⟩;have e:=r.length;simp only[Array.length_toList] at e;omega
theorem Inv.tuple(I:Inv X pins σ H s)(h:SqT X.K H a xs):∃ its:List Value,Vals xs its/\IsTup s.heap a its.toArray/\xs.length<=sizeLine:=by
 rcases h with h|⟨o,its,n,hk,hc,hs,hz,r⟩
 ·obtain⟨z,its,r,p⟩:=h.ok I.hok;exact⟨its,r,p,z⟩
 ·refine⟨its.toList,r,⟨o,I.kIn a o hk,hc,n,by simpa using hs⟩,?_⟩;have e:=r.length;simp only[Array.length_toList] at e;omega
theorem Inv.list_inj(I:Inv X pins σ H s)(h:SqL X.K H a xs)(h':SqL X.K H a ys):xs=ys:=by
 obtain⟨its,r,⟨o,n,e,_,_,d⟩,_⟩:=I.list h;obtain⟨its',r',⟨o',n',e',_,_,d'⟩,_⟩:=I.list h';rw[e] at e';cases e';rw[d] at d';injection d' with d1 _;have:its=its':=by simpa using congrArg Array.toList d1
 subst this;exact r.inj r'
theorem Inv.tuple_inj(I:Inv X pins σ H s)(h:SqT X.K H a xs)(h':SqT X.K H a ys):xs=ys:=by
 obtain⟨its,r,⟨o,e,_,n,d⟩,_⟩:=I.tuple h;obtain⟨its',r',⟨o',e',_,n',d'⟩,_⟩:=I.tuple h';rw[e] at e';cases e';rw[d] at d';injection d' with d1 _;have:its=its':=by simpa using congrArg Array.toList d1
 subst this;exact r.inj r'
end
section
variable{X:Cx}{st:Stmt}{rest:List Stmt}{t u:TS}{e:Expr}{te:TE}{pos:Pos}
def zbq:TS:=fun D σ H=>D.nx σ H
def Z0(t u:TS):TS:=fun D σ H=>t { D with nx:=u D } σ H
theorem Zs:PSs X [] zbq:=fun _ _ σ H _ I h=>wpAny_execs_nil ⟨σ,H,I,h⟩
theorem Zc(h1:PS X st t)(h2:PSs X rest u):PSs X (st :: rest) (Z0 t u):=by
 intro pins s σ H D I h;refine wpAny_execs_cons (thn (h1 pins s σ H { D with nx:=u D } I h) fun f s1 q=>?_);cases f with
 | next =>
   obtain⟨σ',H',I',q⟩:=q;exact h2 pins s1 σ' H' D I' q
 | ret v=>exact q
 | brk=>exact q
 | cont=>exact q
theorem Zf(h1:PS X st t):PSs X [st] t:=by
 intro pins s σ H D I h;refine wpAny_execs_cons (thn (h1 pins s σ H D I h) fun f s1 q=>?_);cases f with
 | next=>exact wpAny_execs_nil q
 | ret v=>exact q
 | brk=>exact q
 | cont=>exact q
theorem Inv.quiet(I:Inv X pins σ H s):interactive X.env=false:=by simp[interactive,I.ok.kind]
def zho(te:TE):TS:=fun D σ H=>te σ H fun _ H1=>D.nx σ H1
theorem Z6(he:PE X e te)(hs:swapsWith e none pos.line X.env=pure false:=by rfl):PS X (.Expr e pos) (zho te):=by
 intro pins s σ H D I h;exact wpAny_Expr_any (thn (he pins s σ H _ I h) fun v s1 ⟨x,H1,I1,r1,q1⟩=>⟨σ,H1,I1,q1⟩) I.quiet hs
def zjb(te:TE):TS:=fun D σ H=>te σ H D.rt
theorem Zo(he:PE X e te):PS X (.Return (some e) pos) (zjb te):=by
 intro pins s σ H D I h;exact wpAny_Return_some (thn (he pins s σ H _ I h) fun v s1 ⟨x,H1,I1,r1,q1⟩=>⟨x,σ,H1,I1,r1,q1⟩)
def zaa(c:TT)(t u:TS):TS:=fun D σ H=>c σ H fun b H1=>if b=true then t D σ H1 else u D σ H1
theorem Z1(hc:PT X c tc)(ha:PSs X a t)(hb:PSs X b u):PS X (.If c a b pos) (zaa tc t u):=by
 intro pins s σ H D I h;refine wpAny_If (thn (hc pins s σ H _ I h) fun d s1 ⟨H1,I1,q1⟩=>?_);cases d with
 | true=>exact ha pins s1 σ H1 D I1 q1
 | false=>exact hb pins s1 σ H1 D I1 q1
end
abbrev TG:=V->St->Hp->(St->Hp->Prop)->Prop
abbrev TGs:=List V->St->Hp->(St->Hp->Prop)->Prop
def PG(X:Cx)(target:Expr)(t:TG):Prop :=
 ∀ (pins:List (Addr×Obj)) (s:Shared) (σ:St) (H:Hp) (v:V) (u:Value) (Q:St->Hp->Prop),Inv X pins σ H s->RelV v u->t v σ H Q ->
   wpAny (model X.prog X.w) X.A (assign target X.env u) (fun _ s'=>∃ σ' H',Inv X pins σ' H' s'/\Q σ' H') X.xe s
def PGs(X:Cx)(ts:List Expr)(t:TGs):Prop :=
 ∀ (pins:List (Addr×Obj)) (s:Shared) (σ:St) (H:Hp) (vs:List V) (us:List Value) (Q:St->Hp->Prop),Inv X pins σ H s->Vals vs us->t vs σ H Q ->
   wpAny (model X.prog X.w) X.A (assignInOrder ((assignEach ts X.env).map (·.2)) us) (fun _ s'=>∃ σ' H',Inv X pins σ' H' s'/\Q σ' H') X.xe s
abbrev zhp:=V->V->V->Hp->(Hp->Prop)->Prop
def zhq(X:Cx)(t:zhp):Prop :=
 ∀ (pins:List (Addr×Obj)) (s:Shared) (σ:St) (H:Hp) (o i v:V) (ov iv u:Value) (Q:Hp->Prop),Inv X pins σ H s->RelV o ov->RelV i iv->RelV v u->t o i v H Q ->
   wpAny (model X.prog X.w) X.A (setItem ov iv u) (fun _ s'=>∃ H',Inv X pins σ H' s'/\Q H') X.xe s
section
variable{X:Cx}{pos:Pos}
def Ve(i:Nat):TG:=fun v σ H Q=>Q (σ.set i (some v)) H
theorem Uw(hN:X.N.Nodup)(hi:X.N[i]?=some x)(hx:Loc X.env.scope x)(hf:Cv X i x:=by first|exact⟨.inl rfl,Xu⟩|exact⟨.inr rfl,Xu⟩|assumption|exact⟨.inl rfl,by assumption⟩|exact⟨.inr rfl,by assumption⟩):PG X (.Name x pos) (Ve i):=by
 intro pins s σ H v u Q I r h;exact wpAny_assign_Name (Ly I hN hi hx r (fun s' I'=>⟨_,H,I',h⟩) hf)
def zjc:TGs:=fun vs σ H Q=>vs=[]/\Q σ H
def zhr(t:TG)(u:TGs):TGs:=fun vs σ H Q=>∃ v r,vs=v :: r/\t v σ H fun σ' H'=>u r σ' H' Q
theorem Ue:PGs X [] zjc:=by
 intro pins s σ H vs us Q I r h;obtain⟨e,h⟩:=h;subst e;cases r;exact assignInOrder_nil ⟨σ,H,I,h⟩
theorem Ya(h1:PG X e t)(h2:PGs X es u)
  (hs:(assignEach (e :: es) X.env).map (·.2)=assign e X.env :: (assignEach es X.env).map (·.2):=by rfl):PGs X (e :: es) (zhr t u):=by
 intro pins s σ H vs us Q I r h;obtain⟨v,vr,e1,h⟩:=h;subst e1;cases r with
 | cons r rr =>
   rw[hs];refine assignInOrder_cons (thn (h1 pins s σ H _ _ _ I r h) fun _ s1 ⟨σ1,H1,I1,q1⟩=>?_);exact h2 pins s1 σ1 H1 _ _ Q I1 rr q1
def zhs(K:Frag)(n:Nat)(t:TGs):TG:=fun v σ H Q=>∃ a xs,v=.ref a/\SqT K H a xs/\xs.length=n/\t xs σ H Q
theorem zfv(hc:X.calm=true)(h:PGs X es t)
  (hn:(assignEach es X.env).length=n:=by rfl) (hst:(assignEach es X.env).findIdx? (·.1)=none:=by rfl):PG X (.Tuple es k pos) (zhs X.K n t):=by
 intro pins s σ H v u Q I r hw;obtain⟨a,xs,e1,hq,hl,hw⟩:=hw;subst e1;cases r;obtain⟨its,rv,ht,hz⟩:=I.tuple hq;refine assign_Tuple_tuple (I.ok.hd hc) ht (by simp[hn,<- hl,rv.length]) hst fun h' hx=>?_;have I1:Inv X pins σ H { s with heap:=h' }:=I.kept (t':=s.toks) fun b o e=>hx b o (zs9 (Heap.lt_size e)) e;exact h pins _ σ H xs _ Q I1 (by simpa using rv) hw
def zjd(to ti:TE)(t:zhp):TG:=fun v σ H Q=>to σ H fun o H1=>ti σ H1 fun i H2=>t o i v H2 fun H3=>Q σ H3
theorem zfw(ho:PE X o to)(hi:PE X i ti)(hs:zhq X t)
  (ha:∀ v,assign (.Subscript o i pos) X.env v=(do
   let ov <- holding [v] (eval o X.env)
   let iv <- holding [v,ov] (eval i X.env)
   standAt pos
   holding [v,ov,iv] (setItem ov iv v)
   release [v,ov,iv] []):=by intro _;rfl):PG X (.Subscript o i pos) (zjd to ti t):=by
 intro pins s σ H v u Q I r h;rw[ha];refine wpAny_bind (wpAny_holding (thn (ho pins s σ H _ I h) fun ov s1 ⟨x,H1,I1,r1,q1⟩=>?_));refine wpAny_bind (wpAny_holding (thn (hi pins s1 σ H1 _ I1 q1) fun iv s2 ⟨y,H2,I2,r2,q2⟩=>?_));refine wpAny_bind (wpAny_standAt (wpAny_bind (wpAny_holding (thn (hs pins s2 σ H2 x y v ov iv u _ I2 r1 r2 r q2) fun _ s3 ⟨H3,I3,q3⟩=>?_))));exact wpAny_release ⟨σ,H3,I3,q3⟩
def Cy(te:TE)(g:TG):TS:=fun D σ H=>te σ H fun x H1=>g x σ H1 D.nx
theorem zbr(he:PE X e te)(hg:PG X tg g)(hs:swapsWithSole [tg] e pos.line X.env=pure false:=by rfl)(hw:swappedStores [tg] e X.env=pure none:=by rfl)
  (h1:(assignEach [tg] X.env).map (·.2)=[assign tg X.env]:=by rfl):PS X (.Assign [tg] e pos) (Cy te g):=by
 intro pins s σ H D I h;refine wpAny_Assign_stores (thn (he pins s σ H _ I h) fun v s1 ⟨x,H1,I1,r1,q1⟩=>?_) hs hw;rw[h1];exact thn (hg pins s1 σ H1 x v _ I1 r1 q1) fun _ s2 q=>q
theorem zfx(hN:X.N.Nodup)(hi:X.N[i]?=some x)(hx:Loc X.env.scope x)(he:PE X e te)(hs:swapsWith e (some (.Name x pos')) pos.line X.env=pure false:=by rfl)(hf:Cv X i x:=by first|exact⟨.inl rfl,Xu⟩|exact⟨.inr rfl,Xu⟩|assumption|exact⟨.inl rfl,by assumption⟩|exact⟨.inr rfl,by assumption⟩) :
  PS X (.Assign [.Name x pos'] e pos) (Cy te (Ve i)):=by
 intro pins s σ H D I h;refine wpAny_Assign_Name (thn (he pins s σ H _ I h) fun v s1 ⟨y,H1,I1,r1,q1⟩=>?_) hs;exact Ly I1 hN hi hx r1 (fun s2 I2=>⟨_,H1,I2,q1⟩) hf
end
section
variable{X:Cx}{pos:Pos}
def zbs(c:TT)(tb:TS):TS:=fun D σ H=>∃ W:Nat->St->Hp->Prop,(∃ m,W m σ H)/\∀ m σ H,W m σ H ->
 c σ H fun b H1=>if b=true then ∃ N:St->Hp->Prop,(∀ σ' H',N σ' H'->∃ m',m' < m/\W m' σ' H')/\tb { D with nx:=N,ct:=N,bk:=D.nx } σ H1 else D.nx σ H1
theorem Eo(hp:PassesOwn (model X.prog X.w) X.A X.env X.xe)(hc:PT X c tc)(hb:PSs X body tb):PS X (.While c body [] pos) (zbs tc tb):=by
 intro pins s σ H D I h;obtain⟨W,⟨m0,w0⟩,turn⟩:=h;refine wpAny_While (codeAny_whileLoop (fun n s'=>∃ σ' H',Inv X pins σ' H' s'/\W n σ' H') ?_ m0 ⟨σ,H,I,w0⟩);rintro n s1 ⟨σ1,H1,I1,w1⟩;refine wpAny_passesOwn hp (thn (hc pins s1 σ1 H1 _ I1 (turn n σ1 H1 w1)) fun b s2 ⟨H2,I2,q2⟩=>?_);cases b with
 | true =>
   obtain⟨N,hN,q2⟩:=q2;rw[if_pos rfl];refine wpAny_passesOwn hp (thn (hb pins s2 σ1 H2 _ I2 q2) fun f s3 q3=>?_);cases f with
   | next =>
     obtain⟨σ3,H3,I3,n3⟩:=q3;obtain⟨m',hm,w3⟩:=hN σ3 H3 n3;exact⟨m',hm,σ3,H3,I3,w3⟩
   | cont =>
     obtain⟨σ3,H3,I3,n3⟩:=q3;obtain⟨m',hm,w3⟩:=hN σ3 H3 n3;exact⟨m',hm,σ3,H3,I3,w3⟩
   | brk=>exact q3
   | ret v=>exact q3
 | false =>
   rw[if_neg zsx];exact wpAny_execs_nil ⟨σ1,H2,I2,q2⟩
end
structure It where
 go:Nat->Hp->Prop
 yld:Nat->Hp->V->Hp->Prop
 stop:Nat->Hp->Prop
def FpOk(X:Cx)(pins:List (Addr×Obj))(H:Hp)(b:Addr):Prop :=
 H b=none/\b≠X.env.locals/\b∉X.fs/\(b∈X.ex\/X.s₀.heap.objs.size<=b)/\(∀ x c,X.env.cells.lookup x=some c->c≠b)/\∀ p∈X.pn++pins,p.1≠b
theorem Inv.fpOk(I:Inv X pins σ H s)(hb:s.heap.objs.size<=b)(hn:H' b=none):FpOk X pins H' b:=by
 refine⟨hn,Nat.ne_of_gt (zsy I.lt hb),I.nofs hb,.inr (zs3 I.sz hb),fun x c e z=>?_,fun p hp z=>?_⟩
 ·obtain⟨v,q⟩:=I.cell x c e;exact absurd (zsy q.lt (by rw[z];exact hb)) (zt0 _)
 ·exact absurd (zsy (Heap.lt_size (I.pin p hp).1) (by rw[z];exact hb)) (zt0 _)
structure Ep(P:Program)(w:World)(K:Frag)(tg:Expr)(J:It)(fp:List Addr)(it:Addr)(tn:Nat->Heap->Prop):Prop where
 mem:it∈fp
 obj:∀ i h,tn i h->∀ b∈fp,∃ o,h.get? b=some o/\∀ v,o.data≠.cell v
 keep:∀ i h h',tn i h->(∀ b∈fp,∀ o,h.get? b=some o->h'.get? b=some o)->tn i h'
 item:∀ (X:Cx),X.prog=P->X.w=w->X.K=K->X.calm=true->∀ (i:Nat) (pins:List (Addr×Obj)) (s:Shared) (σ:St) (H:Hp) (E:Value->Shared->Prop),Inv X pins σ H s->(∀ b∈fp,FpOk X pins H b)->tn i s.heap->J.go i H ->
  wpAny (model P w) X.A (pyNext (.ref it)) (fun r s1=>∃ u,r=some u /\
   wpAny (model P w) X.A (letOwnedTupleGo tg (.ref it) u) (fun _ s2=>∃ x H',Inv X pins σ H' s2/\RelV x u/\J.yld i H x H'/\tn (i+1) s2.heap/\∀ b∈fp,H' b=none) E s1) E s
 done:∀ (X:Cx),X.prog=P->X.w=w->X.K=K->X.calm=true->∀ (i:Nat) (pins:List (Addr×Obj)) (s:Shared) (σ:St) (H:Hp) (E:Value->Shared->Prop),Inv X pins σ H s->(∀ b∈fp,FpOk X pins H b)->tn i s.heap->J.stop i H ->
  wpAny (model P w) X.A (pyNext (.ref it)) (fun r s1=>r=none/\Inv X pins σ H s1) E s
 self:∀ (A:Around) (i:Nat) (s:Shared) (Q:Value->Shared->Prop) (E:Value->Shared->Prop),tn i s.heap->Q (.ref it) s->wpAny (model P w) A (pyIter (.ref it)) Q E s
abbrev TI:=St->Hp->(It->Hp->Prop)->Prop
def PIE(X:Cx)(pins:List (Addr×Obj))(σ:St)(tg:Expr)(R:It->Hp->Prop)(itv:Value)(s2:Shared):Prop :=
 ∃ (it:Addr) (fp:List Addr) (tn:Nat->Heap->Prop) (J:It) (H':Hp),itv=.ref it/\Inv X pins σ H' s2/\Ep X.prog X.w X.K tg J fp it tn/\tn 0 s2.heap/\(∀ b∈fp,FpOk X pins H' b)/\R J H'
def PI(X:Cx)(tg iter:Expr)(wi:TI):Prop :=
 ∀ (pins:List (Addr×Obj)) (s:Shared) (σ:St) (H:Hp) (R:It->Hp->Prop),Inv X pins σ H s->wi σ H R ->
   wpAny (model X.prog X.w) X.A (eval iter X.env) (fun v s1=>wpAny (model X.prog X.w) X.A (pyIter v) (PIE X pins σ tg R) X.xe s1) X.xe s
theorem zbt(ho:s.heap.get? it=some o)(hc:o.cls=.type n)(hd:o.data=.fields vs)
  (hn:["enumerate","zip","dict_itemiterator","dict_reverseitemiterator","odict_iterator","itertools.zip_longest","itertools.pairwise"].contains n=false) (hQ:Q () s):wpAny M A (letOwnedTupleGo tg (.ref it) u) Q E s:=by
 unfold letOwnedTupleGo;cases tg<;>first
  | exact wpAny_pure hQ
  | (cases u<;>first
    | exact wpAny_pure hQ
    | (refine wpAny_bind (wpAny_load ho ?_)
       rw[hc,hd];show wpAny M A (if (["enumerate","zip","dict_itemiterator","dict_reverseitemiterator","odict_iterator","itertools.zip_longest","itertools.pairwise"].contains n&&vs[0]? == some (rawInt _))=true then _ else _) Q E s;rw[if_neg (by intro h;rw[hn,Bool.false_and] at h;cases h)];exact wpAny_pure hQ))
def Itl(K:Frag)(a:Addr):It :=
 ⟨fun i H=>∃ xs x,SqL K H a xs/\xs[i]?=some x,fun i H x H'=>H'=H/\∀ xs,SqL K H a xs->xs[i]?=some x,fun i H=>∃ xs,SqL K H a xs/\xs.length<=i⟩
def Itr(lo:Int)(n:Nat):It:=⟨fun i _=>i<n,fun i H x H'=>H'=H/\x=.int (lo+i),fun i _=>n<=i⟩
theorem zab{P:Program}{w:World}{K:Frag}{tg:Expr}(a it:Addr):Ep P w K tg (Itl K a) [it] it (fun i h=>h.IsListIter it a i) where
 mem:=by simp
 obj:=fun i h st b hb=>by
  have e:b=it:=by simpa using hb
  subst e;obtain⟨o,e,c,d⟩:=st;exact⟨o,e,fun v z=>by rw[d] at z;cases z⟩
 keep:=fun i h h' st k=>st.at fun o e=>k it (by simp) o e
 item:=by
  intro X hP hw hK hc i pins s σ H E I hf st hg;subst hP hw hK;obtain⟨xs,x,hq,hx⟩:=hg;obtain⟨its,rv,p,hz⟩:=I.list hq;obtain⟨u,hu,ru⟩:=rv.get hx;obtain⟨f0,f1,f2,f3,f4,f5⟩:=hf it (by simp);refine wpAny_pyNext_list_item st p.isList (x:=u) (by simpa using hu) fun h' st' sb=>?_;have I1:Inv X pins σ H { s with heap:=h' }:=I.turned (t':=s.toks) (fun b o hb e=>(sb.2 b hb).trans e) f0 f1 f3 f4 f5;obtain⟨o,e,c,d⟩:=id st';exact⟨u,rfl,zbt (s:={ s with heap:=h' }) e c d ⋯ ⟨x,H,I1,ru,⟨rfl,fun ys hy=>by rw[I.list_inj hy hq];exact hx⟩,st',fun b hb=>(hf b hb).1⟩⟩
 done:=by
  intro X hP hw hK hc i pins s σ H E I hf st hg;subst hP hw hK;obtain⟨xs,hq,hx⟩:=hg;obtain⟨its,rv,p,hz⟩:=I.list hq;obtain⟨f0,f1,f2,f3,f4,f5⟩:=hf it (by simp);have hl:=rv.length;exact wpAny_pyNext_list_end (I.ok.hd hc) st p.isList (by simp;omega) fun h' eb=>⟨rfl,I.turned (t':=s.toks) (fun b o hb e=>eb b o hb e) f0 f1 f3 f4 f5⟩
 self:=fun _ _ _ _ _ st h=>wpAny_pyIter_listiter st h
theorem Cz{P:Program}{w:World}{K:Frag}{tg:Expr}(it:Addr)(lo:Int)(n:Nat):Ep P w K tg (Itr lo n) [it] it (fun i h=>IsRangeIter h it (lo+(i:Nat)*1) ((n:Int)-(i:Nat)) 1) where
 mem:=by simp
 obj:=fun i h st b hb=>by
  have e:b=it:=by simpa using hb
  subst e;exact⟨_,st,fun v z=>by
   have z':Data.fields _=Data.cell v:=z;cases z'⟩
 keep:=fun i h h' st k=>k it (by simp) _ st
 item:=by
  intro X hP hw hK hc i pins s σ H E I hf st hg;subst hP hw hK;obtain⟨f0,f1,f2,f3,f4,f5⟩:=hf it (by simp);have W:=Walks.range (prog:=X.prog) (w:=X.w) (I.ok.hd hc) it lo 1 n;refine W.item i s _ _ hg st fun v h' tk hv st' kk=>?_;obtain⟨t,rfl⟩:=hv;have I1:Inv X pins σ H { s with heap:=h',toks:=tk }:=I.turned (fun b o hb e=>kk b o (by simpa using hb) e) f0 f1 f3 f4 f5;refine⟨_,rfl,zbt (s:={ s with heap:=h',toks:=tk }) (n:="range_iterator") st' rfl rfl ⋯ ⟨.int (lo+i),H,I1,⟨t,?_⟩,⟨rfl,rfl⟩,st',fun b hb=>(hf b hb).1⟩⟩;rw[Int.mul_one]
 done:=by
  intro X hP hw hK hc i pins s σ H E I hf st hg;subst hP hw hK;obtain⟨f0,f1,f2,f3,f4,f5⟩:=hf it (by simp);exact wpAny_pyNext_range_end (I.ok.hd hc) st (by have:n<=i:=hg;omega) fun h' eb=>⟨rfl,I.turned (t':=s.toks) (fun b o hb e=>eb b o hb e) f0 f1 f3 f4 f5⟩
 self:=fun _ _ _ _ _ st h=>wpAny_pyIter_rangeiter st h
section
variable{X:Cx}{tg:Expr}
inductive zfy(K:Frag)(R:It->Hp->Prop)(x:V)(H1:Hp):Prop where
 | mk(a)(_:x=.ref a)(_:(∃ xs,SqL K H1 a xs))(_:R (Itl K a) H1)
def ze9(K:Frag)(tl:TE):TI:=fun σ H R=>tl σ H fun x H1=>zfy K R x H1
theorem zd1{l:Expr}{tl:TE}(hl:PE X l tl):PI X tg l (ze9 X.K tl):=by
 intro pins s σ H R I h;refine thn (hl pins s σ H _ I h) fun v s1 ⟨x,H1,I1,r1,q1⟩=>?_;obtain⟨a,e,⟨xs,hq⟩,q⟩:=q1;subst e;cases r1;obtain⟨its,rv,p,hz⟩:=I1.list hq;refine wpAny_pyIter_list p.isList ?_;refine⟨s1.heap.objs.size,[s1.heap.objs.size],_,_,H1,rfl,I1.kept (t':=s1.toks) fun b o e=>Heap.get?_push_of_some _ e,zab a _,⟨_,Heap.get?_push_size _ rfl,rfl,rfl⟩,fun b hb=>?_,q⟩;have e:b=s1.heap.objs.size:=by simpa using hb
 subst e;exact I1.fpOk (zso _) (I1.hok.fresh (zso _))
theorem zbu{pins:List (Addr×Obj)}{σ:St}{H:Hp}{s:Shared}{R:It->Hp->Prop}{E:Value->Shared->Prop}{lo hi:Int}{t u v:Tok}{tk:Nat}(I:Inv X pins σ H s)(h1:-(2 ^ 62)<=lo)(h2:lo<2 ^ 62)(h3:-(2 ^ 62)<=hi)(h4:hi<2 ^ 62)
  (q:R (Itr lo (hi-lo).toNat) H):wpAny (model X.prog X.w) X.A (pyIter (.ref s.heap.objs.size)) (PIE X pins σ tg R) E { s with heap:=s.heap.push { cls:=.type "range",data:=.fields #[.int lo t,.int hi u,.int 1 v] },toks:=tk }:=by
 refine wpAny_pyIter_range (IsRange.new ..) (small_one h1 h2 h3 h4) ?_;have I1:Inv X pins σ H { s with heap:=s.heap.push { cls:=.type "range",data:=.fields #[.int lo t,.int hi u,.int 1 v] },toks:=tk }:=I.kept fun b o e=>Heap.get?_push_of_some _ e;refine⟨(s.heap.push { cls:=.type "range",data:=.fields #[.int lo t,.int hi u,.int 1 v] }).objs.size,[(s.heap.push { cls:=.type "range",data:=.fields #[.int lo t,.int hi u,.int 1 v] }).objs.size],_,_,H,rfl,
  I1.kept (t':=tk) fun b o e=>Heap.get?_push_of_some _ e,Cz _ lo (hi-lo).toNat,?_,fun b hb=>?_,q⟩
 ·have e1:lo+((0:Nat):Int)*1=lo:=by simp
  have e2:(((hi-lo).toNat:Nat):Int)-((0:Nat):Int)=Builtin.Range.rangeSize lo hi 1:=by rw[rangeSize_one];split<;>omega
  show IsRangeIter _ _ (lo+((0:Nat):Int)*1) ((((hi-lo).toNat:Nat):Int)-((0:Nat):Int)) 1;rw[e1,e2];exact Heap.get?_push_size _ rfl
 ·have e:b=(s.heap.push { cls:=.type "range",data:=.fields #[.int lo t,.int hi u,.int 1 v] }).objs.size:=by simpa using hb
  subst e;exact I1.fpOk (zso _) (I1.hok.fresh (zso _))
def zht(ta:TA):TI:=fun σ H R=>ta σ H fun vs H1=>∃ j:Int,vs=[.int j]/\-(2 ^ 62)<=j/\j<2 ^ 62/\R (Itr 0 j.toNat) H1
theorem Wk{a:Expr}{ta:TA}{p pos:Pos}(hg:Gl X "range")(hm:X.mg "range"=none)(ha:PA X [a] ta)(hs:starEach [a] X.env=[(false,eval a X.env)]:=by rfl):PI X tg (.Call (.Name "range" p) [a] [] pos) (zht ta):=by
 intro pins s σ H R I h;refine Call_ (Nb I hg hm boot_range (PyProof.Rows.callWith_type1 (thn (ha pos pins s σ H _ I h) fun us s1 ⟨vs,H1,I1,r1,q1⟩=>?_) hs rfl));obtain⟨j,e,q1,q2,q⟩:=q1;subst e;cases r1 with
 | cons r rr =>
   cases rr;obtain⟨t,rfl⟩:=r;exact call_range_1 (zbu I1 ⋯ ⋯ q1 q2 (by simpa using q))
def zfz(wi:TI)(g:TG)(tb:TS):TS:=fun D σ H=>wi σ H fun J H1=>∃ W:Nat->Nat->St->Hp->Prop,(∃ m,W 0 m σ H1)/\∀ i m σ H,W i m σ H ->
 (J.stop i H/\D.nx σ H)\/(J.go i H/\∃ N:St->Hp->Prop,(∀ σ' H',N σ' H'->∃ m',m' < m/\W (i+1) m' σ' H')/\∀ x H',J.yld i H x H'->g x σ H' fun σ2 H2=>tb { D with nx:=N,ct:=N,bk:=D.nx } σ2 H2)
def Nd(fp:List Addr)(h:Heap):List (Addr×Obj):=fp.filterMap fun b=>(h.get? b).map fun o=>(b,o)
theorem Ra(hb:b∈fp)(e:h.get? b=some o):(b,o)∈Nd fp h:=zun.mpr ⟨b,hb,by rw[e];rfl⟩
theorem zac(hp:p∈Nd fp h):p.1∈fp/\h.get? p.1=some p.2:=by
 obtain⟨b,hb,e⟩:=zun.mp hp;cases q:h.get? b with
 | none=>rw[q] at e;cases e
 | some o =>
   rw[q] at e;have e':(b,o)=p:=Option.some.inj e;subst e';exact⟨hb,q⟩
theorem Inv.pinned(I:Inv X pins σ H s)(hf:∀ b∈fp,FpOk X pins H b)(ho:∀ b∈fp,∃ o,s.heap.get? b=some o/\∀ v,o.data≠.cell v):Inv X (pins++Nd fp s.heap) σ H s :=
 I.pins_of fun p hp=>(zsv.mp hp).elim (fun z=>I.pin p (zs5 _ z)) fun z=>by
  obtain⟨hb,e⟩:=zac z;obtain⟨f0,f1,f2,_⟩:=hf p.1 hb;obtain⟨o,e',d⟩:=ho p.1 hb;rw[e] at e';cases e';exact⟨e,f0,f1,f2,d⟩
theorem Inv.unpinned(I:Inv X (pins++pl) σ H s):Inv X pins σ H s:=I.pins_of fun p hp=>I.pin p (zs5 _ (zs8 _ hp))
theorem Vi(hp:PassesOwn (model X.prog X.w) X.A X.env X.xe)(hc:X.calm=true)(hi:PI X tg iter wi)(hg:PG X tg g)(hb:PSs X body tb)
  (hs:∀ x,foldedSetIterable iter X.env x=pure x:=by intro _;rfl):PS X (.For tg iter body [] pos) (zfz wi g tb):=by
 intro pins s σ H D I h;refine wpAny_For (thn (hi pins s σ H _ I h) fun v s1 h1=>thn h1 fun itv s2 h2=>?_) hs;obtain⟨it,fp,tn,J,H2,e,I2,T,st2,f2,W,⟨m0,w0⟩,turn⟩:=h2;subst e;have stat:∀ {H':Hp},(∀ b∈fp,H' b=none)->∀ b∈fp,FpOk X pins H' b:=fun hn b hb=>⟨hn b hb,(f2 b hb).2⟩
 refine codeAny_forLoop_any (fun n s'=>∃ i σ' H',Inv X pins σ' H' s'/\tn i s'.heap/\(∀ b∈fp,H' b=none)/\W i n σ' H') ?_ m0 ⟨0,σ,H2,I2,st2,fun b hb=>(f2 b hb).1,w0⟩;rintro n s3 ⟨i,σ3,H3,I3,st3,fr3,w3⟩;rcases turn i n σ3 H3 w3 with ⟨stop,qn⟩|⟨go,N,hN,step⟩
 ·refine wpAny_passesOwn hp (thn (T.done X rfl rfl rfl hc i pins s3 σ3 H3 X.xe I3 (stat fr3) st3 stop) fun r s4 ⟨hr,I4⟩=>?_);subst hr;exact wpAny_execs_nil ⟨σ3,H3,I4,qn⟩
 ·refine wpAny_passesOwn hp (thn (T.item X rfl rfl rfl hc i pins s3 σ3 H3 X.xe I3 (stat fr3) st3 go) fun r s4 ⟨u,hr,h4⟩=>?_);subst hr;refine wpAny_passesOwn hp (thn h4 fun _ s5 ⟨x,H5,I5,r5,y5,st5,fr5⟩=>?_);have I5':=I5.pinned (stat fr5) (T.obj _ _ st5);refine wpAny_passesOwn hp (thn (hg _ s5 σ3 H5 x u _ I5' r5 (step x H5 y5)) fun _ s6 ⟨σ6,H6,I6,q6⟩=>?_);refine wpAny_passesOwn hp (thn (hb _ s6 σ6 H6 _ I6 q6) fun f s7 q7=>?_);have again:∀ {σ7:St} {H7:Hp},Inv X (pins++Nd fp s5.heap) σ7 H7 s7->N σ7 H7->∃ m,m<n/\∃ i σ' H',Inv X pins σ' H' s7/\tn i s7.heap/\(∀ b∈fp,H' b=none)/\W i m σ' H':=fun {σ7 H7} I7 n7=>by
   obtain⟨m',hm,w7⟩:=hN σ7 H7 n7;refine⟨m',hm,i+1,σ7,H7,I7.unpinned,T.keep _ _ _ st5 fun b hb o e=>(I7.pin (b,o) (zs5 _ (zs5 _ (Ra hb e)))).1,fun b hb=>?_,w7⟩;obtain⟨o,e,d⟩:=T.obj _ _ st5 b hb;exact(I7.pin (b,o) (zs5 _ (zs5 _ (Ra hb e)))).2.1
  cases f with
  | next=>obtain⟨σ7,H7,I7,n7⟩:=q7;exact again I7 n7
  | cont=>obtain⟨σ7,H7,I7,n7⟩:=q7;exact again I7 n7
  | brk=>obtain⟨σ7,H7,I7,q7⟩:=q7;exact⟨σ7,H7,I7.unpinned,q7⟩
  | ret v=>obtain⟨x7,σ7,H7,I7,r7,q7⟩:=q7;exact⟨x7,σ7,H7,I7.unpinned,r7,q7⟩
end
theorem Ui{K:Frag}{a:Addr}{xs:List V}{g:TG}{tb:TS}{D:Og}{σ:St}{H:Hp}(Pv:Nat->St->Hp->Prop)(h0:Pv 0 σ H)(hl:∀ i σ H,i<=xs.length->Pv i σ H->SqL K H a xs)
  (hs:∀ i x σ H,xs[i]?=some x->Pv i σ H->g x σ H fun σ2 H2=>tb { D with nx:=Pv (i+1),ct:=Pv (i+1),bk:=D.nx } σ2 H2) (hd:∀ σ H,Pv xs.length σ H->D.nx σ H) :
  ∃ W:Nat->Nat->St->Hp->Prop,(∃ m,W 0 m σ H)/\∀ i m σ H,W i m σ H ->
    ((Itl K a).stop i H/\D.nx σ H)\/((Itl K a).go i H/\∃ N:St->Hp->Prop,(∀ σ' H',N σ' H'->∃ m',m' < m/\W (i+1) m' σ' H')/\∀ x H',(Itl K a).yld i H x H'->g x σ H' fun σ2 H2=>tb { D with nx:=N,ct:=N,bk:=D.nx } σ2 H2):=by
 refine⟨fun i m σ H=>m=xs.length-i/\i<=xs.length/\Pv i σ H,⟨xs.length,by simp,zs1 _,h0⟩,?_⟩;rintro i m σ H ⟨rfl,hi,p⟩;have q:=hl i σ H hi p;by_cases hlt:i<xs.length
 ·refine .inr ⟨⟨xs,xs[i],q,by simp[hlt]⟩,Pv (i+1),fun σ' H' p'=>⟨xs.length-(i+1),by omega,rfl,hlt,p'⟩,fun x H' y=>?_⟩;obtain⟨e,y⟩:=y;subst e;exact hs i x σ _ (y xs q) p
 ·have e:i=xs.length:=by omega
  subst e;exact .inl ⟨⟨xs,q,zso _⟩,hd σ H p⟩
theorem Qr{lo:Int}{n:Nat}{g:TG}{tb:TS}{D:Og}{σ:St}{H:Hp}(Pv:Nat->St->Hp->Prop)(h0:Pv 0 σ H)
  (hs:∀ i σ H,i<n->Pv i σ H->g (.int (lo+i)) σ H fun σ2 H2=>tb { D with nx:=Pv (i+1),ct:=Pv (i+1),bk:=D.nx } σ2 H2) (hd:∀ σ H,Pv n σ H->D.nx σ H) :
  ∃ W:Nat->Nat->St->Hp->Prop,(∃ m,W 0 m σ H)/\∀ i m σ H,W i m σ H ->
    ((Itr lo n).stop i H/\D.nx σ H)\/((Itr lo n).go i H/\∃ N:St->Hp->Prop,(∀ σ' H',N σ' H'->∃ m',m' < m/\W (i+1) m' σ' H')/\∀ x H',(Itr lo n).yld i H x H'->g x σ H' fun σ2 H2=>tb { D with nx:=N,ct:=N,bk:=D.nx } σ2 H2):=by
 refine⟨fun i m σ H=>m=n-i/\i<=n/\Pv i σ H,⟨n,by simp,zs1 _,h0⟩,?_⟩;rintro i m σ H ⟨rfl,hi,p⟩;by_cases hlt:i<n
 ·refine .inr ⟨hlt,Pv (i+1),fun σ' H' p'=>⟨n-(i+1),by omega,rfl,hlt,p'⟩,fun x H' y=>?_⟩;obtain⟨e,y⟩:=y;subst e y;exact hs i σ _ hlt p
 ·have e:i=n:=by omega
  subst e;exact .inl ⟨zso _,hd σ H p⟩
abbrev R2:=V->V->Hp->VK->Prop
def OpR(X:Cx)(f:Value->Value->Sem Value)(r:R2):Prop :=
 ∀ (pins:List (Addr×Obj)) (s:Shared) (σ:St) (H:Hp) (x y:V) (v u:Value) (Q:VK),Inv X pins σ H s->RelV x v->RelV y u->r x y H Q ->
   wpAny (model X.prog X.w) X.A (f v u) (EP X pins σ Q) X.xe s
def UnR(X:Cx)(f:Value->Sem Value)(r:V->Hp->VK->Prop):Prop :=
 ∀ (pins:List (Addr×Obj)) (s:Shared) (σ:St) (H:Hp) (x:V) (v:Value) (Q:VK),Inv X pins σ H s->RelV x v->r x H Q ->
   wpAny (model X.prog X.w) X.A (f v) (EP X pins σ Q) X.xe s
def V2(X:Cx)(f:Value)(r:List V->Hp->VK->Prop):Prop :=
 ∀ (pins:List (Addr×Obj)) (s:Shared) (σ:St) (H:Hp) (xs:List V) (us:List Value) (Q:VK),Inv X pins σ H s->Vals xs us->r xs H Q ->
   wpAny (model X.prog X.w) X.A (call f us) (EP X pins σ Q) X.xe s
def zje(X:Cx)(r:V->Hp->(Bool->Hp->Prop)->Prop):Prop :=
 ∀ (pins:List (Addr×Obj)) (s:Shared) (σ:St) (H:Hp) (x:V) (v:Value) (Q:Bool->Hp->Prop),Inv X pins σ H s->RelV x v->r x H Q ->
   wpAny (model X.prog X.w) X.A (truthy v) (TP X pins σ Q) X.xe s
def tOp(r:R2)(ta tb:TE):TE:=fun σ H Q=>ta σ H fun x H1=>tb σ H1 fun y H2=>r x y H2 Q
def tUn(r:V->Hp->VK->Prop)(ta:TE):TE:=fun σ H Q=>ta σ H fun x H1=>r x H1 Q
inductive rI(C:Int->Int->Prop)(g:Int->Int->V)(x:V)(y:V)(H:Hp)(Q:VK):Prop where
 | mk(i)(j)(_:x=.int i)(_:y=.int j)(_:C i j/\Q (g i j) H)
inductive rI0(g:Int->Int->V)(x:V)(y:V)(H:Hp)(Q:VK):Prop where
 | mk(i)(j)(_:x=.int i)(_:y=.int j)(_:Q (g i j) H)
inductive rU(g:Int->V)(x:V)(H:Hp)(Q:VK):Prop where
 | mk(i)(_:x=.int i)(_:Q (g i) H)
section
variable{X:Cx}{a b c:Expr}{ta tb tc:TE}{pos:Pos}
theorem binT(ha:PE X a ta)(hb:PE X b tb){pins:List (Addr×Obj)}{s:Shared}{σ:St}{H:Hp}{R:V->V->Hp->Prop}(I:Inv X pins σ H s)
  (h:ta σ H fun x H1=>tb σ H1 fun y H2=>R x y H2) {Q:Value->Shared->Prop} {f:Value->Value->Sem Value}
  (hf:∀ v u s2 x y H2,Inv X pins σ H2 s2->RelV x v->RelV y u->R x y H2->wpAny (model X.prog X.w) X.A (f v u) Q X.xe s2) :
  wpAny (model X.prog X.w) X.A (eval a X.env) (fun v s₁=>wpAny (model X.prog X.w) X.A (eval b X.env) (fun u s₂=>wpAny (model X.prog X.w) X.A (f v u) Q X.xe s₂) X.xe s₁) X.xe s:=by
 refine thn (ha pins s σ H _ I h) fun v s1 ⟨x,H1,I1,r1,q1⟩=>?_;refine thn (hb pins s1 σ H1 _ I1 q1) fun u s2 ⟨y,H2,I2,r2,q2⟩=>?_;exact hf v u s2 x y H2 I2 r1 r2 q2
theorem Zt{op:Operator}{r:R2}(ho:OpR X (binaryOp op) r)(ha:PE X a ta)(hb:PE X b tb):PE X (.BinOp a op b pos) (tOp r ta tb):=by
 intro pins s σ H Q I h;exact wpAny_BinOp (binT ha hb I h fun v u s2 x y H2 I2 rx ry q=>ho pins s2 σ H2 x y v u Q I2 rx ry q)
theorem Er(ho:UnR X (unaryOp op) r)(ha:PE X a ta):PE X (.UnaryOp op a pos) (tUn r ta):=by
 intro pins s σ H Q I h;exact UnaryOp_ (thn (ha pins s σ H _ I h) fun v s1 ⟨x,H1,I1,r1,q1⟩=>ho pins s1 σ H1 x v Q I1 r1 q1)
theorem opI{f:Value->Value->Sem Value}{C:Int->Int->Prop}{g:Int->Int->Int}
  (rule:∀ (i j:Int) (t u:Tok) (s:Shared) (Q:Value->Shared->Prop) (E:Value->Shared->Prop),C i j->Q (.int (g i j) s.toks) { s with toks:=s.toks+1 }->wpAny (model X.prog X.w) X.A (f (.int i t) (.int j u)) Q E s) :
  OpR X f (rI C fun i j=>.int (g i j)):=by
 intro pins s σ H x y v u Q I rx ry h;obtain⟨i,j,rfl,rfl,hc,q⟩:=h;obtain⟨t,rfl⟩:=rx;obtain⟨t',rfl⟩:=ry;exact rule i j t t' s _ _ hc ⟨.int (g i j),H,I.tok _,⟨_,rfl⟩,q⟩
theorem zhu{f:Value->Value->Sem Value}{g:Int->Int->Int}
  (rule:∀ (i j:Int) (t u:Tok) (s:Shared) (Q:Value->Shared->Prop) (E:Value->Shared->Prop),Q (.int (g i j) s.toks) { s with toks:=s.toks+1 }->wpAny (model X.prog X.w) X.A (f (.int i t) (.int j u)) Q E s) :
  OpR X f (rI0 fun i j=>.int (g i j)):=by
 intro pins s σ H x y v u Q I rx ry h;obtain⟨i,j,rfl,rfl,q⟩:=h;obtain⟨t,rfl⟩:=rx;obtain⟨t',rfl⟩:=ry;exact rule i j t t' s _ _ ⟨.int (g i j),H,I.tok _,⟨_,rfl⟩,q⟩
theorem zd2{f:Value->Value->Sem Value}{g:Int->Int->Bool}
  (rule:∀ (i j:Int) (t u:Tok) (s:Shared) (Q:Value->Shared->Prop) (E:Value->Shared->Prop),Q (.bool (g i j)) s->wpAny (model X.prog X.w) X.A (f (.int i t) (.int j u)) Q E s) :
  OpR X f (rI0 fun i j=>.bl (g i j)):=by
 intro pins s σ H x y v u Q I rx ry h;obtain⟨i,j,rfl,rfl,q⟩:=h;obtain⟨t,rfl⟩:=rx;obtain⟨t',rfl⟩:=ry;exact rule i j t t' s _ _ ⟨.bl (g i j),H,I,rfl,q⟩
def CDiv(i j:Int):Prop:=0<j/\j<1073741824
def CMul(i j:Int):Prop:=(-(2 ^ 64)<i/\i<2 ^ 64)\/(-(2 ^ 64)<j/\j<2 ^ 64)
theorem CMul.ok(h:CMul i j):IntMulOk i j:=by
 rcases h with ⟨h1,h2⟩|⟨h1,h2⟩
 ·exact .of_left (intBits_le_64 h1 h2)
 ·exact .of_right (intBits_le_64 h1 h2)
theorem Y1:OpR X (binaryOp .Add) (rI0 fun i j=>.int (i+j)):=zhu fun _ _ _ _ _ _ _ q=>add_int q
theorem Nf:OpR X (binaryOp .Sub) (rI0 fun i j=>.int (i-j)):=zhu fun _ _ _ _ _ _ _ q=>sub_int q
theorem U4:OpR X (binaryOp .Mult) (rI CMul fun i j=>.int (i*j)):=opI fun _ _ _ _ _ _ _ hc q=>mul_int q hc.ok
theorem Vj:OpR X (binaryOp .FloorDiv) (rI CDiv fun i j=>.int (i/j)):=opI fun i j _ _ _ _ _ hc q=>by
 have h1:(0:Int)<j:=hc.1;have h2:j<1073741824:=hc.2;exact floordiv_int ⋯ (by rw[Int.fdiv_eq_ediv_of_nonneg i ⋯];exact q) (.inl (PyProof.noPylong_small ⋯))
theorem Xg:OpR X (binaryOp .Mod) (rI (fun _ j=>0<j) fun i j=>.int (i%j)):=opI fun i j _ _ _ _ _ hc q=>by
 have h1:(0:Int)<j:=hc;exact mod_int' ⋯ (by rw[Int.fmod_eq_emod_of_nonneg i ⋯];exact q)
theorem unI{f:Value->Sem Value}{g:Int->Int}
  (rule:∀ (i:Int) (t:Tok) (s:Shared) (Q:Value->Shared->Prop) (E:Value->Shared->Prop),Q (.int (g i) s.toks) { s with toks:=s.toks+1 }->wpAny (model X.prog X.w) X.A (f (.int i t)) Q E s) :
  UnR X f (rU fun i=>.int (g i)):=by
 intro pins s σ H x v Q I rx h;obtain⟨i,rfl,q⟩:=h;obtain⟨t,rfl⟩:=rx;exact rule i t s _ _ ⟨.int (g i),H,I.tok _,⟨_,rfl⟩,q⟩
theorem Lz:UnR X (unaryOp .USub) (rU fun i=>.int (-i)):=unI fun _ _ _ _ _ q=>neg_int q
end
def zhv:V->V->Bool
 | .non,.non=>true|.non,.int _=>true|.int _,.non=>true|.non,.bl _=>true|.bl _,.non=>true|.non,.str _=>true|.str _,.non=>true
 | .int _,.int _=>true|.bl _,.bl _=>true|.str _,.str _=>true|.byt _,.byt _=>true
 | .int _,.str _=>true|.str _,.int _=>true|.bl _,.str _=>true|.str _,.bl _=>true
 | _,_=>false
inductive rEq(x:V)(y:V)(H:Hp)(Q:VK):Prop where
 | mk(_:zhv x y=true)(_:Q (.bl (decide (x=y))) H)
inductive rNe(x:V)(y:V)(H:Hp)(Q:VK):Prop where
 | mk(_:zhv x y=true)(_:Q (.bl (!decide (x=y))) H)
theorem B3:decide (V.int i=V.int j)=(i == j):=by
 rw[zuo];simp
theorem zbv:decide (V.bl i=V.bl j)=(i == j):=by
 rw[zuo];simp
theorem B4:decide (V.str i=V.str j)=(i == j):=by
 rw[zuo];simp
theorem B5:decide (V.byt i=V.byt j)=(i.toList == j.toList):=by
 rw[zuo];cases i;cases j;simp
section
variable{X:Cx}{a b c:Expr}{ta tb tc:TE}{pos:Pos}
theorem Yj(I:Inv X pins σ H s)(q:Q (.bl k) H)(e:k=k'):EP X pins σ Q (.bool k') s:=by
 subst e;exact⟨.bl k,H,I,rfl,q⟩
theorem Y6:OpR X (compareOp .Eq) rEq:=by
 intro pins s σ H x y v u Q I rx ry h;obtain⟨hs,q⟩:=h;cases x with
 | non =>
   cases rx;cases y with
   | non=>cases ry;exact PySem.EqNone.eq_none_none (Yj I q (by simp))
   | bl j=>cases ry;exact PySem.EqNone.eq_none_bool (Yj I q (by simp))
   | int j=>obtain⟨t',rfl⟩:=ry;exact PySem.EqNone.eq_none_int (Yj I q (by simp))
   | str j=>obtain⟨t',rfl⟩:=ry;exact PySem.EqNone.eq_none_str (Yj I q (by simp))
   | _=>exact absurd (show false=true from hs) zsx
 | bl i =>
   cases rx;cases y with
   | non=>cases ry;exact PySem.EqNone.eq_bool_none (Yj I q (by simp))
   | bl j=>cases ry;exact eq_bool (Yj I q zbv)
   | str j=>obtain⟨t',rfl⟩:=ry;exact PySem.EqMixed.eq_bool_str (Yj I q (by simp))
   | _=>exact absurd (show false=true from hs) zsx
 | int i =>
   obtain⟨t,rfl⟩:=rx;cases y with
   | non=>cases ry;exact PySem.EqNone.eq_int_none (Yj I q (by simp))
   | int j=>obtain⟨t',rfl⟩:=ry;exact eq_int (Yj I q B3)
   | str j=>obtain⟨t',rfl⟩:=ry;exact PySem.EqMixed.eq_int_str (Yj I q (by simp))
   | _=>exact absurd (show false=true from hs) zsx
 | str i =>
   obtain⟨t,rfl⟩:=rx;cases y with
   | non=>cases ry;exact PySem.EqNone.eq_str_none (Yj I q (by simp))
   | bl j=>cases ry;exact PySem.EqMixed.eq_str_bool (Yj I q (by simp))
   | int j=>obtain⟨t',rfl⟩:=ry;exact PySem.EqMixed.eq_str_int (Yj I q (by simp))
   | str j=>obtain⟨t',rfl⟩:=ry;exact eq_str (Yj I q B4)
   | _=>exact absurd (show false=true from hs) zsx
 | byt i =>
   obtain⟨t,rfl⟩:=rx;cases y with
   | byt j=>obtain⟨t',rfl⟩:=ry;exact PySem.W.eq_bytes (Yj I q B5)
   | _=>exact absurd (show false=true from hs) zsx
 | _=>cases y<;>exact absurd (show false=true from hs) zsx
theorem Oh:OpR X (compareOp .NotEq) rNe:=by
 intro pins s σ H x y v u Q I rx ry h;obtain⟨hs,q⟩:=h;cases x with
 | non =>
   cases rx;cases y with
   | non=>cases ry;exact PySem.EqNone.ne_none_none (Yj I q (by simp))
   | bl j=>cases ry;exact PySem.EqNone.ne_none_bool (Yj I q (by simp))
   | int j=>obtain⟨t',rfl⟩:=ry;exact PySem.EqNone.ne_none_int (Yj I q (by simp))
   | str j=>obtain⟨t',rfl⟩:=ry;exact PySem.EqNone.ne_none_str (Yj I q (by simp))
   | _=>exact absurd (show false=true from hs) zsx
 | bl i =>
   cases rx;cases y with
   | non=>cases ry;exact PySem.EqNone.ne_bool_none (Yj I q (by simp))
   | bl j=>cases ry;exact ne_bool (Yj I q (congrArg not zbv))
   | str j=>obtain⟨t',rfl⟩:=ry;exact PySem.EqMixed.ne_bool_str (Yj I q (by simp))
   | _=>exact absurd (show false=true from hs) zsx
 | int i =>
   obtain⟨t,rfl⟩:=rx;cases y with
   | non=>cases ry;exact PySem.EqNone.ne_int_none (Yj I q (by simp))
   | int j=>obtain⟨t',rfl⟩:=ry;exact ne_int (Yj I q (congrArg not B3))
   | str j=>obtain⟨t',rfl⟩:=ry;exact PySem.EqMixed.ne_int_str (Yj I q (by simp))
   | _=>exact absurd (show false=true from hs) zsx
 | str i =>
   obtain⟨t,rfl⟩:=rx;cases y with
   | non=>cases ry;exact PySem.EqNone.ne_str_none (Yj I q (by simp))
   | bl j=>cases ry;exact PySem.EqMixed.ne_str_bool (Yj I q (by simp))
   | int j=>obtain⟨t',rfl⟩:=ry;exact PySem.EqMixed.ne_str_int (Yj I q (by simp))
   | str j=>obtain⟨t',rfl⟩:=ry;exact ne_str (Yj I q (congrArg not B4))
   | _=>exact absurd (show false=true from hs) zsx
 | byt i =>
   obtain⟨t,rfl⟩:=rx;cases y with
   | byt j=>obtain⟨t',rfl⟩:=ry;exact PySem.W.ne_bytes (Yj I q (congrArg not B5))
   | _=>exact absurd (show false=true from hs) zsx
 | _=>cases y<;>exact absurd (show false=true from hs) zsx
theorem Hr:OpR X (compareOp .Lt) (rI0 fun i j=>.bl (decide (i<j))):=zd2 fun _ _ _ _ _ _ _ q=>lt_int q
theorem zbw:OpR X (compareOp .LtE) (rI0 fun i j=>.bl (decide (i<=j))):=zd2 fun _ _ _ _ _ _ _ q=>le_int q
theorem Tu:OpR X (compareOp .Gt) (rI0 fun i j=>.bl (decide (j<i))):=zd2 fun _ _ _ _ _ _ _ q=>gt_int q
theorem zfa:OpR X (compareOp .GtE) (rI0 fun i j=>.bl (decide (j<=i))):=zd2 fun _ _ _ _ _ _ _ q=>ge_int q
theorem L6:OpR X (compareOp .Is) (fun x y H Q=>y=.non/\Q (.bl (decide (x=.non))) H):=by
 intro pins s σ H x y v u Q I rx ry h;obtain⟨rfl,q⟩:=h;cases ry;refine is_none_gen (Yj I q ?_);cases x<;>first
  | (cases rx;rfl)
  | (obtain⟨t,rfl⟩:=rx;rfl)
theorem Oi:OpR X (compareOp .IsNot) (fun x y H Q=>y=.non/\Q (.bl (!decide (x=.non))) H):=by
 intro pins s σ H x y v u Q I rx ry h;obtain⟨rfl,q⟩:=h;cases ry;refine isnot_none_gen (Yj I q ?_);cases x<;>first
  | (cases rx;rfl)
  | (obtain⟨t,rfl⟩:=rx;rfl)
theorem Zr(b:Expr)(h:op≠.In:=by decide)(h2:op≠.NotIn:=by decide):behindInMarks op b=false:=by
 have e1:(op == CmpOp.In)=false:=by cases op<;>first|rfl|exact absurd rfl h
 have e2:(op == CmpOp.NotIn)=false:=by cases op<;>first|rfl|exact absurd rfl h2
 cases b<;>simp[behindInMarks,e1,e2]
theorem Ux{op:CmpOp}{r:R2}(ho:OpR X (compareOp op) r)(ha:PE X a ta)(hb:PE X b tb)(hm:behindInMarks op b=false):PE X (.Compare a [op] [b] pos) (tOp r ta tb):=by
 intro pins s σ H Q I h;exact wpAny_Compare1 (binT ha hb I h fun v u s2 x y H2 I2 rx ry q=>ho pins s2 σ H2 x y v u Q I2 rx ry q) hm
def zhw(t:TE):TT:=fun σ H Q=>t σ H fun x H'=>∃ k,x=.bl k/\Q k H'
theorem Zn(ho:OpR X (compareOp op) r)(ha:PE X a ta)(hb:PE X b tb)(hm:behindInMarks op b=false):PT X (.Compare a [op] [b] pos) (zhw (tOp r ta tb)):=by
 intro pins s σ H Q I h;refine wpAny_isTrue_Compare1 (thn (ha pins s σ H _ I h) fun v s1 ⟨x,H1,I1,r1,q1⟩=>thn (hb pins s1 σ H1 _ I1 q1) fun u s2 ⟨y,H2,I2,r2,q2⟩ =>
  thn (ho pins s2 σ H2 x y v u _ I2 r1 r2 q2) fun c s3 ⟨z,H3,I3,r3,k,e,q3⟩=>?_) hm
 subst e;cases r3;exact wpAny_truthy_bool ⟨H3,I3,q3⟩
def TruV(K:Frag)(x:V)(H:Hp)(k:Bool):Prop :=
 match x with
 | .non=>k=false
 | .bl b=>k=b
 | .int i=>k=(i != 0)
 | .str y=>y.length<=sizeLine/\k=((y.length:Int) != 0)
 | .byt y=>y.size<=sizeLine/\k=((y.size:Int) != 0)
 | .ref p=>(∃ xs,SqL K H p xs/\k=!xs.isEmpty)\/(∃ xs,SqT K H p xs/\k=!xs.isEmpty)\/∃ kvs,H p=some (.dK kvs)/\k=!kvs.isEmpty
 | _=>False
theorem C0(r:KV kvs vs):(!vs.isEmpty)=!kvs.isEmpty:=by
 cases r<;>rfl
theorem L7(r:Vals xs its):(!its.toArray.isEmpty)=!xs.isEmpty:=by
 cases r<;>simp
theorem Pk:(sizeLine:Nat)<2 ^ 63:=by rw[sizeLine_eq];decide
theorem zf0:zje X (fun x H Q=>∃ k,TruV X.K x H k/\Q k H):=by
 intro pins s σ H x v Q I rx h;obtain⟨k,e,q⟩:=h;have hl:=Pk;have hs:sizeLine=16777216:=sizeLine_eq;cases x with
 | non =>
   cases rx;have e':k=false:=e;subst e';exact truthy_none ⟨H,I,q⟩
 | bl b =>
   cases rx;have e':k=b:=e;subst e';exact wpAny_truthy_bool ⟨H,I,q⟩
 | int i =>
   obtain⟨t,rfl⟩:=rx;have e':k=(i != 0):=e;subst e';exact PySem.P.truthy_int ⟨H,I,q⟩
 | str y =>
   obtain⟨t,rfl⟩:=rx;obtain⟨hy,e'⟩:y.length<=sizeLine/\k=((y.length:Int) != 0):=e;subst e';exact PySem.P.truthy_str ⋯ ⟨H,I.tok _,q⟩
 | byt y =>
   obtain⟨t,rfl⟩:=rx;obtain⟨hy,e'⟩:y.size<=sizeLine/\k=((y.size:Int) != 0):=e;subst e';exact PySem.W.truthy_bytes ⋯ ⟨H,I.tok _,q⟩
 | ref p =>
   cases rx;have e':(∃ xs,SqL X.K H p xs/\k=!xs.isEmpty)\/(∃ xs,SqT X.K H p xs/\k=!xs.isEmpty)\/∃ kvs,H p=some (.dK kvs)/\k=!kvs.isEmpty:=e;rcases e' with ⟨xs,hx,e'⟩|⟨xs,hx,e'⟩|⟨kvs,hx,e'⟩
   ·subst e';obtain⟨its,r,pl,hz⟩:=I.list hx;have hlen:=r.length;exact wpAny_truthy_list pl.isList (by simp only[zss];omega) ⟨H,I.tok _,by rw[L7 r];exact q⟩
   ·subst e';obtain⟨its,r,pl,hz⟩:=I.tuple hx;have hlen:=r.length;exact truthy_tuple pl (by simp only[zss];omega) ⟨H,I.tok _,by rw[L7 r];exact q⟩
   ·subst e';obtain⟨hz,hS,vs,r,m⟩:kvs.length<=sizeLine/\(p == sysModules)=false/\∃ vs,KV kvs vs/\s.heap.DictOf (Ym X.prog X.w) p vs:=I.hok p _ hx;have hlen:kvs.length=vs.length:=Paired.length r;exact wpAny_truthy_dict hS m ⋯ ⟨H,I.tok _,by rw[C0 r];exact q⟩
 | _=>exact(show False from e).elim
theorem zbx(ha:PE X a ta)(he:∀ whole,isTrue a X.env whole=(do let v <- whole;standAt a.pos;holding [v] (truthy v))) :
  PT X a (fun σ H Q=>ta σ H fun x H'=>∃ k,TruV X.K x H' k/\Q k H'):=by
 intro pins s σ H Q I h;exact isTrue_plain (thn (ha pins s σ H _ I h) fun v s1 ⟨x,H1,I1,r1,q1⟩=>zf0 pins s1 σ H1 x v Q I1 r1 q1) (he _)
theorem R1(r:Vals [x] us):∃ u,us=[u]/\RelV x u:=by
 cases r with
 | cons r1 r2=>cases r2;exact⟨_,rfl,r1⟩
theorem zby(r:Vals [x,y] us):∃ u w',us=[u,w']/\RelV x u/\RelV y w':=by
 cases r with
 | cons r1 r2 =>
   cases r2 with
   | cons r3 r4=>cases r4;exact⟨_,_,rfl,r1,r3⟩
theorem Hs(hc:X.calm=true):V2 X (.builtin "max") (fun xs H Q=>∃ i j,xs=[.int i,.int j]/\Q (.int (if j>i then j else i)) H):=by
 intro pins s σ H xs us Q I r h;obtain⟨i,j,rfl,q⟩:=h;obtain⟨u,w',rfl,⟨t,rfl⟩,⟨t',rfl⟩⟩:=zby r;refine max_two_ints (I.ok.hd hc) fun h' tk k=>⟨_,H,I.kept k,?_,q⟩
 by_cases hj:j>i
 ·rw[if_pos hj,if_pos hj];exact⟨_,rfl⟩
 ·rw[if_neg hj,if_neg hj];exact⟨_,rfl⟩
theorem Qs:V2 X (.type "int") (fun xs H Q=>(∃ i,xs=[.int i]/\Q (.int i) H)\/∃ k,xs=[.bl k]/\Q (.int (if k then 1 else 0)) H):=by
 intro pins s σ H xs us Q I r h;rcases h with ⟨i,rfl,q⟩|⟨k,rfl,q⟩
 ·obtain⟨u,rfl,t,rfl⟩:=R1 r;exact call_int_int ⟨.int i,H,I,⟨_,rfl⟩,q⟩
 ·obtain⟨u,rfl,r1⟩:=R1 r;cases r1;exact call_int_bool ⟨.int (if k then 1 else 0),H,I.tok _,⟨_,rfl⟩,q⟩
end
structure ObjM(h:Heap)(x dx C:Addr)(mA:Str->Option Value):Prop where
 obj:h.get? x=some (PySem.W.instObj C dx)
 ns:h.Ns1 dx mA
 ne:dx≠x
theorem zad{h:Heap}{dx:Addr}{mA:Str->Option Value}(n:h.Ns1 dx mA):∃ od,h.get? dx=some od/\∀ name,PySem.W.lookIn name od=some (mA name):=by
 obtain⟨o,es,ep,ho,hd,hk,_,hm⟩:=n;refine⟨o,ho,fun name=>?_⟩;have e:=hm name;unfold nsFind findBy at e;rw[<- Array.find?_toList] at e;unfold PySem.W.lookIn;rw[hd];dsimp only;split
 ·rename_i y q;rw[q] at e;exact congrArg some e
 ·rename_i q;rw[q] at e;have a:es.toList.any (·.refKey)=false:=by
   rw[List.any_eq_false];intro y hy;obtain⟨z,t,hkey⟩:=hk y (Array.mem_toList_iff.mp hy);simp[DictEntry.refKey,hkey]
  have a':¬ es.toList.any (·.refKey)=true:=by rw[a];exact zsx
  rw[if_neg a'];exact congrArg some e
theorem ObjM.look(I:ObjM h x dx C mA):∃ od,PySem.W.InstAt h x (PySem.W.instObj C dx) C (some od)/\∀ name,PySem.W.lookIn name od=some (mA name) :=
 let ⟨od,ho,hl⟩:=zad I.ns
 ⟨od,⟨I.obj,rfl,rfl,ho⟩,hl⟩
section
variable{prog:Program}{w:World}{A:Around}{E:Value->Shared->Prop}{s:Shared}{K:Frag}{x dx C f:Addr}{mA:Str->Option Value}{name:Str}{v:Value}
theorem zd3(X:K.In s.heap)(I:ObjM s.heap x dx C mA)(hg:PySem.W.plainGet K C name=true)(hh:PySem.W.hasDictIn K C=true)
  (ha:PySem.W.findIn K (.ref C) name=some none) (hv:mA name=some v) (hv':PySem.W.handedIn v=true) (h:Q v { s with toks:=s.toks+1 }) :
  wpAny (model prog w) A (getAttr (.ref x) name expr) Q E s:=by
 obtain⟨od,J,hl⟩:=I.look;exact PySem.W.get_value X J (PySem.W.plainGet_of hg).1 (PySem.W.findObj_own hh ha rfl (by rw[hl,hv])) hv' h
theorem zbz(X:K.In s.heap)(I:ObjM s.heap x dx C mA)(hg:PySem.W.plainGet K C name=true)
  (hf:PySem.W.findIn K (.ref C) name=some (some (.ref f))) (ht:PySem.W.isFn K (.ref f)=true) (hv:mA name=none) (h:Q (.ref f,[.ref x]) s) :
  wpAny (model prog w) A (getMethod (.ref x) name pl) Q E s:=by
 obtain⟨od,J,hl⟩:=I.look;exact PySem.W.method_fn X J (PySem.W.plainGet_of hg).1 (PySem.W.plainGet_of hg).2 hf (beq_iff_eq.mp ht) (by show (PySem.W.lookIn name od).map (·.isSome)=some false;rw[hl,hv];rfl) h
theorem zd4(X:K.In s.heap)(I:ObjM s.heap x dx C mA)
  (hs:PySem.W.findIn K (.ref C) "__setattr__"=some (some (.builtin "object.__setattr__"))) (hp:PySem.W.plainOver K C=true) (ht:PySem.W.takerIn K C name=some none) (hh:PySem.W.hasDictIn K C=true)
  (hw:PySem.Within mA ns) (hsz:ns.length<=sizeLine)
  (h:∀ h',ObjM h' x dx C (fun y=>if y=name then some v else mA y)->Heap.SameBut dx s.heap h'->Q () { s with heap:=h',toks:=s.toks+2 }) :
  wpAny (model prog w) A (setAttr (.ref x) name v) Q E s:=by
 obtain⟨od,J,hl⟩:=I.look;refine PySem.W.set_plain X J hs (PySem.W.osa_open (s:={ s with toks:=s.toks+1 }) (r:=none) X J hp ht fun b=>?_);obtain⟨cd,hc,hd'⟩:=PySem.W.any_some hh;have hx:s.heap.get? x=some ⟨.ref C,some dx,.plain,#[]⟩:=I.obj;refine wpAny_bind (wpAny_pure (wpAny_bind (wpAny_bind (wpAny_loadPart hx (wpAny_bind (PySem.W.Looks.here (s:={ s with toks:=s.toks+1 }) (PySem.W.looks_clsIn X hc) ?_))))));rw[hd'];refine wpAny_pure (a:=some dx) (wpAny_bind (wpAny_pure (wpAny_bind ?_)));refine wpAny_nsSet1 (s:={ s with toks:=s.toks+1 }) I.ns fun h' hn2 hs2=>?_;obtain⟨oD,esD,epD,hoD,hdD,hcD⟩:=hn2.count (PySem.Within.cons name v hw);refine wpAny_bind (wpAny_lookBehind hoD (by rw[hdD];exact pastItsLine_dict (zs3 hcD (by rw[zs4];omega))) ?_);exact wpAny_pure (h _ ⟨(hs2.2 _ (Ne.symm I.ne)).trans I.obj,hn2,I.ne⟩ hs2)
theorem zb0(X:K.In s.heap)(hm:PySem.W.makesIn K C=true)
  (hi:PySem.W.findIn K (.ref C) "__init__"=some (some (.ref f))) (hf:PySem.W.typeIn K (.ref f)=some (.type "function"))
  (h:codeAny (model prog w) (A.under (.builtin "type.__call__" ⟨.ref C :: vs,kw⟩)) (.call (.ref f) ⟨.ref (s.heap.objs.size+1) :: vs,kw⟩) (PySem.W.InitBack (s.heap.objs.size+1) R)
   { s with heap:=(s.heap.push PySem.W.emptyDict).push (PySem.W.instObj C s.heap.objs.size) }) :
  codeAny (model prog w) A (.call (.ref C) ⟨vs,kw⟩) R s:=by
 obtain⟨hh,g,d,t,os⟩:=s;exact PySem.W.make_core (PySem.W.makes_of X hm) (PySem.W.looks_findIn X hi) (fun self=>PySem.W.bind_fn X self hf) (.inl rfl) h
end
def putF(f:Str)(v:V):List (Str×V)->List (Str×V)
 | []=>[(f,v)]
 | (g,x) :: r=>if g=f then (g,v) :: r else (g,x) :: putF f v r
theorem Mg(f g:Str)(v:V):∀ fs:List (Str×V),(putF f v fs).lookup g=if g=f then some v else fs.lookup g
 | []=>by
   show List.lookup g [(f,v)]=_;by_cases h:g=f
   ·have hb:(g == f)=true:=beq_iff_eq.mpr h;simp only[List.lookup,hb,if_pos h]
   ·have hb:(g == f)=false:=zs2.mpr h;simp only[List.lookup,hb,if_neg h]
 | (k,x) :: r=>by
   have ih:=Mg f g v r;rw[show putF f v ((k,x) :: r)=(if k=f then (k,v) :: r else (k,x) :: putF f v r) from rfl];by_cases hk:k=f
   ·rw[if_pos hk];by_cases h:g=k
    ·have hb:(g == k)=true:=beq_iff_eq.mpr h;simp only[List.lookup,hb,if_pos (h.trans hk)]
    ·have hb:(g == k)=false:=zs2.mpr h;simp only[List.lookup,hb,if_neg (fun e:g=f=>h (e.trans hk.symm))]
   ·rw[if_neg hk];by_cases h:g=k
    ·have hb:(g == k)=true:=beq_iff_eq.mpr h;simp only[List.lookup,hb,if_neg (fun e:g=f=>hk (h.symm.trans e))]
    ·have hb:(g == k)=false:=zs2.mpr h;simp only[List.lookup,hb];exact ih
theorem Ng(f:Str)(v:V):∀ fs:List (Str×V),f∈(putF f v fs).map (·.1)/\∀ g,g∈fs.map (·.1)->g∈(putF f v fs).map (·.1)
 | []=>⟨by simp[putF],fun g h=>by simp at h⟩
 | (k,x) :: r=>by
   obtain⟨i1,i2⟩:=Ng f v r;rw[show putF f v ((k,x) :: r)=(if k=f then (k,v) :: r else (k,x) :: putF f v r) from rfl];by_cases hk:k=f
   ·rw[if_pos hk];subst hk;exact⟨by simp,fun g h=>by simpa using h⟩
   ·rw[if_neg hk];refine⟨?_,fun g h=>?_⟩
    ·rw[zst];exact zsw _ i1
    ·rw[zst] at h ⊢;rcases zsk.mp h with e|e
     ·exact zsk.mpr (.inl e)
     ·exact zsw _ (i2 g e)
theorem Mh(f:Str)(v:V):∀ fs:List (Str×V),(putF f v fs).length<=fs.length+1
 | []=>by simp[putF]
 | (k,x) :: r=>by
   have ih:=Mh f v r;rw[show putF f v ((k,x) :: r)=(if k=f then (k,v) :: r else (k,x) :: putF f v r) from rfl];by_cases hk:k=f
   ·rw[if_pos hk,zs4,zs4];omega
   ·rw[if_neg hk,zs4,zs4];omega
theorem RelO.some_of(r:RelO (some v) o):∃ u,o=some u/\RelV v u:=by
 cases o with
 | none=>exact(show False from r).elim
 | some u=>exact⟨u,rfl,r⟩
theorem RelO.none_of(r:RelO none o):o=none:=by
 cases o with
 | none=>rfl
 | some u=>exact(show False from r).elim
theorem zae(r:RelV v u):PySem.W.handedIn u=true:=by
 cases v with
 | non=>cases (show u=Value.none from r);rfl
 | bl b=>cases (show u=Value.bool b from r);rfl
 | int i=>obtain⟨t,e⟩:=(show ∃ t,u=Value.int i t from r);cases e;rfl
 | str x=>obtain⟨t,e⟩:=(show ∃ t,u=Value.str x t from r);cases e;rfl
 | byt b=>obtain⟨t,e⟩:=(show ∃ t,u=Value.bytes b t from r);cases e;rfl
 | flt b=>obtain⟨t,e⟩:=(show ∃ t,u=Value.float b t from r);cases e;rfl
 | ref a=>cases (show u=Value.ref a from r);rfl
 | ty n=>cases (show u=Value.type n from r);rfl
section
variable{P:Program}{w:World}{H H':Hp}{h h':Heap}{a C dx:Addr}{fs fs':List (Str×V)}
theorem Ll(hok:HOk P w H h)(e:H a=some (.ins C dx fs)):∃ mA,ObjM h a dx C mA/\(∀ f,RelO (fs.lookup f) (mA f))/\PySem.Within mA (fs.map (·.1))/\fs.length<=1000/\H dx=some (.own a):=by
 obtain⟨d,z,ne,ob,mA,n,r,q⟩:=(show Yp P w H h a (.ins C dx fs) from hok a _ e);exact⟨mA,⟨ob,n,ne⟩,r,q,z,d⟩
end
structure Cls(K:Frag)(C:Addr):Prop where
 pg:PySem.W.plainGet K C Str.empty=true
 hd:PySem.W.hasDictIn K C=true
 po:PySem.W.plainOver K C=true
 sa:PySem.W.findIn K (.ref C) "__setattr__"=some (some (.builtin "object.__setattr__"))
theorem Cls.get{K:Frag}{C:Addr}(c:Cls K C)(f:Str):PySem.W.plainGet K C f=true:=c.pg
def Xh(K:Frag)(C:Addr)(f:Str):Prop:=PySem.W.findIn K (.ref C) f=some none
theorem Xh.taker{K:Frag}{C:Addr}{f:Str}(n:Xh K C f):PySem.W.takerIn K C f=some none:=by
 unfold PySem.W.takerIn;rw[show PySem.W.findIn K (.ref C) f=some none from n];rfl
structure Con(K:Frag)(C:Addr)(f:Str)(v:V)(u:Value):Prop where
 at_:PySem.W.findIn K (.ref C) f=some (some u)
 rel:RelV v u
 get:PySem.W.specialIn K u "__get__"=some none
 cp:PySem.W.copiedNames.contains f=false
structure zb1(K:Frag)(C:Addr)(m:Str)(f:Addr):Prop where
 at_:PySem.W.findIn K (.ref C) m=some (some (.ref f))
 fn:PySem.W.isFn K (.ref f)=true
 kp:PySem.W.keepIn K (.ref f)=true
section
variable{X:Cx}{pins:List (Addr×Obj)}{σ:St}{H:Hp}{s:Shared}{a C dx:Addr}{fs:List (Str×V)}{f:Str}{v:V}{A:Around}{E:Value->Shared->Prop}
theorem C2(I:Inv X pins σ H s)(e:H a=some (.ins C dx fs))(c:Cls X.K C)(n:Xh X.K C f)(l:fs.lookup f=some v)
  (h:∀ u s',Inv X pins σ H s'->RelV v u->Q u s'):wpAny (model X.prog X.w) A (getAttr (.ref a) f b) Q E s:=by
 obtain⟨mA,O,r,_,_,_⟩:=Ll I.hok e;obtain⟨u,hu,ru⟩:=RelO.some_of (v:=v) (o:=mA f) (by rw[<- l];exact r f);exact zd3 I.kIn O (c.get f) c.hd n hu (zae ru) (h u _ (I.tok _) ru)
theorem L8(I:Inv X pins σ H s)(e:H a=some (.ins C dx fs))(c:Cls X.K C)(k:zb1 X.K C m g)(l:fs.lookup m=none)
  (h:Q (.ref g,[.ref a]) s):wpAny (model X.prog X.w) A (getMethod (.ref a) m pl) Q E s:=by
 obtain⟨mA,O,r,_,_,_⟩:=Ll I.hok e;have hn:mA m=none:=RelO.none_of (by rw[<- l];exact r m);exact zbz I.kIn O (c.get m) k.at_ k.fn hn h
theorem C3(I:Inv X pins σ H s)(e:H a=some (.ins C dx fs))(c:Cls X.K C)(n:Xh X.K C f)(hl:fs.length<1000)(ry:RelV y u)
  (h:∀ s',Inv X pins σ (upd H a (.ins C dx (putF f y fs))) s'->Q () s'):wpAny (model X.prog X.w) A (setAttr (.ref a) f u) Q E s:=by
 obtain⟨mA,O,r,wi,_,ho⟩:=Ll I.hok e;have hz:(fs.map (·.1)).length<=sizeLine:=by rw[zsg,sizeLine_eq];omega
 refine zd4 I.kIn O c.sa c.po n.taker c.hd wi hz fun h' O' sb=>h _ ?_;have hd:∃ o,h'.get? dx=some o:=let ⟨o,_,_,e',_⟩:=O'.ns;⟨o,e'⟩;refine I.write (x:=a) (e:=dx) (by rw[e];exact True.intro) (.inr ho) (fun b q hb z=>(sb.2 b hb).trans z) hd ?_;refine⟨by rw[Zi O.ne];exact ho,?_,O.ne,O'.obj,_,O'.ns,fun g=>?_,fun g hg=>?_⟩
 ·have:=Mh f y fs;omega
 ·show RelO ((putF f y fs).lookup g) (if g=f then some u else mA g);rw[Mg];by_cases q:g=f
  ·rw[if_pos q,if_pos q];exact ry
  ·rw[if_neg q,if_neg q];exact r g
 ·by_cases q:g=f
  ·rw[q];exact(Ng f y fs).1
  ·refine(Ng f y fs).2 g (wi g fun z=>hg ?_);show (if g=f then some u else mA g)=none;rw[if_neg q];exact z
theorem Inv.made(I:Inv X pins σ H s):Inv X pins σ (upd (upd H s.heap.objs.size (.own (s.heap.objs.size+1))) (s.heap.objs.size+1) (.ins C s.heap.objs.size []))
  { s with heap:=(s.heap.push PySem.W.emptyDict).push (PySem.W.instObj C s.heap.objs.size) }:=by
 have e1:(s.heap.push PySem.W.emptyDict).get? s.heap.objs.size=some PySem.W.emptyDict:=Heap.get?_push_size s.heap rfl;have e2:((s.heap.push PySem.W.emptyDict).push (PySem.W.instObj C s.heap.objs.size)).get? (s.heap.objs.size+1)=some (PySem.W.instObj C s.heap.objs.size):=by
  have:=Heap.get?_push_size (s.heap.push PySem.W.emptyDict) (o:=PySem.W.instObj C s.heap.objs.size) rfl
  rwa [Heap.size_push] at this
 have e3:(s.heap.push PySem.W.emptyDict).Ns s.heap.objs.size (fun _=>none):=⟨PySem.W.emptyDict,#[],_,e1,rfl,(fun e he=>absurd he (by simp)),fun _=>rfl⟩;have I1:=I.laid (a:=s.heap.objs.size) (o:=.own (s.heap.objs.size+1)) (h':=s.heap.push PySem.W.emptyDict) (t':=s.toks) (fun b u q=>Heap.get?_push_of_some _ q) (zso _) ⟨_,e1⟩;refine I1.laid (a:=s.heap.objs.size+1) (o:=.ins C s.heap.objs.size []) (t':=s.toks) (fun b u q=>Heap.get?_push_of_some _ q) (Nat.le_of_eq (Heap.size_push _ _)) ?_;have ne:s.heap.objs.size≠s.heap.objs.size+1:=zs9 (Nat.lt_succ_self _);refine⟨by rw[Zi ne,Zb],zs1 _,ne,e2,fun _=>none,(Heap.Ns1.of_empty e3).at fun o q=>Heap.get?_push_of_some _ q,fun _=>True.intro,fun y hy=>absurd rfl hy⟩
theorem zd5(hb:attributeBase e f env (eval e env)=eval e env)
  (h:wpAny (model prog w) A (eval e env) (fun o s₁=>wpAny (model prog w) A (getAttr o f true) Q E s₁) E s):wpAny (model prog w) A (eval (.Attribute e f pos) env) Q E s :=
 Attribute_any_ h (by rw[arm_eval_Attribute,hb])
end
inductive zhx(K:Frag)(f:Str)(Q:VK)(x:V)(H1:Hp):Prop where
 | mk(a)(C)(dx)(fs)(v)(_:x=.ref a)(_:H1 a=some (.ins C dx fs))(_:Cls K C)(_:Xh K C f)(_:fs.lookup f=some v)(_:Q v H1)
def zhy(K:Frag)(ta:TE)(f:Str):TE:=fun σ H Q=>ta σ H fun x H1=>zhx K f Q x H1
inductive zhz(K:Frag)(f:Str)(D:Og)(σ:L2.St)(y:V)(x:V)(H2:Hp):Prop where
 | mk(a)(C)(dx)(fs)(_:x=.ref a)(_:H2 a=some (.ins C dx fs))(_:Cls K C)(_:Xh K C f)(_:fs.length<1000)(_:D.nx σ (upd H2 a (.ins C dx (putF f y fs))))
def zh0(K:Frag)(ta tv:TE)(f:Str):TS:=fun D σ H=>tv σ H fun y H1=>ta σ H1 fun x H2=>zhz K f D σ y x H2
section
variable{X:Cx}{o e value:Expr}{f:Str}{pos pos' tpos:Pos}{ta tv:TE}
theorem zf1(he:PE X e ta)(hb:attributeBase e f X.env (eval e X.env)=eval e X.env):PE X (.Attribute e f pos) (zhy X.K ta f):=by
 intro pins s σ H Q I h;refine zd5 hb (thn (he pins s σ H _ I h) fun u s1 ⟨x,H1,I1,rx,a,C,dx,fs,v,ex,ea,c,n,l,q⟩=>?_);subst ex;obtain rfl:u=Value.ref a:=rx;exact C2 I1 ea c n l fun u' s2 I2 ru=>⟨v,H1,I2,ru,q⟩
theorem zf2(ha:PE X o ta)(hv:PE X value tv)(hs:swapsWith value (some (.Attribute o f pos')) pos.line X.env=pure false):PS X (.Assign [.Attribute o f pos'] value pos) (zh0 X.K ta tv f):=by
 intro pins s σ H D I h;refine plainObj_wpAny_Assign_Attribute (thn (hv pins s σ H _ I h) fun u s1 ⟨y,H1,I1,ry,q⟩=>thn (ha pins s1 σ H1 _ I1 q) fun ov s2 ⟨x,H2,I2,rx,a,C,dx,fs,ex,ea,c,n,l,q2⟩=>?_) hs;subst ex;obtain rfl:ov=Value.ref a:=rx;exact C3 I2 ea c n l ry fun s3 I3=>⟨σ,_,I3,q2⟩
end
section
variable{X:Cx}{pins:List (Addr×Obj)}{σ:St}{H:Hp}{s:Shared}{A:Around}{E:Value->Shared->Prop}{Q:Value->Shared->Prop}{c:Value}{b:Bool}
inductive Nh(K:Frag)(H:Hp):V->Value->Prop where
 | non:Nh K H .non (.type "NoneType")
 | bl (x:Bool):Nh K H (.bl x) (.type "bool")
 | int (i:Int):Nh K H (.int i) (.type "int")
 | str (x:Str):Nh K H (.str x) (.type "str")
 | flt (x:UInt64):Nh K H (.flt x) (.type "float")
 | lst {a:Addr} {xs:List V} (e:H a=some (.lst xs)):Nh K H (.ref a) (.type "list")
 | frz {a:Addr} {o:Obj} {xs:List V} (e:H a=some (.frz o (.lst xs))):Nh K H (.ref a) (.type "list")
 | tup {a:Addr} {xs:List V} (e:H a=some (.tup xs)):Nh K H (.ref a) (.type "tuple")
 | dK {a:Addr} {kvs:List (Key×V)} (e:H a=some (.dK kvs)):Nh K H (.ref a) (.type "dict")
 | dT {a:Addr} {kvs:List (List Key×V)} (e:H a=some (.dT kvs)):Nh K H (.ref a) (.type "dict")
 | ins {a C dx:Addr} {fs:List (Str×V)} (e:H a=some (.ins C dx fs)) (cl:Cls K C) (ha:PySem.W.findIn K (.ref C) "__class__"=some (some (.builtin "object.__class__")))
   (hn:PySem.W.specialIn K (.builtin "object.__class__") "__get__"=some (some (.builtin "getset_descriptor.__get__"))) (htk:PySem.W.takesIn K (.builtin "object.__class__")=some true)
   (hm:PySem.W.mroIn K C (.type "object")=some true):Nh K H (.ref a) (.ref C)
theorem zaf(I:Inv X pins σ H s)(rx:RelV x u)(ty:Nh X.K H x t)(e:PySem.W.kitOne X.K t c=some b)(h:∀ tk,Q (.bool b) { s with toks:=tk }) :
  wpAny (model X.prog X.w) A (call (.builtin "isinstance") [u,c]) Q E s:=by
 cases ty with
 | non=>cases (show u=Value.none from rx);exact PySem.W.kia_one PySem.W.kitx_none I.kIn True.intro e (fun z=>nomatch z) h
 | bl y=>cases (show u=Value.bool y from rx);exact PySem.W.kia_one PySem.W.kitx_bool I.kIn True.intro e (fun z=>nomatch z) h
 | int i=>obtain⟨t,q⟩:=(show ∃ t,u=Value.int i t from rx);cases q;exact PySem.W.kia_one PySem.W.kitx_int I.kIn True.intro e (fun z=>nomatch z) h
 | str y=>obtain⟨t,q⟩:=(show ∃ t,u=Value.str y t from rx);cases q;exact PySem.W.kia_one PySem.W.kitx_str I.kIn True.intro e (fun z=>nomatch z) h
 | flt y=>obtain⟨t,q⟩:=(show ∃ t,u=Value.float y t from rx);cases q;exact PySem.W.kia_one PySem.W.kitx_float I.kIn True.intro e (fun z=>nomatch z) h
 | @lst a xs ea =>
   cases (show u=Value.ref a from rx);obtain⟨_,_,n,_,h1⟩:=(show Yp X.prog X.w H s.heap a (.lst xs) from I.hok a _ ea);exact PySem.W.kia_one PySem.W.kitx_list I.kIn ⟨_,h1,rfl⟩ e (fun z=>nomatch z) h
 | @frz a ob xs ea =>
   cases (show u=Value.ref a from rx);obtain⟨_,_,_,n,_,h1⟩:=(show Yp X.prog X.w H s.heap a (.frz ob (.lst xs)) from I.hok a _ ea);exact PySem.W.kia_one PySem.W.kitx_list I.kIn ⟨_,h1,rfl⟩ e (fun z=>nomatch z) h
 | @tup a xs ea =>
   cases (show u=Value.ref a from rx);obtain⟨_,_,_,p⟩:=(show Yp X.prog X.w H s.heap a (.tup xs) from I.hok a _ ea);obtain⟨o,h1,h2,_⟩:=p;exact PySem.W.kia_one PySem.W.kitx_tuple I.kIn ⟨o,h1,h2⟩ e (fun z=>nomatch z) h
 | @dK a kvs ea =>
   cases (show u=Value.ref a from rx);obtain⟨_,_,vs,_,p⟩:=(show Yp X.prog X.w H s.heap a (.dK kvs) from I.hok a _ ea);obtain⟨o,es,ep,h1,h2,_⟩:=p;exact PySem.W.kia_one PySem.W.kitx_dict I.kIn ⟨o,h1,h2.1⟩ e (fun z=>nomatch z) h
 | @dT a kvs ea =>
   cases (show u=Value.ref a from rx);obtain⟨_,_,xs,_,o,es,ep,h1,h2,_⟩:=(show Yp X.prog X.w H s.heap a (.dT kvs) from I.hok a _ ea);exact PySem.W.kia_one PySem.W.kitx_dict I.kIn ⟨o,h1,h2.1⟩ e (fun z=>nomatch z) h
 | @ins a C dx fs ea cl ha hn htk hm =>
   cases (show u=Value.ref a from rx);obtain⟨mA,O,_⟩:=Ll I.hok ea;obtain⟨od,J,_⟩:=O.look;exact PySem.W.kia_one (PySem.W.kitx_own (cl.get _) cl.hd ha hn htk hm) I.kIn J e (fun z=>nomatch z) h
end
structure Wt(k:Nat)(A:Around):Prop where
 hd:A.handled=none
 dp:A.depth+3*k+5<recursionLimit
 un:A.units+16*k+200<cLine
theorem Wt.mono(r:Wt k A)(h:j<=k):Wt j A:=⟨r.hd,by have:=r.dp;omega,by have:=r.un;omega⟩
theorem Wt.deeper(r:Wt (k+1) A)(env:Env):Wt k (A.deeper env) :=
 ⟨r.hd,by have:=r.dp;show A.depth+1+3*k+5<_;omega,by have:=r.un;show A.units+3+16*k+200<_;omega⟩
theorem C4{A:Around}{C:Addr}{us:List Value}{kw:List (Str×Value)}:(A.under (.builtin "type.__call__" ⟨.ref C :: us,kw⟩)).depth=A.depth+1:=by
 first|rfl|simp[Around.under,Code.weight,Code.isCreation,Code.isGuard,Code.isCaller,Code.frames,Code.isFrame,guardIds]
theorem C5{A:Around}{C:Addr}{us:List Value}{kw:List (Str×Value)}:(A.under (.builtin "type.__call__" ⟨.ref C :: us,kw⟩)).units=A.units+1:=by
 first|rfl|simp[Around.under,Code.cUnits,Code.frames,Code.isFrame]
theorem Wt.make(r:Wt (k+1) A)(C:Addr)(us:List Value)(kw:List (Str×Value)):Wt k (A.under (.builtin "type.__call__" ⟨.ref C :: us,kw⟩)) :=
 ⟨r.hd,by have:=r.dp;rw[C4];omega,by have:=r.un;rw[C5];omega⟩
theorem Wt.depth(r:Wt k A):A.depth<recursionLimit:=by have:=r.dp;omega
theorem Wt.units(r:Wt k A):A.units+64<cLine:=by have:=r.un;omega
def tNil:TA:=fun _ H Q=>Q [] H
def Tv(ta:TE)(tr:TA):TA:=fun σ H Q=>ta σ H fun x H1=>tr σ H1 fun xs H2=>Q (x :: xs) H2
section
variable{X:Cx}{e:Expr}{es:List Expr}{te:TE}{t:TA}{pos:Pos}
theorem Zd:PA X [] tNil:=fun _ _ _ _ H Q I h=>Calls.spliced_nil ⟨[],H,I,.nil,h⟩
theorem Za(ha:PE X e te)(hr:PA X es t)(hs:starEach (e :: es) X.env=(false,eval e X.env) :: starEach es X.env:=by rfl):PA X (e :: es) (Tv te t):=by
 intro pos pins s σ H Q I h;rw[hs];show wpAny _ _ (spliced ((false,eval e X.env) :: backTo pos (starEach es X.env))) _ _ s;refine Calls.spliced_cons (thn (ha pins s σ H _ I h) fun u s1 ⟨x,H1,I1,r1,q1⟩=>?_);exact thn (hr pos pins s1 σ H1 _ I1 q1) fun us s2 ⟨xs,H2,I2,r2,q2⟩=>⟨x :: xs,H2,I2,.cons r1 r2,q2⟩
inductive zh1(Q:VK)(xs:List V)(H1:Hp):Prop where
 | mk(_:xs.length<=sizeLine)(_:∀ p,H1 p=none->Q (.ref p) (upd H1 p (.tup xs)))
def zjf(t:TA):TE:=fun σ H Q=>t σ H fun xs H1=>zh1 Q xs H1
inductive zh2(Q:VK)(xs:List V)(H1:Hp):Prop where
 | mk(_:xs.length<=sizeLine)(_:∀ p,H1 p=none->Q (.ref p) (upd H1 p (.lst xs)))
def tLst(t:TA):TE:=fun σ H Q=>t σ H fun xs H1=>zh2 Q xs H1
theorem Z2{x1}(h:PA X es t):PE X (.Tuple es x1 pos) (zjf t):=by
 intro pins s σ H Q I hq;refine wpAny_Tuple_spliced (thn (h pos pins s σ H _ I hq) fun us s1 ⟨xs,H1,I1,r,z,q⟩=>⟨by rw[<- r.length];exact z,?_⟩);have hf:H1 s1.heap.objs.size=none:=I1.hok.fresh (zso _);refine⟨.ref s1.heap.objs.size,upd H1 s1.heap.objs.size (.tup xs),I1.laid (t':=s1.toks) (fun b u e=>Heap.get?_push_of_some _ e) (zso _) ?_,rfl,q _ hf⟩;exact⟨z,us,r,⟨_,Heap.get?_push_size _ rfl,rfl,_,rfl⟩⟩
theorem Z5(h:PA X es t):PE X (.List es pos) (tLst t):=by
 intro pins s σ H Q I hq;refine wpAny_List_spliced (thn (h pos pins s σ H _ I hq) fun us s1 ⟨xs,H1,I1,r,z,q⟩=>⟨by rw[<- r.length];exact z,?_⟩);have hf:H1 s1.heap.objs.size=none:=I1.hok.fresh (zso _);refine⟨.ref s1.heap.objs.size,upd H1 s1.heap.objs.size (.lst xs),I1.laid (t':=s1.toks) (fun b u e=>Heap.get?_push_of_some _ e) (zso _) ?_,rfl,q _ hf⟩;exact⟨z,us,0,r,Heap.get?_push_size _ rfl⟩
end
abbrev Sp:=List V->Hp->VK->XK->Prop
abbrev CXT:=List Env->Hp->Shared->XK->Value->Shared->Prop
structure Mu(P:Program)(w:World)(K:Frag)(mg:Str->Option Value)(base:Heap)(A:Around)(outer:List Env)(s:Shared)(H:Hp):Prop where
 frames:A.frames=some outer
 mod:Mod K mg base
 bs:∀ b o,base.get? b=some o->s.heap.get? b=some o/\H b=none
 bsz:base.objs.size<=s.heap.objs.size
 funs:s.heap.FunFrames base outer
 frf:∀ b∈frs outer,H b=none
 hok:HOk P w H s.heap
 bare:AllBare s.gens
def CE(outer:List Env)(P:Program)(w:World)(H:Hp)(s:Shared)(Q:VK)(u:Value)(s':Shared):Prop :=
 ∃ v H',s'.os=s.os/\AllBare s'.gens/\Un (frs outer) [] H H' s.heap s'.heap/\HOk P w H' s'.heap/\RelV v u/\Q v H'
def CR(CX:CXT)(outer:List Env)(P:Program)(w:World)(H:Hp)(s:Shared)(Q:VK)(E:XK)(r:Result)(s':Shared):Prop :=
 match r with
 | .ok (.ret u)=>CE outer P w H s Q u s'
 | .ok _=>False
 | .error e=>CX outer H s E e s'
structure FnOk(P:Program)(w:World)(K:Frag)(mg:Str->Option Value)(base:Heap)(CX:CXT)(k:Nat)(f:Addr)(fd:FuncData)(ps:List Str)(sp:Sp):Prop where
 len:∀ vs H Q E,sp vs H Q E->vs.length=ps.length
 run:∀ (A:Around) (outer:List Env) (s:Shared) (H:Hp) (args:Args) (us:List Value) (vs:List V) (Q:VK) (E:XK),Wt k A->Mu P w K mg base A outer s H->BindsTo s fd args (ps.zip us)->Vals vs us->sp vs H Q E ->
  codeAny (model P w) A (.call (.ref f) args) (CR CX outer P w H s Q E) s
theorem Mu.make{P:Program}{w:World}{K:Frag}{mg:Str->Option Value}{base:Heap}{A:Around}{outer:List Env}{s:Shared}{H:Hp}(e:Mu P w K mg base A outer s H)(C:Addr)(us:List Value)(kw:List (Str×Value)) :
  Mu P w K mg base (A.under (.builtin "type.__call__" ⟨.ref C :: us,kw⟩)) outer s H:=⟨by first|exact e.frames|(simpa [Around.under,Code.envs,Code.isFrame,pushEnvs] using e.frames),e.mod,e.bs,e.bsz,e.funs,e.frf,e.hok,e.bare⟩
section
variable{X:Cx}{pins:List (Addr×Obj)}{σ:St}{H:Hp}{s s':Shared}
theorem Inv.env0(I:Inv X pins σ H s):Mu X.prog X.w X.K X.mg X.base X.A X.stack s H :=
 ⟨I.ok.frames,I.ok.mod,I.bs,zs3 I.ok.bsz I.sz,I.stack,I.stkFree,I.hok,I.bare⟩
theorem Inv.after(I:Inv X pins σ H s)(h:CE X.stack X.prog X.w H s Q u s'):EP X pins σ Q u s':=by
 obtain⟨v,H',os,bare,un,hok,r,q⟩:=h;obtain⟨hh,g,d,t,os'⟩:=s';obtain rfl:os'=s.os:=os;exact⟨v,H',I.call (h':=hh) (g':=g) (d':=d) (t':=t) (ch:=[]) un hok bare (fun b z=>absurd z (by simp)),r,q⟩
end
def zb2(sp:Sp)(dvs:List V)(E:XK)(t:TA):TE:=fun σ H Q=>t σ H fun vs H1=>sp (vs++dvs) H1 Q E
inductive zf3(C:Addr)(m:Str)(sp:Sp)(dvs:List V)(E:XK)(t:TA)(σ:L2.St)(Q:VK)(x:V)(H1:Hp):Prop where
 | mk(a)(dx)(fs)(_:x=.ref a)(_:H1 a=some (.ins C dx fs))(_:fs.lookup m=none)(_:t σ H1 fun vs H2=>sp (x :: (vs++dvs)) H2 Q E)
def B6(C:Addr)(m:Str)(sp:Sp)(dvs:List V)(E:XK)(ta:TE)(t:TA):TE:=fun σ H Q=>ta σ H fun x H1=>zf3 C m sp dvs E t σ Q x H1
def B7(C:Addr)(sp:Sp)(dvs:List V)(E:XK)(t:TA):TE:=fun σ H Q=>t σ H fun vs H1=>∀ x dx,H1 x=none->H1 dx=none->dx≠x ->
 sp (.ref x :: (vs++dvs)) (upd (upd H1 dx (.own x)) x (.ins C dx [])) (fun v H2=>v=.non/\Q (.ref x) H2) E
def Sn(K:Frag)(fd:FuncData)(ps:List Str)(ds:List Value):Prop :=
 ∀ (s:Shared) (us:List Value),K.In s.heap->(us++ds).length=ps.length->BindsTo s fd ⟨us,[]⟩ (ps.zip (us++ds))
theorem Sn.all{K:Frag}{fd:FuncData}{ps:List Str}(h:∀ us:List Value,us.length=ps.length->bindArgs fd ⟨us,[]⟩=pure (ps.zip us)):Sn K fd ps []:=fun s us _ hl=>by
 rw[zup] at hl ⊢;exact .of_eq (h us hl)
def Wo(CX:CXT)(X:Cx)(E:XK):Prop:=∀ (pins:List (Addr×Obj)) (σ:St) (H:Hp) (s:Shared) (e:Value) (s':Shared),Inv X pins σ H s->CX X.stack H s E e s'->X.xe e s'
section
variable{X:Cx}{CX:CXT}{k:Nat}{f C:Addr}{fd:FuncData}{ps:List Str}{sp:Sp}{dvs:List V}{ds:List Value}{E:XK}{x m:Str}{p pos apos:Pos}{e o:Expr}{es:List Expr}{ta:TE}{t:TA}
theorem C6(F:FnOk X.prog X.w X.K X.mg X.base CX k f fd ps sp)(hr:Wt k X.A)(hb:Sn X.K fd ps ds)(hd:Vals dvs ds)(hx:Wo CX X E)
  (I:Inv X pins σ H s) (r:Vals vs us) (h:sp (vs++dvs) H Q E):wpAny (model X.prog X.w) X.A (call (.ref f) us) (EP X pins σ Q) X.xe s:=by
 have r2:Vals (vs++dvs) (us++ds):=r.append hd;have hl:(us++ds).length=ps.length:=by rw[<- r2.length];exact F.len _ _ _ _ h
 refine wpAny_call (codeAny_mono (F.run X.A X.stack s H ⟨us,[]⟩ (us++ds) (vs++dvs) Q E hr I.env0 (hb s us I.kIn hl) r2 h) fun r s' hq=>?_);cases r with
 | error e=>exact hx pins σ H s e s' I hq
 | ok fl =>
   cases fl with
   | ret u=>exact I.after hq
   | next=>exact False.elim hq
   | brk=>exact False.elim hq
   | cont=>exact False.elim hq
theorem zd6(F:FnOk X.prog X.w X.K X.mg X.base CX k f fd ps sp)(hr:Wt k X.A)(hg:Gl X x)(hm:X.mg x=some (.ref f))(hk:PySem.W.keepIn X.K (.ref f)=true)(hb:Sn X.K fd ps ds)(hd:Vals dvs ds)(hx:Wo CX X E)
  (ha:PA X (e :: es) t) (hdb:(x == ("__debug__":Str))=false:=by decide) (he:starEach (e :: es) X.env=(false,eval e X.env) :: starEach es X.env:=by rfl) (hpl:(backTo pos (starEach es X.env)).any (·.1)=false:=by rfl) :
  PE X (.Call (.Name x p) (e :: es) [] pos) (zb2 sp dvs E t):=by
 intro pins s σ H Q I h;refine wpAny_Call_Name_kw (Qq I hg hm ?_ hdb);refine PySem.W.callWith_K (h₀:=X.base) I.ok.mod.kin hk (thn (ha pos pins s σ H _ I h) fun us s1 ⟨vs,H1,I1,r,q⟩=>⟨I1.kIn,?_⟩) he hpl;exact C6 F hr hb hd hx I1 r q
theorem zd7(he:PE X o ta)(c:Cls X.K C)(hm:zb1 X.K C m f)(F:FnOk X.prog X.w X.K X.mg X.base CX k f fd ps sp)(hr:Wt k X.A)(hb:Sn X.K fd ps ds)(hd:Vals dvs ds)(hx:Wo CX X E)(ha:PA X (e :: es) t)
  (hst:starEach (e :: es) X.env=(false,eval e X.env) :: starEach es X.env:=by rfl) (hpl:(backTo pos (starEach es X.env)).any (·.1)=false:=by rfl)
  (ht:eval (.Call (.Attribute o m apos) (e :: es) [] pos) X.env=(do
   let ov <- eval o X.env
   standAt apos.atName
   let (f,first) <- holding [ov] (getMethod ov m pl)
   callWith pos f first (backTo pos (starEach (e :: es) X.env)) (backToKw pos (keywordEach [] X.env))):=by rfl) :
  PE X (.Call (.Attribute o m apos) (e :: es) [] pos) (B6 C m sp dvs E ta t):=by
 intro pins s σ H Q I h;refine PySem.W.methodCall_KW (pl:=pl) (thn (he pins s σ H _ I h) fun u s1 ⟨x,H1,I1,rx,a,dx,fs,ex,ea,l,q⟩=>?_) ht;subst ex;obtain rfl:u=Value.ref a:=rx;refine L8 I1 ea c hm l ?_;refine PySem.W.callWith_K (first:=[.ref a]) (h₀:=X.base) I.ok.mod.kin hm.kp (thn (ha pos pins s1 σ H1 _ I1 q) fun us s2 ⟨vs,H2,I2,r,q2⟩=>⟨I2.kIn,?_⟩) hst hpl;exact C6 (us:=.ref a :: us) (vs:=.ref a :: vs) F hr hb hd hx I2 (.cons rfl r) q2
theorem zb3(he:PE X o ta)(c:Cls X.K C)(hm:zb1 X.K C m f)(F:FnOk X.prog X.w X.K X.mg X.base CX k f fd ps sp)(hr:Wt k X.A)(hb:Sn X.K fd ps ds)(hd:Vals dvs ds)(hx:Wo CX X E)
  (ht:eval (.Call (.Attribute o m apos) [] [] pos) X.env=(do
   let ov <- eval o X.env
   standAt apos.atName
   let (f,first) <- holding [ov] (getMethod ov m pl)
   callWith pos f first (backTo pos (starEach [] X.env)) (backToKw pos (keywordEach [] X.env))):=by rfl) :
  PE X (.Call (.Attribute o m apos) [] [] pos) (B6 C m sp dvs E ta tNil):=by
 intro pins s σ H Q I h;refine PySem.W.methodCall_KW (pl:=pl) (thn (he pins s σ H _ I h) fun u s1 ⟨x,H1,I1,rx,a,dx,fs,ex,ea,l,q⟩=>?_) ht;subst ex;obtain rfl:u=Value.ref a:=rx;refine L8 I1 ea c hm l ?_;exact PySem.W.callWith_K0 (first:=[.ref a]) I1.kIn hm.kp (C6 (us:=[.ref a]) (vs:=[.ref a]) F hr hb hd hx I1 (.cons rfl .nil) q)
structure Mk(K:Frag)(C f:Addr):Prop where
 makes:PySem.W.makesIn K C=true
 init:PySem.W.findIn K (.ref C) "__init__"=some (some (.ref f))
 fn:PySem.W.isFn K (.ref f)=true
 kp:PySem.W.keepIn K (.ref C)=true
theorem Et(M:Mk X.K C f)(F:FnOk X.prog X.w X.K X.mg X.base CX k f fd ps sp)(hr:Wt (k+1) X.A)(hb:Sn X.K fd ps ds)(hd:Vals dvs ds)
  (hx:Wo CX X E) (I:Inv X pins σ H s) (r:Vals vs us)
  (h:∀ x dx,H x=none->H dx=none->dx≠x->sp (.ref x :: (vs++dvs)) (upd (upd H dx (.own x)) x (.ins C dx [])) (fun v H2=>v=.non/\Q (.ref x) H2) E) :
  wpAny (model X.prog X.w) X.A (call (.ref C) us) (EP X pins σ Q) X.xe s:=by
 have hq:=h (s.heap.objs.size+1) s.heap.objs.size (I.hok.fresh (zul _)) (I.hok.fresh (zso _)) (zs9 (Nat.lt_succ_self _));have I2:=Inv.made (C:=C) I;have r2:Vals (V.ref (s.heap.objs.size+1) :: (vs++dvs)) (Value.ref (s.heap.objs.size+1) :: (us++ds)):=.cons rfl (r.append hd);have hl:(Value.ref (s.heap.objs.size+1) :: us++ds).length=ps.length:=by
  have e:=r2.length;rw[F.len _ _ _ _ hq] at e;exact e.symm
 refine wpAny_call (zb0 (f:=f) I.kIn M.makes M.init (beq_iff_eq.mp M.fn) (codeAny_mono (F.run _ X.stack _ _ ⟨Value.ref (s.heap.objs.size+1) :: us,[]⟩ (Value.ref (s.heap.objs.size+1) :: (us++ds)) _ _ E (hr.make C us [])
  (I2.env0.make C us []) (hb _ (Value.ref (s.heap.objs.size+1) :: us) I2.kIn hl) r2 hq) fun r s' hq'=>?_))
 cases r with
 | error e=>exact hx pins σ _ _ e s' I2 hq'
 | ok fl =>
   cases fl with
   | ret u =>
     obtain⟨v,H',I3,rv,ev,q3⟩:=I2.after hq';subst ev;exact⟨rv,⟨V.ref (s.heap.objs.size+1),H',I3,rfl,q3⟩⟩
   | next=>exact False.elim hq'
   | brk=>exact False.elim hq'
   | cont=>exact False.elim hq'
theorem zd8(M:Mk X.K C f)(F:FnOk X.prog X.w X.K X.mg X.base CX k f fd ps sp)(hr:Wt (k+1) X.A)(hg:Gl X x)(hm:X.mg x=some (.ref C))(hb:Sn X.K fd ps ds)(hd:Vals dvs ds)(hx:Wo CX X E)
  (ha:PA X (e :: es) t) (hdb:(x == ("__debug__":Str))=false:=by decide) (he:starEach (e :: es) X.env=(false,eval e X.env) :: starEach es X.env:=by rfl) (hpl:(backTo pos (starEach es X.env)).any (·.1)=false:=by rfl) :
  PE X (.Call (.Name x p) (e :: es) [] pos) (B7 C sp dvs E t):=by
 intro pins s σ H Q I h;refine wpAny_Call_Name_kw (Qq I hg hm ?_ hdb);refine PySem.W.callWith_K (h₀:=X.base) I.ok.mod.kin M.kp (thn (ha pos pins s σ H _ I h) fun us s1 ⟨vs,H1,I1,r,q⟩=>⟨I1.kIn,?_⟩) he hpl;exact Et M F hr hb hd hx I1 r q
theorem zb4(M:Mk X.K C f)(F:FnOk X.prog X.w X.K X.mg X.base CX k f fd ps sp)(hr:Wt (k+1) X.A)(hg:Gl X x)(hm:X.mg x=some (.ref C))(hb:Sn X.K fd ps ds)(hd:Vals dvs ds)(hx:Wo CX X E)
  (hdb:(x == ("__debug__":Str))=false:=by decide):PE X (.Call (.Name x p) [] [] pos) (B7 C sp dvs E tNil):=by
 intro pins s σ H Q I h;refine wpAny_Call_Name_kw (Qq I hg hm ?_ hdb);exact PySem.W.callWith_K0 I.kIn M.kp (Et (us:=[]) M F hr hb hd hx I .nil h)
end
section
variable{X:Cx}{CX:CXT}{k:Nat}{f C:Addr}{fd:FuncData}{ps ks:List Str}{sp:Sp}{E:XK}{x m:Str}{p pos apos kpos:Pos}{e o:Expr}{es:List Expr}{kws:List Keyword}{te ta:TE}{t tk:TA}{nm:Option Str}
structure zjg(K:Frag)(fd:FuncData)(ps ks:List Str)(g:List Value->List Value->List Value)(gV:List V->List V->List V):Prop where
 to:∀ (s:Shared) (us ws:List Value),K.In s.heap->(g us ws).length=ps.length->BindsTo s fd ⟨us,ks.zip ws⟩ (ps.zip (g us ws))
 rel:∀ {vs:List V} {us:List Value} {zs:List V} {ws:List Value},Vals vs us->Vals zs ws->Vals (gV vs zs) (g us ws)
variable{g:List Value->List Value->List Value}{gV:List V->List V->List V}
end
structure Zm(N P:List Str)(sc:Scope):Prop where
 kind:sc.kind=.function
 co:sc.isCoroutine=false
 gen:sc.isGenerator=false
 nd:N.Nodup
 pre:N.take P.length=P
 par:∀ x∈P,sc.names.lookup x=some .local\/sc.names.lookup x=some .cell
 nofree:∀ y∈sc.names,y.2≠.free
theorem Hu{kindOf:Str->Option NameKind}{x:Str}:∀ {binds:List (Str×Value)} {m:Str->Option Value},(∀ v,(x,v)∉binds)->bindL kindOf binds m x=m x
 | [],_,_=>rfl
 | (n,v) :: r,m,h=>by
   unfold bindL;rw[Hu fun w hw=>h w (zsw _ hw)];split
   ·have:x≠n:=by rintro rfl;exact h v zsz
    simp[this]
   ·rfl
theorem Hv{kindOf:Str->Option NameKind}{x:Str}:∀ {binds:List (Str×Value)} {m:Str->Option Value},(∀ v,(x,v)∉binds)->bindC kindOf binds m x=m x
 | [],_,_=>rfl
 | (n,v) :: r,m,h=>by
   unfold bindC;rw[Hv fun w hw=>h w (zsw _ hw)];split
   ·rfl
   ·have:x≠n:=by rintro rfl;exact h v zsz
    simp[this]
theorem Hw{kindOf:Str->Option NameKind}{x:Str}{v:Value}:∀ {P:List Str} {vs:List Value} {i:Nat} {m:Str->Option Value},P.Nodup->P[i]?=some x->vs[i]?=some v->kindOf x=some .local ->
  bindL kindOf (P.zip vs) m x=some v
 | [],_,_,_,_,h,_,_=>by simp at h
 | _ :: _,[],_,_,_,_,h,_=>by simp at h
 | p :: P,w :: vs,0,m,nd,h1,h2,hk=>by
   simp at h1 h2;subst h1;subst h2;show bindL kindOf ((p,w) :: P.zip vs) m p=_;unfold bindL;rw[Hu fun v hv=>(zs6.mp nd).1 (List.of_mem_zip hv).1,if_pos hk];simp
 | p :: P,w :: vs,i+1,m,nd,h1,h2,hk=>by
   show bindL kindOf ((p,w) :: P.zip vs) m x=_;unfold bindL;exact Hw (i:=i) (zs6.mp nd).2 (by simpa using h1) (by simpa using h2) hk
theorem Ga{kindOf:Str->Option NameKind}{x:Str}{v:Value}:∀ {P:List Str} {vs:List Value} {i:Nat} {m:Str->Option Value},P.Nodup->P[i]?=some x->vs[i]?=some v->kindOf x≠some .local ->
  bindC kindOf (P.zip vs) m x=some v
 | [],_,_,_,_,h,_,_=>by simp at h
 | _ :: _,[],_,_,_,_,h,_=>by simp at h
 | p :: P,w :: vs,0,m,nd,h1,h2,hk=>by
   simp at h1 h2;subst h1;subst h2;show bindC kindOf ((p,w) :: P.zip vs) m p=_;unfold bindC;rw[Hv fun v hv=>(zs6.mp nd).1 (List.of_mem_zip hv).1,if_neg hk];simp
 | p :: P,w :: vs,i+1,m,nd,h1,h2,hk=>by
   show bindC kindOf ((p,w) :: P.zip vs) m x=_;unfold bindC;exact Ga (i:=i) (zs6.mp nd).2 (by simpa using h1) (by simpa using h2) hk
def Mi(N:List Str)(vs:List V):St:=vs.map some++List.replicate (N.length-vs.length) none
def cxOf(CX:CXT)(P:Program)(w:World)(K:Frag)(mg:Str->Option Value)(base:Heap)(N:List Str)(qual:Str)(scope:Scope)(f:Addr)(cd:Value)(A:Around)(outer:List Env)(s:Shared)(H:Hp)(E:XK):Cx where
 prog:=P
 w:=w
 K:=K
 mg:=mg
 base:=base
 A:=A.deeper (envOfC qual scope s.heap.objs.size f cd)
 N:=N
 s₀:=s
 H₀:=H
 env:=envOfC qual scope s.heap.objs.size f cd
 outer:=outer
 stack:=envOfC qual scope s.heap.objs.size f cd :: outer
 ex:=[]
 calm:=true
 fn:=fun _=>true
 pn:=[]
 xe:=fun e s'=>wpAny (model P w) (A.deeper (envOfC qual scope s.heap.objs.size f cd)) (leaving (envOfC qual scope s.heap.objs.size f cd) e) (fun _ s''=>CX outer H s E e s'') (fun e' s''=>CX outer H s E e' s'') s'
theorem Eu{sc:Scope}{n:Nat}{x:Str}(h:sc.names.lookup x=some .cell):∃ c,(cellsFrom n sc.names []).lookup x=some c:=by
 have q:=PySem.W.cellsFrom_some sc.names n [] (.inl h);exact zty.mp q
theorem zag{CX:CXT}{P:Program}{w:World}{K:Frag}{mg:Str->Option Value}{base:Heap}{N ps:List Str}{qual:Str}{scope:Scope}{f:Addr}{cd:Value}{A:Around}{outer:List Env}{s s1:Shared}{H:Hp}{E:XK}{us:List Value}{vs:List V}
  (S:Zm N ps scope) (hd:A.handled=none) (e0:Mu P w K mg base A outer s H) (hl:vs.length=ps.length) (r:Vals vs us)
  (x:InCallC s s.heap.objs.size (bindL (envOfC qual scope s.heap.objs.size f cd).kindOf (ps.zip us) fun _=>none) (cellsFrom (s.heap.objs.size+1) scope.names []) (bindC (envOfC qual scope s.heap.objs.size f cd).kindOf (ps.zip us) fun _=>none) s1) :
  Inv (cxOf CX P w K mg base N qual scope f cd A outer s H E) [] (Mi N vs) H s1:=by
 have hpl:ps.length<=N.length:=by have:=congrArg List.length S.pre;rw[ztc] at this;omega
 obtain⟨h1,tk,rfl,hk⟩:=x.done;have noA:∀ b:Addr,b∉(cxOf CX P w K mg base N qual scope f cd A outer s H E).ex:=fun b z=>absurd (show b∈([]:List Addr) from z) (by simp);refine⟨⟨e0.mod,S.kind,rfl,rfl,zso _,fun y z c h1 h2=>?_,fun y hy=>?_,fun y c _ h=>?_,fun _=>hd,Around.frames_deeper e0.frames,.inr ⟨rfl,rfl⟩,fun b z=>absurd z (noA b),e0.bs,e0.bsz,fun b _ _=>noA b,fun b z=>absurd z (noA b),e0.funs,e0.frf⟩,
  rfl,e0.bare,Un.kept hk,⟨_,x.toInCall.ns,fun i y v h1 h2 h3=>?_⟩,fun y c h=>⟨_,x.cell y c h⟩,e0.hok.fresh (zso _),fun y c h=>?_,fun p hp=>absurd (show p∈([]:List (Addr×Obj)) from hp) (by simp),e0.hok.kept hk,?_⟩
 ·exact name_of_addr x.apart (PySem.mem_of_lookup h1) (PySem.mem_of_lookup h2)
 ·have hy:scope.names.lookup y=some .cell\/scope.names.lookup y=some .free:=hy;rcases hy with hy|hy
  ·exact Eu hy
  ·exact absurd rfl (S.nofree _ (PySem.mem_of_lookup hy))
 ·exact Nat.le_of_lt (x.above y c (PySem.mem_of_lookup h))
 ·have h2:=h2.resolve_right (Xu _);have hi:i<vs.length:=by
   unfold Mi at h2;by_cases hi:i<vs.length
   ·exact hi
   ·rw[ztd (by simpa using hi)] at h2;rw[List.getElem?_replicate] at h2;split at h2<;>cases h2
  have ha:vs[i]?=some v:=by
   unfold Mi at h2;rw[ztb (by simpa using hi),zsn] at h2;cases e:vs[i]? with
   | none=>rw[e] at h2;cases h2
   | some a=>rw[e] at h2;cases h2;rfl
  obtain⟨u,hu,rv⟩:=r.get ha;have hp:ps[i]?=some y:=by
   rw[<- S.pre,zt5 ⋯];exact h1
  have ndP:ps.Nodup:=by rw[<- S.pre];exact S.nd.sublist (zue _ _)
  refine⟨u,rv,?_⟩;rcases S.par y (zsu hp) with k|k
  ·exact .inl ⟨k,Hw ndP hp hu k⟩
  ·obtain⟨c,e⟩:=Eu (n:=s.heap.objs.size+1) k;refine .inr ⟨.inl k,c,e,?_⟩;have q:=x.cell y c e;rw[Ga ndP hp hu (by show scope.names.lookup y≠_;rw[k];decide)] at q;exact q
 ·exact e0.hok.fresh (Nat.le_of_lt (x.above y c (PySem.mem_of_lookup h)))
 ·unfold Mi;show _=N.length;rw[zsh,zsg,List.length_replicate];omega
theorem zh3{CX:CXT}{P:Program}{w:World}{K:Frag}{mg:Str->Option Value}{base:Heap}{k:Nat}{f:Addr}{name qual:Str}{params:Arguments}{body:List Stmt}{scope:Scope}{dV kV doc pm cdv ct oc:Value}{an od:Option Addr}
  {osl:Array (Option Value)} {N ps:List Str} {sp:Sp} (lk:K.lookup f=some ⟨oc,od,.func (PySem.W.fnOf name qual params body scope dV kV doc pm an cdv ct),osl⟩) (hcd:PySem.W.codeIn K cdv qual=true) (S:Zm N ps scope)
  (len:∀ vs H Q E,sp vs H Q E->vs.length=ps.length)
  (hbody:∀ (A:Around) (outer:List Env) (s:Shared) (H:Hp) (vs:List V) (Q:VK) (E:XK),Wt k (A.deeper (envOfC qual scope s.heap.objs.size f cdv))->sp vs H Q E ->
   ∃ t,PSs (cxOf CX P w K mg base N qual scope f cdv A outer s H E) body t/\t { nx:=fun _ H'=>Q .non H',rt:=Q } (Mi N vs) H) :
  FnOk P w K mg base CX (k+1) f (PySem.W.fnOf name qual params body scope dV kV doc pm an cdv ct) ps sp:=by
 refine⟨len,fun A outer s H args us vs Q E hr e0 hb r hsp=>?_⟩;have hl:=len _ _ _ _ hsp;have KX:K.In s.heap:=e0.mod.kin.keeps fun b o e=>(e0.bs b o e).1;have lim:s.heap.NoLimit:=e0.mod.nolimit.keeps fun b o e=>(e0.bs b o e).1;have hkind:∀ y∈ps.zip us,scope.names.lookup y.1=some .local\/(scope.names.lookup y.1=some .cell/\((cellsFrom (s.heap.objs.size+1) scope.names []).lookup y.1).isSome=true):=fun ⟨n,v⟩ hy=>by
  rcases S.par n (List.of_mem_zip hy).1 with q|q
  ·exact .inl q
  ·exact .inr ⟨q,PySem.W.cellsFrom_some _ _ _ (.inl q)⟩
 refine codeAny_call_function hr.depth (KX _ _ lk) rfl S.co S.gen rfl (PySem.W.codeRec_of KX hcd) (hb _ _ _ _ ?_);refine wpAny_newFunctionEnv_cells S.kind hkind fun env he s1 x=>?_;subst he;refine⟨lim.keeps x.toInCall.keep,codeAny_func ?_⟩;obtain⟨t,ht,hq⟩:=hbody A outer s H vs Q E (hr.deeper _) hsp;have I:Inv (cxOf CX P w K mg base N qual scope f cdv A outer s H E) [] (Mi N vs) H s1:=zag S hr.hd e0 hl r x;refine wpAny_mono (ht [] s1 (Mi N vs) H _ I hq) (fun fl s' hs=>?_) fun e s' hs=>hs;have fin:∀ {σ':St} {H':Hp} {v:V} {u:Value},Inv (cxOf CX P w K mg base N qual scope f cdv A outer s H E) [] σ' H' s'->RelV v u->Q v H'->CE outer P w H s Q u s' :=
  fun {σ' H' v u} J rv q=>⟨v,H',J.os,J.bare,J.base,J.hok,rv,q⟩
 cases fl with
 | ret u =>
   obtain⟨v,σ',H',J,rv,q⟩:=hs;exact fin J rv q
 | next =>
   obtain⟨σ',H',J,q⟩:=hs;exact fin (v:=V.non) (u:=Value.none) J rfl q
 | brk =>
   obtain⟨_,_,_,q⟩:=hs;exact False.elim q
 | cont =>
   obtain⟨_,_,_,q⟩:=hs;exact False.elim q
section
variable{X:Cx}{x:Str}{p pos:Pos}{e:Expr}{es:List Expr}{t:TA}{id T:String}{r:List V->Hp->VK->Prop}
def tCB(r:List V->Hp->VK->Prop)(t:TA):TE:=fun σ H Q=>t σ H fun vs H1=>r vs H1 Q
theorem Zq(hc:V2 X (.builtin id) r)(hg:Gl X x)(hm:X.mg x=none)(hv:bootBuiltins x=some (.builtin id))(ha:PA X (e :: es) t)(hn:x≠"__name__":=by decide)(hdb:(x == ("__debug__":Str))=false:=by decide)
  (he:starEach (e :: es) X.env=(false,eval e X.env) :: starEach es X.env:=by rfl) (hpl:(backTo pos (starEach es X.env)).any (·.1)=false:=by rfl):PE X (.Call (.Name x p) (e :: es) [] pos) (tCB r t):=by
 intro pins s σ H Q I h;refine wpAny_Call_Name_kw (Nb I hg hm hv ?_ hn hdb);exact PyProof.Rows.callWith_builtin1 (thn (ha pos pins s σ H _ I h) fun us s1 ⟨vs,H1,I1,r1,q1⟩=>hc pins s1 σ H1 vs us Q I1 r1 q1) he hpl
theorem Xc(hc:V2 X (.type T) r)(hg:Gl X x)(hm:X.mg x=none)(hv:bootBuiltins x=some (.type T))(ha:PA X (e :: es) t)(hn:x≠"__name__":=by decide)(hdb:(x == ("__debug__":Str))=false:=by decide)
  (he:starEach (e :: es) X.env=(false,eval e X.env) :: starEach es X.env:=by rfl) (hpl:(backTo pos (starEach es X.env)).any (·.1)=false:=by rfl):PE X (.Call (.Name x p) (e :: es) [] pos) (tCB r t):=by
 intro pins s σ H Q I h;refine wpAny_Call_Name_kw (Nb I hg hm hv ?_ hn hdb);exact PyProof.Rows.callWith_type1 (thn (ha pos pins s σ H _ I h) fun us s1 ⟨vs,H1,I1,r1,q1⟩=>hc pins s1 σ H1 vs us Q I1 r1 q1) he hpl
end
section
variable{κ:Type}[DecidableEq κ]
def valV(kvs:List (κ×V))(k:κ):Option V:=(kvs.find? fun kv=>decide (kv.1=k)).map (·.2)
def putK(kvs:List (κ×V))(k:κ)(v:V):List (κ×V) :=
 if (kvs.any fun kv=>decide (kv.1=k))=true then kvs.map (fun kv=>if kv.1=k then (kv.1,v) else kv) else kvs++[(k,v)]
def Xn(kvs:List (κ×V))(k:κ):List (κ×V):=kvs.filter fun kv=>decide (kv.1≠k)
theorem zh4:valV ([]:List (κ×V)) k=none:=rfl
theorem Y2{p:κ×V}{r:List (κ×V)}{k:κ}(e:p.1=k):valV (p :: r) k=some p.2:=by simp[valV,zub,e]
theorem Yy{p:κ×V}{r:List (κ×V)}{k:κ}(e:¬ p.1=k):valV (p :: r) k=valV r k:=by simp[valV,zub,e]
theorem So(k:κ):∀ kvs:List (κ×V),(kvs.any fun kv=>decide (kv.1=k))=(valV kvs k).isSome
 | []=>rfl
 | p :: r=>by
   rw[zt9];by_cases e:p.1=k
   ·simp only[Y2 e,zsm e,Bool.true_or,Option.isSome_some]
   ·rw[Yy e,zsr e,Bool.false_or];exact So k r
theorem Ew(k j:κ)(y:V):∀ kvs:List (κ×V),valV (kvs.map fun kv=>if kv.1=k then (kv.1,y) else kv) j=(valV kvs j).map fun x=>if j=k then y else x
 | []=>rfl
 | p :: r=>by
   have ih:=Ew k j y r;rw[zst];by_cases h:p.1=k
   ·rw[if_pos h];by_cases e:p.1=j
    ·rw[Y2 (p:=(p.1,y)) e,Y2 e,ztq,if_pos (e.symm.trans h)]
    ·rw[Yy (p:=(p.1,y)) e,Yy e,ih]
   ·rw[if_neg h];by_cases e:p.1=j
    ·rw[Y2 (p:=p) e,Y2 e,ztq,if_neg (fun z=>h (e.trans z))]
    ·rw[Yy (p:=p) e,Yy e,ih]
theorem Gb(k j:κ)(y:V):∀ kvs:List (κ×V),valV kvs k=none->valV (kvs++[(k,y)]) j=if j=k then some y else valV kvs j
 | [],_=>by
   by_cases e:k=j
   ·rw[if_pos e.symm];exact Y2 (p:=(k,y)) e
   ·rw[if_neg (fun z=>e z.symm)];exact Yy (p:=(k,y)) e
 | p :: r,hn=>by
   rw[List.cons_append];have hk:¬ p.1=k:=fun z=>by rw[Y2 z] at hn;cases hn
   rw[Yy hk] at hn;have ih:=Gb k j y r hn;by_cases e:p.1=j
   ·rw[Y2 e,Y2 e,if_neg (fun z=>hk (e.trans z))]
   ·rw[Yy e,Yy e,ih]
theorem Sr(kvs:List (κ×V))(k j:κ)(y:V):valV (putK kvs k y) j=if j=k then some y else valV kvs j:=by
 unfold putK;by_cases a:(kvs.any fun kv=>decide (kv.1=k))=true
 ·rw[if_pos a,Ew];rw[So] at a;by_cases e:j=k
  ·obtain⟨x,hx⟩:=zty.mp a;rw[if_pos e,e,hx,ztq,if_pos rfl]
  ·rw[if_neg e];cases valV kvs j with
   | none=>rfl
   | some x=>rw[ztq,if_neg e]
 ·rw[if_neg a];refine Gb k j y kvs ?_;rw[So] at a;cases q:valV kvs k with
  | none=>rfl
  | some x=>rw[q] at a;exact(a rfl).elim
theorem X6(kvs:List (κ×V))(k:κ)(v:V):(putK kvs k v).length<=kvs.length+1:=by
 unfold putK;split
 ·rw[zsg];omega
 ·rw[zsh,zs4,List.length_nil];omega
theorem zb5{kvs:List (κ×V)}{k:κ}(v:V)(h:valV kvs k=none):putK kvs k v=kvs++[(k,v)]:=by
 unfold putK;rw[So,h];exact if_neg ⋯
theorem RelO.isSome_eq(r:RelO o u):o.isSome=u.isSome:=by
 cases o with
 | none=>cases u with
   | none=>rfl
   | some _=>exact(show False from r).elim
 | some _=>cases u with
   | none=>exact(show False from r).elim
   | some _=>rfl
theorem RelO.getD(r:RelO o u)(rd:RelV d d'):RelV (o.getD d) (u.getD d'):=by
 cases o with
 | none=>cases u with
   | none=>exact rd
   | some _=>exact(show False from r).elim
 | some _=>cases u with
   | none=>exact(show False from r).elim
   | some _=>exact r
theorem KV.val{kvs:List (κ×V)}{vs:List (κ×Value)}(r:KV kvs vs)(k:κ):RelO (valV kvs k) (valueAt vs k):=by
 unfold KV at r
 induction r with
 | nil=>exact True.intro
 | @cons p q ps qs h t ih =>
   obtain⟨h1,h2⟩:=h;by_cases e:p.1=k
   ·have e':q.1=k:=h1.symm.trans e;have b:valueAt (q :: qs) k=some q.2:=by simp[valueAt,zub,e']
    rw[Y2 e,b];exact h2
   ·have e':¬ q.1=k:=fun z=>e (h1.trans z);have b:valueAt (q :: qs) k=valueAt qs k:=by simp[valueAt,zub,e']
    rw[Yy e,b];exact ih
theorem KV.any(r:KV kvs vs)(k:κ):(kvs.any fun kv=>decide (kv.1=k))=vs.any fun kv=>decide (kv.1=k):=by
 unfold KV at r
 induction r with
 | nil=>rfl
 | cons h t ih=>rw[zt9,zt9,ih,h.1]
theorem KV.repl(r:KV kvs vs)(k:κ)(ry:RelV y u) :
  KV (kvs.map fun kv=>if kv.1=k then (kv.1,y) else kv) (vs.map fun kv=>if kv.1=k then (kv.1,u) else kv):=by
 unfold KV at r ⊢
 induction r with
 | nil=>exact .nil
 | @cons p q ps qs h t ih =>
   rw[zst,zst];refine .cons ?_ ih;obtain⟨h1,h2⟩:=h;by_cases e:p.1=k
   ·rw[if_pos e,if_pos (h1.symm.trans e)];exact⟨h1,ry⟩
   ·rw[if_neg e,if_neg (fun z=>e (h1.trans z))];exact⟨h1,h2⟩
theorem KV.put(r:KV kvs vs)(k:κ)(ry:RelV y u):KV (putK kvs k y) (stored vs k u):=by
 unfold putK stored;rw[r.any k];by_cases e:(vs.any fun kv=>decide (kv.1=k))=true
 ·rw[if_pos e,if_pos e];exact r.repl k ry
 ·rw[if_neg e,if_neg e];exact Paired.snoc r ⟨rfl,ry⟩
theorem KV.drop(r:KV kvs vs)(k:κ):KV (Xn kvs k) (without vs k):=by
 unfold KV at r ⊢;unfold Xn without
 induction r with
 | nil=>exact .nil
 | @cons p q ps qs h t ih =>
   obtain⟨h1,h2⟩:=h;rw[ztz,ztz];by_cases e:p.1=k
   ·have a:¬ decide (p.1≠k)=true:=by simp[e]
    have b:¬ decide (q.1≠k)=true:=by simp[h1.symm.trans e]
    rw[if_neg a,if_neg b];exact ih
   ·have e':¬ q.1=k:=fun z=>e (h1.trans z);have a:decide (p.1≠k)=true:=by simp[e]
    have b:decide (q.1≠k)=true:=by simp[e']
    rw[if_pos a,if_pos b];exact .cons ⟨h1,h2⟩ ih
theorem KV.keys{kvs:List (κ×V)}{vs:List (κ×Value)}(r:KV kvs vs):kvs.map (·.1)=vs.map (·.1):=by
 unfold KV at r
 induction r with
 | nil=>rfl
 | cons h t ih=>rw[zst,zst,ih,h.1]
theorem KV.length(r:KV kvs vs):kvs.length=vs.length:=Paired.length r
theorem Ex(kvs:List (κ×V))(k:κ):(Xn kvs k).length<=kvs.length:=zuc _ _
end
theorem Mj(r:RelV (kV k) u):(Ym P w).is k u=true:=by
 cases k with
 | inl i=>obtain⟨t,e⟩:=(show ∃ t,u=Value.int i t from r);subst e;exact El P w i t
 | inr x=>obtain⟨t,e⟩:=(show ∃ t,u=Value.str x t from r);subst e;exact Em P w x t
theorem Gd:∀ {ks:List Key} {us:List Value},Vals (ks.map kV) us->ItemsAre (Ym P w) ks us
 | [],_,r=>by rw[List.map_nil] at r;cases r;exact .nil
 | k :: ks,_,r=>by
   rw[zst] at r;cases r with
   | cons h t=>exact .cons (Mj h) (Gd t)
abbrev KT(H:Hp):List (List Key×V)->List (List Key×Addr×Value)->Prop:=Paired fun p q=>p.1=q.1/\H q.2.1=some (.tup (p.1.map kV))/\RelV p.2 q.2.2
theorem KT.val{H:Hp}{kvs:List (List Key×V)}{xs:List (List Key×Addr×Value)}(r:KT H kvs xs)(k:List Key):RelO (valV kvs k) ((atKey xs k).map (·.2)):=by
 induction r with
 | nil=>exact True.intro
 | @cons p q ps qs h t ih =>
   obtain⟨h1,_,h2⟩:=h;by_cases e:p.1=k
   ·have e':q.1=k:=h1.symm.trans e;have b:atKey (q :: qs) k=some q.2:=by simp[atKey,zub,e']
    rw[Y2 e,b];exact h2
   ·have e':¬ q.1=k:=fun z=>e (h1.trans z);have b:atKey (q :: qs) k=atKey qs k:=by simp[atKey,zub,e']
    rw[Yy e,b];exact ih
theorem KT.repl(r:KT H kvs xs)(k:List Key)(ry:RelV y u) :
  KT H (kvs.map fun kv=>if kv.1=k then (kv.1,y) else kv) (xs.map (putAt k u)):=by
 induction r with
 | nil=>exact .nil
 | @cons p q ps qs h t ih =>
   rw[zst,zst];refine .cons ?_ ih;obtain⟨h1,h2,h3⟩:=h;unfold putAt;by_cases e:p.1=k
   ·rw[if_pos e,if_pos (h1.symm.trans e)];exact⟨h1,h2,ry⟩
   ·rw[if_neg e,if_neg (fun z=>e (h1.trans z))];exact⟨h1,h2,h3⟩
theorem KT.put(r:KT H kvs xs)(k:List Key)(hb:H b=some (.tup (k.map kV)))(ry:RelV y u) :
  KT H (putK kvs k y) (storedH xs k b u):=by
 have e:(kvs.any fun kv=>decide (kv.1=k))=(atKey xs k).isSome:=by
  rw[So,(r.val k).isSome_eq,Option.isSome_map]
 unfold putK storedH;rw[e];by_cases q:(atKey xs k).isSome=true
 ·rw[if_pos q,if_pos q];exact r.repl k ry
 ·rw[if_neg q,if_neg q];exact Paired.snoc r ⟨rfl,hb,ry⟩
theorem KT.keeps(r:KT H kvs xs)(ht:∀ b ys,H b=some (.tup ys)->H' b=some (.tup ys)):KT H' kvs xs :=
 Paired.mapP r fun _ _ z=>⟨z.1,ht _ _ z.2.1,z.2.2⟩
section
variable{P:Program}{w:World}{H:Hp}{h:Heap}{a:Addr}
theorem zfb(ok:HOk P w H h)(e:Rd H a u):Yp P w H h a u:=e.ok ok
theorem Pc(ok:HOk P w H h)(e:Rd H a (.dK kvs)):kvs.length<=sizeLine/\(a == sysModules)=false/\∃ vs,KV kvs vs/\h.DictOf (Ym P w) a vs :=
 show Yp P w H h a (.dK kvs) from zfb ok e
theorem zb6(ok:HOk P w H h)(e:H a=some (.dK kvs)):kvs.length<=sizeLine/\(a == sysModules)=false/\∃ vs,KV kvs vs/\h.DictOf (Ym P w) a vs:=Pc ok (.inl e)
theorem Pl(ok:HOk P w H h)(e:H a=some (.tup (ks.map kV))):(tupleKind (Ym P w)).is h ks a:=by
 obtain⟨_,its,r,o,h1,h2,n,h3⟩:=(show Yp P w H h a (.tup (ks.map kV)) from ok a _ e);exact⟨o,its.toArray,n,h1,h2,h3,by simpa using Gd r⟩
theorem L9(ok:HOk P w H h)(e:Rd H a (.dT kvs)):kvs.length<=sizeLine/\(a == sysModules)=false /\
  ∃ xs,KT H kvs xs/\h.DictOfH (tupleKind (Ym P w)) a xs:=by
 obtain⟨z,y,xs,r,o,es,ep,h1,h2,h3,h4,h5⟩:=(show Yp P w H h a (.dT kvs) from zfb ok e);refine⟨z,y,xs,r,o,es,ep,h1,h2,h3,h4,fun x hx=>?_,h5⟩;have all:∀ {l:List (List Key×V)} {m:List (List Key×Addr×Value)},KT H l m->∀ x∈m,(tupleKind (Ym P w)).is h x.1 x.2.1:=by
  intro l m q
  induction q with
  | nil=>intro x hx;exact nomatch hx
  | @cons p q ps qs hq t ih =>
    intro x hx;rcases zsk.mp hx with e|hx
    ·subst e;exact Pl ok (by rw[<- hq.1];exact hq.2.1)
    ·exact ih x hx
 exact all r x hx
theorem zfc(ok:HOk P w H h)(e:H a=some (.dT kvs)):kvs.length<=sizeLine/\(a == sysModules)=false /\
  ∃ xs,KT H kvs xs/\h.DictOfH (tupleKind (Ym P w)) a xs:=L9 ok (.inl e)
end
def DGet(H:Hp)(a:Addr)(y:V)(r:Option V):Prop :=
 (∃ kvs k,Rd H a (.dK kvs)/\y=kV k/\r=valV kvs k)\/∃ kvs k b,Rd H a (.dT kvs)/\y=.ref b/\H b=some (.tup (k.map kV))/\r=valV kvs k
def DPut(H:Hp)(a:Addr)(y v:V)(H':Hp):Prop :=
 (∃ kvs k,H a=some (.dK kvs)/\y=kV k/\kvs.length<sizeLine/\H'=upd H a (.dK (putK kvs k v))) \/
 ∃ kvs k b,H a=some (.dT kvs)/\y=.ref b/\H b=some (.tup (k.map kV))/\kvs.length<sizeLine/\H'=upd H a (.dT (putK kvs k v))
theorem DGet.k{H:Hp}{a:Addr}{kvs:List (Key×V)}{k:Key}(e:H a=some (.dK kvs)):DGet H a (kV k) (valV kvs k):=.inl ⟨kvs,k,.inl e,rfl,rfl⟩
theorem DGet.t{H:Hp}{a b:Addr}{kvs:List (List Key×V)}{k:List Key}(e:H a=some (.dT kvs))(eb:H b=some (.tup (k.map kV))):DGet H a (.ref b) (valV kvs k):=.inr ⟨kvs,k,b,.inl e,rfl,eb,rfl⟩
theorem DPut.k{H:Hp}{a:Addr}{kvs:List (Key×V)}{k:Key}{v:V}(e:H a=some (.dK kvs))(hl:kvs.length<sizeLine):DPut H a (kV k) v (upd H a (.dK (putK kvs k v))):=.inl ⟨kvs,k,e,rfl,hl,rfl⟩
theorem DPut.t{H:Hp}{a b:Addr}{kvs:List (List Key×V)}{k:List Key}{v:V}(e:H a=some (.dT kvs))(eb:H b=some (.tup (k.map kV)))(hl:kvs.length<sizeLine) :
  DPut H a (.ref b) v (upd H a (.dT (putK kvs k v))):=.inr ⟨kvs,k,b,e,rfl,eb,hl,rfl⟩
section
variable{X:Cx}{pins:List (Addr×Obj)}{σ:St}{H:Hp}{s:Shared}{a:Addr}{y v:V}{u r:Value}{o:Option V}{A:Around}{E:Value->Shared->Prop}
theorem Inv.big(I:Inv X pins σ H s):sysModules<s.heap.objs.size:=by
 have h:mainGlobals<s.heap.objs.size:=(I.mod.glob.keeps I.bk).lt;exact Nat.lt_trans ⋯ h
theorem zah(hu:A.units+1<cLine)(I:Inv X pins σ H s)(g:DGet H a y (some v))(ry:RelV y u)(h:∀ w' s',Inv X pins σ H s'->RelV v w'->Q w' s') :
  wpAny (model X.prog X.w) A (getItem (.ref a) u) Q E s:=by
 rcases g with ⟨kvs,k,e,ey,l⟩|⟨kvs,k,b,e,ey,eb,l⟩
 ·subst ey;obtain⟨z,hd,vs,rel,dd⟩:=Pc I.hok e;obtain⟨w',hw,rw'⟩:=RelO.some_of (v:=v) (o:=valueAt vs k) (by rw[l];exact rel.val k);exact wpAny_getItem_of (Mj ry) dd.mapOf hw (h w' _ (I.tok _) rw')
 ·subst ey;cases (show u=Value.ref b from ry);obtain⟨z,hd,xs,rel,dd⟩:=L9 I.hok e;obtain⟨w',hw,rw'⟩:=RelO.some_of (v:=v) (o:=(atKey xs k).map (·.2)) (by rw[l];exact rel.val k);obtain⟨p,hp,hp2⟩:=Option.map_eq_some_iff.mp hw;refine wpAny_getItem_heap (tupleKind_room_in1 hu) (Pl I.hok eb) dd hp ?_;rw[hp2];exact h w' _ (I.tok _) rw'
theorem zjh(hu:A.units+1<cLine)(I:Inv X pins σ H s)(g:DGet H a y o)(ry:RelV y u)(h:∀ s',Inv X pins σ H s'->Q (.bool o.isSome) s') :
  wpAny (model X.prog X.w) A (compareOp .In u (.ref a)) Q E s:=by
 rcases g with ⟨kvs,k,e,ey,l⟩|⟨kvs,k,b,e,ey,eb,l⟩
 ·subst ey;obtain⟨z,hd,vs,rel,dd⟩:=Pc I.hok e;refine wpAny_in_of (Mj ry) hd dd.mapOf ?_;rw[<- (rel.val k).isSome_eq,<- l];exact h _ (I.tok _)
 ·subst ey;cases (show u=Value.ref b from ry);obtain⟨z,hd,xs,rel,dd⟩:=L9 I.hok e;refine wpAny_in_heap (tupleKind_room_in1 hu) (Pl I.hok eb) hd dd ?_;have q:=(rel.val k).isSome_eq;rw[Option.isSome_map] at q;rw[<- q,<- l];exact h _ (I.tok _)
theorem zd9(hu:A.units+1<cLine)(I:Inv X pins σ H s)(g:DGet H a y o)(ry:RelV y u)(h:∀ s',Inv X pins σ H s'->Q (.bool (!o.isSome)) s') :
  wpAny (model X.prog X.w) A (compareOp .NotIn u (.ref a)) Q E s:=by
 rcases g with ⟨kvs,k,e,ey,l⟩|⟨kvs,k,b,e,ey,eb,l⟩
 ·subst ey;obtain⟨z,hd,vs,rel,dd⟩:=Pc I.hok e;refine wpAny_notIn_of (Mj ry) hd dd.mapOf ?_;rw[<- (rel.val k).isSome_eq,<- l];exact h _ (I.tok _)
 ·subst ey;cases (show u=Value.ref b from ry);obtain⟨z,hd,xs,rel,dd⟩:=L9 I.hok e;refine wpAny_notIn_heap (tupleKind_room_in1 hu) (Pl I.hok eb) hd dd ?_;have q:=(rel.val k).isSome_eq;rw[Option.isSome_map] at q;rw[<- q,<- l];exact h _ (I.tok _)
theorem Oj(I:Inv X pins σ H s)(mu:Mut (H a))(hs:Heap.SameBut a s.heap h')(he:∃ q,h'.get? a=some q)(new:Yp X.prog X.w (upd H a ob) h' a ob) :
  Inv X pins σ (upd H a ob) { s with heap:=h',toks:=t' } :=
 I.write (x:=a) (e:=a) mu (.inl rfl) (fun b q hb z=>(hs.2 b hb).trans z) he new
theorem C7(z:kvs.length<=sizeLine)(hd:(a == sysModules)=false)(rel:KV kvs vs)(dd:h'.DictOf (Ym P w) a vs) :
  Yp P w H' h' a (.dK kvs):=⟨z,hd,vs,rel,dd⟩
theorem zai(hu:A.units+1<cLine)(I:Inv X pins σ H s)(g:DPut H a y v H')(ry:RelV y u)(rv:RelV v r)(h:∀ s',Inv X pins σ H' s'->Q () s') :
  wpAny (model X.prog X.w) A (setItem (.ref a) u r) Q E s:=by
 rcases g with ⟨kvs,k,e,ey,l,eH⟩|⟨kvs,k,b,e,ey,eb,l,eH⟩
 ·subst ey eH;obtain⟨z,hd,vs,rel,dd⟩:=zb6 I.hok e;have hz:vs.length<=sizeLine:=by rw[<- rel.length];exact z
  have hl:(putK kvs k v).length<=sizeLine:=by have:=X6 kvs k v;omega
  refine wpAny_setItem_pairs (hsz:=hz) (Mj ry) dd fun h' dd' hs=>h _ ?_;have he:∃ q,h'.get? a=some q:=let ⟨q,_,_,hq,_⟩:=dd';⟨q,hq⟩;exact Oj I (by rw[e];exact True.intro) hs he (C7 hl hd (rel.put k rv) dd')
 ·subst ey eH;cases (show u=Value.ref b from ry);obtain⟨z,hd,xs,rel,dd⟩:=zfc I.hok e;have hz:xs.length<=sizeLine:=by rw[<- Paired.length rel];exact z
  have hl:(putK kvs k v).length<=sizeLine:=by have:=X6 kvs k v;omega
  refine wpAny_setItem_heap (hsz:=hz) (tupleKind_room_in1 hu) (Pl I.hok eb) dd fun h' dd' hs=>h _ ?_;obtain⟨q,es,ep,hq,h2,h3,h4,_,h5⟩:=dd';refine Oj I (by rw[e];exact True.intro) hs ⟨q,hq⟩ ⟨hl,hd,_,(rel.put k eb rv).keeps fun c ys ec=>?_,q,es,ep,hq,h2,h3,h4,h5⟩;rw[Zi (Ye ec e (fun z=>nomatch z))];exact ec
end
section
variable{X:Cx}{pins:List (Addr×Obj)}{σ:St}{H:Hp}{s:Shared}{a:Addr}{kvs:List (Key×V)}{k:Key}{u:Value}{A:Around}{E:Value->Shared->Prop}
theorem zh5(I:Inv X pins σ H s)(e:H a=some (.dK kvs))(ry:RelV (kV k) u)(l:valV kvs k=some v)(hm:more=[]\/∃ x,more=[x])
  (h:∀ w' s',Inv X pins σ (upd H a (.dK (Xn kvs k))) s'->RelV v w'->Q w' s'):wpAny (model X.prog X.w) A (call (.builtin "dict.pop") (.ref a :: u :: more)) Q E s:=by
 obtain⟨z,hd,vs,rel,dd⟩:=zb6 I.hok e;obtain⟨w',hw,rw'⟩:=RelO.some_of (v:=v) (o:=valueAt vs k) (by rw[<- l];exact rel.val k);have hp:(keyPart u).isSome=true:=by
  cases k with
  | inl i=>obtain⟨t,q⟩:=(show ∃ t,u=Value.int i t from ry);subst q;rfl
  | inr x=>obtain⟨t,q⟩:=(show ∃ t,u=Value.str x t from ry);subst q;rfl
 have ha:argsOk "dict.pop" ⟨.ref a :: u :: more,[]⟩:=by
  rcases hm with q|⟨x,q⟩
  ·subst q;exact PySem.F.args_dict_pop_2 _ _
  ·subst q;exact PySem.F.args_dict_pop_3 _ _ _
 refine call_meetsIn PySem.F.slot_dict_pop dd.typeIs PySem.F.entry_dict_pop ha (meets_dict_pop_there (Ym X.prog X.w) a (Mj ry) more hm hp)
  ⟨vs,w',dd,by rw[<- rel.length];exact z,hw,fun h' dd' hs=>h w' _ ?_ rw'⟩
 have he:∃ q,h'.get? a=some q:=let ⟨q,_,_,hq,_⟩:=dd';⟨q,hq⟩;exact Oj I (by rw[e];exact True.intro) hs he (C7 (zs3 (Ex kvs k) z) hd (rel.drop k) dd')
theorem zh6(I:Inv X pins σ H s)(e:Rd H a (.dK kvs))(h:∀ t s',Inv X pins σ H s'->Q (.int kvs.length t) s'):wpAny (model X.prog X.w) A (call (.builtin "len") [.ref a]) Q E s:=by
 obtain⟨z,hd,vs,rel,dd⟩:=Pc I.hok e;refine call_len_dict hd dd (by rw[<- rel.length];rw[sizeLine_eq] at z;omega) ?_;rw[<- rel.length];exact h _ _ (I.tok _)
end
def zf4(i:Expr):Prop:=∀ ov iv,subscripted i false ov iv=operate [ov,iv] (getItem ov iv)
theorem zea{prog:Program}{w:World}{A:Around}{E:Value->Shared->Prop}{s:Shared}{env:Env}{value slice:Expr}{pos:Pos}{T id:String}{Q:Value->Shared->Prop}
  (hl:typeLookup (.type T) "__getitem__"=pure (some (.builtin id))) (hs:zf4 slice)
  (h:wpAny (model prog w) A (eval value env) (fun o s₁=>wpAny (model prog w) A (eval slice env) (fun i s₂=>s₂.TypeIs o T/\wpAny (model prog w) A (getItem o i) Q E s₂) E s₁) E s) :
  wpAny (model prog w) A (eval (.Subscript value slice pos) env) Q E s:=by
 refine Subscript_ (wpAny_mono h (fun o s₁ h₁=>wpAny_mono h₁ (fun i s₂ h₂=>?_) fun _ _ x=>x) fun _ _ x=>x);obtain⟨hT,h₂⟩:=h₂;unfold subscriptTail;refine wpAny_bind ?_;rw[getitemInPython_of_ne hT.not_modules];refine wpAny_bind (wpAny_specialOf hT hl ?_);have fin:wpAny (model prog w) A (subscripted slice false o i) (fun r s₃=>wpAny (model prog w) A (letTemporaryGo value o r >>= fun _=>pure r) Q E s₃) E s₂:=by
  rw[hs o i];exact wpAny_operating (wpAny_mono h₂ (fun r s₃ h₃=>wpAny_bind (wpAny_letTemporaryGo (wpAny_pure h₃))) fun _ _ x=>x)
 first
  | exact wpAny_pure (wpAny_bind fin)
  | exact wpAny_bind (wpAny_pure (wpAny_bind fin))
  | exact wpAny_bind fin
theorem Ey(I:Inv X pins σ H s)(g:DGet H a y o):s.TypeIs (.ref a) "dict":=by
 rcases g with ⟨kvs,k,e,_,_⟩|⟨kvs,k,b,e,_,_,_⟩
 ·obtain⟨_,_,vs,_,dd⟩:=Pc I.hok e;exact dd.typeIs
 ·obtain⟨_,_,xs,_,dd⟩:=L9 I.hok e;exact dd.typeIs
inductive zf5(Q:VK)(x:V)(y:V)(H2:Hp):Prop where
 | mk(a)(v)(_:x=.ref a)(_:DGet H2 a y (some v))(_:Q v H2)
def zfd(td ty:TE):TE:=fun σ H Q=>td σ H fun x H1=>ty σ H1 fun y H2=>zf5 Q x y H2
inductive zh7(Q:VK)(y:V)(x:V)(H2:Hp):Prop where
 | mk(a)(o)(_:x=.ref a)(_:DGet H2 a y o)(_:Q (.bl o.isSome) H2)
def zji(ty td:TE):TE:=fun σ H Q=>ty σ H fun y H1=>td σ H1 fun x H2=>zh7 Q y x H2
inductive zb7(Q:VK)(y:V)(x:V)(H2:Hp):Prop where
 | mk(a)(o)(_:x=.ref a)(_:DGet H2 a y o)(_:Q (.bl (!o.isSome)) H2)
def zeb(ty td:TE):TE:=fun σ H Q=>ty σ H fun y H1=>td σ H1 fun x H2=>zb7 Q y x H2
inductive zf6(D:Og)(σ:L2.St)(v:V)(x:V)(y:V)(H3:Hp):Prop where
 | mk(a)(H4)(_:x=.ref a)(_:DPut H3 a y v H4)(_:D.nx σ H4)
def zh8(td ty tv:TE):TS:=fun D σ H=>tv σ H fun v H1=>td σ H1 fun x H2=>ty σ H2 fun y H3=>zf6 D σ v x y H3
section
variable{X:Cx}{o i e value:Expr}{pos pos' tpos:Pos}{td ty tv:TE}
theorem zec(hu:X.A.units+1<cLine)(ho:PE X o td)(hi:PE X i ty)(hs:zf4 i):PE X (.Subscript o i pos) (zfd td ty):=by
 intro pins s σ H Q I h;refine zea PySem.F.slot_dict_getitem.lookup hs (thn (ho pins s σ H _ I h) fun u s1 ⟨x,H1,I1,rx,q1⟩=>thn (hi pins s1 σ H1 _ I1 q1) fun iv s2 ⟨y,H2,I2,ry,a,v,ex,g,q2⟩=>?_);subst ex;obtain rfl:u=Value.ref a:=rx;exact⟨Ey I2 g,zah hu I2 g ry fun w' s3 I3 rw'=>⟨v,H2,I3,rw',q2⟩⟩
theorem Fh(hu:X.A.units+1<cLine)(hi:PE X i ty)(ho:PE X o td):PC X .In i o (zji ty td):=by
 intro pins s σ H Q I h;refine thn (hi pins s σ H _ I h) fun iv s1 ⟨y,H1,I1,ry,q1⟩=>thn (ho pins s1 σ H1 _ I1 q1) fun u s2 ⟨x,H2,I2,rx,a,ov,ex,g,q2⟩=>?_;subst ex;obtain rfl:u=Value.ref a:=rx;exact zjh hu I2 g ry fun s3 I3=>⟨.bl ov.isSome,H2,I3,rfl,q2⟩
theorem Ni(hu:X.A.units+1<cLine)(hi:PE X i ty)(ho:PE X o td):PC X .NotIn i o (zeb ty td):=by
 intro pins s σ H Q I h;refine thn (hi pins s σ H _ I h) fun iv s1 ⟨y,H1,I1,ry,q1⟩=>thn (ho pins s1 σ H1 _ I1 q1) fun u s2 ⟨x,H2,I2,rx,a,ov,ex,g,q2⟩=>?_;subst ex;obtain rfl:u=Value.ref a:=rx;exact zd9 hu I2 g ry fun s3 I3=>⟨.bl (!ov.isSome),H2,I3,rfl,q2⟩
theorem Wl(hu:X.A.units+1<cLine)(ho:PE X o td)(hi:PE X i ty)(hv:PE X value tv)(hs:swapsWith value (some (.Subscript o i pos')) pos.line X.env=pure false) :
  PS X (.Assign [.Subscript o i pos'] value pos) (zh8 td ty tv):=by
 intro pins s σ H D I h;refine wpAny_Assign_Subscript (thn (hv pins s σ H _ I h) fun r s1 ⟨v,H1,I1,rv,q1⟩=>thn (ho pins s1 σ H1 _ I1 q1) fun u s2 ⟨x,H2,I2,rx,q2⟩=>thn (hi pins s2 σ H2 _ I2 q2) fun iv s3 ⟨y,H3,I3,ry,a,H4,ex,g,q3⟩=>?_) hs;subst ex;obtain rfl:u=Value.ref a:=rx;exact zai hu I3 g ry rv fun s4 I4=>⟨σ,H4,I4,q3⟩
end
theorem Ez(h:Heap)(hb:sysModules<h.objs.size):Yp P w H (h.push { cls:=.type "dict",data:=.dict #[] }) h.objs.size (.dK []) :=
 ⟨zs1 _,zs2.mpr (Ne.symm (zs9 hb)),[],.nil,Heap.DictOf.new h⟩
theorem zb8(h:Heap)(hb:sysModules<h.objs.size):Yp P w H (h.push { cls:=.type "dict",data:=.dict #[] }) h.objs.size (.dT []) :=
 ⟨zs1 _,zs2.mpr (Ne.symm (zs9 hb)),[],.nil,_,#[],0,Heap.get?_push_size _ rfl,⟨rfl,rfl,rfl⟩,rfl,rfl,List.nodup_nil⟩
def zf7:TE:=fun _ H Q=>∀ p,H p=none->Q (.ref p) (upd H p (.dK []))
def zf8:TE:=fun _ H Q=>∀ p,H p=none->Q (.ref p) (upd H p (.dT []))
section
variable{X:Cx}{pos:Pos}
theorem E2:PE X (.Dict [] [] pos) zf7:=fun pins s σ H Q I h =>
 wpAny_Dict_empty ⟨.ref s.heap.objs.size,_,I.laid (a:=s.heap.objs.size) (o:=.dK []) (t':=s.toks) (fun _ _ q=>Heap.get?_push_of_some _ q) (zso _) (Ez s.heap I.big),rfl,h _ (I.hok.fresh (zso _))⟩
theorem E3:PE X (.Dict [] [] pos) zf8:=fun pins s σ H Q I h =>
 wpAny_Dict_empty ⟨.ref s.heap.objs.size,_,I.laid (a:=s.heap.objs.size) (o:=.dT []) (t':=s.toks) (fun _ _ q=>Heap.get?_push_of_some _ q) (zso _) (zb8 s.heap I.big),rfl,h _ (I.hok.fresh (zso _))⟩
end
def C8:List (TE×TE)->St->Hp->(List (V×V)->Hp->Prop)->Prop
 | [],_,H,Q=>Q [] H
 | (tk,tv) :: r,σ,H,Q=>tk σ H fun x H1=>tv σ H1 fun y H2=>C8 r σ H2 fun ps H3=>Q ((x,y) :: ps) H3
abbrev VV:List (V×V)->List (Value×Value)->Prop:=Paired fun p q=>RelV p.1 q.1/\RelV p.2 q.2
def PPs(X:Cx)(pos:Pos)(keys:List (Option Expr))(values:List Expr)(trs:List (TE×TE)):Prop :=
 ∀ (pins:List (Addr×Obj)) (s:Shared) (σ:St) (H:Hp) (Q:List (V×V)->Hp->Prop),Inv X pins σ H s->C8 trs σ H Q ->
   wpAny (model X.prog X.w) X.A (evalPairs (pairTrees keys values X.env pos)) (fun vs s'=>∃ ps H',Inv X pins σ H' s'/\VV ps vs/\Q ps H') X.xe s
theorem B8:PPs X pos [] [] []:=fun pins s σ H Q I h=>pairTrees_nil_walk ⟨[],H,I,.nil,h⟩
theorem R4(hk:PE X k tk)(hv:PE X v tv)(hr:PPs X pos ks vs trs) :
  PPs X pos (some k :: ks) (v :: vs) ((tk,tv) :: trs):=fun pins s σ H Q I h =>
 pairTrees_cons_walk (thn (hk pins s σ H _ I h) fun u s1 ⟨x,H1,I1,rx,q1⟩=>thn (hv pins s1 σ H1 _ I1 q1) fun w2 s2 ⟨y,H2,I2,ry,q2⟩ =>
  thn (hr pins s2 σ H2 _ I2 q2) fun ws s3 ⟨ps,H3,I3,rel,q3⟩=>⟨(x,y) :: ps,H3,I3,.cons ⟨rx,ry⟩ rel,q3⟩)
def Rb(kvs more:List (Key×V)):List (Key×V):=more.foldl (fun acc kv=>putK acc kv.1 kv.2) kvs
theorem KV.merge:∀ {more:List (Key×V)} {rs:List (Key×Value)} {kvs:List (Key×V)} {vs:List (Key×Value)},KV more rs->KV kvs vs->KV (Rb kvs more) (merged vs rs):=by
 intro more rs kvs vs r;unfold KV at r
 induction r generalizing kvs vs with
 | nil=>intro q;exact q
 | @cons p q ps qs h t ih =>
   intro r0;have e:KV (putK kvs p.1 p.2) (stored vs q.1 q.2):=by
    have:=r0.put p.1 h.2;rw[<- h.1];exact this
   exact ih e
theorem Pd:∀ (more kvs:List (Key×V)),(Rb kvs more).length<=kvs.length+more.length
 | [],kvs=>by show kvs.length<=kvs.length+0;omega
 | p :: r,kvs=>by
   have h1:=Pd r (putK kvs p.1 p.2);have h2:=X6 kvs p.1 p.2;show (Rb (putK kvs p.1 p.2) r).length<=_;rw[zs4];omega
theorem Ka:∀ {kvs:List (Key×V)} {ws:List (Value×Value)},VV (kvs.map fun kv=>(kV kv.1,kv.2)) ws->∃ rs,Carries (Ym P w) ws rs/\KV kvs rs
 | [],_,r=>by rw[List.map_nil] at r;cases r;exact⟨[],True.intro,.nil⟩
 | p :: kvs,_,r=>by
   rw[zst] at r;cases r with
   | @cons a b as bs h t =>
     obtain⟨rs,c,q⟩:=Ka (P:=P) (w:=w) t;obtain⟨b1,b2⟩:=b;exact⟨(p.1,b2) :: rs,⟨Mj h.1,rfl,c⟩,.cons ⟨rfl,h.2⟩ q⟩
def zh9(trs:List (TE×TE)):TE:=fun σ H Q=>∀ p,H p=none->C8 trs σ (upd H p (.dK [])) fun ps H2=>H2 p=some (.dK [])/\∃ kvs:List (Key×V),ps=kvs.map (fun kv=>(kV kv.1,kv.2))/\kvs.length<=15/\Q (.ref p) (upd H2 p (.dK (Rb [] kvs)))
theorem B9(h:PPs X pos keys values trs)(hall:keys.all (·.isSome)=true)(hl:keys.length=values.length)(h0:keys≠[])
  (h15:keys.length<=15):PE X (.Dict keys values pos) (zh9 trs):=by
 intro pins s σ H Q I q;have hn:=I.hok.fresh (zso s.heap.objs.size);have I1:=I.laid (a:=s.heap.objs.size) (o:=.dK []) (h':=s.heap.push { cls:=.type "dict",data:=.dict #[] }) (t':=s.toks) (fun _ _ q=>Heap.get?_push_of_some _ q) (zso _) (Ez s.heap I.big);refine wpAny_Dict_walk (knd:=Ym X.prog X.w) hall hl h0 h15 (thn (h pins _ σ _ _ I1 (q _ hn)) fun ws s2 ⟨ps,H2,I2,rel,e,kvs,ep,lk,q2⟩=>?_);subst ep;obtain⟨rs,c,rk⟩:=Ka (P:=X.prog) (w:=X.w) rel;obtain⟨z,hd,vs0,r0,dd⟩:=zb6 I2.hok e;cases r0;refine⟨rs,c,dd,fun h' dd' hs=>⟨.ref s.heap.objs.size,_,?_,rfl,q2⟩⟩;have hz:(Rb [] kvs).length<=sizeLine:=by
  have h1:=Pd kvs [];rw[List.length_nil] at h1;rw[sizeLine_eq];omega
 have he:∃ q,h'.get? s.heap.objs.size=some q:=let ⟨q,_,_,hq,_⟩:=dd';⟨q,hq⟩;exact Oj I2 (by rw[e];exact True.intro) hs he (C7 hz hd (rk.merge .nil) dd')
structure M1(X:Cx)(o:Expr)(m:Str)(apos:Pos)(e:Expr)(cpos:Pos):Prop where
 base:attributeBase o m X.env (eval o X.env)=eval o X.env
 few:((backTo cpos (starEach [e] X.env)).all (fun x=>!x.1)&&(backToKw cpos (keywordEach [] X.env)).all (fun x=>x.1.isSome)
  && decide (([e]:List Expr).length+([]:List Keyword).length+(if ([]:List Keyword).isEmpty then 0 else 1)<30))=true
 line:(apos.endLine == cpos.line)=true
 trees:backTo cpos (starEach [e] X.env)=[(false,eval e X.env)]
structure M2(X:Cx)(o:Expr)(m:Str)(apos:Pos)(e f:Expr)(cpos:Pos):Prop where
 base:attributeBase o m X.env (eval o X.env)=eval o X.env
 few:((backTo cpos (starEach [e,f] X.env)).all (fun x=>!x.1)&&(backToKw cpos (keywordEach [] X.env)).all (fun x=>x.1.isSome)
  && decide (([e,f]:List Expr).length+([]:List Keyword).length+(if ([]:List Keyword).isEmpty then 0 else 1)<30))=true
 line:(apos.endLine == cpos.line)=true
 trees:backTo cpos (starEach [e,f] X.env)=[(false,eval e X.env),(false,eval f X.env)]
def IsD(H:Hp)(a:Addr):Prop:=(∃ kvs,Rd H a (.dK kvs))\/∃ kvs,Rd H a (.dT kvs)
theorem C9(I:Inv X pins σ H s)(d:IsD H a) :
  s.TypeIs (.ref a) "dict"/\(∀ b,Value.ref a=.ref b->∃ ob,s.heap.get? b=some ob/\ob.dict=none)/\(a == sysModules)=false:=by
 rcases d with ⟨kvs,e⟩|⟨kvs,e⟩
 ·obtain⟨_,hd,vs,_,dd⟩:=Pc I.hok e;refine⟨dd.typeIs,fun b q=>?_,hd⟩;cases q;obtain⟨ob,_,_,h1,h2,_⟩:=dd;exact⟨ob,h1,h2.2.1⟩
 ·obtain⟨_,hd,xs,_,dd⟩:=L9 I.hok e;refine⟨dd.typeIs,fun b q=>?_,hd⟩;cases q;obtain⟨ob,_,_,h1,h2,_⟩:=dd;exact⟨ob,h1,h2.2.1⟩
section
variable{X:Cx}{pins:List (Addr×Obj)}{σ:St}{H:Hp}{s:Shared}{a:Addr}{y d:V}{u r:Value}{o:Option V}{A:Around}{E:Value->Shared->Prop}
theorem zf9(hu:A.units+1<cLine)(I:Inv X pins σ H s)(g:DGet H a y o)(ry:RelV y u)(rd:RelV d r)(h:∀ w' s',Inv X pins σ H s'->RelV (o.getD d) w'->Q w' s') :
  wpAny (model X.prog X.w) A (call (.builtin "dict.get") [.ref a,u,r]) Q E s:=by
 rcases g with ⟨kvs,k,e,ey,l⟩|⟨kvs,k,b,e,ey,eb,l⟩
 ·subst ey;obtain⟨z,hd,vs,rel,dd⟩:=Pc I.hok e;refine call_meetsIn PySem.F.slot_dict_get dd.typeIs PySem.F.entry_dict_get (PySem.F.args_dict_get_3 _ _ _) (meets_dict_get_default (Ym X.prog X.w) a (Mj ry) hd r) ⟨_,dd.mapOf,h _ _ (I.tok _) ?_⟩;rw[l];exact(rel.val k).getD rd
 ·subst ey;cases (show u=Value.ref b from ry);obtain⟨z,hd,xs,rel,dd⟩:=L9 I.hok e;refine call_meetsIn PySem.F.slot_dict_get dd.typeIs PySem.F.entry_dict_get (PySem.F.args_dict_get_3 _ _ _) (meetsH_dict_get_default (tupleKind (Ym X.prog X.w)) a b hd r) ⟨tupleKind_room_in1 hu,k,xs,Pl I.hok eb,dd,h _ _ (I.tok _) ?_⟩;rw[l];exact(rel.val k).getD rd
end
inductive zed(ty:TE)(tx:TE)(σ:L2.St)(Q:VK)(x:V)(H1:Hp):Prop where
 | mk(a)(_:x=.ref a)(_:IsD H1 a)(_:ty σ H1 fun y H2=>tx σ H2 fun z H3=>∃ o,DGet H3 a y o/\Q (o.getD z) H3)
def zga(td ty tx:TE):TE:=fun σ H Q=>td σ H fun x H1=>zed ty tx σ Q x H1
inductive zee(ty:TE)(σ:L2.St)(Q:VK)(x:V)(H1:Hp):Prop where
 | mk(a)(_:x=.ref a)(_:IsD H1 a)(_:ty σ H1 fun y H2=>∃ kvs k v,H2 a=some (.dK kvs)/\y=kV k/\valV kvs k=some v/\Q v (upd H2 a (.dK (Xn kvs k))))
def zgb(td ty:TE):TE:=fun σ H Q=>td σ H fun x H1=>zee ty σ Q x H1
section
variable{X:Cx}{o e f:Expr}{apos cpos:Pos}{td ty tx:TE}
theorem zb9(hu:X.A.units+1<cLine)(ho:PE X o td)(he:PE X e ty)(hf:PE X f tx)(m:M2 X o "get" apos e f cpos):PE X (.Call (.Attribute o "get" apos) [e,f] [] cpos) (zga td ty tx):=by
 intro pins s σ H Q I h;refine wpAny_Call_method m.base m.few m.line PySem.F.plainAttrs_dict PySem.F.slot_dict_get PySem.F.type_dict_get (thn (ho pins s σ H _ I h) fun u s1 ⟨x,H1,I1,rx,a,ex,d,q1⟩=>?_);subst ex;obtain rfl:u=Value.ref a:=rx;obtain⟨t1,t2,_⟩:=C9 I1 d;refine⟨t1,t2,?_⟩;rw[m.trees];refine Calls.callWith_builtin rfl (Calls.evalArgs_plain (Calls.spliced_cons (thn (he pins s1 σ H1 _ I1 q1) fun iv s2 ⟨y,H2,I2,ry,q2⟩ =>
  Calls.spliced_cons (thn (hf pins s2 σ H2 _ I2 q2) fun fv s3 ⟨z,H3,I3,rz,ov,g,q3⟩=>Calls.spliced_nil ?_))))
 exact zf9 hu I3 g ry rz fun w' s4 I4 rw'=>⟨_,H3,I4,rw',q3⟩
theorem zca(ho:PE X o td)(he:PE X e ty)(m:M1 X o "pop" apos e cpos):PE X (.Call (.Attribute o "pop" apos) [e] [] cpos) (zgb td ty):=by
 intro pins s σ H Q I h;refine wpAny_Call_method m.base m.few m.line PySem.F.plainAttrs_dict PySem.F.slot_dict_pop PySem.F.type_dict_pop (thn (ho pins s σ H _ I h) fun u s1 ⟨x,H1,I1,rx,a,ex,d,q1⟩=>?_);subst ex;obtain rfl:u=Value.ref a:=rx;obtain⟨t1,t2,_⟩:=C9 I1 d;refine⟨t1,t2,?_⟩;rw[m.trees];refine Calls.callWith_builtin rfl (Calls.evalArgs_plain (Calls.spliced_cons (thn (he pins s1 σ H1 _ I1 q1) fun iv s2 ⟨y,H2,I2,ry,kvs,k,v,ea,ey,l,q2⟩=>Calls.spliced_nil ?_)));subst ey;exact zh5 I2 ea ry l (.inl rfl) fun w' s3 I3 rw'=>⟨v,_,I3,rw',q2⟩
end
end L2
namespace HT
open PySem PyProof.Rows
section
open PySem.SeqAt
open PySem.AutoSeq1 (wpAny_loadPart')
open PySem.MeetsSeq PySem.MeetsSeq2 PySem.MeetsSeq3
end
section
variable{prog:Program}{w:World}{A:Around}{E:Value->Shared->Prop}{s:Shared}
theorem cat_tup(ht:IsTup s.heap t vs.toArray)(hb:IsTup s.heap b ws.toArray)(hv:vs≠[])
  (h1:ws=[]->Q (.ref t) s) (h2:ws≠[]->Q (.ref s.heap.objs.size) { s with heap:=s.heap.push { cls:=.type "tuple",data:=.seq (vs++ws).toArray } })
  (hsz:vs.length+ws.length<=sizeLine):wpAny (model prog w) A (binaryOp .Add (.ref t) (.ref b)) Q E s:=by
 obtain⟨⟨cls,dd,data,sl⟩,ho,hc,n,hd⟩:=id ht;obtain⟨⟨cls2,dd2,data2,sl2⟩,ho2,hc2,n2,hd2⟩:=id hb;simp only at hc hd hc2 hd2;subst hc hd hc2 hd2;have e:vs.toArray++ws.toArray=(vs++ws).toArray:=by simp
 by_cases hw:ws=[]
 ·exact concat_meets ⟨_,ho,rfl⟩ ⟨_,ho2,rfl⟩ noFill_tuple_add seq_tuple_add PySem.F.slot_tuple_add PySem.F.entry_tuple_add (PySem.F.args_tuple_add_2 _ _)
   (tuple_addW1 t b vs.toArray ws.toArray n n2 dd dd2 sl sl2 (by simpa using hv) (by simp[hw])) ⟨ho,ho2,h1 hw⟩
 ·refine concat_meets ⟨_,ho,rfl⟩ ⟨_,ho2,rfl⟩ noFill_tuple_add seq_tuple_add PySem.F.slot_tuple_add PySem.F.entry_tuple_add (PySem.F.args_tuple_add_2 _ _)
   (tuple_addW2 t b vs.toArray ws.toArray n n2 dd dd2 sl sl2 (by simpa using hv) (by simpa using hw) (by rw[zss,zss];exact hsz)) ⟨ho,ho2,?_⟩
  rw[e];exact h2 hw
def sIx(n d:Nat):Option Int->Nat
 | none=>d
 | some v=>if v<0 then (v+(n:Int)).toNat else min v.toNat n
theorem sIx_none(n d:Nat):sIx n d none=d:=rfl
theorem sIx_nat(n d k:Nat):sIx n d (some (k:Int))=min k n:=by
 show (if (k:Int)<0 then ((k:Int)+(n:Int)).toNat else min (k:Int).toNat n)=min k n;rw[if_neg ⋯,zs7]
end
end HT
namespace L2
open PySem PySem.Spec PyProof.Rows
abbrev TO:=St->Hp->(Option Int->Hp->Prop)->Prop
def PO(X:Cx)(e:Option Expr)(t:TO):Prop :=
 ∀ (pins:List (Addr×Obj)) (s:Shared) (σ:St) (H:Hp) (Q:Option Int->Hp->Prop),Inv X pins σ H s->t σ H Q ->
   wpAny (model X.prog X.w) X.A (evalPart e X.env) (fun u s'=>∃ o H',Inv X pins σ H' s'/\IsPart u o/\Q o H') X.xe s
def zef:TO:=fun _ H Q=>Q none H
inductive zgc(Q:Option Int->Hp->Prop)(x:V)(H1:Hp):Prop where
 | mk(i)(_:x=.int i)(_:Q (some i) H1)
def zia(t:TE):TO:=fun σ H Q=>t σ H fun x H1=>zgc Q x H1
section
variable{X:Cx}{e:Expr}{te:TE}{lo hi:Option Expr}{tl th:TO}{pos p2:Pos}
theorem Aa:PO X none zef:=by
 intro pins s σ H Q I h;rw[evalPart_none];exact wpAny_pure ⟨none,H,I,.none,h⟩
theorem Ln(h:PE X e te):PO X (some e) (zia te):=by
 intro pins s σ H Q I hw;rw[evalPart_some];refine thn (h pins s σ H _ I hw) fun u s1 ⟨x,H1,I1,r1,q1⟩=>?_;obtain⟨i,rfl,q⟩:=q1;obtain⟨t,rfl⟩:=r1;exact⟨some i,H1,I1,.int i t,q⟩
def SlR(X:Cx)(r:V->Option Int->Option Int->Hp->VK->Prop):Prop :=
 ∀ (pins:List (Addr×Obj)) (s:Shared) (σ:St) (H:Hp) (x:V) (v vl vu:Value) (lo hi:Option Int) (sl:Addr) (Q:VK),Inv X pins σ H s->RelV x v->s.heap.IsSliceOf sl vl vu .none->IsPart vl lo->IsPart vu hi->r x lo hi H Q ->
   ∃ T id,typeLookup (.type T) "__getitem__"=pure (some (.builtin id))/\s.TypeIs v T/\wpAny (model X.prog X.w) X.A (getItem v (.ref sl)) (EP X pins σ Q) X.xe s
def tSl(r:V->Option Int->Option Int->Hp->VK->Prop)(te:TE)(tl th:TO):TE:=fun σ H Q=>te σ H fun x H1=>tl σ H1 fun l H2=>th σ H2 fun u H3=>r x l u H3 Q
theorem Kb(hr:SlR X r)(he:PE X e te)(hl:PO X lo tl)(hu:PO X hi th):PE X (.Subscript e (.Slice lo hi none p2) pos) (tSl r te tl th):=by
 intro pins s σ H Q I h;refine Subscript_ (thn (he pins s σ H _ I h) fun v s1 ⟨x,H1,I1,r1,q1⟩=>?_);refine wpAny_Slice (thn (hl pins s1 σ H1 _ I1 q1) fun vl s2 ⟨l,H2,I2,pl,q2⟩=>thn (hu pins s2 σ H2 _ I2 q2) fun vu s3 ⟨u,H3,I3,pu,q3⟩=>?_);rw[evalPart_none];refine wpAny_pure ?_;have I4:Inv X pins σ H3 { s3 with heap:=s3.heap.push { cls:=.type "slice",data:=.fields #[vl,vu,.none] } }:=I3.kept (t':=s3.toks) fun b ob q=>Heap.get?_push_of_some _ q;obtain⟨T,id,hT,ht,hg⟩:=hr pins { s3 with heap:=s3.heap.push { cls:=.type "slice",data:=.fields #[vl,vu,.none] } } σ H3 x v vl vu l u s3.heap.objs.size Q I4 r1 (Heap.IsSliceOf.new ..) pl pu q3;show wpAny (model X.prog X.w) X.A (subscriptTail e (.Slice lo hi none p2) v (.ref s3.heap.objs.size)) (EP X pins σ Q) X.xe { s3 with heap:=s3.heap.push { cls:=.type "slice",data:=.fields #[vl,vu,.none] } };exact tail_any (ops:=[.ref s3.heap.objs.size,v]) ht hT hg (by with_unfolding_all rfl)
def Js(xs:List V)(lo hi:Option Int):List V:=(xs.drop (HT.sIx xs.length 0 lo)).take (HT.sIx xs.length xs.length hi-HT.sIx xs.length 0 lo)
theorem E4(xs:List V)(lo hi:Option Int):(Js xs lo hi).length<=xs.length:=by
 unfold Js;rw[ztc,ztu];omega
inductive zfe(K:Frag)(x:V)(y:V)(H:Hp)(Q:VK):Prop where
 | mk(a)(b)(xs)(ys)(_:x=.ref a)(_:y=.ref b)(_:SqT K H a xs)(_:SqT K H b ys)(_:xs≠[])(_:xs.length+ys.length<=sizeLine)(_:(ys=[]->Q (.ref a) H))(_:(ys≠[]->∀ p,H p=none->Q (.ref p) (upd H p (.tup (xs++ys)))))
theorem Vals.nil_iff(r:Vals xs us):us=[]↔xs=[]:=by
 cases r with
 | nil=>simp
 | cons _ _=>simp
theorem zeg:OpR X (binaryOp .Add) (zfe X.K):=by
 intro pins s σ H x y v u Q I rx ry h;obtain⟨a,b,xs,ys,rfl,rfl,ha,hb,hx,hz,q1,q2⟩:=h;cases rx;cases ry;obtain⟨its,r1,p1,_⟩:=I.tuple ha;obtain⟨its2,r2,p2,_⟩:=I.tuple hb;refine HT.cat_tup p1 p2 (fun z=>hx (r1.nil_iff.mp z)) (fun z=>⟨.ref a,H,I,rfl,q1 (r2.nil_iff.mp z)⟩) (fun z=>?_) (by rw[<- r1.length,<- r2.length];exact hz);refine⟨.ref s.heap.objs.size,_,I.laid (t':=s.toks) (o:=.tup (xs++ys)) (fun b ob q=>Heap.get?_push_of_some _ q) (zso _) ?_,rfl,q2 (fun w=>z (r2.nil_iff.mpr w)) _ (I.hok.fresh (zso _))⟩;exact⟨by rw[zsh];exact hz,_,r1.append r2,IsTup.new _ _⟩
end
def ixN(n:Nat)(i:Int):Option Nat:=if 0<=i then (if i<n then some i.toNat else none) else if -(n:Int)<=i then some (i+n).toNat else none
def atI{α:Type}(xs:List α)(i:Int):Option α:=(ixN xs.length i).bind fun j=>xs[j]?
theorem Ab(h:ixN n i=some j):seqIndex? i n=some j/\j<n/\-(n:Int)<=i/\i<n:=by
 unfold ixN at h;by_cases h0:0<=i
 ·rw[if_pos h0] at h;by_cases h1:i<n
  ·rw[if_pos h1] at h;have e:i.toNat=j:=Option.some.inj h;exact⟨by rw[seqIndex_of h0 h1,e],by omega,by omega,h1⟩
  ·rw[if_neg h1] at h;cases h
 ·rw[if_neg h0] at h;by_cases h1:-(n:Int)<=i
  ·rw[if_pos h1] at h;have e:(i+n).toNat=j:=Option.some.inj h;exact⟨by rw[seqIndex_neg ⋯ h1,e],by omega,h1,by omega⟩
  ·rw[if_neg h1] at h;cases h
theorem Ac(h:atI xs i=some v):∃ j,seqIndex? i xs.length=some j/\xs[j]?=some v/\j<xs.length/\-(xs.length:Int)<=i/\i<xs.length:=by
 unfold atI at h;cases e:ixN xs.length i with
 | none=>rw[e] at h;cases h
 | some j =>
   rw[e] at h;obtain⟨h1,h2,h3,h4⟩:=Ab e;exact⟨j,h1,h,h2,h3,h4⟩
theorem Y3{α:Type}{xs:List α}{j:Nat}{v:α}(h:xs[j]?=some v):atI xs (j:Int)=some v:=by
 have hj:j<xs.length:=(zsj.mp h).1;have e:ixN xs.length (j:Int)=some j:=by
  unfold ixN;rw[if_pos ⋯,if_pos ⋯];simp
 unfold atI;rw[e];exact h
theorem atI_last(xs:List α)(v:α):atI (xs++[v]) (-1)=some v:=by
 have hl:(xs++[v]).length=xs.length+1:=by simp
 have e:ixN (xs++[v]).length (-1)=some xs.length:=by
  unfold ixN;rw[hl,if_neg ⋯,if_pos ⋯]
  congr 1
  omega
 unfold atI;rw[e];show (xs++[v])[xs.length]?=some v;simp
def Ae(b:Expr):Prop:=∀ o i,subscripted b false o i=operate [o,i] (getItem o i)
def IxR(X:Cx)(r:R2):Prop :=
 ∀ (value slice:Expr) (pins:List (Addr×Obj)) (s:Shared) (σ:St) (H:Hp) (x y:V) (v u:Value) (Q:VK),Inv X pins σ H s->RelV x v->RelV y u->r x y H Q ->
   subscripted slice false v u=operate [v,u] (getItem v u)->wpAny (model X.prog X.w) X.A (subscriptTail value slice v u) (EP X pins σ Q) X.xe s
def MtR(X:Cx)(id:String)(r:V->List V->Hp->VK->Prop):Prop :=
 ∀ (pins:List (Addr×Obj)) (s:Shared) (σ:St) (H:Hp) (x:V) (xs:List V) (v:Value) (us:List Value) (Q:VK),Inv X pins σ H s->RelV x v->Vals xs us->r x xs H Q ->
   wpAny (model X.prog X.w) X.A (call (.builtin id) (v :: us)) (EP X pins σ Q) X.xe s
section
variable{X:Cx}{a b:Expr}{ta tb:TE}{pos:Pos}
theorem zib(hr:IxR X r)(ha:PE X a ta)(hb:PE X b tb)(hs:Ae b):PE X (.Subscript a b pos) (tOp r ta tb):=by
 intro pins s σ H Q I h;exact Subscript_ (binT ha hb I h fun v u s2 x y H2 I2 rx ry q=>hr a b pins s2 σ H2 x y v u Q I2 rx ry q (hs _ _))
inductive zgd(K:Frag)(x:V)(y:V)(H:Hp)(Q:VK):Prop where
 | mk(p)(xs)(i)(v)(_:x=.ref p)(_:y=.int i)(_:SqL K H p xs)(_:atI xs i=some v)(_:Q v H)
inductive zge(K:Frag)(x:V)(y:V)(H:Hp)(Q:VK):Prop where
 | mk(p)(xs)(i)(v)(_:x=.ref p)(_:y=.int i)(_:SqT K H p xs)(_:atI xs i=some v)(_:Q v H)
theorem zeh:IxR X (zgd X.K):=by
 intro value slice pins s σ H x y v u Q I rx ry h hs;obtain⟨p,xs,i,z,rfl,rfl,hq,he,q⟩:=h;cases rx;obtain⟨t,rfl⟩:=ry;obtain⟨its,r,pl,hz⟩:=I.list hq;obtain⟨j,h1,h2,h3,h4,h5⟩:=Ac he;obtain⟨w,ew,rw'⟩:=r.get h2;have hl:=r.length;have hn:=Pk;have fin:EP X pins σ Q w s:=⟨z,H,I,rw',q⟩;by_cases h0:0<=i
 ·have hj:i.toNat=j:=by
   rw[seqIndex_of h0 h5] at h1;exact Option.some.inj h1
  exact item_listR pl.isList h0 ⋯ (by rw[hj];simpa using ew) fin hs
 ·have hj:(i+(its.toArray.size:Int)).toNat=j:=by
   rw[seqIndex_neg ⋯ h4] at h1;rw[zss,<- hl];exact Option.some.inj h1
  exact subscriptTail_builtinR (x:=w) pl.isList.typeIs slot_list_getitem.lookup
   (wpAny_getItem_list_neg (Q:=fun r s'=>r=w/\EP X pins σ Q r s') pl.isList ⋯ (by rw[zss]<;>omega) ⋯ (by rw[hj];simpa using ew) ⟨rfl,fin⟩) hs
theorem zgf:IxR X (zge X.K):=by
 intro value slice pins s σ H x y v u Q I rx ry h hs;obtain⟨p,xs,i,z,rfl,rfl,hq,he,q⟩:=h;cases rx;obtain⟨t,rfl⟩:=ry;obtain⟨its,r,pl,hz⟩:=I.tuple hq;obtain⟨j,h1,h2,h3,h4,h5⟩:=Ac he;obtain⟨w,ew,rw'⟩:=r.get h2;have hl:=r.length;have hn:=Pk;have fin:EP X pins σ Q w s:=⟨z,H,I,rw',q⟩;exact subscriptTail_builtinR (x:=w) pl.typeIs slot_tuple_getitem.lookup
  (getItem_tuple (j:=j) (Q:=fun r s'=>r=w/\EP X pins σ Q r s') pl ⋯ ⋯ (by rw[zss,<- hl];exact h1) (by simpa using ew) ⟨rfl,fin⟩) hs
theorem Ba(its:List Value)(n j:Nat)(u:Value):Obj.mapSeq (·.setIfInBounds j u) { cls:=.type "list",data:=.seq its.toArray n }={ cls:=.type "list",data:=.seq (its.set j u).toArray n }:=by
 simp[Obj.mapSeq]
theorem Inv.lst(I:Inv X pins σ H s)(h:H p=some (.lst xs)) :
  ∃ (its:List Value) (n:Nat),Vals xs its/\s.heap.get? p=some { cls:=.type "list",data:=.seq its.toArray n }/\xs.length<=sizeLine:=by
 obtain⟨z,its,n,r,e⟩:=I.hok p _ h;exact⟨its,n,r,e,z⟩
theorem Inv.lstUpd{pins:List (Addr×Obj)}{σ:St}{H:Hp}{s:Shared}{p:Addr}{xs ys:List V}{its its':List Value}{n n':Nat}{f:Obj->Obj}(I:Inv X pins σ H s)(h:H p=some (.lst xs))
  (ho:s.heap.get? p=some { cls:=.type "list",data:=.seq its.toArray n }) (hf:f { cls:=.type "list",data:=.seq its.toArray n }={ cls:=.type "list",data:=.seq its'.toArray n' }) (r:Vals ys its') (hz:ys.length<=sizeLine) (t:Nat) :
  Inv X pins σ (upd H p (.lst ys)) { s with heap:=s.heap.update p f,toks:=t }:=by
 have e:(s.heap.update p f).get? p=some { cls:=.type "list",data:=.seq its'.toArray n' }:=by
  rw[Heap.get?_update_self f ho (by rw[hf]<;>rfl),hf]
 refine I.write (x:=p) (e:=p) (by rw[h];trivial) (.inl rfl) (fun b u hb q=>(Heap.get?_update_other _ _ (Ne.symm hb)).trans q) ⟨_,e⟩ ?_;exact⟨hz,its',n',r,e⟩
def zic:V->V->V->Hp->(Hp->Prop)->Prop:=fun o i v H Q=>∃ p xs k j,o=.ref p/\i=.int k/\H p=some (.lst xs)/\ixN xs.length k=some j/\Q (upd H p (.lst (xs.set j v)))
theorem zcb:zhq X zic:=by
 intro pins s σ H o i v ov iv u Q I ro ri rv h;obtain⟨p,xs,k,j,rfl,rfl,hp,hj,q⟩:=h;cases ro;obtain⟨t,rfl⟩:=ri;obtain⟨its,n,r,ho,hz⟩:=I.lst hp;obtain⟨h1,h2,h3,h4⟩:=Ab hj;have hl:=r.length;have hn:=Pk;have I':Inv X pins σ (upd H p (.lst (xs.set j v))) { s with heap:=s.heap.update p (Obj.mapSeq (·.setIfInBounds j u)) } :=
  I.lstUpd hp ho (Ba its n j u) (r.set rv j) (by rw[zt1];exact hz) s.toks
 by_cases h0:0<=k
 ·have hk:k.toNat=j:=by
   rw[seqIndex_of h0 h4] at h1;exact Option.some.inj h1
  exact PySem.W.ki_setAt ho h0 ⋯ (by rw[zss,<- hl];exact h4) (by rw[hk];exact⟨_,I',q⟩)
 ·have hk:(k+(its.toArray.size:Int)).toNat=j:=by
   rw[seqIndex_neg ⋯ h3] at h1;rw[zss,<- hl];exact Option.some.inj h1
  exact PySem.W.ki_setBack ho ⋯ (by rw[zss,<- hl];exact h3) ⋯ (by rw[hk];exact⟨_,I',q⟩)
theorem Fi(lo hi:Option Int)(n:Nat):(sliceBounds lo hi none n).1=((HT.sIx n 0 lo:Nat):Int)/\(sliceBounds lo hi none n).2.1=((HT.sIx n n hi:Nat):Int)/\(sliceBounds lo hi none n).2.2=1:=by
 refine⟨?_,?_,rfl⟩
 ·cases lo with
  | none=>simp[sliceBounds,HT.sIx]
  | some i =>
    simp only[sliceBounds,HT.sIx,Option.getD_none,show (1:Int)>0 by decide,if_true];by_cases h:i<0
    ·simp only[h,if_true]<;>omega
    ·simp only[h,if_false]<;>omega
 ·cases hi with
  | none=>simp[sliceBounds,HT.sIx]
  | some i =>
    simp only[sliceBounds,HT.sIx,Option.getD_none,show (1:Int)>0 by decide,if_true];by_cases h:i<0
    ·simp only[h,if_true]<;>omega
    ·simp only[h,if_false]<;>omega
theorem Jt(its:List Value)(lo hi:Option Int):slicePick its.toArray lo hi none=((its.drop (HT.sIx its.length 0 lo)).take (HT.sIx its.length its.length hi-HT.sIx its.length 0 lo)).toArray:=by
 obtain⟨h1,h2,h3⟩:=Fi lo hi its.toArray.size;unfold slicePick;rw[h1,h2,h3];simp only[sliceRange_one,pick_run,zss]<;>rfl
def zid(K:Frag):V->Option Int->Option Int->Hp->VK->Prop:=fun x lo hi H Q=>∃ a xs,x=.ref a/\SqL K H a xs/\∀ p,H p=none->Q (.ref p) (upd H p (.lst (Js xs lo hi)))
theorem zei:SlR X (zid X.K):=by
 intro pins s σ H x v vl vu lo hi sl Q I rx hs pl pu h;obtain⟨a,xs,rfl,hx,q⟩:=h;cases rx;obtain⟨its,r,ht,hz⟩:=I.list hx;have hlen:=r.length;refine⟨"list",_,slot_list_getitem.lookup,ht.isList.typeIs,?_⟩;refine wpAny_getItem_list_slice ht.isList hs pl pu .none (by simp) ?_ (by rw[zss]<;>omega);rw[Jt,<- hlen];refine⟨.ref s.heap.objs.size,_,I.laid (t':=s.toks) (o:=.lst (Js xs lo hi)) (fun b ob q=>Heap.get?_push_of_some _ q) (zso _) ?_,rfl,q _ (I.hok.fresh (zso _))⟩;exact⟨zs3 (E4 xs lo hi) hz,_,0,(r.drop (HT.sIx xs.length 0 lo)).take (HT.sIx xs.length xs.length hi-HT.sIx xs.length 0 lo),Heap.get?_push_size _ rfl⟩
def Ss:V->Bool
 | .non=>true
 | .bl _=>true
 | .int _=>true
 | .str _=>true
 | _=>false
def eqV:V->V->Bool
 | .non,.non=>true
 | .bl a,.bl b=>a == b
 | .bl a,.int b=>(if a then 1 else 0) == b
 | .int a,.bl b=>a == (if b then 1 else 0)
 | .int a,.int b=>a == b
 | .str a,.str b=>a == b
 | _,_=>false
theorem zgg(ry:RelV y u)(rx:RelV x v)(fy:Ss y=true)(fx:Ss x=true):SeqAt.EqAt A s u v (eqV y x):=by
 cases y with
 | non =>
   cases ry;cases x with
   | non=>cases rx;exact SeqAt.EqAt.same _
   | bl b=>cases rx;exact SeqAt.EqAt.none_bool b
   | int b=>obtain⟨t,rfl⟩:=rx;exact SeqAt.EqAt.none_int b t
   | str b=>obtain⟨t,rfl⟩:=rx;exact SeqAt.EqAt.none_str b t
   | _=>exact absurd (show false=true from fx) zsx
 | bl a =>
   cases ry;cases x with
   | non=>cases rx;exact SeqAt.EqAt.bool_none a
   | bl b=>cases rx;exact SeqAt.EqAt.bool_bool a b
   | int b=>obtain⟨t,rfl⟩:=rx;exact SeqAt.EqAt.bool_int a b t
   | str b=>obtain⟨t,rfl⟩:=rx;exact SeqAt.EqAt.bool_str a b t
   | _=>exact absurd (show false=true from fx) zsx
 | int a =>
   obtain⟨t',rfl⟩:=ry;cases x with
   | non=>cases rx;exact SeqAt.EqAt.int_none a t'
   | bl b=>cases rx;exact SeqAt.EqAt.int_bool a t' b
   | int b=>obtain⟨t,rfl⟩:=rx;exact SeqAt.EqAt.int_int a t' b t
   | str b=>obtain⟨t,rfl⟩:=rx;exact SeqAt.EqAt.int_str a t' b t
   | _=>exact absurd (show false=true from fx) zsx
 | str a =>
   obtain⟨t',rfl⟩:=ry;cases x with
   | non=>cases rx;exact SeqAt.EqAt.str_none a t'
   | bl b=>cases rx;exact SeqAt.EqAt.str_bool a t' b
   | int b=>obtain⟨t,rfl⟩:=rx;exact SeqAt.EqAt.str_int a t' b t
   | str b=>obtain⟨t,rfl⟩:=rx;exact SeqAt.EqAt.str_str a t' b t
   | _=>exact absurd (show false=true from fx) zsx
 | _=>exact absurd (show false=true from fy) zsx
def eqU(x:V)(u:Value):Bool:=match u with
 | .none=>eqV .non x
 | .bool b=>eqV (.bl b) x
 | .int i _=>eqV (.int i) x
 | .str z _=>eqV (.str z) x
 | _=>false
theorem Bb(r:RelV y u)(f:Ss y=true):eqU x u=eqV y x:=by
 cases y with
 | non=>cases r;rfl
 | bl b=>cases r;rfl
 | int i=>obtain⟨t,rfl⟩:=r;rfl
 | str z=>obtain⟨t,rfl⟩:=r;rfl
 | _=>exact absurd (show false=true from f) zsx
theorem Ol:∀ {xs:List V} {us:List Value},Vals xs us->xs.all Ss=true->us.any (eqU x)=xs.any fun y=>eqV y x
 | _,_,.nil,_=>rfl
 | y :: xs,u :: us,.cons r t,f=>by
   rw[List.all_cons,zua] at f;rw[zt9,zt9,Bb r f.1,Ol t f.2]
theorem Su(rx:RelV x v)(fx:Ss x=true):∀ {xs:List V} {us:List Value},Vals xs us->xs.all Ss=true->∀ u∈us,SeqAt.EqAt A s u v (eqU x u)
 | _,_,.nil,_=>fun u hu=>by cases hu
 | y :: xs,u :: us,.cons r t,f=>fun u' hu=>by
   rw[List.all_cons,zua] at f;rcases zsk.mp hu with rfl|hu
   ·rw[Bb r f.1];exact zgg r rx f.1 fx
   ·exact Su rx fx t f.2 u' hu
def inV(x:V)(xs:List V):Bool:=xs.any fun y=>eqV y x
inductive rIn(K:Frag)(neg:Bool)(x:V)(y:V)(H:Hp)(Q:VK):Prop where
 | mk(p)(xs)(_:y=.ref p)(_:(SqL K H p xs\/SqT K H p xs))(_:Ss x=true)(_:xs.all Ss=true)(_:Q (.bl (if neg then !inV x xs else inV x xs)) H)
theorem zaj:OpR X (compareOp .In) (rIn X.K false):=by
 intro pins s σ H x y v u Q I rx ry h;obtain⟨p,xs,rfl,hq,fx,fs,q⟩:=h;cases ry;rcases hq with hq|hq
 ·obtain⟨its,r,pl,hz⟩:=I.list hq;refine SeqAt.in_listAt (eqU x) pl.isList (fun w hw=>Su rx fx r fs w (by simpa using hw)) ⟨.bl _,H,I,rfl,?_⟩;rw[show its.toArray.any (eqU x)=its.any (eqU x) by simp,Ol r fs];exact q
 ·obtain⟨its,r,pl,hz⟩:=I.tuple hq;refine SeqAt.in_tupleAt (eqU x) pl (fun w hw=>Su rx fx r fs w (by simpa using hw)) ⟨.bl _,H,I,rfl,?_⟩;rw[show its.toArray.any (eqU x)=its.any (eqU x) by simp,Ol r fs];exact q
theorem Fj:OpR X (compareOp .NotIn) (rIn X.K true):=by
 intro pins s σ H x y v u Q I rx ry h;obtain⟨p,xs,rfl,hq,fx,fs,q⟩:=h;cases ry;rcases hq with hq|hq
 ·obtain⟨its,r,pl,hz⟩:=I.list hq;refine SeqAt.notIn_listAt (eqU x) pl.isList (fun w hw=>Su rx fx r fs w (by simpa using hw)) ⟨.bl _,H,I,rfl,?_⟩;rw[show its.toArray.any (eqU x)=its.any (eqU x) by simp,Ol r fs];exact q
 ·obtain⟨its,r,pl,hz⟩:=I.tuple hq;refine SeqAt.notIn_tupleAt (eqU x) pl (fun w hw=>Su rx fx r fs w (by simpa using hw)) ⟨.bl _,H,I,rfl,?_⟩;rw[show its.toArray.any (eqU x)=its.any (eqU x) by simp,Ol r fs];exact q
theorem Fl:V2 X (.builtin "len") (fun xs H Q=>∃ p ys,xs=[.ref p]/\(SqL X.K H p ys\/SqT X.K H p ys)/\Q (.int ys.length) H):=by
 intro pins s σ H xs us Q I r h;obtain⟨p,ys,rfl,hq,q⟩:=h;obtain⟨u,rfl,rx⟩:=R1 r;cases rx;have hn:=Pk;rcases hq with hq|hq
 ·obtain⟨its,r',pl,hz⟩:=I.list hq;have hlen:=r'.length;exact Calls.call_len_list pl.isList (by simp only[zss]<;>omega) ⟨.int ys.length,H,I.tok _,⟨s.toks+1,by rw[zss,hlen]⟩,q⟩
 ·obtain⟨its,r',pl,hz⟩:=I.tuple hq;have hlen:=r'.length;exact len_tuple pl (by simp only[zss]<;>omega) ⟨.int ys.length,H,I.tok _,⟨s.toks+1,by rw[zss,hlen]⟩,q⟩
theorem Fm:V2 X (.type "list") (fun xs H Q=>∃ p ys,xs=[.ref p]/\(SqL X.K H p ys\/SqT X.K H p ys)/\∀ l,H l=none->Q (.ref l) (upd H l (.lst ys))):=by
 intro pins s σ H xs us Q I r h;obtain⟨p,ys,rfl,hq,q⟩:=h;obtain⟨u,rfl,rx⟩:=R1 r;cases rx;have fin:∀ (its:List Value),Vals ys its->ys.length<=sizeLine->∀ (h':Heap) (c':Nat),(∀ b o',s.heap.get? b=some o'->h'.get? b=some o') ->
   h'.get? s.heap.objs.size=some { cls:=.type "list",dict:=none,data:=.seq its.toArray c',slots:=#[] }->EP X pins σ Q (.ref s.heap.objs.size) { s with heap:=h' }:=fun its r' hz h' c' kp e =>
  ⟨.ref s.heap.objs.size,_,I.laid (t':=s.toks) kp (zso _) (show Yp X.prog X.w _ h' _ (.lst ys) from⟨hz,its,c',r',e⟩),rfl,q _ (I.hok.fresh (zso _))⟩
 rcases hq with hq|hq
 ·obtain⟨its,r',pl,hz⟩:=I.list hq;have hlen:=r'.length;obtain⟨o,ho,hc,n,hd⟩:=pl.isList;exact call_list_seq p (.inl rfl) ho hc hd (fun h' c' kp e=>fin its r' hz h' c' kp e) (by simp only[zss]<;>omega)
 ·obtain⟨its,r',pl,hz⟩:=I.tuple hq;have hlen:=r'.length;obtain⟨o,ho,hc,n,hd⟩:=pl;exact call_list_seq p (.inr rfl) ho hc hd (fun h' c' kp e=>fin its r' hz h' c' kp e) (by simp only[zss]<;>omega)
theorem Ju:V2 X (.type "tuple") (fun xs H Q=>∃ p ys,xs=[.ref p]/\((SqL X.K H p ys/\∀ l,H l=none->Q (.ref l) (upd H l (.tup ys)))\/(SqT X.K H p ys/\Q (.ref p) H))):=by
 intro pins s σ H xs us Q I r h;obtain⟨p,ys,rfl,h⟩:=h;obtain⟨u,rfl,rx⟩:=R1 r;cases rx;rcases h with ⟨hq,q⟩|⟨hq,q⟩
 ·obtain⟨its,r',pl,hz⟩:=I.list hq;have hlen:=r'.length;refine call_tuple_list pl.isList (fun h' kp=>?_) (by simp only[zss]<;>omega);have I1:Inv X pins σ H { s with heap:=h' }:=I.kept (t':=s.toks) kp;have I2:Inv X pins σ (upd H h'.objs.size (.tup ys)) { s with heap:=h'.push { cls:=.type "tuple",data:=.seq its.toArray } } :=
   I1.laid (t':=s.toks) (fun b o e=>Heap.get?_push_of_some _ e) (zso _) (show Yp X.prog X.w _ _ _ (.tup ys) from⟨hz,its,r',IsTup.new _ _⟩)
  exact⟨.ref h'.objs.size,_,I2,rfl,q _ (I1.hok.fresh (zso _))⟩
 ·obtain⟨its,r',pl,hz⟩:=I.tuple hq;exact call_tuple_same pl ⟨.ref p,H,I,rfl,q⟩
def tyV(K:Frag)(T:String)(x:V)(H:Hp):Prop:=match x with
 | .str _=>T="str"
 | .int _=>T="int"
 | .ref p=>(T="list"/\∃ xs,SqL K H p xs)\/(T="tuple"/\∃ o,K.lookup p=some o/\o.cls=.type "tuple"/\o.dict=none) \/
   (T="dict"/\((∃ kvs,H p=some (.dK kvs))\/∃ kvs,H p=some (.dT kvs)))\/(T="set"/\∃ S n,H p=some (.set S n))
 | _=>False
theorem Bc(I:Inv X pins σ H s)(r:RelV x v)(ty:tyV X.K T x H) :
  s.TypeIs v T/\∀ a,v=.ref a->∃ ob,s.heap.get? a=some ob/\ob.dict=none:=by
 cases x with
 | str z =>
   obtain⟨t,rfl⟩:=r;cases (show T="str" from ty);exact⟨typeIs_str s z t,fun _ e=>nomatch e⟩
 | int i =>
   obtain⟨t,rfl⟩:=r;cases (show T="int" from ty);exact⟨typeIs_int s i t,fun _ e=>nomatch e⟩
 | ref p =>
   cases r;rcases ty with ⟨rfl,xs,hq⟩|⟨rfl,o,hk,hc,hd⟩|⟨rfl,hk⟩|⟨rfl,S,n,hk⟩
   ·obtain⟨its,_,pl,_⟩:=I.list hq;refine⟨pl.isList.typeIs,fun a e=>?_⟩;cases e;obtain⟨o,n,e,c,hd,_⟩:=pl;exact⟨o,e,hd⟩
   ·refine⟨⟨o,I.kIn p o hk,hc⟩,fun a e=>?_⟩;cases e;exact⟨o,I.kIn _ o hk,hd⟩
   ·have z:∃ o,s.heap.get? p=some o/\o.ExactDict:=by
     rcases hk with ⟨kvs,hk⟩|⟨kvs,hk⟩
     ·obtain⟨_,_,_,_,o,_,_,e,ex,_⟩:=I.hok p _ hk;exact⟨o,e,ex⟩
     ·obtain⟨_,_,_,_,o,_,_,e,ex,_⟩:=I.hok p _ hk;exact⟨o,e,ex⟩
    obtain⟨o,e,ex⟩:=z;refine⟨⟨o,e,ex.1⟩,fun a e2=>?_⟩;cases e2;exact⟨o,e,ex.2.1⟩
   ·obtain⟨o,_,_,_,e,ex,_⟩:=I.hok p _ hk;refine⟨⟨o,e,ex.1⟩,fun a e2=>?_⟩;cases e2;exact⟨o,e,ex.2.1⟩
 | _=>exact False.elim ty
inductive zie(K:Frag)(T:String)(r:V->List V->Hp->VK->Prop)(Q:VK)(x:V)(H1:Hp):Prop where
 | mk(_:tyV K T x H1)(_:r x [] H1 Q)
def zjj(K:Frag)(T:String)(r:V->List V->Hp->VK->Prop)(to:TE):TE:=fun σ H Q=>to σ H fun x H1=>zie K T r Q x H1
inductive zjk(K:Frag)(T:String)(r:V->List V->Hp->VK->Prop)(t:TA)(σ:L2.St)(Q:VK)(x:V)(H1:Hp):Prop where
 | mk(_:tyV K T x H1)(_:t σ H1 fun xs H2=>r x xs H2 Q)
def tBM(K:Frag)(T:String)(r:V->List V->Hp->VK->Prop)(to:TE)(t:TA):TE:=fun σ H Q=>to σ H fun x H1=>zjk K T r t σ Q x H1
variable{o e:Expr}{es:List Expr}{to:TE}{t:TA}{name:Str}{apos cpos:Pos}{T id:String}{r:V->List V->Hp->VK->Prop}
theorem Bd(pa:PlainAttrs T)(slot:Slot T name id)(hty:typeOf (.builtin id)=pure (.type "method_descriptor"))(hm:MtR X id r)(ho:PE X o to)
  (hbase:attributeBase o name X.env (eval o X.env)=eval o X.env:=by rfl) (hline:(apos.endLine == cpos.line)=true:=by rfl):PE X (.Call (.Attribute o name apos) [] [] cpos) (zjj X.K T r to):=by
 intro pins s σ H Q I h;refine wpAny_Call_method0_late hbase hline (thn (ho pins s σ H _ I h) fun v s1 ⟨x,H1,I1,r1,ty,q1⟩=>?_);obtain⟨h1,h2⟩:=Bc I1 r1 ty;exact⟨T,id,pa,slot,hty,h1,h2,Calls.callWith_builtin rfl (PySem.evalArgs_none (hm pins s1 σ H1 x [] v [] Q I1 r1 .nil q1))⟩
theorem zcc(pa:PlainAttrs T)(slot:Slot T name id)(hty:typeOf (.builtin id)=pure (.type "method_descriptor"))(hm:MtR X id r)(ho:PE X o to)(ha:PA X (e :: es) t)
  (hbase:attributeBase o name X.env (eval o X.env)=eval o X.env:=by rfl)
  (hfew:((backTo cpos (starEach (e :: es) X.env)).all (fun x=>!x.1)&&(backToKw cpos (keywordEach [] X.env)).all (fun x=>x.1.isSome)
   && decide ((e :: es).length+([]:List Keyword).length+(if ([]:List Keyword).isEmpty then 0 else 1)<30))=true:=by rfl)
  (hline:(apos.endLine == cpos.line)=true:=by rfl) (hs:starEach (e :: es) X.env=(false,eval e X.env) :: starEach es X.env:=by rfl) (hplain:(backTo cpos (starEach es X.env)).any (·.1)=false:=by rfl) :
  PE X (.Call (.Attribute o name apos) (e :: es) [] cpos) (tBM X.K T r to t):=by
 intro pins s σ H Q I h;refine wpAny_Call_method_late hbase hfew hline rfl (thn (ho pins s σ H _ I h) fun v s1 ⟨x,H1,I1,r1,ty,q1⟩=>?_);obtain⟨h1,h2⟩:=Bc I1 r1 ty;refine⟨T,id,pa,slot,hty,h1,h2,?_⟩;have hA:=ha cpos pins s1 σ H1 _ I1 q1;rw[hs] at hA ⊢;refine Calls.callWith_builtin (by show (false||(backTo cpos (starEach es X.env)).any (·.1))=false;rw[hplain]<;>rfl) (Calls.evalArgs_plain ?_);exact thn hA fun us s2 ⟨vs,H2,I2,r2,q2⟩=>hm pins s2 σ H2 x vs v us Q I2 r1 r2 q2
end
def MtM(X:Cx)(id:String)(r:V->List V->Hp->VK->Prop):Prop :=
 ∀ (pins:List (Addr×Obj)) (s:Shared) (σ:St) (H:Hp) (x:V) (xs:List V) (v:Value) (us:List Value) (Q:VK),Inv X pins σ H s->RelV x v->Vals xs us->r x xs H Q ->
   wpAny (model X.prog X.w) X.A (call (.builtin id) (v :: us)) (EP X pins σ Q) X.xe s
theorem Vals.one:∀ {x:V} {us:List Value},Vals [x] us->∃ u,us=[u]/\RelV x u
 | _,_,.cons r .nil=>⟨_,rfl,r⟩
theorem Vals.zero:∀ {us:List Value},Vals [] us->us=[]
 | _,.nil=>rfl
theorem Vals.dropLast(h:Vals xs us):Vals xs.dropLast us.dropLast:=by
 induction h with
 | nil=>exact .nil
 | cons r t ih =>
   cases t with
   | nil=>exact .nil
   | cons q t'=>exact .cons r ih
theorem Vals.eraseIdx:∀ {xs:List V} {us:List Value} (i:Nat),Vals xs us->Vals (xs.eraseIdx i) (us.eraseIdx i)
 | _,_,_,.nil=>.nil
 | _,_,0,.cons _ t=>t
 | _,_,i+1,.cons r t=>.cons r (Vals.eraseIdx i t)
theorem Vals.reverse(h:Vals xs us):Vals xs.reverse us.reverse:=by
 induction h with
 | nil=>exact .nil
 | cons r t ih=>rw[zuf,zuf];exact Vals.append ih (.cons r .nil)
theorem Vals.rep(h:Vals xs us):∀ k:Nat,Vals (List.replicate k xs).flatten (List.replicate k us).flatten
 | 0=>.nil
 | k+1=>by
   rw[ztv,ztv,zt6,zt6];exact Vals.append h (Vals.rep h k)
theorem Be(l:List α):l.eraseIdx (l.length-1)=l.dropLast:=by
 induction l with
 | nil=>rfl
 | cons a r ih =>
   cases r with
   | nil=>rfl
   | cons b r =>
     have e:(a :: b :: r).length-1=((b :: r).length-1)+1:=by
      have h1:(a :: b :: r).length=r.length+2:=rfl;have h2:(b :: r).length=r.length+1:=rfl;omega
     rw[e,List.eraseIdx_cons_succ,ih]
     all_goals rfl
theorem Ge:∀ (l:List α) (i:Nat),(l.eraseIdx i).length<=l.length
 | [],_=>zso _
 | _ :: _,0=>zul _
 | _ :: r,i+1=>Nat.succ_le_succ (Ge r i)
theorem Gf(its:List Value):∀ (k:Nat) (acc:List Value),
  List.foldl (fun x1 x2=>x1++x2) acc.toArray (List.replicate k its.toArray)=(acc++(List.replicate k its).flatten).toArray
 | 0,acc=>by simp
 | k+1,acc=>by
   have e:acc.toArray++its.toArray=(acc++its).toArray:=by simp
   have e2:(acc++its)++(List.replicate k its).flatten=acc++(List.replicate (k+1) its).flatten:=by
    rw[ztv,zt6,ztn]
   rw[<- e2,<- Gf its k (acc++its),<- e,ztv,List.foldl_cons]
section
variable{X:Cx}{pins:List (Addr×Obj)}{σ:St}{H:Hp}{s:Shared}{l b:Addr}{xs ys zs:List V}
theorem Inv.lset{its its':List Value}{n:Nat}{f:Array Value->Array Value}{t':Nat}(I:Inv X pins σ H s)(hH:H l=some (.lst xs))
  (e:s.heap.get? l=some { cls:=.type "list",data:=.seq its.toArray n }) (hf:f its.toArray=its'.toArray) (hv:Vals ys its') (hz:ys.length<=sizeLine) :
  Inv X pins σ (upd H l (.lst ys)) { s with heap:=s.heap.update l (Obj.mapSeq f),toks:=t' }:=by
 have q:=PySem.IsL.update e f;rw[hf] at q;refine I.write (x:=l) (e:=l) (by rw[hH];exact trivial) (.inl rfl) (fun b' u hb hu=>(Heap.get?_update_other s.heap (Obj.mapSeq f) (Ne.symm hb)).trans hu) ⟨_,q⟩ ?_;exact⟨hz,its',_,hv,q⟩
theorem Inv.lnew(I:Inv X pins σ H s)(hv:Vals ys its)(hz:ys.length<=sizeLine) :
  Inv X pins σ (upd H s.heap.objs.size (.lst ys)) { s with heap:=s.heap.push { cls:=.type "list",data:=.seq its.toArray },toks:=t' } :=
 I.laid (fun _ _ q=>Heap.get?_push_of_some _ q) (zso _) ⟨hz,its,0,hv,Heap.get?_push_size _ rfl⟩
theorem Inv.fresh(I:Inv X pins σ H s):H s.heap.objs.size=none:=I.hok.fresh (zso _)
theorem Inv.lstM(I:Inv X pins σ H s)(hH:H l=some (.lst xs)):xs.length<=sizeLine/\∃ (its:List Value) (n:Nat),Vals xs its/\xs.length=its.length/\s.heap.get? l=some { cls:=.type "list",data:=.seq its.toArray n }:=by
 obtain⟨z,its,n,r,e⟩:=I.hok l _ hH;exact⟨z,its,n,r,r.length,e⟩
theorem zcd(h:n<=sizeLine):Builtin.List.listTooLong n=false:=by
 unfold Builtin.List.listTooLong;exact zsr ⋯
end
section
variable{X:Cx}
inductive zej(x:V)(vs:List V)(H:Hp)(Q:VK):Prop where
 | mk(l)(xs)(y)(_:x=.ref l)(_:vs=[y])(_:H l=some (.lst xs))(_:xs.length<sizeLine)(_:Q .non (upd H l (.lst (xs++[y]))))
theorem zak:MtM X "list.append" zej:=by
 intro pins s σ H x vs v us Q I rx rv h;obtain⟨l,xs,y,rfl,rfl,hH,hz,q⟩:=h;cases rx;obtain⟨u,rfl,ru⟩:=rv.one;obtain⟨z,its,n,r,hl,e⟩:=I.lstM hH;refine call_meets F.slot_list_append ⟨_,e,rfl⟩ F.entry_list_append (F.args_list_append_2 _ _) (PySem.list_append l its.toArray n u (by rw[zss];omega)) ⟨e,?_⟩;refine⟨.non,_,I.lset (its':=its++[u]) hH e (by simp) (r.append (.cons ru .nil)) ?_,rfl,q⟩;rw[zsh,List.length_singleton];omega
inductive zjl(x:V)(vs:List V)(H:Hp)(Q:VK):Prop where
 | mk(l)(xs)(y)(_:x=.ref l)(_:vs=[])(_:H l=some (.lst xs))(_:xs[xs.length-1]?=some y)(_:Q y (upd H l (.lst xs.dropLast)))
theorem zce:MtM X "list.pop" zjl:=by
 intro pins s σ H x vs v us Q I rx rv h;obtain⟨l,xs,y,rfl,rfl,hH,hy,q⟩:=h;cases rx;have hus:=rv.zero;subst hus;obtain⟨z,its,n,r,hl,e⟩:=I.lstM hH;obtain⟨u,hu,ru⟩:=r.get hy;have hy':its.toArray[its.toArray.size-1]?=some u:=by
  show its.toArray[its.length-1]?=some u;rw[<- Array.getElem?_toList,<- hl];exact hu
 refine call_meets F.slot_list_pop ⟨_,e,rfl⟩ F.entry_list_pop (F.args_list_pop_1 _) (MeetsSeq.list_pop_last l its.toArray n u hy' (by rw[zss];omega)) ⟨e,?_⟩;refine⟨y,_,I.lset (its':=its.dropLast) hH e ?_ r.dropLast ?_,ru,q⟩
 ·show its.toArray.eraseIdxIfInBounds (its.toArray.size-1)=its.dropLast.toArray;rw[zss,List.eraseIdxIfInBounds_toArray,Be]
 ·rw[List.length_dropLast];omega
inductive zcf(x:V)(vs:List V)(H:Hp)(Q:VK):Prop where
 | mk(l)(xs)(_:x=.ref l)(_:vs=[])(_:H l=some (.lst xs))(_:Q .non (upd H l (.lst xs.reverse)))
theorem Bf:MtM X "list.reverse" zcf:=by
 intro pins s σ H x vs v us Q I rx rv h;obtain⟨l,xs,rfl,rfl,hH,q⟩:=h;cases rx;have hus:=rv.zero;subst hus;obtain⟨z,its,n,r,hl,e⟩:=I.lstM hH;refine call_meets F.slot_list_reverse ⟨_,e,rfl⟩ F.entry_list_reverse (F.args_list_reverse_1 _) (AutoSeq1.list_reverse_list_0 l its.toArray n (by rw[zss];omega)) ⟨e,?_⟩;refine⟨.non,_,I.lset (its':=its.reverse) hH e (by simp) r.reverse ?_,rfl,q⟩;rw[List.length_reverse];omega
inductive zgh(x:V)(y:V)(H:Hp)(Q:VK):Prop where
 | mk(l)(b)(xs)(zs)(_:x=.ref l)(_:y=.ref b)(_:H l=some (.lst xs))(_:H b=some (.lst zs))(_:xs.length+zs.length<=sizeLine)(_:∀ p,H p=none->Q (.ref p) (upd H p (.lst (xs++zs))))
theorem X7:OpR X (binaryOp .Add) zgh:=by
 intro pins s σ H x y v u Q I rx ry h;obtain⟨l,b,xs,zs,rfl,rfl,hH,hB,hz,q⟩:=h;cases rx;cases ry;obtain⟨z,its,n,r,hl,e⟩:=I.lstM hH;obtain⟨z2,its2,n2,r2,hl2,e2⟩:=I.lstM hB;refine PySem.P.add_list e e2 ?_ (by rw[zss,zss];omega);have ea:its.toArray++its2.toArray=(its++its2).toArray:=by simp
 rw[ea];exact⟨.ref _,_,I.lnew (t':=s.toks) (r.append r2) (by rw[zsh];omega),rfl,q _ I.fresh⟩
inductive zjm(x:V)(y:V)(H:Hp)(Q:VK):Prop where
 | mk(l)(k)(xs)(_:x=.ref l)(_:y=.int k)(_:H l=some (.lst xs))(_:-(2 ^ 63)<=k)(_:k<2 ^ 63)(_:xs.length*k.toNat<=sizeLine)(_:∀ p,H p=none->Q (.ref p) (upd H p (.lst (List.replicate k.toNat xs).flatten)))
theorem zek(xs:List α)(k:Nat):(List.replicate k xs).flatten.length=k*xs.length:=by
 induction k with
 | zero=>simp
 | succ k ih=>rw[ztv,zt6,zsh,ih,Nat.succ_mul,Nat.add_comm]
theorem zgi:OpR X (binaryOp .Mult) zjm:=by
 intro pins s σ H x y v u Q I rx ry h;obtain⟨l,k,xs,rfl,rfl,hH,h1,h2,hz,q⟩:=h;cases rx;obtain⟨t,rfl⟩:=ry;obtain⟨z,its,n,r,hl,e⟩:=I.lstM hH;have hlen:its.toArray.size*k.toNat<=sizeLine:=by rw[zss,<- hl];exact hz
 have hcap:¬ its.toArray.size*k.toNat>(2 ^ 63-1)/8:=by
  have:(sizeLine:Nat)<=(2 ^ 63-1)/8:=by decide
  omega
 have hfit:¬ (!Builtin.List.listFitsIndex k)=true:=by
  rw[fitsIndex_both h1 h2];exact zsx
 have hlong:¬ Builtin.List.listTooLong (its.toArray.size*k.toNat)=true:=by
  rw[zcd hlen];exact zsx
 have hnew:List.foldl (fun x1 x2=>x1++x2) #[] (List.replicate (if its.toArray.isEmpty=true then 0 else k.toNat) its.toArray)=(List.replicate k.toNat its).flatten.toArray:=by
  have f0:∀ m:Nat,List.foldl (fun x1 x2=>x1++x2) #[] (List.replicate m its.toArray)=(List.replicate m its).flatten.toArray:=fun m=>by
   have:=Gf its m [];rw[List.nil_append] at this;exact this
  rw[f0];cases its with
  | nil=>simp
  | cons a r'=>rw[if_neg (by simp)]
 refine wpAny_binaryOp_repeat_ref (T:="list") (U:="int") ⋯ ⟨_,e,rfl⟩ (fun s'=>typeIs_int s' k t) noFill_list_mul F.fills_int_mul F.slot_int_rmul repeat_list F.slot_int_index.lookup
  (call_meets F.slot_int_rmul (typeIs_int s k t) F.entry_int_rmul (F.args_int_rmul_2 _ _) (int___rmul___int_list k t l its.toArray n)
   ⟨e,rfl,⟨_,e,rfl⟩,call_meets F.slot_list_mul ⟨_,e,rfl⟩ F.entry_list_mul (F.args_list_mul_2 _ _) (AutoListH.list___mul___list_int_3 l its.toArray n k t hfit hcap hlong) ⟨e,?_⟩⟩)
 rw[hnew];exact⟨.ref _,_,I.lnew (t':=s.toks) (r.rep k.toNat) (by rw[zek,Nat.mul_comm];exact hz),rfl,q _ I.fresh⟩
end
end L2
namespace Att
open PySem PySem.W PySem.Calls PyProof.Rows
theorem Mv:∀ (ns:List Int) (vs:List Value),WellAll P h vs (ns.map WData.int)->IntsAre vs ns:=by
 intro ns
 induction ns with
 | nil =>
   intro vs w;rw[List.map_nil] at w;cases w;exact .nil
 | cons n ns ih =>
   intro vs w;rw[zst] at w;cases w with
   | cons a b =>
     cases a;exact .cons _ _ (ih _ b)
theorem zal{l:OpenLaw}{n:Nat}(hn:l.most=some n){P:Params}{h:Heap}{args:List WData}{vals:List Value}
  (hpre:l.row.toRowW.claim.pre args=true) (hwl:WellAll P h vals args) :
  ∃ a vs ns,vals=[Value.ref a]/\args=[WData.list (ns.map WData.int)]/\h.get? a=some { cls:=.type "list",data:=.seq vs.toArray }/\IntsAre vs ns/\ns.length<=n:=by
 have hsh:WShape.hasAll [] args [.list .int]=true:=(pre_splitW hpre).1;have hc:l.pre.holds [] { args:=args }=true:=(pre_splitW hpre).2;obtain⟨d,r,rfl,h1,h2⟩:=hasAllW_cons hsh;obtain rfl:=hasAllW_nil h2;obtain⟨xs,rfl,h3⟩:=hasW_list h1;obtain⟨ns,rfl⟩:=items_int h3;have hlen:ns.length<=n:=by
  unfold OpenLaw.pre at hc;have h4:(WTm.not (.lt (.lit (.int (n:Int))) (.len (.arg 0)))).holds [] { args:=[.list (ns.map .int)] }=true:=by
   have h4:=(holds_andW hc).1;rw[hn] at h4;exact h4
  have h5:=condW_of h4 (w_not (w_lt w_lit (w_len_list (w_arg rfl))));rw[zsg] at h5;refine Nat.le_of_not_lt fun q=>?_;have q':(n:Int)<((ns.length:Nat):Int):=by omega
  first
   | (rw[zsm q'] at h5;exact absurd h5 ⋯)
   | (simp at h5;omega)
 cases hwl with
 | cons w1 w2 =>
   cases w2;cases w1 with
   | list ho hall=>exact⟨_,_,ns,rfl,rfl,ho,Mv ns _ hall,hlen⟩
theorem zam(l:OpenLaw)(args:List WData):l.row.toRowW.claim.post args (.bool true) args=true :=
 postW_of (r:=l.row.toRowW) (X:=(true == true))
  (show WShape.has [] (.bool true) .bool=true by first|rfl|decide|simp[WShape.has,WShape.arms,WShape.armsAll])
  (show (WTm.eq .res (.lit (.bool true))).value [] { args:=args,res:=some (.bool true),after:=args }=some (.bool (true == true)) from w_eq_bool (w_res rfl) w_lit) rfl
theorem attach_call{l:OpenLaw}{n:Nat}{q:Program}{loose:List Str}{XP:(Str->Option Value)->Heap->Prop}{YP:World->Heap->Prop}{d:DefRec}
  (hn:l.most=some n) (hdf:d.params.defaults=[])
  (call:∀ (w:World) (s₀ s₁:Shared) (mg mb:Str->Option Value) (fa:Addr) (o:Obj) (pm cd doc:Value) (a:Addr) (vs:List Value) (ns:List Int),
   Ground q loose [] XP w s₀ mg mb s₁.heap->YP w s₁.heap ->
   s₁.heap.get? fa=some o->o.data=.func (docDef d.name d.params d.body d.scope pm cd doc)->s₁.heap.CodeRec cd d.name->mg d.name=some (.ref fa) ->
   s₁.heap.get? a=some { cls:=.type "list",data:=.seq vs.toArray }->IntsAre vs ns->ns.length<=n->s₁.gens=#[] ->
   codeAny (model l.prog w) callerA (.call (.ref fa) ⟨[.ref a],[]⟩) (fun r s'=>r=.ok (.ret (.bool true))/\OldK s₁.heap s'.heap/\s'.os=s₁.os/\AllBare s'.gens) s₁) :
  WalkO q loose XP YP l.row.toRowW d [] (fun f vs=>PySem.call f vs):=by
 intro w s₀ s₁ mg mb G Y fa o pm cd doc dV kV ho hd hcd hD hmg hg args vals as hpre hlay hrd hwl hlo;obtain rfl:dV=.none:=Dflts.none hD hdf;obtain rfl:kV=.none:=Dflts.noKw hD;obtain⟨a,vs,ns,rfl,rfl,hobj,hints,hlen⟩:=zal hn hpre hwl;refine enter_call (codeAny_mono (call w s₀ s₁ mg mb fa o pm cd doc a vs ns G Y ho (fd_plain hd) hcd hmg hobj hints hlen hg) fun r s' hq=>?_);obtain⟨rfl,h2,h3,h4⟩:=hq;exact⟨.inl ⟨.bool true,.bool true,[],rfl,fun _=>rfl,.bool true,zam l _,fun _=>⟨List.Pairwise.nil,fun _ hm=>(nomatch hm)⟩⟩,h2,h3,h4⟩
section
variable{prog:Program}{w:World}{A:Around}{E:Value->Shared->Prop}{s:Shared}{K:Frag}
def noObjs(h:Heap):Heap:={ h with objs:=#[] }
theorem noObjs_get(h:Heap)(b:Addr):(noObjs h).get? b=none:=by
 cases e:(noObjs h).get? b with
 | none=>rfl
 | some o=>exact absurd (Heap.lt_size e) (zuq _)
end
end Att
namespace L2
open PySem PySem.Spec PyProof.Rows
theorem Gg:∀ {vs:List Value} {ns:List Int},IntsAre vs ns->Vals (ns.map V.int) vs
 | _,_,.nil=>.nil
 | _,_,.cons n t h=>.cons ⟨t,rfl⟩ (Gg h)
def zgj(H:Hp):Prop:=∀ b,H b=none\/∃ o xs,H b=some (.frz o (.lst xs))
theorem zcg{P:Program}{w:World}{K:Frag}{mg mb:Str->Option Value}{CX:CXT}{k:Nat}{fa a:Addr}{fd:FuncData}{x:Str}{sp:Sp}{s₁:Shared}{vs:List Value}{ns:List Int}
  (KX:K.In s₁.heap) (hns:s₁.heap.Ns mainGlobals mg) (hb:s₁.heap.Ns builtinsNs mb) (hbb:∀ x:Str,x≠"__name__"->mb x=bootBuiltins x) (hlim:s₁.heap.NoLimit) (hg:s₁.gens=#[])
  (ha:s₁.heap.get? a=some { cls:=.type "list",data:=.seq vs.toArray }) (hi:IntsAre vs ns) (hl:ns.length<=sizeLine) (hr:Wt k callerA)
  (F:∀ base:Heap,K.In base->base.Ns mainGlobals mg->FnOk P w K mg base CX k fa fd [x] sp) (hbind:∀ (s:Shared) (u:Value),BindsTo s fd ⟨[u],[]⟩ [(x,u)])
  (hsp:∀ H:Hp,zgj H->SqL K H a (ns.map V.int)->sp [.ref a] H (fun v _=>v=.bl true) fun _ _ _=>False)
  (hCX:∀ H e s',CX [] H s₁ (fun _ _ _=>False) e s'->False) :
  codeAny (model P w) callerA (.call (.ref fa) ⟨[.ref a],[]⟩) (fun r s'=>r=.ok (.ret (.bool true))/\OldK s₁.heap s'.heap/\s'.os=s₁.os/\AllBare s'.gens) s₁:=by
 have rv:=Gg hi;have lenV:=hi.length;have core:∀ H:Hp,zgj H->SqL K H a (ns.map V.int)->HOk P w H s₁.heap->(∀ b,H b≠none->b=a)->(H a≠none->K.lookup a=none) ->
   codeAny (model P w) callerA (.call (.ref fa) ⟨[.ref a],[]⟩) (fun r s'=>r=.ok (.ret (.bool true))/\OldK s₁.heap s'.heap/\s'.os=s₁.os/\AllBare s'.gens) s₁:=by
  intro H hO hS hok hA hK;have base_of:∀ {b:Addr} {o:Obj},s₁.heap.get? b=some o->H b=none->(Ff s₁.heap H).get? b=some o:=fun e n=>zbp e n;have noA:∀ {b:Addr} {o:Obj} {es:Array DictEntry} {ep:Nat},s₁.heap.get? b=some o->o.data=.dict es ep->H b=none:=fun {b o es ep} e d=>by
   cases q:H b with
   | none=>rfl
   | some u =>
     have e':b=a:=hA b (by rw[q];simp);subst e';rw[ha] at e;cases e;have d':Data.seq vs.toArray _=Data.dict es ep:=d;cases d'
  have nsK:∀ {b:Addr} {m:Str->Option Value},s₁.heap.Ns b m->(Ff s₁.heap H).Ns b m:=fun {b m} ⟨o,es,ep,e,d,r⟩=>⟨o,es,ep,base_of e (noA e d),d,r⟩
  have hKb:K.In (Ff s₁.heap H):=fun b o e=>base_of (KX b o e) (by
   cases q:H b with
   | none=>rfl
   | some u =>
     have e':b=a:=hA b (by rw[q];simp);subst e';rw[hK (by rw[q];simp)] at e;cases e)
  have hM:Mod K mg (Ff s₁.heap H):=⟨hKb,nsK hns,⟨mb,nsK hb,hbb⟩,let ⟨mc,h1,h2⟩:=hlim;⟨mc,nsK h1,h2⟩⟩;have e0:Mu P w K mg (Ff s₁.heap H) callerA [] s₁ H:=⟨rfl,hM,fun b o e=>zd0 e,Nat.le_of_eq (A9 _ _),trivial,fun b hb=>absurd (show b∈([]:List Addr) from hb) (by simp),hok,.of_eq hg⟩;refine codeAny_mono ((F _ hKb (nsK hns)).run callerA [] s₁ H ⟨[.ref a],[]⟩ [.ref a] [.ref a] _ _ hr e0 (hbind s₁ (.ref a)) (.cons rfl .nil) (hsp H hO hS)) fun r s' h=>?_;cases r with
  | error e=>exact(hCX H e s' h).elim
  | ok fl =>
    cases fl with
    | next=>exact False.elim h
    | brk=>exact False.elim h
    | cont=>exact False.elim h
    | ret u =>
      obtain⟨v,H',os,bare,un,hok',r',q⟩:=h;have q':v=.bl true:=q;subst q';obtain rfl:u=Value.bool true:=r';refine⟨rfl,OldK.of_keep fun b o e=>?_,os,bare⟩;cases q:H b with
      | none=>exact un.keep b o e q (by intro z;exact absurd (show b∈([]:List Addr) from z) (by simp)) (by simp)
      | some u =>
        rcases hO b with z|⟨ob,xs,z⟩
        ·rw[q] at z;cases z
        ·have z2:=un.frzs b ob _ z;obtain⟨e1,_⟩:=hok b _ z;obtain⟨e2,_⟩:=hok' b _ z2;rw[e] at e1;cases e1;exact e2
 cases hk:K.lookup a with
 | some o =>
   have e:=KX a o hk;rw[ha] at e;cases e;refine core (fun _=>none) (fun _=>.inl rfl) (.inr ⟨_,vs.toArray,_,hk,rfl,rfl,rfl,by rw[zss,lenV];exact hl,by simpa using rv⟩) (fun b u z=>by have z':(none:Option HO)=some u:=z;cases z') (fun b z=>absurd rfl z) fun z=>absurd rfl z
 | none =>
   refine core (fun b=>if b=a then some (.frz { cls:=.type "list",data:=.seq vs.toArray } (.lst (ns.map V.int))) else none) (fun b=>?_) (.inl (.inr ⟨{ cls:=.type "list",data:=.seq vs.toArray },if_pos rfl⟩)) (fun b u z=>?_) (fun b z=>?_) fun _=>hk
   ·by_cases hb:b=a
    ·exact .inr ⟨_,_,if_pos hb⟩
    ·exact .inl (if_neg hb)
   ·by_cases hb:b=a
    ·have z':=(if_pos hb).symm.trans z;cases z';subst hb;exact⟨ha,by rw[zsg];exact hl,vs,_,rv,ha⟩
    ·have z':=(if_neg hb).symm.trans z;cases z'
   ·by_cases hb:b=a
    ·exact hb
    ·exact absurd (if_neg hb) z
theorem zel{l:PySem.W.OpenLaw}{n k:Nat}{q:Program}{loose:List Str}{XP:(Str->Option Value)->Heap->Prop}{YP:World->Heap->Prop}{d:DefRec}{K:Params->Frag}{CX:World->CXT}{sp:World->Sp}{x:Str}
  (hn:l.most=some n) (hn2:n<=sizeLine) (hdf:d.params.defaults=[]) (hr:Wt k callerA)
  (hY:∀ (w:World) (h:Heap),YP w h->(K w.params).In h)
  (F:∀ (w:World) (mg:Str->Option Value) (fa:Addr) (h:Heap),(K w.params).In h->h.Ns mainGlobals mg->mg d.name=some (.ref fa) ->
   ∃ fd:FuncData,(∀ (s:Shared) (u:Value),BindsTo s fd ⟨[u],[]⟩ [(x,u)]) /\
     ∀ base:Heap,(K w.params).In base->base.Ns mainGlobals mg->FnOk l.prog w (K w.params) mg base (CX w) k fa fd [x] (sp w))
  (hsp:∀ (w:World) (H:Hp) (a:Addr) (ns:List Int),ns.length<=n->zgj H->SqL (K w.params) H a (ns.map V.int)->sp w [.ref a] H (fun v _=>v=.bl true) fun _ _ _=>False)
  (hCX:∀ (w:World) (H:Hp) (s:Shared) (e:Value) (s':Shared),CX w [] H s (fun _ _ _=>False) e s'->False) :
  PySem.W.WalkO q loose XP YP l.row.toRowW d [] (fun f vs=>PySem.call f vs):=by
 refine Att.attach_call hn hdf fun w s₀ s₁ mg mb fa o pm cd doc a vs ns G Y ho hd hcd hmg hobj hints hlen hg=>?_;have KX:=hY w _ Y;obtain⟨fd,hb,hF⟩:=F w mg fa _ KX G.T.g hmg;exact zcg KX G.T.g G.T.b G.T.builtins G.T.nolimit hg hobj hints (zs3 hlen hn2) hr hF hb (fun H hO hS=>hsp w H a ns hlen hO hS) fun H e s'=>hCX w H s₁ e s'
def Zz(s:Stmt)(j:Nat):Stmt:=match s with
 | .ClassDef _ _ _ body _ _ _ _ _ _ _=>body.getD j (.Pass ⟨0,0,0,0⟩)
 | _=>.Pass ⟨0,0,0,0⟩
def Tw(s:Stmt):Arguments:=match s with
 | .FunctionDef _ a _ _ _ _ _ _ _ _=>a
 | _=>{ posonlyargs:=[],args:=[],vararg:=none,kwonlyargs:=[],kw_defaults:=[],kwarg:=none,defaults:=[] }
def Z7(s:Stmt):List Stmt:=match s with
 | .FunctionDef _ _ b _ _ _ _ _ _ _=>b
 | _=>[]
def Zj(s:Stmt):Scope:=match s with
 | .FunctionDef _ _ _ _ _ _ sc _ _ _=>sc
 | _=>{ kind:=.function,names:=[],isGenerator:=false,isCoroutine:=false }
abbrev E0:XK:=fun _ _ _=>False
structure Fun(K:Frag)(x qual:Str)(st:Stmt)(f:Addr)(fd:FuncData):Prop where
 ex:∃ (oc:Value) (od:Option Addr) (kV doc pm:Value) (an:Option Addr) (cdv ct:Value) (osl:Array (Option Value)),
  fd=PySem.W.fnOf x qual (Tw st) (Z7 st) (Zj st) .none kV doc pm an cdv ct/\K.lookup f=some ⟨oc,od,.func fd,osl⟩/\PySem.W.codeIn K cdv qual=true
 kp:PySem.W.keepIn K (.ref f)=true
section
variable{P:Program}{w:World}{K:Frag}{mg:Str->Option Value}{base:Heap}
theorem Fun.binds{x qual:Str}{st:Stmt}{f:Addr}{fd:FuncData}{ps:List Str}(F:Fun K x qual st f fd)
  (h:∀ (kV doc pm:Value) (an:Option Addr) (cdv ct:Value) (us:List Value),us.length=ps.length->bindArgs (PySem.W.fnOf x qual (Tw st) (Z7 st) (Zj st) .none kV doc pm an cdv ct) ⟨us,[]⟩=pure (ps.zip us)):Sn K fd ps []:=by
 obtain⟨oc,od,kV,doc,pm,an,cdv,ct,osl,rfl,lk,hcd⟩:=F.ex;exact .all (h kV doc pm an cdv ct)
theorem Pm{x qual:Str}{st:Stmt}{f:Addr}{oc:Value}{od an:Option Addr}{osl:Array (Option Value)}{kV doc pm cdv ct:Value}(l:K.lookup f=some ⟨oc,od,.func (PySem.W.fnOf x qual (Tw st) (Z7 st) (Zj st) .none kV doc pm an cdv ct),osl⟩)
  (c:PySem.W.codeIn K cdv qual=true) (k:PySem.W.keepIn K (.ref f)=true):Fun K x qual st f (PySem.W.fnOf x qual (Tw st) (Z7 st) (Zj st) .none kV doc pm an cdv ct):=⟨⟨oc,od,kV,doc,pm,an,cdv,ct,osl,rfl,l,c⟩,k⟩
end
theorem Wu(hr:Wt k A):A.units+1<cLine:=zt3 (Nat.add_le_add_left (by decide:1<=64) _) hr.units
theorem Qt(h:n<=1000):n<sizeLine:=zt3 h ⋯
section
variable{X:Cx}
theorem pv(i:Nat)(hN:X.N[i]?=some x:=by rfl)(hv:Vis X.env.scope x:=by first|exact Or.inl rfl|exact Or.inr (Or.inl rfl)|exact Or.inr (Or.inr rfl))(hd:(x == ("__debug__":Str))=false:=by decide)
  (hcd:(x == ("__classdict__":Str))=false:=by decide):PE X (.Name x pos) (tVar i):=zfr hN hv hd hcd
theorem zan:V2 X (.builtin "len") (fun xs H Q=>∃ a kvs,xs=[V.ref a]/\H a=some (.dK kvs)/\Q (.int kvs.length) H):=by
 intro pins s σ H xs us Q I r h;obtain⟨a,kvs,rfl,ha,q⟩:=h;obtain⟨u,rfl,ru⟩:=R1 r;cases ru;exact zh6 I (.inl ha) fun t s' I'=>⟨.int kvs.length,H,I',⟨t,rfl⟩,q⟩
end
theorem iteF{A B:Prop}(h:B):if false=true then A else B:=by
 rw[if_neg zsx];exact h
theorem iteT{A B:Prop}(h:A):if true=true then A else B:=by
 rw[if_pos rfl];exact h
theorem E5{c A B:Prop}[Decidable c](h1:c->A)(h2:¬ c->B):if c then A else B:=by
 by_cases h:c
 ·rw[if_pos h];exact h1 h
 ·rw[if_neg h];exact h2 h
def Same(H H':Hp):Prop:=∀ b o,H b=some o->H' b=some o
theorem Same.refl(H:Hp):Same H H:=fun _ _ h=>h
theorem Same.trans(a:Same H H1)(b:Same H1 H2):Same H H2:=fun c o h=>b c o (a c o h)
theorem Same.free(e:Same H H')(h:H' l=Option.none):H l=Option.none:=by
 cases q:H l with
 | none=>rfl
 | some o =>
   rw[e l o q] at h;cases h
theorem Same.seq{K:Frag}{H H':Hp}{a:Addr}{xs:List V}(e:Same H H')(h:SqL K H a xs):SqL K H' a xs:=by
 rcases h with (h|⟨o,h⟩)|h
 ·exact .inl (.inl (e _ _ h))
 ·exact .inl (.inr ⟨o,e _ _ h⟩)
 ·exact .inr h
section
variable{κ:Type}[DecidableEq κ]
theorem Fn:∀ {l:List κ} {k:κ},l.Nodup->¬ k∈l->(l++[k]).Nodup
 | [],k,_,_=>by simp
 | a :: r,k,h,hk=>by
   obtain⟨h1,h2⟩:=zs6.mp h;show (a :: (r++[k])).Nodup;refine zs6.mpr ⟨fun m=>?_,Fn h2 fun m=>hk (zsk.mpr (Or.inr m))⟩;rcases zsv.mp m with q|q
   ·exact h1 q
   ·exact hk (zsk.mpr (Or.inl (zsl.mp q).symm))
theorem zao{p:κ×V}{r:List (κ×V)}{k:κ}(e:p.1=k):Xn (p :: r) k=Xn r k:=by
 unfold Xn;rw[ztz,if_neg (by simp[e])]
theorem zap{p:κ×V}{r:List (κ×V)}{k:κ}(e:¬ p.1=k):Xn (p :: r) k=p :: Xn r k:=by
 unfold Xn;rw[ztz,if_pos (by simp[e])]
end
section
variable{X:Cx}{pins:List (Addr×Obj)}{σ:List (Option V)}{H H':Hp}{s:Shared}{h':Heap}
theorem Inv.stepN{g':Array GenState}{t':Nat}{d':Drawn}{ch:List Addr}(I:Inv X pins σ H s)
  (hch:∀ b∈ch,(b∈X.ex\/X.s₀.heap.get? b=none)/\b≠X.env.locals/\(∀ x c,X.env.cells.lookup x=some c->c≠b)/\∀ p∈X.pn++pins,p.1≠b)
  (keep:∀ b o,b≠X.env.locals->b∉X.fs->b∉ch->s.heap.get? b=some o->H b=none->h'.get? b=some o)
  (slot:∀ b o,b≠X.env.locals->b∈X.fs->b∉ch->s.heap.get? b=some o->H b=none->∃ sl,h'.get? b=some { o with slots:=sl }) (free:∀ b o,b∉ch->s.heap.get? b=some o->H b=none->H' b=none)
  (there:∀ b o,b∉ch->s.heap.get? b=some o->∃ o',h'.get? b=some o')
  (tups:∀ b xs,H b=some (.tup xs)->H' b=some (.tup xs)) (frzs:∀ b o u,H b=some (.frz o u)->H' b=some (.frz o u)) (tbls:∀ b ps,H b=some (.tbl ps)->∃ more,H' b=some (.tbl (ps++more)))
  (ns:∀ m,s.heap.Ns X.env.locals m->h'.Ns X.env.locals m) (hok:HOk X.prog X.w H' h') (hg:AllBare g') :
  Inv X pins σ H' { s with heap:=h',gens:=g',drawn:=d',toks:=t' }:=by
 have neL:∀ b o,X.s₀.heap.get? b=some o->b≠X.env.locals:=fun b o e=>zs9 (zsy (Heap.lt_size e) I.ok.above);have neC:∀ b o,X.s₀.heap.get? b=some o->b∉X.ex->b∉ch:=fun b o e hx hb=>by
  rcases(hch b hb).1 with z|z
  ·exact hx z
  ·rw[z] at e;cases e
 have cellK:∀ x c,X.env.cells.lookup x=some c->∀ v,s.heap.IsCell c v->h'.IsCell c v:=fun x c e v ⟨o,ho,hd⟩=>by
  have nch:c∉ch:=fun z=>(hch c z).2.2.1 x c e rfl;by_cases hc:c∈X.fs
  ·obtain⟨sl,q⟩:=slot c o (I.cne x c e) hc nch ho (I.freeC x c e);exact⟨_,q,hd⟩
  ·exact⟨o,keep c o (I.cne x c e) hc nch ho (I.freeC x c e),hd⟩
 refine⟨I.ok,I.os,hg,⟨fun b o e n hb hx=>?_,fun b o e n hb hx=>?_,fun b o e n hx=>?_,fun b o e hx=>?_,fun b xs e=>tups b xs (I.base.tups b xs e),fun b o xs e=>frzs b o xs (I.base.frzs b o xs e),fun b ps e=>?_⟩,?_,fun x c e=>?_,?_,fun x c e=>?_,fun p hp=>?_,hok,I.len⟩
 ·exact keep b o (neL b o e) hb (neC b o e hx) (I.base.keep b o e n hb hx) (I.base.free b o e n hx)
 ·obtain⟨sl,e1⟩:=I.base.slot b o e n hb hx;obtain⟨sl',e2⟩:=slot b _ (neL b o e) hb (neC b o e hx) e1 (I.base.free b o e n hx);exact⟨sl',e2⟩
 ·obtain⟨o',e1⟩:=I.base.there b o e hx;exact free b o' (neC b o e hx) e1 (I.base.free b o e n hx)
 ·obtain⟨o',e1⟩:=I.base.there b o e hx;exact there b o' (neC b o e hx) e1
 ·obtain⟨m1,e1⟩:=I.base.tbls b ps e;obtain⟨m2,e2⟩:=tbls b _ e1;exact⟨m1++m2,by rw[e2,Array.append_assoc]⟩
 ·obtain⟨m,hn,hl⟩:=I.loc;refine⟨m,ns m hn,fun i x v e1 e2 e3=>?_⟩;obtain⟨u,r,l⟩:=hl i x v e1 e2 e3;refine⟨u,r,?_⟩;rcases l with l|⟨k,c,e,z⟩
  ·exact .inl l
  ·exact .inr ⟨k,c,e,cellK x c e _ z⟩
 ·obtain⟨v,z⟩:=I.cell x c e;exact⟨v,cellK x c e v z⟩
 ·obtain⟨m,⟨o,_,_,ho,_⟩,_⟩:=I.loc;exact free _ o (fun z=>(hch _ z).2.1 rfl) ho I.free
 ·obtain⟨v,o,ho,hd⟩:=I.cell x c e;exact free c o (fun z=>(hch c z).2.2.1 x c e rfl) ho (I.freeC x c e)
 ·obtain⟨e,n,ne,nf,d⟩:=I.pin p hp;have nch:p.1∉ch:=fun z=>(hch p.1 z).2.2.2 p hp rfl;exact⟨keep p.1 p.2 ne nf nch e n,free p.1 p.2 nch e n,ne,nf,d⟩
theorem Inv.callN{g':Array GenState}{t':Nat}{d':Drawn}{ch:List Addr}(I:Inv X pins σ H s)(u:Un (frs X.stack) ch H H' s.heap h')(hok:HOk X.prog X.w H' h')(hg:AllBare g')
  (hch:∀ b∈ch,(b∈X.ex\/X.s₀.heap.get? b=none)/\b≠X.env.locals/\(∀ x c,X.env.cells.lookup x=some c->c≠b)/\∀ p∈X.pn++pins,p.1≠b) :
  Inv X pins σ H' { s with heap:=h',gens:=g',drawn:=d',toks:=t' }:=by
 obtain⟨m,⟨o,es,ep,ho,r⟩,_⟩:=id I.loc;obtain⟨sl,hL⟩:=u.any ho I.free fun z=>(hch _ z).2.1 rfl;exact I.stepN (ch:=ch) hch (fun b o hL hb hc e n=>u.keep b o e n (fun z=>(zsk.mp (I.stkSub b z)).elim hL hb) hc) (fun b o _ _ hc e n=>u.any e n hc) (fun b o hc e n=>u.free b o e n hc) (fun b o hc e=>u.there b o e hc) u.tups u.frzs u.tbls (fun m' hm=>by
  obtain⟨o',es',ep',ho',r'⟩:=hm;rw[ho] at ho';cases ho';exact⟨_,es',ep',hL,r'⟩) hok hg
theorem Inv.callN'(I:Inv X pins σ H s)(ho:s'.os=s.os)(u:Un (frs X.stack) ch H H' s.heap s'.heap)(hok:HOk X.prog X.w H' s'.heap)(hg:AllBare s'.gens)
  (hch:∀ b∈ch,(b∈X.ex\/X.s₀.heap.get? b=none)/\b≠X.env.locals/\(∀ x c,X.env.cells.lookup x=some c->c≠b)/\∀ p∈X.pn++pins,p.1≠b):Inv X pins σ H' s':=by
 obtain⟨h',g',d',t',o'⟩:=s';have e:o'=s.os:=ho;subst e;exact I.callN (g':=g') (t':=t') (d':=d') u hok hg hch
end
section
variable{P:Program}{w:World}{H H':Hp}{h h' g:Heap}{a:Addr}{o:HO}
theorem Yp.there(x:Yp P w H h a o):∃ ob,h.get? a=some ob:=by
 cases o with
 | lst xs=>obtain⟨_,_,_,_,e⟩:=x;exact⟨_,e⟩
 | tup xs=>obtain⟨_,_,_,ob,e,_⟩:=x;exact⟨_,e⟩
 | dK kvs=>obtain⟨_,_,_,_,o,_,_,e,_⟩:=x;exact⟨_,e⟩
 | dT kvs=>obtain⟨_,_,_,_,o,_,_,e,_⟩:=x;exact⟨_,e⟩
 | set S n=>obtain⟨o,_,_,_,e,_⟩:=x;exact⟨_,e⟩
 | ins C dx fs=>obtain⟨_,_,_,e,_⟩:=x;exact⟨_,e⟩
 | own y=>obtain⟨_,e⟩:=x;exact⟨_,e⟩
 | xd fs=>obtain⟨_,⟨_,_,_,e,_⟩,_⟩:=x;exact⟨_,e⟩
 | rng lo hi=>obtain⟨_,_,_,e⟩:=x;exact⟨_,e⟩
 | frz ob u=>obtain⟨e,_⟩:=x;exact⟨_,e⟩
 | tbl ps=>exact⟨_,(show h.get? a=some _ from x)⟩
 | met f y=>exact⟨_,(show h.get? a=some _ from x)⟩
 | ext φ=>obtain⟨_,⟨_,e⟩,_⟩:=x;exact⟨_,e⟩
theorem HOk.none_of(x:HOk P w H h)(e:h.get? a=none):H a=none:=by
 cases q:H a with
 | none=>rfl
 | some u =>
   obtain⟨_,z⟩:=(x a u q).there;rw[e] at z;cases z
theorem E6(e:(PySem.W.hideAll h as).get? a=none):h.get? a=none\/a∈as:=by
 by_cases m:a∈as
 ·exact .inr m
 ·cases q:h.get? a with
  | none=>exact .inl rfl
  | some o=>rw[PySem.W.hideAll_get as q m] at e;cases e
end
structure Fly(g:Heap)(H:Hp)(h:Heap)(e T:Addr)(cls:Value):Prop where
 ex:∃ oe vs oT ts,h.get? e=some oe/\oe.cls=cls/\oe.data=.fields vs/\vs[1]?=some (.ref T)/\T≠e/\h.get? T=some oT/\oT.data=.fields ts/\ts[3]?=some .none
 newE:g.get? e=none
 newT:g.get? T=none
 freeE:H e=none
 freeT:H T=none
def CX1(P:Program)(w:World):CXT:=fun outer H s E e s'=>∃ a T cls H',e=.ref a/\s'.os=s.os/\AllBare s'.gens/\Un (frs outer) [] H H' s.heap s'.heap/\HOk P w H' s'.heap/\Fly s.heap H' s'.heap a T cls/\E cls none H'
section
variable{X:Cx}{pins:List (Addr×Obj)}{σ:St}{H H':Hp}{s s':Shared}{h':Heap}{e T:Addr}{cls:Value}
structure U5(X:Cx)(ch:List Addr)(h h':Heap):Prop where
 keep:∀ b o,h.get? b=some o->b∉ch->b∉frs X.stack->h'.get? b=some o
 slot:∀ b o,h.get? b=some o->b∉ch->b∈frs X.stack->∃ sl,h'.get? b=some { o with slots:=sl }
theorem U5.of(I:Inv X pins σ H s)(st:(PySem.W.hideAll s.heap (as++frs X.stack)).StaysIn h')(up:s.heap.UpToSlots h'):U5 X as s.heap h' where
 keep:=fun b o q n1 n2=>st b o (PySem.W.hideAll_get _ q (by simp[n1,n2]))
 slot:=fun b o q _ m=>by
  obtain⟨_,o',ho,nf⟩:=I.stack.mem m;rw[q] at ho;cases ho;exact up b o q nf
theorem U5.un(I:Inv X pins σ H s)(t:U5 X ch s.heap h')(hch:∀ b∈ch,H b=none):Un (frs X.stack) ch H H s.heap h' where
 keep:=fun b o q n hf hc=>t.keep b o q hc hf
 slot:=fun b o q n hf hc=>t.slot b o q hc hf
 free:=fun _ _ _ n _=>n
 there:=fun b o q hc=>by
  by_cases m:b∈frs X.stack
  ·obtain⟨_,z⟩:=t.slot b o q hc m;exact⟨_,z⟩
  ·exact⟨o,t.keep b o q hc m⟩
 tups:=fun _ _ q=>q
 frzs:=fun _ _ _ q=>q
 tbls:=fun b ps q=>⟨#[],by rw[q];simp⟩
theorem U5.hok(I:Inv X pins σ H s)(t:U5 X ch s.heap h')(hch:∀ b∈ch,H b=none):HOk X.prog X.w H h':=fun b u q=>by
 have tr:∀ c v,H c=some v->c∉ch/\c∉frs X.stack:=fun c v z=>⟨(fun m=>by rw[hch c m] at z;cases z),(fun m=>by rw[I.stkFree c m] at z;cases z)⟩
 refine(I.hok b u q).stay (fun c v hc r=>?_) (fun _ z=>z) fun _ _ z=>z;rcases hc with z|z
 ·subst z;exact t.keep c v r (tr c u q).1 (tr c u q).2
 ·exact t.keep c v r (tr c _ z).1 (tr c _ z).2
theorem Inv.newRec(I:Inv X pins σ H s)(hx:X.ex=[])(n:s.heap.get? b=none):(b∈X.ex\/X.s₀.heap.get? b=none)/\b≠X.env.locals/\(∀ x c,X.env.cells.lookup x=some c->c≠b)/\∀ p∈X.pn++pins,p.1≠b:=by
 refine⟨.inr ?_,?_,?_,?_⟩
 ·cases q:X.s₀.heap.get? b with
  | none=>rfl
  | some o =>
    obtain⟨_,z⟩:=I.base.there b o q (by rw[hx];simp);rw[n] at z;cases z
 ·rintro rfl;obtain⟨m,⟨o,_,_,ho,_⟩,_⟩:=I.loc;rw[n] at ho;cases ho
 ·rintro x c hc rfl;obtain⟨v,o,ho,_⟩:=I.cell x c hc;rw[n] at ho;cases ho
 ·rintro p hp rfl;obtain⟨z,_⟩:=I.pin p hp;rw[n] at z;cases z
theorem Inv.raised(I:Inv X pins σ H s)(ho:s'.os=s.os)(hg:AllBare s'.gens)(u:Un (frs X.stack) [] H H' s.heap s'.heap)(hok:HOk X.prog X.w H' s'.heap):Inv X pins σ H' s' :=
 I.call' ho u hok hg (fun _ z=>nomatch z)
theorem Fly.flying(J:Inv X pins σ H s)(hl:s.heap.FunFrames X.base l)(hsub:∀ b∈frs l,b∈frs X.stack)(F:Fly g H s.heap e T cls) :
  ∃ a0,Heap.FlyingW (PySem.W.hideAll s.heap ([e,T]++frs X.stack)) l e cls a0 s.heap:=by
 obtain⟨oe,vs,oT,ts,e1,e2,e3,e4,e5,e6,e7,e8⟩:=F.ex;have sz:0<vs.size:=zt3 (zs1 _) (Array.getElem?_eq_some_iff.mp e4).1;refine⟨vs[0],fun b o q=>PySem.W.of_hideAll _ q,PySem.W.hideAll_none _ (by simp),PySem.W.funFrames_hide hl fun env he a ha=>?_,oe,vs,T,oT,ts,e1,⟨e2,?_⟩,e3,e4,PySem.W.hideAll_none _ (by simp),e5,e6,e7,e8⟩
 ·have:a∈frs l:=zun.mpr ⟨env,he,ha⟩;simp[hsub a this]
 ·exact Array.getElem?_eq_getElem sz
theorem Fly.again(J:Inv X pins σ H s)(F:Fly g H s.heap e T cls)(hg:∀ b,s.heap.get? b=none->g.get? b=none)
  (up:s.heap.UpToSlots h') (st:(PySem.W.hideAll s.heap ([e,T]++frs X.stack)).StaysIn h') (tr:h'.TracedW (PySem.W.hideAll s.heap ([e,T]++frs X.stack)) e cls a0):∃ T',Fly g H h' e T' cls:=by
 obtain⟨oe,vs,T',oT,ts,f1,⟨f2,_⟩,f3,f4,f5,f6,f7,f8,f9⟩:=tr;refine⟨T',⟨oe,vs,oT,ts,f1,f2,f3,f4,f6,f7,f8,f9⟩,F.newE,?_,F.freeE,?_⟩
 all_goals
  rcases E6 f5 with z|z
  ·first
    | exact hg _ z
    | exact J.hok.none_of z
  ·simp only[zsv,zsk,zth,or_false] at z;rcases z with (z|z)|z
   ·exact absurd z f6
   ·subst z
    first
     | exact F.newT
     | exact F.freeT
   ·obtain⟨_,o,ho,nf⟩:=J.stack.mem z;obtain⟨sl,q⟩:=up T' o ho nf;rw[f7] at q;cases q;exact absurd f8 (nf _)
end
section
variable{P:Program}{w:World}{K:Frag}{mg:Str->Option Value}{base:Heap}{N:List Str}{qual:Str}{scope:Scope}{f:Addr}{cd:Value}{A:Around}{outer:List Env}{s0:Shared}{H0:Hp}{E:XK}
 {pins:List (Addr×Obj)} {σ:St} {H H':Hp} {s s':Shared} {h':Heap} {e T:Addr} {cls:Value}
theorem E7(hx:X.ex=[])(J:Inv X pins σ H s)(hst:X.stack=X.env :: X.outer)(hf:X.env.frame=some X.env.locals)(t:U5 X ch s.heap h')(hch:∀ b∈ch,X.s₀.heap.get? b=none) :
  Un X.fs [] X.H₀ H X.s₀.heap h':=by
 have nb:∀ b o,X.s₀.heap.get? b=some o->b∉ch:=fun b o q m=>by rw[hch b m] at q;cases q
 have mem:∀ b,b∈frs X.stack↔b=X.env.locals\/b∈X.fs:=fun b=>by
  unfold Cx.fs frs;rw[hst,zuk,hf];exact zsk
 have neL:∀ b o,X.s₀.heap.get? b=some o->b≠X.env.locals:=fun b o q=>zs9 (zsy (Heap.lt_size q) J.ok.above);have nx:∀ b:Addr,b∉X.ex:=fun b=>by rw[hx];simp
 refine⟨fun b o q n hb _=>?_,fun b o q n hb _=>?_,fun b o q n _=>J.base.free b o q n (nx b),fun b o q _=>?_,J.base.tups,J.base.frzs,J.base.tbls⟩
 ·refine t.keep b o (J.base.keep b o q n hb (nx b)) (nb b o q) fun m=>?_;exact((mem b).mp m).elim (neL b o q) hb
 ·obtain⟨sl,z⟩:=J.base.slot b o q n hb (nx b);obtain⟨sl',z'⟩:=t.slot b _ z (nb b o q) ((mem b).mpr (.inr hb));exact⟨sl',z'⟩
 ·obtain⟨o',z⟩:=J.base.there b o q (nx b);by_cases m:b∈frs X.stack
  ·obtain⟨_,z'⟩:=t.slot b o' z (nb b o q) m;exact⟨_,z'⟩
  ·exact⟨o',t.keep b o' z (nb b o q) m⟩
theorem Zk:Wo (CX1 P w) (cxOf (CX1 P w) P w K mg base N qual scope f cd A outer s0 H0 E) E:=by
 intro pins σ H s ev s' I h;obtain⟨a,T,cls,H',q0,ho,hg,u,hok,F,hE⟩:=h;subst q0;have J:=I.raised ho hg u hok;obtain⟨a0,hfl⟩:=F.flying J J.stack (fun _ z=>z);refine wpAny_leaves_onW (base:=PySem.W.hideAll s'.heap ([a,T]++frs _)) J.ok.frames rfl hfl fun h2 hfl2 up=>?_;have old:∀ b,s.heap.get? b=none->s0.heap.get? b=none:=fun b n=>by
  cases q:s0.heap.get? b with
  | none=>rfl
  | some o =>
    obtain⟨_,z⟩:=I.base.there b o q (by show b∉([]:List Addr);simp);rw[n] at z;cases z
 have old2:∀ b,s'.heap.get? b=none->s0.heap.get? b=none:=fun b n=>by
  cases q:s0.heap.get? b with
  | none=>rfl
  | some o =>
    obtain⟨_,z⟩:=J.base.there b o q (by show b∉([]:List Addr);simp);rw[n] at z;cases z
 have t:=U5.of (as:=[a,T]) J hfl2.1 up;have F0:Fly s0.heap H' s'.heap a T cls:=⟨F.ex,old _ F.newE,old _ F.newT,F.freeE,F.freeT⟩;obtain⟨T',F'⟩:=F0.again J old2 up hfl2.1 hfl2.2.2.2;refine⟨a,T',cls,H',rfl,J.os,J.bare,E7 rfl J rfl rfl t ?_,t.hok J ?_,F',hE⟩
 ·intro b hb;rcases zsk.mp hb with rfl|hb
  ·exact F0.newE
  ·rcases zsk.mp hb with rfl|hb
   ·exact F0.newT
   ·cases hb
 ·intro b hb;rcases zsk.mp hb with rfl|hb
  ·exact F.freeE
  ·rcases zsk.mp hb with rfl|hb
   ·exact F.freeT
   ·cases hb
def zff(X:Cx)(E:XK):Prop:=∀ (pins:List (Addr×Obj)) (σ:St) (H:Hp) (s:Shared) (h':Heap) (e C:Addr) (args:List Value),Inv X pins σ H s->Heap.MadeExcOf s.heap h' e (.ref C) args->E (.ref C) none H->X.xe (.ref e) { s with heap:=h' }
theorem Y7:zff (cxOf (CX1 P w) P w K mg base N qual scope f cd A outer s0 H0 E) E:=by
 intro pins σ H s h1 e C args I hm hE;refine wpAny_leaves_madeW (base:=PySem.W.hideAll s.heap ([]++frs _)) (h:=s.heap) I.ok.frames rfl (fun b o q=>PySem.W.of_hideAll _ q)
  (PySem.W.funFrames_hide I.stack fun env he a ha=>by
   have:a∈frs _:=zun.mpr ⟨env,he,ha⟩
   simpa using this) hm fun h2 t hfl _ _ up=>?_
 have up2:s.heap.UpToSlots h2:=(Heap.UpToSlots.of_keeps hm.keeps).trans up;have tt:=U5.of (as:=[]) I hfl.1 up2;have old2:∀ b,s.heap.get? b=none->s0.heap.get? b=none:=fun b n=>by
  cases q:s0.heap.get? b with
  | none=>rfl
  | some o =>
    obtain⟨_,z⟩:=I.base.there b o q (by show b∉([]:List Addr);simp);rw[n] at z;cases z
 obtain⟨oe,vs,T',oT,ts,f1,⟨f2,_⟩,f3,f4,f5,f6,f7,f8,f9⟩:=hfl.2.2.2;have nT:s.heap.get? T'=none:=by
  rcases E6 f5 with z|z
  ·exact z
  ·have z':T'∈frs (cxOf (CX1 P w) P w K mg base N qual scope f cd A outer s0 H0 E).stack:=(zsv.mp z).resolve_left (by simp);obtain⟨_,o,ho,nf⟩:=I.stack.mem z';obtain⟨sl,q⟩:=up2 T' o ho nf;rw[f7] at q;cases q;exact absurd f8 (nf _)
 refine⟨e,T',.ref C,H,rfl,I.os,I.bare,E7 rfl I rfl rfl tt (fun _ z=>nomatch z),tt.hok I (fun _ z=>nomatch z),⟨⟨oe,vs,oT,ts,f1,f2,f3,f4,f6,f7,f8,f9⟩,old2 _ hm.new,old2 _ nT,I.hok.none_of hm.new,I.hok.none_of nT⟩,hE⟩
end
structure R6(K:Frag)(mg:Str->Option Value)(x:Str)(C:Addr):Prop where
 nm:mg x=some (.ref C)
 ex:PySem.W.excIn K C [.type "ValueError",.type "Exception",.type "BaseException",.type "object"] "ValueError.__new__"=true
theorem R6.own{K:Frag}{mg:Str->Option Value}{x:Str}{C:Addr}{h:Heap}(c:R6 K mg x C)(X:K.In h):OwnCls x C [.type "ValueError",.type "Exception",.type "BaseException",.type "object"] "ValueError.__new__" mg h:=by
 refine⟨c.nm,?_⟩;have q:=c.ex;unfold PySem.W.excIn at q;split at q
 ·rename_i dd cd sl ho;split at q
  ·rename_i C' bm k0 k1 k2 k3 n k5 hm hs;simp only[zua,beq_iff_eq,Bool.not_eq_true'] at q;obtain⟨⟨⟨⟨⟨rfl,rfl⟩,hdel⟩,ht⟩,hok⟩,hni⟩:=q;obtain⟨nm,bs,mro,ns,qn,hd,sn,sub,ab,col,del⟩:=cd;dsimp only at hm hdel hok hni;subst hm hdel;have hsl:sl=#[k0,k1,k2,k3,some (.builtin "ValueError.__new__"),k5]:=by
    obtain⟨l⟩:=sl;simp only at hs;rw[hs]
   subst hsl;exact⟨bm,ns,nm,qn,bs,hd,sn,sub,ab,col,dd,k0,k1,k2,k3,k5,_,X _ _ ho,.of_isNs (PySem.W.isNs_of_in X hok),PySem.W.nsMap_none_of_in X hok hni,PySem.W.tail_of_in X ht⟩
  ·cases q
 ·cases q
inductive zem(C:Addr)(E:XK)(vs:List V)(H1:Hp):Prop where
 | mk(_:vs.length<=sizeLine)(_:E (.ref C) none H1)
def zgk(C:Addr)(E:XK)(t:TA):TS:=fun _ σ H=>t σ H fun vs H1=>zem C E vs H1
theorem Y8{X:Cx}{x:Str}{C:Addr}{E:XK}{e₀:Expr}{rest:List Expr}{t:TA}{np cpos pos:Pos}(hl:zff X E)(hc:X.calm=true)(c:R6 X.K X.mg x C)(hg:Gl X x)(ha:PA X (e₀ :: rest) t)
  (he:starEach (e₀ :: rest) X.env=(false,eval e₀ X.env) :: starEach rest X.env:=by rfl) (hplain:(backTo cpos (starEach rest X.env)).any (·.1)=false:=by rfl) (hd:(x == ("__debug__":Str))=false:=by decide) :
  PS X (.Raise (some (.Call (.Name x np) (e₀ :: rest) [] cpos)) none pos) (zgk C E t):=by
 intro pins s σ H D I h;have O:=c.own I.mod.kin;obtain⟨tl,N,nm,q,bs,hdct,sn,sub,ab,col,dd,k0,k1,k2,k3,k5,mN,hC,hN,hni,T⟩:=O.obj;refine wpAny_Raise_call_subT (C:=C) (nm:=nm) (q:=q) (N:=N) (bs:=bs) (bm:=tl) (hdct:=hdct) (sn:=sn) (sub:=sub) (ab:=ab) (col:=col) (dd:=dd) (k0:=k0) (k1:=k1) (k2:=k2) (k3:=k3) (k5:=k5)
  PySem.F.excBase_ValueError (mN:=mN) (T.hasType (by rfl)) (I.ok.hd hc) (by rw[he];show (false||(backTo cpos (starEach rest X.env)).any (·.1))=false;rw[hplain];rfl) hni (Qq I hg c.nm ⟨rfl,?_⟩ hd)
 have hp:=ha cpos pins s σ H _ I h;rw[he] at hp ⊢;refine Calls.evalArgs_plain (wpAny_mono hp (fun us s2 h2=>?_) fun _ _ y=>y);obtain⟨vs,H1,I1,r,hlen,hE⟩:=h2;exact⟨rfl,by rw[<- r.length];exact hlen,I1.bk _ _ hC,hN.keeps I1.bk,T.keeps I1.bk,fun h' e hm=>hl _ _ _ _ _ _ _ _ I1 hm hE⟩
structure zch(K:Frag)(CB:Addr):Prop where
 ty:PySem.W.typeIn K (.ref CB)=some (.type "type")
 cl:(PySem.W.clsIn K CB).isSome=true
 bx:PySem.W.mroIn K CB (.type "BaseException")=some true
theorem E8{K:Frag}{M:Model}{A:Around}{E:Value->Shared->Prop}{s:Shared}{e C CB:Addr}{b:Bool}{oe:Obj}{Q:Bool->Shared->Prop}(X:K.In s.heap)(c:zch K CB)
  (he:s.heap.get? e=some oe) (hcls:oe.cls=.ref C) (hm:PySem.W.mroIn K C (.ref CB)=some b) (h:Q b s):wpAny M A (excMatches (.ref e) (.ref CB)) Q E s:=by
 obtain⟨hp,g,d,tk,os⟩:=s;have L1:=PySem.W.looks_typeIn (M:=M) X c.ty;have L2:=PySem.W.looks_mroIn (M:=M) X c.bx;have L3:=PySem.W.looks_mroIn (M:=M) X hm;have L0:PySem.W.Looks M hp (typeOf (.ref e)) (.ref C):=hcls▸(PySem.W.Looks.ld he).andThen .now;have L4:PySem.W.Looks M hp (isType (.ref CB)) true:=by
  have z:=c.cl;unfold PySem.W.clsIn at z;split at z
  ·rename_i c' d' cd' sl' ho;intro A' Q' E' s' k q;unfold isType loadHead;exact wpAny_bind (wpAny_loadPart (k _ _ (X _ _ ho)) (wpAny_pure q))
  ·cases z
 unfold excMatches isInstance isExcClass;refine wpAny_bind (wpAny_bind (L1.at (wpAny_of_eq tc_notTuple ?_)));simp only[ztt,if_false,List.forIn_cons,List.forIn_nil];refine wpAny_bind (wpAny_pure (wpAny_bind ?_));simp only[List.forIn_cons,List.forIn_nil];refine wpAny_bind (wpAny_bind (wpAny_bind (L4.at ?_)));simp only[if_true];refine L2.at ?_;simp only[Bool.not_true,ztt,if_false];refine wpAny_pure (wpAny_pure (wpAny_bind (L0.at (wpAny_bind (wpAny_bind (wpAny_bind (L3.at ?_)))))));cases b with
 | true=>simp only[if_true];exact wpAny_pure (wpAny_pure (wpAny_pure h))
 | false=>simp only[ztt,if_false];exact wpAny_pure (wpAny_pure (wpAny_pure h))
end L2
namespace L2
open PySem PySem.Spec PyProof.Rows PySem.W PySem.Calls PySem.Builtin PySem.Builtin.ObjectAttr PySem.Builtin.Getset_descriptor
def excO(a:Addr)(cls:Value):HO:=.ext fun h=>∃ o vs,h.get? a=some o/\o.cls=cls/\o.data=.fields vs
structure Fo(K:Frag)(D:Addr):Prop where
 ga:findIn K (.ref D) "__getattribute__"=some (some (.builtin "BaseException.__getattribute__"))
 gk:findIn K (.ref D) "__getattr__"=some none
 cl:(clsIn K D).isSome=true
 at_:findIn K (.ref D) "__class__"=some (some (.builtin "object.__class__"))
 gt:specialIn K (.builtin "object.__class__") "__get__"=some (some (.builtin "getset_descriptor.__get__"))
 tk:takesIn K (.builtin "object.__class__")=some true
 mo:mroIn K D (.type "object")=some true
 mx:mroIn K D (.type "BaseException")=some true
section
variable{prog:Program}{w:World}{A:Around}{E:Value->Shared->Prop}{s:Shared}{K:Frag}{x D:Addr}
theorem zci(X:K.In h)(c:Fo K D):Looks M h (find (.ref x) (.ref D) "__class__") (.bind (.builtin "getset_descriptor.__get__") (.builtin "object.__class__")):=by
 have L1:=looks_findIn (M:=M) X c.at_;have L2:Looks M h (getOf (some (.builtin "object.__class__"))) (some (.builtin "getset_descriptor.__get__")):=looks_specialIn X c.gt;have L3:=looks_takesIn (M:=M) X c.tk;exact L1.andThen (L2.andThen ((show Looks M h (dataDescriptor? (some (.builtin "object.__class__")) (some (.builtin "getset_descriptor.__get__"))) (some (.builtin "getset_descriptor.__get__",.builtin "object.__class__")) from L3.andThen .now).andThen (Looks.tag .now)))
theorem Bg(X:K.In s.heap)(hx:s.heap.get? x=some o)(hc:o.cls=.ref D)(c:Fo K D)(q:R (.ok (.ret (.ref D))) s) :
  codeAny (model prog w) A (.call (.builtin "getset_descriptor.__get__") ⟨[.builtin "object.__class__",.ref x,.ref D],[]⟩) R s:=by
 obtain⟨hh,g,d,t,os⟩:=s;have L0:Looks (model prog w) hh (typeOf (.ref x)) (.ref D):=hc▸(Looks.ld hx).andThen .now;have Lm:=looks_mroIn (M:=model prog w) X c.mo;refine codeAny_call_builtin KF.slot_gs.plain KF.entry_gs (KF.slot_gs.check _ _ _ _ _ _ _ _ KF.type_class (KF.args_gs _ _ _) ?_);unfold Builtin.«getset_descriptor.__get__» descrGet;rw[dga_obj];refine wpAny_bind (wpAny_pure ?_);unfold descrGetter descrCheckInstance descrNameAndClass isInstance;simp only[KF.owner_class]
 repeat lk
 refine⟨Code.quiet_builtin _ ⋯,codeAny_builtin KF.entry_class ?_⟩;unfold Builtin.«object.__class__» shownTypeOf
 repeat lk
 exact q
theorem zgl(X:K.In s.heap)(hx:s.heap.get? x=some o)(hc:o.cls=.ref D)(c:Fo K D)(q:Q (.done (.ret (.ref D))) s) :
  wpAny (model prog w) A (Builtin.«object.__getattribute__» ⟨[.ref x,.str "__class__" tk],[]⟩) Q E s:=by
 have L0:Looks (model prog w) s.heap (typeOf (.ref x)) (.ref D):=hc▸(Looks.ld hx).andThen .now;have Lf:=zci (x:=x) (M:=model prog w) X c;have e1:slotArgs "__getattribute__" 1 ⟨[.ref x,.str "__class__" tk],[]⟩=pure (.ref x,[.str "__class__" tk]):=rfl;unfold Builtin.«object.__getattribute__»;rw[e1];refine wpAny_bind (wpAny_pure ?_);refine wpAny_bind (show wpAny _ _ (attrName (.str "__class__" tk)) _ _ _ from wpAny_pure ?_);obtain⟨hh,g,d,t,os⟩:=s;refine wpAny_bind (L0.at (wpAny_bind (Lf.at ?_)));show wpAny _ _ (bindTo _ _ _ _) _ _ _;unfold bindTo;dsimp only;refine wpAny_bind (wpAny_holding (wpAny_call (Bg X hx hc c ?_)));exact wpAny_pure q
theorem Jv(X:K.In s.heap)(hx:s.heap.get? x=some o)(hc:o.cls=.ref D)(c:Fo K D)(q:Q (some (.ref D)) { s with toks:=s.toks+1 }) :
  wpAny (model prog w) A (getAttr? (.ref x) "__class__") Q E s:=by
 obtain⟨hh,g,d,t,os⟩:=s;have L0:Looks (model prog w) hh (typeOf (.ref x)) (.ref D):=hc▸(Looks.ld hx).andThen .now;have La:=looks_findIn (M:=model prog w) X c.ga;have Lk:=looks_findIn (M:=model prog w) X c.gk;have Lx:=looks_mroIn (M:=model prog w) X c.mx;have hb:=PySem.F.attr_ValueError.ga.bind (.ref x);have hne0:(Value.builtin "BaseException.__getattribute__" == Value.builtin "object.__getattribute__")=false:=by decide +kernel
 have hne:(onTheHeap (Value.ref D)&&Value.builtin "BaseException.__getattribute__" == Value.builtin "object.__getattribute__")=false:=by rw[hne0];rfl
 unfold getAttr? getAttrBy? getAttrBy;refine wpAny_bind (wpAny_mkText (wpAny_bind (wpAny_attempt (wpAny_holding (wpAny_bind (L0.at (wpAny_bind (La.at ?_))))))));dsimp only;rw[if_neg (by rw[hne];decide)];unfold getAttrByItsOwn;refine wpAny_bind (show wpAny _ _ (typeLookup (.ref D) "__getattr__") _ _ _ from Lk.at ?_);refine wpAny_bind (wpAny_attempt (wpAny_holding ?_));show wpAny _ _ (boundAndCalled _ _ _) _ _ _;unfold boundAndCalled;rw[hb];refine wpAny_bind (wpAny_pure (wpAny_call ?_));refine codeAny_call_builtin PySem.F.attr_ValueError.ga.plain PySem.F.entry_bexc_ga ?_;have hk:builtinKind "BaseException.__getattribute__"=some .slot:=by decide +kernel
 have hsplit:splitId "BaseException.__getattribute__"=some ("BaseException","__getattribute__"):=by decide +kernel
 have ha:=PySem.F.args_bexc_ga (.ref x) (.str "__class__" t);simp only[checkBuiltinCall,hk,hsplit,List.cons_append,List.nil_append];unfold isInstance
 repeat (first|with_reducible refine zgl X hx hc c ?_|lk)
 exact q
theorem zcj(c:Fo K D):KitX K (.ref x) (.ref D) (fun h=>∃ o,h.get? x=some o/\o.cls=.ref D) where
 ty:=fun M h _ p=>by obtain⟨o,hx,hc⟩:=p;exact hc▸(Looks.ld hx).andThen .now
 it:=fun _ _ X _=>by
  have z:=c.cl;unfold clsIn at z;split at z
  ·rename_i ho;intro A' Q' E' s' k q;unfold isType loadHead;exact wpAny_bind (wpAny_loadPart (k _ _ (X _ _ ho)) (wpAny_pure q))
  ·cases z
 ne:=fun h tp dd its n sl X htp=>by
  refine Bool.eq_false_iff.mpr fun q=>?_;have e:D=tp:=Value.ref.inj (beq_iff_eq.mp q);subst e;have z:=c.cl;unfold clsIn at z;split at z
  ·rename_i ho;have z:=(X _ _ ho).symm.trans htp;cases z
  ·cases z
 ca:=fun X p q=>by obtain⟨o,hx,hc⟩:=p;exact Jv X hx hc c q
end
inductive TyX(K:Frag)(H:Hp)(x:V)(t:Value):Prop where
 | of (h:Nh K H x t):TyX K H x t
 | exc {a D:Addr} (ex:x=.ref a) (et:t=.ref D) (h:H a=some (excO a (.ref D))) (c:Fo K D):TyX K H x t
def zif:V->Value
 | .ty n=>.type n
 | .ref a=>.ref a
 | _=>.none
inductive rIsI(K:Frag)(xs:List V)(H:Hp)(Q:VK):Prop where
 | mk(x)(c)(t)(b)(_:xs=[x,c])(_:TyX K H x t)(_:((∃ n,c=.ty n)\/∃ a,c=.ref a))(_:kitOne K t (zif c)=some b)(_:Q (.bl b) H)
theorem zck:V2 X (.builtin "isinstance") (rIsI X.K):=by
 intro pins s σ H xs us Q I r h;obtain⟨x,c,t,b,rfl,ty,hc,hk,q⟩:=h;obtain⟨u,w',rfl,r1,r2⟩:=zby r;have e:w'=zif c:=by
  rcases hc with ⟨n,rfl⟩|⟨a,rfl⟩
  ·exact r2
  ·exact r2
 subst e;cases ty with
 | of ty=>exact zaf I r1 ty hk fun tk=>⟨.bl b,H,I.tok tk,rfl,q⟩
 | @exc a D ex et ha cl =>
   subst ex et;cases (show u=Value.ref a from r1);obtain⟨⟨o,vs,ho,hcl,_⟩,_⟩:=(show Yp X.prog X.w H s.heap a (excO a (.ref D)) from I.hok a _ ha);exact kia_one (zcj cl) I.kIn ⟨o,ho,hcl⟩ hk (fun z=>nomatch z) fun tk=>⟨.bl b,H,I.tok tk,rfl,q⟩
section
variable{X:Cx}{pins:List (Addr×Obj)}{σ:St}{H:Hp}{s:Shared}
theorem Qu(I:Inv X pins σ H s)(hN:X.N.Nodup)(hi:X.N[i]?=some x)(hk:X.env.scope.names.lookup x=some .local)(hlk:∀ v,X.lk[i]?≠some (some v))
  (h:∀ s',Inv X pins (σ.set i none) H s'->Q () s'):wpAny M A (do bindName X.env x .none;unbindBehindTheSuite X.env x pos) Q E s:=by
 obtain⟨m,hn,hl⟩:=id I.loc;have hcls:(X.env.scope.kind == .class||(X.env.scope.kind == .module&&X.env.locals != X.env.globals))=false:=by rw[I.ok.kind];rfl
 have hiσ:i<σ.length:=by rw[I.len];exact(zsj.mp hi).1
 have cne:=I.cne;refine wpAny_nameGoes_keeps hk hn hcls fun h' v hn' hs=>?_;obtain⟨oL,_,_,hoL,_⟩:=id hn;have ne0:∀ b o,X.s₀.heap.get? b=some o->b≠X.env.locals:=fun b o q=>zs9 (zsy (Heap.lt_size q) I.ok.above);refine h _ ⟨I.ok,I.os,I.bare,⟨fun b o q n hb hx=>(hs.2 b (ne0 b o q)).trans (I.base.keep b o q n hb hx),fun b o q n hb hx=>?_,I.base.free,fun b o q hx=>?_,I.base.tups,I.base.frzs,I.base.tbls⟩,
  ⟨_,hn',fun j y v' e1 e2 e3=>?_⟩,fun y c e=>?_,I.free,I.freeC,fun p hp=>?_,fun b ob e=>?_,by simpa using I.len⟩
 ·obtain⟨sl,e1⟩:=I.base.slot b o q n hb hx;exact⟨sl,(hs.2 b (ne0 b o q)).trans e1⟩
 ·obtain⟨o',e1⟩:=I.base.there b o q hx;exact⟨o',(hs.2 b (ne0 b o q)).trans e1⟩
 ·by_cases hj:j=i
  ·subst hj;rcases e2 with e2|e2
   ·rw[ztj hiσ] at e2;cases e2
   ·exact absurd e2 (hlk _)
  ·have e2':σ[j]?=some (some v')\/X.lk[j]?=some (some v'):=e2.imp_left fun z=>by rw[ztf (Ne.symm hj)] at z;exact z
   obtain⟨u',r',q⟩:=hl j y v' e1 e2' e3;refine⟨u',r',?_⟩;rcases q with ⟨k,e⟩|⟨k,c,e,z⟩
   ·refine .inl ⟨k,?_⟩;have:y≠x:=fun e=>hj (Lw hN e1 (e▸hi));simp[this,e]
   ·exact .inr ⟨k,c,e,z.sameBut hs (cne y c e)⟩
 ·obtain⟨w',z⟩:=I.cell y c e;exact⟨w',z.sameBut hs (cne y c e)⟩
 ·obtain⟨e,n,ne,nf,d⟩:=I.pin p hp;exact⟨(hs.2 p.1 ne).trans e,n,ne,nf,d⟩
 ·refine(I.hok b ob e).stay (fun c w' hc q=>(hs.2 c ?_).trans q) (fun _ q=>q) fun _ _ q=>q;rintro rfl;rcases hc with rfl|hc
  ·rw[I.free] at e;cases e
  ·rw[I.free] at hc;cases hc
theorem Inv.track(I:Inv X pins σ H s)(n:H a=none)(hch:(a∈X.ex\/X.s₀.heap.get? a=none)/\a≠X.env.locals/\(∀ x c,X.env.cells.lookup x=some c->c≠a)/\∀ p∈X.pn++pins,p.1≠a)
  (hok:∀ H',Yp X.prog X.w H' s.heap a o):Inv X pins σ (upd H a o) s:=by
 have nt:∀ b u,H b=some u->b≠a:=fun b u q z=>by subst z;rw[n] at q;cases q
 have J:=I.stepN (h':=s.heap) (H':=upd H a o) (g':=s.gens) (d':=s.drawn) (t':=s.toks) (ch:=[a]) (fun b hb=>by rw[zsl.mp hb];exact hch) (fun _ _ _ _ _ q _=>q) (fun _ ob _ _ _ q _=>⟨ob.slots,q⟩)
  (fun b _ hb _ q=>by rw[Zi (fun z=>hb (by simp[z]))];exact q) (fun _ ob _ q=>⟨ob,q⟩) (fun b xs q=>by rw[Zi (nt b _ q)];exact q) (fun b u xs q=>by rw[Zi (nt b _ q)];exact q)
  (fun b ps q=>⟨#[],by rw[Zi (nt b _ q),q];simp⟩) (fun _ q=>q) (fun b u q=>?_) I.bare
 ·exact J
 ·by_cases hb:b=a
  ·subst hb;rw[Zb] at q;cases q;exact hok _
  ·rw[Zi hb] at q;exact(I.hok b u q).stay (fun c v _ z=>z) (fun c z=>by rw[Zi (nt c _ z)];exact z) fun c xs z=>by rw[Zi (nt c _ z)];exact z
end
def fgt:List Nat->St->St
 | [],σ=>σ
 | i :: r,σ=>fgt r (σ.set i none)
theorem Kc:∀ (as:List Nat) (σ:St),(fgt as σ).length=σ.length
 | [],_=>rfl
 | i :: r,σ=>by rw[fgt,Kc r,zt1]
theorem Fp:∀ (as:List Nat) {σ:St} {i:Nat} {v:V},(fgt as σ)[i]?=some (some v)->σ[i]?=some (some v)/\i∉as
 | [],_,_,_,h=>⟨h,by simp⟩
 | j :: r,σ,i,v,h=>by
   obtain⟨h1,h2⟩:=Fp r h;by_cases e:i=j
   ·subst e;rw[List.getElem?_set] at h1;simp at h1
   ·rw[ztf (Ne.symm e)] at h1;exact⟨h1,by simp[e,h2]⟩
abbrev Cx.tried(X:Cx)(E:Value->Shared->Prop)(lk:St)(pn:List (Addr×Obj)):Cx:={ X with xe:=E,lk:=lk,pn:=pn }
abbrev Cx.hand(X:Cx)(e:Addr):Cx:={ X with A:=X.A.mark (some (.ref e)),calm:=false,xe:=fun _ _=>False }
section
variable{X:Cx}{pins pins':List (Addr×Obj)}{σ σ' lk:St}{H:Hp}{s:Shared}{E:Value->Shared->Prop}{e:Addr}
theorem Cx.Ok.tried(ok:X.Ok)(E:Value->Shared->Prop)(lk:St)(pn:List (Addr×Obj)):(X.tried E lk pn).Ok :=
 ⟨ok.mod,ok.kind,ok.glob,ok.blt,ok.above,ok.inj,ok.has,ok.cab,ok.hd,ok.frames,ok.stk,ok.exf,ok.bs,ok.bsz,ok.noex,ok.exfs,ok.funs,ok.frf⟩
theorem Cx.Ok.untried{pn:List (Addr×Obj)}(ok:(X.tried E lk pn).Ok):X.Ok :=
 ⟨ok.mod,ok.kind,ok.glob,ok.blt,ok.above,ok.inj,ok.has,ok.cab,ok.hd,ok.frames,ok.stk,ok.exf,ok.bs,ok.bsz,ok.noex,ok.exfs,ok.funs,ok.frf⟩
theorem Cx.Ok.hand(ok:X.Ok)(e:Addr):(X.hand e).Ok :=
 ⟨ok.mod,ok.kind,ok.glob,ok.blt,ok.above,ok.inj,ok.has,ok.cab,fun z=>(nomatch z),ok.frames,ok.stk,ok.exf,ok.bs,ok.bsz,ok.noex,ok.exfs,ok.funs,ok.frf⟩
theorem Inv.tried(I:Inv X pins σ H s)(E:Value->Shared->Prop)(hlk:∀ (i:Nat) v,lk[i]?=some (some v)->σ[i]?=some (some v)):Inv (X.tried E lk (X.pn++pins)) [] σ H s:=by
 refine⟨I.ok.tried _ _ _,I.os,I.bare,I.base,?_,I.cell,I.free,I.freeC,fun p hp=>I.pin p (by simpa using hp),I.hok,I.len⟩;obtain⟨m,hn,hl⟩:=I.loc;exact⟨m,hn,fun i x v e1 e2 e3=>hl i x v e1 (.inl (e2.elim id (hlk i v))) e3⟩
theorem Inv.untried(I:Inv (X.tried E lk (X.pn++pins)) pins' σ' H s)(hX:X.lk=[])(hl:lk.length=X.N.length):Inv X pins lk H s:=by
 refine⟨I.ok.untried,I.os,I.bare,I.base,?_,I.cell,I.free,I.freeC,fun p hp=>I.pin p (zs8 _ hp),I.hok,hl⟩;obtain⟨m,hn,hl⟩:=I.loc;exact⟨m,hn,fun i x v e1 e2 e3=>hl i x v e1 (.inr (e2.elim id fun z=>by rw[hX] at z;simp at z)) e3⟩
theorem Inv.untriedN(I:Inv (X.tried E lk (X.pn++pins)) [] σ' H s)(hX:X.lk=[]):Inv X pins σ' H s:=by
 refine⟨I.ok.untried,I.os,I.bare,I.base,?_,I.cell,I.free,I.freeC,fun p hp=>I.pin p (by simpa using hp),I.hok,I.len⟩;obtain⟨m,hn,hl⟩:=I.loc;exact⟨m,hn,fun i x v e1 e2 e3=>hl i x v e1 (e2.elim .inl fun z=>by rw[hX] at z;simp at z) e3⟩
theorem Inv.hand(I:Inv X pins σ H s)(e:Addr):Inv (X.hand e) pins σ H s:=⟨I.ok.hand e,I.os,I.bare,I.base,I.loc,I.cell,I.free,I.freeC,I.pin,I.hok,I.len⟩
theorem Inv.unhand(ok:X.Ok)(I:Inv (X.hand e) pins σ H s):Inv X pins σ H s:=⟨ok,I.os,I.bare,I.base,I.loc,I.cell,I.free,I.freeC,I.pin,I.hok,I.len⟩
theorem SP.untried(hX:X.lk=[])(h:SP (X.tried E lk (X.pn++pins)) [] D f s'):SP X pins D f s':=by
 cases f with
 | next=>obtain⟨a,b,c,d⟩:=h;exact⟨a,b,c.untriedN hX,d⟩
 | brk=>obtain⟨a,b,c,d⟩:=h;exact⟨a,b,c.untriedN hX,d⟩
 | cont=>obtain⟨a,b,c,d⟩:=h;exact⟨a,b,c.untriedN hX,d⟩
 | ret u=>obtain⟨v,a,b,c,r,d⟩:=h;exact⟨v,a,b,c.untriedN hX,r,d⟩
end
structure zgm(X:Cx):Prop where
 ex:X.ex=[]
 lk:X.lk=[]
 st:X.stack=X.env :: X.outer
 fr:X.env.frame=some X.env.locals
theorem zaq{CX:CXT}{P:Program}{w:World}{K:Frag}{mg:Str->Option Value}{base:Heap}{N:List Str}{qual:Str}{scope:Scope}{f:Addr}{cd:Value}{A:Around}{outer:List Env}{s0:Shared}{H0:Hp}{E:XK} :
  zgm (cxOf CX P w K mg base N qual scope f cd A outer s0 H0 E):=⟨rfl,rfl,rfl,rfl⟩
section
variable{X:Cx}{pins:List (Addr×Obj)}{σ:St}{H:Hp}{s:Shared}{E:Value->Shared->Prop}
theorem zjn(B:zgm X)(hlk:lk.length=X.N.length)
  (I:Inv (X.tried E' lk (X.pn++pins)) pins' σ' H1 s1) (h:CX1 X.prog X.w X.stack H1 s1 EX ev s2)
  (k:∀ a T cls H2 s3,ev=.ref a->EX cls none H2->Inv X pins lk H2 s3->Fly s1.heap H2 s3.heap a T cls->((a∈X.ex\/X.s₀.heap.get? a=none)/\a≠X.env.locals/\(∀ x c,X.env.cells.lookup x=some c->c≠a)/\∀ p∈X.pn++pins,p.1≠a) ->
   ((T∈X.ex\/X.s₀.heap.get? T=none)/\T≠X.env.locals/\(∀ x c,X.env.cells.lookup x=some c->c≠T)/\∀ p∈X.pn++pins,p.1≠T) ->
   wpAny (model X.prog X.w) X.A (handleBy (.ref a) X.env hs) Q E s3) :
  wpAny (model X.prog X.w) X.A (noteFrame ev X.env) (fun _ s₂=>wpAny (model X.prog X.w) X.A (setFlight ev none) (fun _ s₃=>wpAny (model X.prog X.w) X.A (handleBy ev X.env hs) Q E s₃) E s₂) E s2:=by
 obtain⟨a,T,cls,H2,q0,ho,hg,u,hok,F,hE⟩:=h;subst q0;have J:=I.raised ho hg u hok;obtain⟨a0,hfl⟩:=F.flying J J.stack (fun _ z=>z);have hfl':Heap.FlyingW (PySem.W.hideAll s2.heap ([a,T]++frs X.stack)) (X.env :: X.outer) a cls a0 s2.heap:=by rw[<- B.st];exact hfl
 refine wpAny_looks_onW (base:=PySem.W.hideAll s2.heap ([a,T]++frs X.stack)) (by rw[J.ok.frames];exact congrArg some B.st) B.fr hfl' fun h3 held up1=>?_;refine wpAny_landsW held fun h4 hfl4 up2=>?_;have up:s2.heap.UpToSlots h4:=up1.trans up2;have t:=U5.of (as:=[a,T]) J hfl4.1 up;have frE:∀ b∈[a,T],H2 b=none:=by
  intro b hb;rcases zsk.mp hb with rfl|hb
  ·exact F.freeE
  ·rcases zsk.mp hb with rfl|hb
   ·exact F.freeT
   ·cases hb
 have rcs:∀ b∈[a,T],(b∈X.ex\/X.s₀.heap.get? b=none)/\b≠X.env.locals/\(∀ x c,X.env.cells.lookup x=some c->c≠b)/\∀ p∈(X.pn++pins)++pins',p.1≠b:=by
  intro b hb;rcases zsk.mp hb with rfl|hb
  ·exact I.newRec B.ex F.newE
  ·rcases zsk.mp hb with rfl|hb
   ·exact I.newRec B.ex F.newT
   ·cases hb
 have J4:Inv (X.tried E' lk (X.pn++pins)) pins' σ' H2 { s2 with heap:=h4 }:=J.callN' (s':={ s2 with heap:=h4 }) (ch:=[a,T]) rfl (t.un J frE) (t.hok J frE) J.bare rcs;have old:∀ b,s2.heap.get? b=none->s1.heap.get? b=none:=fun b n=>by
  cases q:s1.heap.get? b with
  | none=>rfl
  | some o =>
    obtain⟨_,z⟩:=u.there b o q (by simp);rw[n] at z;cases z
 obtain⟨T',F'⟩:=F.again J old up hfl4.1 hfl4.2.2.2;have sub:∀ {b:Addr},((b∈X.ex\/X.s₀.heap.get? b=none)/\b≠X.env.locals/\(∀ x c,X.env.cells.lookup x=some c->c≠b)/\∀ p∈(X.pn++pins)++pins',p.1≠b) ->
   (b∈X.ex\/X.s₀.heap.get? b=none)/\b≠X.env.locals/\(∀ x c,X.env.cells.lookup x=some c->c≠b)/\∀ p∈X.pn++pins,p.1≠b:=fun z=>⟨z.1,z.2.1,z.2.2.1,fun p hp=>z.2.2.2 p (zs8 _ hp)⟩
 exact k a T' cls H2 _ rfl hE (J4.untried B.lk hlk) F' (sub (rcs a (by simp))) (sub (I.newRec B.ex F'.newT))
theorem zcl(I:Inv X pins σ H s)(F:Fly g H s.heap a T cls)(hg:∀ b,s.heap.get? b=none->g.get? b=none)
  (ha:(a∈X.ex\/X.s₀.heap.get? a=none)/\a≠X.env.locals/\(∀ x c,X.env.cells.lookup x=some c->c≠a)/\∀ p∈X.pn++pins,p.1≠a)
  (hT:(T∈X.ex\/X.s₀.heap.get? T=none)/\T≠X.env.locals/\(∀ x c,X.env.cells.lookup x=some c->c≠T)/\∀ p∈X.pn++pins,p.1≠T)
  (k:∀ s',Inv X pins σ H s'->(∃ T',Fly g H s'.heap a T' cls)->Q () s'):wpAny (model X.prog X.w) A (setFlight (.ref a) none) Q E s:=by
 obtain⟨a0,hfl⟩:=F.flying I I.stack (fun _ z=>z);refine lands_againW hfl fun h4 hfl4 up=>?_;have t:=U5.of (as:=[a,T]) I hfl4.1 up;have frE:∀ b∈[a,T],H b=none:=by
  intro b hb;rcases zsk.mp hb with rfl|hb
  ·exact F.freeE
  ·rcases zsk.mp hb with rfl|hb
   ·exact F.freeT
   ·cases hb
 have J4:Inv X pins σ H { s with heap:=h4 }:=I.callN' (s':={ s with heap:=h4 }) (ch:=[a,T]) rfl (t.un I frE) (t.hok I frE) I.bare fun b hb=>by
  rcases zsk.mp hb with rfl|hb
  ·exact ha
  ·rcases zsk.mp hb with rfl|hb
   ·exact hT
   ·cases hb
 exact k _ J4 (F.again I hg up hfl4.1 hfl4.2.2.2)
end
def xAs(K:Frag)(as:List Nat)(i:Nat)(CB:Addr)(th:TS)(D:Og)(σ:St):XK:=fun cls _ H'=>∃ C,cls=.ref C/\PySem.W.mroIn K C (.ref CB)=some true /\
 ∀ a,H' a=none->th { nx:=fun σ' H''=>D.nx (σ'.set i none) H'',rt:=D.rt,bk:=fun σ' H''=>D.bk (σ'.set i none) H'',ct:=fun σ' H''=>D.ct (σ'.set i none) H'' } ((fgt as σ).set i (some (.ref a))) (upd H' a (excO a cls))
def zgn(K:Frag)(as:List Nat)(i:Nat)(CB:Addr)(tb:XK->TS)(th:TS):TS:=fun D σ H=>tb (xAs K as i CB th D σ) D σ H
section
variable{X:Cx}{as:List Nat}{i:Nat}{CB:Addr}{tb:XK->TS}{th:TS}{body suite:List Stmt}{b₀:Stmt}{n cx:Str}{p hpos pos:Pos}
theorem zcm(B:zgm X)(hN:X.N.Nodup)(hi:X.N[i]?=some n)(hk:X.env.scope.names.lookup n=some .local)(c:zch X.K CB)(hg:Gl X cx)(hm:X.mg cx=some (.ref CB))
  (hb:∀ (E':Value->Shared->Prop) (lk:St) (pn:List (Addr×Obj)) (EX:XK),(∀ j∈as,∀ v,lk[j]?≠some (some v))->PassesOwn (model X.prog X.w) X.A X.env E'->Wo (CX1 X.prog X.w) (X.tried E' lk pn) EX->PSs (X.tried E' lk pn) body (tb EX))
  (hh:∀ a,PSs (X.hand a) (b₀ :: suite) th) (hd:(cx == ("__debug__":Str))=false:=by decide) :
  PS X (.Try body [.ExceptHandler (some (.Name cx p)) (some n) (b₀ :: suite) hpos] [] [] pos) (zgn X.K as i CB tb th):=by
 intro pins s σ H D I h;refine wpAny_Try_except ?_;have lkl:(fgt as σ).length=X.N.length:=by rw[Kc];exact I.len
 have I':=I.tried (lk:=fgt as σ) (fun ev s₁=>wpAny (model X.prog X.w) X.A (noteFrame ev X.env) (fun _ s₂=>wpAny (model X.prog X.w) X.A (setFlight ev none)
  (fun _ s₃=>wpAny (model X.prog X.w) X.A (handleBy ev X.env [.ExceptHandler (some (.Name cx p)) (some n) (b₀ :: suite) hpos]) (SP X pins D) X.xe s₃) X.xe s₂) X.xe s₁) fun i v z=>(Fp as z).1
 refine wpAny_mono (hb _ _ _ (xAs X.K as i CB th D σ) (fun j hj v z=>(Fp as z).2 hj) PassesOwn.looking (fun pins' σ' H1 s1 ev s2 J hcx=>?_) [] s σ H D I' h) (fun f s1 h1=>?_) fun _ _ z=>z
 ·refine zjn B lkl J hcx fun a T cls H2 s3 _ hE J3 F ha hT=>?_;obtain⟨C,rfl,hmro,hth⟩:=hE;obtain⟨oe,vs,oT,ts,e1,e2,e3,_⟩:=F.ex;refine wpAny_handleBy_cons (codeAny_handlers_test (Qq (X:=X.hand a) (J3.hand a) hg hm (E8 J3.kIn c e1 e2 hmro ?_) hd)) (by intro q;cases q);refine codeAny_handlers_suite_as ?_;have F0:Fly (Att.noObjs s3.heap) H2 s3.heap a T (.ref C):=⟨F.ex,Att.noObjs_get _ _,Att.noObjs_get _ _,F.freeE,F.freeT⟩;refine zcl J3 F0 (fun b _=>Att.noObjs_get _ _) ha hT fun s4 J4 ⟨T',F4⟩=>?_;obtain⟨oe,vs,oT,ts,e1,e2,e3,_⟩:=F4.ex;have J5:Inv X pins (fgt as σ) (upd H2 a (excO a (.ref C))) s4:=J4.track F4.freeE ha fun H'=>⟨⟨oe,vs,e1,e2,e3⟩,⟨oe,e1⟩,fun h1 h2 ⟨o,vs,z1,z2,z3⟩ k=>⟨o,vs,k o z1,z2,z3⟩⟩
  refine Ly (X:=X.hand a) (J5.hand a) hN hi (.inl hk) (v:=.ref a) (show RelV (.ref a) (.ref a) from rfl) (fun s5 J6=>?_) ⟨.inr hk,fun v z=>by rw[show (X.hand a).lk=[] from B.lk] at z;exact Xu v z⟩;refine wpAny_mono (hh a pins s5 _ _ _ J6 (hth a F.freeE)) (fun f s6 h6=>?_) fun _ _ z=>z.elim;have lk0:∀ v,X.lk[i]?≠some (some v):=fun v z=>by rw[B.lk] at z;exact Xu v z
  cases f with
  | next=>obtain⟨σ6,H6,J7,d⟩:=h6;exact Qu (J7.unhand I.ok) hN hi hk lk0 fun s7 J8=>⟨_,H6,J8,d⟩
  | brk=>obtain⟨σ6,H6,J7,d⟩:=h6;exact Qu (J7.unhand I.ok) hN hi hk lk0 fun s7 J8=>⟨_,H6,J8,d⟩
  | cont=>obtain⟨σ6,H6,J7,d⟩:=h6;exact Qu (J7.unhand I.ok) hN hi hk lk0 fun s7 J8=>⟨_,H6,J8,d⟩
  | ret u=>obtain⟨v,σ6,H6,J7,r,d⟩:=h6;exact Qu (J7.unhand I.ok) hN hi hk lk0 fun s7 J8=>⟨v,_,H6,J8,r,d⟩
 ·have h2:=SP.untried B.lk h1;cases f with
  | next=>exact wpAny_execs_nil h2
  | brk=>exact h2
  | cont=>exact h2
  | ret u=>exact h2
end
section
variable{P:Program}{w:World}{K:Frag}{mg:Str->Option Value}{base:Heap}
theorem Fun.okX{x qual:Str}{st:Stmt}{f:Addr}{fd:FuncData}{N ps:List Str}{k:Nat}{sp:Sp}(F:Fun K x qual st f fd)(S:Zm N ps (Zj st))(len:∀ vs H Q E,sp vs H Q E->vs.length=ps.length)
  (hbody:∀ (cdv:Value) (A:Around) (outer:List Env) (s:Shared) (H:Hp) (vs:List V) (Q:VK) (E:XK),Wt k (A.deeper (envOfC qual (Zj st) s.heap.objs.size f cdv))->sp vs H Q E ->
   ∃ t,PSs (cxOf (CX1 P w) P w K mg base N qual (Zj st) f cdv A outer s H E) (Z7 st) t/\t { nx:=fun _ H'=>Q .non H',rt:=Q } (Mi N vs) H):FnOk P w K mg base (CX1 P w) (k+1) f fd ps sp:=by
 obtain⟨oc,od,kV,doc,pm,an,cdv,ct,osl,rfl,lk,hcd⟩:=F.ex;exact zh3 lk hcd S len fun A outer s H vs Q E hr hsp=>hbody cdv A outer s H vs Q E hr hsp
end
def Jw{α:Type}(p:α->Prop):List α->Prop
 | []=>True
 | a :: r=>p a/\Jw p r
theorem Jw.get:∀ {l:List α} {a:α},Jw p l->a∈l->p a
 | _ :: _,_,h,.head _=>h.1
 | _ :: _,_,h,.tail _ m=>Jw.get h.2 m
def Yr(X:Cx)(pn:List (Addr×Obj))(Nc:List Str)(scope:Scope)(cl:List (Str×Addr))(s₀:Shared)(H₀:Hp)(fp:List Addr)(C:Addr):Cx :=
 { X with N:=Nc,s₀:=s₀,H₀:=H₀,env:=compEnvC scope cl C X.env,outer:=X.stack,stack:=X.stack,ex:=fp,fn:=fun _=>false,pn:=pn,xe:=fun _ _=>False,lk:=[] }
def cs(js:List Nat)(σ:St)(x:V):St:=some x :: js.map fun j=>(σ[j]?).getD none
def PTs(X:Cx)(ifs:List Expr)(t:TT):Prop :=
 ∀ (pins:List (Addr×Obj)) (s:Shared) (σ:St) (H:Hp) (Q:Bool->Hp->Prop),Inv X pins σ H s->t σ H Q ->
   wpAny (model X.prog X.w) X.A (forIn ifs true fun c r=>if r=true then do let ok <- isTrue c X.env (eval c X.env);pure (ForInStep.yield ok) else pure (ForInStep.yield r)) (TP X pins σ Q) X.xe s
def tYes:TT:=fun _ H Q=>Q true H
theorem Wv:PTs X [] tYes:=fun _ _ _ H _ I h=>wpAny_tests_nil ⟨H,I,h⟩
theorem Fq(h:PT X c t):PTs X [c] t:=fun pins s σ H Q I q=>wpAny_tests_one (h pins s σ H Q I q)
def E9(J:It)(js:List Nat)(tt:TT)(te:TE)(σ:St)(H:Hp)(Q:VK):Prop:=∃ W:Nat->Nat->List V->Hp->Prop,(∃ m,W 0 m [] H)/\∀ i m ys H,W i m ys H ->
 (J.stop i H/\ys.length<=sizeLine/\∀ p,H p=none->Q (.ref p) (upd H p (.lst ys))) \/
 (J.go i H/\ys.length<sizeLine/\∃ N:List V->Hp->Prop,(∀ ys' H',N ys' H'->∃ m',m' < m/\W (i+1) m' ys' H')/\∀ x H',J.yld i H x H'->tt (cs js σ x) H' fun b H2=>if b=true then te (cs js σ x) H2 fun y H3=>N (ys++[y]) H3 else N ys H2)
def zfg(wi:TI)(js:List Nat)(tt:TT)(te:TE):TE:=fun σ H Q=>wi σ H fun J H1=>E9 J js tt te σ H1 Q
section
variable{X:Cx}{elt iter:Expr}{x:Str}{px pos:Pos}{ifs:List Expr}{scope:Scope}{cl:List (Str×Addr)}{ys:List Str}{js:List Nat}
structure Af(X:Cx)(x:Str)(scope:Scope)(cl:List (Str×Addr))(ys:List Str)(js:List Nat):Prop where
 clos:closureFor scope X.env=pure cl
 kind:scope.kind=.function
 names:∀ y∈scope.names,y.2=.local->scope.names.lookup y.1=some .local
 nocell:∀ y∈scope.names,y.2≠.cell
 own:scope.names.lookup x=some .local
 nd:(x :: ys).Nodup
 at_:js.map (X.N[·]?)=ys.map some
 free:Jw (fun y=>X.env.kindOf y=some .cell/\(relabel scope X.env).names.lookup y=some .cell/\cl.lookup y=X.env.cells.lookup y) ys
 only:Jw (fun p=>X.env.cells.lookup p.1=some p.2) cl
 vis:∀ y∈scope.names,y.2=.free->y.1∈ys
theorem Om{env:Env}:∀ {names:List (Str×NameKind)} {y:Str},(names.map fun (n,k)=>if (k == NameKind.free&&env.scope.kind == .function&&env.kindOf n == some .cell) then (n,NameKind.cell) else (n,k)).lookup y=some .cell \/
  (names.map fun (n,k)=>if (k == NameKind.free&&env.scope.kind == .function&&env.kindOf n == some .cell) then (n,NameKind.cell) else (n,k)).lookup y=some .free->∃ k,(y,k)∈names/\(k=.cell\/k=.free)
 | [],_,h=>by rcases h with h|h<;>simp at h
 | (n,k) :: r,y,h=>by
   by_cases hx:y=n
   ·subst hx;refine⟨k,zsz,?_⟩;rw[zst] at h;dsimp only at h;by_cases hc:(k == NameKind.free&&env.scope.kind == .function&&env.kindOf y == some .cell)=true
    ·simp only[zua,beq_iff_eq] at hc;exact .inr hc.1.1
    ·rw[if_neg hc] at h;simp only[ztk,beq_self_eq_true] at h;rcases h with h|h
     ·exact .inl (Option.some.inj h)
     ·exact .inr (Option.some.inj h)
   ·have hb:(y == n)=false:=zs2.mpr hx;have ih:=@Om env r y;rw[zst] at h;have key:∀ z:Str×NameKind,z.1=n->List.lookup y (z :: (r.map fun (n,k)=>if (k == NameKind.free&&env.scope.kind == .function&&env.kindOf n == some .cell) then (n,NameKind.cell) else (n,k))) =
      List.lookup y (r.map fun (n,k)=>if (k == NameKind.free&&env.scope.kind == .function&&env.kindOf n == some .cell) then (n,NameKind.cell) else (n,k)):=fun z hz=>by
     obtain⟨z1,z2⟩:=z;cases hz;simp only[ztk,hb]
    rw[key _ (by dsimp only;split<;>rfl)] at h;obtain⟨k',m,q⟩:=ih h;exact⟨k',zsw _ m,q⟩
variable{wi:TI}{tt:TT}{te:TE}
end
theorem V7{K:Frag}{js:List Nat}{tt:TT}{te:TE}{a:Addr}{xs:List V}{σ:St}{H:Hp}{Q:VK}(Pv:Nat->List V->Hp->Prop)(h0:Pv 0 [] H)(hl:∀ i ys H,i<=xs.length->Pv i ys H->SqL K H a xs)(hz:xs.length<=sizeLine)
  (hy:∀ i ys H,Pv i ys H->ys.length<=i)
  (hs:∀ i x ys H,xs[i]?=some x->Pv i ys H->tt (cs js σ x) H fun b H2=>if b=true then te (cs js σ x) H2 fun y H3=>Pv (i+1) (ys++[y]) H3 else Pv (i+1) ys H2)
  (hd:∀ ys H,Pv xs.length ys H->∀ p,H p=none->Q (.ref p) (upd H p (.lst ys))):E9 (Itl K a) js tt te σ H Q:=by
 refine⟨fun i m ys H=>m=xs.length-i/\i<=xs.length/\Pv i ys H,⟨xs.length,by simp,zs1 _,h0⟩,?_⟩;rintro i m ys H ⟨rfl,hi,p⟩;have q:=hl i ys H hi p;have ly:=hy i ys H p;by_cases hlt:i<xs.length
 ·refine .inr ⟨⟨xs,xs[i],q,by simp[hlt]⟩,by omega,Pv (i+1),fun ys' H' p'=>⟨xs.length-(i+1),by omega,rfl,hlt,p'⟩,fun x H' y=>?_⟩;obtain⟨e,y⟩:=y;subst e;exact hs i x ys _ (y xs q) p
 ·have e:i=xs.length:=by omega
  subst e;exact .inl ⟨⟨xs,q,zso _⟩,by omega,hd ys H p⟩
theorem Rc{js:List Nat}{tt:TT}{te:TE}{lo:Int}{n:Nat}{σ:St}{H:Hp}{Q:VK}(Pv:Nat->List V->Hp->Prop)(h0:Pv 0 [] H)(hz:n<=sizeLine)(hy:∀ i ys H,Pv i ys H->ys.length<=i)
  (hs:∀ i ys H,i<n->Pv i ys H->tt (cs js σ (.int (lo+i))) H fun b H2=>if b=true then te (cs js σ (.int (lo+i))) H2 fun y H3=>Pv (i+1) (ys++[y]) H3 else Pv (i+1) ys H2)
  (hd:∀ ys H,Pv n ys H->∀ p,H p=none->Q (.ref p) (upd H p (.lst ys))):E9 (Itr lo n) js tt te σ H Q:=by
 refine⟨fun i m ys H=>m=n-i/\i<=n/\Pv i ys H,⟨n,by simp,zs1 _,h0⟩,?_⟩;rintro i m ys H ⟨rfl,hi,p⟩;have ly:=hy i ys H p;by_cases hlt:i<n
 ·refine .inr ⟨hlt,by omega,Pv (i+1),fun ys' H' p'=>⟨n-(i+1),by omega,rfl,hlt,p'⟩,fun x H' y=>?_⟩;obtain⟨e,y⟩:=y;subst e y;exact hs i ys _ hlt p
 ·have e:i=n:=by omega
  subst e;exact .inl ⟨zso _,by omega,hd ys H p⟩
theorem Gh{js:List Nat}{te:TE}{lo:Int}{n:Nat}{σ:St}{H:Hp}{Q:VK}(f:Nat->V)(hz:n<=sizeLine)
  (hs:∀ i (R:VK),i<n->R (f i) H->te (cs js σ (.int (lo+i))) H R) (hd:∀ p,H p=none->Q (.ref p) (upd H p (.lst ((List.range n).map f)))):E9 (Itr lo n) js tYes te σ H Q:=by
 refine Rc (fun i ys H'=>H'=H/\ys=(List.range i).map f) ⟨rfl,rfl⟩ hz (fun i ys H' ⟨_,e⟩=>by rw[e,zsg,ztl];exact zso _) (fun i ys H' hi ⟨e1,e2⟩=>?_) fun ys H' ⟨e1,e2⟩ p hp=>?_
 ·subst e1;unfold tYes;dsimp only;rw[if_pos rfl];refine hs i _ hi ⟨rfl,?_⟩;rw[e2,List.range_succ,zsp];rfl
 ·subst e1;rw[e2];exact hd p hp
theorem Ml:∀ {xs:List V} {us:List Value},xs.length=us.length->(∀ (j:Nat) x u,xs[j]?=some x->us[j]?=some u->RelV x u)->Vals xs us
 | [],[],_,_=>.nil
 | x :: xs,u :: us,hl,h=>.cons (h 0 x u rfl rfl) (Ml (by simpa using hl) fun j x' u' h1 h2=>h (j+1) x' u' (by simpa using h1) (by simpa using h2))
abbrev TF:=St->Hp->(Hp->Prop)->Prop
def PF(X:Cx)(e:Expr)(t:TF):Prop :=
 ∀ (pins:List (Addr×Obj)) (s:Shared) (σ:St) (H:Hp) (k:Hp->Prop),Inv X pins σ H s->t σ H k ->
   wpAny (model X.prog X.w) X.A (eval e X.env) (fun u s'=>∃ y tk H',u=.str y tk/\y.length<=10000/\Inv X pins σ H' s'/\k H') X.xe s
def PFs(X:Cx)(es:List Expr)(t:TF):Prop :=
 ∀ (pins:List (Addr×Obj)) (s:Shared) (σ:St) (H:Hp) (k:Hp->Prop) (acc:Str),Inv X pins σ H s->acc.length+10000*es.length<=sizeLine->t σ H k ->
   Joins (model X.prog X.w) X.A X.xe (evalEach es X.env) acc (fun out s'=>out.length<=sizeLine/\∃ H',Inv X pins σ H' s'/\k H') s
def zig:TF:=fun _ H k=>k H
def zih(t u:TF):TF:=fun σ H k=>t σ H fun H1=>u σ H1 k
def okF(v:V):Prop:=(∃ i,v=.int i/\i.natAbs.log2<1920)\/∃ y,v=.str y/\y.length<=10000
def zjo(te:TE):TF:=fun σ H k=>te σ H fun v H1=>okF v/\k H1
def zii(t:TF):TE:=fun σ H Q=>t σ H fun H1=>∀ z,Q (.str z) H1
section
variable{X:Cx}{e:Expr}{es:List Expr}{te:TE}{t u:TF}{pos:Pos}
theorem Xo{j}(h:x.length<=10000):PF X (.Constant (.str x) j pos) zig:=fun _ _ _ H _ I hk=>Calls.Constant_str ⟨x,_,H,rfl,h,I.tok _,hk⟩
theorem W4(he:PE X e te):PF X (.FormattedValue e (-1) none pos) (zjo te):=by
 intro pins s σ H k I h;refine FormattedValue_plain (thn (he pins s σ H _ I h) fun v s1 ⟨x,H1,I1,r1,ok,hk⟩=>?_);rcases ok with ⟨i,rfl,hi⟩|⟨y,rfl,hy⟩
 ·obtain⟨t,rfl⟩:=r1;refine formatField_int_small hi ⟨_,_,H1,rfl,?_,I1.tok _,hk⟩;have:=int_text_length_le (k:=1920) ⋯ hi;show (Str.ofString (toString i)).length<=10000;rw[PySem.ofString_length];omega
 ·obtain⟨t,rfl⟩:=r1;exact formatField_str (fun t' tk=>⟨y,t',H1,rfl,hy,I1.tok tk,hk⟩) (by rw[sizeLine_eq];omega)
theorem Vk:PFs X [] zig:=fun _ _ _ H _ _ I hz hk=>⟨by simpa using hz,H,I,hk⟩
theorem Zx(h1:PF X e t)(h2:PFs X es u)(hs:evalEach (e :: es) X.env=eval e X.env :: evalEach es X.env:=by rfl):PFs X (e :: es) (zih t u):=by
 intro pins s σ H k acc I hz h;rw[hs];refine thn (h1 pins s σ H _ I h) fun v s1 ⟨y,tk,H1,e1,hy,I1,hk⟩=>⟨y,tk,e1,?_,?_⟩
 ·rw[strLen_append];rw[zs4] at hz;omega
 ·exact h2 pins s1 σ H1 k _ I1 (by rw[strLen_append];rw[zs4] at hz;omega) hk
theorem Vl(h:PFs X (e :: e' :: es) t)(hl:es.length<=100):PE X (.JoinedStr (e :: e' :: es) pos) (zii t):=by
 intro pins s σ H Q I h';refine wpAny_JoinedStr ?_;have q:=h pins s σ H _ Str.empty I (by rw[sizeLine_eq];simp only[zs4];have:Str.empty.length=0:=rfl;omega) h';have mono:∀ (ps:List (Sem Value)) (acc:Str) (Q1 Q2:Str->Shared->Prop) (s:Shared),(∀ o s,Q1 o s->Q2 o s)->Joins (model X.prog X.w) X.A X.xe ps acc Q1 s->Joins (model X.prog X.w) X.A X.xe ps acc Q2 s:=by
  intro ps
  induction ps with
  | nil=>intro acc Q1 Q2 s m z;exact m _ _ z
  | cons p r ih=>intro acc Q1 Q2 s m z;exact thn z fun v s1 ⟨y,tk,e1,hz,z1⟩=>⟨y,tk,e1,hz,ih _ _ _ _ m z1⟩
 refine mono _ _ _ _ _ (fun out s1 ⟨hz,H1,I1,hk⟩=>⟨hz,.str out,H1,I1.tok _,⟨_,rfl⟩,hk out⟩) q
end
section
variable{X:Cx}
theorem Bh(hc:X.calm=true):V2 X (.type "list") (fun xs H Q=>∃ a kvs,xs=[.ref a]/\Rd H a (.dK kvs)/\∀ l,H l=none->Q (.ref l) (upd H l (.lst (kvs.map fun kv=>kV kv.1)))):=by
 intro pins s σ H xs us Q I r h;obtain⟨a,kvs,rfl,ha,q⟩:=h;obtain⟨u,rfl,ru⟩:=R1 r;cases (show u=Value.ref a from ru);obtain⟨hz,lo,vs,kv,o,es,ep,e1,e2⟩:=Pc I.hok ha;have hl:kvs.length=vs.length:=KV.length kv;refine PySem.W.kdl_call (PySem.W.kdl_dict (knd:=Ym X.prog X.w) (kvs:=vs) (ep:=ep) lo) (I.ok.hd hc) ⟨o,es,e1,e2⟩ (by rw[<- hl];exact hz) fun h' tk acc c hk hS hacc=>?_;have hf:H s.heap.objs.size=none:=I.hok.fresh (zso _);refine⟨.ref s.heap.objs.size,upd H s.heap.objs.size (.lst (kvs.map fun kv=>kV kv.1)),I.laid (t':=tk) hk (zso _) ?_,rfl,q _ hf⟩;obtain⟨accl⟩:=acc;refine⟨by rw[zsg];exact hz,accl,c,?_,hS⟩;have hlen:accl.length=vs.length:=by have:=hacc.1;simpa using this
 refine Ml (by rw[zsg,hl,hlen]) fun j x u hx hu=>?_;obtain⟨k,y,hk1,hk2⟩:=hacc.2 j u (by simpa using hu);have ek:=congrArg (·[j]?) (KV.keys kv);simp only[zsn,hk1,ztq] at ek;rw[zsn] at hx;cases hkv:kvs[j]? with
 | none=>rw[hkv] at hx;cases hx
 | some p =>
   rw[hkv] at hx ek;have e1:kV p.1=x:=Option.some.inj hx;have e2:p.1=k:=Option.some.inj ek;rw[<- e1,e2];rcases Yu hk2 with ⟨i,t,rfl,rfl⟩|⟨z,t,rfl,rfl⟩
   ·exact⟨t,rfl⟩
   ·exact⟨t,rfl⟩
end
inductive Dt where
 | non|bl (b:Bool)|int (i:Int)|str (x:Str)|lst (xs:List Dt)|tup (xs:List Dt)
mutual
inductive Is(K:Frag)(H:Hp):V->Dt->Prop where
 | non:Is K H .non .non
 | bl (b:Bool):Is K H (.bl b) (.bl b)
 | int (i:Int):Is K H (.int i) (.int i)
 | str (x:Str):Is K H (.str x) (.str x)
 | lst {a:Addr} {xs:List V} {ds:List Dt} (h:SqL K H a xs) (hs:X3 K H xs ds):Is K H (.ref a) (.lst ds)
 | tup {a:Addr} {xs:List V} {ds:List Dt} (h:SqT K H a xs) (hs:X3 K H xs ds):Is K H (.ref a) (.tup ds)
inductive X3(K:Frag)(H:Hp):List V->List Dt->Prop where
 | nil:X3 K H [] []
 | cons {x:V} {xs:List V} {d:Dt} {ds:List Dt} (h:Is K H x d) (t:X3 K H xs ds):X3 K H (x :: xs) (d :: ds)
end
mutual
def eqD:Dt->Dt->Bool
 | .non,.non=>true
 | .bl a,.bl b=>a == b
 | .bl a,.int b=>(if a then 1 else 0) == b
 | .int a,.bl b=>a == (if b then 1 else 0)
 | .int a,.int b=>a == b
 | .str a,.str b=>a == b
 | .lst xs,.lst ys=>Oo xs ys
 | .tup xs,.tup ys=>Oo xs ys
 | _,_=>false
def Oo:List Dt->List Dt->Bool
 | [],[]=>true
 | x :: xs,y :: ys=>eqD x y&&Oo xs ys
 | _,_=>false
end
mutual
theorem Dc:∀ d:Dt,eqD d d=true
 | .non=>by simp[eqD]
 | .bl _=>by simp[eqD]
 | .int _=>by simp[eqD]
 | .str _=>by simp[eqD]
 | .lst xs=>by rw[eqD];exact Nj xs
 | .tup xs=>by rw[eqD];exact Nj xs
theorem Nj:∀ ds:List Dt,Oo ds ds=true
 | []=>by simp[Oo]
 | d :: ds=>by rw[Oo,Dc d,Nj ds];rfl
end
mutual
def zjp:Dt->Nat
 | .lst xs=>zcn xs+1
 | .tup xs=>zcn xs+1
 | _=>0
def zcn:List Dt->Nat
 | []=>0
 | d :: ds=>max (zjp d) (zcn ds)
end
section
variable{X:Cx}{pins:List (Addr×Obj)}{σ:St}{H:Hp}{s:Shared}
theorem R7(I:Inv X pins σ H s)(h1:SqL X.K H a xs)(h2:SqT X.K H a ys):False:=by
 obtain⟨_,_,⟨o,n,e1,e2,_⟩,_⟩:=I.list h1;obtain⟨_,_,⟨o',e1',e2',_⟩,_⟩:=I.tuple h2;rw[e1] at e1';cases e1';exact absurd (Value.type.inj (e2.symm.trans e2')) ⋯
mutual
theorem Is.inj(I:Inv X pins σ H s):∀ {x:V} {d d':Dt},Is X.K H x d->Is X.K H x d'->d=d'
 | _,_,_,.non,.non=>rfl
 | _,_,_,.bl _,.bl _=>rfl
 | _,_,_,.int _,.int _=>rfl
 | _,_,_,.str _,.str _=>rfl
 | _,_,_,.lst h hs,.lst h' hs'=>by
   have e:=I.list_inj h h';subst e;rw[X3.inj I hs hs']
 | _,_,_,.tup h hs,.tup h' hs'=>by
   have e:=I.tuple_inj h h';subst e;rw[X3.inj I hs hs']
 | _,_,_,.lst h _,.tup h' _=>(R7 I h h').elim
 | _,_,_,.tup h _,.lst h' _=>(R7 I h' h).elim
theorem X3.inj(I:Inv X pins σ H s):∀ {xs:List V} {ds ds':List Dt},X3 X.K H xs ds->X3 X.K H xs ds'->ds=ds'
 | _,_,_,.nil,.nil=>rfl
 | _,_,_,.cons h t,.cons h' t'=>by rw[Is.inj I h h',X3.inj I t t']
end
mutual
def toPy:Dt->PyData
 | .non=>.none
 | .bl b=>.bool b
 | .int i=>.int i
 | .str x=>.str x
 | .lst xs=>.list (Xa xs)
 | .tup xs=>.tuple (Xa xs)
def Xa:List Dt->List PyData
 | []=>[]
 | d :: ds=>toPy d :: Xa ds
end
mutual
theorem Kd:∀ d e:Dt,PyData.eqv (toPy d) (toPy e)=eqD d e
 | .non,e=>by cases e<;>simp[toPy,eqD,PyData.eqv]
 | .bl _,e=>by cases e<;>simp[toPy,eqD,PyData.eqv]
 | .int _,e=>by cases e<;>simp[toPy,eqD,PyData.eqv]
 | .str _,e=>by cases e<;>simp[toPy,eqD,PyData.eqv]
 | .lst xs,.lst ys=>by rw[toPy,toPy,PyData.eqv,eqD];exact Nk xs ys
 | .tup xs,.tup ys=>by rw[toPy,toPy,PyData.eqv,eqD];exact Nk xs ys
 | .lst _,.non=>by simp[toPy,eqD,PyData.eqv]
 | .lst _,.bl _=>by simp[toPy,eqD,PyData.eqv]
 | .lst _,.int _=>by simp[toPy,eqD,PyData.eqv]
 | .lst _,.str _=>by simp[toPy,eqD,PyData.eqv]
 | .lst _,.tup _=>by simp[toPy,eqD,PyData.eqv]
 | .tup _,.non=>by simp[toPy,eqD,PyData.eqv]
 | .tup _,.bl _=>by simp[toPy,eqD,PyData.eqv]
 | .tup _,.int _=>by simp[toPy,eqD,PyData.eqv]
 | .tup _,.str _=>by simp[toPy,eqD,PyData.eqv]
 | .tup _,.lst _=>by simp[toPy,eqD,PyData.eqv]
theorem Nk:∀ ds es:List Dt,PyData.eqvAll (Xa ds) (Xa es)=Oo ds es
 | [],[]=>by simp[Xa,Oo,PyData.eqvAll]
 | [],_ :: _=>by simp[Xa,Oo,PyData.eqvAll]
 | _ :: _,[]=>by simp[Xa,Oo,PyData.eqvAll]
 | d :: ds,e :: es=>by rw[Xa,Xa,PyData.eqvAll,Oo,Kd d e,Nk ds es]
end
mutual
theorem Is.reads(I:Inv X pins σ H s):∀ {d:Dt} {x:V} {u:Value},Is X.K H x d->RelV x u->∃ as,Reads s.heap u (toPy d) as
 | _,_,_,.non,r=>by cases r;exact⟨_,.none⟩
 | _,_,_,.bl b,r=>by cases r;exact⟨_,.bool b⟩
 | _,_,_,.int i,r=>by obtain⟨t,rfl⟩:=r;exact⟨_,.int i t⟩
 | _,_,_,.str i,r=>by obtain⟨t,rfl⟩:=r;exact⟨_,.str i t⟩
 | _,_,_,.lst h hs,r=>by
   cases r;obtain⟨its,r1,⟨o,n',e1,e2,e3,e4⟩,_⟩:=I.list h;obtain⟨as,q⟩:=X3.reads I hs r1;rw[toPy];exact⟨_,.list e1 e2 e4 (by simpa using q)⟩
 | _,_,_,.tup h hs,r=>by
   cases r;obtain⟨its,r1,⟨o,e1,e2,n',e4⟩,_⟩:=I.tuple h;obtain⟨as,q⟩:=X3.reads I hs r1;rw[toPy];exact⟨_,.tuple e1 e2 e4 (by simpa using q)⟩
theorem X3.reads(I:Inv X pins σ H s):∀ {ds:List Dt} {xs:List V} {us:List Value},X3 X.K H xs ds->Vals xs us->∃ as,ReadsAll s.heap us (Xa ds) as
 | _,_,_,.nil,r=>by cases r;exact⟨_,.nil⟩
 | _,_,_,.cons h t,r=>by
   cases r with
   | cons r1 r2 =>
     obtain⟨as,q1⟩:=Is.reads I h r1;obtain⟨bs,q2⟩:=X3.reads I t r2;exact⟨_,.cons q1 q2⟩
end
def shD(d:Dt):Prop:=SeqAt.shaped (toPy d)=true
inductive zij(K:Frag)(neg:Bool)(x:V)(y:V)(H:Hp)(Q:VK):Prop where
 | mk(d)(e)(_:Is K H x d)(_:Is K H y e)(_:shD d)(_:shD e)(_:Q (.bl (if neg then !eqD d e else eqD d e)) H)
theorem zgo(hu:X.A.units+64<cLine):OpR X (compareOp .NotEq) (zij X.K true):=by
 intro pins s σ H x y v u Q I rx ry h;obtain⟨d,e,h1,h2,s1,s2,q⟩:=h;obtain⟨as,r1⟩:=h1.reads I rx;obtain⟨bs,r2⟩:=h2.reads I ry;exact ne_dataH r1 r2 s1 s2 hu (by rw[Kd];exact⟨.bl _,H,I,rfl,q⟩)
end
mutual
theorem Is.same{K:Frag}{H H':Hp}(e:Same H H'):∀ {d:Dt} {x:V},Is K H x d->Is K H' x d
 | _,_,.non=>.non
 | _,_,.bl b=>.bl b
 | _,_,.int i=>.int i
 | _,_,.str i=>.str i
 | _,_,.lst h hs=>.lst (e.seq h) (X3.same e hs)
 | _,_,.tup h hs=>.tup (by
   rcases h with (h|⟨o,h⟩)|h
   ·exact .inl (.inl (e _ _ h))
   ·exact .inl (.inr ⟨o,e _ _ h⟩)
   ·exact .inr h) (X3.same e hs)
theorem X3.same{K:Frag}{H H':Hp}(e:Same H H'):∀ {ds:List Dt} {xs:List V},X3 K H xs ds->X3 K H' xs ds
 | _,_,.nil=>.nil
 | _,_,.cons h t=>.cons (Is.same e h) (X3.same e t)
end
section
variable{P:Program}{w:World}{K:Frag}{mg:Str->Option Value}{base:Heap}{x m:Str}{k j:Nat}{ps:List Str}{sp:Sp}{C:Addr}
def Yh(P:Program)(w:World)(K:Frag)(mg:Str->Option Value)(base:Heap)(x:Str)(k:Nat)(ps:List Str)(sp:Sp):Prop :=
 ∃ (f:Addr) (fd:FuncData),FnOk P w K mg base (CX1 P w) k f fd ps sp/\mg x=some (.ref f)/\PySem.W.keepIn K (.ref f)=true/\Sn K fd ps []
def Zv(P:Program)(w:World)(K:Frag)(mg:Str->Option Value)(base:Heap)(C:Addr)(m:Str)(k:Nat)(ps:List Str)(sp:Sp):Prop :=
 ∃ (f:Addr) (fd:FuncData),FnOk P w K mg base (CX1 P w) k f fd ps sp/\zb1 K C m f/\Sn K fd ps []
def T3(P:Program)(w:World)(K:Frag)(mg:Str->Option Value)(base:Heap)(x:Str)(C:Addr)(k:Nat)(ps:List Str)(sp:Sp):Prop :=
 ∃ (f:Addr) (fd:FuncData),FnOk P w K mg base (CX1 P w) k f fd ps sp/\Mk K C f/\mg x=some (.ref C)/\Sn K fd ps []
theorem zco:Wo (CX1 P w) X E0:=fun _ _ _ _ _ _ _ h=>by obtain⟨_,_,_,_,_,_,_,_,_,_,z⟩:=h;exact z.elim
structure zjz(K:Frag)(mg:Str->Option Value)(x:Str)(st:Stmt)(f:Addr)(fd:FuncData):Prop where
 fn:Fun K x x st f fd
 nm:mg x=some (.ref f)
end
section
variable{X:Cx}{k:Nat}{C:Addr}{ps:List Str}{sp:Sp}{E:XK}{x m:Str}{p pos apos:Pos}{e o:Expr}{es:List Expr}{ta:TE}{t:TA}
theorem Ag(D:Yh X.prog X.w X.K X.mg X.base x k ps sp)(hr:Wt k X.A)(hx:Wo (CX1 X.prog X.w) X E)(hg:Gl X x)(ha:PA X (e :: es) t)(hdb:(x == ("__debug__":Str))=false:=by decide)
  (he:starEach (e :: es) X.env=(false,eval e X.env) :: starEach es X.env:=by rfl) (hpl:(backTo pos (starEach es X.env)).any (·.1)=false:=by rfl):PE X (.Call (.Name x p) (e :: es) [] pos) (zb2 sp [] E t):=by
 obtain⟨f,fd,F,hm,kp,b⟩:=D;exact zd6 F hr hg hm kp b .nil hx ha hdb he hpl
theorem Xt(he:PE X o ta)(c:Cls X.K C)(M:Zv X.prog X.w X.K X.mg X.base C m k ps sp)(hr:Wt k X.A)(hx:Wo (CX1 X.prog X.w) X E)(ha:PA X (e :: es) t)
  (hst:starEach (e :: es) X.env=(false,eval e X.env) :: starEach es X.env:=by rfl) (hpl:(backTo pos (starEach es X.env)).any (·.1)=false:=by rfl)
  (ht:eval (.Call (.Attribute o m apos) (e :: es) [] pos) X.env=(do
   let ov <- eval o X.env
   standAt apos.atName
   let (f,first) <- holding [ov] (getMethod ov m pl)
   callWith pos f first (backTo pos (starEach (e :: es) X.env)) (backToKw pos (keywordEach [] X.env))):=by rfl):PE X (.Call (.Attribute o m apos) (e :: es) [] pos) (B6 C m sp [] E ta t):=by
 obtain⟨f,fd,F,hm,b⟩:=M;exact zd7 he c hm F hr b .nil hx ha hst hpl ht
theorem Yk(he:PE X o ta)(c:Cls X.K C)(M:Zv X.prog X.w X.K X.mg X.base C m k ps sp)(hr:Wt k X.A)(hx:Wo (CX1 X.prog X.w) X E)
  (ht:eval (.Call (.Attribute o m apos) [] [] pos) X.env=(do
   let ov <- eval o X.env
   standAt apos.atName
   let (f,first) <- holding [ov] (getMethod ov m pl)
   callWith pos f first (backTo pos (starEach [] X.env)) (backToKw pos (keywordEach [] X.env))):=by rfl):PE X (.Call (.Attribute o m apos) [] [] pos) (B6 C m sp [] E ta tNil):=by
 obtain⟨f,fd,F,hm,b⟩:=M;exact zb3 he c hm F hr b .nil hx ht
theorem Fs(M:T3 X.prog X.w X.K X.mg X.base x C k ps sp)(hr:Wt (k+1) X.A)(hx:Wo (CX1 X.prog X.w) X E)(hg:Gl X x)(ha:PA X (e :: es) t)(hdb:(x == ("__debug__":Str))=false:=by decide)
  (he:starEach (e :: es) X.env=(false,eval e X.env) :: starEach es X.env:=by rfl) (hpl:(backTo pos (starEach es X.env)).any (·.1)=false:=by rfl):PE X (.Call (.Name x p) (e :: es) [] pos) (B7 C sp [] E t):=by
 obtain⟨f,fd,F,mk,hm,b⟩:=M;exact zd8 mk F hr hg hm b .nil hx ha hdb he hpl
theorem Ah(M:T3 X.prog X.w X.K X.mg X.base x C k ps sp)(hr:Wt (k+1) X.A)(hx:Wo (CX1 X.prog X.w) X E)(hg:Gl X x)(hdb:(x == ("__debug__":Str))=false:=by decide):PE X (.Call (.Name x p) [] [] pos) (B7 C sp [] E tNil):=by
 obtain⟨f,fd,F,mk,hm,b⟩:=M;exact zb4 mk F hr hg hm b .nil hx hdb
theorem Xk(hg:Gl X x)(hm:∃ t,X.mg x=some (.int i t))(hd:(x == ("__debug__":Str))=false:=by decide):PE X (.Name x pos) (tC (.int i)):=by
 obtain⟨t,hm⟩:=hm;exact B2 hg hm ⟨t,rfl⟩ hd
theorem Xv(hg:Gl X x)(hm:X.mg x=some (.ref C))(hd:(x == ("__debug__":Str))=false:=by decide):PE X (.Name x pos) (tC (.ref C)):=B2 hg hm (show RelV (.ref C) (.ref C) from rfl) hd
end
inductive zik(te:TE)(D:Og)(σ:L2.St)(x:V)(H1:Hp):Prop where
 | mk(l)(xs)(_:x=.ref l)(_:H1 l=some (.lst xs))(_:te σ H1 fun y H2=>∃ ys,H2 l=some (.lst ys)/\ys.length<sizeLine/\D.nx σ (upd H2 l (.lst (ys++[y]))))
def tApp(to te:TE):TS:=fun D σ H=>to σ H fun x H1=>zik te D σ x H1
theorem Yt(ho:PE X o to)(he:PE X e te)(hbase:attributeBase o "append" X.env (eval o X.env)=eval o X.env:=by rfl)
  (hst:starEach [e] X.env=[(false,eval e X.env)]:=by rfl)
  (hline:(apos.endLine == cpos.line)=true:=by rfl) (hs:swapsWith (.Call (.Attribute o "append" apos) [e] [] cpos) none pos.line X.env=pure false:=by rfl):PS X (.Expr (.Call (.Attribute o "append" apos) [e] [] cpos) pos) (tApp to te):=by
 intro pins s σ H D I h;refine wpAny_Expr ?_ I.quiet;refine wpAny_Call_method_late hbase (by rw[hst];rfl) hline rfl (thn (ho pins s σ H _ I h) fun v s1 ⟨x,H1,I1,r1,l,xs,e1,hl,q1⟩=>?_);subst e1;obtain⟨h1,h2⟩:=Bc (T:="list") I1 r1 (.inl ⟨rfl,_,SqL.of hl⟩);refine⟨"list","list.append",PySem.F.plainAttrs_list,PySem.F.slot_list_append,PySem.F.type_list_append,h1,h2,?_⟩;rw[hst];refine Calls.callWith_builtin rfl (Calls.evalArgs_plain ?_);refine Calls.spliced_cons (thn (he pins s1 σ H1 _ I1 q1) fun u s2 ⟨y,H2,I2,r2,ys,hl2,hz,q2⟩=>Calls.spliced_nil ?_);refine thn (zak pins s2 σ H2 (.ref l) [y] v [u] (fun v H3=>v=.non/\D.nx σ H3) I2 r1 (.cons r2 .nil) ⟨l,ys,y,rfl,rfl,hl2,hz,rfl,q2⟩) fun z s3 ⟨zv,H3,I3,rz,ez,q3⟩=>?_;subst ez;cases rz;exact⟨σ,H3,I3,q3⟩
section
variable{X:Cx}{K:Frag}
theorem zcp(hK:X.K=K):IxR X (zgd K):=hK▸zeh
theorem zen(hK:X.K=K):IxR X (zge K):=hK▸zgf
theorem Jx(hK:X.K=K):V2 X (.builtin "len") (fun xs H Q=>∃ p ys,xs=[.ref p]/\(SqL K H p ys\/SqT K H p ys)/\Q (.int ys.length) H):=hK▸Fl
theorem X0(hK:X.K=K):V2 X (.type "list") (fun xs H Q=>∃ p ys,xs=[.ref p]/\(SqL K H p ys\/SqT K H p ys)/\∀ l,H l=none->Q (.ref l) (upd H l (.lst ys))):=hK▸Fm
theorem Yb(hK:X.K=K):V2 X (.builtin "isinstance") (rIsI K):=hK▸zck
theorem Pn(hK:X.K=K):OpR X (compareOp .In) (rIn K false):=hK▸zaj
theorem Jy(hK:X.K=K):OpR X (compareOp .NotIn) (rIn K true):=hK▸Fj
theorem zeo(hK:X.K=K)(hu:X.A.units+64<cLine):OpR X (compareOp .NotEq) (zij K true):=hK▸zgo hu
theorem Ke(hK:X.K=K):SlR X (zid K):=hK▸zei
variable{o e l tg value a:Expr}{f:Str}{pos pos':Pos}{ta tv tl:TE}{es:List Expr}{k n:Nat}{t:TGs}
theorem Zp(hK:X.K=K)(he:PE X e ta)(hb:attributeBase e f X.env (eval e X.env)=eval e X.env):PE X (.Attribute e f pos) (zhy K ta f):=hK▸zf1 he hb
theorem Yx(hK:X.K=K)(ha:PE X o ta)(hv:PE X value tv)(hs:swapsWith value (some (.Attribute o f pos')) pos.line X.env=pure false):PS X (.Assign [.Attribute o f pos'] value pos) (zh0 K ta tv f):=hK▸zf2 ha hv hs
theorem Yz(hK:X.K=K)(hl:PE X l tl):PI X tg l (ze9 K tl):=hK▸zd1 hl
theorem Ug(hK:X.K=K)(hc:X.calm=true)(h:PGs X es t)(hn:(assignEach es X.env).length=n:=by rfl)(hst:(assignEach es X.env).findIdx? (·.1)=none:=by rfl):PG X (.Tuple es k pos) (zhs K n t):=hK▸zfv hc h hn hst
theorem Gi(hK:X.K=K)(ha:PE X a ta)(he:∀ whole,isTrue a X.env whole=(do let v <- whole;standAt a.pos;holding [v] (truthy v))):PT X a (fun σ H Q=>ta σ H fun x H'=>∃ k,TruV K x H' k/\Q k H'):=hK▸zbx ha he
end
section
variable{X:Cx}{K:Frag}
theorem zil(r:Vals [x,y,z] us):∃ u v w',us=[u,v,w']/\RelV x u/\RelV y v/\RelV z w':=by
 cases r with
 | cons r1 r2 =>
   obtain⟨u,v,rfl,a,b⟩:=zby r2;exact⟨_,_,_,rfl,r1,a,b⟩
theorem zar(hc:X.calm=true):V2 X (.builtin "min") (fun xs H Q=>∃ i j k,xs=[.int i,.int j,.int k]/\Q (.int (if j<i then (if k<j then k else j) else (if k<i then k else i))) H):=by
 intro pins s σ H xs us Q I r h;obtain⟨i,j,k,rfl,q⟩:=h;obtain⟨u,v,w',rfl,⟨t,rfl⟩,⟨t',rfl⟩,⟨t'',rfl⟩⟩:=zil r;refine min_three_ints (I.ok.hd hc) fun h' tk kp=>⟨_,H,I.kept kp,?_,q⟩
 by_cases h1:j<i
 ·rw[if_pos h1,if_pos h1];by_cases h2:k<j
  ·rw[if_pos h2,if_pos h2];exact⟨_,rfl⟩
  ·rw[if_neg h2,if_neg h2];exact⟨_,rfl⟩
 ·rw[if_neg h1,if_neg h1];by_cases h2:k<i
  ·rw[if_pos h2,if_pos h2];exact⟨_,rfl⟩
  ·rw[if_neg h2,if_neg h2];exact⟨_,rfl⟩
theorem Ai:∀ {bs:List Bool} {its:List Value} {i:Nat} {v:Value},Vals (bs.map V.bl) its->its[i]?=some v->∃ b,bs[i]?=some b/\v=.bool b
 | [],_,_,_,.nil,e=>by simp at e
 | b :: bs,_,0,v,.cons r t,e=>⟨b,rfl,by
     have e:_=v:=Option.some.inj e;rw[<- e];exact r⟩
 | b :: bs,_,i+1,v,.cons r t,e=>Ai (i:=i) t e
theorem Jz:∀ (bs:List Bool),((List.range bs.length).any fun i=>(bs[i]?).getD false)=bs.any id:=fun bs=>by
 rw[zuo,zui,zui];constructor
 ·rintro⟨i,hi,e⟩;have hi:=zti.mp hi;rw[zsi hi] at e;exact⟨_,ztm hi,e⟩
 ·rintro⟨b,hb,e⟩;obtain⟨i,hi,rfl⟩:=ztw hb;exact⟨i,zti.mpr hi,by rw[zsi hi];exact e⟩
theorem zas(hK:X.K=K)(hc:X.calm=true):V2 X (.builtin "any") (fun xs H Q=>∃ (l:Addr) (bs:List Bool),xs=[.ref l]/\SqL K H l (bs.map V.bl)/\Q (.bl (bs.any id)) H):=by
 subst hK;intro pins s σ H xs us Q I r h;obtain⟨l,bs,rfl,hl,q⟩:=h;obtain⟨u,rfl,ru⟩:=R1 r;cases ru;obtain⟨its,r',pl,hz⟩:=I.list hl;have hlen:its.length=bs.length:=by have:=r'.length;rw[zsg] at this;exact this.symm
 have hil:=pl.isList;have hlt:l<s.heap.objs.size:=by obtain⟨_,e,_⟩:=hil;exact Heap.lt_size e
 refine call_any_walk (wpAny_pyIter_list hil ?_);refine⟨s.heap.objs.size,[s.heap.objs.size,l],[s.heap.objs.size],its.toArray.size,_,_,fun i=>(bs[i]?).getD false,rfl,Walks.list (A:=X.A.in1) (I.ok.hd hc) _ l (zs9 hlt) its.toArray,
  ⟨⟨_,Heap.get?_push_size _ rfl,rfl,rfl⟩,hil.push _⟩,fun i v s' Q' E' hP hQ=>?_,fun h' tk hk=>?_⟩
 ·obtain⟨b,e,rfl⟩:=Ai r' (by simpa using hP);simp only[e,Option.getD_some] at hQ;exact wpAny_truthy_bool hQ
 ·have e:((List.range its.toArray.size).any fun i=>(bs[i]?).getD false)=bs.any id:=by
   rw[zss,hlen];exact Jz bs
  rw[e];refine⟨.bl (bs.any id),H,I.kept fun b o eb=>?_,rfl,q⟩;refine hk b o (fun hm=>?_) (Heap.get?_push_of_some _ eb);rw[zsl.mp hm] at eb;exact zt0 _ (Heap.lt_size eb)
theorem Kf(hK:X.K=K):V2 X (.type "tuple") (fun xs H Q=>∃ p ys,xs=[.ref p]/\((SqL K H p ys/\∀ l,H l=none->Q (.ref l) (upd H l (.tup ys)))\/(SqT K H p ys/\Q (.ref p) H))):=hK▸Ju
end
end L2
namespace G
open PySem PySem.Spec PyProof.Rows L2
theorem sz1:1<=sizeLine:=by decide
theorem sz2:2<=sizeLine:=by decide
theorem sz3:3<=sizeLine:=by decide
theorem sz4:4<=sizeLine:=by decide
theorem szN(h:n<=1000):n<=sizeLine:=Nat.le_of_lt (Qt h)
theorem itD{p:Prop}[Decidable p]{A B:Prop}(h1:p->A)(h2:¬ p->B):if decide p=true then A else B:=by
 by_cases h:p
 ·rw[zsm h,if_pos rfl];exact h1 h
 ·rw[zsr h,if_neg ⋯];exact h2 h
theorem itB{b:Bool}{A B:Prop}(h1:b=true->A)(h2:b=false->B):if b=true then A else B:=by
 cases b
 ·exact iteF (h2 rfl)
 ·exact iteT (h1 rfl)
theorem Kg:decide (V.int i=V.int j)=decide (i=j):=by
 by_cases h:i=j
 ·subst h;simp
 ·rw[zsr h,zsr (fun z=>h (V.int.inj z))]
theorem itV{i j:Int}{A B:Prop}(h1:i=j->A)(h2:¬ i=j->B):if decide (V.int i=V.int j)=true then A else B:=by
 rw[Kg];exact itD h1 h2
theorem Ze(h:H p=none):Same H (upd H p o):=fun b u e=>by rw[Zi (Zh e h)];exact e
def Z8(i:Int):Prop:=i.natAbs.log2<1920
theorem Yf(h:i.natAbs<=10 ^ 60):Z8 i:=by
 unfold Z8;by_cases h0:i.natAbs=0
 ·rw[h0];decide
 ·exact(Nat.log2_lt h0).mpr (zt3 h ⋯)
theorem Yd(h:-1000<=i)(h':i<=1000):Z8 i:=Yf (zs3 (show i.natAbs<=1000 by omega) ⋯)
theorem Uj{xs:List Int}{i:Int}(h0:0<=i)(h1:i<xs.length):atI (xs.map V.int) i=some (.int (xs.getD i.toNat 0)):=by
 obtain⟨k,rfl⟩:∃ k:Nat,i=k:=⟨i.toNat,by omega⟩;refine Y3 ?_;have hk:k<xs.length:=by omega
 rw[zsn,zsi hk,ztq,zs7,zta,zsi hk];rfl
theorem R8(h1:∀ Q:Bool->Hp->Prop,Q b H->t σ H Q)(h2:∀ Q:Bool->Hp->Prop,Q c H->u σ H Q)(Q:Bool->Hp->Prop)(h:Q (b||c) H):tOr t u σ H Q:=by
 refine h1 _ ?_;cases b with
 | true=>exact h
 | false=>exact h2 _ h
theorem Uh(h1:∀ Q:Bool->Hp->Prop,Q b H->t σ H Q)(h:if b=true then A D σ H else B D σ H):zaa t A B D σ H:=h1 _ h
theorem Yn(h:A { D with nx:=B D } σ H):Z0 A B D σ H:=h
theorem Dd(J:L2.St->Hp->Prop)(hc:∀ Q:Bool->Hp->Prop,Q b H->c σ H Q)(h1:b=true->∀ N:L2.St->Hp->Prop,(∀ σ' H',J σ' H'->N σ' H')->t { D with nx:=N } σ H)
  (h2:b=false->∀ N:L2.St->Hp->Prop,(∀ σ' H',J σ' H'->N σ' H')->e { D with nx:=N } σ H) (h3:∀ σ' H',J σ' H'->u D σ' H'):Z0 (zaa c t e) u D σ H:=by
 refine hc _ ?_;cases b with
 | true=>rw[if_pos rfl];exact h1 rfl _ h3
 | false=>rw[if_neg ⋯];exact h2 rfl _ h3
theorem Zu(h:D.nx σ H):zbq D σ H:=h
theorem Kh{K:Frag}{C:Addr}{v:Value}{r:Bool}(e:PySem.W.mroIn K C v=some r):(PySem.W.clsIn K C).isSome=true:=by
 obtain⟨cd,h,_⟩:=Option.bind_eq_some_iff.mp e;rw[h];rfl
theorem zgp(K:Frag):PySem.W.kitOne K (.type "int") (.type "int")=some true:=rfl
theorem zgq(K:Frag):PySem.W.kitOne K (.type "int") (.type "bool")=some false:=by with_unfolding_all rfl
theorem zcq(K:Frag):PySem.W.kitOne K (.type "list") (.type "list")=some true:=rfl
theorem zgr(K:Frag):PySem.W.kitOne K (.type "tuple") (.type "tuple")=some true:=rfl
theorem zgs(K:Frag):PySem.W.kitOne K (.type "str") (.type "str")=some true:=rfl
inductive Zy(H:Hp):List V->List (List V)->Prop where
 | nil:Zy H [] []
 | cons {t:Addr} {r:List V} {ts:List V} {R:List (List V)} (h:H t=some (.tup r)) (q:Zy H ts R):Zy H (.ref t :: ts) (r :: R)
theorem Zy.mono(k:∀ t xs,H t=some (.tup xs)->H' t=some (.tup xs)):∀ {ts:List V} {R:List (List V)},Zy H ts R->Zy H' ts R
 | _,_,.nil=>.nil
 | _,_,.cons h r=>.cons (k _ _ h) (Zy.mono k r)
theorem Zy.same(e:Same H H')(h:Zy H ts R):Zy H' ts R:=h.mono fun t xs q=>e _ _ q
theorem Zy.length:∀ {ts:List V} {R:List (List V)},Zy H ts R->ts.length=R.length
 | _,_,.nil=>rfl
 | _,_,.cons _ r=>by simp[Zy.length r]
theorem Zy.snoc(h:H t=some (.tup x)):∀ {ts:List V} {R:List (List V)},Zy H ts R->Zy H (ts++[.ref t]) (R++[x])
 | _,_,.nil=>.cons h .nil
 | _,_,.cons h' r=>.cons h' (Zy.snoc h r)
theorem Zy.get:∀ {ts:List V} {R:List (List V)} {i:Nat} {x:V},Zy H ts R->ts[i]?=some x->∃ t r,x=.ref t/\R[i]?=some r/\H t=some (.tup r)
 | _,_,_,_,.nil,e=>by simp at e
 | _,_,0,_,.cons h _,e=>by simp at e;subst e;exact⟨_,_,rfl,rfl,h⟩
 | _,_,i+1,x,.cons _ r,e=>by
   obtain⟨t,n,h1,h2,h3⟩:=Zy.get (i:=i) (x:=x) r (by simpa using e);exact⟨t,n,h1,by simpa using h2,h3⟩
theorem Zy.getR:∀ {ts:List V} {R:List (List V)} {i:Nat} {r:List V},Zy H ts R->R[i]?=some r->∃ t,ts[i]?=some (.ref t)/\H t=some (.tup r)
 | _,_,_,_,.nil,e=>by simp at e
 | _,_,0,_,.cons h _,e=>by simp at e;subst e;exact⟨_,rfl,h⟩
 | _,_,i+1,x,.cons _ r,e=>by
   obtain⟨t,h1,h2⟩:=Zy.getR (i:=i) (r:=x) r (by simpa using e);exact⟨t,by simpa using h1,h2⟩
inductive Ft(vs:List V)(H:Hp)(Q:VK)(_:XK):Prop where
 | mk(i)(_:vs=[.int i])(_:Q (.bl true) H)
def V3(ns:List Int)(k:Nat):Int:=(ns[k]?).getD 0
inductive zim(K:Frag)(vs:List V)(H:Hp)(Q:VK)(_:XK):Prop where
 | mk(b:Addr)(ns:List Int)(k:Nat)(_:vs=[.ref b,.int k])(_:SqL K H b (ns.map V.int))(_:Q (.int (V3 ns k)) H)
def zgt(c k:Int):Int:=(c*48271+k)%2147483647
def zin(c k:Int):Int:=(zgt c k*69621+7*k)%2147483629
def zjq(c k:Int):Int:=(zin c k*39373+zgt c k)%2147483587
def zgu(c k:Int):Int:=(zgt c k*2147483647+zin c k)*2147483647+zjq c k
inductive zfh(vs:List V)(H:Hp)(Q:VK)(_:XK):Prop where
 | mk(c)(k)(_:vs=[.int c,.int k])(_:Q (.int (zgu c k)) H)
def stp(c:Int):Int:=([1,2,5,10,100,500,998]:List Int).getD (c%7).toNat 0
def zat(c:Int)(j:Nat):Int:=1+(c/7+stp c*(j:Int))%999
def Oq(c:Int)(many:Nat):List Int:=(List.range many).map (zat c)
inductive Ki(vs:List V)(H:Hp)(Q:VK)(_:XK):Prop where
 | mk(c:Int)(many:Nat)(_:vs=[.int c,.int many])(_:many<=1000)(_:∀ l H',H' l=some (.lst ((Oq c many).map V.int))->Same H H'->H l=none->Q (.ref l) H')
def Fu(c:Int):Int:=([1,2,5,10,50,97,98]:List Int).getD (c%7).toNat 0
def Gj(c:Int)(j:Nat):Int:=1+(c/7+Fu c*(j:Int))%99
def Rf(c:Int)(many:Nat):List Int:=(List.range many).map (Gj c)
inductive Aj(vs:List V)(H:Hp)(Q:VK)(_:XK):Prop where
 | mk(c:Int)(many:Nat)(_:vs=[.int c,.int many])(_:many<=1000)(_:∀ l H',H' l=some (.lst ((Rf c many).map V.int))->Same H H'->H l=none->Q (.ref l) H')
def oneV(x:V):Prop:=x=.non\/∃ i,x=.int i
inductive Fv(vs:List V)(H:Hp)(Q:VK)(_:XK):Prop where
 | mk(x)(_:vs=[x,x])(_:oneV x)(_:Q (.bl true) H)
inductive De(K:Frag)(vs:List V)(H:Hp)(Q:VK)(_:XK):Prop where
 | mk(b c:Addr)(xs:List V)(_:vs=[.ref b,.ref c])(_:H b=some (.lst xs))(_:SqL K H c xs)(_:(∀ x∈xs,oneV x))(_:xs.length<=1000)(_:Q (.bl true) H)
inductive Ak(K:Frag)(vs:List V)(H:Hp)(Q:VK)(_:XK):Prop where
 | mk(b:Addr)(ns:List Int)(_:vs=[.ref b])(_:SqL K H b (ns.map V.int))(_:ns.length<=63)(_:∀ H',Q (.bl true) H')
structure Row where
 h:Int
 g:Int
 d:Int
 w:Option Int
def oV:Option Int->V
 | none=>.non
 | some n=>.int n
def Fw(r:Row):List V:=[.int r.h,.int r.g,.int r.d,oV r.w]
theorem zgv(o:Option Int):oneV (oV o):=by
 cases o with
 | none=>exact .inl rfl
 | some n=>exact .inr ⟨n,rfl⟩
theorem zgw{H:Hp}{ts:List V}{rs:List Row}{i:Nat}{x:V}(h:Zy H ts (rs.map Fw))(e:ts[i]?=some x):∃ t r,x=.ref t/\rs[i]?=some r/\H t=some (.tup (Fw r)):=by
 obtain⟨t,r,h1,h2,h3⟩:=h.get e;rw[zsn] at h2;cases q:rs[i]? with
 | none=>rw[q] at h2;cases h2
 | some m=>rw[q] at h2;cases h2;exact⟨t,m,h1,rfl,h3⟩
def hit(n c:Int)(r:Row):Bool:=decide (r.w=some n)&&(decide (r.h=c)||decide (r.g=c))
def Df(n c:Int)(Rs:List (List Row)):Nat×Nat:=Rs.foldl (fun p rs=>(p.1+1,if rs.any (hit n c) then p.1+1 else p.2)) (0,0)
def metS(Rs:List (List Row))(n c:Int):Nat:=(Df n c Rs).2
theorem zcr(n c:Int)(Rs:List (List Row)):(Df n c Rs).1=Rs.length:=by
 have h:∀ (Rs:List (List Row)) (p:Nat×Nat),(Rs.foldl (fun p rs=>(p.1+1,if rs.any (hit n c) then p.1+1 else p.2)) p).1=p.1+Rs.length:=fun Rs=>by
  induction Rs with
  | nil=>intro p;rfl
  | cons r Rs ih=>intro p;rw[List.foldl_cons,ih,zs4];simp only;omega
 have:=h Rs (0,0);unfold Df;rw[this];simp
theorem zau(Rs:List (List Row))(rs:List Row)(n c:Int):metS (Rs++[rs]) n c=if rs.any (hit n c) then Rs.length+1 else metS Rs n c:=by
 unfold metS;have e:Df n c (Rs++[rs])=((Df n c Rs).1+1,if rs.any (hit n c) then (Df n c Rs).1+1 else (Df n c Rs).2):=by
  unfold Df;rw[List.foldl_append];rfl
 rw[e,zcr]
def Meets(kvs:List (List Key×V))(f:Int->Int->Nat):Prop:=∀ n c:Int,valV kvs [inl n,inl c]=if f n c=0 then none else some (.int (f n c))
inductive Q6(H:Hp):List V->List (List Row)->Prop where
 | nil:Q6 H [] []
 | cons {t:Addr} {ts rs:List V} {r:List Row} {R:List (List Row)} (h:H t=some (.tup ts)) (q:Zy H ts (r.map Fw)) (n:Q6 H rs R):Q6 H (.ref t :: rs) (r :: R)
theorem Q6.mono(k:∀ t xs,H t=some (.tup xs)->H' t=some (.tup xs)):∀ {ts:List V} {R:List (List Row)},Q6 H ts R->Q6 H' ts R
 | _,_,.nil=>.nil
 | _,_,.cons h q r=>.cons (k _ _ h) (q.mono k) (Q6.mono k r)
theorem Q6.length:∀ {ts:List V} {R:List (List Row)},Q6 H ts R->ts.length=R.length
 | _,_,.nil=>rfl
 | _,_,.cons _ _ r=>by simp[Q6.length r]
theorem Q6.snoc(h:H t=some (.tup xs))(q:Zy H xs (x.map Fw)):∀ {ts:List V} {R:List (List Row)},Q6 H ts R->Q6 H (ts++[.ref t]) (R++[x])
 | _,_,.nil=>.cons h q .nil
 | _,_,.cons h' q' r=>.cons h' q' (Q6.snoc h q r)
def tot(Rs:List (List Row)):Nat:=(Rs.map List.length).sum
theorem zcs(Rs:List (List Row))(rs:List Row):tot (Rs++[rs])=tot Rs+rs.length:=by unfold tot;rw[zsp,List.sum_append];simp
structure Uk(C:Addr)(H:Hp)(p lr ld:Addr)(Rs:List (List Row)):Prop where
 at_:∃ dx,H p=some (.ins C dx [("rounds",.ref lr),("meetings",.ref ld)])
 rd:∃ rs,H lr=some (.lst rs)/\Q6 H rs Rs
 mt:∃ kvs,H ld=some (.dT kvs)/\Meets kvs (metS Rs)/\kvs.length<=2*tot Rs
theorem Uk.same{C:Addr}{H H':Hp}{p lr ld:Addr}{Rs:List (List Row)}(h:Uk C H p lr ld Rs)(e:Same H H'):Uk C H' p lr ld Rs:=by
 obtain⟨⟨dx,h1⟩,⟨rs,h2,h3⟩,⟨kvs,h4,h5⟩⟩:=h;exact⟨⟨dx,e _ _ h1⟩,⟨rs,e _ _ h2,h3.mono fun t xs q=>e _ _ q⟩,⟨kvs,e _ _ h4,h5⟩⟩
theorem Uk.keep{C:Addr}{H H':Hp}{p lr ld:Addr}{Rs:List (List Row)}(h:Uk C H p lr ld Rs)(ep:∀ o,H p=some o->H' p=some o)(er:∀ o,H lr=some o->H' lr=some o)(ed:∀ o,H ld=some o->H' ld=some o)(et:∀ t xs,H t=some (.tup xs)->H' t=some (.tup xs)):Uk C H' p lr ld Rs:=by
 obtain⟨⟨dx,h1⟩,⟨rs,h2,h3⟩,⟨kvs,h4,h5⟩⟩:=h;exact⟨⟨dx,ep _ h1⟩,⟨rs,er _ h2,h3.mono et⟩,⟨kvs,ed _ h4,h5⟩⟩
theorem Nl:List.lookup ("rounds":Str) ([("rounds",V.ref x),("meetings",V.ref y)]:List (Str×V))=some (.ref x):=by simp only[ztk,beq_self_eq_true]
theorem R9:List.lookup ("meetings":Str) ([("rounds",V.ref x),("meetings",V.ref y)]:List (Str×V))=some (.ref y):=by
 have e:(("meetings":Str) == "rounds")=false:=by decide +kernel
 simp only[ztk,e,beq_self_eq_true]
theorem Kj{x y:Addr}{m:Str}(h:¬ m="rounds")(h':¬ m="meetings"):List.lookup m ([("rounds",V.ref x),("meetings",V.ref y)]:List (Str×V))=none:=by
 have e:(m == "rounds")=false:=zs2.mpr h;have e':(m == "meetings")=false:=zs2.mpr h';simp only[ztk,e,e',List.lookup_nil]
inductive Al(C:Addr)(vs:List V)(H:Hp)(Q:VK)(_:XK):Prop where
 | mk(p)(dx)(_:vs=[.ref p])(_:H p=some (.ins C dx []))(_:∀ lr ld H',Uk C H' p lr ld []->(∀ b o,H b=some o->b≠p->H' b=some o)->H lr=none->H ld=none->lr≠ld->Q .non H')
inductive Nm(C:Addr)(vs:List V)(H:Hp)(Q:VK)(_:XK):Prop where
 | mk(p)(lr)(ld)(Rs)(_:vs=[.ref p])(_:Uk C H p lr ld Rs)(_:Q (.int (Rs.length:Nat)) H)
inductive zfi(C:Addr)(vs:List V)(H:Hp)(Q:VK)(_:XK):Prop where
 | mk(p)(lr)(ld)(Rs)(n)(c)(_:vs=[.ref p,.int n,.int c])(_:Uk C H p lr ld Rs)(_:∀ H',Same H H'->Q (.int (metS Rs n c:Nat)) H')
theorem Qv:([inl n,inl c]:List Key)=[inl n',inl c']↔n=n'/\c=c':=by
 constructor
 ·intro h;injection h with h1 h2;injection h2 with h2 _;exact⟨inl.inj h1,inl.inj h2⟩
 ·rintro⟨rfl,rfl⟩;rfl
theorem Meets.put(h:Meets kvs f)(n c:Int)(t:Nat)(ht:0<t):Meets (putK kvs [inl n,inl c] (.int t)) (fun n' c'=>if n'=n/\c'=c then t else f n' c'):=fun n' c'=>by
 rw[Sr];show _=if (if n'=n/\c'=c then t else f n' c')=0 then none else some (V.int ((if n'=n/\c'=c then t else f n' c':Nat):Int))
 by_cases e:n'=n/\c'=c
 ·rw[if_pos e,if_pos (Qv.mpr e),if_neg ⋯]
 ·rw[if_neg (fun z=>e (Qv.mp z)),if_neg e];exact h n' c'
def Nn(Rs:List (List Row))(rs:List Row)(i:Nat)(n c:Int):Nat:=if (rs.take i).any (hit n c) then Rs.length+1 else metS Rs n c
theorem zav(Rs:List (List Row))(rs:List Row):Nn Rs rs 0=metS Rs:=by funext n c;unfold Nn;simp
theorem zct(Rs:List (List Row))(rs:List Row):Nn Rs rs rs.length=metS (Rs++[rs]):=by funext n c;unfold Nn;rw[zs0,zau]
theorem Gk(e:rs[i]?=some r)(n c:Int):Nn Rs rs (i+1) n c=if hit n c r then Rs.length+1 else Nn Rs rs i n c:=by
 unfold Nn;rw[zto,e,List.any_append];cases h1:(rs.take i).any (hit n c)<;>cases h2:hit n c r<;>simp[h2]
theorem zaw(e:rs[i]?=some r)(h:r.w=none):Nn Rs rs (i+1)=Nn Rs rs i:=by
 funext n c
 rw[Gk e];have:hit n c r=false:=by unfold hit;rw[h];simp
 rw[this];simp
theorem zax(e:rs[i]?=some r)(h:r.w=some w) :
  (fun n c=>if n=w/\c=r.g then Rs.length+1 else (fun n c=>if n=w/\c=r.h then Rs.length+1 else Nn Rs rs i n c) n c)=Nn Rs rs (i+1):=by
 funext n c
 rw[Gk e];unfold hit;rw[h];show (if n=w/\c=r.g then Rs.length+1 else if n=w/\c=r.h then Rs.length+1 else Nn Rs rs i n c)=_;by_cases h1:n=w
 ·subst h1;by_cases h2:r.g=c
  ·rw[if_pos ⟨rfl,h2.symm⟩,if_pos (by simp[h2])]
  ·rw[if_neg (fun z=>h2 z.2.symm)];by_cases h3:r.h=c
   ·rw[if_pos ⟨rfl,h3.symm⟩,if_pos (by simp[h3])]
   ·rw[if_neg (fun z=>h3 z.2.symm),if_neg (by simp[h2,h3])]
 ·rw[if_neg (fun z=>h1 z.1),if_neg (fun z=>h1 z.1),if_neg (by simp;intro z;exact absurd z.symm h1)]
theorem zcu{C:Addr}{H1 H':Hp}{x dx lr ld:Addr}(hx:H1 x=none)(hdx:H1 dx=none)(ne:dx≠x)(k:∀ b o,upd (upd H1 dx (.own x)) x (.ins C dx []) b=some o->b≠x->H' b=some o)
  (h1:upd (upd H1 dx (.own x)) x (.ins C dx []) lr=none) (h2:upd (upd H1 dx (.own x)) x (.ins C dx []) ld=none):Same H1 H'/\H1 lr=none/\H1 ld=none:=by
 have fr:∀ {l:Addr},upd (upd H1 dx (.own x)) x (.ins C dx []) l=none->H1 l=none:=fun {l} q=>by
  have n1:l≠x:=fun z=>by rw[z,Zb] at q;cases q
  have n2:l≠dx:=fun z=>by rw[z,Zi ne,Zb] at q;cases q
  rw[Zi n1,Zi n2] at q;exact q
 refine⟨fun b o e=>k b o ?_ (Zh e hx),fr h1,fr h2⟩;rw[Zi (Zh e hx),Zi (Zh e hdx)];exact e
theorem zio{lr ld:Addr}:putF "meetings" (V.ref ld) [(("rounds":Str),V.ref lr)]=[(("rounds":Str),V.ref lr),(("meetings":Str),V.ref ld)]:=by
 show (if ("rounds":Str)="meetings" then _ else _)=_;rw[if_neg ⋯];rfl
theorem Xp(h:H l=none)(s:Same H H'):Same H (upd H' l o):=fun b u e=>by
 rw[Zi (Zh e h)];exact s b u e
theorem zcv(h:oneV x):Ss x=true:=by rcases h with rfl|⟨i,rfl⟩<;>rfl
inductive RLs(H:Hp):List Addr->List (List Row)->Prop where
 | nil:RLs H [] []
 | cons {l:Addr} {ts:List V} {ls:List Addr} {r:List Row} {R:List (List Row)} (h:H l=some (.lst ts)) (q:Zy H ts (r.map Fw)) (n:RLs H ls R):RLs H (l :: ls) (r :: R)
theorem J0(c:Int)(m:Nat):(Rf c m).length=m:=by unfold Rf;rw[zsg,ztl]
theorem Fx(c:Int)(m:Nat):(Oq c m).length=m:=by unfold Oq;rw[zsg,ztl]
structure L1(C:Addr)(H0:Hp)(p lr ld kR:Addr)(ls:List Addr)(R S:List (List Row))(H:Hp):Prop where
 base:Same H0 H
 led:Uk C H p lr ld R
 krs:H kR=some (.lst (ls.map V.ref))
 rls:RLs H ls S
 sep:∀ l∈ls,l≠lr/\l≠kR
structure C1(H0:Hp)(lr ld kR:Addr):Prop where
 fr:H0 lr=none
 fd:H0 ld=none
 fk:H0 kR=none
 rk:lr≠kR
def Dg(Rs:List (List Row))(n c rest:Int):Bool:=decide ((if (0:Int)>(Rs.length:Nat)-rest then 0 else ((Rs.length:Nat):Int)-rest)<(metS Rs n c:Nat))
inductive Dh(C:Addr)(vs:List V)(H:Hp)(Q:VK)(_:XK):Prop where
 | mk(p)(lr)(ld)(Rs)(n)(c)(rest)(_:vs=[.int n,.int c,.ref p,.int rest])(_:Uk C H p lr ld Rs)(_:∀ H',Same H H'->Q (.bl (Dg Rs n c rest)) H')
def bw(b:Bool)(w:Str):List Str:=if b then [w] else []
def Fy(Rs:List (List Row))(n g c h gu d:Int)(o:Bool)(rest:Int):List Str :=
 bw o "away"++(bw (decide (g<d)) "grade"++(bw (decide (c=h)||decide (c=gu)) "club"++bw (Dg Rs n h rest||Dg Rs n gu rest) "met"))
inductive Gm(K:Frag)(C:Addr)(vs:List V)(H:Hp)(Q:VK)(_:XK):Prop where
 | mk(t1 t2 p lr ld:Addr)(Rs:List (List Row))(n g c h gu d rest:Int)(o:Bool)(_:vs=[.ref t1,.ref t2,.bl o,.ref p,.int rest])(_:H t1=some (.tup [.int n,.int g,.int c]))(_:H t2=some (.tup [.int h,.int gu,.int d]))(_:Uk C H p lr ld Rs)(_:∀ l H',H' l=some (.lst ((Fy Rs n g c h gu d o rest).map V.str))->Same H H'->H l=none->Q (.ref l) H')
def Gr(c:TT)(σ:L2.St)(H:Hp)(b:Bool):Prop:=∀ Q:Bool->Hp->Prop,(∀ H1,Same H H1->Q b H1)->c σ H Q
theorem zcw(h1:Gr t σ H b)(h2:∀ H1,Same H H1->Gr u σ H1 c):Gr (tOr t u) σ H (b||c):=fun Q h=>by
 refine h1 _ fun H1 s1=>?_;cases b with
 | true=>exact h H1 s1
 | false=>exact h2 H1 s1 _ fun H2 s2=>h H2 (s1.trans s2)
theorem Fz(h:∀ Q:Bool->Hp->Prop,Q b H->c σ H Q):Gr c σ H b:=fun Q q=>h Q (q H (Same.refl H))
theorem Lo(hc:Gr c σ H b)(h0:H0 l=none)(s:Same H0 H)(hl:H l=some (.lst (xs.map V.str)))(hx:xs.length<=100)(hv:σ[i]?=some (some (.ref l)))
  (h3:∀ H',Same H0 H'->H' l=some (.lst ((xs++bw b w).map V.str))->(∀ b o,H b=some o->b≠l->H' b=some o)->u D σ H'):Z0 (zaa c (tApp (tVar i) (tC (.str w))) zbq) u D σ H:=by
 refine hc _ fun H1 s1=>?_;have hl1:=s1 _ _ hl;cases b with
 | true =>
   rw[if_pos rfl];refine⟨_,hv,l,_,rfl,hl1,_,hl1,Qt (by rw[zsg];omega),?_⟩;refine h3 _ (Xp h0 (s.trans s1)) ?_ fun b o e n=>by rw[Zi n];exact s1 _ _ e
   rw[Zb,zsp];rfl
 | false =>
   rw[if_neg ⋯];exact h3 _ (s.trans s1) (by rw[show bw false w=[] from rfl,zup];exact hl1) fun b o e _=>s1 _ _ e
theorem Bi(b:Bool)(w:Str):(bw b w).length<=1:=by cases b<;>simp[bw]
theorem zcx(c:Int)(hi:i<40)(hj:j<40)(h:zat c i=zat c j):i=j:=by
 unfold zat at h;have hs:stp c=1\/stp c=2\/stp c=5\/stp c=10\/stp c=100\/stp c=500\/stp c=998:=by
  unfold stp;have h0:0<=c%7:=by omega
  have h1:c%7<7:=by omega
  generalize c%7=r at h0 h1;obtain⟨k,rfl⟩:∃ k:Nat,r=k:=⟨r.toNat,by omega⟩;rw[zs7];have hk:k<7:=by omega
  match k,hk with
  | 0,_=>simp
  | 1,_=>simp
  | 2,_=>simp
  | 3,_=>simp
  | 4,_=>simp
  | 5,_=>simp
  | 6,_=>simp
 generalize c/7=x at h;rcases hs with e|e|e|e|e|e|e<;>rw[e] at h<;>omega
end G
namespace G
open PySem PySem.Spec PyProof.Rows L2
abbrev P3:=Int×Int×Int
def pV(m:P3):List V:=[.int m.1,.int m.2.1,.int m.2.2]
theorem Bj{H:Hp}{ts:List V}{Ms:List P3}{i:Nat}{x:V}(h:Zy H ts (Ms.map pV))(e:ts[i]?=some x):∃ t m,x=.ref t/\Ms[i]?=some m/\H t=some (.tup (pV m)):=by
 obtain⟨t,r,h1,h2,h3⟩:=h.get e;rw[zsn] at h2;cases q:Ms[i]? with
 | none=>rw[q] at h2;cases h2
 | some m=>rw[q] at h2;cases h2;exact⟨t,m,h1,rfl,h3⟩
theorem Zy.reverse:∀ {ts:List V} {R:List (List V)},Zy H ts R->Zy H ts.reverse R.reverse
 | _,_,.nil=>.nil
 | _,_,.cons h q=>by rw[zuf,zuf];exact(Zy.reverse q).snoc h
def Qa(Rs:List (List Row))(h gu d:Int)(os:List V)(rest:Int)(m:P3):Bool:=(Fy Rs m.1 m.2.1 m.2.2 h gu d (inV (.int m.1) os) rest).isEmpty
inductive Dj(K:Frag)(C:Addr)(vs:List V)(H:Hp)(Q:VK)(_:XK):Prop where
 | mk(lp lo tm p lr ld:Addr)(Rs:List (List Row))(ts:List V)(Ms:List P3)(os:List V)(h gu d rest:Int)(_:vs=[.ref lp,.ref tm,.ref lo,.ref p,.int rest])(_:H lp=some (.lst ts))(_:Zy H ts (Ms.map pV))(_:H lo=some (.lst os))(_:(∀ x∈os,oneV x))(_:H tm=some (.tup [.int h,.int gu,.int d]))(_:Uk C H p lr ld Rs)(_:Ms.length<=1000)(_:∀ l H',H' l=some (.lst ((Ms.filter (Qa Rs h gu d os rest)).map fun m=>V.int m.1))->Same H H'->H l=none->Q (.ref l) H')
theorem F1{js:List Nat}{tt:TT}{te:TE}{lo:Int}{n:Nat}{σ:L2.St}{H:Hp}{Q:VK}(p:Nat->Bool)(f:Nat->V)(hz:n<=1000)
  (ht:∀ (i:Nat) (R:Bool->Hp->Prop),i<n->R (p i) H->tt (cs js σ (.int (lo+i))) H R) (hs:∀ (i:Nat) (R:VK),i<n->p i=true->R (f i) H->te (cs js σ (.int (lo+i))) H R)
  (hd:∀ q,H q=none->Q (.ref q) (upd H q (.lst (((List.range n).filter p).map f)))):E9 (Itr lo n) js tt te σ H Q:=by
 refine Rc (fun i ys H'=>H'=H/\ys=((List.range i).filter p).map f) ⟨rfl,rfl⟩ (szN hz) (fun i ys H' ⟨_,e⟩=>by rw[e,zsg];exact zs3 (zuc _ _) (by rw[ztl];exact zso _)) (fun i ys H' hi ⟨e1,e2⟩=>?_) fun ys H' ⟨e1,e2⟩ q hq=>?_
 ·subst e1;refine ht i _ hi ?_;have e3:((List.range (i+1)).filter p).map f=ys++(if p i then [f i] else []):=by
   rw[e2,List.range_succ,List.filter_append,zsp];cases hp:p i<;>simp[hp]
  cases hp:p i with
  | true =>
    rw[if_pos rfl];refine hs i _ hi hp ⟨rfl,?_⟩;rw[e3,hp];rfl
  | false =>
    rw[if_neg ⋯];refine⟨rfl,?_⟩;rw[e3,hp];simp
 ·subst e1;rw[e2];exact hd q hq
def zfj(xs:List V):List Nat:=(List.range xs.length).filter fun i=>decide (xs[i]?=some .non)
def X9(xs:List V)(n:Int):Option Nat:=(List.range xs.length).find? fun i=>decide (xs[i]?=some (.int n))
def oN:Option Nat->V
 | none=>.non
 | some i=>.int i
inductive Gn(K:Frag)(vs:List V)(H:Hp)(Q:VK)(_:XK):Prop where
 | mk(b:Addr)(xs:List V)(n:Int)(_:vs=[.ref b,.int n])(_:H b=some (.lst xs))(_:(∀ x∈xs,oneV x))(_:xs.length<=100)(_:∀ H',Same H H'->Q (oN (X9 xs n)) H')
def Yq:List (Nat×Option Int)->List V->List V
 | [],xs=>xs
 | (p,w) :: r,xs=>Yq r (xs.set p (oV w))
def V4(s:Nat×Option Int):List V:=[.int (s.1:Nat),oV s.2]
inductive Np(K:Frag)(vs:List V)(H:Hp)(Q:VK)(_:XK):Prop where
 | mk(b c:Addr)(xs ts:List V)(st:List (Nat×Option Int))(_:vs=[.ref b,.ref c])(_:H b=some (.lst xs))(_:H c=some (.lst ts))(_:Zy H ts (st.map V4))(_:(∀ s∈st,s.1<xs.length))(_:(∀ x∈xs,oneV x))(_:xs.length<=100)(_:st.length<=100)(_:∀ l H',H' l=some (.lst (Yq st xs))->Same H H'->H l=none->Q (.ref l) H')
theorem Xw:∀ (st:List (Nat×Option Int)) (xs:List V),(Yq st xs).length=xs.length
 | [],_=>rfl
 | (p,w) :: r,xs=>by rw[Yq,Xw r,zt1]
theorem Dl(xs:List V)(n:Int):(X9 xs n=none/\∀ i:Nat,xs[i]?≠some (V.int n))\/∃ i:Nat,X9 xs n=some i/\xs[i]?=some (V.int n):=by
 unfold X9;cases h:(List.range xs.length).find? fun i=>decide (xs[i]?=some (.int n)) with
 | none =>
   refine .inl ⟨rfl,fun i e=>?_⟩;have hi:i<xs.length:=(zsj.mp e).1;have:=List.find?_eq_none.mp h i (zti.mpr hi);exact this (zsm e)
 | some i =>
   have:=List.find?_some h;exact .inr ⟨i,rfl,of_decide_eq_true this⟩
theorem zay(xs:List V)(k:Nat):Js xs (some (k:Int)) none=xs.drop k:=by
 unfold Js;rw[HT.sIx_nat,HT.sIx_none];by_cases h:k<=xs.length
 ·rw[Nat.min_eq_left h,<- ztu,zs0]
 ·rw[zuj ⋯,List.drop_length,List.take_nil,List.drop_eq_nil_of_le ⋯]
theorem zep(xs:List V){a b:Nat}(h:a<=b):Js xs (some (a:Int)) (some (b:Int))=(xs.drop a).take (b-a):=by
 unfold Js;rw[HT.sIx_nat,HT.sIx_nat];by_cases h1:a<=xs.length
 ·rw[Nat.min_eq_left h1];by_cases h2:b<=xs.length
  ·rw[Nat.min_eq_left h2]
  ·rw[zuj ⋯,<- ztu,zs0,List.take_of_length_le (by rw[ztu];omega)]
 ·rw[zuj (show xs.length<=a by omega),zuj ⋯,Nat.sub_self,List.take_zero,List.drop_eq_nil_of_le ⋯,List.take_nil]
inductive ILs(H:Hp):List Addr->List (List Int)->Prop where
 | nil:ILs H [] []
 | cons {l:Addr} {ls:List Addr} {r:List Int} {R:List (List Int)} (h:H l=some (.lst (r.map V.int))) (n:ILs H ls R):ILs H (l :: ls) (r :: R)
theorem ILs.keep:∀ {ls:List Addr} {R:List (List Int)},(∀ l∈ls,∀ o,H l=some o->H' l=some o)->ILs H ls R->ILs H' ls R
 | _,_,_,.nil=>.nil
 | _,_,k,.cons h r=>.cons (k _ zsz _ h) (ILs.keep (fun l hl=>k l (zsw _ hl)) r)
theorem ILs.same(e:Same H H')(h:ILs H ls R):ILs H' ls R:=h.keep fun l _ o q=>e _ _ q
theorem ILs.length:∀ {ls:List Addr} {R:List (List Int)},ILs H ls R->ls.length=R.length
 | _,_,.nil=>rfl
 | _,_,.cons _ r=>by simp[ILs.length r]
theorem ILs.snoc(h:H l=some (.lst (x.map V.int))):∀ {ls:List Addr} {R:List (List Int)},ILs H ls R->ILs H (ls++[l]) (R++[x])
 | _,_,.nil=>.cons h .nil
 | _,_,.cons h' r=>.cons h' (ILs.snoc h r)
theorem ILs.has:∀ {ls:List Addr} {R:List (List Int)} {l:Addr},ILs H ls R->l∈ls->∃ xs,H l=some (.lst xs)
 | _,_,_,.nil,e=>by simp at e
 | _,_,_,.cons h r,e=>by
   rcases zsk.mp e with rfl|e
   ·exact⟨_,h⟩
   ·exact ILs.has r e
theorem ILs.getR:∀ {ls:List Addr} {R:List (List Int)} {i:Nat} {r:List Int},ILs H ls R->R[i]?=some r->∃ l,ls[i]?=some l/\H l=some (.lst (r.map V.int))
 | _,_,_,_,.nil,e=>by simp at e
 | _,_,0,_,.cons h _,e=>by simp at e;subst e;exact⟨_,rfl,h⟩
 | _,_,i+1,x,.cons _ r,e=>by
   obtain⟨t,h1,h2⟩:=ILs.getR (i:=i) (r:=x) r (by simpa using e);exact⟨t,by simpa using h1,h2⟩
structure Mm(rows:List (List Int))(nu:List Int):Prop where
 few:rows.length<=20
 crowd:nu.length<=30
 inj:nu.Nodup
 rng:∀ n∈nu,1<=n/\n<=999
 sub:∀ r∈rows,r.Nodup/\∀ n∈r,n∈nu
structure Yw(rows:List (List Int))(gs:List V):Prop where
 len:gs.length=rows.length
 one:∀ x∈gs,oneV x
 may:∀ (k:Nat) (n:Int),gs[k]?=some (.int n)->∃ r,rows[k]?=some r/\n∈r
 inj:∀ (j k:Nat) (n:Int),gs[j]?=some (.int n)->gs[k]?=some (.int n)->j=k
def Qw(rows:List (List Int))(gs:List V)(p:Nat):Prop:=∃ S:Nat->Prop,S p/\∀ q,S q->q<rows.length/\∀ r,rows[q]?=some r->∀ n∈r,∃ q',q' < p/\gs[q']?=some (.int n)/\S q'
def V8(rows:List (List Int))(gs:List V):Prop:=∀ p,gs[p]?=some .non->Qw rows gs p
inductive zcy(K:Frag)(vs:List V)(H:Hp)(Q:VK)(_:XK):Prop where
 | mk(l:Addr)(ls:List Addr)(rows:List (List Int))(nu:List Int)(_:vs=[.ref l])(_:H l=some (.lst (ls.map V.ref)))(_:ILs H ls rows)(_:Mm rows nu)(_:∀ l' gs H',H' l'=some (.lst gs)->Yw rows gs->V8 rows gs->Same H H'->H l'=none->Q (.ref l') H')
theorem F2{n:Int}{r:List Int}:inV (.int n) (r.map V.int)=decide (n∈r):=by
 induction r with
 | nil=>rfl
 | cons x r ih =>
   unfold inV at ih ⊢;rw[zst,zt9,ih];have e:eqV (.int x) (.int n)=decide (n=x):=by
    show (x == n)=_;by_cases h:n=x
    ·subst h;simp
    ·rw[zsr h];exact zs2.mpr (Ne.symm h)
   rw[e];by_cases h:n=x
   ·subst h;simp
   ·by_cases h2:n∈r<;>simp[h,h2]
end G
namespace G
open PySem PySem.Spec PyProof.Rows L2
def newS(st:List (Nat×Option Int))(k:Nat):List V:=(st.filter fun s=>decide (s.1=k)).map fun s=>oV s.2
theorem Gp:∀ (st:List (Nat×Option Int)) (xs:List V) (k:Nat),(st.map (·.1)).Nodup->k<xs.length->(Yq st xs)[k]?=some ((newS st k++[xs.getD k .non]).getD 0 .non)
 | [],xs,k,_,hk=>by
   rw[Yq,zsi hk];show _=some (xs.getD k .non);rw[zta,zsi hk];rfl
 | (p,w) :: r,xs,k,nd,hk=>by
   rw[zst,zs6] at nd;rw[Yq,Gp r _ k nd.2 (by rw[zt1];exact hk)];by_cases h:p=k
   ·subst h;have e:newS r p=[]:=by
     unfold newS;rw[List.map_eq_nil_iff,List.filter_eq_nil_iff];intro s hs z;exact nd.1 (zsq.mpr ⟨s,hs,of_decide_eq_true z⟩)
    have e2:newS ((p,w) :: r) p=oV w :: newS r p:=by
     unfold newS;rw[ztz,if_pos (zsm rfl),zst]
    rw[e2,e];show some ((xs.set p (oV w)).getD p .non)=some (oV w);rw[zta,ztj hk];rfl
   ·have e2:newS ((p,w) :: r) k=newS r k:=by
     unfold newS;rw[ztz,if_neg (by rw[zsr h];decide)]
    rw[e2];have e3:(xs.set p (oV w)).getD k .non=xs.getD k .non:=by
     rw[zta,zta,ztf h]
    rw[e3]
section
variable{rows:List (List Int)}{gs:List V}
def adjN(rows:List (List Int))(gs:List V)(q:Nat)(n:Int)(q':Nat):Prop:=(∃ r,rows[q]?=some r/\n∈r)/\gs[q']?=some (.int n)
def Po(rows:List (List Int))(gs:List V)(q:Nat)(n:Int):Prop:=(∃ r,rows[q]?=some r/\n∈r)/\∀ j:Nat,gs[j]?≠some (V.int n)
def Uy(rows:List (List Int))(gs:List V)(q:Nat):Prop:=∃ n,Po rows gs q n
inductive Walk(rows:List (List Int))(gs:List V)(p:Nat):Nat->Nat->Prop where
 | nil:Walk rows gs p p 0
 | snoc {q q' k:Nat} {n:Int} (h:Walk rows gs p q k) (a:adjN rows gs q n q'):Walk rows gs p q' (k+1)
theorem Walk.cons(a:adjN rows gs p n p')(h:Walk rows gs p' q k):Walk rows gs p q (k+1):=by
 induction h with
 | nil=>exact .snoc .nil a
 | snoc _ a' ih=>exact .snoc ih a'
inductive Ch(rows:List (List Int))(gs:List V):Nat->List (Nat×Option Int)->Nat->Option Int->Prop where
 | one (q:Nat) (w:Option Int):Ch rows gs q [(q,w)] q w
 | step {q q' e:Nat} {n:Int} {st:List (Nat×Option Int)} {w:Option Int} (a:adjN rows gs q n q') (h:Ch rows gs q' st e w):Ch rows gs q ((q,some n) :: st) e w
theorem Ch.pos{q e:Nat}{st:List (Nat×Option Int)}{w:Option Int}(h:Ch rows gs q st e w):0<st.length:=by cases h<;>simp
theorem Ch.walk{q e:Nat}{st:List (Nat×Option Int)}{w:Option Int}(h:Ch rows gs q st e w):Walk rows gs q e (st.length-1):=by
 induction h with
 | one q w=>exact .nil
 | step a h ih =>
   have:=h.pos;have e:=Walk.cons a ih;rw[zs4,Nat.add_sub_cancel];rw[Nat.sub_add_cancel this] at e;exact e
theorem Ch.drop{q e:Nat}{st:List (Nat×Option Int)}{w:Option Int}(h:Ch rows gs q st e w):∀ x∈st.map (·.1),∃ st',Ch rows gs x st' e w/\st'.length<=st.length:=by
 induction h with
 | one q w=>intro x hx;simp at hx;subst hx;exact⟨_,.one _ _,zso _⟩
 | @step q q' e n st w a h ih =>
   intro x hx;rw[zst] at hx;rcases zsk.mp hx with z|z
   ·subst z;exact⟨_,.step a h,zso _⟩
   ·obtain⟨st',h1,h2⟩:=ih x z;exact⟨st',h1,by rw[zs4];omega⟩
theorem Ch.hd{q e:Nat}{st:List (Nat×Option Int)}{w:Option Int}(h:Ch rows gs q st e w):∃ x r,st=(q,x) :: r:=by cases h<;>exact⟨_,_,rfl⟩
theorem Ch.last{q e:Nat}{st:List (Nat×Option Int)}{w:Option Int}(h:Ch rows gs q st e w):e∈st.map (·.1):=by
 induction h with
 | one q w=>simp
 | step a h ih=>rw[zst];exact zsw _ ih
theorem Ch.nodup{q e:Nat}{st:List (Nat×Option Int)}{w:Option Int}(h:Ch rows gs q st e w)(hm:∀ k,Walk rows gs q e k->st.length<=k+1):(st.map (·.1)).Nodup:=by
 induction h with
 | one q w=>simp
 | @step q q' e n st w a h ih =>
   rw[zst,zs6];refine⟨fun hq=>?_,ih fun k hk=>?_⟩
   ·obtain⟨st',h1,h2⟩:=h.drop q hq;have:=hm _ h1.walk;have:=h1.pos;rw[zs4] at *;omega
   ·have:=hm _ (Walk.cons a hk);rw[zs4] at this;omega
theorem Ch.mem{q e:Nat}{st:List (Nat×Option Int)}{w:Option Int}(h:Ch rows gs q st e w):∀ (k:Nat) (n:Int),(k,some n)∈st->(adjN rows gs k n k\/True)/\(((∃ r,rows[k]?=some r/\n∈r)/\∃ k',gs[k']?=some (V.int n)/\k'∈st.tail.map (·.1))\/(w=some n/\k=e)):=by
 induction h with
 | one q w =>
   intro k n hk;simp at hk;exact⟨.inr trivial,.inr ⟨hk.2.symm,hk.1⟩⟩
 | @step q q' e n' st w a h ih =>
   intro k n hk;refine⟨.inr trivial,?_⟩;rcases zsk.mp hk with z|z
   ·cases z;refine .inl ⟨a.1,q',a.2,?_⟩;obtain⟨x,r,e⟩:=h.hd;rw[e];simp
   ·rcases(ih k n z).2 with ⟨h1,k',h2,h3⟩|h1
    ·refine .inl ⟨h1,k',h2,?_⟩;show k'∈st.map (·.1);obtain⟨x,r,e⟩:=h.hd;rw[e] at h3 ⊢;exact zsw _ h3
    ·exact .inr h1
theorem Ch.inj{q e:Nat}{st:List (Nat×Option Int)}{w:Option Int}(FP:Yw rows gs)(h:Ch rows gs q st e w)(hw:∀ n,w=some n->∀ j:Nat,gs[j]?≠some (V.int n))(nd:(st.map (·.1)).Nodup):∀ (j k:Nat) (n:Int),(j,some n)∈st->(k,some n)∈st->j=k:=by
 induction h with
 | one q w=>intro j k n h1 h2;simp at h1 h2;rw[h1.1,h2.1]
 | @step q q' e n' st w a h ih =>
   intro j k n h1 h2;rw[zst,zs6] at nd;have key:∀ k,(k,some n')∈st->False:=fun k hk=>by
    rcases(h.mem k n' hk).2 with ⟨_,k',h2,h3⟩|⟨h1,_⟩
    ·have e:k'=q':=FP.inj k' q' n' h2 a.2;subst e;obtain⟨x,r,e⟩:=h.hd;have nd2:=nd.2;rw[e] at nd2 h3;rw[zst,zs6] at nd2;exact nd2.1 h3
    ·exact hw n' h1 q' a.2
   rcases zsk.mp h1 with z1|z1<;>rcases zsk.mp h2 with z2|z2
   ·cases z1;cases z2;rfl
   ·cases z1;exact(key k z2).elim
   ·cases z2;exact(key j z1).elim
   ·exact ih hw nd.2 j k n z1 z2
theorem zcz{st:List (Nat×Option Int)}{k:Nat}(nd:(st.map (·.1)).Nodup):(k∉st.map (·.1)/\newS st k=[])\/∃ w,(k,w)∈st/\newS st k=[oV w]:=by
 induction st with
 | nil=>exact .inl ⟨by simp,rfl⟩
 | cons s r ih =>
   obtain⟨p,w⟩:=s;rw[zst,zs6] at nd;by_cases h:p=k
   ·subst h;refine .inr ⟨w,zsz,?_⟩;rcases ih nd.2 with ⟨_,e⟩|⟨w',h1,_⟩
    ·have e2:newS ((p,w) :: r) p=oV w :: newS r p:=by
      unfold newS;rw[ztz,if_pos (zsm rfl),zst]
     rw[e2,e]
    ·exact absurd (zsq.mpr ⟨_,h1,rfl⟩) nd.1
   ·have e2:newS ((p,w) :: r) k=newS r k:=by
     unfold newS;rw[ztz,if_neg (by rw[zsr h];decide)]
    rw[e2];rcases ih nd.2 with ⟨h1,e⟩|⟨w',h1,e⟩
    ·exact .inl ⟨fun z=>by rcases zsk.mp z with q|q;exact h q.symm;exact h1 q,e⟩
    ·exact .inr ⟨w',zsw _ h1,e⟩
theorem Wa{st:List (Nat×Option Int)}{xs:List V}{k:Nat}(nd:(st.map (·.1)).Nodup)(hk:k<xs.length):(k∉st.map (·.1)/\(Yq st xs)[k]?=xs[k]?)\/∃ w,(k,w)∈st/\(Yq st xs)[k]?=some (oV w):=by
 rw[Gp st xs k nd hk];rcases zcz (k:=k) nd with ⟨h,e⟩|⟨w,h,e⟩
 ·refine .inl ⟨h,?_⟩;rw[e];show some (xs.getD k .non)=_;rw[zta,zsi hk];rfl
 ·exact .inr ⟨w,h,by rw[e];rfl⟩
theorem Ch.lt{q e:Nat}{st:List (Nat×Option Int)}{w:Option Int}(FP:Yw rows gs)(h:Ch rows gs q st e w)(hq:q<rows.length):∀ s∈st,s.1<rows.length:=by
 induction h with
 | one q w=>intro s hs;simp at hs;subst hs;exact hq
 | @step q q' e n st w a h ih =>
   intro s hs;rcases zsk.mp hs with z|z
   ·subst z;exact hq
   ·refine ih ?_ s z;have:=(zsj.mp a.2).1;rw[FP.len] at this;exact this
theorem Ch.fill{q e:Nat}{st:List (Nat×Option Int)}{w:Option Int}(FP:Yw rows gs)(h:Ch rows gs q st e w)(hq:q<rows.length)(hw:∀ n,w=some n->Po rows gs e n)(nd:(st.map (·.1)).Nodup):Yw rows (Yq st gs):=by
 have hlt:=h.lt FP hq;have hinj:=h.inj FP (fun n hn=>(hw n hn).2) nd;have src:∀ (k:Nat) (n:Int),(k,some n)∈st->(∃ r,rows[k]?=some r/\n∈r)/\∀ j:Nat,gs[j]?=some (V.int n)->j∈st.map (·.1):=fun k n hk=>by
  rcases(h.mem k n hk).2 with ⟨h1,k',h2,h3⟩|⟨h1,rfl⟩
  ·refine⟨h1,fun j hj=>?_⟩;rw[FP.inj j k' n hj h2];obtain⟨x,r,e⟩:=h.hd;rw[e] at h3 ⊢;exact zsw _ h3
  ·exact⟨(hw n h1).1,fun j hj=>absurd hj ((hw n h1).2 j)⟩
 have cs:∀ k,k<gs.length->(k∉st.map (·.1)/\(Yq st gs)[k]?=gs[k]?)\/∃ w,(k,w)∈st/\(Yq st gs)[k]?=some (oV w):=fun k hk=>Wa nd hk;have at_:∀ (k:Nat) (n:Int),(Yq st gs)[k]?=some (V.int n)->(k∉st.map (·.1)/\gs[k]?=some (V.int n))\/(k,some n)∈st:=fun k n hk=>by
  have hkl:k<gs.length:=by
   have:=(zsj.mp hk).1;rw[Xw] at this;exact this
  rcases cs k hkl with ⟨h1,e⟩|⟨w',h1,e⟩
  ·exact .inl ⟨h1,by rw[<- e];exact hk⟩
  ·rw[e] at hk;cases w' with
   | none=>cases hk
   | some m=>cases hk;exact .inr h1
 refine⟨by rw[Xw];exact FP.len,fun x hx=>?_,fun k n hk=>?_,fun j k n hj hk=>?_⟩
 ·obtain⟨k,hk,rfl⟩:=ztw hx;have hkl:k<gs.length:=by rw[Xw] at hk;exact hk
  have e0:=zsi hk;rcases cs k hkl with ⟨_,e⟩|⟨w',_,e⟩
  ·rw[e,zsi hkl] at e0;rw[<- Option.some.inj e0];exact FP.one _ (ztm hkl)
  ·rw[e] at e0;rw[<- Option.some.inj e0];exact zgv w'
 ·rcases at_ k n hk with ⟨_,h1⟩|h1
  ·exact FP.may k n h1
  ·exact(src k n h1).1
 ·rcases at_ j n hj with ⟨a1,a2⟩|a1<;>rcases at_ k n hk with ⟨b1,b2⟩|b1
  ·exact FP.inj j k n a2 b2
  ·exact absurd ((src k n b1).2 j a2) a1
  ·exact absurd ((src j n a1).2 k b2) b1
  ·exact hinj j k n a1 b1
theorem Ch.out{p0 q e:Nat}{n0:Int}{w:Option Int}{st:List (Nat×Option Int)}{S:Nat->Prop}(FP:Yw rows gs)(hS:∀ q,S q->q<rows.length/\∀ r,rows[q]?=some r->∀ n∈r,∃ q',q' < p0/\gs[q']?=some (.int n)/\S q')(h:Ch rows gs q st e w):w=some n0->Po rows gs e n0->¬ S q:=by
 induction h with
 | one q w =>
   intro hw hf hs;obtain⟨r,h1,h2⟩:=hf.1;obtain⟨q',_,h3,_⟩:=(hS _ hs).2 r h1 n0 h2;exact hf.2 q' h3
 | @step q q' e n st w a h ih =>
   intro hw hf hs;obtain⟨r,h1,h2⟩:=a.1;obtain⟨q'',_,h3,h4⟩:=(hS q hs).2 r h1 n h2;have:q''=q':=FP.inj q'' q' n h3 a.2;subst this;exact ih hw hf h4
theorem Qw.behind{p0 q e:Nat}{n0:Int}{st:List (Nat×Option Int)}(FP:Yw rows gs)(S0:Qw rows gs p0)(h:Ch rows gs q st e (some n0))(hf:Po rows gs e n0)(hq:q<rows.length)(nd:(st.map (·.1)).Nodup):Qw rows (Yq st gs) p0:=by
 obtain⟨S,hp,hS⟩:=S0;have outAll:∀ x∈st.map (·.1),¬ S x:=fun x hx=>by
  obtain⟨st',h1,_⟩:=h.drop x hx;exact h1.out FP hS rfl hf
 refine⟨S,hp,fun q1 h1=>⟨(hS q1 h1).1,fun r hr n hn=>?_⟩⟩;obtain⟨q',h2,h3,h4⟩:=(hS q1 h1).2 r hr n hn;refine⟨q',h2,?_,h4⟩;have hkl:q' < gs.length:=(zsj.mp h3).1;rcases Wa nd hkl with ⟨_,e⟩|⟨w,h5,_⟩
 ·rw[e];exact h3
 ·exact absurd h4 (outAll q' (zsq.mpr ⟨_,h5,rfl⟩))
structure Y9(rows:List (List Int))(gs:List V)(p:Nat)(st:List (Nat×Option Int))(e:Nat)(w:Option Int):Prop where
 ch:Ch rows gs p st e w
 free:∀ n,w=some n->Po rows gs e n/\∀ q k,Walk rows gs p q k->Uy rows gs q->st.length<=k+1
 none:w=none->(∀ q k,Walk rows gs p q k->¬ Uy rows gs q)/\(∀ q k,Walk rows gs p q k->q<=e)/\∀ k,Walk rows gs p e k->st.length<=k+1
theorem Y9.nodup{p e:Nat}{st:List (Nat×Option Int)}{w:Option Int}(c:Y9 rows gs p st e w):(st.map (·.1)).Nodup:=by
 refine c.ch.nodup fun k hk=>?_;cases h:w with
 | none=>exact(c.none h).2.2 k hk
 | some n=>exact(c.free n h).2 e k hk ⟨n,(c.free n h).1⟩
theorem Y9.fill{p e:Nat}{st:List (Nat×Option Int)}{w:Option Int}(FP:Yw rows gs)(c:Y9 rows gs p st e w)(hp:p<rows.length):Yw rows (Yq st gs):=c.ch.fill FP hp (fun n hn=>(c.free n hn).1) c.nodup
theorem zc0(FP:Yw rows gs)(hp:p<rows.length)(ha:∀ q n,gs[q]?=some (V.int n)->q<p)(hn:∀ q k,Walk rows gs p q k->¬ Uy rows gs q):Qw rows gs p:=by
 refine⟨fun q=>∃ k,Walk rows gs p q k,⟨0,.nil⟩,fun q ⟨k,hk⟩=>⟨?_,fun r hr n hnr=>?_⟩⟩
 ·cases hk with
  | nil=>exact hp
  | snoc _ a =>
    have:=(zsj.mp a.2).1;rw[FP.len] at this;exact this
 ·by_cases hx:∃ j:Nat,gs[j]?=some (V.int n)
  ·obtain⟨j,hj⟩:=hx;exact⟨j,ha j n hj,hj,k+1,.snoc hk ⟨⟨r,hr,hnr⟩,hj⟩⟩
  ·exact absurd ⟨n,⟨r,hr,hnr⟩,fun j hj=>hx ⟨j,hj⟩⟩ (hn q k hk)
end
section
variable{rows:List (List Int)}{gs:List V}{p:Nat}
structure Bfs(rows:List (List Int))(gs:List V)(p:Nat)(line:List Nat)(dep:Nat->Nat):Prop where
 nodup:line.Nodup
 memp:p∈line
 d0:dep p=0
 walk:∀ q∈line,Walk rows gs p q (dep q)
 sorted:∀ (i j q q':Nat),i<=j->line[i]?=some q->line[j]?=some q'->dep q<=dep q'
def Done(rows:List (List Int))(gs:List V)(line:List Nat)(dep:Nat->Nat)(dn:Nat):Prop:=∀ (i q:Nat),i<dn->line[i]?=some q->∀ n q',adjN rows gs q n q'->q'∈line/\dep q'<=dep q+1
theorem zaz(rows:List (List Int))(gs:List V)(p:Nat):Bfs rows gs p [p] (fun _=>0):=by
 refine⟨by simp,by simp,rfl,fun q hq=>?_,fun i j q q' _ _ _=>zso _⟩;simp at hq;subst hq;exact .nil
variable{line:List Nat}{dep:Nat->Nat}{dn:Nat}
theorem Bfs.reach(B:Bfs rows gs p line dep)(D:Done rows gs line dep dn)(h:Walk rows gs p q k):(q∈line/\dep q<=k)\/∃ j q',dn<=j/\line[j]?=some q'/\dep q' < k:=by
 induction h with
 | nil=>exact .inl ⟨B.memp,by rw[B.d0];exact zso _⟩
 | @snoc q q' k n h a ih =>
   rcases ih with ⟨h1,h2⟩|⟨j,x,h1,h2,h3⟩
   ·obtain⟨i,hi,e⟩:=ztw h1;have e':line[i]?=some q:=by rw[zsi hi,e]
    by_cases hd:i<dn
    ·obtain⟨a1,a2⟩:=D i q hd e' n q' a;exact .inl ⟨a1,by omega⟩
    ·exact .inr ⟨i,q,by omega,e',by omega⟩
   ·exact .inr ⟨j,x,h1,h2,by omega⟩
theorem Bfs.full(B:Bfs rows gs p line dep)(D:Done rows gs line dep line.length)(h:Walk rows gs p q k):q∈line/\dep q<=k:=by
 rcases B.reach D h with z|⟨j,x,h1,h2,_⟩
 ·exact z
 ·have:=(zsj.mp h2).1;omega
theorem Bfs.early(B:Bfs rows gs p line dep)(D:Done rows gs line dep dn)(hh:line[dn]?=some here)(h:Walk rows gs p q k)(hk:k<dep here):∃ i,i<dn/\line[i]?=some q:=by
 rcases B.reach D h with ⟨h1,h2⟩|⟨j,x,h1,h2,h3⟩
 ·obtain⟨i,hi,e⟩:=ztw h1;have e':line[i]?=some q:=by rw[zsi hi,e]
  refine⟨i,?_,e'⟩;by_cases hd:i<dn
  ·exact hd
  ·have:=B.sorted dn i here q ⋯ hh e';omega
 ·have:=B.sorted dn j here x h1 hh h2;omega
theorem Bfs.fewest(B:Bfs rows gs p line dep)(D:Done rows gs line dep dn)(hh:line[dn]?=some here)(hno:∀ (i q:Nat),i<dn->line[i]?=some q->¬ Uy rows gs q)(h:Walk rows gs p q k)(hf:Uy rows gs q):dep here+1<=k+1:=by
 by_cases hk:k<dep here
 ·obtain⟨i,hi,e⟩:=B.early D hh h hk;exact absurd hf (hno i q hi e)
 ·omega
def Vm(dep:Nat->Nat)(q d:Nat):Nat->Nat:=fun x=>if x=q then d else dep x
theorem Bfs.app(B:Bfs rows gs p line dep)(hh:line[dn]?=some here)(near:∀ x∈line,dep x<=dep here+1)(a:adjN rows gs here n q')(hn:q'∉line) :
  Bfs rows gs p (line++[q']) (Vm dep q' (dep here+1))/\(∀ x∈line,Vm dep q' (dep here+1) x=dep x)/\∀ x∈line++[q'],Vm dep q' (dep here+1) x<=dep here+1:=by
 have old:∀ x∈line,Vm dep q' (dep here+1) x=dep x:=fun x hx=>by
  unfold Vm;rw[if_neg (fun (z:x=q')=>hn (by rw[<- z];exact hx))]
 have new:Vm dep q' (dep here+1) q'=dep here+1:=by unfold Vm;rw[if_pos rfl]
 have hhm:=zsu hh;have all:∀ x∈line++[q'],Vm dep q' (dep here+1) x<=dep here+1:=fun x hx=>by
  rcases zsv.mp hx with z|z
  ·rw[old x z];exact near x z
  ·rw[zsl.mp z,new];exact zso _
 refine⟨⟨Fn B.nodup hn,zs8 _ B.memp,by rw[old p B.memp];exact B.d0,fun q hq=>?_,fun i j x y hij hx hy=>?_⟩,old,all⟩
 ·rcases zsv.mp hq with z|z
  ·rw[old q z];exact B.walk q z
  ·rw[zsl.mp z,new];exact .snoc (B.walk here hhm) a
 ·by_cases hj:j<line.length
  ·rw[ztb hj] at hy;rw[ztb ⋯] at hx;rw[old x (zsu hx),old y (zsu hy)];exact B.sorted i j x y hij hx hy
  ·rw[ztd ⋯] at hy;have:y=q':=by
    cases e:j-line.length with
    | zero=>rw[e] at hy;simpa using hy.symm
    | succ m=>rw[e] at hy;simp at hy
   subst this;rw[new];exact all x (zsu hx)
theorem Done.app(D:Done rows gs line dep dn)(hd:dn<=line.length)(hl:∃ r,line'=line++r)(he:∀ x∈line,dep' x=dep x):Done rows gs line' dep' dn:=fun i q hi e n q' a=>by
 obtain⟨r,rfl⟩:=hl;rw[ztb ⋯] at e;obtain⟨h1,h2⟩:=D i q hi e n q' a;exact⟨zs8 _ h1,by rw[he q' h1,he q (zsu e)];exact h2⟩
def U6(rows:List (List Int))(gs:List V)(p:Nat)(line:List Nat)(dep:Nat->Nat)(fr:Nat->Option (Nat×Int)):Prop:=fr p=none/\∀ q∈line,q≠p->∃ par n,fr q=some (par,n)/\par∈line/\adjN rows gs par n q/\dep q=dep par+1
theorem U6.back(d0:dep p=0)(F:U6 rows gs p line dep fr):∀ (d q e:Nat) (w:Option Int) (st:List (Nat×Option Int)),dep q=d->q∈line->Ch rows gs q st e w->∃ pre,Ch rows gs p (pre++st) e w/\pre.length=d:=fun d=>by
 induction d with
 | zero =>
   intro q e w st hd hq h;by_cases hp:q=p
   ·subst hp;exact⟨[],h,rfl⟩
   ·obtain⟨par,n,_,_,_,h4⟩:=F.2 q hq hp;omega
 | succ d ih =>
   intro q e w st hd hq h;by_cases hp:q=p
   ·subst hp;rw[d0] at hd;cases hd
   ·obtain⟨par,n,h1,h2,h3,h4⟩:=F.2 q hq hp;obtain⟨pre,h5,h6⟩:=ih par e w _ ⋯ h2 (.step h3 h);exact⟨pre++[(par,some n)],by rw[ztn];exact h5,by rw[zsh,h6];rfl⟩
theorem Bl{here:Nat}{n:Int}{st:List (Nat×Option Int)}(B:Bfs rows gs p line dep)(D:Done rows gs line dep dn)(hh:line[dn]?=some here)(hno:∀ (i q:Nat),i<dn->line[i]?=some q->¬ Uy rows gs q)(hf:Po rows gs here n)(c:Ch rows gs p st here (some n))(hl:st.length=dep here+1):Y9 rows gs p st here (some n) :=
 ⟨c,fun m e=>by cases e;exact⟨hf,fun q k hk hq=>by rw[hl];exact B.fewest D hh hno hk hq⟩,(fun z=>nomatch z)⟩
theorem Bm{e:Nat}{st:List (Nat×Option Int)}(B:Bfs rows gs p line dep)(D:Done rows gs line dep line.length)(hno:∀ q∈line,¬ Uy rows gs q)(he:∀ q∈line,q<=e)(c:Ch rows gs p st e none)(hl:st.length=dep e+1):Y9 rows gs p st e none :=
 ⟨c,(fun m z=>nomatch z),fun _=>⟨fun q k hk=>hno q (B.full D hk).1,fun q k hk=>he q (B.full D hk).1,fun k hk=>by rw[hl];have:=(B.full D hk).2;omega⟩⟩
end
end G
namespace L2
open PySem PySem.Spec PyProof.Rows
inductive zgx(x:V)(vs:List V)(H:Hp)(Q:VK):Prop where
 | mk(l:Addr)(xs:List V)(y:V)(j:Nat)(_:x=.ref l)(_:vs=[y])(_:H l=some (.lst xs))(_:Ss y=true)(_:xs.all Ss=true)(_:(∃ z,xs[j]?=some z/\eqV z y=true))(_:(∀ m z,m<j->xs[m]?=some z->eqV z y=false))(_:Q (.int (j:Nat)) H)
theorem zc1:MtM X "list.index" zgx:=by
 intro pins s σ H x vs v us Q I rx rv h;obtain⟨l,xs,y,j,rfl,rfl,hH,fy,fs,⟨zj,hzj,hej⟩,hno,q⟩:=h;cases rx;obtain⟨u,rfl,ru⟩:=rv.one;obtain⟨z,its,n,r,hl,e⟩:=I.lstM hH;have hjx:j<xs.length:=(zsj.mp hzj).1;have hj:j<its.toArray.size:=by rw[zss];omega
 have hline:=Pk;have ev:∀ (m:Nat) (hm:m<its.toArray.size) (w:V),xs[m]?=some w->eqU y (its.toArray[m]'hm)=eqV w y:=fun m hm w hw=>by
  obtain⟨uu,hu,ruu⟩:=r.get hw;have:its.toArray[m]'hm=uu:=by
   have h1:its[m]?=some (its.toArray[m]'hm):=by simp
   rw[h1] at hu;exact Option.some.inj hu
  rw[this];refine Bb ruu ?_;exact List.all_eq_true.mp fs w (zsu hw)
 refine call_meets PySem.F.slot_list_index ⟨_,e,rfl⟩ PySem.F.entry_list_index (PySem.F.args_list_index_2 _ _) (SeqAt.list_indexAt l its.toArray n none #[] u (eqU y) j hj ⋯ (by rw[ev j hj zj hzj];exact hej) (fun m hm hmj=>?_)) ⟨e,fun w hw=>Su ru fy r fs w (by simpa using hw),?_⟩
 ·have hmx:m<xs.length:=by rw[zss] at hm;omega
  have hw:xs[m]?=some (xs[m]'hmx):=zsi hmx;rw[ev m hm _ hw];exact hno m _ hmj hw
 ·exact⟨.int (j:Nat),H,I.tok _,⟨_,rfl⟩,q⟩
end L2
namespace G
open PySem PySem.Spec PyProof.Rows L2
theorem ziq{H:Hp}{ts:List V}{st:List (Nat×Option Int)}{i:Nat}{s:Nat×Option Int}(h:Zy H ts (st.map V4))(e:st[i]?=some s):∃ t,ts[i]?=some (.ref t)/\H t=some (.tup (V4 s)):=by
 have e':(st.map V4)[i]?=some (V4 s):=by rw[zsn,e];rfl
 exact h.getR e'
theorem Lp(ho:oneV z):eqV z (.int n)=true↔z=.int n:=by
 rcases ho with rfl|⟨i,rfl⟩
 ·constructor
  ·intro h;cases h
  ·intro h;cases h
 ·show (i == n)=true↔_;constructor
  ·intro h;rw[beq_iff_eq.mp h]
  ·intro h;cases h;simp
theorem zc2(ho:∀ x∈gs,oneV x):inV (.int n) gs=true↔∃ j:Nat,gs[j]?=some (V.int n):=by
 unfold inV;rw[zui];constructor
 ·rintro⟨z,hz,e⟩;obtain⟨j,hj,rfl⟩:=ztw hz;exact⟨j,by rw[zsi hj,(Lp (ho _ hz)).mp e]⟩
 ·rintro⟨j,hj⟩;have:=zsu hj;exact⟨_,this,(Lp (ho _ this)).mpr rfl⟩
structure zj3(rows:List (List Int))(gs:List V)(i:Nat):Prop where
 len:gs.length=i
 one:∀ x∈gs,oneV x
 may:∀ (k:Nat) (n:Int),gs[k]?=some (.int n)->∃ r,rows[k]?=some r/\n∈r
 inj:∀ (j k:Nat) (n:Int),gs[j]?=some (.int n)->gs[k]?=some (.int n)->j=k
theorem Yw.drop(F:Yw rows gs)(p:Nat):Yw rows (gs.set p .non):=by
 have cs:∀ (k:Nat) (n:Int),(gs.set p .non)[k]?=some (.int n)->k≠p/\gs[k]?=some (.int n):=fun k n h=>by
  by_cases e:k=p
  ·subst e;by_cases hk:k<gs.length
   ·rw[ztj hk] at h;cases h
   ·rw[zud (by rw[zt1];omega)] at h;cases h
  ·rw[ztf (Ne.symm e)] at h;exact⟨e,h⟩
 refine⟨by rw[zt1];exact F.len,fun x hx=>?_,fun k n h=>F.may k n (cs k n h).2,fun j k n h1 h2=>F.inj j k n (cs j n h1).2 (cs k n h2).2⟩;rcases List.mem_or_eq_of_mem_set hx with z|z
 ·exact F.one x z
 ·exact .inl z
theorem Yw.without(F:Yw rows gs)(hx:gs[p]?=some x)(f:Int->Bool)(hf:∀ n,f n=false->x=.int n):Yw (rows.map fun r=>r.filter f) (gs.set p .non):=by
 have D:=F.drop p;refine⟨by rw[zsg];exact D.len,D.one,fun k n h=>?_,D.inj⟩;obtain⟨r,h1,h2⟩:=D.may k n h;refine⟨r.filter f,by rw[zsn,h1];rfl,zts.mpr ⟨h2,?_⟩⟩;cases e:f n with
 | true=>rfl
 | false =>
   have hx':=hf n e;subst hx';have hk:k≠p:=fun z=>by
    subst z;rw[ztj (zsj.mp hx).1] at h;cases h
   rw[ztf (Ne.symm hk)] at h;exact absurd (F.inj k p n h hx) hk
def Ru(xs:List Nat):List V:=xs.map fun k=>V.int (k:Nat)
end G
namespace G
open PySem PySem.Spec PyProof.Rows L2
inductive F3(K:Frag)(vs:List V)(H:Hp)(Q:VK)(_:XK):Prop where
 | mk(l lg:Addr)(ls:List Addr)(rows:List (List Int))(nu:List Int)(gs:List V)(p:Nat)(_:vs=[.ref l,.ref lg,.int p])(_:H l=some (.lst (ls.map V.ref)))(_:ILs H ls rows)(_:Mm rows nu)(_:H lg=some (.lst gs))(_:Yw rows gs)(_:p<rows.length)(_:gs[p]?=some .non)(_:∀ lt ts st e w H',H' lt=some (.lst ts)->Zy H' ts (st.map V4)->Y9 rows gs p st e w->Same H H'->H lt=none->Q (.ref lt) H')
theorem Y9.len{rows:List (List Int)}{gs:List V}{p e:Nat}{st:List (Nat×Option Int)}{w:Option Int}(FP:Yw rows gs)(hp:p<rows.length)(c:Y9 rows gs p st e w):st.length<=rows.length:=by
 have hlt:=c.ch.lt FP hp;have:=c.nodup.length_le_of_subset (l₂:=List.range rows.length) fun x hx=>by
  obtain⟨s,hs,rfl⟩:=zsq.mp hx;exact zti.mpr (hlt s hs)
 rw[zsg,ztl] at this;exact this
end G
namespace L2
open PySem PySem.Spec PyProof.Rows
section
variable{X:Cx}{pins:List (Addr×Obj)}{σ:List (Option V)}{H H':Hp}{s:Shared}{h':Heap}
theorem Inv.turnedL{t':Nat}{fp:List Addr}(I:Inv X pins σ H s)(hf:∀ b∈fp,FpOk X pins H b)(k:∀ b o,b∉fp->s.heap.get? b=some o->h'.get? b=some o):Inv X pins σ H { s with heap:=h',toks:=t' }:=by
 have nit:∀ b u,H b=some u->b∉fp:=fun b u e z=>by rw[(hf b z).1] at e;cases e
 refine I.step (g':=s.gens) (d':=s.drawn) (ch:=fp) (fun b hb=>?_) (fun b o _ _ hc e _=>k b o hc e) (fun b o _ _ hc e _=>⟨o.slots,k b o hc e⟩) (fun _ _ _ _ n=>n)
  (fun b o hc e=>⟨o,k b o hc e⟩) (fun _ _ e=>e) (fun _ _ _ e=>e) (fun b ps e=>⟨#[],by rw[e];simp⟩) (fun m hm=>?_) (fun b u e=>?_) I.bare
 ·obtain⟨f0,f1,f2,f3,f4,f5⟩:=hf b hb;exact⟨f3,f1,f4,f5⟩
 ·obtain⟨o,es,ep,ho,r⟩:=hm;exact⟨o,es,ep,k _ o (fun z=>(hf _ z).2.1 rfl) ho,r⟩
 ·refine(I.hok b u e).stay (fun c v hc q=>k c v ?_ q) (fun _ q=>q) fun _ _ q=>q;rcases hc with z|z
  ·rw[z];exact nit b u e
  ·exact nit c _ z
theorem Inv.turnLay{t':Nat}{fp:List Addr}{a:Addr}{o:HO}(I:Inv X pins σ H s)(hf:∀ b∈fp,FpOk X pins H b)(k:∀ b o,b∉fp->s.heap.get? b=some o->h'.get? b=some o)(hp:s.heap.objs.size<=a)(new:Yp X.prog X.w (upd H a o) h' a o):Inv X pins σ (upd H a o) { s with heap:=h',toks:=t' }:=by
 have nit:∀ b u,H b=some u->b∉fp:=fun b u e z=>by rw[(hf b z).1] at e;cases e
 have hn:H a=none:=I.hok.fresh hp;have ne:∀ b u,s.heap.get? b=some u->b≠a:=fun b u e=>zs9 (zsy (Heap.lt_size e) hp);refine I.step (g':=s.gens) (d':=s.drawn) (ch:=fp) (fun b hb=>?_) (fun b o _ _ hc e _=>k b o hc e) (fun b o _ _ hc e _=>⟨o.slots,k b o hc e⟩) (fun b u _ e n=>by rw[Zi (ne b u e)];exact n)
  (fun b o hc e=>⟨o,k b o hc e⟩) (fun b _ e=>by rw[Zi (Zh e hn)];exact e) (fun b _ _ e=>by rw[Zi (Zh e hn)];exact e) (fun b ps e=>⟨#[],by rw[Zi (Zh e hn),e];simp⟩) (fun m hm=>?_) (fun b u e=>?_) I.bare
 ·obtain⟨f0,f1,f2,f3,f4,f5⟩:=hf b hb;exact⟨f3,f1,f4,f5⟩
 ·obtain⟨o,es,ep,ho,r⟩:=hm;exact⟨o,es,ep,k _ o (fun z=>(hf _ z).2.1 rfl) ho,r⟩
 ·by_cases hb:b=a
  ·subst hb;rw[Zb] at e;cases e;exact new
  ·rw[Zi hb] at e;refine(I.hok b u e).stay (fun c v hc q=>k c v ?_ q) (fun c q=>by rw[Zi (Zh q hn)];exact q) fun c _ q=>by rw[Zi (Zh q hn)];exact q
   rcases hc with z|z
   ·rw[z];exact nit b u e
   ·exact nit c _ z
end
def Ite(K:Frag)(a:Addr):It :=
 ⟨fun i H=>∃ xs x,SqL K H a xs/\xs[i]?=some x,fun i H x H'=>∃ p y,H p=none/\(∀ xs,SqL K H a xs->xs[i]?=some y)/\x=.ref p/\H'=upd H p (.tup [.int (i:Nat),y]),fun i H=>∃ xs,SqL K H a xs/\xs.length<=i⟩
theorem za0{P:Program}{w:World}{K:Frag}{elts:List Expr}{k:Nat}{tp:Pos}(a e it:Addr)(hne:e≠it):Ep P w K (.Tuple elts k tp) (Ite K a) [e,it] e (fun i h=>(∃ old,IsEnum h e it (i:Nat) old)/\h.IsListIter it a i) where
 mem:=by simp
 obj:=fun i h st b hb=>by
  obtain⟨⟨old,h1⟩,h2⟩:=st;have e:b=e\/b=it:=by simpa using hb
  rcases e with rfl|rfl
  ·exact⟨_,h1,fun v z=>by cases z⟩
  ·obtain⟨o,e,c,d⟩:=h2;exact⟨o,e,fun v z=>by rw[d] at z;cases z⟩
 keep:=fun i h h' st k=>⟨let ⟨old,h1⟩:=st.1;⟨old,k e (by simp) _ h1⟩,st.2.at fun o q=>k it (by simp) o q⟩
 item:=by
  intro X hP hw hK hc i pins s σ H E I hf st hg;subst hP hw hK;obtain⟨xs,x,hq,hx⟩:=hg;obtain⟨its,rv,p,hz⟩:=I.list hq;obtain⟨u,hu,ru⟩:=rv.get hx;obtain⟨⟨old,h1⟩,h2⟩:=st;refine wpAny_pyNext_enum_item h1 h2 p.isList (x:=u) (by simpa using hu) hne fun h' o1 o2 o3 o4 o5=>?_;refine⟨_,rfl,wpAny_letOwnedTupleGo_enum o1 fun h'' e1 sb=>?_⟩;have hes:e≠s.heap.objs.size:=fun z=>by
   exact zt0 _ (z▸Heap.lt_size h1)
  have kk:∀ b o,b∉[e,it]->s.heap.get? b=some o->h''.get? b=some o:=fun b o hb q=>by
   have hb':b≠e/\b≠it:=by simpa using hb
   exact(sb.2 b hb'.1).trans (o5 b o hb'.1 hb'.2 q)
  have new:h''.get? s.heap.objs.size=some { cls:=Value.type "tuple",data:=Data.seq #[Value.int (i:Nat) s.toks,u] }:=(sb.2 _ (Ne.symm hes)).trans o3;have line:=Pk;refine⟨.ref s.heap.objs.size,_,I.turnLay (t':=s.toks+1) (o:=.tup [.int (i:Nat),x]) hf kk (zso _) ⟨?_,_,.cons ⟨s.toks,rfl⟩ (.cons ru .nil),⟨_,new,rfl,_,rfl⟩⟩,rfl,⟨_,x,I.hok.fresh (zso _),fun ys hy=>by rw[I.list_inj hy hq];exact hx,rfl,rfl⟩,⟨⟨u,e1⟩,o2.at fun o q=>(sb.2 it (Ne.symm hne)).trans q⟩,fun b hb=>?_⟩
  ·show 2<=sizeLine;rw[sizeLine_eq];decide
  ·have hb':b=e\/b=it:=by simpa using hb
   have hlt:b<s.heap.objs.size:=by
    rcases hb' with rfl|rfl
    ·exact Heap.lt_size h1
    ·obtain⟨o,q,_⟩:=h2;exact Heap.lt_size q
   rw[Zi (zs9 hlt)];exact(hf b hb).1
 done:=by
  intro X hP hw hK hc i pins s σ H E I hf st hg;subst hP hw hK;obtain⟨xs,hq,hx⟩:=hg;obtain⟨its,rv,p,hz⟩:=I.list hq;obtain⟨⟨old,h1⟩,h2⟩:=st;have hl:=rv.length;exact wpAny_pyNext_enum_end (I.ok.hd hc) h1 h2 p.isList (by simp;omega) fun h' eb=>⟨rfl,I.turnedL (t':=s.toks) hf fun b o hb q=>eb b o (fun z=>hb (by simp[z])) q⟩
 self:=fun _ _ _ _ _ st h=>by
  obtain⟨⟨old,h1⟩,h2⟩:=st;exact wpAny_pyIter_enum h1 h
inductive zgy(K:Frag)(R:It->Hp->Prop)(vs:List V)(H1:Hp):Prop where
 | mk(a)(_:vs=[.ref a])(_:(∃ xs,SqL K H1 a xs))(_:R (Ite K a) H1)
def zir(K:Frag)(ta:TA):TI:=fun σ H R=>ta σ H fun vs H1=>zgy K R vs H1
theorem zeq{X:Cx}{K:Frag}{elts:List Expr}{k:Nat}{tp:Pos}{a:Expr}{ta:TA}{p pos:Pos}(hK:X.K=K)(hg:Gl X "enumerate")(hm:X.mg "enumerate"=none)(ha:PA X [a] ta)(hs:starEach [a] X.env=[(false,eval a X.env)]:=by rfl):PI X (.Tuple elts k tp) (.Call (.Name "enumerate" p) [a] [] pos) (zir K ta):=by
 subst hK;intro pins s σ H R I h;refine Call_ (Nb I hg hm boot_enumerate (PyProof.Rows.callWith_type1 (thn (ha pos pins s σ H _ I h) fun us s1 ⟨vs,H1,I1,r1,q1⟩=>?_) hs rfl));obtain⟨a,e,⟨xs,hq⟩,q⟩:=q1;subst e;obtain⟨u,rfl,ru⟩:=R1 r1;cases ru;obtain⟨its,rv,pl,hz⟩:=I1.list hq;refine call_enumerate_list pl.isList fun h' e1 e2 e3 e4=>?_;refine wpAny_pyIter_enum e1 ?_;refine⟨_,[s1.heap.objs.size+1,s1.heap.objs.size],_,_,H1,rfl,I1.kept (t':=s1.toks) e4,za0 a _ _ (Nat.succ_ne_self _),⟨⟨_,e1⟩,e2⟩,fun b hb=>?_,q⟩;have e:b=s1.heap.objs.size+1\/b=s1.heap.objs.size:=by simpa using hb
 rcases e with rfl|rfl
 ·exact I1.fpOk (zul _) (I1.hok.fresh (zul _))
 ·exact I1.fpOk (zso _) (I1.hok.fresh (zso _))
theorem zc3{K:Frag}{a:Addr}{xs:List V}{g:TG}{tb:TS}{D:Og}{σ:St}{H:Hp}(Pv:Nat->St->Hp->Prop)(h0:Pv 0 σ H)(hl:∀ i σ H,i<=xs.length->Pv i σ H->SqL K H a xs)
  (hs:∀ i x p σ H,xs[i]?=some x->Pv i σ H->H p=none->g (.ref p) σ (upd H p (.tup [.int (i:Nat),x])) fun σ2 H2=>tb { D with nx:=Pv (i+1),ct:=Pv (i+1),bk:=D.nx } σ2 H2) (hd:∀ σ H,Pv xs.length σ H->D.nx σ H) :
  ∃ W:Nat->Nat->St->Hp->Prop,(∃ m,W 0 m σ H)/\∀ i m σ H,W i m σ H ->
    ((Ite K a).stop i H/\D.nx σ H)\/((Ite K a).go i H/\∃ N:St->Hp->Prop,(∀ σ' H',N σ' H'->∃ m',m' < m/\W (i+1) m' σ' H')/\∀ x H',(Ite K a).yld i H x H'->g x σ H' fun σ2 H2=>tb { D with nx:=N,ct:=N,bk:=D.nx } σ2 H2):=by
 refine⟨fun i m σ H=>m=xs.length-i/\i<=xs.length/\Pv i σ H,⟨xs.length,by simp,zs1 _,h0⟩,?_⟩;rintro i m σ H ⟨rfl,hi,p⟩;have q:=hl i σ H hi p;by_cases hlt:i<xs.length
 ·refine .inr ⟨⟨xs,xs[i],q,by simp[hlt]⟩,Pv (i+1),fun σ' H' p'=>⟨xs.length-(i+1),by omega,rfl,hlt,p'⟩,fun x H' y=>?_⟩;obtain⟨t,y,h1,h2,rfl,rfl⟩:=y;exact hs i y t σ _ (h2 xs q) p h1
 ·have e:i=xs.length:=by omega
  subst e;exact .inl ⟨⟨xs,q,zso _⟩,hd σ H p⟩
def Itz(K:Frag)(a b:Addr):It :=
 ⟨fun i H=>∃ xs ys x y,SqL K H a xs/\SqL K H b ys/\xs[i]?=some x/\ys[i]?=some y,fun i H x H'=>∃ p y z,H p=none/\(∀ xs,SqL K H a xs->xs[i]?=some y)/\(∀ ys,SqL K H b ys->ys[i]?=some z)/\x=.ref p/\H'=upd H p (.tup [y,z]),
  fun i H=>∃ xs ys,SqL K H a xs/\SqL K H b ys/\(xs.length<=i\/ys.length<=i)⟩
theorem zc4{P:Program}{w:World}{K:Frag}{elts:List Expr}{k:Nat}{tp:Pos}(l1 l2 z TI TO i1 i2:Addr)(hz:ZipApart z TI TO i1 i2 l1 l2):Ep P w K (.Tuple elts k tp) (Itz K l1 l2) [z,TO,i1,i2,TI] z
  (fun i h=>IsZip h z TI TO Value.none/\IsPair h TI (Value.ref i1) (Value.ref i2)/\(∃ a b,IsPair h TO a b)/\h.IsListIter i1 l1 i/\h.IsListIter i2 l2 i) where
 mem:=by simp
 obj:=fun i h st b hb=>by
  obtain⟨h1,h2,⟨a,b',h3⟩,h4,h5⟩:=st;have e:b=z\/b=TO\/b=i1\/b=i2\/b=TI:=by simpa using hb
  rcases e with rfl|rfl|rfl|rfl|rfl
  ·exact⟨_,h1,fun v z=>by cases z⟩
  ·exact⟨_,h3,fun v z=>by cases z⟩
  ·obtain⟨o,e,c,d⟩:=h4;exact⟨o,e,fun v z=>by rw[d] at z;cases z⟩
  ·obtain⟨o,e,c,d⟩:=h5;exact⟨o,e,fun v z=>by rw[d] at z;cases z⟩
  ·exact⟨_,h2,fun v z=>by cases z⟩
 keep:=fun i h h' st k=>by
  obtain⟨h1,h2,⟨a,b',h3⟩,h4,h5⟩:=st;exact⟨k z (by simp) _ h1,k TI (by simp) _ h2,⟨a,b',k TO (by simp) _ h3⟩,h4.at fun o q=>k i1 (by simp) o q,h5.at fun o q=>k i2 (by simp) o q⟩
 item:=by
  intro X hP hw hK hc i pins s σ H E I hf st hg;subst hP hw hK;obtain⟨xs,ys,x,y,hq,hq2,hx,hy⟩:=hg;obtain⟨its,rv,p,_⟩:=I.list hq;obtain⟨its2,rv2,p2,_⟩:=I.list hq2;obtain⟨u,hu,ru⟩:=rv.get hx;obtain⟨u2,hu2,ru2⟩:=rv2.get hy;obtain⟨h1,h2,⟨a,b',h3⟩,h4,h5⟩:=id st;refine wpAny_pyNext_zip_item hz h1 h2 h3 h4 h5 p.isList p2.isList (x:=u) (y:=u2) (by simpa using hu) (by simpa using hu2) fun h' o1 o2 o3 o4 o5 o6 o7=>?_;refine⟨_,rfl,wpAny_letOwnedTupleGo_zip o1 fun h'' e1 sb=>?_⟩;have lt:∀ b o,s.heap.get? b=some o->b≠s.heap.objs.size:=fun b o q=>zs9 (Heap.lt_size q);have kk:∀ b o,b∉[z,TO,i1,i2,TI]->s.heap.get? b=some o->h''.get? b=some o:=fun b o hb q=>by
   have hb':b≠z/\b≠TO/\b≠i1/\b≠i2/\b≠TI:=by simpa using hb
   exact(sb.2 b hb'.1).trans (o7 b o hb'.1 hb'.2.1 hb'.2.2.1 hb'.2.2.2.1 q)
  have new:h''.get? s.heap.objs.size=some { cls:=Value.type "tuple",data:=Data.seq #[u,u2] }:=(sb.2 _ (Ne.symm (lt _ _ h1))).trans o5;refine⟨.ref s.heap.objs.size,_,I.turnLay (t':=s.toks) (o:=.tup [x,y]) hf kk (zso _) ⟨?_,_,.cons ru (.cons ru2 .nil),⟨_,new,rfl,_,rfl⟩⟩,rfl,⟨_,x,y,I.hok.fresh (zso _),fun zs hy'=>by rw[I.list_inj hy' hq];exact hx,fun zs hy'=>by rw[I.list_inj hy' hq2];exact hy,rfl,rfl⟩,
   ⟨e1,(sb.2 _ hz.TIz).trans (o7 _ _ hz.TIz hz.TITO hz.TIi1 hz.TIi2 h2),⟨_,_,(sb.2 _ hz.TOz).trans o2⟩,o3.at fun o q=>(sb.2 _ hz.i1z).trans q,o4.at fun o q=>(sb.2 _ hz.i2z).trans q⟩,fun b hb=>?_⟩
  ·show 2<=sizeLine;rw[sizeLine_eq];decide
  ·have hne:b≠s.heap.objs.size:=by
    have e:b=z\/b=TO\/b=i1\/b=i2\/b=TI:=by simpa using hb
    rcases e with rfl|rfl|rfl|rfl|rfl
    ·exact lt _ _ h1
    ·exact lt _ _ h3
    ·obtain⟨o,q,_⟩:=h4;exact lt _ _ q
    ·obtain⟨o,q,_⟩:=h5;exact lt _ _ q
    ·exact lt _ _ h2
   rw[Zi hne];exact(hf b hb).1
 done:=by
  intro X hP hw hK hc i pins s σ H E I hf st hg;subst hP hw hK;obtain⟨xs,ys,hq,hq2,hx⟩:=hg;obtain⟨its,rv,p,_⟩:=I.list hq;obtain⟨its2,rv2,p2,_⟩:=I.list hq2;obtain⟨h1,h2,⟨a,b',h3⟩,h4,h5⟩:=st;have hl:=rv.length;have hl2:=rv2.length;exact wpAny_pyNext_zip_end (I.ok.hd hc) hz h1 h2 h3 h4 h5 p.isList p2.isList (hx.imp (fun z=>by simp;omega) fun z=>by simp;omega) fun h' eb=>⟨rfl,I.turnedL (t':=s.toks) hf fun b o hb q=>by
   have hb':b≠z/\b≠TO/\b≠i1/\b≠i2/\b≠TI:=by simpa using hb
   exact eb b o hb'.1 hb'.2.1 hb'.2.2.1 hb'.2.2.2.1 q⟩
 self:=fun _ _ _ _ _ st h=>wpAny_pyIter_zip st.1 h
inductive zis(K:Frag)(R:It->Hp->Prop)(vs:List V)(H1:Hp):Prop where
 | mk(a)(b)(_:vs=[.ref a,.ref b])(_:(∃ xs,SqL K H1 a xs))(_:(∃ ys,SqL K H1 b ys))(_:R (Itz K a b) H1)
def zjr(K:Frag)(ta:TA):TI:=fun σ H R=>ta σ H fun vs H1=>zis K R vs H1
theorem zgz{X:Cx}{K:Frag}{elts:List Expr}{k:Nat}{tp:Pos}{a b:Expr}{ta:TA}{p pos:Pos}(hK:X.K=K)(hg:Gl X "zip")(hm:X.mg "zip"=none)(ha:PA X [a,b] ta)(hs:starEach [a,b] X.env=[(false,eval a X.env),(false,eval b X.env)]:=by rfl)(hs2:starEach [b] X.env=[(false,eval b X.env)]:=by rfl):PI X (.Tuple elts k tp) (.Call (.Name "zip" p) [a,b] [] pos) (zjr K ta):=by
 subst hK;intro pins s σ H R I h;refine Call_ (Nb I hg hm boot_zip (PyProof.Rows.callWith_type1 (thn (ha pos pins s σ H _ I h) fun us s1 ⟨vs,H1,I1,r1,q1⟩=>?_) (by rw[hs,hs2]) (by rw[hs2];rfl)));obtain⟨a,b,e,⟨xs,hq⟩,⟨ys,hq2⟩,q⟩:=q1;subst e;cases r1 with
 | cons r rr =>
   obtain⟨u,rfl,ru⟩:=R1 rr;cases r;cases ru;obtain⟨its,rv,pl,hz⟩:=I1.list hq;obtain⟨its2,rv2,pl2,hz2⟩:=I1.list hq2;have lt1:@LT.lt Nat _ a s1.heap.objs.size:=by obtain⟨_,e,_⟩:=pl.isList;exact Heap.lt_size e
   have lt2:@LT.lt Nat _ b s1.heap.objs.size:=by obtain⟨_,e,_⟩:=pl2.isList;exact Heap.lt_size e
   refine call_zip_2 pl.isList pl2.isList fun h' e1 e2 e3 e4 e5 e6 e7=>?_;refine wpAny_pyIter_zip e1 ?_;refine⟨_,[s1.heap.objs.size+4,s1.heap.objs.size+3,s1.heap.objs.size,s1.heap.objs.size+1,s1.heap.objs.size+2],_,_,H1,rfl,I1.kept (t':=s1.toks) e7,zc4 a b _ _ _ _ _ ?_,⟨e1,e2,⟨_,_,e3⟩,e4,e5⟩,fun c hb=>?_,q⟩
   ·refine⟨?_,?_,?_,?_,?_,?_,?_,?_,?_,?_,?_,?_,?_,?_,?_,?_,?_,?_⟩<;>(show @Ne Nat _ _;omega)
   have e:c=s1.heap.objs.size+4\/c=s1.heap.objs.size+3\/c=s1.heap.objs.size\/c=s1.heap.objs.size+1\/c=s1.heap.objs.size+2:=by simpa using hb
   have hle:s1.heap.objs.size<=c:=by rcases e with rfl|rfl|rfl|rfl|rfl<;>omega
   exact I1.fpOk hle (I1.hok.fresh hle)
section
variable{X:Cx}{pins:List (Addr×Obj)}{σ:List (Option V)}{H H':Hp}{s:Shared}{h':Heap}
theorem Inv.freeze(I:Inv X pins σ H s)(e:H a=some (.dK kvs))(ho:s.heap.get? a=some o):Inv X pins σ (upd H a (.frz o (.dK kvs))) s:=by
 have na:∀ b u,H b=some u->u≠.dK kvs->b≠a:=fun b u q n z=>by subst z;rw[q] at e;exact n (Option.some.inj e)
 refine I.un (h':=s.heap) (t':=s.toks) ⟨fun b o q _ _ _=>q,fun b o q _ _ _=>⟨o.slots,q⟩,fun b o q n _=>?_,fun b o q _=>⟨o,q⟩,fun b ys q=>?_,fun b o v q=>?_,fun b ps q=>⟨#[],?_⟩⟩ fun b u q=>?_
 ·rw[Zi (fun z=>by subst z;rw[n] at e;cases e)];exact n
 ·rw[Zi (na b _ q fun z=>nomatch z)];exact q
 ·rw[Zi (na b _ q fun z=>nomatch z)];exact q
 ·rw[Zi (na b _ q fun z=>nomatch z),q];simp
 ·have stay:∀ {b u},Yp X.prog X.w H s.heap b u->Yp X.prog X.w (upd H a (.frz o (.dK kvs))) s.heap b u:=fun {b u} k=>k.stay (fun _ _ _ q=>q) (fun c q=>by rw[Zi (na c _ q fun z=>nomatch z)];exact q) fun c _ q=>by rw[Zi (na c _ q fun z=>nomatch z)];exact q
  by_cases hb:b=a
  ·subst hb;rw[Zb] at q;cases q;exact⟨ho,stay (I.hok b _ e)⟩
  ·rw[Zi hb] at q;exact stay (I.hok b u q)
end
def Itk(a:Addr)(o:Obj)(kvs:List (Key×V)):It :=
 ⟨fun i H=>H a=some (.frz o (.dK kvs))/\i<kvs.length,fun i H x H'=>H'=H/\∃ p,kvs[i]?=some p/\x=kV p.1,fun i H=>H a=some (.frz o (.dK kvs))/\kvs.length<=i⟩
theorem zc5(I:Inv X pins σ H s)(e:H a=some (.frz o (.dK kvs))):∃ vs,KV kvs vs/\∃ es ep,o.data=.dict es ep/\s.heap.DictAt (Ym X.prog X.w) a vs ep:=by
 obtain⟨h1,hz,hm,vs,kv,o',es,ep,h2,h3,h4,h5⟩:=(show Yp X.prog X.w H s.heap a (.frz o (.dK kvs)) from I.hok a _ e);rw[h1] at h2;cases h2;exact⟨vs,kv,es,ep,h4,o,es,h1,h3,h4,h5⟩
theorem za1{P:Program}{w:World}{K:Frag}{tg:Expr}(a it:Addr)(o:Obj)(kvs:List (Key×V))(es:Array DictEntry)(ep:Nat)(ho:o.data=.dict es ep):Ep P w K tg (Itk a o kvs) [it] it (fun i h=>h.IsKeyIter it a i kvs.length ep) where
 mem:=by simp
 obj:=fun i h st b hb=>by
  have e:b=it:=by simpa using hb
  subst e;obtain⟨o,e,c,d⟩:=st;exact⟨o,e,fun v z=>by rw[d] at z;cases z⟩
 keep:=fun i h h' st k=>by
  obtain⟨o,e,c,d⟩:=st;exact⟨o,k it (by simp) o e,c,d⟩
 item:=by
  intro X hP hw hK hc i pins s σ H E I hf st hg;subst hP hw hK;obtain⟨hq,hi⟩:=hg;obtain⟨vs,kv,es',ep',h1,h2⟩:=zc5 I hq;rw[ho] at h1;cases h1;obtain⟨f0,f1,f2,f3,f4,f5⟩:=hf it (by simp);have hl:kvs.length=vs.length:=KV.length kv;have hv:i<vs.length:=by omega
  obtain⟨⟨k,v⟩,hkv⟩:∃ kv,vs[i]'hv=kv:=⟨_,rfl⟩;rw[hl] at st;refine wpAny_pyNext_dict_item st h2 (k:=k) (v:=v) (by rw[zsi hv,hkv]) fun key h' hk st' sb=>?_;have I1:Inv X pins σ H { s with heap:=h' }:=I.turned (t':=s.toks) (fun b o hb e=>(sb.2 b hb).trans e) f0 f1 f3 f4 f5;obtain⟨o2,e2,c2,d2⟩:=id st';have ek:=congrArg (·[i]?) (KV.keys kv);simp only[zsn,zsi hv,zsi hi,hkv,ztq] at ek;refine⟨key,rfl,zbt (s:={ s with heap:=h' }) e2 c2 d2 ⋯ ⟨kV (kvs[i]'hi).1,H,I1,?_,⟨rfl,_,zsi hi,rfl⟩,by rw[hl];exact st',fun b hb=>(hf b hb).1⟩⟩;have e3:(kvs[i]'hi).1=k:=Option.some.inj ek;rw[e3];rcases Yu hk with ⟨j,t,rfl,rfl⟩|⟨z,t,rfl,rfl⟩
  ·exact⟨t,rfl⟩
  ·exact⟨t,rfl⟩
 done:=by
  intro X hP hw hK hc i pins s σ H E I hf st hg;subst hP hw hK;obtain⟨hq,hi⟩:=hg;obtain⟨vs,kv,es',ep',h1,h2⟩:=zc5 I hq;rw[ho] at h1;cases h1;obtain⟨f0,f1,f2,f3,f4,f5⟩:=hf it (by simp);have hl:kvs.length=vs.length:=KV.length kv;rw[hl] at st;exact wpAny_pyNext_dict_end (I.ok.hd hc) st h2 (zud ⋯) fun h' eb=>⟨rfl,I.turned (t':=s.toks) (fun b o hb e=>eb b o hb e) f0 f1 f3 f4 f5⟩
 self:=fun _ _ _ _ _ st h=>wpAny_pyIter_keyiter st h
inductive zg0(R:It->Hp->Prop)(x:V)(H1:Hp):Prop where
 | mk(a)(kvs)(_:x=.ref a)(_:H1 a=some (.dK kvs))(_:∀ o,R (Itk a o kvs) (upd H1 a (.frz o (.dK kvs))))
def zit(tl:TE):TI:=fun σ H R=>tl σ H fun x H1=>zg0 R x H1
theorem zer{X:Cx}{tg:Expr}{l:Expr}{tl:TE}(hl:PE X l tl):PI X tg l (zit tl):=by
 intro pins s σ H R I h;refine thn (hl pins s σ H _ I h) fun v s1 ⟨x,H1,I1,r1,q1⟩=>?_;obtain⟨a,kvs,e,hq,q⟩:=q1;subst e;cases r1;obtain⟨hz,hm,vs,kv,o,es,ep,h2,h3,h4,h5⟩:=(show Yp X.prog X.w H1 s1.heap a (.dK kvs) from I1.hok a _ hq);have hl:kvs.length=vs.length:=KV.length kv;have I2:=I1.freeze hq h2;refine wpAny_pyIter_dict hm ⟨o,es,h2,h3,h4,h5⟩ ?_;refine⟨s1.heap.objs.size,[s1.heap.objs.size],_,_,_,rfl,I2.kept (t':=s1.toks) fun b o e=>Heap.get?_push_of_some _ e,za1 a _ o kvs es ep h4,⟨_,Heap.get?_push_size _ rfl,rfl,by rw[hl];rfl⟩,fun b hb=>?_,q o⟩;have e:b=s1.heap.objs.size:=by simpa using hb
 subst e;exact I2.fpOk (zso _) (I2.hok.fresh (zso _))
theorem zc6{a:Addr}{o:Obj}{kvs:List (Key×V)}{g:TG}{tb:TS}{D:Og}{σ:St}{H:Hp}(Pv:Nat->St->Hp->Prop)(h0:Pv 0 σ H)(hl:∀ i σ H,i<=kvs.length->Pv i σ H->H a=some (.frz o (.dK kvs)))
  (hs:∀ i k v σ H,kvs[i]?=some (k,v)->Pv i σ H->g (kV k) σ H fun σ2 H2=>tb { D with nx:=Pv (i+1),ct:=Pv (i+1),bk:=D.nx } σ2 H2) (hd:∀ σ H,Pv kvs.length σ H->D.nx σ H) :
  ∃ W:Nat->Nat->St->Hp->Prop,(∃ m,W 0 m σ H)/\∀ i m σ H,W i m σ H ->
    ((Itk a o kvs).stop i H/\D.nx σ H)\/((Itk a o kvs).go i H/\∃ N:St->Hp->Prop,(∀ σ' H',N σ' H'->∃ m',m' < m/\W (i+1) m' σ' H')/\∀ x H',(Itk a o kvs).yld i H x H'->g x σ H' fun σ2 H2=>tb { D with nx:=N,ct:=N,bk:=D.nx } σ2 H2):=by
 refine⟨fun i m σ H=>m=kvs.length-i/\i<=kvs.length/\Pv i σ H,⟨kvs.length,by simp,zs1 _,h0⟩,?_⟩;rintro i m σ H ⟨rfl,hi,p⟩;have q:=hl i σ H hi p;by_cases hlt:i<kvs.length
 ·refine .inr ⟨⟨q,hlt⟩,Pv (i+1),fun σ' H' p'=>⟨kvs.length-(i+1),by omega,rfl,hlt,p'⟩,fun x H' y=>?_⟩;obtain⟨e,⟨k,v⟩,y,rfl⟩:=y;subst e;exact hs i k v σ _ y p
 ·have e:i=kvs.length:=by omega
  subst e;exact .inl ⟨⟨q,zso _⟩,hd σ H p⟩
theorem za2(hc:X.calm=true):V2 X (.builtin "max") (fun xs H Q=>∃ (l:Addr) (kvs:List (Key×V)) (ns:List Int),xs=[.ref l]/\Rd H l (.dK kvs)/\kvs.map (·.1)=ns.map inl/\0<ns.length/\∀ M,M∈ns->(∀ a∈ns,a<=M)->Q (.int M) H):=by
 intro pins s σ H xs us Q I r h;obtain⟨l,kvs,ns,rfl,hl,hns,hpos,q⟩:=h;obtain⟨u,rfl,ru⟩:=R1 r;cases ru;obtain⟨hz,hm,vs,kv,o,es,ep,h2,h3,h4,h5⟩:=Pc I.hok hl;have hlen:vs.length=ns.length:=by
  have e1:=KV.length kv;have e2:=congrArg List.length hns;rw[zsg,zsg] at e2;omega
 have hlt:l<s.heap.objs.size:=Heap.lt_size h2;have da:s.heap.DictAt (Ym X.prog X.w) l vs ep:=⟨o,es,h2,h3,h4,h5⟩;have val:∀ (i:Nat) (v:Value),(∃ k y,vs[i]?=some (k,y)/\(Ym X.prog X.w).is k v=true)->∃ t,v=.int (ns.getD i 0) t:=fun i v ⟨k,y,hk,hv⟩=>by
  have e1:=congrArg (·[i]?) (KV.keys kv);have e2:=congrArg (·[i]?) hns;simp only[zsn,hk,ztq] at e1 e2;rw[e1] at e2;have hi:i<ns.length:=by
   rw[<- hlen];exact(zsj.mp hk).1
  rw[zsi hi] at e2;have e3:k=inl (ns[i]'hi):=Option.some.inj e2;have e4:ns.getD i 0=ns[i]'hi:=by rw[zta,zsi hi];rfl
  rw[e4];rcases Yu hv with ⟨j,t,rfl,rfl⟩|⟨z,t,rfl,rfl⟩
  ·cases e3;exact⟨t,rfl⟩
  ·cases e3
 refine call_max_walk (wpAny_pyIter_dict hm da ?_);refine⟨s.heap.objs.size,[s.heap.objs.size,l],[s.heap.objs.size],vs.length,_,_,_,rfl,Walks.dictKeys (knd:=Ym X.prog X.w) (A:=X.A.in1) (I.ok.hd hc) _ l (zs9 hlt) vs ep,⟨⟨_,Heap.get?_push_size _ rfl,rfl,rfl⟩,da.push _⟩,fun b hb=>?_,by omega,CmpOf.ints_gt (fun i=>ns.getD i 0) (fun i v hv=>val i v hv),fun v h' tk hP hk=>?_⟩
 ·show b<(s.heap.push _).objs.size;rw[Heap.size_push];rcases zsk.mp hb with rfl|hb
  ·exact Nat.lt_succ_self _
  ·rcases zsk.mp hb with rfl|hb
   ·exact zug hlt
   ·cases hb
 ·obtain⟨h1,h2⟩:=argBest_gt (fun i=>ns.getD i 0) (vs.length-1);obtain⟨t,rfl⟩:=val _ v hP;rw[hlen] at h1 h2 ⊢;generalize argBest (fun i j=>decide ((fun i=>ns.getD i 0) i>(fun i=>ns.getD i 0) j)) (ns.length-1)=b at h1 h2 ⊢;have hb:b<ns.length:=by omega
  have eg:∀ (k:Nat) (hk:k<ns.length),ns.getD k 0=ns[k]'hk:=fun k hk=>by rw[zta,zsi hk];rfl
  refine⟨.int (ns.getD b 0),H,I.kept fun c o e=>?_,⟨_,rfl⟩,q _ (by rw[eg b hb];exact ztm hb) fun x hx=>?_⟩
  ·refine hk c o (fun hm=>?_) (Heap.get?_push_of_some _ e);rw[zsl.mp hm] at e;exact zt0 _ (Heap.lt_size e)
  ·obtain⟨k,hk',rfl⟩:=ztw hx;have:=h2 k ⋯;show ns[k]<=_;rw[<- eg k hk'];exact this
theorem Pp(I:Nat->Shared->Prop)
  (turn:∀ (n:Nat) (s:Shared),I n s->wpAny (model prog w) A (pyNext it) (fun r s₁=>match r with
   | none=>R (.ok .next) s₁
   | some v=>wpAny (model prog w) A (letOwnedTupleGo target it v) (fun _ s₁'=>wpAny (model prog w) A (assign target env v) (fun _ s₂=>wpAny (model prog w) A (forIn ifs true fun c r=>if r=true then do let ok <- isTrue c env (eval c env);pure (ForInStep.yield ok) else pure (ForInStep.yield r)) (fun ok s₃=>if ok=true then wpAny (model prog w) A (eval elt env) (fun x s₄=>wpAny (model prog w) A (call (.builtin "list.append") [acc,x]) (fun _ s₅=>∃ m,m<n/\I m s₅) (notedBy (model prog w) A env fun e s'=>R (.error e) s') s₄) (notedBy (model prog w) A env fun e s'=>R (.error e) s') s₃ else ∃ m,m<n/\I m s₃) (notedBy (model prog w) A env fun e s'=>R (.error e) s') s₂) (notedBy (model prog w) A env fun e s'=>R (.error e) s') s₁') (notedBy (model prog w) A env fun e s'=>R (.error e) s') s₁) (notedBy (model prog w) A env fun e s'=>R (.error e) s') s)
  (n:Nat) (h:I n s):codeAny (model prog w) A (.compLoop (.ListComp elt [⟨target,iter,ifs,0⟩] scope pos) 0 it acc env) R s:=by
 refine codeAny_loop rfl I (fun n s hI=>?_) n h;refine wpAny_noted ?_;rw[compTurn_list];refine wpAny_bind (wpAny_standAt (wpAny_bind (wpAny_mono (turn n s hI) (fun r s₁ h₁=>?_) fun _ _ z=>z)));cases r with
 | none=>exact wpAny_pure h₁
 | some v =>
   refine wpAny_bind (wpAny_mono h₁ (fun _ s₁' h₂=>wpAny_bind (wpAny_mono h₂ (fun _ s₂ h₃=>wpAny_bind (wpAny_mono h₃ (fun ok s₃ h₄=>?_) fun _ _ z=>z)) fun _ _ z=>z)) fun _ _ z=>z);cases ok with
   | false =>
     simp only[ztt,if_false] at h₄ ⊢;exact wpAny_pure ⟨rfl,h₄⟩
   | true =>
     simp only[if_true] at h₄ ⊢;refine wpAny_bind (wpAny_bind (wpAny_mono h₄ (fun x s₄ h₅=>wpAny_bind (wpAny_mono h₅ (fun _ s₅ h₆=>wpAny_pure (wpAny_pure ⟨rfl,h₆⟩)) fun _ _ z=>z)) fun _ _ z=>z))
def cs0(xo:List Str)(js:List Nat)(σ:St):St:=(xo.map fun _=>none)++js.map fun j=>(σ[j]?).getD none
def Qx(xo:List Str)(js:List Nat)(σ σ2:St):Prop:=∃ os:St,os.length=xo.length/\σ2=os++js.map fun j=>(σ[j]?).getD none
theorem Qx.weak(o:Qx xo js σ σ2)(I:Inv X pins σ2 H s):Inv X pins (cs0 xo js σ) H s:=by
 obtain⟨os,hl,rfl⟩:=o;refine I.weak (by unfold cs0;simp[hl]) fun i v e=>?_;unfold cs0 at e;by_cases hi:i<xo.length
 ·rw[ztb (by rw[zsg];exact hi),zsn,zsi hi] at e;cases e
 ·rw[ztd (by rw[zsg];omega),zsg] at e;rw[ztd ⋯,hl];exact e
def Bn(J:It)(xo:List Str)(js:List Nat)(g:TG)(tt:TT)(te:TE)(σ:St)(H:Hp)(Q:VK):Prop:=∃ W:Nat->Nat->List V->Hp->Prop,(∃ m,W 0 m [] H)/\∀ i m ys H,W i m ys H ->
 (J.stop i H/\ys.length<=sizeLine/\∀ p,H p=none->Q (.ref p) (upd H p (.lst ys))) \/
 (J.go i H/\ys.length<sizeLine/\∃ N:List V->Hp->Prop,(∀ ys' H',N ys' H'->∃ m',m' < m/\W (i+1) m' ys' H')/\∀ x H',J.yld i H x H'->g x (cs0 xo js σ) H' fun σ2 H1=>Qx xo js σ σ2/\tt σ2 H1 fun b H2=>if b=true then te σ2 H2 fun y H3=>N (ys++[y]) H3 else N ys H2)
def zg1(wi:TI)(xo:List Str)(js:List Nat)(g:TG)(tt:TT)(te:TE):TE:=fun σ H Q=>wi σ H fun J H1=>Bn J xo js g tt te σ H1 Q
section
variable{X:Cx}{elt iter tg:Expr}{xo:List Str}{pos:Pos}{ifs:List Expr}{scope:Scope}{cl:List (Str×Addr)}{ys:List Str}{js:List Nat}{g:TG}
structure Ot(X:Cx)(xo:List Str)(scope:Scope)(cl:List (Str×Addr))(ys:List Str)(js:List Nat):Prop where
 clos:closureFor scope X.env=pure cl
 kind:scope.kind=.function
 names:∀ y∈scope.names,y.2=.local->scope.names.lookup y.1=some .local
 nocell:∀ y∈scope.names,y.2≠.cell
 at_:js.map (X.N[·]?)=ys.map some
 free:Jw (fun y=>X.env.kindOf y=some .cell/\(relabel scope X.env).names.lookup y=some .cell/\cl.lookup y=X.env.cells.lookup y) ys
 only:Jw (fun p=>X.env.cells.lookup p.1=some p.2) cl
 vis:∀ y∈scope.names,y.2=.free->y.1∈ys
theorem Ot.same(c:Ot X xo scope cl ys js)(h:cl.lookup y=some a):X.env.cells.lookup y=some a:=c.only.get (PySem.mem_of_lookup h)
theorem zc7(c:Ot X xo scope cl ys js)(I:Inv X pins σ H s)(hf:∀ b∈fp,FpOk X pins H b)(hex:∀ b∈fp,b<s.heap.objs.size)(hC:s.heap.objs.size<=C) :
  (Yr X pn Nc scope cl s H fp C).Ok where
 mod:=I.ok.mod
 kind:=c.kind
 glob:=I.ok.glob
 blt:=I.ok.blt
 above:=hC
 inj:=fun y z a h1 h2=>I.ok.inj y z a (c.same h1) (c.same h2)
 has:=fun y h=>by
  obtain⟨k,m,q⟩:=Om h;rcases q with rfl|rfl
  ·exact absurd rfl (c.nocell _ m)
  ·obtain⟨a1,a2,a3⟩:=c.free.get (c.vis _ m rfl);obtain⟨a,ha⟩:=I.ok.has y (.inl a1);exact⟨a,a3.trans ha⟩
 cab:=fun _ _ h=>by cases h
 hd:=I.ok.hd
 frames:=I.ok.frames
 stk:=.inl rfl
 exf:=fun b hb=>by
  obtain⟨f0,f1,f2,f3,f4,f5⟩:=hf b hb;exact⟨zs9 (zsy (hex b hb) hC),fun y a h=>f4 y a (c.same h)⟩
 bs:=I.bs
 bsz:=zs3 I.ok.bsz I.sz
 noex:=fun b o q hb=>by
  obtain⟨f0,f1,f2,f3,f4,f5⟩:=hf b hb;rcases f3 with z|z
  ·exact I.ok.noex b o q z
  ·exact absurd (zsy (Heap.lt_size (I.ok.bs b o q).1) z) (zt0 _)
 exfs:=fun b hb m=>by
  obtain⟨f0,f1,f2,f3,f4,f5⟩:=hf b hb;exact(zsk.mp (I.stkSub b m)).elim f1 f2
 funs:=I.stack
 frf:=I.stkFree
theorem za3(c:Ot X xo scope cl ys js)(I:Inv X pins σ H s)(hf:∀ b∈fp,FpOk X pins H b)(hex:∀ b∈fp,b<s.heap.objs.size)(hC:s.heap.objs.size<=C)
  (hns:h1.Ns C m1) (old:∀ b o,s.heap.get? b=some o->h1.get? b=some o) :
  Inv (Yr X (X.pn++pins) (xo++ys) scope cl s H fp C) [] (cs0 xo js σ) H { s with heap:=h1,toks:=t1 }:=by
 obtain⟨m,hn,hl⟩:=I.loc;have jl:js.length=ys.length:=by have:=congrArg List.length c.at_;simpa using this
 refine⟨zc7 c I hf hex hC,rfl,I.bare,Un.kept old,⟨m1,hns,fun i y v e1 e2 e3=>?_⟩,fun y a h=>?_,I.hok.fresh hC,fun y a h=>I.freeC y a (c.same h),fun p hp=>?_,I.hok.kept old,by simp[jl,Yr,cs0]⟩
 ·have e2:=e2.resolve_right (Xu _);unfold cs0 at e2;by_cases hi:i<xo.length
  ·rw[ztb (by rw[zsg];exact hi),zsn,zsi hi] at e2;cases e2
  ·rw[ztd (by rw[zsg];omega),zsg] at e2;have e1:ys[i-xo.length]?=some y:=by
    have e1:(xo++ys)[i]?=some y:=e1;rw[ztd ⋯] at e1;exact e1
   generalize i-xo.length=k at e1 e2;rw[zsn] at e2;cases hj:js[k]? with
   | none=>rw[hj] at e2;cases e2
   | some j =>
     rw[hj] at e2;have ej:X.N[j]?=some y:=by
      have q:=congrArg (·[k]?) c.at_;simp only[zsn,hj,e1,ztq] at q;exact Option.some.inj q
     have ev:σ[j]?=some (some v):=by
      simp only[ztq,Option.some.injEq] at e2;cases hσ:σ[j]? with
      | none=>rw[hσ] at e2;cases e2
      | some o=>rw[hσ] at e2;rw[show o=some v from e2]
     obtain⟨a1,a2,a3⟩:=c.free.get (zsu e1);obtain⟨u,r,l⟩:=hl j y v ej (.inl ev) (.inr (.inl a1));refine⟨u,r,.inr ⟨.inl a2,?_⟩⟩;rcases l with ⟨k1,_⟩|⟨_,b,e,z⟩
     ·rw[a1] at k1;cases k1
     ·obtain⟨o,ho,hd⟩:=z;exact⟨b,a3.trans e,o,old _ _ ho,hd⟩
 ·obtain⟨v,o,ho,hd⟩:=I.cell y a (c.same h);exact⟨v,o,old _ _ ho,hd⟩
 ·obtain⟨e,n,ne,nf,d⟩:=I.pin p (by simpa [Yr] using hp);refine⟨old _ _ e,n,zs9 (zsy (Heap.lt_size e) hC),fun m=>?_,d⟩;exact(zsk.mp (I.stkSub _ m)).elim ne nf
theorem Kk{pins:List (Addr×Obj)}{σ:St}{H:Hp}{s:Shared}{tt:TT}{te:TE}{it:Addr}{fp:List Addr}{tn:Nat->Heap->Prop}{J:It}{W:Nat->Nat->List V->Hp->Prop}{m0:Nat}{Q:VK}{E:Value->Shared->Prop}{RR:Value->Addr->Result->Shared->Prop}
  (hcm:X.calm=true) (c:Ot X xo scope cl ys js) (ht:∀ pn s₀ H₀ fp C,PTs (Yr X pn (xo++ys) scope cl s₀ H₀ fp C) ifs tt) (hgt:∀ pn s₀ H₀ fp C,PG (Yr X pn (xo++ys) scope cl s₀ H₀ fp C) tg g) (he:∀ pn s₀ H₀ fp C,PE (Yr X pn (xo++ys) scope cl s₀ H₀ fp C) elt te)
  (I:Inv X pins σ H s) (T:Ep X.prog X.w X.K tg J fp it tn) (st0:tn 0 s.heap) (hf:∀ b∈fp,FpOk X pins H b) (w0:W 0 m0 [] H)
  (turn:∀ i m ys H,W i m ys H->(J.stop i H/\ys.length<=sizeLine/\∀ p,H p=none->Q (.ref p) (upd H p (.lst ys))) \/
   (J.go i H/\ys.length<sizeLine/\∃ N:List V->Hp->Prop,(∀ ys' H',N ys' H'->∃ m',m' < m/\W (i+1) m' ys' H')/\∀ x H',J.yld i H x H'->g x (cs0 xo js σ) H' fun σ2 H1=>Qx xo js σ σ2/\tt σ2 H1 fun b H2=>if b=true then te σ2 H2 fun y H3=>N (ys++[y]) H3 else N ys H2))
  (hRR:∀ D C s' m,s'.heap.Ns C m->(∀ h',Heap.SameBut C s'.heap h'->∃ H',Inv X pins σ H' { s' with heap:=h' }/\Q (.ref D) H')->(∃ H',Inv X pins σ H' s'/\Q (.ref D) H'/\H' C=none)->s.heap.objs.size<=C->RR (.ref D) C (.ok .next) s') :
  wpAny (model X.prog X.w) X.A (newList []) (fun acc s₃=>wpAny (model X.prog X.w) X.A (newFunctionEnv scope X.env.globals cl [] X.env.qual none .none (some X.env)) (fun cenv s₄ =>
   codeAny (model X.prog X.w) X.A (.compStart (.ListComp elt [⟨tg,iter,ifs,0⟩] scope pos) 0 (.ref it) acc { cenv with scope:=relabel scope X.env }) (RR acc cenv.locals) s₄) E s₃) E s:=by
 refine wpAny_newObj_type (wpAny_newFunctionEnv c.nocell (by intro y hy;simp at hy) (fun h₁ hns₁ hsb₁=>?_) c.kind);dsimp only at hns₁ hsb₁ ⊢;generalize hH2:s.heap.push { cls:=.type "list",dict:=none,data:=.seq ([]:List Value).toArray }=G at hns₁ hsb₁ ⊢;generalize hD:s.heap.objs.size=D;have hC:G.objs.size=D+1:=by rw[<- hH2,Heap.size_push,hD]
 generalize hCe:G.objs.size=C at hns₁ hsb₁ ⊢;have hCD:C=D+1:=hCe.symm.trans hC;have hDC:D≠C:=by omega
 have below:∀ b o,s.heap.get? b=some o->b<D:=fun b o e=>by rw[<- hD];exact Heap.lt_size e
 have ltC:∀ b:Addr,b<D->b≠C:=fun b h=>zs9 (hCD▸zug h);have ltD:∀ b:Addr,b<D->b≠D:=fun b h=>zs9 h;have old:∀ b o,s.heap.get? b=some o->h₁.get? b=some o:=fun b o e=>hsb₁.extBut b o (ltC b (below b o e)) (Heap.get?_push_of_some _ (hH2▸Heap.get?_push_of_some _ e));have hacc:h₁.PlainList D #[]:=⟨_,hsb₁.extBut _ _ hDC (Heap.get?_push_of_some _ (by rw[<- hH2,<- hD];exact Heap.get?_push_size _ rfl))⟩;have hex:∀ b∈fp,b<s.heap.objs.size:=fun b hb=>by
  obtain⟨o,e,_⟩:=T.obj _ _ st0 b hb;exact Heap.lt_size e
 have lt0:∀ b∈fp,b<D:=fun b hb=>by rw[<- hD];exact hex b hb
 have freshD:s.heap.get? D=none:=Heap.get?_none_of_le ⋯;have freshC:s.heap.get? C=none:=Heap.get?_none_of_le ⋯;have frE:∀ {H':Hp},(∀ b∈fp,H' b=none)->∀ {o:Obj} {b:Addr},b∈fp->FpOk (Yr X (X.pn++pins) (xo++ys) scope cl s H fp C) [(D,o)] H' b:=fun {H'} hn {o b} hb=>by
  obtain⟨f0,f1,f2,f3,f4,f5⟩:=hf b hb;refine⟨hn b hb,?_,?_,.inl hb,fun y a h=>f4 y a (c.same h),fun p hp=>?_⟩
  ·exact ltC b (lt0 b hb)
  ·exact fun m=>(zsk.mp (I.stkSub b m)).elim f1 f2
  ·rcases zsv.mp hp with z|z
   ·exact f5 p z
   ·rw[zsl.mp z];exact Ne.symm (ltD b (lt0 b hb))
 have pinD:∀ {σ':St} {H':Hp} {s':Shared} {o:Obj},Inv (Yr X (X.pn++pins) (xo++ys) scope cl s H fp C) [] σ' H' s'->s'.heap.get? D=some o->(∀ v,o.data≠.cell v)->H' D=none->Inv (Yr X (X.pn++pins) (xo++ys) scope cl s H fp C) [(D,o)] σ' H' s':=fun {σ' H' s' o} Ic e nc n =>
  Ic.pins_of fun p hp=>by
   rw[zsl.mp hp];refine⟨e,n,hDC,fun m=>?_,nc⟩;obtain⟨_,ob,hob,_⟩:=I.stack.mem m;exact absurd (below D ob hob) (zt0 _)
 have loop:∀ s₃:Shared,s₃={ s with heap:=h₁,toks:=s.toks+([]:List (Str×Value)).length } ->
   codeAny (model X.prog X.w) X.A (.compLoop (.ListComp elt [⟨tg,iter,ifs,0⟩] scope pos) 0 (.ref it) (.ref D) (compEnvC scope cl C X.env)) (RR (.ref D) C) s₃:=by
  rintro s₃ rfl;have I0:=za3 (t1:=s.toks+([]:List (Str×Value)).length) c I hf hex (by omega:s.heap.objs.size<=C) hns₁ old;refine Pp (fun n s'=>∃ i H' zs its,Inv (Yr X (X.pn++pins) (xo++ys) scope cl s H fp C) [] (cs0 xo js σ) H' s'/\tn i s'.heap/\(∀ b∈fp,H' b=none)/\s'.heap.PlainList D (its:List Value).toArray/\Vals zs its/\H' D=none/\W i n zs H') ?_ m0
   ⟨0,H,[],[],I0,T.keep _ _ _ st0 fun b hb o e=>old b o e,fun b hb=>(hf b hb).1,hacc,.nil,I.hok.fresh ⋯,w0⟩
  rintro n s3 ⟨i,H3,zs,its,I3,st3,fr3,⟨n3,pl3⟩,rv3,fD3,w3⟩;have I3':=pinD I3 pl3 (by intro v z;cases z) fD3;rcases turn i n zs H3 w3 with ⟨stop,hsz,fin⟩|⟨go,hsz,Nx,hNx,step⟩
  ·refine wpAny_mono (T.done (Yr X (X.pn++pins) (xo++ys) scope cl s H fp C) rfl rfl rfl hcm i _ s3 _ H3 (fun _ _=>False) I3' (fun b hb=>frE fr3 hb) st3 stop) (fun r s4 ⟨hr,I4⟩=>?_) fun _ _ z=>z.elim;subst hr;have plD:s4.heap.get? D=some _:=(I4.pin (D,{ cls:=Value.type "list",data:=.seq its.toArray n3 }) (zs5 _ zsz)).1;obtain⟨m4,hn4,_⟩:=I4.loc;have okU:∀ h',(∀ b o,b≠C->s4.heap.get? b=some o->h'.get? b=some o)->Inv X pins σ (upd H3 D (.lst zs)) { s4 with heap:=h' }:=fun h' k1=>by
    have u4:Un (frs X.stack) fp H H3 s.heap s4.heap:=I4.base;have neC:∀ b o,s.heap.get? b=some o->b≠C:=fun b o e=>ltC b (below b o e);have neD:∀ b o,s.heap.get? b=some o->b≠D:=fun b o e=>ltD b (below b o e);have trD:∀ b u,H3 b=some u->b≠D:=fun b u e z=>by rw[z,fD3] at e;cases e
    have trC:∀ b u,H3 b=some u->b≠C:=fun b u e z=>by rw[z,show H3 C=none from I4.free] at e;cases e
    have un:Un (frs X.stack) fp H (upd H3 D (.lst zs)) s.heap h':=by
     refine⟨fun b o e n hb hx=>k1 b o (neC b o e) (u4.keep b o e n hb hx),fun b o e n hb hx=>?_,fun b o e n hx=>?_,fun b o e hx=>?_,fun b xs e=>?_,fun b ob u e=>?_,fun b ps e=>?_⟩
     ·obtain⟨sl,z⟩:=u4.slot b o e n hb hx;exact⟨sl,k1 b _ (neC b o e) z⟩
     ·rw[Zi (neD b o e)];exact u4.free b o e n hx
     ·obtain⟨o',z⟩:=u4.there b o e hx;exact⟨o',k1 b o' (neC b o e) z⟩
     ·have z:=u4.tups b xs e;rw[Zi (trD b _ z)];exact z
     ·have z:=u4.frzs b ob u e;rw[Zi (trD b _ z)];exact z
     ·obtain⟨more,z⟩:=u4.tbls b ps e;exact⟨more,by rw[Zi (trD b _ z)];exact z⟩
    refine I.call' (s':={ s4 with heap:=h' }) (ch:=fp) (show s4.os=s.os from I4.os) un (fun b u e=>?_) I4.bare fun b hb=>?_
    ·by_cases hb:b=D
     ·subst hb;rw[Zb] at e;cases e;exact⟨hsz,its,n3,rv3,k1 _ _ hDC plD⟩
     ·rw[Zi hb] at e;refine(I4.hok b u e).stay (fun d v hd q=>?_) (fun d q=>by rw[Zi (trD d _ q)];exact q) fun d xs q=>by rw[Zi (trD d _ q)];exact q
      rcases hd with z|z
      ·exact k1 d v (by rw[z];exact trC b u e) q
      ·exact k1 d v (trC d _ z) q
    ·obtain⟨f0,f1,f2,f3,f4,f5⟩:=hf b hb;exact⟨f3,f1,f4,f5⟩
   refine hRR D C s4 m4 hn4 (fun h' hs'=>⟨_,okU h' (fun b o hb e=>hs'.extBut b o hb e),fin D fD3⟩) ⟨_,okU s4.heap (fun _ _ _ e=>e),fin D fD3,?_⟩ ⋯
   ·rw[Zi (Ne.symm hDC)];exact I4.free
  ·refine wpAny_mono (T.item (Yr X (X.pn++pins) (xo++ys) scope cl s H fp C) rfl rfl rfl hcm i _ s3 _ H3 (fun _ _=>False) I3' (fun b hb=>frE fr3 hb) st3 go) (fun r s4 ⟨u,hr,h4⟩=>?_) fun _ _ z=>z.elim;subst hr;refine wpAny_mono h4 (fun _ s5 h5=>?_) fun _ _ z=>z.elim;obtain⟨xv,H5,I5,r5,y5,st5,fr5⟩:=h5;have I5':=I5.pinned (fun b hb=>frE fr5 hb) (T.obj _ _ st5);refine wpAny_mono (hgt _ _ _ _ _ _ s5 _ H5 xv u _ I5' r5 (step xv H5 y5)) (fun _ s6 ⟨σ6,H6,I6,own6,q6⟩=>?_) fun _ _ z=>z.elim;refine wpAny_mono (ht _ _ _ _ _ _ s6 _ H6 _ I6 q6) (fun ok s7 ⟨H7,I7,q7⟩=>?_) fun _ _ z=>z.elim;have keepF:∀ {σ8:St} {H8:Hp} {s8:Shared},Inv (Yr X (X.pn++pins) (xo++ys) scope cl s H fp C) ([(D,{ cls:=Value.type "list",data:=.seq its.toArray n3 })]++Nd fp s5.heap) σ8 H8 s8->tn (i+1) s8.heap/\(∀ b∈fp,H8 b=none)/\s8.heap.PlainList D its.toArray/\H8 D=none:=fun {σ8 H8 s8} I8=>by
    refine⟨T.keep _ _ _ st5 fun b hb o e=>(I8.pin (b,o) (zs5 _ (zs5 _ (Ra hb e)))).1,fun b hb=>?_,⟨n3,(I8.pin (D,_) (zs5 _ zsz)).1⟩,(I8.pin (D,_) (zs5 _ zsz)).2.1⟩;obtain⟨o,e,d⟩:=T.obj _ _ st5 b hb;exact(I8.pin (b,o) (zs5 _ (zs5 _ (Ra hb e)))).2.1
   have bare:∀ {σ8:St} {H8:Hp} {s8:Shared},Inv (Yr X (X.pn++pins) (xo++ys) scope cl s H fp C) ([(D,{ cls:=Value.type "list",data:=.seq its.toArray n3 })]++Nd fp s5.heap) σ8 H8 s8->Inv (Yr X (X.pn++pins) (xo++ys) scope cl s H fp C) [] σ8 H8 s8:=fun I8=>I8.pins_of fun _ z=>(nomatch z)
   cases ok with
   | false =>
     simp only[ztt,if_false] at q7 ⊢;obtain⟨m',hm',w7⟩:=hNx _ _ q7;obtain⟨a1,a2,a3,a4⟩:=keepF I7;exact⟨m',hm',i+1,H7,zs,its,own6.weak (bare I7),a1,a2,a3,rv3,a4,w7⟩
   | true =>
     simp only[if_true] at q7 ⊢;refine wpAny_mono (he _ _ _ _ _ _ s7 _ H7 _ I7 q7) (fun y s8 ⟨yv,H8,I8,r8,q8⟩=>?_) fun _ _ z=>z.elim;obtain⟨m',hm',w8⟩:=hNx _ _ q8;obtain⟨a1,a2,a3,a4⟩:=keepF I8;have szI:its.toArray.size<=sizeLine:=by rw[zss,<- rv3.length];omega
     refine wpAny_list_append_plain (hsz:=szI) a3 fun h9 pl9 sb9=>?_;have I8b:=own6.weak (bare I8);refine⟨m',hm',i+1,H8,zs++[yv],its++[y],?_,T.keep _ _ _ a1 fun b hb o e=>(sb9.2 b (ltD b (lt0 b hb))).trans e,a2,by rw[List.push_toArray] at pl9;exact pl9,rv3.append (.cons r8 .nil),a4,w8⟩;refine I8b.turned (t':=s8.toks) (it:=D) (fun b o hb e=>(sb9.2 b hb).trans e) a4 hDC (.inr (show s.heap.objs.size<=D by omega)) (fun y' a h=>?_) fun p hp=>?_
     ·obtain⟨v,o,ho,_⟩:=I.cell y' a (c.same h);exact ltD a (below a o ho)
     ·obtain⟨e,_⟩:=I.pin p (by simpa [Yr] using hp);exact ltD _ (below _ _ e)
 exact codeAny_compStart_list (loop _ rfl) (T.self _ 0 _ _ _ (T.keep _ _ _ st0 fun b hb o e=>old b o e) (loop _ rfl))
variable{wi:TI}{tt:TT}{te:TE}
theorem Kl(hcm:X.calm=true)(c:Ot X xo scope cl ys js)(hi:PI X tg iter wi)(ht:∀ pn s₀ H₀ fp C,PTs (Yr X pn (xo++ys) scope cl s₀ H₀ fp C) ifs tt)(hgt:∀ pn s₀ H₀ fp C,PG (Yr X pn (xo++ys) scope cl s₀ H₀ fp C) tg g)(he:∀ pn s₀ H₀ fp C,PE (Yr X pn (xo++ys) scope cl s₀ H₀ fp C) elt te)
  (hs:∀ x,foldedSetIterable iter X.env x=pure x:=by intro _;rfl):PE X (.ListComp elt [⟨tg,iter,ifs,0⟩] scope pos) (zg1 wi xo js g tt te):=by
 intro pins s σ H Q I h;rw[eval_ListComp];refine wpAny_comprehension_free (use:=none) rfl hs c.clos c.kind c.names (thn (hi pins s σ H _ I h) fun v s1 h1=>thn h1 fun itv s2 h2=>?_);obtain⟨it,fp,tn,J,H2,e,I2,T,st2,f2,W,⟨m0,w0⟩,turn⟩:=h2;subst e;exact Kk (RR:=fun acc C=>compPost (model X.prog X.w) X.A X.xe none (EP X pins σ Q) acc C) hcm c ht hgt he I2 T st2 f2 w0 turn fun D C s' m hn hS _ _=>⟨m,hn,fun h' hs'=>let ⟨H',I',q⟩:=hS h' hs';⟨.ref D,H',I',rfl,q⟩⟩
end
end L2
namespace G
open PySem PySem.Spec PyProof.Rows L2
theorem Gq:∀ (a b:List (Nat×Option Int)) (xs:List V),Yq (a++b) xs=Yq b (Yq a xs)
 | [],_,_=>rfl
 | (p,w) :: r,b,xs=>by rw[List.cons_append,Yq,Yq,Gq r b]
structure Lq(kvs:List (Key×V))(gs:List V):Prop where
 has:∀ (n:Int) (j:Nat),gs[j]?=some (.int n)->valV kvs (inl n:Key)=some (.int (j:Nat))
 not:∀ n:Int,(∀ j:Nat,gs[j]?≠some (.int n))->valV kvs (inl n:Key)=none
theorem Lq.iff(t:Lq kvs gs)(n:Int):(∃ j:Nat,gs[j]?=some (.int n)/\valV kvs (inl n:Key)=some (.int (j:Nat)))\/((∀ j:Nat,gs[j]?≠some (.int n))/\valV kvs (inl n:Key)=none):=by
 by_cases h:∃ j:Nat,gs[j]?=some (.int n)
 ·obtain⟨j,hj⟩:=h;exact .inl ⟨j,hj,t.has n j hj⟩
 ·have h':∀ j:Nat,gs[j]?≠some (.int n):=fun j hj=>h ⟨j,hj⟩;exact .inr ⟨h',t.not n h'⟩
inductive Am(K:Frag)(vs:List V)(H:Hp)(Q:VK)(_:XK):Prop where
 | mk(b:Addr)(gs:List V)(_:vs=[.ref b])(_:H b=some (.lst gs))(_:(∀ x∈gs,oneV x))(_:(∀ (j k:Nat) (n:Int),gs[j]?=some (.int n)->gs[k]?=some (.int n)->j=k))(_:gs.length<=100)(_:∀ d kvs H',H' d=some (.dK kvs)->Lq kvs gs->Same H H'->H d=none->Q (.ref d) H')
structure Xi(H:Hp)(into:List (Key×V))(line:List Nat)(fr:Nat->Option (Nat×Int)):Prop where
 keys:into.map (·.1)=line.map fun q:Nat=>(inl (q:Int):Key)
 none:∀ q∈line,fr q=Option.none->valV into (inl (q:Int):Key)=some .non
 some:∀ q∈line,∀ par n,fr q=Option.some (par,n)->∃ t,valV into (inl (q:Int):Key)=Option.some (.ref t)/\H t=Option.some (.tup [.int (par:Nat),.int n])
theorem Xi.same(e:Same H H')(h:Xi H into line fr):Xi H' into line fr :=
 ⟨h.keys,h.none,fun q hq par n hf=>let ⟨t,a,b⟩:=h.some q hq par n hf;⟨t,a,e _ _ b⟩⟩
theorem Xi.len(h:Xi H into line fr):into.length=line.length:=by
 have:=congrArg List.length h.keys;rw[zsg,zsg] at this;exact this
theorem zc8{into:List (Key×V)}{k:Key}:(valV into k).isSome=true↔k∈into.map Prod.fst:=by
 unfold valV;rw[Option.isSome_map,List.find?_isSome];constructor
 ·rintro⟨p,hp,e⟩;exact zsq.mpr ⟨p,hp,of_decide_eq_true e⟩
 ·intro h;obtain⟨p,hp,rfl⟩:=zsq.mp h;exact⟨p,hp,zsm rfl⟩
theorem Xi.has{H:Hp}{into:List (Key×V)}{line:List Nat}{fr:Nat->Option (Nat×Int)}(h:Xi H into line fr)(q:Nat):(valV into (inl (q:Int):Key)).isSome=true↔q∈line:=by
 rw[zc8,h.keys];constructor
 ·intro z;obtain⟨q',h1,h2⟩:=zsq.mp z;have:(q':Int)=q:=inl.inj h2;have:q'=q:=by omega
  rw[<- this];exact h1
 ·intro hq;exact zsq.mpr ⟨q,hq,rfl⟩
inductive zc9(K:Frag)(vs:List V)(H:Hp)(Q:VK)(_:XK):Prop where
 | mk(l d:Addr)(ls:List Addr)(rows:List (List Int))(kvs:List (Key×V))(gs:List V)(p:Nat)(_:vs=[.ref l,.ref d,.int p])(_:H l=some (.lst (ls.map V.ref)))(_:ILs H ls rows)(_:rows.length<=100)(_:H d=some (.dK kvs))(_:Lq kvs gs)(_:Yw rows gs)(_:p<rows.length)(_:∀ t into line dep fr H',H' t=some (.dK into)->Xi H' into line fr->Bfs rows gs p line dep->Done rows gs line dep line.length->U6 rows gs p line dep fr->(∀ q∈line,q<rows.length)->Same H H'->H t=none->Q (.ref t) H')
inductive Gs(K:Frag)(vs:List V)(H:Hp)(Q:VK)(_:XK):Prop where
 | mk(l d:Addr)(r:List Int)(kvs:List (Key×V))(_:vs=[.ref l,.ref d])(_:H l=some (.lst (r.map V.int)))(_:H d=some (.dK kvs))(_:∀ w:Option Int,(∀ n,w=some n->n∈r/\valV kvs (inl n:Key)=none)->(w=none->∀ n∈r,(valV kvs (inl n:Key)).isSome=true)->Q (oV w) H)
inductive Dm(K:Frag)(vs:List V)(H:Hp)(Q:VK)(_:XK):Prop where
 | mk(t:Addr)(q p:Nat)(w:Option Int)(rows:List (List Int))(gs:List V)(into:List (Key×V))(line:List Nat)(dep:Nat->Nat)(fr:Nat->Option (Nat×Int))(_:vs=[.ref t,.int q,oV w])(_:Rd H t (.dK into))(_:Xi H into line fr)(_:U6 rows gs p line dep fr)(_:dep p=0)(_:p∈line)(_:q∈line)(_:dep q<=100)(_:∀ lt ts st H',H' lt=some (.lst ts)->Zy H' ts (st.map V4)->Ch rows gs p st q w->st.length=dep q+1->Same H H'->H lt=none->Q (.ref lt) H')
section
variable{rows:List (List Int)}{gs:List V}{p:Nat}{line:List Nat}{dep:Nat->Nat}{fr:Nat->Option (Nat×Int)}{H H':Hp}{into:List (Key×V)}
def Mn(fr:Nat->Option (Nat×Int))(q:Nat)(x:Nat×Int):Nat->Option (Nat×Int):=fun y=>if y=q then some x else fr y
theorem Pq:Mn fr q x q=some x:=by unfold Mn;rw[if_pos rfl]
theorem Ou(h:y≠q):Mn fr q x y=fr y:=by unfold Mn;rw[if_neg h]
theorem U6.app(F:U6 rows gs p line dep fr)(hn:q'∉line)(hp:p∈line)(hh:here∈line)(a:adjN rows gs here n q'):U6 rows gs p (line++[q']) (Vm dep q' (dep here+1)) (Mn fr q' (here,n)):=by
 have ne:∀ x∈line,x≠q':=fun x hx z=>hn (by rw[<- z];exact hx);have old:∀ x∈line,Vm dep q' (dep here+1) x=dep x:=fun x hx=>by unfold Vm;rw[if_neg (ne x hx)]
 have new:Vm dep q' (dep here+1) q'=dep here+1:=by unfold Vm;rw[if_pos rfl]
 refine⟨by rw[Ou (ne p hp)];exact F.1,fun q hq hqp=>?_⟩;rcases zsv.mp hq with z|z
 ·obtain⟨par,m,h1,h2,h3,h4⟩:=F.2 q z hqp;exact⟨par,m,by rw[Ou (ne q z)];exact h1,zs8 _ h2,h3,by rw[old q z,old par h2];exact h4⟩
 ·rw[zsl.mp z];exact⟨here,n,Pq,zs8 _ hh,a,by rw[new,old here hh]⟩
theorem Xi.mono(e:∀ t xs,H t=Option.some (.tup xs)->H' t=Option.some (.tup xs))(h:Xi H into line fr):Xi H' into line fr :=
 ⟨h.keys,h.none,fun q hq par n hf=>let ⟨t,a,b⟩:=h.some q hq par n hf;⟨t,a,e _ _ b⟩⟩
theorem Xi.app(I:Xi H into line fr)(hn:q'∉line)(ht:H t=Option.some (.tup [.int (here:Nat),.int n])):Xi H (putK into (inl (q':Int)) (.ref t)) (line++[q']) (Mn fr q' (here,n)):=by
 have ne:∀ x∈line,x≠q':=fun x hx z=>hn (by rw[<- z];exact hx);have hv:valV into (inl (q':Int):Key)=Option.none:=by
  cases e:valV into (inl (q':Int):Key) with
  | none=>rfl
  | some y=>exact absurd ((I.has q').mp (by rw[e];rfl)) hn
 have val:∀ x∈line,valV (putK into (inl (q':Int)) (.ref t)) (inl (x:Int):Key)=valV into (inl (x:Int):Key):=fun x hx=>by
  rw[Sr,if_neg (fun z=>ne x hx (by have:=inl.inj z;omega))]
 have valn:valV (putK into (inl (q':Int)) (.ref t)) (inl (q':Int):Key)=Option.some (.ref t):=by rw[Sr,if_pos rfl]
 refine⟨?_,fun q hq hf=>?_,fun q hq par m hf=>?_⟩
 ·rw[zb5 _ hv,zsp,zsp,I.keys];rfl
 ·rcases zsv.mp hq with z|z
  ·rw[Ou (ne q z)] at hf;rw[val q z];exact I.none q z hf
  ·rw[zsl.mp z,Pq] at hf;cases hf
 ·rcases zsv.mp hq with z|z
  ·rw[Ou (ne q z)] at hf;rw[val q z];exact I.some q z par m hf
  ·rw[zsl.mp z,Pq] at hf;cases hf;rw[zsl.mp z];exact⟨t,valn,ht⟩
theorem Bo(H:Hp)(p:Nat):Xi H [((inl (p:Int):Key),V.non)] [p] (fun _=>none) :=
 ⟨rfl,fun q hq _=>by rw[zsl.mp hq];exact Y2 rfl,fun q _ par n hf=>nomatch hf⟩
theorem Bp:U6 rows gs p [p] (fun _=>0) (fun _=>none):=⟨rfl,fun q hq hne=>absurd (zsl.mp hq) hne⟩
end
section
variable{rows:List (List Int)}{gs:List V}
theorem Ch.somes{q e:Nat}{st:List (Nat×Option Int)}{w:Option Int}(h:Ch rows gs q st e w):w≠none->∀ s∈st,s.2≠none:=by
 induction h with
 | one q w=>intro hw s hs;simp at hs;subst hs;exact hw
 | step a h ih =>
   intro hw s hs;rcases zsk.mp hs with rfl|z
   ·exact fun z=>nomatch z
   ·exact ih hw s z
theorem Ch.near{q e:Nat}{st:List (Nat×Option Int)}{w:Option Int}(h:Ch rows gs q st e w):∀ s∈st,s.1=q\/∃ m,gs[s.1]?=some (V.int m):=by
 induction h with
 | one q w=>intro s hs;simp at hs;subst hs;exact .inl rfl
 | @step q q' e n st w a h ih =>
   intro s hs;rcases zsk.mp hs with rfl|z
   ·exact .inl rfl
   ·rcases ih s z with z|z
    ·exact .inr ⟨n,by rw[z];exact a.2⟩
    ·exact .inr z
theorem Ch.single{q e:Nat}{st:List (Nat×Option Int)}{w:Option Int}(h:Ch rows gs q st e w)(hl:st.length<=1):st=[(q,w)]/\e=q:=by
 cases h with
 | one=>exact⟨rfl,rfl⟩
 | step a h=>have:=h.pos;rw[zs4] at hl;omega
structure Uz(rows:List (List Int))(gs:List V)(i:Nat):Prop where
 fill:Yw rows gs
 ahead:∀ q n,gs[q]?=some (V.int n)->q<i
 stuck:∀ p,p<i->gs[p]?=some .non->Qw rows gs p
theorem Uz.non(F:Uz rows gs i)(hk:i<=k)(hr:k<rows.length):gs[k]?=some .non:=by
 have hl:k<gs.length:=by rw[F.fill.len];exact hr
 have e:=zsi hl;rcases F.fill.one _ (ztm hl) with z|⟨n,z⟩
 ·rw[e,z]
 ·rw[z] at e;have:=F.ahead k n e;omega
theorem Uz.step{i e:Nat}{st:List (Nat×Option Int)}{w:Option Int}(F:Uz rows gs i)(hi:i<rows.length)(c:Y9 rows gs i st e w):Uz rows (Yq st gs) (i+1):=by
 have hnon:=F.non (zso i) hi;cases w with
 | none =>
   obtain⟨h1,h2,h3⟩:=c.none rfl;have hei:e=i:=by
    have hge:=h2 i 0 .nil;rcases(show e=i\/∃ m,gs[e]?=some (V.int m) by
     obtain⟨s,hs,rfl⟩:=zsq.mp c.ch.last;exact c.ch.near s hs) with z|⟨m,z⟩
    ·exact z
    ·have:=F.ahead e m z;omega
   have hst:st=[(i,none)]:=(c.ch.single (by have:=h3 0 (hei▸.nil);omega)).1;have hl:i<gs.length:=by rw[F.fill.len];exact hi
   have same:Yq st gs=gs:=by
    rw[hst];show gs.set i .non=gs;refine List.ext_getElem? fun k=>?_;by_cases hk:i=k
    ·subst hk;rw[ztj hl,hnon]
    ·rw[ztf hk]
   rw[same];refine⟨F.fill,fun q n hq=>zug (F.ahead q n hq),fun p hp hpn=>?_⟩;by_cases hpi:p=i
   ·subst hpi;exact zc0 F.fill hi F.ahead h1
   ·exact F.stuck p ⋯ hpn
 | some n0 =>
   obtain⟨hf,_⟩:=c.free n0 rfl;have nd:=c.nodup;have FP':=c.fill F.fill hi;have at_:∀ k,k<gs.length->(k∉st.map (·.1)/\(Yq st gs)[k]?=gs[k]?)\/∃ w,(k,w)∈st/\(Yq st gs)[k]?=some (oV w):=fun k hk=>Wa nd hk;have lt:∀ {k:Nat} {v:V},(Yq st gs)[k]?=some v->k<gs.length:=fun {k v} hk=>by
    have:=(zsj.mp hk).1;rw[Xw] at this;exact this
   refine⟨FP',fun q n hq=>?_,fun p hp hpn=>?_⟩
   ·rcases at_ q (lt hq) with ⟨_,h2⟩|⟨w',h1,_⟩
    ·rw[h2] at hq;exact zug (F.ahead q n hq)
    ·rcases c.ch.near _ h1 with z|⟨m,z⟩
     ·have:q=i:=z;omega
     ·exact zug (F.ahead q m z)
   ·rcases at_ p (lt hpn) with ⟨h1,h2⟩|⟨w',h1,h2⟩
    ·rw[h2] at hpn;have hpi:p≠i:=fun z=>by
      obtain⟨x,r,e⟩:=c.ch.hd;exact h1 (by rw[z,e];simp)
     exact(F.stuck p ⋯ hpn).behind F.fill c.ch hf hi nd
    ·have:=c.ch.somes (by simp) _ h1;rw[h2] at hpn;cases w' with
     | none=>exact absurd rfl this
     | some m=>cases hpn
theorem Ia(rows:List (List Int)):Uz rows (rows.map fun _=>V.non) 0:=by
 have h0:∀ (k:Nat) (n:Int),(rows.map fun _=>V.non)[k]?≠some (V.int n):=fun k n h=>by
  rw[zsn] at h;cases e:rows[k]? with
  | none=>rw[e] at h;cases h
  | some r=>rw[e] at h;cases h
 exact⟨⟨by rw[zsg],fun x hx=>by obtain⟨_,_,rfl⟩:=zsq.mp hx;exact .inl rfl,fun k n h=>absurd h (h0 k n),fun j k n h=>absurd h (h0 j n)⟩,fun q n h=>absurd h (h0 q n),fun p hp=>absurd hp (zuq _)⟩
theorem Uz.last(F:Uz rows gs rows.length):V8 rows gs:=fun p hp=>F.stuck p (by have:=(zsj.mp hp).1;rw[F.fill.len] at this;exact this) hp
end
end G
namespace G
open PySem PySem.Spec PyProof.Rows L2
section
variable{rows:List (List Int)}{gs:List V}
theorem Ch.pred{q e:Nat}{st:List (Nat×Option Int)}{w:Option Int}(h:Ch rows gs q st e w):∀ q'∈st.map (·.1),q'=q\/∃ q0 n,(q0,some n)∈st/\gs[q']?=some (V.int n):=by
 induction h with
 | one q w=>intro q' hq;simp at hq;exact .inl hq
 | @step q q1 e n st w a h ih =>
   intro q' hq;rw[zst] at hq;rcases zsk.mp hq with z|z
   ·exact .inl z
   ·rcases ih q' z with z|⟨q0,m,h1,h2⟩
    ·exact .inr ⟨q,n,zsz,by rw[z];exact a.2⟩
    ·exact .inr ⟨q0,m,zsw _ h1,h2⟩
theorem Ch.reach{q e:Nat}{st:List (Nat×Option Int)}{w:Option Int}(h:Ch rows gs q st e w):∀ q'∈st.map (·.1),∃ k,Walk rows gs q q' k:=by
 induction h with
 | one q w=>intro q' hq;simp at hq;rw[hq];exact⟨0,.nil⟩
 | @step q q1 e n st w a h ih =>
   intro q' hq;rw[zst] at hq;rcases zsk.mp hq with z|z
   ·rw[z];exact⟨0,.nil⟩
   ·obtain⟨k,hk⟩:=ih q' z;exact⟨k+1,.cons a hk⟩
theorem Ch.noneLast{q e:Nat}{st:List (Nat×Option Int)}{w:Option Int}(h:Ch rows gs q st e w):∀ k,(k,none)∈st->k=e/\w=none:=by
 induction h with
 | one q w=>intro k hk;simp at hk;exact⟨hk.1,hk.2.symm⟩
 | @step q q1 e n st w a h ih =>
   intro k hk;rcases zsk.mp hk with z|z
   ·cases z
   ·exact ih k z
theorem Ch.along{R:Nat->Prop}(hs:∀ q n q',adjN rows gs q n q'->R q->R q'){q e:Nat}{st:List (Nat×Option Int)}{w:Option Int}(h:Ch rows gs q st e w):R q->R e:=by
 induction h with
 | one q w=>exact fun z=>z
 | step a h ih=>exact fun z=>ih (hs _ _ _ a z)
theorem Ch.lastMem{q e:Nat}{st:List (Nat×Option Int)}{w:Option Int}(h:Ch rows gs q st e w):(e,w)∈st:=by
 induction h with
 | one q w=>simp
 | step a h ih=>exact zsw _ ih
theorem zda{st:List (Nat×Option Int)}(nd:(st.map (·.1)).Nodup){k:Nat}{w w':Option Int}(h:(k,w)∈st)(h':(k,w')∈st):w=w':=by
 induction st with
 | nil=>cases h
 | cons s r ih =>
   rw[zst,zs6] at nd;rcases zsk.mp h with z|z<;>rcases zsk.mp h' with z'|z'
   ·rw[<- z] at z';exact(Prod.mk.inj z').2.symm
   ·exact absurd (zsq.mpr ⟨_,z',by rw[<- z]⟩) nd.1
   ·exact absurd (zsq.mpr ⟨_,z,by rw[<- z']⟩) nd.1
   ·exact ih nd.2 z z'
theorem zes{st:List (Nat×Option Int)}{xs:List V}(nd:(st.map (·.1)).Nodup){k:Nat}{w:Option Int}(h:(k,w)∈st)(hk:k<xs.length):(Yq st xs)[k]?=some (oV w):=by
 rcases Wa nd hk with ⟨h1,_⟩|⟨w',h1,h2⟩
 ·exact absurd (zsq.mpr ⟨_,h,rfl⟩) h1
 ·rw[h2,zda nd h1 h]
theorem Ch.moved{p e:Nat}{st:List (Nat×Option Int)}{w:Option Int}(FP:Yw rows gs)(h:Ch rows gs p st e w)(hp:p<rows.length)(hn:gs[p]?=some .non)(nd:(st.map (·.1)).Nodup){q':Nat}{n:Int}(hq:gs[q']?=some (V.int n)) :
  (q'∉st.map (·.1)/\(Yq st gs)[q']?=some (V.int n))\/∃ q0,(q0,some n)∈st/\(Yq st gs)[q0]?=some (V.int n):=by
 have hl:q' < gs.length:=(zsj.mp hq).1;by_cases hm:q'∈st.map (·.1)
 ·rcases h.pred q' hm with z|⟨q0,m,h1,h2⟩
  ·rw[z,hn] at hq;cases hq
  ·rw[hq] at h2;cases h2;refine .inr ⟨q0,h1,?_⟩;have:=h.lt FP hp _ h1;exact zes nd h1 (by rw[FP.len];exact this)
 ·rcases Wa nd hl with ⟨_,h2⟩|⟨w',h1,_⟩
  ·exact .inl ⟨hm,by rw[h2];exact hq⟩
  ·exact absurd (zsq.mpr ⟨_,h1,rfl⟩) hm
end
section
variable{rows:List (List Int)}{gs:List V}{p e:Nat}{x:Int}{st:List (Nat×Option Int)}{w:Option Int}
def without(rows:List (List Int))(x:Int):List (List Int):=rows.map fun r=>r.filter fun n=>decide (n≠x)
theorem Tz{q:Nat}{r':List Int}(h:(without rows x)[q]?=some r'):∃ r,rows[q]?=some r/\∀ n∈r',n∈r/\n≠x:=by
 unfold without at h;rw[zsn] at h;cases e:rows[q]? with
 | none=>rw[e] at h;cases h
 | some r =>
   rw[e] at h;cases h;exact⟨r,rfl,fun n hn=>⟨(zts.mp hn).1,of_decide_eq_true (zts.mp hn).2⟩⟩
theorem U0(FP:Yw rows gs)(hx:gs[p]?=some (.int x)):Yw (without rows x) (gs.set p .non):=FP.without hx _ fun n hn=>by
 have:=of_decide_eq_false hn;rw[Classical.not_not.mp this]
theorem zdb(hx:gs[p]?=some (.int x)):(gs.set p V.non)[p]?=some .non:=by rw[ztj (zsj.mp hx).1]
theorem An(hx:gs[p]?=some (.int x))(h:(gs.set p V.non)[q]?=some (.int n)):gs[q]?=some (.int n)/\q≠p:=by
 by_cases e:p=q
 ·subst e;rw[zdb hx] at h;cases h
 ·rw[ztf e] at h;exact⟨h,Ne.symm e⟩
theorem Ov{q:Nat}{n:Int}(hx:gs[p]?=some (.int x))(h:gs[q]?=some (.int n))(hn:n≠x):(gs.set p V.non)[q]?=some (.int n):=by
 rw[ztf (fun z=>by subst z;rw[hx] at h;cases h;exact hn rfl)];exact h
theorem Dp(FP:Yw rows gs)(SP:V8 rows gs)(hx:gs[p]?=some (.int x))(C:Y9 (without rows x) (gs.set p .non) p st e w):V8 (without rows x) (Yq st (gs.set p .non)):=by
 have FP0:=U0 FP hx;have hRl:(without rows x).length=rows.length:=by unfold without;rw[zsg]
 have hp:p<rows.length:=by have:=(zsj.mp hx).1;rw[FP.len] at this;exact this
 have hp0:p<(without rows x).length:=by rw[hRl];exact hp
 have nd:=C.nodup;have hpm:p∈st.map (·.1):=by obtain⟨y,r,e'⟩:=C.ch.hd;rw[e'];simp
 have moved:=fun {q':Nat} {n:Int} (hq:(gs.set p V.non)[q']?=some (V.int n))=>C.ch.moved FP0 hp0 (zdb hx) nd hq;have closedT:w=none->∀ q,(∃ k,Walk (without rows x) (gs.set p .non) p q k)->q<(without rows x).length/\∀ r,(without rows x)[q]?=some r->∀ n∈r,∃ q2,q2<e/\(Yq st (gs.set p .non))[q2]?=some (.int n)/\∃ k,Walk (without rows x) (gs.set p .non) p q2 k:=by
  rintro hw q ⟨k,hk⟩;obtain⟨c1,c2,c3⟩:=C.none hw;refine⟨?_,fun r hr n hn=>?_⟩
  ·cases hk with
   | nil=>exact hp0
   | snoc _ a =>
     have:=(zsj.mp a.2).1;rw[FP0.len] at this;exact this
  ·by_cases hf:∃ j:Nat,(gs.set p V.non)[j]?=some (V.int n)
   ·obtain⟨q1,hq1⟩:=hf;have w1:Walk (without rows x) (gs.set p .non) p q1 (k+1):=.snoc hk ⟨⟨r,hr,hn⟩,hq1⟩;rcases moved hq1 with ⟨m1,m2⟩|⟨q0,m1,m2⟩
    ·refine⟨q1,?_,m2,_,w1⟩;have:=c2 q1 _ w1;have hne:q1≠e:=fun z=>m1 (by rw[z];exact C.ch.last);omega
    ·obtain⟨k0,hk0⟩:=C.ch.reach q0 (zsq.mpr ⟨_,m1,rfl⟩);refine⟨q0,?_,m2,k0,hk0⟩;have:=c2 q0 _ hk0;have hne:q0≠e:=fun z=>by
      have hl:=C.ch.lastMem;rw[z] at m1;rw[hw] at hl;have:=zda nd m1 hl;cases this
     omega
   ·exact absurd ⟨n,⟨r,hr,hn⟩,fun j hj=>hf ⟨j,hj⟩⟩ (c1 q k hk)
 intro p0 hpn;have hl0:p0<(gs.set p V.non).length:=by have:=(zsj.mp hpn).1;rw[Xw] at this;exact this
 rcases Wa nd hl0 with ⟨a1,a2⟩|⟨w',a1,a2⟩
 ·rw[a2] at hpn;have hpp:p≠p0:=fun z=>a1 (by rw[<- z];exact hpm);rw[ztf hpp] at hpn;obtain⟨S0,hS,cl⟩:=SP p0 hpn;have inS:∀ q k,Walk rows gs p0 q k->S0 q:=fun q k hk=>by
   induction hk with
   | nil=>exact hS
   | @snoc q q' k n h a ih =>
     obtain⟨r,h1,h2⟩:=a.1;obtain⟨q'',_,h3,h4⟩:=(cl q ih).2 r h1 n h2;rw[<- FP.inj q'' q' n h3 a.2];exact h4
  have closed0:∀ q,(∃ k,Walk rows gs p0 q k)->q<rows.length/\∀ r,rows[q]?=some r->∀ n∈r,∃ q',q' < p0/\gs[q']?=some (.int n)/\∃ k,Walk rows gs p0 q' k:=by
   rintro q ⟨k,hk⟩;refine⟨(cl q (inS q k hk)).1,fun r hr n hn=>?_⟩;obtain⟨q',h1,h2,_⟩:=(cl q (inS q k hk)).2 r hr n hn;exact⟨q',h1,h2,k+1,.snoc hk ⟨⟨r,hr,hn⟩,h2⟩⟩
  have lt0:∀ q,(∃ k,Walk rows gs p0 q k)->q=p0\/q<p0:=by
   rintro q ⟨k,hk⟩;cases hk with
   | nil=>exact .inl rfl
   | @snoc q1 _ k n h a =>
     obtain⟨r,h1,h2⟩:=a.1;obtain⟨q',h3,h4,_⟩:=(closed0 q1 ⟨k,h⟩).2 r h1 n h2;rw[<- FP.inj q' q n h4 a.2];exact .inr h3
  have along:∀ {q:Nat} {st':List (Nat×Option Int)} {w':Option Int},Ch (without rows x) (gs.set p .non) q st' e w'->(∃ k,Walk rows gs p0 q k)->∃ k,Walk rows gs p0 e k:=fun {q st' w'} hc =>
   hc.along (R:=fun q=>∃ k,Walk rows gs p0 q k) fun q n q' a ⟨k,hk⟩=>by
    obtain⟨r',h1,h2⟩:=a.1;obtain⟨r,h3,h4⟩:=Tz h1;exact⟨k+1,.snoc hk ⟨⟨r,h3,(h4 n h2).1⟩,(An hx a.2).1⟩⟩
  by_cases hpath:∃ q∈st.map (·.1),∃ k,Walk rows gs p0 q k
  ·obtain⟨q1,hq1,hk1⟩:=hpath;obtain⟨st',c1,_⟩:=C.ch.drop q1 hq1;have hRe:=along c1 hk1;cases hw:w with
   | some n0 =>
     obtain⟨⟨r',f1,f2⟩,f3⟩:=(C.free n0 hw).1;obtain⟨r,g1,g2⟩:=Tz f1;obtain⟨q',_,h2,_⟩:=(closed0 e hRe).2 r g1 n0 (g2 n0 f2).1;exact absurd (Ov hx h2 (g2 n0 f2).2) (f3 q')
   | none =>
     have clT:=closedT hw;obtain⟨_,cmax,_⟩:=C.none hw;have hep:e<p0:=by
      have hfe:∃ m,gs[e]?=some (V.int m):=by
       obtain⟨s,hs,hse⟩:=zsq.mp C.ch.last;rcases C.ch.near s hs with z|⟨m,z⟩
       ·rw[<- hse,z];exact⟨x,hx⟩
       ·rw[hse] at z;exact⟨m,(An hx z).1⟩
      obtain⟨m,hm⟩:=hfe;rcases lt0 e hRe with z|z
      ·rw[z,hpn] at hm;cases hm
      ·exact z
     refine⟨fun q=>(∃ k,Walk rows gs p0 q k)\/∃ k,Walk (without rows x) (gs.set p .non) p q k,.inl ⟨0,.nil⟩,fun q hq=>?_⟩;rcases hq with hq|hq
     ·refine⟨by rw[hRl];exact(closed0 q hq).1,fun r' hr' n hn=>?_⟩;obtain⟨r,g1,g2⟩:=Tz hr';obtain⟨q',h1,h2,h3⟩:=(closed0 q hq).2 r g1 n (g2 n hn).1;rcases moved (Ov hx h2 (g2 n hn).2) with ⟨_,m2⟩|⟨q0,m1,m2⟩
      ·exact⟨q',h1,m2,.inl h3⟩
      ·obtain⟨k0,hk0⟩:=C.ch.reach q0 (zsq.mpr ⟨_,m1,rfl⟩);have:=cmax q0 k0 hk0;exact⟨q0,by omega,m2,.inr ⟨k0,hk0⟩⟩
     ·obtain⟨t1,t2⟩:=clT q hq;refine⟨t1,fun r hr n hn=>?_⟩;obtain⟨q2,h1,h2,h3⟩:=t2 r hr n hn;exact⟨q2,by omega,h2,.inr h3⟩
  ·refine⟨fun q=>∃ k,Walk rows gs p0 q k,⟨0,.nil⟩,fun q hq=>⟨by rw[hRl];exact(closed0 q hq).1,fun r' hr' n hn=>?_⟩⟩;obtain⟨r,g1,g2⟩:=Tz hr';obtain⟨q',h1,h2,h3⟩:=(closed0 q hq).2 r g1 n (g2 n hn).1;rcases moved (Ov hx h2 (g2 n hn).2) with ⟨_,m2⟩|⟨q0,m1,m2⟩
   ·exact⟨q',h1,m2,h3⟩
   ·rcases Wa nd (show q' < (gs.set p V.non).length from(zsj.mp (Ov hx h2 (g2 n hn).2)).1) with ⟨_,b2⟩|⟨w2,b1,_⟩
    ·exact⟨q',h1,by rw[b2];exact Ov hx h2 (g2 n hn).2,h3⟩
    ·exact absurd ⟨q',zsq.mpr ⟨_,b1,rfl⟩,h3⟩ hpath
 ·rw[a2] at hpn;cases w' with
  | some n=>cases hpn
  | none =>
    obtain⟨b1,b2⟩:=C.ch.noneLast p0 a1;subst b1;exact⟨_,⟨0+(C.ch.reach p0 (zsq.mpr ⟨_,a1,rfl⟩)).choose,by rw[Nat.zero_add];exact(C.ch.reach p0 (zsq.mpr ⟨_,a1,rfl⟩)).choose_spec⟩,closedT b2⟩
end
end G
namespace L2
open PySem PySem.Spec PyProof.Rows
section
variable{prog:Program}{w:World}{A:Around}{E:Value->Shared->Prop}{s:Shared}{T:String}{r d:Addr}{n:Nat}{P:Nat->Value->Prop}{OK:Heap->Prop}
open PySem.W in
end
end L2
namespace G
open PySem PySem.Spec PyProof.Rows L2
section
variable{rows:List (List Int)}{gs:List V}
structure zjs(rows:List (List Int))(gs:List V)(ps:List Nat)(rs:List Int):Prop where
 up:ps.Pairwise (· < ·)
 lt:∀ p∈ps,p<rows.length
 rup:rs.Pairwise (· < ·)
 all:∀ n,n∈rs↔∃ p∈ps,∃ r,rows[p]?=some r/\n∈r
 cnt:ps.length=rs.length+(zfj gs).length
 nil:zfj gs=[]->ps=[]
 gap:∀ p,gs[p]?=some .non->p∈ps
 has:∀ n∈rs,∃ p∈ps,gs[p]?=some (.int n)
def ziu(x:Option V):Option Int:=match x with|some (.int n)=>some n|_=>none
end
section
variable{rows:List (List Int)}{gs:List V}{p:Nat}{line:List Nat}{dep:Nat->Nat}{fr:Nat->Option (Nat×Int)}
def byV(x:Option (Nat×Int)):V:=match x with|none=>.non|some y=>.int (y.1:Nat)
structure zj4(by_:List (Key×V))(line:List Nat)(fr:Nat->Option (Nat×Int)):Prop where
 keys:by_.map (·.1)=line.map fun q:Nat=>(inl (q:Int):Key)
 val:∀ q∈line,valV by_ (inl (q:Int):Key)=some (byV (fr q))
structure zj5(rows:List (List Int))(gs:List V)(dep:Nat->Nat)(q:Nat)(x:Int)(tl:List (Nat×Option Int))(e:Nat)(n:Int):Prop where
 ch:Ch rows gs q ((q,some x) :: tl) e (some n)
 nd:(((q,some x) :: tl).map (·.1)).Nodup
 far:∀ s∈tl,dep q<dep s.1
end
section
variable{rows:List (List Int)}{gs:List V}
def zg2(rows:List (List Int))(gs:List V)(p:Nat):Prop:=∀ q k,Walk rows gs p q k->¬ Uy rows gs q
structure ziv(rows:List (List Int))(f k:Nat)(gs:List V):Prop where
 fill:Yw rows gs
 seen:∀ j,j<k->(∃ n,gs[(f+j)%rows.length]?=some (.int n))\/zg2 rows gs ((f+j)%rows.length)
 later:∀ p,(∀ j,j<k->(f+j)%rows.length≠p)->p<rows.length->gs[p]?=some .non
end
theorem zet(xs:List V)(k:Nat):Js xs none (some (k:Int))=xs.take k:=by
 unfold Js;rw[HT.sIx_nat,HT.sIx_none];by_cases h:k<=xs.length
 ·rw[Nat.min_eq_left h];rfl
 ·rw[zuj ⋯];show xs.take (xs.length-0)=_;rw[Nat.sub_zero,zs0,List.take_of_length_le ⋯]
end G
namespace PySem
theorem Gu(f:α->β):∀ (l:List α) (j:Nat),(l.map f).eraseIdx j=(l.eraseIdx j).map f
 | [],_=>rfl
 | _ :: _,0=>rfl
 | x :: l,j+1=>by
   show f x :: (l.map f).eraseIdx j=f x :: (l.eraseIdx j).map f;rw[Gu f l j]
section
variable{prog:Program}{w:World}{K:Type}[DecidableEq K]{knd:HeapKind prog w K}{A:Around}{E:Value->Shared->Prop}{s:Shared}
theorem Pr(hu:knd.room A)(hkey:knd.is s.heap k a)(hm:s.heap.DictOfH knd d xs)(hj:xs[j]?=some (k,p))(hsz:xs.length<=sizeLine)
  (hQ:∀ h',h'.DictOfH knd d (xs.eraseIdx j)->Heap.SameBut d s.heap h'->Q (some (entryOfKey knd (k,p))) { s with heap:=h',toks:=s.toks+knd.draws k }) :
  wpAny (model prog w) A (Builtin.Dict.takeOut d (.ref a)) Q E s:=by
 obtain⟨o,es,ep,ho,hc,hd,he,his,hn⟩:=hm;unfold Builtin.Dict.takeOut
 try with_reducible refine wpAny_holding ?_
 refine wpAny_bind (knd.pyHash hu hkey (wpAny_bind (wpAny_dictFind_heap (s:={ s with toks:=s.toks+knd.draws k }) hu hkey ho hd he his hn ?_ ?_)))
 ·intro hno;exact absurd hj (hno j p)
 ·intro j' p' hj';have ej:=idxH_unique hn hj' hj;subst ej;refine wpAny_bind (wpAny_dictEntries (s:={ s with toks:=s.toks+knd.draws k }) ho hd ?_);rw[entry_at he j',hj];refine wpAny_bind (wpAny_updateDictKeys (hz:=by have e:=size_of_entries he;omega) (s:={ s with toks:=s.toks+knd.draws k }) ho hd (wpAny_pure (hQ _ ⟨_,_,ep+1,Heap.get?_update_self _ ho (Obj.isFreed_of_dict (Obj.data_mapDictKeys hd _)),
   hc.mapDictKeys _,Obj.data_mapDictKeys hd _,?_,?_,?_⟩ (Heap.SameBut.update ..))))
  ·obtain⟨l⟩:=es;simp only at he;simp[he,Gu]
  ·intro x hx;exact knd.keeps (his x (List.mem_of_mem_eraseIdx hx)) ho hd (Heap.SameBut.update ..)
  ·have:=hn.sublist (List.Sublist.map (·.1) (List.eraseIdx_sublist xs j'));exact this
theorem Mw(d a:Addr)(k:K) :
  MeetsIn prog w (Builtin.«dict.pop» ⟨[.ref d,.ref a],[]⟩) (fun A R s=>knd.room A.in1/\knd.is s.heap k a/\∃ xs j p,s.heap.DictOfH knd d xs/\xs.length<=sizeLine/\xs[j]?=some (k,p) /\
   ∀ h' t',h'.DictOfH knd d (xs.eraseIdx j)->Heap.SameBut d s.heap h'->R (.ok (.ret p.2)) { s with heap:=h',toks:=t' }) :=
 .of_wp fun A R s ⟨hu,hkey,xs,j,p,hm,hsz,hj,h⟩=>by
  obtain⟨o,es,ep,ho,hc,hd,he,his,hn⟩:=id hm;unfold Builtin.«dict.pop»;refine wpAny_bind ?_;unfold Builtin.Dict.keyAndDefault;refine wpAny_bind (wpAny_notOrdered_dict hm.typeIs ?_);show wpAny _ _ (pure (d,Value.ref a,none)) _ _ s;refine wpAny_pure ?_;have hp:(keyPart (Value.ref a)).isSome=false:=rfl;simp only[hp,ztt,if_false];refine wpAny_bind (wpAny_dictEntries ho hd (wpAny_bind (wpAny_pure ?_)));have hne:es.isEmpty=false:=by
   have h1:=size_of_entries he;have h2:=(zsj.mp hj).1;rw[Array.isEmpty_eq_false_iff_exists_mem];exact⟨es[0]'⋯,Array.getElem_mem _⟩
  simp only[hne,ztt,if_false];refine wpAny_bind (Pr hu hkey hm hj hsz fun h' hm' hs'=>?_);simp only[Option.isNone_some,ztt,if_false];exact wpAny_bind (wpAny_letGo (wpAny_pure ⟨p.2,rfl,h h' _ hm' hs'⟩))
end
end PySem
namespace L2
open PySem PySem.Spec PyProof.Rows
theorem KT.drop:∀ {kvs:List (List Key×V)} {xs:List (List Key×Addr×Value)},KT H kvs xs->(xs.map (·.1)).Nodup->valV kvs k=some v->∃ j p,xs[j]?=some (k,p)/\RelV v p.2/\KT H (Xn kvs k) (xs.eraseIdx j)
 | [],[],_,_,hv=>by cases hv
 | p :: kvs,q :: xs,r,nd,hv=>by
   cases r with
   | cons h t =>
     rw[zst,zs6] at nd;obtain⟨h1,h2,h3⟩:=h;by_cases e:p.1=k
     ·rw[Y2 e] at hv;cases hv;refine⟨0,q.2,by rw[<- e,h1];rfl,h3,?_⟩;show KT H (Xn (p :: kvs) k) xs;have hd:Xn (p :: kvs) k=kvs:=by
       unfold Xn;rw[List.filter_cons_of_neg (by simp[e])];rw[List.filter_eq_self];intro kv hkv;refine zsm fun z=>nd.1 ?_;have:∀ {l:List (List Key×V)} {m:List (List Key×Addr×Value)},KT H l m->kv∈l->kv.1∈m.map (·.1):=by
        intro l m q
        induction q with
        | nil=>intro hx;cases hx
        | @cons p' q' ps qs hq t ih =>
          intro hx;rcases zsk.mp hx with z|z
          ·rw[z,hq.1];exact zsz
          ·exact zsw _ (ih z)
       have h9:=this t hkv;rw[z,<- e,h1] at h9;exact h9
      rw[hd];exact t
     ·rw[Yy e] at hv;obtain⟨j,pp,h4,h5,h6⟩:=KT.drop t nd.2 hv;refine⟨j+1,pp,h4,h5,?_⟩;have hd:Xn (p :: kvs) k=p :: Xn kvs k:=by
       unfold Xn;rw[List.filter_cons_of_pos (by simp[e])]
      rw[hd];exact .cons ⟨h1,h2,h3⟩ h6
inductive zeu(ty:TE)(σ:L2.St)(Q:VK)(x:V)(H1:Hp):Prop where
 | mk(a)(_:x=.ref a)(_:IsD H1 a)(_:ty σ H1 fun y H2=>∃ (kvs:List (List Key×V)) (k:List Key) (b:Addr) (v:V),H2 a=some (.dT kvs)/\y=.ref b/\H2 b=some (.tup (k.map kV))/\valV kvs k=some v/\Q v (upd H2 a (.dT (Xn kvs k))))
def zg3(td ty:TE):TE:=fun σ H Q=>td σ H fun x H1=>zeu ty σ Q x H1
theorem zdc(hu:X.A.units+1<cLine)(ho:PE X o td)(he:PE X e ty)(m:M1 X o "pop" apos e cpos):PE X (.Call (.Attribute o "pop" apos) [e] [] cpos) (zg3 td ty):=by
 intro pins s σ H Q I h;refine wpAny_Call_method m.base m.few m.line PySem.F.plainAttrs_dict PySem.F.slot_dict_pop PySem.F.type_dict_pop (thn (ho pins s σ H _ I h) fun u s1 ⟨x,H1,I1,rx,a,ex,d,q1⟩=>?_);subst ex;obtain rfl:u=Value.ref a:=rx;obtain⟨t1,t2,_⟩:=C9 I1 d;refine⟨t1,t2,?_⟩;rw[m.trees];refine Calls.callWith_builtin rfl (Calls.evalArgs_plain (Calls.spliced_cons (thn (he pins s1 σ H1 _ I1 q1) fun iv s2 ⟨y,H2,I2,ry,kvs,k,b,v,ea,ey,eb,l,q2⟩=>Calls.spliced_nil ?_)));subst ey;cases (show iv=Value.ref b from ry);obtain⟨z,hd,xs,rel,dd⟩:=zfc I2.hok ea;have hz:xs.length<=sizeLine:=by rw[<- Paired.length rel];exact z
 obtain⟨j,p,hj,rv,rel'⟩:=KT.drop rel (by obtain⟨_,_,_,_,_,_,_,_,hn⟩:=dd;exact hn) l;refine call_meetsIn PySem.F.slot_dict_pop dd.typeIs PySem.F.entry_dict_pop (PySem.F.args_dict_pop_2 _ _) (Mw (knd:=tupleKind (Ym X.prog X.w)) a b k) ⟨tupleKind_room_in1 hu,Pl I2.hok eb,xs,j,p,dd,hz,hj,fun h' t' dd' hs=>⟨v,_,?_,rv,q2⟩⟩;obtain⟨q,es,ep,hq,h2,h3,h4,_,h5⟩:=dd';refine Oj I2 (by rw[ea];exact True.intro) hs ⟨q,hq⟩ ⟨zs3 (Ex kvs k) z,hd,_,rel'.keeps fun c ys ec=>?_,q,es,ep,hq,h2,h3,h4,h5⟩;rw[Zi (Ye ec ea (fun z=>nomatch z))];exact ec
end L2
namespace G
open PySem PySem.Spec PyProof.Rows L2
structure CA where
 season:Addr
 sheet:Addr
 roster:Addr
 ledger:Addr
 out:Addr
 known:Addr
 many:Addr
 unk:Addr
 manyM:Addr
 same:Addr
 noMatch:Addr
 noRound:Addr
 over:Addr
 seaOver:Addr
 away:Addr
 drawn:Addr
 notDrawn:Addr
 nothing:Addr
 manyD:Addr
theorem Sv:1000000<sizeLine:=by rw[sizeLine_eq];decide
abbrev RL:=List (Int×Int×Int)
inductive W5(H:Hp):RL->List (Key×V)->Prop where
 | nil:W5 H [] []
 | cons {n g c:Int} {t:Addr} {R:RL} {kvs:List (Key×V)} (h:H t=some (.tup [.int g,.int c])) (r:W5 H R kvs):W5 H ((n,g,c) :: R) ((.inl n,.ref t) :: kvs)
theorem W5.mono(k:∀ t xs,H t=some (.tup xs)->H' t=some (.tup xs)):∀ {R:RL} {kvs:List (Key×V)},W5 H R kvs->W5 H' R kvs
 | _,_,.nil=>.nil
 | _,_,.cons h r=>.cons (k _ _ h) (W5.mono k r)
theorem W5.length:∀ {R:RL} {kvs:List (Key×V)},W5 H R kvs->kvs.length=R.length
 | _,_,.nil=>rfl
 | _,_,.cons _ r=>by simp[W5.length r]
theorem W5.keys:∀ {R:RL} {kvs:List (Key×V)},W5 H R kvs->(kvs.map fun kv=>kV kv.1)=R.map fun x=>V.int x.1
 | _,_,.nil=>rfl
 | _,_,.cons _ r=>by rw[zst,zst,W5.keys r];rfl
theorem W5.snoc(h:H t=some (.tup [.int g,.int c])):∀ {R:RL} {kvs:List (Key×V)},W5 H R kvs->W5 H (R++[(n,g,c)]) (kvs++[(.inl n,.ref t)])
 | _,_,.nil=>.cons h .nil
 | _,_,.cons h' r=>.cons h' (W5.snoc h r)
theorem W5.val_none:∀ {R:RL} {kvs:List (Key×V)},W5 H R kvs->n∉R.map (·.1)->valV kvs (inl n:Key)=none
 | _,_,.nil,_=>rfl
 | _,_,.cons (n:=m) _ r,h=>by
   rw[zst,zsk,not_or] at h;rw[Yy (fun e=>h.1 (inl.inj e).symm)];exact W5.val_none r h.2
theorem W5.val_some:∀ {R:RL} {kvs:List (Key×V)},W5 H R kvs->(R.map (·.1)).Nodup->(n,g,c)∈R->∃ t,valV kvs (inl n:Key)=some (.ref t)/\H t=some (.tup [.int g,.int c])
 | _,_,.nil,_,h=>by simp at h
 | _,_,.cons (n:=m) (g:=g') (c:=c') (t:=t) ht r,nd,h=>by
   rw[zst,zs6] at nd;by_cases e:m=n
   ·subst e;rcases zsk.mp h with q|q
    ·cases q;exact⟨t,Y2 rfl,ht⟩
    ·exact absurd (zsq.mpr ⟨_,q,rfl⟩) nd.1
   ·rcases zsk.mp h with q|q
    ·cases q;exact absurd rfl e
    ·obtain⟨t',h1,h2⟩:=W5.val_some r nd.2 q;exact⟨t',by rw[Yy (fun z=>e (inl.inj z))];exact h1,h2⟩
theorem W5.isSome(e:W5 H R kvs)(nd:(R.map (·.1)).Nodup):(valV kvs (inl n:Key)).isSome=decide (n∈R.map (·.1)):=by
 by_cases h:n∈R.map (·.1)
 ·obtain⟨⟨m,g,c⟩,q,rfl⟩:=zsq.mp h;obtain⟨t,h1,_⟩:=e.val_some nd q;rw[h1,zsm h];rfl
 ·rw[e.val_none h,zsr h];rfl
theorem W5.unsnoc:∀ {R:RL} {kvs:List (Key×V)},W5 H (R++[(n,g,c)]) kvs->n∉R.map (·.1)->W5 H R (Xn kvs (inl n))
 | [],_,.cons h .nil,_=>by
   unfold Xn;rw[List.filter_cons_of_neg (by simp)];exact .nil
 | (m,g',c') :: R,_,.cons h r,hn=>by
   rw[zst,zsk,not_or] at hn;unfold Xn;rw[List.filter_cons_of_pos (by
    refine zsm fun z=>hn.1 ?_;exact(inl.inj z).symm)]
   exact .cons h (W5.unsnoc r hn.2)
structure Y4(C:Addr)(H:Hp)(p d:Addr)(R:RL):Prop where
 ex:∃ dx kvs,H p=some (.ins C dx [("entries",.ref d)])/\H d=some (.dK kvs)/\W5 H R kvs
 nd:(R.map (·.1)).Nodup
theorem W6:List.lookup ("entries":Str) ([("entries",V.ref d)]:List (Str×V))=some (.ref d):=by simp only[ztk,beq_self_eq_true]
theorem Y4.no{d:Addr}{m:Str}(h:¬ m="entries"):List.lookup m ([("entries",V.ref d)]:List (Str×V))=none:=by
 have e:(m == "entries")=false:=zs2.mpr h;simp only[ztk,e,List.lookup_nil]
theorem Y4.keep(h:Y4 C H p d R)(kp:∀ o,H p=some o->H' p=some o)(kd:∀ o,H d=some o->H' d=some o)(kt:∀ t xs,H t=some (.tup xs)->H' t=some (.tup xs)):Y4 C H' p d R:=by
 obtain⟨⟨dx,kvs,h1,h2,h3⟩,nd⟩:=h;exact⟨⟨dx,kvs,kp _ h1,kd _ h2,h3.mono kt⟩,nd⟩
theorem Y4.same(h:Y4 C H p d R)(e:Same H H'):Y4 C H' p d R:=h.keep (fun _ q=>e _ _ q) (fun _ q=>e _ _ q) fun _ _ q=>e _ _ q
def badI(n g c:Int):Prop:=n<1\/999<n\/g<1\/9<g\/c<1\/99<c
instance {n g c:Int}:Decidable (badI n g c):=by unfold badI;infer_instance
def Km(n g c:Int):Prop:=Z8 n/\Z8 g/\Z8 c
inductive Ow(x:Addr)(vs:List V)(H:Hp)(Q:VK)(E:XK):Prop where
 | mk(v)(lo)(m)(_:vs=[.int v,.int lo,.int m])(_:Z8 v)(_:Z8 lo)(_:Z8 m)(_:(if v<lo\/m<v then E (.ref x) none H else Q .non H))
inductive Ao(ca:CA)(vs:List V)(H:Hp)(Q:VK)(_:XK):Prop where
 | mk(p)(dx)(_:vs=[.ref p])(_:H p=some (.ins ca.roster dx []))(_:∀ d,H d=none->Q .non (upd (upd H d (.dK [])) p (.ins ca.roster dx [("entries",.ref d)])))
inductive Pt(ca:CA)(vs:List V)(H:Hp)(Q:VK)(E:XK):Prop where
 | mk(p)(d)(R)(n)(g)(c)(_:vs=[.ref p,.int n,.int g,.int c])(_:Y4 ca.roster H p d R)(_:Km n g c)(_:if badI n g c then E (.ref ca.out) none H else if n∈R.map (·.1) then E (.ref ca.known) none H else if 30<=R.length then E (.ref ca.many) none H else Q .non H)
inductive Rg(ca:CA)(vs:List V)(H:Hp)(Q:VK)(E:XK):Prop where
 | mk(p)(d)(R)(n)(_:vs=[.ref p,.int n])(_:Y4 ca.roster H p d R)(_:Z8 n)(_:if n∈R.map (·.1) then Q .non H else E (.ref ca.unk) none H)
inductive zdd(ca:CA)(vs:List V)(H:Hp)(Q:VK)(E:XK):Prop where
 | mk(p)(d)(R)(n)(g)(c)(_:vs=[.ref p,.int n,.int g,.int c])(_:Y4 ca.roster H p d R)(_:Km n g c)(_:R.length<=1000)(_:if badI n g c then E (.ref ca.out) none H else if n∈R.map (·.1) then E (.ref ca.known) none H else if 30<=R.length then E (.ref ca.many) none H else ∀ H',Y4 ca.roster H' p d (R++[(n,g,c)])->(∀ b o,H b=some o->b≠d->H' b=some o)->Q .non H')
inductive Dq(ca:CA)(vs:List V)(H:Hp)(Q:VK)(_:XK):Prop where
 | mk(p)(d)(R)(n)(g)(c)(_:vs=[.ref p,.int n])(_:Y4 ca.roster H p d (R++[(n,g,c)]))(_:∀ H',Y4 ca.roster H' p d R->(∀ b o,H b=some o->b≠d->H' b=some o)->Q .non H')
inductive Pu(ca:CA)(vs:List V)(H:Hp)(Q:VK)(_:XK):Prop where
 | mk(p)(d)(R)(_:vs=[.ref p])(_:Y4 ca.roster H p d R)(_:∀ l,H l=none->Q (.ref l) (upd H l (.lst (R.map fun x=>V.int x.1))))
inductive Dr(ca:CA)(vs:List V)(H:Hp)(Q:VK)(E:XK):Prop where
 | mk(p)(d)(R)(n)(_:vs=[.ref p,.int n])(_:Y4 ca.roster H p d R)(_:Z8 n)(_:(n∉R.map (·.1)->E (.ref ca.unk) none H))(_:∀ g c t,(n,g,c)∈R->H t=some (.tup [.int g,.int c])->Q (.ref t) H)
inductive Du(ca:CA)(vs:List V)(H:Hp)(Q:VK)(E:XK):Prop where
 | mk(p)(d)(R)(n)(_:vs=[.ref p,.int n])(_:Y4 ca.roster H p d R)(_:Z8 n)(_:(n∉R.map (·.1)->∀ H',Same H H'->E (.ref ca.unk) none H'))(_:∀ g c t H',(n,g,c)∈R->H' t=some (.tup (pV (n,g,c)))->Same H H'->H t=none->Q (.ref t) H')
structure Z9 where
 ms:List (Int×Int×Int)
 may:List (List Int)
 gv:List V
 gaps:List (Int×List (Nat×Option Int))
inductive W7(ok:Addr->Prop)(H:Hp):List V->List (Int×List (Nat×Option Int))->Prop where
 | nil:W7 ok H [] []
 | cons {t l:Addr} {n:Int} {us:List V} {st:List (Nat×Option Int)} {ts:List V} {G:List (Int×List (Nat×Option Int))} (h:H t=some (.tup [.int n,.ref l])) (hl:H l=some (.lst us)) (tl:Zy H us (st.map V4)) (o:ok l) (r:W7 ok H ts G):W7 ok H (.ref t :: ts) ((n,st) :: G)
theorem W7.keep(k:∀ x o,ok x->H x=some o->H' x=some o)(kt:∀ t xs,H t=some (.tup xs)->H' t=some (.tup xs)):∀ {ts:List V} {G:List (Int×List (Nat×Option Int))},W7 ok H ts G->W7 ok H' ts G
 | _,_,.nil=>.nil
 | _,_,.cons h hl tl o r=>.cons (kt _ _ h) (k _ _ o hl) (tl.mono kt) o (W7.keep k kt r)
theorem W7.imp(k:∀ x,(∃ o,H x=some o)->ok x->ok' x):∀ {ts:List V} {G:List (Int×List (Nat×Option Int))},W7 ok H ts G->W7 ok' H ts G
 | _,_,.nil=>.nil
 | _,_,.cons h hl tl o r=>.cons h hl tl (k _ ⟨_,hl⟩ o) (W7.imp k r)
theorem W7.length:∀ {ts:List V} {G:List (Int×List (Nat×Option Int))},W7 ok H ts G->ts.length=G.length
 | _,_,.nil=>rfl
 | _,_,.cons _ _ _ _ r=>by simp[W7.length r]
theorem W7.snoc{ok:Addr->Prop}{H:Hp}{t l:Addr}{n:Int}{us:List V}{st:List (Nat×Option Int)}(h:H t=some (.tup [.int n,.ref l]))(hl:H l=some (.lst us))(tl:Zy H us (st.map V4))(o:ok l):∀ {ts:List V} {G:List (Int×List (Nat×Option Int))},W7 ok H ts G->W7 ok H (ts++[.ref t]) (G++[(n,st)])
 | _,_,.nil=>.cons h hl tl o .nil
 | _,_,.cons h' hl' tl' o' r=>.cons h' hl' tl' o' (W7.snoc h hl tl o r)
theorem W7.get:∀ {ts:List V} {G:List (Int×List (Nat×Option Int))} {i:Nat} {x:V},W7 ok H ts G->ts[i]?=some x->∃ t l n us st,x=.ref t/\G[i]?=some (n,st)/\H t=some (.tup [.int n,.ref l])/\H l=some (.lst us)/\Zy H us (st.map V4)/\ok l
 | _,_,_,_,.nil,e=>by simp at e
 | _,_,0,_,.cons h hl tl o _,e=>by simp at e;subst e;exact⟨_,_,_,_,_,rfl,rfl,h,hl,tl,o⟩
 | _,_,i+1,x,.cons _ _ _ _ r,e=>by
   obtain⟨t,l,n,us,st,h1,h2,h3⟩:=W7.get (i:=i) (x:=x) r (by simpa using e);exact⟨t,l,n,us,st,h1,by simpa using h2,h3⟩
def shF(l1 l2 l3 l4:Addr):List (Str×V):=[("listed",.ref l1),("lists",.ref l2),("given",.ref l3),("gaps",.ref l4)]
structure ShAt(C:Addr)(ok:Addr->Prop)(H:Hp)(q:Addr)(s:Z9):Prop where
 ex:∃ dx l1 l2 l3 l4 ts ls gts,H q=some (.ins C dx (shF l1 l2 l3 l4))/\H l1=some (.lst ts)/\Zy H ts (s.ms.map pV)/\H l2=some (.lst (ls.map V.ref))/\ILs H ls s.may/\H l3=some (.lst s.gv)/\H l4=some (.lst gts)/\W7 ok H gts s.gaps/\(ok q/\ok l1/\ok l2/\ok l3/\ok l4/\∀ x∈ls,ok x)
theorem ShAt.keep(h:ShAt C ok H q s)(k:∀ x o,ok x->H x=some o->H' x=some o)(kt:∀ t xs,H t=some (.tup xs)->H' t=some (.tup xs)):ShAt C ok H' q s:=by
 obtain⟨dx,l1,l2,l3,l4,ts,ls,gts,a1,a2,a3,a4,a5,a6,a7,a8,o1,o2,o3,o4,o5,o6⟩:=h;exact⟨dx,l1,l2,l3,l4,ts,ls,gts,k _ _ o1 a1,k _ _ o2 a2,a3.mono kt,k _ _ o3 a4,a5.keep fun x hx o q=>k _ _ (o6 x hx) q,k _ _ o4 a6,k _ _ o5 a7,a8.keep k kt,o1,o2,o3,o4,o5,o6⟩
theorem ShAt.imp(h:ShAt C ok H q s)(k:∀ x,(∃ o,H x=some o)->ok x->ok' x):ShAt C ok' H q s:=by
 obtain⟨dx,l1,l2,l3,l4,ts,ls,gts,a1,a2,a3,a4,a5,a6,a7,a8,o1,o2,o3,o4,o5,o6⟩:=h;exact⟨dx,l1,l2,l3,l4,ts,ls,gts,a1,a2,a3,a4,a5,a6,a7,a8.imp k,k _ ⟨_,a1⟩ o1,k _ ⟨_,a2⟩ o2,k _ ⟨_,a4⟩ o3,k _ ⟨_,a6⟩ o4,k _ ⟨_,a7⟩ o5,fun x hx=>k _ (let ⟨_,z⟩:=a5.has hx;⟨_,z⟩) (o6 x hx)⟩
theorem ShAt.same(h:ShAt C ok H q s)(e:Same H H'):ShAt C ok H' q s:=h.keep (fun _ _ _ q=>e _ _ q) fun _ _ q=>e _ _ q
def ShO(C:Addr)(ok:Addr->Prop)(H:Hp)(v:V)(s:Option Z9):Prop:=match s with|none=>v=.non|some s=>∃ q,v=.ref q/\ShAt C ok H q s
theorem ShO.keep(h:ShO C ok H v s)(k:∀ x o,ok x->H x=some o->H' x=some o)(kt:∀ t xs,H t=some (.tup xs)->H' t=some (.tup xs)):ShO C ok H' v s:=by
 cases s with
 | none=>exact h
 | some s=>obtain⟨q,e,h⟩:=h;exact⟨q,e,h.keep k kt⟩
theorem ShO.imp(h:ShO C ok H v s)(k:∀ x,(∃ o,H x=some o)->ok x->ok' x):ShO C ok' H v s:=by
 cases s with
 | none=>exact h
 | some s=>obtain⟨q,e,h⟩:=h;exact⟨q,e,h.imp k⟩
inductive ShL(C:Addr)(ok:Addr->Prop)(H:Hp):List V->List Z9->Prop where
 | nil:ShL C ok H [] []
 | cons {q:Addr} {s:Z9} {vs:List V} {ss:List Z9} (h:ShAt C ok H q s) (r:ShL C ok H vs ss):ShL C ok H (.ref q :: vs) (s :: ss)
theorem ShL.keep(k:∀ x o,ok x->H x=some o->H' x=some o)(kt:∀ t xs,H t=some (.tup xs)->H' t=some (.tup xs)):∀ {vs:List V} {ss:List Z9},ShL C ok H vs ss->ShL C ok H' vs ss
 | _,_,.nil=>.nil
 | _,_,.cons h r=>.cons (h.keep k kt) (ShL.keep k kt r)
theorem ShL.imp(k:∀ x,(∃ o,H x=some o)->ok x->ok' x):∀ {vs:List V} {ss:List Z9},ShL C ok H vs ss->ShL C ok' H vs ss
 | _,_,.nil=>.nil
 | _,_,.cons h r=>.cons (h.imp k) (ShL.imp k r)
theorem ShL.length:∀ {vs:List V} {ss:List Z9},ShL C ok H vs ss->vs.length=ss.length
 | _,_,.nil=>rfl
 | _,_,.cons _ r=>by simp[ShL.length r]
theorem ShL.snoc(h:ShAt C ok H q s):∀ {vs:List V} {ss:List Z9},ShL C ok H vs ss->ShL C ok H (vs++[.ref q]) (ss++[s])
 | _,_,.nil=>.cons h .nil
 | _,_,.cons h' r=>.cons h' (ShL.snoc h r)
theorem ShL.getR:∀ {vs:List V} {ss:List Z9} {i:Nat} {s:Z9},ShL C ok H vs ss->ss[i]?=some s->∃ q,vs[i]?=some (.ref q)/\ShAt C ok H q s
 | _,_,_,_,.nil,e=>by simp at e
 | _,_,0,_,.cons h _,e=>by simp at e;subst e;exact⟨_,rfl,h⟩
 | _,_,i+1,x,.cons _ r,e=>by
   obtain⟨t,h1,h2⟩:=ShL.getR (i:=i) (s:=x) r (by simpa using e);exact⟨t,by simpa using h1,h2⟩
abbrev Xs:=Str×Int×Int
def Xb(d:Xs):List V:=[.str d.1,.int d.2.1,.int d.2.2]
inductive Ul(C:Addr)(ok:Addr->Prop)(H:Hp):List V->List (Xs×Option Z9)->Prop where
 | nil:Ul C ok H [] []
 | cons {t u:Addr} {v:V} {d:Xs} {s:Option Z9} {vs:List V} {ss:List (Xs×Option Z9)} (h:H t=some (.tup [.ref u,v])) (hu:H u=some (.tup (Xb d))) (hs:ShO C ok H v s) (r:Ul C ok H vs ss):Ul C ok H (.ref t :: vs) ((d,s) :: ss)
theorem Ul.keep(k:∀ x o,ok x->H x=some o->H' x=some o)(kt:∀ t xs,H t=some (.tup xs)->H' t=some (.tup xs)):∀ {vs:List V} {ss:List (Xs×Option Z9)},Ul C ok H vs ss->Ul C ok H' vs ss
 | _,_,.nil=>.nil
 | _,_,.cons h hu hs r=>.cons (kt _ _ h) (kt _ _ hu) (hs.keep k kt) (Ul.keep k kt r)
theorem Ul.length:∀ {vs:List V} {ss:List (Xs×Option Z9)},Ul C ok H vs ss->vs.length=ss.length
 | _,_,.nil=>rfl
 | _,_,.cons _ _ _ r=>by simp[Ul.length r]
theorem Ul.snoc(h:H t=some (.tup [.ref u,v]))(hu:H u=some (.tup (Xb d)))(hs:ShO C ok H v s):∀ {vs:List V} {ss:List (Xs×Option Z9)},Ul C ok H vs ss->Ul C ok H (vs++[.ref t]) (ss++[(d,s)])
 | _,_,.nil=>.cons h hu hs .nil
 | _,_,.cons h' hu' hs' r=>.cons h' hu' hs' (Ul.snoc h hu hs r)
theorem Ul.unsnoc:∀ {vs:List V} {ss:List (Xs×Option Z9)},Ul C ok H vs (ss++[(d,s)])->∃ vs' t u v,vs=vs'++[.ref t]/\H t=some (.tup [.ref u,v])/\H u=some (.tup (Xb d))/\ShO C ok H v s/\Ul C ok H vs' ss
 | _,[],.cons h hu hs .nil=>⟨[],_,_,_,rfl,h,hu,hs,.nil⟩
 | _,_ :: _,.cons h hu hs r=>by
   obtain⟨vs',t,u,v,e,a1,a2,a3,a4⟩:=Ul.unsnoc r;exact⟨_ :: vs',t,u,v,by rw[e];rfl,a1,a2,a3,.cons h hu hs a4⟩
theorem Ul.get:∀ {vs:List V} {ss:List (Xs×Option Z9)} {i:Nat} {x:V},Ul C ok H vs ss->vs[i]?=some x->∃ t u v d s,x=.ref t/\ss[i]?=some (d,s)/\H t=some (.tup [.ref u,v])/\H u=some (.tup (Xb d))
 | _,_,_,_,.nil,e=>by simp at e
 | _,_,0,_,.cons h hu _ _,e=>by simp at e;subst e;exact⟨_,_,_,_,_,rfl,rfl,h,hu⟩
 | _,_,i+1,x,.cons _ _ _ r,e=>by
   obtain⟨t,u,v,d,s,h1,h2,h3⟩:=Ul.get (i:=i) (x:=x) r (by simpa using e);exact⟨t,u,v,d,s,h1,by simpa using h2,h3⟩
structure Sea where
 len:Nat
 rest:Nat
 ppl:RL
 led:List (List Row)
 out:List (Int×Int)
 old:List Z9
 cur:Option Z9
 std:List (Xs×Option Z9)
structure SAd where
 p:Addr
 pr:Addr
 dr:Addr
 pl:Addr
 lr:Addr
 ld:Addr
 da:Addr
 ls:Addr
 lt:Addr
def SAd.fp(A:SAd):List Addr:=[A.p,A.dr,A.lr,A.ld,A.da,A.ls,A.lt]
def seaF(A:SAd)(len rest:Nat)(v:V):List (Str×V):=[("length",.int len),("rest",.int rest),("roster",.ref A.pr),("ledger",.ref A.pl),("absent",.ref A.da),("sheets",.ref A.ls),("sheet",v),("standing",.ref A.lt)]
def Qb(kvs:List (List Key×V))(out:List (Int×Int)):Prop:=(∀ at_ n:Int,(valV kvs [inl at_,inl n]).isSome=decide ((at_,n)∈out))/\kvs.length<=out.length
structure Zw(ca:CA)(H:Hp)(A:SAd)(S:Sea):Prop where
 obj:∃ dx v,H A.p=some (.ins ca.season dx (seaF A S.len S.rest v))/\ShO ca.sheet (·∉A.fp) H v S.cur
 ros:Y4 ca.roster H A.pr A.dr S.ppl
 led:Uk ca.ledger H A.pl A.lr A.ld S.led
 out:∃ kvs,H A.da=some (.dT kvs)/\Qb kvs S.out
 old:∃ vs,H A.ls=some (.lst vs)/\ShL ca.sheet (·∉A.fp) H vs S.old
 std:∃ vs,H A.lt=some (.lst vs)/\Ul ca.sheet (·∉A.fp) H vs S.std
 nd:A.fp.Nodup
 np:A.pr∉A.fp/\A.pl∉A.fp
def FrS(A:SAd)(H H':Hp):Prop:=∀ b o,H b=some o->b∉A.fp->H' b=some o
end G
namespace L2
open PySem PySem.Spec PyProof.Rows
theorem Dv{X:Cx}{K:Frag}(hK:X.K=K):OpR X (binaryOp .Add) (zfe K):=hK▸zeg
end L2
namespace G
open PySem PySem.Spec PyProof.Rows L2
theorem it2{p:Prop}[Decidable p]{A B A' B':Prop}(h:if p then A else B)(h1:p->A->A')(h2:¬ p->B->B'):if p then A' else B':=by
 by_cases z:p
 ·rw[if_pos z] at h ⊢;exact h1 z h
 ·rw[if_neg z] at h ⊢;exact h2 z h
theorem za4{κ:Type}[DecidableEq κ]{kvs:List (κ×V)}{k:κ}{v:V}(h:valV kvs k=none):putK kvs k v=kvs++[(k,v)]:=by
 unfold putK;rw[if_neg];intro z;rw[So,h] at z;cases z
inductive Dw(C:Addr)(vs:List V)(H:Hp)(Q:VK)(_:XK):Prop where
 | mk(p lr ld:Addr)(Rs:List (List Row))(b:Addr)(ts:List V)(rs:List Row)(_:vs=[.ref p,.ref b])(_:Uk C H p lr ld Rs)(_:H b=some (.lst ts))(_:b≠lr)(_:Zy H ts (rs.map Fw))(_:2*(tot Rs+rs.length)<=100000)(_:Rs.length<=1000)(_:∀ H',Uk C H' p lr ld (Rs++[rs])->(∀ b o,H b=some o->b≠lr->b≠ld->H' b=some o)->Q .non H')
def Ap(ok:Addr->Prop)(H:Hp):Prop:=∀ x,H x=none->ok x
inductive Ox(ca:CA)(vs:List V)(H:Hp)(Q:VK)(_:XK):Prop where
 | mk(q)(dx)(l1)(l2)(l3)(l4)(_:vs=[.ref q,.ref l1,.ref l2,.ref l3,.ref l4])(_:H q=some (.ins ca.sheet dx []))(_:∀ H',H'=upd H q (.ins ca.sheet dx (shF l1 l2 l3 l4))->Q .non H')
theorem Qy:List.lookup ("listed":Str) (shF l1 l2 l3 l4)=some (.ref l1):=by unfold shF;simp only[ztk,beq_self_eq_true]
theorem Qc:List.lookup ("given":Str) (shF l1 l2 l3 l4)=some (.ref l3):=by
 have e:(("given":Str) == "listed")=false:=by decide +kernel
 have e2:(("given":Str) == "lists")=false:=by decide +kernel
 unfold shF;simp only[ztk,e,e2,beq_self_eq_true]
theorem F5:List.lookup ("gaps":Str) (shF l1 l2 l3 l4)=some (.ref l4):=by
 have e:(("gaps":Str) == "listed")=false:=by decide +kernel
 have e2:(("gaps":Str) == "lists")=false:=by decide +kernel
 have e3:(("gaps":Str) == "given")=false:=by decide +kernel
 unfold shF;simp only[ztk,e,e2,e3,beq_self_eq_true]
theorem Rh{l1 l2 l3 l4:Addr}{m:Str}(h1:¬ m="listed")(h2:¬ m="lists")(h3:¬ m="given")(h4:¬ m="gaps"):List.lookup m (shF l1 l2 l3 l4)=none:=by
 have e1:(m == "listed")=false:=zs2.mpr h1;have e2:(m == "lists")=false:=zs2.mpr h2;have e3:(m == "given")=false:=zs2.mpr h3;have e4:(m == "gaps")=false:=zs2.mpr h4;unfold shF;simp only[ztk,e1,e2,e3,e4,List.lookup_nil]
theorem zjt:putF "lists" y [(("listed":Str),x)]=([("listed",x),("lists",y)]:List (Str×V)):=by
 have n1:¬ (("listed":Str)="lists"):=by decide +kernel
 simp only[putF,if_neg n1]
theorem zju:putF "given" z [(("listed":Str),x),("lists",y)]=([("listed",x),("lists",y),("given",z)]:List (Str×V)):=by
 have n1:¬ (("listed":Str)="given"):=by decide +kernel
 have n2:¬ (("lists":Str)="given"):=by decide +kernel
 simp only[putF,if_neg n1,if_neg n2]
theorem zjv:putF "gaps" w [(("listed":Str),x),("lists",y),("given",z)]=([("listed",x),("lists",y),("given",z),("gaps",w)]:List (Str×V)):=by
 have n1:¬ (("listed":Str)="gaps"):=by decide +kernel
 have n2:¬ (("lists":Str)="gaps"):=by decide +kernel
 have n3:¬ (("given":Str)="gaps"):=by decide +kernel
 simp only[putF,if_neg n1,if_neg n2,if_neg n3]
theorem Pw(hq:H1 q=none)(hdx:H1 dx=none)(ne:dx≠q):Same H1 (upd (upd (upd H1 dx (.own q)) q (.ins C dx [])) q (.ins C dx (shF l1 l2 l3 l4)))/\upd (upd (upd H1 dx (.own q)) q (.ins C dx [])) q (.ins C dx (shF l1 l2 l3 l4)) q=some (.ins C dx (shF l1 l2 l3 l4)):=by
 refine⟨fun b o e=>?_,Zb⟩;rw[Zi (Zh e hq),Zi (Zh e hq),Zi (Zh e hdx)];exact e
inductive Dx(ca:CA)(vs:List V)(H:Hp)(Q:VK)(_:XK):Prop where
 | mk(ok:Addr->Prop)(q l2:Addr)(ls:List Addr)(rows:List (List Int))(s:Z9)(_:vs=[.ref q,.ref l2])(_:ShAt ca.sheet ok H q s)(_:H l2=some (.lst (ls.map V.ref)))(_:ILs H ls rows)(_:ok l2)(_:(∀ x∈ls,ok x))(_:Ap ok H)(_:∀ q' H',ShAt ca.sheet ok H' q' { s with may:=rows }->Same H H'->H q'=none->Q (.ref q') H')
inductive Dy(ca:CA)(vs:List V)(H:Hp)(Q:VK)(_:XK):Prop where
 | mk(ok:Addr->Prop)(q l2:Addr)(ls:List Addr)(rows:List (List Int))(nu:List Int)(s:Z9)(n:Int)(p:Nat)(_:vs=[.ref q,.int n,.ref l2])(_:ShAt ca.sheet ok H q s)(_:H l2=some (.lst (ls.map V.ref)))(_:ILs H ls rows)(_:ok l2)(_:(∀ x∈ls,ok x))(_:Ap ok H)(_:Mm rows nu)(_:(∀ x∈s.gv,oneV x))(_:s.gv[p]?=some (.int n))(_:(∀ j:Nat,s.gv[j]?=some (.int n)->j=p))(_:Yw rows (s.gv.set p .non))(_:s.gaps.length<=1000)(_:∀ q' st e w H',ShAt ca.sheet ok H' q' ⟨s.ms,rows,Yq st (s.gv.set p .non),s.gaps++[(n,st)]⟩->Y9 rows (s.gv.set p .non) p st e w->Same H H'->H q'=none->Q (.ref q') H')
inductive Aq(ca:CA)(vs:List V)(H:Hp)(Q:VK)(_:XK):Prop where
 | mk(ok:Addr->Prop)(l1 l2:Addr)(ts:List V)(ls:List Addr)(ms:List (Int×Int×Int))(rows:List (List Int))(nu:List Int)(_:vs=[.ref l1,.ref l2])(_:H l1=some (.lst ts))(_:Zy H ts (ms.map pV))(_:H l2=some (.lst (ls.map V.ref)))(_:ILs H ls rows)(_:ok l1)(_:ok l2)(_:(∀ x∈ls,ok x))(_:Ap ok H)(_:Mm rows nu)(_:∀ q gv H',ShAt ca.sheet ok H' q ⟨ms,rows,gv,[]⟩->Yw rows gv->V8 rows gv->Same H H'->H q=none->Q (.ref q) H')
inductive Mo(ca:CA)(vs:List V)(H:Hp)(Q:VK)(_:XK):Prop where
 | mk(ok:Addr->Prop)(q:Addr)(s:Z9)(_:vs=[.ref q])(_:ShAt ca.sheet ok H q s)(_:∀ l ts H',H' l=some (.lst ts)->Zy H' ts (s.ms.map pV)->Same H H'->H l=none->Q (.ref l) H')
inductive Kn(ca:CA)(vs:List V)(H:Hp)(Q:VK)(_:XK):Prop where
 | mk(ok:Addr->Prop)(q:Addr)(s:Z9)(_:vs=[.ref q])(_:ShAt ca.sheet ok H q s)(_:∀ l H',H' l=some (.lst s.gv)->Same H H'->H l=none->Q (.ref l) H')
inductive Nq(ca:CA)(vs:List V)(H:Hp)(Q:VK)(_:XK):Prop where
 | mk(ok:Addr->Prop)(q:Addr)(s:Z9)(n:Int)(_:vs=[.ref q,.int n])(_:ShAt ca.sheet ok H q s)(_:(∀ x∈s.gv,oneV x))(_:s.gv.length<=100)(_:∀ H',Same H H'->Q (oN (X9 s.gv n)) H')
def Ar(m:Int×Int×Int)(x:V):Row:=⟨m.1,m.2.1,m.2.2,ziu (some x)⟩
def Wd(s:Z9):List Row:=List.zipWith Ar s.ms s.gv
inductive D1(ca:CA)(vs:List V)(H:Hp)(Q:VK)(_:XK):Prop where
 | mk(ok:Addr->Prop)(q:Addr)(s:Z9)(_:vs=[.ref q])(_:ShAt ca.sheet ok H q s)(_:(∀ x∈s.gv,oneV x))(_:s.gv.length=s.ms.length)(_:s.ms.length<=1000)(_:∀ l ts H',H' l=some (.lst ts)->Zy H' ts ((Wd s).map Fw)->Same H H'->H l=none->Q (.ref l) H')
inductive Ko(ca:CA)(vs:List V)(H:Hp)(Q:VK)(_:XK):Prop where
 | mk(ok:Addr->Prop)(q:Addr)(s:Z9)(_:vs=[.ref q])(_:ShAt ca.sheet ok H q s)(_:s.gaps.length<=1000)(_:∀ l ts H',H' l=some (.lst ts)->W7 (fun x=>H x=none/\x≠l) H' ts s.gaps->Same H H'->H l=none->Q (.ref l) H')
theorem Kp{K:Frag}{a:Addr}{xs:List V}{xo:List Str}{js:List Nat}{g:TG}{tt:TT}{te:TE}{σ:L2.St}{H:Hp}{Q:VK}(Pv:Nat->List V->Hp->Prop)(h0:Pv 0 [] H)(hl:∀ i ys H,i<=xs.length->Pv i ys H->SqL K H a xs)(hz:xs.length<=sizeLine)(hy:∀ i ys H,Pv i ys H->ys.length<=i)
  (hs:∀ i x ys H,xs[i]?=some x->Pv i ys H->g x (cs0 xo js σ) H fun σ2 H1=>Qx xo js σ σ2/\tt σ2 H1 fun b H2=>if b=true then te σ2 H2 fun y H3=>Pv (i+1) (ys++[y]) H3 else Pv (i+1) ys H2)
  (hd:∀ ys H,Pv xs.length ys H->∀ p,H p=none->Q (.ref p) (upd H p (.lst ys))):Bn (Itl K a) xo js g tt te σ H Q:=by
 refine⟨fun i m ys H=>m=xs.length-i/\i<=xs.length/\Pv i ys H,⟨xs.length,by simp,zs1 _,h0⟩,?_⟩;rintro i m ys H ⟨rfl,hi,p⟩;have q:=hl i ys H hi p;have ly:=hy i ys H p;by_cases hlt:i<xs.length
 ·refine .inr ⟨⟨xs,xs[i],q,by simp[hlt]⟩,by omega,Pv (i+1),fun ys' H' p'=>⟨xs.length-(i+1),by omega,rfl,hlt,p'⟩,fun x H' y=>?_⟩;obtain⟨e,y⟩:=y;subst e;exact hs i x ys _ (y xs q) p
 ·have e:i=xs.length:=by omega
  subst e;exact .inl ⟨⟨xs,q,zso _⟩,by omega,hd ys H p⟩
theorem za5{K:Frag}{a b:Addr}{xs zs:List V}{xo:List Str}{js:List Nat}{g:TG}{tt:TT}{te:TE}{σ:L2.St}{H:Hp}{Q:VK}(Pv:Nat->List V->Hp->Prop)(h0:Pv 0 [] H)(he:xs.length=zs.length)(hl:∀ i ys H,i<=xs.length->Pv i ys H->SqL K H a xs/\SqL K H b zs)(hz:xs.length<=sizeLine)(hy:∀ i ys H,Pv i ys H->ys.length<=i)
  (hs:∀ i x z t ys H,xs[i]?=some x->zs[i]?=some z->Pv i ys H->H t=none->g (.ref t) (cs0 xo js σ) (upd H t (.tup [x,z])) fun σ2 H1=>Qx xo js σ σ2/\tt σ2 H1 fun b H2=>if b=true then te σ2 H2 fun y H3=>Pv (i+1) (ys++[y]) H3 else Pv (i+1) ys H2)
  (hd:∀ ys H,Pv xs.length ys H->∀ p,H p=none->Q (.ref p) (upd H p (.lst ys))):Bn (Itz K a b) xo js g tt te σ H Q:=by
 refine⟨fun i m ys H=>m=xs.length-i/\i<=xs.length/\Pv i ys H,⟨xs.length,by simp,zs1 _,h0⟩,?_⟩;rintro i m ys H ⟨rfl,hi,p⟩;obtain⟨q1,q2⟩:=hl i ys H hi p;have ly:=hy i ys H p;by_cases hlt:i<xs.length
 ·refine .inr ⟨⟨xs,zs,xs[i],zs[i]'⋯,q1,q2,by simp[hlt],by rw[zsi ⋯]⟩,by omega,Pv (i+1),fun ys' H' p'=>⟨xs.length-(i+1),by omega,rfl,hlt,p'⟩,fun x H' y=>?_⟩;obtain⟨t,y,z,h1,h2,h3,rfl,rfl⟩:=y;exact hs i y z t ys _ (h2 xs q1) (h3 zs q2) p h1
 ·have e:i=xs.length:=by omega
  subst e;exact .inl ⟨⟨xs,zs,q1,q2,.inl (zso _)⟩,by omega,hd ys H p⟩
theorem zg4(m:Int×Int×Int)(h:oneV x):Fw (Ar m x)=[V.int m.1,V.int m.2.1,V.int m.2.2,x]:=by
 rcases h with rfl|⟨i,rfl⟩<;>rfl
theorem za6(hm:s.ms[i]?=some m)(hx:s.gv[i]?=some x):(Wd s).take (i+1)=(Wd s).take i++[Ar m x]:=by
 have:(Wd s)[i]?=some (Ar m x):=by
  unfold Wd;rw[List.getElem?_zipWith,hm,hx]
 rw[zto,this];rfl
theorem D2(h:s.gv.length=s.ms.length):(Wd s).length=s.ms.length:=by
 unfold Wd;rw[List.length_zipWith,h,Nat.min_self]
section
variable{ca:CA}{H H':Hp}{A:SAd}{S:Sea}{l:Nat}{r:Nat}{v:V}
theorem D3(A:SAd)(l r:Nat)(v:V):List.lookup ("length":Str) (seaF A l r v)=some (.int l)/\List.lookup ("rest":Str) (seaF A l r v)=some (.int r)/\List.lookup ("roster":Str) (seaF A l r v)=some (.ref A.pr)/\List.lookup ("ledger":Str) (seaF A l r v)=some (.ref A.pl)/\List.lookup ("absent":Str) (seaF A l r v)=some (.ref A.da)/\List.lookup ("sheets":Str) (seaF A l r v)=some (.ref A.ls)/\List.lookup ("sheet":Str) (seaF A l r v)=some v/\List.lookup ("standing":Str) (seaF A l r v)=some (.ref A.lt):=by
 have d:∀ a b:Str,decide (a=b)=false->(a == b)=false:=fun a b h=>zs2.mpr (of_decide_eq_false h);have e1:=d "rest" "length" ⋯;have e2:=d "roster" "length" ⋯;have e3:=d "roster" "rest" ⋯;have f1:=d "ledger" "length" ⋯;have f2:=d "ledger" "rest" ⋯;have f3:=d "ledger" "roster" ⋯;have g1:=d "absent" "length" ⋯;have g2:=d "absent" "rest" ⋯;have g3:=d "absent" "roster" ⋯;have g4:=d "absent" "ledger" ⋯;have h1:=d "sheets" "length" ⋯;have h2:=d "sheets" "rest" ⋯;have h3:=d "sheets" "roster" ⋯;have h4:=d "sheets" "ledger" ⋯;have h5:=d "sheets" "absent" ⋯;have i1:=d "sheet" "length" ⋯;have i2:=d "sheet" "rest" ⋯;have i3:=d "sheet" "roster" ⋯;have i4:=d "sheet" "ledger" ⋯;have i5:=d "sheet" "absent" ⋯;have i6:=d "sheet" "sheets" ⋯;have j1:=d "standing" "length" ⋯;have j2:=d "standing" "rest" ⋯;have j3:=d "standing" "roster" ⋯;have j4:=d "standing" "ledger" ⋯;have j5:=d "standing" "absent" ⋯;have j6:=d "standing" "sheets" ⋯;have j7:=d "standing" "sheet" ⋯;unfold seaF;refine⟨?_,?_,?_,?_,?_,?_,?_,?_⟩<;>simp only[ztk,beq_self_eq_true,e1,e2,e3,f1,f2,f3,g1,g2,g3,g4,h1,h2,h3,h4,h5,i1,i2,i3,i4,i5,i6,j1,j2,j3,j4,j5,j6,j7]
theorem Gv:List.lookup ("length":Str) (seaF A l r v)=some (.int l):=(D3 A l r v).1
theorem zew:List.lookup ("rest":Str) (seaF A l r v)=some (.int r):=(D3 A l r v).2.1
theorem Vf:List.lookup ("roster":Str) (seaF A l r v)=some (.ref A.pr):=(D3 A l r v).2.2.1
theorem U3:List.lookup ("ledger":Str) (seaF A l r v)=some (.ref A.pl):=(D3 A l r v).2.2.2.1
theorem Qz:List.lookup ("absent":Str) (seaF A l r v)=some (.ref A.da):=(D3 A l r v).2.2.2.2.1
theorem Gw:List.lookup ("sheets":Str) (seaF A l r v)=some (.ref A.ls):=(D3 A l r v).2.2.2.2.2.1
theorem We:List.lookup ("sheet":Str) (seaF A l r v)=some v:=(D3 A l r v).2.2.2.2.2.2.1
theorem Um:List.lookup ("standing":Str) (seaF A l r v)=some (.ref A.lt):=(D3 A l r v).2.2.2.2.2.2.2
theorem Yo(h:(["length","rest","roster","ledger","absent","sheets","sheet","standing"]:List Str).all (fun x=>!decide (m=x))=true):List.lookup m (seaF A l r v)=none:=by
 simp only[List.all_cons,List.all_nil,Bool.and_true,zua,Bool.not_eq_true',decide_eq_false_iff_not] at h;obtain⟨h1,h2,h3,h4,h5,h6,h7,h8⟩:=h;have e:∀ x:Str,¬ m=x->(m == x)=false:=fun x z=>zs2.mpr z;unfold seaF;simp only[ztk,e _ h1,e _ h2,e _ h3,e _ h4,e _ h5,e _ h6,e _ h7,e _ h8,List.lookup_nil]
theorem Zw.same(h:Zw ca H A S)(e:Same H H'):Zw ca H' A S:=by
 obtain⟨⟨dx,v,a1,a2⟩,b,c,⟨kvs,d1,d2⟩,⟨vs,f1,f2⟩,⟨us,g1,g2⟩,nd,np⟩:=h;have k:∀ x o,x∉A.fp->H x=some o->H' x=some o:=fun _ _ _ q=>e _ _ q;have kt:∀ t xs,H t=some (.tup xs)->H' t=some (.tup xs):=fun _ _ q=>e _ _ q;exact⟨⟨dx,v,e _ _ a1,a2.keep k kt⟩,b.same e,c.same e,⟨kvs,e _ _ d1,d2⟩,⟨vs,e _ _ f1,f2.keep k kt⟩,⟨us,e _ _ g1,g2.keep k kt⟩,nd,np⟩
theorem FrS.of(A:SAd)(e:Same H H'):FrS A H H':=fun b o q _=>e b o q
theorem FrS.trans(h1:FrS A H H')(h2:FrS A H' H2):FrS A H H2:=fun b o e n=>h2 b o (h1 b o e n) n
theorem Zw.there(h:Zw ca H A S):∀ x∈A.fp,∃ o,H x=some o:=by
 obtain⟨⟨dx,v,a1,_⟩,⟨⟨_,_,_,b2,_⟩,_⟩,⟨_,⟨rs,c2,_⟩,⟨ks,c3,_⟩⟩,⟨kvs,d1,_⟩,⟨vs,f1,_⟩,⟨us,g1,_⟩,nd,np⟩:=h;intro x hx;simp only[SAd.fp,zsk,zth,or_false] at hx;rcases hx with rfl|rfl|rfl|rfl|rfl|rfl|rfl
 ·exact⟨_,a1⟩
 ·exact⟨_,b2⟩
 ·exact⟨_,c2⟩
 ·exact⟨_,c3⟩
 ·exact⟨_,d1⟩
 ·exact⟨_,f1⟩
 ·exact⟨_,g1⟩
theorem Zw.newOk(h:Zw ca H A S):Ap (·∉A.fp) H:=fun x hx hm=>by
 obtain⟨o,e⟩:=h.there x hm;rw[e] at hx;cases hx
theorem Zw.tups(h:Zw ca H A S)(f:FrS A H H'):∀ t xs,H t=some (.tup xs)->H' t=some (.tup xs):=fun t xs e=>f t _ e fun hm=>by
 obtain⟨⟨dx,v,a1,_⟩,⟨⟨_,_,_,b2,_⟩,_⟩,⟨_,⟨rs,c2,_⟩,⟨ks,c3,_⟩⟩,⟨kvs,d1,_⟩,⟨vs,f1,_⟩,⟨us,g1,_⟩,nd,np⟩:=h;simp only[SAd.fp,zsk,zth,or_false] at hm;rcases hm with rfl|rfl|rfl|rfl|rfl|rfl|rfl
 ·rw[a1] at e;cases e
 ·rw[b2] at e;cases e
 ·rw[c2] at e;cases e
 ·rw[c3] at e;cases e
 ·rw[d1] at e;cases e
 ·rw[f1] at e;cases e
 ·rw[g1] at e;cases e
end
def atV(S:Sea):Int:=(S.led.length:Int)+1
inductive U7(ca:CA)(vs:List V)(H:Hp)(Q:VK)(_:XK):Prop where
 | mk(A:SAd)(S:Sea)(_:vs=[.ref A.p])(_:Zw ca H A S)(_:Q (.int (atV S)) H)
inductive Nr(ca:CA)(vs:List V)(H:Hp)(Q:VK)(E:XK):Prop where
 | mk(A:SAd)(S:Sea)(_:vs=[.ref A.p])(_:Zw ca H A S)(_:if S.len<=S.led.length then E (.ref ca.seaOver) none H else Q .non H)
inductive Nt(ca:CA)(vs:List V)(H:Hp)(Q:VK)(E:XK):Prop where
 | mk(A:SAd)(S:Sea)(_:vs=[.ref A.p])(_:Zw ca H A S)(_:if S.len<=S.led.length then E (.ref ca.seaOver) none H else if S.cur.isSome then E (.ref ca.drawn) none H else Q .non H)
inductive F6(ca:CA)(vs:List V)(H:Hp)(Q:VK)(E:XK):Prop where
 | mk(A:SAd)(S:Sea)(at_:Int)(_:vs=[.ref A.p,.int at_])(_:Zw ca H A S)(_:Z8 at_)(_:if at_<1\/(S.len:Int)<at_ then E (.ref ca.noRound) none H else Q .non H)
inductive F7(ca:CA)(vs:List V)(H:Hp)(Q:VK)(E:XK):Prop where
 | mk(A:SAd)(S:Sea)(_:vs=[.ref A.p])(_:Zw ca H A S)(_:if 100<=S.std.length then E (.ref ca.manyD) none H else Q .non H)
inductive F8(ca:CA)(vs:List V)(H:Hp)(Q:VK)(_:XK):Prop where
 | mk(A:SAd)(S:Sea)(w:Str)(n at_:Int)(_:vs=[.ref A.p,.str w,.int n,.int at_])(_:Zw ca H A S)(_:S.std.length<=1000)(_:∀ H',Zw ca H' A { S with std:=S.std++[((w,n,at_),S.cur)] }->FrS A H H'->Q .non H')
inductive Px(ca:CA)(vs:List V)(H:Hp)(Q:VK)(E:XK):Prop where
 | mk(A:SAd)(S:Sea)(_:vs=[.ref A.p])(_:Zw ca H A S)(_:(S.cur=none->E (.ref ca.notDrawn) none H))(_:∀ s q,S.cur=some s->ShAt ca.sheet (·∉A.fp) H q s->Q (.ref q) H)
def U1(S:Sea)(at_:Int):Option Z9:=if at_<=S.led.length then S.old[(at_-1).toNat]? else if (S.led.length:Int)+1<at_ then none else S.cur
inductive Gx(ca:CA)(vs:List V)(H:Hp)(Q:VK)(E:XK):Prop where
 | mk(A:SAd)(S:Sea)(at_:Int)(_:vs=[.ref A.p,.int at_])(_:Zw ca H A S)(_:Z8 at_)(_:S.old.length=S.led.length)(_:if at_<1\/(S.len:Int)<at_ then E (.ref ca.noRound) none H else (U1 S at_=none->E (.ref ca.notDrawn) none H)/\∀ s q,U1 S at_=some s->ShAt ca.sheet (·∉A.fp) H q s->Q (.ref q) H)
def pIn(out:List (Int×Int))(at_:Int)(m:P3):Bool:=decide ((at_,m.1)∈out)
def F9(S:Sea)(m:P3):List Int:=(S.ppl.filter fun x=>(Fy S.led x.1 x.2.1 x.2.2 m.1 m.2.1 m.2.2 (pIn S.out (atV S) x) S.rest).isEmpty).map (·.1)
def mayS(S:Sea)(ms:List P3):List (List Int):=ms.map (F9 S)
inductive Py(ca:CA)(vs:List V)(H:Hp)(Q:VK)(_:XK):Prop where
 | mk(A:SAd)(S:Sea)(l:Addr)(ts:List V)(ms:List P3)(_:vs=[.ref A.p,.ref l])(_:Zw ca H A S)(_:H l=some (.lst ts))(_:Zy H ts (ms.map pV))(_:ms.length<=100)(_:S.ppl.length<=100)(_:(∀ x∈S.ppl,Z8 x.1))(_:∀ l' ls H',H' l'=some (.lst (ls.map V.ref))->ILs H' ls (mayS S ms)->Same H H'->H l'=none->(∀ x∈ls,H x=none)->Q (.ref l') H')
def badM(m:P3):Prop:=m.1<1\/99<m.1\/m.2.1<1\/99<m.2.1\/m.2.2<1\/9<m.2.2
def Vn(Ms:List P3):Prop:=∃ m∈Ms,badM m
def X4(Ms:List P3):Prop:=∃ m∈Ms,m.1=m.2.1
def Ri(m:P3):Prop:=Z8 m.1/\Z8 m.2.1/\Z8 m.2.2
theorem Gy{p:P3->Prop}{Ms:List P3}{i:Nat}{m:P3}(e:Ms[i]?=some m)(h:∀ x∈Ms.take i,¬ p x)(hm:¬ p m):∀ x∈Ms.take (i+1),¬ p x:=fun x hx=>by
 rw[zto,e] at hx;rcases zsv.mp hx with q|q
 ·exact h x q
 ·simp at q;subst q;exact hm
inductive D6(K:Frag)(ca:CA)(vs:List V)(H:Hp)(Q:VK)(E:XK):Prop where
 | mk(b)(ts)(_:vs=[.ref b])(_:SqL K H b ts)(_:ts.length<=1000)(_:(20<ts.length->E (.ref ca.manyM) none H))(_:(ts.length<=20->Q .non H))
inductive Gz(K:Frag)(ca:CA)(vs:List V)(H:Hp)(Q:VK)(E:XK):Prop where
 | mk(b:Addr)(ts:List V)(Ms:List P3)(_:vs=[.ref b])(_:SqL K H b ts)(_:Zy H ts (Ms.map pV))(_:(∀ m∈Ms,Ri m))(_:(Vn Ms->E (.ref ca.out) none H))(_:(¬ Vn Ms->Q .non H))
inductive D7(K:Frag)(ca:CA)(vs:List V)(H:Hp)(Q:VK)(E:XK):Prop where
 | mk(b:Addr)(ts:List V)(Ms:List P3)(_:vs=[.ref b])(_:SqL K H b ts)(_:Zy H ts (Ms.map pV))(_:(∀ m∈Ms,Ri m))(_:(X4 Ms->E (.ref ca.same) none H))(_:(¬ X4 Ms->Q .non H))
inductive Kq(K:Frag)(ca:CA)(vs:List V)(H:Hp)(Q:VK)(E:XK):Prop where
 | mk(b:Addr)(ts:List V)(Ms:List P3)(_:vs=[.ref b])(_:SqL K H b ts)(_:Zy H ts (Ms.map pV))(_:(∀ m∈Ms,Ri m))(_:Ms.length<=1000)(_:(20<Ms.length->E (.ref ca.manyM) none H))(_:(Ms.length<=20->Vn Ms->E (.ref ca.out) none H))(_:(Ms.length<=20->¬ Vn Ms->X4 Ms->E (.ref ca.same) none H))(_:(Ms.length<=20->¬ Vn Ms->¬ X4 Ms->∀ l,H l=none->Q (.ref l) (upd H l (.lst ts))))
theorem Qb.isSome(h:Qb kvs out)(i n:Int):(valV kvs [inl i,inl n]).isSome=decide ((i,n)∈out):=h.1 i n
theorem Kr{A:SAd}(nd:A.fp.Nodup):(A.p≠A.dr/\A.p≠A.lr/\A.p≠A.ld/\A.p≠A.da/\A.p≠A.ls/\A.p≠A.lt)/\(A.dr≠A.lr/\A.dr≠A.ld/\A.dr≠A.da/\A.dr≠A.ls/\A.dr≠A.lt)/\(A.lr≠A.ld/\A.lr≠A.da/\A.lr≠A.ls/\A.lr≠A.lt)/\(A.ld≠A.da/\A.ld≠A.ls/\A.ld≠A.lt)/\(A.da≠A.ls/\A.da≠A.lt)/\A.ls≠A.lt:=by
 simp only[SAd.fp,zs6,zsk,zth,or_false,not_or] at nd;obtain⟨⟨n1,n2,n3,n4,n5,n6⟩,⟨n7,n8,n9,n10,n11⟩,⟨n12,n13,n14,n15⟩,⟨n16,n17,n18⟩,⟨n19,n20⟩,n21,_⟩:=nd;exact⟨⟨n1,n2,n3,n4,n5,n6⟩,⟨n7,n8,n9,n10,n11⟩,⟨n12,n13,n14,n15⟩,⟨n16,n17,n18⟩,⟨n19,n20⟩,n21⟩
theorem zex{R:RL}(nd:(R.map (·.1)).Nodup){x y:P3}(hx:x∈R)(hy:y∈R)(h:x.1=y.1):x=y:=by
 induction R with
 | nil=>cases hx
 | cons z R ih =>
   rw[zst,zs6] at nd;rcases zsk.mp hx with e|e<;>rcases zsk.mp hy with e'|e'
   ·rw[e,e']
   ·exact absurd (zsq.mpr ⟨y,e',by rw[<- h,e]⟩) nd.1
   ·exact absurd (zsq.mpr ⟨x,e,by rw[h,e']⟩) nd.1
   ·exact ih nd.2 e e'
def outV(S:Sea):List V:=(S.ppl.filter (pIn S.out (atV S))).map fun x=>V.int x.1
theorem zde(S:Sea):∀ x∈outV S,oneV x:=fun x hx=>by
 unfold outV at hx;obtain⟨m,_,rfl⟩:=zsq.mp hx;exact .inr ⟨_,rfl⟩
theorem zey(hx:x∈S.ppl):inV (.int x.1) (outV S)=pIn S.out (atV S) x:=by
 unfold outV;rw[show ((S.ppl.filter (pIn S.out (atV S))).map fun x=>V.int x.1)=((S.ppl.filter (pIn S.out (atV S))).map (·.1)).map V.int by rw[zt7];rfl,F2];unfold pIn;by_cases h:(atV S,x.1)∈S.out
 ·rw[zsm h,zsm];exact zsq.mpr ⟨x,zts.mpr ⟨hx,zsm h⟩,rfl⟩
 ·rw[zsr h,zsr];intro z;obtain⟨y,h1,h2⟩:=zsq.mp z;have:=of_decide_eq_true (zts.mp h1).2;rw[h2] at this;exact h this
theorem zg5(S:Sea)(m:P3):((S.ppl.filter (Qa S.led m.1 m.2.1 m.2.2 (outV S) S.rest)).map fun x=>V.int x.1)=(F9 S m).map V.int:=by
 unfold F9;rw[zt7];have:S.ppl.filter (Qa S.led m.1 m.2.1 m.2.2 (outV S) S.rest)=S.ppl.filter fun x=>(Fy S.led x.1 x.2.1 x.2.2 m.1 m.2.1 m.2.2 (pIn S.out (atV S) x) S.rest).isEmpty:=by
  refine List.filter_congr fun x hx=>?_;unfold Qa;rw[zey hx]
 rw[this];rfl
theorem atI_last:atI (xs++[x]) (-1)=some x:=by
 have hl:(xs++[x]).length=xs.length+1:=by rw[zsh];rfl
 unfold atI ixN;rw[if_neg ⋯,if_pos ⋯];show (xs++[x])[((-1:Int)+(xs++[x]).length).toNat]?=_;rw[show ((-1:Int)+(xs++[x]).length).toNat=xs.length by omega,ztd (zso _),Nat.sub_self];rfl
theorem W7.unsnoc{ok:Addr->Prop}{H:Hp}{n:Int}{st:List (Nat×Option Int)}:∀ {vs:List V} {G:List (Int×List (Nat×Option Int))},W7 ok H vs (G++[(n,st)])->∃ vs' t l us,vs=vs'++[.ref t]/\H t=some (.tup [.int n,.ref l])/\H l=some (.lst us)/\Zy H us (st.map V4)/\ok l
 | _,[],.cons h hl tl o .nil=>⟨[],_,_,_,rfl,h,hl,tl,o⟩
 | _,_ :: _,.cons h hl tl o r=>by
   obtain⟨vs',t,l,us,e,a⟩:=W7.unsnoc r;exact⟨_ :: vs',t,l,us,by rw[e];rfl,a⟩
def Qd(S:Sea):Prop:=(∀ x∈S.ppl,¬ badI x.1 x.2.1 x.2.2)/\S.ppl.length<=30
theorem Qd.small(h:Qd S):∀ x∈S.ppl,Z8 x.1:=fun x hx=>by
 have:=h.1 x hx;unfold badI at this;exact Yd ⋯ ⋯
theorem Qd.may(h:Qd S)(nd:(S.ppl.map (·.1)).Nodup)(hm:ms.length<=20):Mm (mayS S ms) (S.ppl.map (·.1)):=by
 refine⟨by unfold mayS;rw[zsg];exact hm,by rw[zsg];exact h.2,nd,fun n hn=>?_,fun r hr=>?_⟩
 ·obtain⟨x,hx,rfl⟩:=zsq.mp hn;have:=h.1 x hx;unfold badI at this;omega
 ·unfold mayS at hr;obtain⟨m,_,rfl⟩:=zsq.mp hr;unfold F9;exact⟨nd.sublist (List.Sublist.map _ List.filter_sublist),fun n hn=>by
   obtain⟨x,hx,rfl⟩:=zsq.mp hn;exact zsq.mpr ⟨x,(zts.mp hx).1,rfl⟩⟩
section
variable{ca:CA}{H H':Hp}{A:SAd}{S:Sea}
theorem Mp(h:Zw ca H A S)(hx:x∈A.fp):A.pr≠x/\A.pl≠x:=⟨fun z=>h.np.1 (by rw[z];exact hx),fun z=>h.np.2 (by rw[z];exact hx)⟩
theorem FrS.one(hx:x∈A.fp)(k:∀ b o,H b=some o->b≠x->H' b=some o):FrS A H H':=fun b o e hb=>k b o e fun z=>hb (by rw[z];exact hx)
theorem Zw.setRos(h:Zw ca H A S)(r:Y4 ca.roster H' A.pr A.dr R)(k:∀ b o,H b=some o->b≠A.dr->H' b=some o):Zw ca H' A { S with ppl:=R }/\FrS A H H':=by
 have f:FrS A H H':=.one (by simp[SAd.fp]) k;have kt:=h.tups f;have ko:∀ x o,x∉A.fp->H x=some o->H' x=some o:=fun x o hx e=>f x o e hx;obtain⟨⟨n1,n2,n3,n4,n5,n6⟩,⟨n7,n8,n9,n10,n11⟩,⟨n12,n13,n14,n15⟩,⟨n16,n17,n18⟩,⟨n19,n20⟩,n21⟩:=Kr h.nd;have np:=Mp h (show A.dr∈A.fp by simp[SAd.fp]);obtain⟨⟨dx,v,a1,a2⟩,b,c,⟨kvs,d1,d2⟩,⟨vs,f1,f2⟩,⟨us,g1,g2⟩,nd,np'⟩:=h;exact⟨⟨⟨dx,v,k _ _ a1 n1,a2.keep ko kt⟩,r,c.keep (fun o e=>k _ o e np.2) (fun o e=>k _ o e (Ne.symm n7)) (fun o e=>k _ o e (Ne.symm n8)) kt,⟨kvs,k _ _ d1 (Ne.symm n9),d2⟩,⟨vs,k _ _ f1 (Ne.symm n10),f2.keep ko kt⟩,⟨us,k _ _ g1 (Ne.symm n11),g2.keep ko kt⟩,nd,np'⟩,f⟩
theorem Zw.setOut{out:List (Int×Int)}{kvs:List (List Key×V)}(h:Zw ca H A S)(hd:H' A.da=some (.dT kvs))(ok:Qb kvs out)(k:∀ b o,H b=some o->b≠A.da->H' b=some o):Zw ca H' A { S with out:=out }/\FrS A H H':=by
 have f:FrS A H H':=.one (by simp[SAd.fp]) k;have kt:=h.tups f;have ko:∀ x o,x∉A.fp->H x=some o->H' x=some o:=fun x o hx e=>f x o e hx;obtain⟨⟨n1,n2,n3,n4,n5,n6⟩,⟨n7,n8,n9,n10,n11⟩,⟨n12,n13,n14,n15⟩,⟨n16,n17,n18⟩,⟨n19,n20⟩,n21⟩:=Kr h.nd;have np:=Mp h (show A.da∈A.fp by simp[SAd.fp]);obtain⟨⟨dx,v,a1,a2⟩,b,c,⟨kvs',d1,d2⟩,⟨vs,f1,f2⟩,⟨us,g1,g2⟩,nd,np'⟩:=h;exact⟨⟨⟨dx,v,k _ _ a1 n4,a2.keep ko kt⟩,b.keep (fun o e=>k _ o e np.1) (fun o e=>k _ o e n9) kt,c.keep (fun o e=>k _ o e np.2) (fun o e=>k _ o e n13) (fun o e=>k _ o e n16) kt,⟨kvs,hd,ok⟩,⟨vs,k _ _ f1 (Ne.symm n19),f2.keep ko kt⟩,⟨us,k _ _ g1 (Ne.symm n20),g2.keep ko kt⟩,nd,np'⟩,f⟩
theorem Zw.setCur(h:Zw ca H A S)(hp:∃ dx,H' A.p=some (.ins ca.season dx (seaF A S.len S.rest v)))(sh:ShO ca.sheet (·∉A.fp) H' v cur)(k:∀ b o,H b=some o->b≠A.p->H' b=some o):Zw ca H' A { S with cur:=cur }/\FrS A H H':=by
 have f:FrS A H H':=.one (by simp[SAd.fp]) k;have kt:=h.tups f;have ko:∀ x o,x∉A.fp->H x=some o->H' x=some o:=fun x o hx e=>f x o e hx;obtain⟨⟨n1,n2,n3,n4,n5,n6⟩,⟨n7,n8,n9,n10,n11⟩,⟨n12,n13,n14,n15⟩,⟨n16,n17,n18⟩,⟨n19,n20⟩,n21⟩:=Kr h.nd;have np:=Mp h (show A.p∈A.fp by simp[SAd.fp]);obtain⟨⟨dx,v',a1,a2⟩,b,c,⟨kvs',d1,d2⟩,⟨vs,f1,f2⟩,⟨us,g1,g2⟩,nd,np'⟩:=h;obtain⟨dx',hp⟩:=hp;exact⟨⟨⟨dx',v,hp,sh⟩,b.keep (fun o e=>k _ o e np.1) (fun o e=>k _ o e (Ne.symm n1)) kt,c.keep (fun o e=>k _ o e np.2) (fun o e=>k _ o e (Ne.symm n2)) (fun o e=>k _ o e (Ne.symm n3)) kt,⟨kvs',k _ _ d1 (Ne.symm n4),d2⟩,⟨vs,k _ _ f1 (Ne.symm n5),f2.keep ko kt⟩,⟨us,k _ _ g1 (Ne.symm n6),g2.keep ko kt⟩,nd,np'⟩,f⟩
theorem Zw.setStd{std:List (Xs×Option Z9)}{us:List V}(h:Zw ca H A S)(hd:H' A.lt=some (.lst us))(ok:Ul ca.sheet (·∉A.fp) H' us std)(k:∀ b o,H b=some o->b≠A.lt->H' b=some o):Zw ca H' A { S with std:=std }/\FrS A H H':=by
 have f:FrS A H H':=.one (by simp[SAd.fp]) k;have kt:=h.tups f;have ko:∀ x o,x∉A.fp->H x=some o->H' x=some o:=fun x o hx e=>f x o e hx;obtain⟨⟨n1,n2,n3,n4,n5,n6⟩,⟨n7,n8,n9,n10,n11⟩,⟨n12,n13,n14,n15⟩,⟨n16,n17,n18⟩,⟨n19,n20⟩,n21⟩:=Kr h.nd;have np:=Mp h (show A.lt∈A.fp by simp[SAd.fp]);obtain⟨⟨dx,v,a1,a2⟩,b,c,⟨kvs,d1,d2⟩,⟨vs,f1,f2⟩,⟨us',g1,g2⟩,nd,np'⟩:=h;exact⟨⟨⟨dx,v,k _ _ a1 n6,a2.keep ko kt⟩,b.keep (fun o e=>k _ o e np.1) (fun o e=>k _ o e n11) kt,c.keep (fun o e=>k _ o e np.2) (fun o e=>k _ o e n15) (fun o e=>k _ o e n18) kt,⟨kvs,k _ _ d1 n20,d2⟩,⟨vs,k _ _ f1 n21,f2.keep ko kt⟩,⟨us,hd,ok⟩,nd,np'⟩,f⟩
theorem Zw.setOld{old:List Z9}{us:List V}(h:Zw ca H A S)(hd:H' A.ls=some (.lst us))(ok:ShL ca.sheet (·∉A.fp) H' us old)(k:∀ b o,H b=some o->b≠A.ls->H' b=some o):Zw ca H' A { S with old:=old }/\FrS A H H':=by
 have f:FrS A H H':=.one (by simp[SAd.fp]) k;have kt:=h.tups f;have ko:∀ x o,x∉A.fp->H x=some o->H' x=some o:=fun x o hx e=>f x o e hx;obtain⟨⟨n1,n2,n3,n4,n5,n6⟩,⟨n7,n8,n9,n10,n11⟩,⟨n12,n13,n14,n15⟩,⟨n16,n17,n18⟩,⟨n19,n20⟩,n21⟩:=Kr h.nd;have np:=Mp h (show A.ls∈A.fp by simp[SAd.fp]);obtain⟨⟨dx,v,a1,a2⟩,b,c,⟨kvs,d1,d2⟩,⟨vs,f1,f2⟩,⟨us',g1,g2⟩,nd,np'⟩:=h;exact⟨⟨⟨dx,v,k _ _ a1 n5,a2.keep ko kt⟩,b.keep (fun o e=>k _ o e np.1) (fun o e=>k _ o e n10) kt,c.keep (fun o e=>k _ o e np.2) (fun o e=>k _ o e n14) (fun o e=>k _ o e n17) kt,⟨kvs,k _ _ d1 n19,d2⟩,⟨us,hd,ok⟩,⟨us',k _ _ g1 (Ne.symm n21),g2.keep ko kt⟩,nd,np'⟩,f⟩
theorem Zw.setLed(h:Zw ca H A S)(l:Uk ca.ledger H' A.pl A.lr A.ld Rs)(k:∀ b o,H b=some o->b≠A.lr->b≠A.ld->H' b=some o):Zw ca H' A { S with led:=Rs }/\FrS A H H':=by
 have f:FrS A H H':=fun b o e hb=>k b o e (fun z=>hb (by rw[z];simp[SAd.fp])) (fun z=>hb (by rw[z];simp[SAd.fp]));have kt:=h.tups f;have ko:∀ x o,x∉A.fp->H x=some o->H' x=some o:=fun x o hx e=>f x o e hx;obtain⟨⟨n1,n2,n3,n4,n5,n6⟩,⟨n7,n8,n9,n10,n11⟩,⟨n12,n13,n14,n15⟩,⟨n16,n17,n18⟩,⟨n19,n20⟩,n21⟩:=Kr h.nd;have np:=Mp h (show A.lr∈A.fp by simp[SAd.fp]);have np2:=Mp h (show A.ld∈A.fp by simp[SAd.fp]);obtain⟨⟨dx,v,a1,a2⟩,b,c,⟨kvs,d1,d2⟩,⟨vs,f1,f2⟩,⟨us',g1,g2⟩,nd,np'⟩:=h;exact⟨⟨⟨dx,v,k _ _ a1 n2 n3,a2.keep ko kt⟩,b.keep (fun o e=>k _ o e np.1 np2.1) (fun o e=>k _ o e n7 n8) kt,l,⟨kvs,k _ _ d1 (Ne.symm n13) (Ne.symm n16),d2⟩,⟨vs,k _ _ f1 (Ne.symm n14) (Ne.symm n17),f2.keep ko kt⟩,⟨us',k _ _ g1 (Ne.symm n15) (Ne.symm n18),g2.keep ko kt⟩,nd,np'⟩,f⟩
theorem Pz:putF "sheet" v' (seaF A l r v)=seaF A l r v':=by
 have n1:¬ (("length":Str)="sheet"):=by decide +kernel
 have n2:¬ (("rest":Str)="sheet"):=by decide +kernel
 have n3:¬ (("roster":Str)="sheet"):=by decide +kernel
 have n4:¬ (("ledger":Str)="sheet"):=by decide +kernel
 have n5:¬ (("absent":Str)="sheet"):=by decide +kernel
 have n6:¬ (("sheets":Str)="sheet"):=by decide +kernel
 simp only[putF,seaF,if_neg n1,if_neg n2,if_neg n3,if_neg n4,if_neg n5,if_neg n6,if_true]
theorem FrS.free(f:FrS A H H')(h:Zw ca H' A S')(hl:H' l=none):H l=none:=by
 cases e:H l with
 | none=>rfl
 | some o =>
   by_cases hm:l∈A.fp
   ·obtain⟨o',e'⟩:=h.there l hm;rw[e'] at hl;cases hl
   ·rw[f l o e hm] at hl;cases hl
theorem ShAt.ins(h:ShAt ca.sheet (·∉A.fp) H q s):∃ dx l1 l2 l3 l4,H q=some (.ins ca.sheet dx (shF l1 l2 l3 l4)):=by
 obtain⟨dx,l1,l2,l3,l4,_,_,_,a1,_⟩:=h;exact⟨dx,l1,l2,l3,l4,a1⟩
theorem Zw.newSheet(h:Zw ca H A S)(hp:H A.p=some (.ins ca.season dx (seaF A S.len S.rest v)))(sh:ShAt ca.sheet (·∉A.fp) H q s) :
  Zw ca (upd H A.p (.ins ca.season dx (putF "sheet" (.ref q) (seaF A S.len S.rest v)))) A { S with cur:=some s }/\FrS A H (upd H A.p (.ins ca.season dx (putF "sheet" (.ref q) (seaF A S.len S.rest v))))/\ShAt ca.sheet (·∉A.fp) (upd H A.p (.ins ca.season dx (putF "sheet" (.ref q) (seaF A S.len S.rest v)))) q s:=by
 have k:∀ b o,H b=some o->b≠A.p->upd H A.p (.ins ca.season dx (putF "sheet" (.ref q) (seaF A S.len S.rest v))) b=some o:=fun b o e n=>by rw[Zi n];exact e
 have sh':=sh.keep (H':=upd H A.p (.ins ca.season dx (putF "sheet" (.ref q) (seaF A S.len S.rest v)))) (fun x o hx e=>k x o e fun z=>hx (by rw[z];simp[SAd.fp])) (fun t xs e=>k t _ e (Ye e hp (fun z=>nomatch z)));obtain⟨h1,h2⟩:=h.setCur (cur:=some s) (v:=.ref q) ⟨dx,by rw[Zb];exact congrArg (fun x=>some (HO.ins ca.season dx x)) Pz⟩ ⟨q,rfl,sh'⟩ k;exact⟨h1,h2,sh'⟩
theorem Ie:putF "standing" (.ref x) (seaF A l r v)=seaF { A with lt:=x } l r v:=by
 have n1:¬ (("length":Str)="standing"):=by decide +kernel
 have n2:¬ (("rest":Str)="standing"):=by decide +kernel
 have n3:¬ (("roster":Str)="standing"):=by decide +kernel
 have n4:¬ (("ledger":Str)="standing"):=by decide +kernel
 have n5:¬ (("absent":Str)="standing"):=by decide +kernel
 have n6:¬ (("sheets":Str)="standing"):=by decide +kernel
 have n7:¬ (("sheet":Str)="standing"):=by decide +kernel
 simp only[putF,seaF,if_neg n1,if_neg n2,if_neg n3,if_neg n4,if_neg n5,if_neg n6,if_neg n7,if_true]
end
def T4(r q:Nat):Sea:=⟨r,q,[],[],[],[],none,[]⟩
inductive As(ca:CA)(vs:List V)(H:Hp)(Q:VK)(E:XK):Prop where
 | mk(p dx:Addr)(r q:Int)(_:vs=[.ref p,.int r,.int q])(_:H p=some (.ins ca.season dx []))(_:Z8 r)(_:Z8 q)(_:if r<0\/60<r then E (.ref ca.out) none H else if q<0\/10<q then E (.ref ca.out) none H else ∀ A H',A.p=p->Zw ca H' A (T4 r.toNat q.toNat)->(∀ b o,H b=some o->b≠p->H' b=some o)->(∀ x∈A.fp,x≠p->H x=none)->Q .non H')
inductive Au(ca:CA)(vs:List V)(H:Hp)(Q:VK)(E:XK):Prop where
 | mk(A:SAd)(S:Sea)(n g c:Int)(_:vs=[.ref A.p,.int n,.int g,.int c])(_:Zw ca H A S)(_:Km n g c)(_:S.std.length<=1000)(_:S.ppl.length<=1000)(_:if S.len<=S.led.length then E (.ref ca.seaOver) none H else if S.cur.isSome then E (.ref ca.drawn) none H else if badI n g c then E (.ref ca.out) none H else if n∈S.ppl.map (·.1) then E (.ref ca.known) none H else if 30<=S.ppl.length then E (.ref ca.many) none H else if 100<=S.std.length then E (.ref ca.manyD) none H else ∀ H',Zw ca H' A { S with ppl:=S.ppl++[(n,g,c)],std:=S.std++[(((("enrol":Str),n,atV S):Xs),S.cur)] }->FrS A H H'->Q .non H')
def zdf(S:Sea)(ms:List P3)(gv:List V):Sea:={ S with cur:=some ⟨ms,mayS S ms,gv,[]⟩,std:=S.std++[(((("draw up":Str),(ms.length:Int),atV S):Xs),S.cur)] }
inductive D8(K:Frag)(ca:CA)(vs:List V)(H:Hp)(Q:VK)(E:XK):Prop where
 | mk(A:SAd)(S:Sea)(b:Addr)(ts:List V)(ms:List P3)(_:vs=[.ref A.p,.ref b])(_:Zw ca H A S)(_:SqL K H b ts)(_:Zy H ts (ms.map pV))(_:(∀ m∈ms,Ri m))(_:ms.length<=1000)(_:S.std.length<=1000)(_:Qd S)(_:if S.len<=S.led.length then E (.ref ca.seaOver) none H else if S.cur.isSome then E (.ref ca.drawn) none H else (20<ms.length->E (.ref ca.manyM) none H)/\(ms.length<=20->Vn ms->E (.ref ca.out) none H)/\(ms.length<=20->¬ Vn ms->X4 ms->E (.ref ca.same) none H)/\(ms.length<=20->¬ Vn ms->¬ X4 ms->(100<=S.std.length->∀ H',Same H H'->E (.ref ca.manyD) none H')/\(S.std.length<100->∀ l gv H',H' l=some (.lst gv)->Zw ca H' A (zdf S ms gv)->Yw (mayS S ms) gv->V8 (mayS S ms) gv->FrS A H H'->H l=none->Q (.ref l) H')))
inductive D9(ca:CA)(vs:List V)(H:Hp)(Q:VK)(_:XK):Prop where
 | mk(A:SAd)(S:Sea)(n:Int)(s:Z9)(nu:List Int)(_:vs=[.ref A.p,.int n])(_:Zw ca H A S)(_:S.cur=some s)(_:Qd S)(_:s.ms.length<=20)(_:(∀ x∈s.gv,oneV x))(_:s.gv.length<=100)(_:s.gaps.length<=500)(_:Mm (mayS S s.ms) nu)(_:(X9 s.gv n=none->∀ l H',H' l=some (.lst [])->Zw ca H' A { S with cur:=some { s with may:=mayS S s.ms } }->FrS A H H'->H l=none->Q (.ref l) H'))(_:∀ p,X9 s.gv n=some p->s.gv[p]?=some (.int n)/\(∀ j:Nat,s.gv[j]?=some (.int n)->j=p)/\Yw (mayS S s.ms) (s.gv.set p .non)/\∀ l us st e w H',H' l=some (.lst us)->Zy H' us (st.map V4)->Y9 (mayS S s.ms) (s.gv.set p .non) p st e w->Zw ca H' A { S with cur:=some ⟨s.ms,mayS S s.ms,Yq st (s.gv.set p .non),s.gaps++[(n,st)]⟩ }->FrS A H H'->H l=none->Q (.ref l) H')
def Xe(S:Sea)(i n:Int):Sea:={ S with out:=S.out++[(i,n)],std:=S.std++[((("away":Str),n,i),S.cur)] }
inductive zdg(ca:CA)(vs:List V)(H:Hp)(Q:VK)(E:XK):Prop where
 | mk(A:SAd)(S:Sea)(i n:Int)(_:vs=[.ref A.p,.int i,.int n])(_:Zw ca H A S)(_:Z8 i)(_:Z8 n)(_:S.std.length<=1000)(_:S.out.length<=100000)(_:Qd S)(_:(∀ s,S.cur=some s->s.ms.length<=20/\Yw s.may s.gv/\s.may=mayS S s.ms/\s.gaps.length<=500))(_:if i<1\/(S.len:Int)<i then E (.ref ca.noRound) none H else if i<=S.led.length then E (.ref ca.over) none H else if n∈S.ppl.map (·.1) then (if (i,n)∈S.out then ∀ H',Same H H'->E (.ref ca.away) none H' else if 100<=S.std.length then ∀ H',Same H H'->E (.ref ca.manyD) none H' else (S.cur=none\/atV S<i->∀ l H',H' l=some (.lst [])->Zw ca H' A (Xe S i n)->FrS A H H'->H l=none->Q (.ref l) H')/\(∀ s,i=atV S->S.cur=some s->X9 s.gv n=none->∀ l H',H' l=some (.lst [])->Zw ca H' A { Xe S i n with cur:=some { s with may:=mayS (Xe S i n) s.ms } }->FrS A H H'->H l=none->Q (.ref l) H')/\(∀ s p,i=atV S->S.cur=some s->X9 s.gv n=some p->∀ l us st e w H',H' l=some (.lst us)->Zy H' us (st.map V4)->Y9 (mayS (Xe S i n) s.ms) (s.gv.set p .non) p st e w->Zw ca H' A { Xe S i n with cur:=some ⟨s.ms,mayS (Xe S i n) s.ms,Yq st (s.gv.set p .non),s.gaps++[(n,st)]⟩ }->FrS A H H'->H l=none->Q (.ref l) H')) else E (.ref ca.unk) none H)
theorem Qb.put(h:Qb kvs out)(i n:Int):Qb (putK kvs [inl i,inl n] (.bl true)) (out++[(i,n)]):=by
 refine⟨fun j m=>?_,?_⟩
 ·rw[Sr];by_cases e:j=i/\m=n
  ·rw[if_pos (Qv.mpr e),zsm (by rw[e.1,e.2];simp)];rfl
  ·rw[if_neg (fun z=>e (Qv.mp z)),h.1 j m];by_cases hm:(j,m)∈out
   ·rw[zsm hm,zsm (zs8 _ hm)]
   ·rw[zsr hm,zsr];intro z;rcases zsv.mp z with q|q
    ·exact hm q
    ·have:=zsl.mp q;exact e (by cases this;exact⟨rfl,rfl⟩)
 ·have:=X6 kvs ([inl i,inl n]:List Key) (.bl true);have:=h.2;rw[zsh];show _<=out.length+1;omega
theorem Qb.drop(h:Qb kvs (out++[(i,n)]))(hn:(i,n)∉out):Qb (Xn kvs [inl i,inl n]) out:=by
 have hv:∀ k:List Key,valV (Xn kvs [inl i,inl n]) k=if k=[inl i,inl n] then none else valV kvs k:=fun k=>by
  clear h
  induction kvs with
  | nil=>unfold Xn;simp[valV]
  | cons x kvs ih =>
    by_cases ex:x.1=[inl i,inl n]
    ·rw[zao ex,ih];by_cases e:k=[inl i,inl n]
     ·rw[if_pos e,if_pos e]
     ·rw[if_neg e,if_neg e,Yy (fun z=>e (z.symm.trans ex))]
    ·rw[zap ex];by_cases ek:x.1=k
     ·rw[Y2 ek,Y2 ek,if_neg (fun z=>ex (ek.trans z))]
     ·rw[Yy ek,Yy ek,ih]
 refine⟨fun j m=>?_,?_⟩
 ·rw[hv];by_cases e:j=i/\m=n
  ·rw[if_pos (Qv.mpr e),zsr (by rw[e.1,e.2];exact hn)];rfl
  ·rw[if_neg (fun z=>e (Qv.mp z)),h.1 j m];by_cases hm:(j,m)∈out
   ·rw[zsm hm,zsm (zs8 _ hm)]
   ·rw[zsr hm,zsr];intro z;rcases zsv.mp z with q|q
    ·exact hm q
    ·have:=zsl.mp q;exact e (by cases this;exact⟨rfl,rfl⟩)
 ·have h1:=h.1 i n;rw[zsm (show (i,n)∈out++[(i,n)] by simp)] at h1;have h2:=h.2;rw[zsh] at h2;have h2:kvs.length<=out.length+1:=h2;have h3:(Xn kvs [inl i,inl n]).length<kvs.length:=by
   unfold Xn;rw[List.length_filter_lt_length_iff_exists];obtain⟨v,hv'⟩:=zty.mp h1;unfold valV at hv';obtain⟨x,hx,_⟩:=Option.map_eq_some_iff.mp hv';refine⟨x,List.mem_of_find?_eq_some hx,?_⟩;have:=List.find?_some hx;intro z;exact of_decide_eq_true z (of_decide_eq_true this)
  omega
theorem P0(h:X9 gv n=some p):gv[p]?=some (.int n):=by
 unfold X9 at h;have h2:decide (gv[p]?=some (V.int n))=true:=List.find?_some (p:=fun i=>decide (gv[i]?=some (V.int n))) h;exact of_decide_eq_true h2
theorem U8:mayS (Xe S (atV S) n) ms=without (mayS S ms) n:=by
 unfold mayS without;rw[zt7];refine List.map_congr_left fun m _=>?_;show F9 (Xe S (atV S) n) m=(F9 S m).filter fun x=>decide (x≠n);unfold F9;rw[List.filter_map,List.filter_filter]
 congr 1
 refine List.filter_congr fun x _=>?_;show (Fy S.led x.1 x.2.1 x.2.2 m.1 m.2.1 m.2.2 (pIn (S.out++[(atV S,n)]) (atV S) x) S.rest).isEmpty=(decide (x.1≠n)&&(Fy S.led x.1 x.2.1 x.2.2 m.1 m.2.1 m.2.2 (pIn S.out (atV S) x) S.rest).isEmpty);unfold pIn;by_cases e:x.1=n
 ·have h1:decide ((atV S,x.1)∈S.out++[(atV S,n)])=true:=zsm (by rw[e];simp);rw[h1,zsr (fun z=>z e),Bool.false_and];unfold Fy bw;simp
 ·have h1:decide ((atV S,x.1)∈S.out++[(atV S,n)])=decide ((atV S,x.1)∈S.out):=by
   by_cases hm:(atV S,x.1)∈S.out
   ·rw[zsm hm,zsm (zs8 _ hm)]
   ·rw[zsr hm,zsr];intro z;rcases zsv.mp z with q|q
    ·exact hm q
    ·have:=zsl.mp q;cases this;exact e rfl
  rw[h1,zsm e,Bool.true_and]
def Ea(S:Sea)(s:Z9):Sea:={ S with led:=S.led++[Wd s],old:=S.old++[s],cur:=none,std:=[] }
inductive Av(ca:CA)(vs:List V)(H:Hp)(Q:VK)(E:XK):Prop where
 | mk(A:SAd)(S:Sea)(_:vs=[.ref A.p])(_:Zw ca H A S)(_:2*(tot S.led+1000)<=100000)(_:S.led.length<=1000)(_:S.old.length<=1000)(_:(∀ s,S.cur=some s->(∀ x∈s.gv,oneV x)/\s.gv.length=s.ms.length/\s.ms.length<=1000))(_:if S.len<=S.led.length then E (.ref ca.seaOver) none H else (S.cur=none->E (.ref ca.notDrawn) none H)/\∀ s x H',S.cur=some s->Zw ca H' { A with lt:=x } (Ea S s)->FrS A H H'->H x=none->Q (.int (atV S)) H')
theorem Zw.freshStd(h:Zw ca H A S)(hx:H x=none)(hp:H A.p=some (.ins ca.season dx (seaF A S.len S.rest v)))(hv:ShO ca.sheet (·∉A.fp) H v S.cur)
  (e:H'=upd (upd H x (.lst [])) A.p (.ins ca.season dx (putF "standing" (.ref x) (seaF A S.len S.rest v)))):Zw ca H' { A with lt:=x } { S with std:=[] }/\FrS A H H':=by
 have hpx:A.p≠x:=Zh hp hx;have k:∀ b o,H b=some o->b≠A.p->H' b=some o:=fun b o q n=>by rw[e,Zi n,Zi (Zh q hx)];exact q
 have f:FrS A H H':=.one (by simp[SAd.fp]) k;have kt:=h.tups f;have hnx:∀ y,(∃ o,H y=some o)->y≠x:=fun y ⟨o,q⟩=>Zh q hx;have okk:∀ y,(∃ o,H' y=some o)->y∉A.fp->(∃ o,H y=some o)->y∉({ A with lt:=x }:SAd).fp:=fun y _ hy hH hm=>by
  simp only[SAd.fp,zsk,zth,or_false] at hm hy;rcases hm with q|q|q|q|q|q|q
  ·exact hy (.inl q)
  ·exact hy (.inr (.inl q))
  ·exact hy (.inr (.inr (.inl q)))
  ·exact hy (.inr (.inr (.inr (.inl q))))
  ·exact hy (.inr (.inr (.inr (.inr (.inl q)))))
  ·exact hy (.inr (.inr (.inr (.inr (.inr (.inl q))))))
  ·exact hnx y hH q
 have ok2:∀ y,(∃ o,H y=some o)->y∉A.fp->y∉({ A with lt:=x }:SAd).fp:=fun y hH hy hm=>by
  simp only[SAd.fp,zsk,zth,or_false] at hm hy;rcases hm with q|q|q|q|q|q|q
  ·exact hy (.inl q)
  ·exact hy (.inr (.inl q))
  ·exact hy (.inr (.inr (.inl q)))
  ·exact hy (.inr (.inr (.inr (.inl q))))
  ·exact hy (.inr (.inr (.inr (.inr (.inl q)))))
  ·exact hy (.inr (.inr (.inr (.inr (.inr (.inl q))))))
  ·exact hnx y hH q
 have ko:∀ y o,y∉({ A with lt:=x }:SAd).fp->H y=some o->H' y=some o:=fun y o hy q=>k y o q fun z=>hy (by rw[z];simp[SAd.fp]);have there:=h.there;obtain⟨⟨n1,n2,n3,n4,n5,n6⟩,⟨n7,n8,n9,n10,n11⟩,⟨n12,n13,n14,n15⟩,⟨n16,n17,n18⟩,⟨n19,n20⟩,n21⟩:=Kr h.nd;have np:=Mp h (show A.p∈A.fp by simp[SAd.fp]);have npp:=h.np;obtain⟨⟨dx',v',a1,a2⟩,b,c,⟨kvs',d1,d2⟩,⟨vs,f1,f2⟩,⟨us,g1,g2⟩,nd,np'⟩:=h;have hpr:∃ o,H A.pr=some o:=by obtain⟨⟨_,_,q,_⟩,_⟩:=b;exact⟨_,q⟩
 have hpl:∃ o,H A.pl=some o:=by obtain⟨⟨_,q⟩,_⟩:=c;exact⟨_,q⟩
 refine⟨⟨⟨dx,v,?_,(hv.imp ok2).keep ko kt⟩,b.keep (fun o q=>k _ o q np.1) (fun o q=>k _ o q (Ne.symm n1)) kt,c.keep (fun o q=>k _ o q np.2) (fun o q=>k _ o q (Ne.symm n2)) (fun o q=>k _ o q (Ne.symm n3)) kt,⟨kvs',k _ _ d1 (Ne.symm n4),d2⟩,⟨vs,k _ _ f1 (Ne.symm n5),(f2.imp ok2).keep ko kt⟩,⟨[],?_,?_⟩,?_,⟨ok2 _ hpr npp.1,ok2 _ hpl npp.2⟩⟩,f⟩
 ·rw[e,Zb];exact congrArg (fun z=>some (HO.ins ca.season dx z)) Ie
 ·show H' x=some (.lst []);rw[e,Zi (Ne.symm hpx),Zb]
 ·exact .nil
 ·show [A.p,A.dr,A.lr,A.ld,A.da,A.ls,x].Nodup;have m:∀ y∈A.fp,y≠x:=fun y hy=>hnx y (there y hy);simp only[zs6,zsk,zth,or_false,not_or];exact⟨⟨n1,n2,n3,n4,n5,m _ (by simp[SAd.fp])⟩,⟨n7,n8,n9,n10,m _ (by simp[SAd.fp])⟩,⟨n12,n13,n14,m _ (by simp[SAd.fp])⟩,⟨n16,n17,m _ (by simp[SAd.fp])⟩,⟨n19,m _ (by simp[SAd.fp])⟩,m _ (by simp[SAd.fp]),by simp,List.nodup_nil⟩
def zdh(S:Sea)(d:Xs)(ppl:RL)(out:List (Int×Int)):Prop:=(d.1="enrol"/\(∃ g c,S.ppl=ppl++[(d.2.1,g,c)])/\out=S.out)\/(d.1="away"/\ppl=S.ppl/\S.out=out++[(d.2.2,d.2.1)]/\(d.2.2,d.2.1)∉out)\/(d.1="draw up"/\ppl=S.ppl/\out=S.out)
inductive Ks(ca:CA)(vs:List V)(H:Hp)(Q:VK)(E:XK):Prop where
 | mk(A:SAd)(S:Sea)(_:vs=[.ref A.p])(_:Zw ca H A S)(_:(S.std=[]->E (.ref ca.nothing) none H))(_:∀ std d s,S.std=std++[(d,s)]->∃ ppl out,zdh S d ppl out/\∀ t H',H' t=some (.tup (Xb d))->Zw ca H' A { S with ppl:=ppl,out:=out,cur:=s,std:=std }->FrS A H H'->Q (.ref t) H')
inductive Aw(ca:CA)(vs:List V)(H:Hp)(Q:VK)(_:XK):Prop where
 | mk(A:SAd)(S:Sea)(_:vs=[.ref A.p])(_:Zw ca H A S)(_:S.std.length<=1000)(_:∀ l ts H',H' l=some (.lst ts)->Zy H' ts (S.std.map fun x=>Xb x.1)->Same H H'->H l=none->Q (.ref l) H')
inductive Kt(ca:CA)(vs:List V)(H:Hp)(Q:VK)(_:XK):Prop where
 | mk(A:SAd)(S:Sea)(_:vs=[.ref A.p])(_:Zw ca H A S)(_:∀ l H',H' l=some (.lst (S.ppl.map fun x=>V.int x.1))->Same H H'->H l=none->Q (.ref l) H')
def zez(ca:CA)(H:Hp)(S:Sea)(i:Int)(E:XK)(k:Z9->Prop):Prop:=Z8 i/\S.old.length=S.led.length/\if i<1\/(S.len:Int)<i then E (.ref ca.noRound) none H else (U1 S i=none->E (.ref ca.notDrawn) none H)/\∀ s,U1 S i=some s->k s
inductive zg6(ca:CA)(vs:List V)(H:Hp)(Q:VK)(E:XK):Prop where
 | mk(A:SAd)(S:Sea)(i:Int)(_:vs=[.ref A.p,.int i])(_:Zw ca H A S)(_:zez ca H S i E fun s=>∀ l H',H' l=some (.lst s.gv)->Same H H'->H l=none->Q (.ref l) H')
theorem U9(ks:List Str):∀ {fs:List (Str×V)},fs.map (·.1)=ks->(ks.all fun x=>!decide (x=f))=true->putF f v fs=fs++[(f,v)]:=by
 intro fs hk h;subst hk
 induction fs with
 | nil=>rfl
 | cons x fs ih =>
   rw[zst,List.all_cons,zua,Bool.not_eq_true',decide_eq_false_iff_not] at h;obtain⟨k,y⟩:=x;show (if k=f then _ else _)=_;rw[if_neg h.1,ih h.2];rfl
def sF1(l:V):List (Str×V):=[("length",l)]
def sF2(l r:V):List (Str×V):=[("length",l),("rest",r)]
def sF3(l r a:V):List (Str×V):=[("length",l),("rest",r),("roster",a)]
def sF4(l r a b:V):List (Str×V):=[("length",l),("rest",r),("roster",a),("ledger",b)]
def sF5(l r a b c:V):List (Str×V):=[("length",l),("rest",r),("roster",a),("ledger",b),("absent",c)]
def sF6(l r a b c d:V):List (Str×V):=[("length",l),("rest",r),("roster",a),("ledger",b),("absent",c),("sheets",d)]
def sF7(l r a b c d e:V):List (Str×V):=[("length",l),("rest",r),("roster",a),("ledger",b),("absent",c),("sheets",d),("sheet",e)]
def sF8(l r a b c d e f:V):List (Str×V):=[("length",l),("rest",r),("roster",a),("ledger",b),("absent",c),("sheets",d),("sheet",e),("standing",f)]
theorem pF1:putF "length" l []=sF1 l:=rfl
theorem pF2:putF "rest" r (sF1 l)=sF2 l r:=U9 ["length"] rfl ⋯
theorem pF3:putF "roster" a (sF2 l r)=sF3 l r a:=U9 ["length","rest"] rfl ⋯
theorem pF4:putF "ledger" b (sF3 l r a)=sF4 l r a b:=U9 ["length","rest","roster"] rfl ⋯
theorem pF5:putF "absent" c (sF4 l r a b)=sF5 l r a b c:=U9 ["length","rest","roster","ledger"] rfl ⋯
theorem pF6:putF "sheets" d (sF5 l r a b c)=sF6 l r a b c d:=U9 ["length","rest","roster","ledger","absent"] rfl ⋯
theorem pF7:putF "sheet" e (sF6 l r a b c d)=sF7 l r a b c d e:=U9 ["length","rest","roster","ledger","absent","sheets"] rfl ⋯
theorem pF8:putF "standing" f (sF7 l r a b c d e)=sF8 l r a b c d e f:=U9 ["length","rest","roster","ledger","absent","sheets","sheet"] rfl ⋯
theorem Vo.free{p:Addr}{H H':Hp}{x:Addr}(hb:∀ b o,H b=some o->b≠p->H' b=some o)(hp:∃ o,H' p=some o)(hx:H' x=none):H x=none:=by
 cases e:H x with
 | none=>rfl
 | some o =>
   by_cases z:x=p
   ·subst z;obtain⟨o',q⟩:=hp;rw[q] at hx;cases hx
   ·rw[hb x o e z] at hx;cases hx
def Vo(p:Addr)(H H':Hp):Prop:=∀ b o,H b=some o->b≠p->H' b=some o
theorem Vo.trans(a:Vo p H1 H2)(b:Vo p H2 H3):Vo p H1 H3:=fun x o e n=>b x o (a x o e n) n
theorem Vo.of(a:Same H1 H2):Vo p H1 H2:=fun x o e _=>a x o e
theorem Vo.put:Vo p H (upd H p o):=fun x o e n=>by rw[Zi n];exact e
end G
namespace G
open PySem PySem.Spec PyProof.Rows L2
structure zg7(H:Hp)(t lc ln:Addr)(cs nu:List Int):Prop where
 tup:H t=some (.tup [.ref lc,.ref ln])
 clubs:H lc=some (.lst (cs.map V.int))
 nums:H ln=some (.lst (nu.map V.int))
 few:3<=cs.length/\cs.length<=10
 cnd:cs.Nodup
 crng:∀ c∈cs,1<=c/\c<=99
 nfew:1<=nu.length/\nu.length<=30
 nnd:nu.Nodup
 nrng:∀ n∈nu,1<=n/\n<=999
theorem Ca(c:Int)(hi:i<10)(hj:j<10)(h:Gj c i=Gj c j):i=j:=by
 unfold Gj at h;have hs:Fu c=1\/Fu c=2\/Fu c=5\/Fu c=10\/Fu c=50\/Fu c=97\/Fu c=98:=by
  unfold Fu;have h0:0<=c%7:=by omega
  have h1:c%7<7:=by omega
  generalize c%7=r at h0 h1;obtain⟨k,rfl⟩:∃ k:Nat,r=k:=⟨r.toNat,by omega⟩;rw[zs7];have hk:k<7:=by omega
  match k,hk with
  | 0,_=>simp
  | 1,_=>simp
  | 2,_=>simp
  | 3,_=>simp
  | 4,_=>simp
  | 5,_=>simp
  | 6,_=>simp
 generalize c/7=x at h;rcases hs with e|e|e|e|e|e|e<;>rw[e] at h<;>omega
theorem Cb(c:Int)(hm:m<=10):(Rf c m).Nodup:=by
 unfold Rf;rw[ztg,List.pairwise_map];refine List.Pairwise.imp_of_mem (fun {i j} hi hj (hne:i≠j) z=>?_) (ztg.mp List.nodup_range);exact hne (Ca c (by have:=zti.mp hi;omega) (by have:=zti.mp hj;omega) z)
theorem za7(c:Int)(m:Nat):∀ n∈Rf c m,1<=n/\n<=99:=fun n hn=>by
 unfold Rf at hn;obtain⟨j,_,rfl⟩:=zsq.mp hn;unfold Gj;omega
theorem Cc(c:Int)(hm:m<=40):(Oq c m).Nodup:=by
 unfold Oq;rw[ztg,List.pairwise_map];refine List.Pairwise.imp_of_mem (fun {i j} hi hj (hne:i≠j) z=>?_) (ztg.mp List.nodup_range);exact hne (zcx c (by have:=zti.mp hi;omega) (by have:=zti.mp hj;omega) z)
theorem za8(c:Int)(m:Nat):∀ n∈Oq c m,1<=n/\n<=999:=fun n hn=>by
 unfold Oq at hn;obtain⟨j,_,rfl⟩:=zsq.mp hn;unfold zat;omega
inductive Yg where
 | enrol (n g c:Int)|away (i n:Int)|draw (ms:List P3)|close|back
def Z3(ok:Addr->Prop)(H:Hp)(t:Addr):Yg->Prop
 | .enrol n g c=>H t=some (.tup [.str "enrol",.int n,.int g,.int c])
 | .away i n=>H t=some (.tup [.str "away",.int i,.int n])
 | .draw ms=>∃ l ts,H t=some (.tup [.str "draw up",.ref l])/\H l=some (.lst ts)/\Zy H ts (ms.map pV)/\ok l
 | .close=>H t=some (.tup [.str "close"])
 | .back=>H t=some (.tup [.str "take back"])
def zdi(S:Sea):Prop:=∀ s,S.cur=some s->s.ms.length<=20/\Yw s.may s.gv/\V8 s.may s.gv/\s.may=mayS S s.ms/\s.gaps.length<=S.std.length
def Qe(S S':Sea):Prop:=∃ d:Xs,S'.std=S.std++[(d,S.cur)]/\zdh S' d S.ppl S.out/\S'.len=S.len/\S'.rest=S.rest/\S'.led=S.led/\S'.old=S.old
def Mq(S:Sea):Yg->Prop
 | .enrol n g c=>S.led.length<S.len/\S.cur=none/\¬ badI n g c/\n∉S.ppl.map (·.1)/\S.ppl.length<30
 | .away i n=>(S.led.length:Int)<i/\i<=S.len/\n∈S.ppl.map (·.1)/\(i,n)∉S.out
 | .draw ms=>S.led.length<S.len/\S.cur=none/\ms.length<=20/\(∀ m∈ms,¬ badM m)/\∀ m∈ms,m.1≠m.2.1
 | .close=>S.led.length<S.len/\S.cur≠none
 | .back=>S.std≠[]
inductive X5(H':Hp)(S:Sea):Yg->Sea->V->Prop where
 | enrol (n g c:Int):X5 H' S (.enrol n g c) { S with ppl:=S.ppl++[(n,g,c)],std:=S.std++[(((("enrol":Str),n,atV S):Xs),S.cur)] } .non
 | awayN {i n:Int} {l:Addr} (h:S.cur=none\/atV S<i) (hl:H' l=some (.lst [])):X5 H' S (.away i n) (Xe S i n) (.ref l)
 | awayF {n:Int} {s:Z9} {l:Addr} (h:S.cur=some s) (hp:X9 s.gv n=none) (hl:H' l=some (.lst [])):X5 H' S (.away (atV S) n) { Xe S (atV S) n with cur:=some { s with may:=mayS (Xe S (atV S) n) s.ms } } (.ref l)
 | awayC {n:Int} {s:Z9} {p e:Nat} {l:Addr} {us:List V} {st:List (Nat×Option Int)} {w:Option Int} (h:S.cur=some s) (hp:X9 s.gv n=some p) (hl:H' l=some (.lst us)) (tl:Zy H' us (st.map V4)) (CR:Y9 (mayS (Xe S (atV S) n) s.ms) (s.gv.set p .non) p st e w) :
   X5 H' S (.away (atV S) n) { Xe S (atV S) n with cur:=some ⟨s.ms,mayS (Xe S (atV S) n) s.ms,Yq st (s.gv.set p .non),s.gaps++[(n,st)]⟩ } (.ref l)
 | draw {ms:List P3} {gv:List V} {l:Addr} (hl:H' l=some (.lst gv)) (F:Yw (mayS S ms) gv) (T:V8 (mayS S ms) gv):X5 H' S (.draw ms) (zdf S ms gv) (.ref l)
 | close {s:Z9} (h:S.cur=some s):X5 H' S .close (Ea S s) (.int (atV S))
 | back {S0:Sea} {d:Xs} {t:Addr} (h:S.std=S0.std++[(d,S0.cur)]) (ht:H' t=some (.tup (Xb d))) (hs:Qe S0 S):X5 H' S .back S0 (.ref t)
def Pe(A A':SAd)(H:Hp):Prop:=∃ x,A'={ A with lt:=x }/\(x=A.lt\/H x=none)
abbrev Ta(b:List Stmt)(i:Nat):Stmt:=b.getD i (.Pass ⟨0,0,0,0⟩)
def stP:Stmt->Pos|.Return _ p=>p|.Assign _ _ p=>p|_=>⟨0,0,0,0⟩
def zg8:Stmt->List Expr|.Assign ts _ _=>ts|_=>[]
def Ih:Stmt->Expr|.Assign _ v _=>v|_=>.Constant .none 0 ⟨0,0,0,0⟩
def ze0:Expr->Expr|.Subscript a _ _=>a|e=>e
def ziw:Expr->Expr|.Subscript _ b _=>b|e=>e
def zix:Expr->Pos|.Subscript _ _ p=>p|_=>⟨0,0,0,0⟩
def zg9:Expr->List Expr|.List es _=>es|_=>[]
def zha:Expr->Pos|.List _ p=>p|_=>⟨0,0,0,0⟩
def Cd:List Int->TA
 | []=>tNil
 | x :: xs=>Tv (tC (.int x)) (Cd xs)
theorem G0:∀ (xs:List Int) (σ:L2.St) (H:Hp) (Q:List V->Hp->Prop),Q (xs.map V.int) H->Cd xs σ H Q
 | [],_,_,_,h=>h
 | x :: xs,σ,H,Q,h=>G0 xs σ H (fun ys H2=>Q (.int x :: ys) H2) h
structure Ax(es:List Expr)(xs:List Int):Prop where
 len:es.length=xs.length
 same:List.zipWith (fun i (e:Expr)=>Expr.Constant (.int i) 0 e.pos) xs es=es
theorem Eb(xs:List Int)(h:Ax es xs):PA X es (Cd xs):=by
 obtain⟨h1,h2⟩:=h
 induction xs generalizing es with
 | nil =>
   have:=List.length_eq_zero_iff.mp h1;subst this;exact Zd
 | cons x xs ih =>
   cases es with
   | nil=>cases h1
   | cons e es =>
     rw[List.zipWith_cons_cons] at h2;obtain⟨e1,e2⟩:=List.cons.inj h2;rw[<- e1];exact Za Zg (ih (Nat.succ.inj h1) e2) rfl
theorem zdj(xs:List Int)(hz:xs.length<=1000)(h:∀ l,H l=none->Q (.ref l) (upd H l (.lst (xs.map V.int)))):tLst (Cd xs) σ H Q:=by
 refine G0 xs σ H _ ⟨?_,h⟩;rw[zsg];exact szN hz
theorem zdk(xs:List Int)(hz:xs.length<=1000)(h:∀ l H1,H1 l=some (.lst (xs.map V.int))->Same H H1->H l=none->u D (σ.set i (some (.ref l))) H1):Z0 (Cy (tLst (Cd xs)) (Ve i)) u D σ H :=
 zdj (σ:=σ) (H:=H) (Q:=fun x H3=>u D (σ.set i (some x)) H3) xs hz fun l hl=>h l _ Zb (Ze hl) hl
theorem strT:decide (V.str a=V.str a)=true:=zsm rfl
theorem V0(h:decide (a=b)=false):decide (V.str a=V.str b)=false:=zsr fun z=>of_decide_eq_false h (V.str.inj z)
theorem Pe.refl(A:SAd)(H:Hp):Pe A A H:=⟨A.lt,rfl,.inl rfl⟩
abbrev ziy:=List (Int×List (Nat×Option Int))
structure Pg where
 len:Nat
 rest:Nat
 ppl:RL
 out:List (Int×Int)
 over:List Z9
 deed:Option Xs
 lis:Option (List P3)
 gv:List V
 mv:ziy
def pgF(len rest:Nat)(lp lo lv:Addr)(dv li:V)(lg lm:Addr):List (Key×V):=[(.inr "rounds",.int len),(.inr "rest",.int rest),(.inr "people",.ref lp),(.inr "out",.ref lo),(.inr "over",.ref lv),(.inr "deed",dv),(.inr "listed",li),(.inr "goes",.ref lg),(.inr "moves",.ref lm)]
def oiV(x:Int×Int):List V:=[.int x.1,.int x.2]
def zhb(ok:Addr->Prop)(H:Hp)(v:V):Option (List P3)->Prop
 | none=>v=.non
 | some ms=>∃ l ts,v=.ref l/\H l=some (.lst ts)/\Zy H ts (ms.map pV)/\ok l
def zfk(H:Hp)(v:V):Option Xs->Prop
 | none=>v=.non
 | some d=>∃ t,v=.ref t/\H t=some (.tup (Xb d))
inductive Ce(ok:Addr->Prop)(H:Hp):List V->List Z9->Prop where
 | nil:Ce ok H [] []
 | cons {t l g m y:Addr} {ts mts:List V} {ls:List Addr} {s:Z9} {vs:List V} {ss:List Z9} (h:H t=some (.tup [.ref l,.ref g,.ref m,.ref y])) (hl:H l=some (.lst ts)) (tl:Zy H ts (s.ms.map pV)) (hg:H g=some (.lst s.gv)) (hm:H m=some (.lst mts)) (gm:W7 ok H mts s.gaps)
   (hy:H y=some (.lst (ls.map V.ref))) (iy:ILs H ls s.may) (o:ok l/\ok g/\ok m/\ok y/\∀ x∈ls,ok x) (r:Ce ok H vs ss):Ce ok H (.ref t :: vs) (s :: ss)
structure zdl(ok:Addr->Prop)(H:Hp)(d:Addr)(P:Pg):Prop where
 ex:∃ lp lo lv dv li lg lm pts ots vts mts,H d=some (.dK (pgF P.len P.rest lp lo lv dv li lg lm))/\H lp=some (.lst pts)/\Zy H pts (P.ppl.map pV)/\H lo=some (.lst ots)/\Zy H ots (P.out.map oiV)/\H lv=some (.lst vts)/\Ce ok H vts P.over/\zfk H dv P.deed/\zhb ok H li P.lis/\H lg=some (.lst P.gv)/\H lm=some (.lst mts)/\W7 ok H mts P.mv /\
  (ok d/\ok lp/\ok lo/\ok lv/\ok lg/\ok lm)
theorem Sw{α:Type}{l:List α}{j:Nat}{x:α}(h:l[j]?=some x):l.take (j+1)=l.take j++[x]:=by rw[zto,h];rfl
end G
namespace L2
open PySem PySem.Spec PyProof.Rows G
def Xq(x:Int×Int):Dt:=.tup [.int x.1,.int x.2]
theorem Ku{K:Frag}{H:Hp}:∀ {ts:List V} {ps:List (Int×Int)},Zy H ts (ps.map oiV)->X3 K H ts (ps.map Xq)
 | _,[],h=>by cases h;exact .nil
 | _,p :: ps,h=>by
   rw[zst] at h;cases h with
   | cons e r=>exact .cons (.tup (SqT.of e) (.cons (.int _) (.cons (.int _) .nil))) (Ku r)
theorem Q0:∀ ps:List (Int×Int),PyData.canLayAll0 (Xa (ps.map Xq))=true
 | []=>rfl
 | p :: ps=>by
   rw[zst,Xa,PyData.canLayAll0,Q0 ps];rfl
theorem Nu:∀ ps:List (Int×Int),((Xa (ps.map Xq)).any fun y=>PyData.eqv y (toPy (Xq (a,b))))=decide ((a,b)∈ps)
 | []=>by simp[Xa]
 | p :: ps=>by
   rw[zst,Xa,zt9,Nu ps,Kd];obtain⟨p1,p2⟩:=p;have e:eqD (Xq (p1,p2)) (Xq (a,b))=decide ((a,b)=(p1,p2)):=by
    rw[Xq,Xq,eqD,Oo,Oo,Oo,eqD,eqD];by_cases h1:p1=a
    ·by_cases h2:p2=b
     ·subst h1;subst h2;simp
     ·rw[zsr (fun z=>h2 (Prod.mk.inj z).2.symm)];simp[h2]
    ·rw[zsr (fun z=>h1 (Prod.mk.inj z).1.symm)];simp[h1]
   rw[e,<- Bool.decide_or];exact decide_eq_decide.mpr zsk.symm
inductive ziz(K:Frag)(neg:Bool)(x:V)(y:V)(H:Hp)(Q:VK):Prop where
 | mk(t p:Addr)(ts:List V)(a b:Int)(ps:List (Int×Int))(_:x=.ref t)(_:y=.ref p)(_:SqT K H t [.int a,.int b])(_:SqL K H p ts)(_:Zy H ts (ps.map oiV))(_:Q (.bl (if neg then !decide ((a,b)∈ps) else decide ((a,b)∈ps))) H)
section
variable{X:Cx}{K:Frag}
theorem Cf(hu:X.A.units+64<cLine):OpR X (compareOp .In) (ziz X.K false):=by
 intro pins s σ H x y v u Q I rx ry h;obtain⟨t,p,ts,a,b,ps,rfl,rfl,ht,hp,tl,q⟩:=h;obtain⟨as,r1⟩:=Is.reads I (Is.tup ht (.cons (.int a) (.cons (.int b) .nil)):Is X.K H (.ref t) (Xq (a,b))) rx;have r1:Reads s.heap v (toPy (Xq (a,b))) as:=r1;obtain⟨bs,r2⟩:=Is.reads I (Is.lst hp (Ku tl)) ry;rw[toPy] at r2;have hd:(toPy (Xq (a,b))).depth=1:=rfl;refine SeqAt.in_list_reads r2 r1 (Q0 ps) rfl ?_ ?_
 ·have:=Nat.min_le_right (PyData.depthAll (Xa (ps.map Xq))) (toPy (Xq (a,b))).depth;rw[hd] at this ⊢;omega
 ·rw[Nu];exact⟨.bl _,H,I,rfl,q⟩
theorem Ec(hK:X.K=K)(hu:X.A.units+64<cLine):OpR X (compareOp .In) (ziz K false):=hK▸Cf hu
end
end L2
namespace G
open PySem PySem.Spec PyProof.Rows L2
theorem Ay(r:List Str)(ok:∀ w∈r,PyData.strOk w=true):shD (.lst (r.map Dt.str)):=by
 have h:PyData.canLayAll0 (Xa (r.map Dt.str))=true/\PyData.depthAll (Xa (r.map Dt.str))<=1:=by
  induction r with
  | nil=>exact⟨rfl,by decide⟩
  | cons x r ih =>
    obtain⟨h1,h2⟩:=ih fun w hw=>ok w (zsw _ hw);have h0:=ok x (zsz);refine⟨?_,?_⟩
    ·rw[zst,Xa,PyData.canLayAll0,h1];simp[toPy,PyData.canLay0,h0]
    ·rw[zst,Xa,PyData.depthAll];have:PyData.depth (toPy (Dt.str x))<=1:=by simp[toPy,PyData.depth]
     omega
 unfold shD SeqAt.shaped;rw[toPy,PyData.canLay0,h.1,Bool.true_and];refine zsm ?_;rw[PyData.depth];have:=h.2;omega
theorem P1{K:Frag}{H:Hp}:∀ ws:List Str,X3 K H (ws.map V.str) (ws.map Dt.str)
 | []=>.nil
 | w :: ws=>.cons (.str w) (P1 ws)
structure PgB(ok:Addr->Prop)(H:Hp)(P:Pg)(lp lo lv:Addr)(dv li:V)(lg lm:Addr):Prop where
 pp:∃ pts,H lp=some (.lst pts)/\Zy H pts (P.ppl.map pV)/\ok lp
 oo:∃ ots,H lo=some (.lst ots)/\Zy H ots (P.out.map oiV)/\ok lo
 vv:∃ vts,H lv=some (.lst vts)/\Ce ok H vts P.over/\ok lv
 dd:zfk H dv P.deed
 li:zhb ok H li P.lis
 gg:H lg=some (.lst P.gv)/\ok lg
 mm:∃ mts,H lm=some (.lst mts)/\W7 ok H mts P.mv/\ok lm
def Nv(ms:List P3):Prop:=(∀ m∈ms,¬ badM m)/\∀ m∈ms,m.1≠m.2.1
inductive Mr(K:Frag)(vs:List V)(H:Hp)(Q:VK)(_:XK):Prop where
 | mk(b:Addr)(ns:List Int)(cell:Int)(most mixed:Nat)(_:vs=[.int cell,.ref b,.int most,.int mixed])(_:H b=some (.lst (ns.map V.int)))(_:2<=ns.length)(_:ns.length<=100)(_:ns.Nodup)(_:(∀ n∈ns,1<=n/\n<=99))(_:most<=20)(_:mixed<=1)(_:∀ l ts ms H',H' l=some (.lst ts)->Zy H' ts (ms.map pV)->ms.length<=most->Nv ms->Same H H'->H l=none->Q (.ref l) H')
theorem zdm{h y n:Int}(h0:0<=h)(h1:h<n)(y0:1<=y)(y1:y<=n-1):0<=(h+y)%n/\(h+y)%n<n/\(h+y)%n≠h:=by
 have hn:0<n:=by omega
 refine⟨ztx _ ⋯,ztp _ hn,?_⟩;by_cases c:h+y<n
 ·rw[Int.emod_eq_of_lt ⋯ c];omega
 ·have e:(h+y)%n=h+y-n:=by
   rw[<- Int.sub_emod_right,Int.emod_eq_of_lt ⋯ ⋯]
  omega
theorem at2(x y:Int){k:Nat}(h:k<=1):∃ z,atI [V.int x,V.int y] (k:Int)=some (.int z):=by
 match k,h with
 | 0,_=>exact⟨x,rfl⟩
 | 1,_=>exact⟨y,rfl⟩
def Ed:List Int:=[1,2,3,4,5,6,7,8,9,1,1,1,1,2,2,3,3,4]
theorem Bq:∀ k,k<18->1<=Ed.getD k 0/\Ed.getD k 0<=9:=by decide
theorem Lr{ns:List Int}{i:Nat}(hi:i<ns.length):ns.getD i 0=ns[i]:=by
 rw[zta,zsi hi];rfl
theorem Cg{ns:List Int}(nd:ns.Nodup){i j:Nat}(hi:i<ns.length)(hj:j<ns.length)(h:ns.getD i 0=ns.getD j 0):i=j:=by
 rw[Lr hi,Lr hj] at h;exact(List.getElem_inj nd).mp h
theorem Q3{ns:List Int}{i:Nat}(hi:i<ns.length):ns.getD i 0∈ns:=by
 rw[Lr hi];exact ztm hi
def zfl(mb:Bool)(s:Z9):Z9:=if mb then s else { s with gaps:=[] }
structure zhc(mb:Bool)(P:Pg)(S:Sea):Prop where
 len:P.len=S.len
 rest:P.rest=S.rest
 ppl:P.ppl=S.ppl
 out:P.out=S.out
 over:P.over.map (zfl mb)=S.old.map (zfl mb)
 lis:P.lis=S.cur.map (·.ms)
def zi0(S:Sea):ziy:=match S.cur with|some s=>s.gaps|none=>[]
structure Rel(mb:Bool)(P:Pg)(S:Sea):Prop where
 b:zhc mb P S
 gv:∀ s,S.cur=some s->P.gv=s.gv
 mv:mb=true->P.mv=zi0 S
structure SOk(nu:List Int)(n:Nat)(S:Sea):Prop where
 cur:zdi S
 nd:(S.ppl.map (·.1)).Nodup
 ppl:∀ x∈S.ppl,x.1∈nu/\¬ badI x.1 x.2.1 x.2.2
 few:S.ppl.length<=30
 led:S.led=S.old.map Wd
 old:∀ s∈S.old,s.ms.length<=20/\s.gv.length=s.ms.length/\∀ x∈s.gv,oneV x
 len:S.led.length<=S.len/\S.len<=60/\S.rest<=10
 lt:S.cur≠none->S.led.length<S.len
 num:S.out.length<=n/\S.std.length<=n
 gp:∀ s,S.cur=some s\/s∈S.old->s.gaps.length<=n/\∀ x∈s.gaps,x.2.length<=100
theorem SOk.mono(h:SOk nu n S)(e:n<=m):SOk nu m S:=⟨h.cur,h.nd,h.ppl,h.few,h.led,h.old,h.len,h.lt,⟨zs3 h.num.1 e,zs3 h.num.2 e⟩,fun s hs=>⟨zs3 (h.gp s hs).1 e,(h.gp s hs).2⟩⟩
theorem SOk.pok(h:SOk nu n S):Qd S:=⟨fun x hx=>(h.ppl x hx).2,h.few⟩
theorem SOk.olen(h:SOk nu n S):S.old.length=S.led.length:=by rw[h.led,zsg]
theorem zdn:∀ (Rs:List (List Row)),(∀ rs∈Rs,rs.length<=k)->tot Rs<=k*Rs.length
 | [],_=>by simp[tot]
 | rs :: Rs,h=>by
   have h1:=h rs (zsz);have h2:=zdn Rs fun x hx=>h x (zsw _ hx);unfold tot at *;simp only[zst,List.sum_cons,zs4,Nat.mul_succ];omega
theorem SOk.tot(h:SOk nu n S):G.tot S.led<=1200:=by
 have h1:=zdn (k:=20) S.led fun rs hrs=>by
  rw[h.led] at hrs;obtain⟨s,hs,rfl⟩:=zsq.mp hrs;have:=h.old s hs;unfold Wd;rw[List.length_zipWith];omega
 have:=h.len;omega
theorem za9(F:Yw rows gs)(hn:∀ i:Nat,gs[i]?≠some (V.int n)):Yw (without rows n) gs:=by
 refine⟨by unfold without;rw[zsg];exact F.len,F.one,fun k m h=>?_,F.inj⟩;obtain⟨r,h1,h2⟩:=F.may k m h;refine⟨r.filter fun x=>decide (x≠n),by unfold without;rw[zsn,h1];rfl,zts.mpr ⟨h2,?_⟩⟩;refine zsm fun z=>hn k ?_;rw[h,z]
theorem Br(T:V8 rows gs):V8 (without rows n) gs:=fun p hp=>by
 obtain⟨S,h1,h2⟩:=T p hp;refine⟨S,h1,fun q hq=>⟨by unfold without;rw[zsg];exact(h2 q hq).1,fun r hr m hm=>?_⟩⟩;unfold without at hr;rw[zsn] at hr;obtain⟨r0,e1,rfl⟩:=Option.map_eq_some_iff.mp hr;exact(h2 q hq).2 r0 e1 m (zts.mp hm).1
theorem zba(h:atV S<i)(ms:List P3):mayS (Xe S i n) ms=mayS S ms:=by
 unfold mayS;refine List.map_congr_left fun m _=>?_;unfold F9;have:∀ x:P3,pIn (Xe S i n).out (atV (Xe S i n)) x=pIn S.out (atV S) x:=fun x=>by
  show decide ((atV S,x.1)∈S.out++[(i,n)])=decide ((atV S,x.1)∈S.out);have:((atV S,x.1)∈S.out++[(i,n)])↔((atV S,x.1)∈S.out):=by
   simp only[zsv,zsl,Prod.mk.injEq];constructor
   ·rintro(h|⟨h,_⟩)
    ·exact h
    ·omega
   ·exact .inl
  exact decide_eq_decide.mpr this
 simp only[this];rfl
theorem zdo(o:SOk nu n S)(g:Mq S D)(af:X5 H' S D S' v)(hb:D≠.back)(hn:∀ k gr c,D=.enrol k gr c->k∈nu):SOk nu (n+1) S'/\((D=.close/\S'.std=[]/\S'.cur=none)\/(D≠.close/\Qe S S')):=by
 obtain⟨n1,n2⟩:=o.num;cases af with
 | enrol k gr c =>
   obtain⟨g1,g2,g3,g4,g5⟩:=g;refine⟨⟨fun s hs=>?_,?_,fun x hx=>?_,?_,o.led,o.old,o.len,fun _=>g1,⟨?_,?_⟩,fun s hs=>⟨ztr (o.gp s hs).1,(o.gp s hs).2⟩⟩,.inr ⟨nofun,(("enrol":Str),k,atV S),rfl,.inl ⟨rfl,⟨gr,c,rfl⟩,rfl⟩,rfl,rfl,rfl,rfl⟩⟩
   ·have hs:S.cur=some s:=hs;rw[g2] at hs;cases hs
   ·show (List.map (·.1) (S.ppl++[(k,gr,c)])).Nodup;rw[zsp,List.nodup_append];refine⟨o.nd,by simp,fun x hx y hy=>?_⟩;rw[zst,List.map_nil,zsl] at hy;subst hy;rintro rfl;exact g4 hx
   ·rcases zsv.mp hx with hx|hx
    ·exact o.ppl x hx
    ·rw[zsl.mp hx];exact⟨hn k gr c rfl,g3⟩
   ·show (S.ppl++[(k,gr,c)]).length<=30;rw[zsh];show S.ppl.length+1<=30;omega
   ·show S.out.length<=n+1;omega
   ·show (S.std++[_]).length<=n+1;rw[zsh];show S.std.length+1<=n+1;omega
 | @awayN i k l h hl =>
   obtain⟨g1,g2,g3,g4⟩:=g;refine⟨⟨fun s hs=>?_,o.nd,o.ppl,o.few,o.led,o.old,o.len,o.lt,⟨?_,?_⟩,fun s hs=>⟨ztr (o.gp s hs).1,(o.gp s hs).2⟩⟩,.inr ⟨nofun,(("away":Str),k,i),rfl,.inr (.inl ⟨rfl,rfl,rfl,g4⟩),rfl,rfl,rfl,rfl⟩⟩
   ·have hs:S.cur=some s:=hs;rcases h with h|h
    ·rw[h] at hs;cases hs
    ·obtain⟨c1,c2,c3,c4,c5⟩:=o.cur s hs;refine⟨c1,c2,c3,by rw[zba h];exact c4,?_⟩;show s.gaps.length<=(S.std++[_]).length;rw[zsh];omega
   ·show (S.out++[_]).length<=n+1;rw[zsh];show S.out.length+1<=n+1;omega
   ·show (S.std++[_]).length<=n+1;rw[zsh];show S.std.length+1<=n+1;omega
 | @awayF k s l h hp hl =>
   obtain⟨g1,g2,g3,g4⟩:=g;obtain⟨c1,c2,c3,c4,c5⟩:=o.cur s h;refine⟨⟨fun s' hs=>?_,o.nd,o.ppl,o.few,o.led,o.old,o.len,fun _=>o.lt (by rw[h];exact nofun),⟨?_,?_⟩,fun s' hs=>?_⟩,.inr ⟨nofun,(("away":Str),k,atV S),rfl,.inr (.inl ⟨rfl,rfl,rfl,g4⟩),rfl,rfl,rfl,rfl⟩⟩
   ·have hs:some { s with may:=mayS (Xe S (atV S) k) s.ms }=some s':=hs;cases hs;have hno:∀ i:Nat,s.gv[i]?≠some (V.int k):=by
     rcases Dl s.gv k with z|⟨i,z,_⟩
     ·exact z.2
     ·rw[hp] at z;cases z
    refine⟨c1,?_,?_,rfl,?_⟩
    ·show Yw (mayS (Xe S (atV S) k) s.ms) s.gv;rw[U8,<- c4];exact za9 c2 hno
    ·show V8 (mayS (Xe S (atV S) k) s.ms) s.gv;rw[U8,<- c4];exact Br c3
    ·show s.gaps.length<=(S.std++[_]).length;rw[zsh];omega
   ·show (S.out++[_]).length<=n+1;rw[zsh];show S.out.length+1<=n+1;omega
   ·show (S.std++[_]).length<=n+1;rw[zsh];show S.std.length+1<=n+1;omega
   ·have old:=o.gp s (.inl h);rcases hs with hs|hs
    ·have hs:some { s with may:=mayS (Xe S (atV S) k) s.ms }=some s':=hs;cases hs;exact⟨ztr old.1,old.2⟩
    ·have:=o.gp s' (.inr hs);exact⟨ztr this.1,this.2⟩
 | @awayC k s p e l us st w h hp hl tl CR =>
   obtain⟨g1,g2,g3,g4⟩:=g;obtain⟨c1,c2,c3,c4,c5⟩:=o.cur s h;refine⟨⟨fun s' hs=>?_,o.nd,o.ppl,o.few,o.led,o.old,o.len,fun _=>o.lt (by rw[h];exact nofun),⟨?_,?_⟩,fun s' hs=>?_⟩,.inr ⟨nofun,(("away":Str),k,atV S),rfl,.inr (.inl ⟨rfl,rfl,rfl,g4⟩),rfl,rfl,rfl,rfl⟩⟩
   ·have hs:some (⟨s.ms,mayS (Xe S (atV S) k) s.ms,Yq st (s.gv.set p .non),s.gaps++[(k,st)]⟩:Z9)=some s':=hs;cases hs;have hx:=P0 hp;rw[U8,<- c4] at CR;have F0:=U0 c2 hx;have hpl:p<(without s.may k).length:=by
     unfold without;rw[zsg,<- c2.len];exact(zsj.mp hx).1
    refine⟨c1,?_,?_,rfl,?_⟩
    ·show Yw (mayS (Xe S (atV S) k) s.ms) _;rw[U8,<- c4];exact CR.fill F0 hpl
    ·show V8 (mayS (Xe S (atV S) k) s.ms) _;rw[U8,<- c4];exact Dp c2 c3 hx CR
    ·show (s.gaps++[_]).length<=(S.std++[_]).length;rw[zsh,zsh];show s.gaps.length+1<=S.std.length+1;omega
   ·show (S.out++[_]).length<=n+1;rw[zsh];show S.out.length+1<=n+1;omega
   ·show (S.std++[_]).length<=n+1;rw[zsh];show S.std.length+1<=n+1;omega
   ·have old:=o.gp s (.inl h);rcases hs with hs|hs
    ·have hs:some (⟨s.ms,mayS (Xe S (atV S) k) s.ms,Yq st (s.gv.set p .non),s.gaps++[(k,st)]⟩:Z9)=some s':=hs;cases hs;have hx:=P0 hp;rw[U8,<- c4] at CR;have hpl:p<(without s.may k).length:=by
      unfold without;rw[zsg,<- c2.len];exact(zsj.mp hx).1
     have hcl:=CR.len (U0 c2 hx) hpl;have hwl:(without s.may k).length=s.may.length:=by unfold without;rw[zsg]
     have hml:s.may.length=s.ms.length:=by rw[c4];unfold mayS;rw[zsg]
     refine⟨by show (s.gaps++[_]).length<=n+1;rw[zsh];show s.gaps.length+1<=n+1;omega,fun x hx'=>?_⟩;rcases zsv.mp hx' with z|z
     ·exact old.2 x z
     ·rw[zsl.mp z];show st.length<=100;omega
    ·have:=o.gp s' (.inr hs);exact⟨ztr this.1,this.2⟩
 | @draw ms gv l hl F T =>
   obtain⟨g1,g2,g3,g4,g5⟩:=g;refine⟨⟨fun s' hs=>?_,o.nd,o.ppl,o.few,o.led,o.old,o.len,fun _=>g1,⟨?_,?_⟩,fun s' hs=>?_⟩,.inr ⟨nofun,(("draw up":Str),(ms.length:Int),atV S),rfl,.inr (.inr ⟨rfl,rfl,rfl⟩),rfl,rfl,rfl,rfl⟩⟩
   ·have hs:some (⟨ms,mayS S ms,gv,[]⟩:Z9)=some s':=hs;cases hs;exact⟨g3,F,T,rfl,zs1 _⟩
   ·show S.out.length<=n+1;omega
   ·show (S.std++[_]).length<=n+1;rw[zsh];show S.std.length+1<=n+1;omega
   ·rcases hs with hs|hs
    ·have hs:some (⟨ms,mayS S ms,gv,[]⟩:Z9)=some s':=hs;cases hs;exact⟨zs1 _,nofun⟩
    ·have:=o.gp s' (.inr hs);exact⟨ztr this.1,this.2⟩
 | @close s h =>
   obtain⟨g1,g2⟩:=g;obtain⟨c1,c2,c3,c4,c5⟩:=o.cur s h;refine⟨⟨fun s' hs=>(by cases hs),o.nd,o.ppl,o.few,?_,fun x hx=>?_,⟨?_,o.len.2⟩,fun z=>absurd rfl z,⟨?_,zs1 _⟩,fun s' hs=>?_⟩,.inl ⟨rfl,rfl,rfl⟩⟩
   ·show S.led++[Wd s]=List.map Wd (S.old++[s]);rw[zsp,o.led];rfl
   ·rcases zsv.mp hx with hx|hx
    ·exact o.old x hx
    ·rw[zsl.mp hx];refine⟨c1,?_,c2.one⟩;rw[c2.len,c4];unfold mayS;rw[zsg]
   ·show (S.led++[_]).length<=S.len;rw[zsh];exact g1
   ·show S.out.length<=n+1;omega
   ·rcases hs with hs|hs
    ·cases hs
    ·have hs:s'∈S.old++[s]:=hs;rcases zsv.mp hs with z|z
     ·have:=o.gp s' (.inr z);exact⟨ztr this.1,this.2⟩
     ·rw[zsl.mp z];have:=o.gp s (.inl h);exact⟨ztr this.1,this.2⟩
 | back h ht hs=>exact absurd rfl hb
theorem G1(h1:Qe S1 S)(h2:Qe S2 S):S1=S2:=by
 obtain⟨d1,a1,a2,a3,a4,a5,a6⟩:=h1;obtain⟨d2,b1,b2,b3,b4,b5,b6⟩:=h2;have e:=a1.symm.trans b1;obtain⟨e1,e2⟩:=zt2 e rfl;have e3:=List.cons.inj e2;obtain⟨e4,e5⟩:=Prod.mk.inj e3.1;subst e4;have w1:("enrol":Str)≠"away":=by decide +kernel
 have w2:("enrol":Str)≠"draw up":=by decide +kernel
 have w3:("away":Str)≠"draw up":=by decide +kernel
 have e6:S1.ppl=S2.ppl/\S1.out=S2.out:=by
  rcases a2 with ⟨x1,⟨g,c,x2⟩,x3⟩|⟨x1,x2,x3,_⟩|⟨x1,x2,x3⟩<;>rcases b2 with ⟨y1,⟨g',c',y2⟩,y3⟩|⟨y1,y2,y3,_⟩|⟨y1,y2,y3⟩
  ·exact⟨(zt2 (x2.symm.trans y2) rfl).1,x3.trans y3.symm⟩
  ·exact absurd (x1.symm.trans y1) w1
  ·exact absurd (x1.symm.trans y1) w2
  ·exact absurd (y1.symm.trans x1) w1
  ·exact⟨x2.trans y2.symm,(zt2 (x3.symm.trans y3) rfl).1⟩
  ·exact absurd (x1.symm.trans y1) w3
  ·exact absurd (y1.symm.trans x1) w2
  ·exact absurd (y1.symm.trans x1) w3
  ·exact⟨x2.trans y2.symm,x3.trans y3.symm⟩
 obtain⟨l1,q1,p1,d1',o1,ol1,c1,s1⟩:=S1;obtain⟨l2,q2,p2,d2',o2,ol2,c2,s2⟩:=S2;simp only at *;obtain⟨e7,e8⟩:=e6;subst e1 e5 e7 e8;rw[<- a3,<- b3,<- a4,<- b4,<- a5,<- b5,<- a6,<- b6]
structure FrN(A A':SAd)(H H':Hp):Prop where
 p:A'.p=A.p
 k:∀ b o,H b=some o->b∉A.fp->H' b=some o/\b∉A'.fp
 kt:∀ t xs,H t=some (.tup xs)->H' t=some (.tup xs)
theorem FrN.refl(A:SAd)(H:Hp):FrN A A H H:=⟨rfl,fun b o e n=>⟨e,n⟩,fun _ _ e=>e⟩
theorem FrN.of(e:Same H H'):FrN A A H H':=⟨rfl,fun b o z n=>⟨e _ _ z,n⟩,fun _ _ z=>e _ _ z⟩
theorem FrN.trans(h1:FrN A A1 H H1)(h2:FrN A1 A2 H1 H2):FrN A A2 H H2:=⟨h2.p.trans h1.p,fun b o e n=>by
 obtain⟨a1,a2⟩:=h1.k b o e n;exact h2.k b o a1 a2,fun t xs e=>h2.kt _ _ (h1.kt _ _ e)⟩
theorem Pe.out(nx:Pe A A' H)(e:H b=some o)(n:b∉A.fp):b∉A'.fp:=by
 obtain⟨x,rfl,hx⟩:=nx;simp only[SAd.fp,zsk,zth,or_false] at n ⊢;rcases hx with rfl|hx
 ·exact n
 ·have:b≠x:=Zh e hx;rintro(z|z|z|z|z|z|z)
  ·exact n (.inl z)
  ·exact n (.inr (.inl z))
  ·exact n (.inr (.inr (.inl z)))
  ·exact n (.inr (.inr (.inr (.inl z))))
  ·exact n (.inr (.inr (.inr (.inr (.inl z)))))
  ·exact n (.inr (.inr (.inr (.inr (.inr (.inl z))))))
  ·exact this z
theorem FrN.next(SA:Zw ca H A S)(nx:Pe A A' H)(f:FrS A H H'):FrN A A' H H':=⟨by obtain⟨x,rfl,_⟩:=nx;rfl,fun b o e n=>⟨f b o e n,nx.out e n⟩,SA.tups f⟩
def zi1(K:Frag)(A:SAd)(H:Hp)(b:Addr)(xs:List V):Prop:=(Rd H b (.lst xs)/\b∉A.fp)\/∀ H',SqL K H' b xs
structure zj0(A:SAd)(H:Hp)(t lc ln:Addr)(cs nu:List Int):Prop where
 at_:zg7 H t lc ln cs nu
 o:t∉A.fp/\lc∉A.fp/\ln∉A.fp
inductive Bk(mb:Bool)(ok:Addr->Prop)(H:Hp)(nu:List Int)(n:Nat):List Addr->Sea->Prop where
 | one {d:Addr} {P:Pg} {S:Sea} (h:zdl ok H d P) (r:Rel mb P S) (o:SOk nu n S) (e:S.std=[]):Bk mb ok H nu n [d] S
 | snoc {ds:List Addr} {d:Addr} {P:Pg} {S S':Sea} (b:Bk mb ok H nu n ds S) (nd:d∉ds) (h:zdl ok H d P) (r:Rel mb P S') (o:SOk nu n S') (st:Qe S S') (hd:∃ x,P.deed=some x/\S'.std=S.std++[(x,S.cur)]):Bk mb ok H nu n (ds++[d]) S'
section
variable{mb:Bool}{ok ok':Addr->Prop}{H H':Hp}{nu:List Int}{n m:Nat}{ds:List Addr}{d:Addr}{P:Pg}{S S':Sea}
structure zi2(mb:Bool)(ok:Addr->Prop)(H:Hp)(nu:List Int)(n:Nat)(ds:List Addr)(d:Addr)(dd:Option Xs)(S:Sea):Prop where
 nd:d∉ds
 ex:(ds=[]/\S.std=[])\/∃ S0,Bk mb ok H nu n ds S0/\Qe S0 S/\∃ x,dd=some x/\S.std=S0.std++[(x,S0.cur)]
structure zj6(mb:Bool)(ok:Addr->Prop)(H:Hp)(nu:List Int)(n:Nat)(ds:List Addr)(d:Addr)(P:Pg)(S:Sea):Prop where
 pg:zdl ok H d P
 rb:zhc mb P S
 so:SOk nu n S
 tl:zi2 mb ok H nu n ds d P.deed S
structure zj7(mb:Bool)(ok:Addr->Prop)(H:Hp)(nu:List Int)(n:Nat)(ds:List Addr)(d:Addr)(P:Pg)(S:Sea):Prop where
 pg:zdl ok H d P
 re:Rel mb P S
 so:SOk nu n S
 tl:zi2 mb ok H nu n ds d P.deed S
end
section
variable{mb:Bool}{ok ok':Addr->Prop}{A A':SAd}{H H':Hp}{nu:List Int}{n m:Nat}{ds:List Addr}{d:Addr}{P:Pg}{S S':Sea}{D:Yg}
theorem Z3.fr(f:FrN A A' H H')(h:Z3 (·∉A.fp) H t D):Z3 (·∉A'.fp) H' t D:=by
 cases D with
 | enrol a b c=>exact f.kt _ _ h
 | away a b=>exact f.kt _ _ h
 | draw ms =>
   obtain⟨l,ts,a1,a2,a3,a4⟩:=h;exact⟨l,ts,f.kt _ _ a1,(f.k _ _ a2 a4).1,a3.mono f.kt,(f.k _ _ a2 a4).2⟩
 | close=>exact f.kt _ _ h
 | back=>exact f.kt _ _ h
theorem Z3.same(e:Same H H')(h:Z3 ok H t D):Z3 ok H' t D:=by
 cases D with
 | enrol a b c=>exact e _ _ h
 | away a b=>exact e _ _ h
 | draw ms =>
   obtain⟨l,ts,a1,a2,a3,a4⟩:=h;exact⟨l,ts,e _ _ a1,e _ _ a2,a3.mono fun _ _ z=>e _ _ z,a4⟩
 | close=>exact e _ _ h
 | back=>exact e _ _ h
theorem Z3.imp(k:∀ x,ok x->ok' x)(h:Z3 ok H t D):Z3 ok' H t D:=by
 cases D with
 | enrol a b c=>exact h
 | away a b=>exact h
 | draw ms =>
   obtain⟨l,ts,a1,a2,a3,a4⟩:=h;exact⟨l,ts,a1,a2,a3,k _ a4⟩
 | close=>exact h
 | back=>exact h
end
end G
namespace L2
open PySem PySem.Spec PyProof.Rows
theorem fnS(a:sc.kind=.function:=by rfl)(b:sc.isCoroutine=false:=by rfl)(c:sc.isGenerator=false:=by rfl)(d:N.Nodup:=by decide +kernel)(e:N.take P.length=P:=by rfl)(f:∀ x∈P,sc.names.lookup x=some .local\/sc.names.lookup x=some .cell:=by decide +kernel)(g:∀ y∈sc.names,y.2≠.free:=by decide +kernel):Zm N P sc:=⟨a,b,c,d,e,f,g⟩
section
variable{X:Cx}{k j:Nat}{C:Addr}{ps:List Str}{sp:Sp}{E:XK}{x m:Str}{p pos pos' apos:Pos}{e o a b:Expr}{es:List Expr}{ta tb te:TE}{t:TA}{r:R2}
theorem pS(i:Nat)(hN:X.N.Nodup)(he:PE X e te)(hi:X.N[i]?=some x:=by rfl)(hx:Loc X.env.scope x:=by first|exact Or.inl rfl|exact Or.inr rfl)(hs:swapsWith e (some (.Name x pos')) pos.line X.env=pure false:=by rfl)(hf:Cv X i x:=by first|exact⟨.inl rfl,Xu⟩|exact⟨.inr rfl,Xu⟩|assumption|exact⟨.inl rfl,by assumption⟩|exact⟨.inr rfl,by assumption⟩) :
  PS X (.Assign [.Name x pos'] e pos) (Cy te (Ve i)):=zfx hN hi hx he hs hf
theorem pN(i:Nat)(hN:X.N.Nodup)(hi:X.N[i]?=some x:=by rfl)(hx:Loc X.env.scope x:=by first|exact Or.inl rfl|exact Or.inr rfl)(hf:Cv X i x:=by first|exact⟨.inl rfl,Xu⟩|exact⟨.inr rfl,Xu⟩|assumption|exact⟨.inl rfl,by assumption⟩|exact⟨.inr rfl,by assumption⟩):PG X (.Name x pos) (Ve i):=Uw hN hi hx hf
theorem pI(hr:IxR X r)(ha:PE X a ta)(hb:PE X b tb)(hs:Ae b:=by exact fun _ _=>rfl):PE X (.Subscript a b pos) (tOp r ta tb):=zib hr ha hb hs
theorem pD(hu:X.A.units+1<cLine)(ho:PE X a ta)(hi:PE X b tb)(hs:zf4 b:=by exact fun _ _=>rfl):PE X (.Subscript a b pos) (zfd ta tb):=zec hu ho hi hs
theorem pF(D:Yh X.prog X.w X.K X.mg X.base x k ps sp)(hr:Wt j X.A)(ha:PA X (e :: es) t)(hk:k<=j:=by decide)(hx:Wo (CX1 X.prog X.w) X E:=by exact Zk)(hg:Gl X x:=by rfl)(hdb:(x == ("__debug__":Str))=false:=by decide)
  (he:starEach (e :: es) X.env=(false,eval e X.env) :: starEach es X.env:=by rfl) (hpl:(backTo pos (starEach es X.env)).any (·.1)=false:=by rfl):PE X (.Call (.Name x p) (e :: es) [] pos) (zb2 sp [] E t):=Ag D (hr.mono hk) hx hg ha hdb he hpl
theorem iL(K:Frag)(h:X.K=K:=by rfl):IxR X (zgd K):=zcp h
theorem iU(K:Frag)(h:X.K=K:=by rfl):IxR X (zge K):=zen h
theorem cL(K:Frag)(h:X.K=K:=by rfl):V2 X (.builtin "len") (fun xs H Q=>∃ p ys,xs=[.ref p]/\(SqL K H p ys\/SqT K H p ys)/\Q (.int ys.length) H):=Jx h
end
theorem cT(ys:List Str)(js:List Nat)(a:closureFor scope X.env=pure cl:=by rfl)(b:scope.kind=.function:=by rfl)(c:∀ y∈scope.names,y.2=.local->scope.names.lookup y.1=some .local:=by decide +kernel)(d:∀ y∈scope.names,y.2≠.cell:=by decide +kernel)(e:scope.names.lookup x=some .local:=by rfl)(f:(x :: ys).Nodup:=by decide +kernel)(g:js.map (X.N[·]?)=ys.map some:=by rfl)
  (h:Jw (fun y=>X.env.kindOf y=some .cell/\(relabel scope X.env).names.lookup y=some .cell/\cl.lookup y=X.env.cells.lookup y) ys:=by repeat' (first|exact True.intro|apply And.intro|rfl)) (i:Jw (fun p=>X.env.cells.lookup p.1=some p.2) cl:=by repeat' (first|exact True.intro|apply And.intro|rfl)) (j:∀ y∈scope.names,y.2=.free->y.1∈ys:=by decide +kernel):Af X x scope cl ys js:=⟨a,b,c,d,e,f,g,h,i,j⟩
abbrev LkF(K:Frag)(f:Addr)(x q:Str)(st:Stmt)(oc kV dc pm cd ct:Value)(od an:Option Addr)(sl:Array (Option Value)):Prop:=K.lookup f=some ⟨oc,od,.func (PySem.W.fnOf x q (Tw st) (Z7 st) (Zj st) .none kV dc pm an cd ct),sl⟩
abbrev NsB(K:Frag)(x:Str)(f:Addr):Prop:=PySem.W.nsIn K mainGlobals x=some (some (.ref f))
abbrev FdB(K:Frag)(c:Addr)(x:Str)(f:Addr):Prop:=PySem.W.findIn K (.ref c) x=some (some (.ref f))
abbrev BnA(x q:Str)(st:Stmt)(ps:List Str):Prop:=∀ (kV doc pm:Value) (an:Option Addr) (cdv ct:Value) (us:List Value),us.length=ps.length->bindArgs (PySem.W.fnOf x q (Tw st) (Z7 st) (Zj st) .none kV doc pm an cdv ct) ⟨us,[]⟩=pure (ps.zip us)
abbrev BnE(x q:Str)(st:Stmt)(ps:List Str)(us:List Value):Prop:=∀ (kV doc pm:Value) (an:Option Addr) (cdv ct:Value),bindArgs (PySem.W.fnOf x q (Tw st) (Z7 st) (Zj st) .none kV doc pm an cdv ct) ⟨us,[]⟩=pure (ps.zip us)
section
variable{x q a b c d e g:Str}{st:Stmt}
theorem bn1(h:∀ u,BnE x q st [a] [u]:=by intros _ _ _ _ _ _ _;rfl):BnA x q st [a]:=fun _ _ _ _ _ _ us hl=>match us,hl with|[_],_=>h _ _ _ _ _ _ _
theorem bn2(h:∀ u v,BnE x q st [a,b] [u,v]:=by intros _ _ _ _ _ _ _ _;rfl):BnA x q st [a,b]:=fun _ _ _ _ _ _ us hl=>match us,hl with|[_,_],_=>h _ _ _ _ _ _ _ _
theorem bn3(h:∀ u v w,BnE x q st [a,b,c] [u,v,w]:=by intros _ _ _ _ _ _ _ _ _;rfl):BnA x q st [a,b,c]:=fun _ _ _ _ _ _ us hl=>match us,hl with|[_,_,_],_=>h _ _ _ _ _ _ _ _ _
theorem bn4(h:∀ u v w y,BnE x q st [a,b,c,d] [u,v,w,y]:=by intros _ _ _ _ _ _ _ _ _ _;rfl):BnA x q st [a,b,c,d]:=fun _ _ _ _ _ _ us hl=>match us,hl with|[_,_,_,_],_=>h _ _ _ _ _ _ _ _ _ _
theorem bn5(h:∀ u v w y z,BnE x q st [a,b,c,d,e] [u,v,w,y,z]:=by intros _ _ _ _ _ _ _ _ _ _ _;rfl):BnA x q st [a,b,c,d,e]:=fun _ _ _ _ _ _ us hl=>match us,hl with|[_,_,_,_,_],_=>h _ _ _ _ _ _ _ _ _ _ _
end
section
variable{K:Frag}{mg:Str->Option Value}{x y q m:Str}{k:Nat}{ps:List Str}{sp:Sp}{C:Addr}{st:Stmt}{f:Addr}{fd:FuncData}
theorem dMk(P:Program)(w:World)(base:Heap)(F:Fun K x q st f fd)(ok:FnOk P w K mg base (CX1 P w) k f fd ps sp)(b:mg y=some (.ref f))(hb:BnA x q st ps:=by first|exact bn1|exact bn2|exact bn3|exact bn4|exact bn5):Yh P w K mg base y k ps sp:=⟨f,fd,ok,b,F.kp,F.binds hb⟩
theorem mMk(P:Program)(w:World)(base:Heap)(F:Fun K x q st f fd)(ok:FnOk P w K mg base (CX1 P w) k f fd ps sp)(b:zb1 K C m f)(hb:BnA x q st ps:=by first|exact bn1|exact bn2|exact bn3|exact bn4|exact bn5):Zv P w K mg base C m k ps sp:=⟨f,fd,ok,b,F.binds hb⟩
theorem nMk(P:Program)(w:World)(base:Heap)(F:Fun K x q st f fd)(ok:FnOk P w K mg base (CX1 P w) k f fd ps sp)(b:Mk K C f)(c:mg y=some (.ref C))(hb:BnA x q st ps:=by first|exact bn1|exact bn2|exact bn3|exact bn4|exact bn5):T3 P w K mg base y C k ps sp:=⟨f,fd,ok,b,c,F.binds hb⟩
end
structure LN(K:Frag)(x q:Str)(st:Stmt)(f:Addr)(oc kV dc pm cd ct:Value)(od an:Option Addr)(sl:Array (Option Value)):Prop where
 b:NsB K x f
 l:LkF K f x q st oc kV dc pm cd ct od an sl
 c:PySem.W.codeIn K cd q=true
 k:PySem.W.keepIn K (.ref f)=true
structure LM(K:Frag)(C:Addr)(x q:Str)(st:Stmt)(f:Addr)(oc kV dc pm cd ct:Value)(od an:Option Addr)(sl:Array (Option Value)):Prop where
 b:FdB K C x f
 l:LkF K f x q st oc kV dc pm cd ct od an sl
 c:PySem.W.codeIn K cd q=true
 k:PySem.W.keepIn K (.ref f)=true
 i:PySem.W.isFn K (.ref f)=true
abbrev XcB(K:Frag)(c:Addr):Prop:=PySem.W.excIn K c [.type "ValueError",.type "Exception",.type "BaseException",.type "object"] "ValueError.__new__"=true
abbrev NzB(K:Frag)(x:Str):Prop:=PySem.W.nsIn K mainGlobals x=some none
structure XG(P:Program)(w:World)(base:Heap)(K:Frag)(mg:Str->Option Value)(h:Heap):Prop where
 X:K.In h
 G:h.Ns mainGlobals mg
section
variable{P:Program}{w:World}{base h:Heap}{K:Frag}{mg:Str->Option Value}{x y q:Str}{k:Nat}{ps:List Str}{sp:Sp}{C:Addr}{st:Stmt}{f:Addr}{oc kV dc pm cd ct:Value}{od an:Option Addr}{sl:Array (Option Value)}
theorem dN(Z:XG P w base K mg h)(l:LN K x q st f oc kV dc pm cd ct od an sl)(ok:∀ {fd},Fun K x q st f fd->FnOk P w K mg base (CX1 P w) k f fd ps sp)(hb:BnA x q st ps:=by first|exact bn1|exact bn2|exact bn3|exact bn4|exact bn5):Yh P w K mg base x k ps sp :=
 dMk P w base (Pm l.l l.c l.k) (ok (Pm l.l l.c l.k)) (PySem.W.mg_of Z.X Z.G l.b) hb
theorem mM(_:XG P w base K mg h)(l:LM K C x q st f oc kV dc pm cd ct od an sl)(ok:∀ {fd},Fun K x q st f fd->FnOk P w K mg base (CX1 P w) k f fd ps sp)(hb:BnA x q st ps:=by first|exact bn1|exact bn2|exact bn3|exact bn4|exact bn5):Zv P w K mg base C x k ps sp :=
 mMk P w base (Pm l.l l.c l.k) (ok (Pm l.l l.c l.k)) ⟨l.b,l.i,l.k⟩ hb
theorem nM(Z:XG P w base K mg h)(l:LM K C "__init__" q st f oc kV dc pm cd ct od an sl)(m:PySem.W.makesIn K C=true)(kc:PySem.W.keepIn K (.ref C)=true)(c:PySem.W.nsIn K mainGlobals y=some (some (.ref C)))(ok:∀ {fd},Fun K "__init__" q st f fd->FnOk P w K mg base (CX1 P w) k f fd ps sp)(hb:BnA "__init__" q st ps:=by first|exact bn1|exact bn2|exact bn3|exact bn4|exact bn5):T3 P w K mg base y C k ps sp :=
 nMk P w base (Pm l.l l.c l.k) (ok (Pm l.l l.c l.k)) ⟨m,l.b,l.i,kc⟩ (PySem.W.mg_of Z.X Z.G c) hb
end
section
variable{X:Cx}{elt iter:Expr}{x:Str}{px pos:Pos}{ifs:List Expr}{scope:Scope}{cl:List (Str×Addr)}{ys:List Str}{js:List Nat}
theorem Kv{pins:List (Addr×Obj)}{σ:St}{H:Hp}{s:Shared}{tt:TT}{te:TE}{it:Addr}{fp:List Addr}{tn:Nat->Heap->Prop}{J:It}{W:Nat->Nat->List V->Hp->Prop}{m0:Nat}{Q:VK}{E:Value->Shared->Prop}{RR:Value->Addr->Result->Shared->Prop}
  (hcm:X.calm=true) (c:Af X x scope cl ys js) (ht:∀ pn s₀ H₀ fp C,PTs (Yr X pn (x :: ys) scope cl s₀ H₀ fp C) ifs tt) (hgt:∀ pn s₀ H₀ fp C,PG (Yr X pn (x :: ys) scope cl s₀ H₀ fp C) (.Name x px) (Ve 0)) (he:∀ pn s₀ H₀ fp C,PE (Yr X pn (x :: ys) scope cl s₀ H₀ fp C) elt te)
  (I:Inv X pins σ H s) (T:Ep X.prog X.w X.K (.Name x px) J fp it tn) (st0:tn 0 s.heap) (hf:∀ b∈fp,FpOk X pins H b) (w0:W 0 m0 [] H)
  (turn:∀ i m ys H,W i m ys H->(J.stop i H/\ys.length<=sizeLine/\∀ p,H p=none->Q (.ref p) (upd H p (.lst ys))) \/
   (J.go i H/\ys.length<sizeLine/\∃ N:List V->Hp->Prop,(∀ ys' H',N ys' H'->∃ m',m' < m/\W (i+1) m' ys' H')/\∀ x H',J.yld i H x H'->tt (cs js σ x) H' fun b H2=>if b=true then te (cs js σ x) H2 fun y H3=>N (ys++[y]) H3 else N ys H2))
  (hRR:∀ D C s' m,s'.heap.Ns C m->(∀ h',Heap.SameBut C s'.heap h'->∃ H',Inv X pins σ H' { s' with heap:=h' }/\Q (.ref D) H')->(∃ H',Inv X pins σ H' s'/\Q (.ref D) H'/\H' C=none)->s.heap.objs.size<=C->RR (.ref D) C (.ok .next) s') :
  wpAny (model X.prog X.w) X.A (newList []) (fun acc s₃=>wpAny (model X.prog X.w) X.A (newFunctionEnv scope X.env.globals cl [] X.env.qual none .none (some X.env)) (fun cenv s₄ =>
   codeAny (model X.prog X.w) X.A (.compStart (.ListComp elt [⟨.Name x px,iter,ifs,0⟩] scope pos) 0 (.ref it) acc { cenv with scope:=relabel scope X.env }) (RR acc cenv.locals) s₄) E s₃) E s :=
 Kk (xo:=[x]) (g:=Ve 0) hcm ⟨c.clos,c.kind,c.names,c.nocell,c.at_,c.free,c.only,c.vis⟩ ht hgt he I T st0 hf w0 (fun i m ys H w=>(turn i m ys H w).imp id fun ⟨a,b,N,n1,n2⟩=>⟨a,b,N,n1,fun y H' hy=>⟨⟨[some y],rfl,rfl⟩,n2 y H' hy⟩⟩) hRR
variable{wi:TI}{tt:TT}{te:TE}
theorem Uo(hcm:X.calm=true)(c:Af X x scope cl ys js)(hi:PI X (.Name x px) iter wi)(ht:∀ pn s₀ H₀ fp C,PTs (Yr X pn (x :: ys) scope cl s₀ H₀ fp C) ifs tt)(he:∀ pn s₀ H₀ fp C,PE (Yr X pn (x :: ys) scope cl s₀ H₀ fp C) elt te)
  (hx:∀ C,(compEnvC scope cl C X.env).scope.names.lookup x=some .local:=by intro _;rfl) (hs:∀ x,foldedSetIterable iter X.env x=pure x:=by intro _;rfl):PE X (.ListComp elt [⟨.Name x px,iter,ifs,0⟩] scope pos) (zfg wi js tt te):=by
 intro pins s σ H Q I h;rw[eval_ListComp];refine wpAny_comprehension_free (use:=none) rfl hs c.clos c.kind c.names (thn (hi pins s σ H _ I h) fun v s1 h1=>thn h1 fun itv s2 h2=>?_);obtain⟨it,fp,tn,J,H2,e,I2,T,st2,f2,W,⟨m0,w0⟩,turn⟩:=h2;subst e;exact Kv (RR:=fun acc C=>compPost (model X.prog X.w) X.A X.xe none (EP X pins σ Q) acc C) hcm c ht (fun _ _ _ _ C=>Uw (X:=Yr X _ (x :: ys) scope cl _ _ _ C) c.nd rfl (.inl (hx C)) ⟨.inr (hx C),Xu⟩) he I2 T st2 f2 w0 turn fun D C s' m hn hS _ _=>⟨m,hn,fun h' hs'=>let ⟨H',I',q⟩:=hS h' hs';⟨.ref D,H',I',rfl,q⟩⟩
theorem T1{y:Str}{py spos:Pos}{i:Nat}(hN:X.N.Nodup)(hy:X.N[i]?=some y)(hk:X.env.scope.names.lookup y=some .local)(hcm:X.calm=true)(c:Af X x scope cl ys js)(hi:PI X (.Name x px) iter wi)(ht:∀ pn s₀ H₀ fp C,PTs (Yr X pn (x :: ys) scope cl s₀ H₀ fp C) ifs tt)
  (he:∀ pn s₀ H₀ fp C,PE (Yr X pn (x :: ys) scope cl s₀ H₀ fp C) elt te)
  (hx:∀ C,(compEnvC scope cl C X.env).scope.names.lookup x=some .local:=by intro _;rfl) (hsw:swapsWith (.ListComp elt [⟨.Name x px,iter,ifs,0⟩] scope pos) (some (.Name y py)) spos.line X.env=pure true:=by rfl) (hs:∀ x,foldedSetIterable iter X.env x=pure x:=by intro _;rfl)
  (hf:Cv X i y:=by first|exact⟨.inr rfl,Xu⟩|assumption|exact⟨.inr rfl,by assumption⟩) :
  PS X (.Assign [.Name y py] (.ListComp elt [⟨.Name x px,iter,ifs,0⟩] scope pos) spos) (Cy (zfg wi js tt te) (Ve i)):=by
 intro pins s σ H D0 I h;rw[exec_Assign_Name_used _ _ _ _ hsw];refine wpAny_bind (wpAny_standAt (wpAny_bind ?_));show wpAny _ X.A (do let _ <- comprehension (.ListComp elt [⟨.Name x px,iter,ifs,0⟩] scope pos) scope X.env _ (newList []) false (eval iter X.env) (some (assign (.Name y py) X.env))) _ _ s;refine wpAny_bind (wpAny_mono (wpAny_comprehension_free (use:=some (assign (.Name y py) X.env)) (Q:=fun _ s'=>SP X pins D0 .next s') rfl hs c.clos c.kind c.names
  (thn (hi pins s σ H _ I h) fun v s1 h1=>thn h1 fun itv s2 h2=>?_)) (fun _ s' hq=>wpAny_pure (wpAny_pure hq)) fun _ _ e=>e)
 obtain⟨it,fp,tn,J,H2,e,I2,T,st2,f2,W,⟨m0,w0⟩,turn⟩:=h2;subst e;refine Kv (Q:=fun x H1=>D0.nx (σ.set i (some x)) H1) (RR:=fun acc C=>compPost (model X.prog X.w) X.A X.xe (some (assign (.Name y py) X.env)) (fun _ s'=>SP X pins D0 .next s') acc C) hcm c ht (fun _ _ _ _ C=>Uw (X:=Yr X _ (x :: ys) scope cl _ _ _ C) c.nd rfl (.inl (hx C)) ⟨.inr (hx C),Xu⟩) he I2 T st2 f2 w0 turn fun D C s' m hn _ hS hC=>?_;obtain⟨H',I',q,fC⟩:=hS;show wpAny _ X.A (assign (.Name y py) X.env (.ref D)) _ _ _;have ltC:∀ b o,s2.heap.get? b=some o->b≠C:=fun b o e=>zs9 (zsy (Heap.lt_size e) hC);have neL:C≠X.env.locals:=by
  obtain⟨_,⟨o,_,_,ho,_⟩,_⟩:=I2.loc;exact Ne.symm (ltC _ o ho)
 have neK:∀ z a,X.env.cells.lookup z=some a->a≠C:=fun z a e=>by
  obtain⟨_,o,ho,_⟩:=I2.cell z a e;exact ltC a o ho
 refine wpAny_assign_Name (Hq I' hN hy (.inl hk) (v:=.ref D) (show RelV (.ref D) (.ref D) from rfl) (fun s4 I4 ⟨a,hs4,ha⟩=>?_) hf);have naC:C≠a:=by
  rcases ha with ha|ha
  ·rw[ha];exact neL
  ·exact Ne.symm (neK _ _ ha)
 refine⟨m,hn.sameBut hs4 naC,fun h5 hs5=>⟨_,H',?_,q⟩⟩;refine I4.turned (t':=s4.toks) (it:=C) (fun b o hb e=>hs5.extBut b o hb e) fC neL (.inr (zs3 I2.sz hC)) neK fun p hp=>?_;obtain⟨e,_⟩:=I2.pin p hp;exact ltC _ _ e
end
end L2
namespace G
open PySem PySem.Spec PyProof.Rows L2
def Wm:Yg->Str
 | .enrol _ _ _=>"enrol"
 | .away _ _=>"away"
 | .draw _=>"draw up"
 | .close=>"close"
 | .back=>"take back"
theorem Z3.word(h:Z3 ok H t D):∃ r,H t=some (.tup (.str (Wm D) :: r)):=by
 cases D with
 | enrol a b c=>exact⟨_,h⟩
 | away a b=>exact⟨_,h⟩
 | draw ms=>obtain⟨l,ts,a1,_⟩:=h;exact⟨_,a1⟩
 | close=>exact⟨_,h⟩
 | back=>exact⟨_,h⟩
end G
namespace G
open PySem PySem.Spec PyProof.Rows L2
inductive Ci(vs:List V)(H:Hp)(Q:VK)(_:XK):Prop where
 | mk(t1 t2:Addr)(d:Xs)(_:vs=[.ref t1,.ref t2])(_:H t1=some (.tup (Xb d)))(_:H t2=some (.tup (Xb d)))(_:Q (.bl true) H)
inductive Kw(K:Frag)(vs:List V)(H:Hp)(Q:VK)(_:XK):Prop where
 | mk(b c:Addr)(ts us:List V)(ds:List Xs)(_:vs=[.ref b,.ref c])(_:H b=some (.lst ts))(_:H c=some (.lst us))(_:Zy H ts (ds.map Xb))(_:Zy H us (ds.map Xb))(_:ds.length<=1000)(_:Q (.bl true) H)
end G
namespace L2
open PySem PySem.Spec PyProof.Rows PySem.Builtin PySem.Builtin.Str
theorem G2:OpR X (binaryOp .Add) (fun x y H Q=>∃ a b:Str,x=.str a/\y=.str b/\a.length+b.length<=sizeLine/\Q (.str (a++b)) H):=by
 intro pins s σ H x y v u Q I rx ry h;obtain⟨a,b,rfl,rfl,hz,q⟩:=h;obtain⟨t,rfl⟩:=rx;obtain⟨t',rfl⟩:=ry;exact P.add_str (PySem.SB.post_add hz fun t' k=>⟨.str (a++b),H,I.tok _,⟨_,rfl⟩,q⟩)
def ze1(a b:Str):List Str:=partsBetween a (occurrences a b 0 a.length (a.length+1)) b.length
inductive zhd(x:V)(xs:List V)(H:Hp)(Q:VK):Prop where
 | mk(a b:Str)(_:x=.str a)(_:xs=[.str b])(_:(decide (a.length<b.length)||decide (strKind a<strKind b))=false)(_:(b.length == 0)=false)(_:(occurrences a b 0 a.length (a.length+1)).isEmpty=false)(_:a.length<=sizeLine)(_:(ze1 a b).length<=sizeLine)(_:∀ l,H l=none->Q (.ref l) (upd H l (.lst ((ze1 a b).map V.str))))
theorem Cj:∀ (k:Nat) (ws:List Str),Vals (ws.map V.str) (strsFrom k ws)
 | _,[]=>.nil
 | k,w :: ws=>.cons ⟨_,rfl⟩ (Cj (k+1) ws)
theorem zdp:MtR X "str.split" zhd:=by
 intro pins s σ H x xs v us Q I rx rv h;obtain⟨a,b,rfl,rfl,h1,h2,h3,h4,h5,q⟩:=h;obtain⟨t,rfl⟩:=rx;obtain⟨u,rfl,ru⟩:=rv.one;obtain⟨t',rfl⟩:=ru;have hf:H s.heap.objs.size=none:=I.hok.fresh (zso _);refine call_meets F.slot_str_split (typeIs_str _ _ _) F.entry_str_split (F.args_str_split_2 _ _) (meets_str_split_sep a b t t' h1 h2 h3 h4 h5) ?_;refine⟨.ref s.heap.objs.size,upd H s.heap.objs.size (.lst ((ze1 a b).map V.str)),I.laid (fun _ _ q=>Heap.get?_push_of_some _ q) (zso _) ?_,rfl,q _ hf⟩;exact⟨by rw[zsg];exact h5,_,_,Cj s.toks _,Heap.get?_push_size _ rfl⟩
end L2
namespace G
open PySem PySem.Spec PyProof.Rows L2
inductive Ref where
 | out|known|many|unk|manyM|same|noMatch|noRound|over|seaOver|away|drawn|notDrawn|nothing|manyD
 deriving DecidableEq
def Ref.cls(ca:CA):Ref->Addr
 | .out=>ca.out|.known=>ca.known|.many=>ca.many|.unk=>ca.unk|.manyM=>ca.manyM|.same=>ca.same|.noMatch=>ca.noMatch|.noRound=>ca.noRound
 | .over=>ca.over|.seaOver=>ca.seaOver|.away=>ca.away|.drawn=>ca.drawn|.notDrawn=>ca.notDrawn|.nothing=>ca.nothing|.manyD=>ca.manyD
def Ref.name:Ref->Str
 | .out=>"OutOfRange" | .known=>"KnownReferee" | .many=>"TooManyReferees" | .unk=>"UnknownReferee" | .manyM=>"TooManyMatches" | .same=>"SameClub" | .noMatch=>"NoSuchMatch" | .noRound=>"NoSuchRound"
 | .over=>"RoundOver" | .seaOver=>"SeasonOver" | .away=>"AwayAlready" | .drawn=>"DrawnUp" | .notDrawn=>"NotDrawn" | .nothing=>"NothingToTakeBack" | .manyD=>"TooManyDeeds"
open Classical in
noncomputable def refS(S:Sea):Yg->Option Ref
 | .enrol n g c=>if S.len<=S.led.length then some .seaOver else if S.cur.isSome=true then some .drawn else if badI n g c then some .out else if n∈S.ppl.map (·.1) then some .known else if 30<=S.ppl.length then some .many else if 100<=S.std.length then some .manyD else none
 | .away i n=>if i<1\/(S.len:Int)<i then some .noRound else if i<=S.led.length then some .over else if n∈S.ppl.map (·.1) then (if (i,n)∈S.out then some .away else if 100<=S.std.length then some .manyD else none) else some .unk
 | .draw ms=>if S.len<=S.led.length then some .seaOver else if S.cur.isSome=true then some .drawn else if 20<ms.length then some .manyM else if Vn ms then some .out else if X4 ms then some .same else if 100<=S.std.length then some .manyD else none
 | .close=>if S.len<=S.led.length then some .seaOver else if S.cur=none then some .notDrawn else none
 | .back=>if S.std=[] then some .nothing else none
def Nw:Yg->Prop
 | .enrol n g c=>Km n g c
 | .away i n=>Z8 i/\Z8 n
 | .draw ms=>(∀ m∈ms,Ri m)/\ms.length<=1000
 | _=>True
inductive zfm(K:Frag)(ca:CA)(vs:List V)(H:Hp)(Q:VK)(E:XK):Prop where
 | mk(A:SAd)(S:Sea)(t:Addr)(d:Yg)(_:vs=[.ref A.p,.ref t])(_:Zw ca H A S)(_:Z3 (·∉A.fp) H t d)(_:Nw d)(_:zdi S)(_:Qd S)(_:S.std.length<=500)(_:S.out.length<=100000)(_:2*(tot S.led+1000)<=100000)(_:S.led.length<=1000)(_:S.old.length<=1000)(_:(d=.back->S.std≠[]->∃ S0,Qe S0 S))(_:(∀ r,refS S d=some r->∀ H',Same H H'->E (.ref (r.cls ca)) none H'))(_:(refS S d=none->∀ v A' S' H',X5 H' S d S' v->Zw ca H' A' S'->Pe A A' H->FrS A H H'->(∀ l,v=.ref l->(∃ xs,H' l=some (.lst xs))->H l=none)->Q v H'))
inductive zdq(K:Frag)(ca:CA)(vs:List V)(H:Hp)(Q:VK)(_:XK):Prop where
 | mk(A:SAd)(S:Sea)(t:Addr)(d:Yg)(_:vs=[.ref A.p,.ref t])(_:Zw ca H A S)(_:Z3 (·∉A.fp) H t d)(_:Nw d)(_:zdi S)(_:Qd S)(_:S.std.length<=500)(_:S.out.length<=100000)(_:2*(tot S.led+1000)<=100000)(_:S.led.length<=1000)(_:S.old.length<=1000)(_:(d=.back->S.std≠[]->∃ S0,Qe S0 S))(_:(∀ r,refS S d=some r->∀ u l H',H' u=some (.tup [.str "refused",.ref l])->H' l=some (.lst [.str r.name,.str "ValueError"])->Same H H'->H u=none->Q (.ref u) H'))(_:(refS S d=none->∀ u v A' S' H',H' u=some (.tup [.str "told",v])->X5 H' S d S' v->Zw ca H' A' S'->Pe A A' H->FrS A H H'->u∉A'.fp->Q (.ref u) H'))
theorem zbb(h:refS S d=none)(hc:∀ ms,d=.draw ms->∀ m∈ms,Ri m):Mq S d/\((d≠.close/\d≠.back)->S.std.length<100):=by
 cases d with
 | enrol n g c =>
   simp only[refS] at h;split at h;· cases h
   split at h;· cases h
   split at h;· cases h
   split at h;· cases h
   split at h;· cases h
   split at h;· cases h
   rename_i h1 h2 h3 h4 h5 h6;refine⟨⟨by omega,?_,h3,h4,by omega⟩,fun _=>by omega⟩;cases hc:S.cur with
   | none=>rfl
   | some s=>rw[hc] at h2;exact absurd rfl h2
 | away i n =>
   simp only[refS] at h;split at h;· cases h
   split at h;· cases h
   split at h
   ·split at h;· cases h
    split at h;· cases h
    rename_i h1 h2 h3 h4 h5;exact⟨⟨by omega,by omega,h3,h4⟩,fun _=>by omega⟩
   ·cases h
 | draw ms =>
   simp only[refS] at h;split at h;· cases h
   split at h;· cases h
   split at h;· cases h
   split at h;· cases h
   split at h;· cases h
   split at h;· cases h
   rename_i h1 h2 h3 h4 h5 h6;refine⟨⟨by omega,?_,by omega,fun m hm hb=>h4 ⟨m,hm,hb⟩,fun m hm hb=>h5 ⟨m,hm,hb⟩⟩,fun _=>by omega⟩;cases hc:S.cur with
   | none=>rfl
   | some s=>rw[hc] at h2;exact absurd rfl h2
 | close =>
   simp only[refS] at h;split at h;· cases h
   split at h;· cases h
   rename_i h1 h2;exact⟨⟨by omega,h2⟩,fun z=>absurd rfl z.1⟩
 | back =>
   simp only[refS] at h;split at h;· cases h
   rename_i h1;exact⟨h1,fun z=>absurd rfl z.2⟩
end G
namespace G
open PySem PySem.Spec PyProof.Rows L2
theorem zdr(h:refS S d=some r):r≠.noMatch:=by
 intro e;subst e;cases d<;>simp only[refS] at h<;>(repeat' split at h)<;>cases h
def refB(r:Ref):List V:=[.out,.known,.many,.unk,.manyM,.same,.noMatch,.noRound,.over,.seaOver,.away,.drawn,.notDrawn,.nothing,.manyD].map (fun t=>V.bl (decide (r=t)))++[V.bl true]
def refW:List Str:=["OutOfRange","KnownReferee","TooManyReferees","UnknownReferee","TooManyMatches","SameClub","NoSuchMatch","NoSuchRound","RoundOver","SeasonOver","AwayAlready","DrawnUp","NotDrawn","NothingToTakeBack","TooManyDeeds","ValueError"]
def refP(r:Ref)(i:Nat):Bool:=decide ((refB r)[i]?=some (V.bl true))
theorem zbc(r:Ref):((List.range 16).filter (refP r)).map (fun i=>V.str (refW.getD i ""))=[.str r.name,.str "ValueError"]:=by cases r<;>decide +kernel
theorem zds(r:Ref)(h:i<16):(refB r)[i]?=some (V.bl (refP r i)):=by
 have hl:i<(refB r).length:=h;have e:=zsi hl;obtain⟨b,hb⟩:∃ b,(refB r)[i]=V.bl b:=by
  rcases zsv.mp (show (refB r)[i]∈_++_ from ztm hl) with z|z
  ·obtain⟨t,_,e⟩:=zsq.mp z;exact⟨_,e.symm⟩
  ·exact⟨true,zsl.mp z⟩
 rw[hb] at e;unfold refP;rw[e];cases b
 ·rw[zsr fun z=>by cases z]
 ·rw[zsm rfl]
theorem zdt(h:i<16):(refW.map V.str)[i]?=some (V.str (refW.getD i "")):=by
 rw[zsn,zta];have:i<refW.length:=h;rw[zsi this];rfl
theorem zbd:ze1 (("OutOfRange KnownReferee TooManyReferees UnknownReferee TooManyMatches SameClub":Str)++(" NoSuchMatch NoSuchRound RoundOver SeasonOver AwayAlready DrawnUp":Str)++(" NotDrawn NothingToTakeBack TooManyDeeds ValueError":Str)) (" ":Str)=refW:=by decide +kernel
theorem X5.same(af:X5 H S d S' v)(e:Same H H'):X5 H' S d S' v:=by
 cases af with
 | enrol n g c=>exact .enrol n g c
 | awayN h hl=>exact .awayN h (e _ _ hl)
 | awayF h hp hl=>exact .awayF h hp (e _ _ hl)
 | awayC h hp hl tl CR=>exact .awayC h hp (e _ _ hl) (tl.same e) CR
 | draw hl F T=>exact .draw (e _ _ hl) F T
 | close h=>exact .close h
 | back h ht hs=>exact .back h (e _ _ ht) hs
theorem Pe.back(nx:Pe A A' H')(e:Same H H'):Pe A A' H:=by
 obtain⟨x,rfl,h⟩:=nx;exact⟨x,rfl,h.elim .inl fun z=>.inr (e.free z)⟩
end G
namespace G
open PySem PySem.Spec PyProof.Rows L2
theorem KeepI.none(kt:∀ t xs,H t=some (.tup xs)->H' t=some (.tup xs)):∀ {vs:List V} {ss:List (Xs×Option Z9)},(∀ x∈ss,x.2=none)->Ul C ok H vs ss->Ul C ok H' vs ss
 | _,_,_,.nil=>.nil
 | _,(d,s) :: ss,hn,.cons h hu hs r=>by
   have e:s=Option.none:=hn (d,s) zsz;subst e;exact .cons (kt _ _ h) (kt _ _ hu) hs (KeepI.none kt (fun x hx=>hn x (zsw _ hx)) r)
theorem Az(r:Ref):decide (r.name="")=false:=by cases r<;>decide +kernel
theorem A0(r:Ref):∀ w∈[r.name,("ValueError":Str)],PyData.strOk w=true:=by cases r<;>decide +kernel
structure I21(r i:Nat)(noted:List Int)(S:Sea):Prop where
 len:S.len=r
 led:S.led=[]
 cur:S.cur=none
 old:S.old=[]
 std:∀ x∈S.std,x.2=none
 sl:S.std.length<=i
 ol:S.out.length<=i
 z:(noted=[]/\S.ppl=[]/\S.std=[]/\S.out=[])\/∃ ds,noted=0 :: ds/\S.ppl=[(5,5,5)]/\S.out=ds.map fun i=>(i,5)
 e:i<=10->noted=[]
theorem Zy.app:∀ {ts us:List V} {R Q:List (List V)},Zy H ts R->Zy H us Q->Zy H (ts++us) (R++Q)
 | _,_,_,_,.nil,h=>h
 | _,_,_,_,.cons h r,h'=>.cons h (Zy.app r h')
end G
namespace G
open PySem PySem.Spec PyProof.Rows L2
structure zj8(n:Nat)(s:Z9):Prop where
 ms:s.ms.length<=20
 ml:s.may.length=s.ms.length
 fi:Yw s.may s.gv
 st:V8 s.may s.gv
 mo:∃ nu,Mm s.may nu
 gp:s.gaps.length<=n/\∀ x∈s.gaps,x.2.length<=100
theorem G3:decide (V.str (Wm D)=V.str "take back")=match D with|.back=>true|_=>false:=by
 cases D with
 | back=>exact strT
 | enrol n g c=>exact V0 (show decide (("enrol":Str)="take back")=false by decide +kernel)
 | away i n=>exact V0 (show decide (("away":Str)="take back")=false by decide +kernel)
 | draw ms=>exact V0 (show decide (("draw up":Str)="take back")=false by decide +kernel)
 | close=>exact V0 (show decide (("close":Str)="take back")=false by decide +kernel)
theorem A4(h:D≠.back):decide (V.str (Wm D)=V.str "take back")=false:=by
 rw[G3];cases D<;>first|rfl|exact absurd rfl h
section
variable{rows:List (List Int)}{gs0 hs:List V}{p:Nat}{n0:Int}
structure zj1(rows:List (List Int))(gs0 hs:List V)(p:Nat)(i:Nat)(L:List Nat)(q:Nat):Prop where
 len:L.length=i+1
 nd:L.Nodup
 mem:q∈L
 walk:Walk rows (gs0.set p .non) p q i
 df:∀ k∈L,k<gs0.length/\gs0[k]?≠hs[k]?
 back:∀ y∈L,y≠p->∃ x∈L,x≠q/\∃ n,hs[x]?=some (.int n)/\(gs0.set p .non)[y]?=some (.int n)
 full:∀ y∈L,gs0[y]?≠some .non
end
open Classical in
noncomputable def eq1(x y:V):Nat:=if x=y then 1 else 0
inductive StK(N:List Int):List (List Int)->List V->Nat->Nat->Nat->Prop where
 | nil:StK N [] [] 0 0 0
 | skip {rows:List (List Int)} {r:List Int} {ah:List V} {v:V} {f u k:Nat} (h:StK N rows ah f u k):StK N (rows++[r]) (ah++[v]) (2*f) u (k+eq1 .non v)
 | take {rows:List (List Int)} {r:List Int} {ah:List V} {v:V} {f u k b:Nat} {n:Int} (h:StK N rows ah f u k) (hb:N[b]?=some n) (hn:n∈r) (hu:u/2 ^ b%2=0):StK N (rows++[r]) (ah++[v]) (2*f+1) (u+2 ^ b) (k+eq1 (.int n) v)
structure zj2(N:List Int)(rows:List (List Int))(ah:List V)(best kept:Nat):Prop where
 at_:∃ u,StK N rows ah best u kept
 top:∀ f u k,StK N rows ah f u k->f<=best
 most:∀ u k,StK N rows ah best u k->k<=kept
open Classical in
structure zj9(R:Nat×Nat->Nat->Prop)(ps:List (Nat×Nat))(g:Nat×Nat->Nat):Prop where
 mem:∀ q,q∈ps↔∃ k,R q k
 at_:∀ q∈ps,R q (g q)
 top:∀ q k,R q k->k<=g q
section
variable{mb:Bool}{ok ok':Addr->Prop}{A A':SAd}{H H':Hp}{nu:List Int}{n m:Nat}{ds:List Addr}{d:Addr}{P:Pg}{S S':Sea}{D:Yg}
structure Z4(ok:Addr->Prop)(H:Hp)(ts:List V)(Ds:List Yg):Prop where
 len:ts.length=Ds.length
 at_:∀ (i:Nat) x,ts[i]?=some x->∃ t D,x=.ref t/\Ds[i]?=some D/\Z3 ok H t D
theorem Z4.snoc(h:Z4 ok H ts Ds)(hD:Z3 ok H t D):Z4 ok H (ts++[.ref t]) (Ds++[D]):=by
 obtain⟨h1,h2⟩:=h;refine⟨by rw[zsh,zsh,h1];rfl,fun i x hx=>?_⟩;rw[List.getElem?_append] at hx;split at hx
 ·rename_i hi;obtain⟨t',D',e1,e2,e3⟩:=h2 i x hx;exact⟨t',D',e1,by rw[ztb ⋯];exact e2,e3⟩
 ·rename_i hi;have:i-ts.length=0:=by
   have:=(zsj.mp hx).1;have e:[V.ref t].length=1:=rfl;omega
  rw[this] at hx;cases hx;exact⟨t,D,rfl,by rw[ztd ⋯,<- h1,this];rfl,hD⟩
theorem Z4.same(e:Same H H')(h:Z4 ok H ts Ds):Z4 ok H' ts Ds:=⟨h.len,fun i x hx=>by obtain⟨t,D,a,b,c⟩:=h.at_ i x hx;exact⟨t,D,a,b,c.same e⟩⟩
theorem Z4.imp(k:∀ x,ok x->ok' x)(h:Z4 ok H ts Ds):Z4 ok' H ts Ds:=⟨h.len,fun i x hx=>by obtain⟨t,D,a,b,c⟩:=h.at_ i x hx;exact⟨t,D,a,b,c.imp k⟩⟩
theorem Z3.keep(h:Z3 ok H t D)(k:∀ x o,ok x->H x=some o->H' x=some o)(kt:∀ t xs,H t=some (.tup xs)->H' t=some (.tup xs)):Z3 ok H' t D:=by
 cases D with
 | enrol a b c=>exact kt _ _ h
 | away a b=>exact kt _ _ h
 | draw ms =>
   obtain⟨l,ts,a1,a2,a3,a4⟩:=h;exact⟨l,ts,kt _ _ a1,k _ _ a4 a2,a3.mono kt,a4⟩
 | close=>exact kt _ _ h
 | back=>exact kt _ _ h
theorem Z4.keep(h:Z4 ok H ts Ds)(k:∀ x o,ok x->H x=some o->H' x=some o)(kt:∀ t xs,H t=some (.tup xs)->H' t=some (.tup xs)):Z4 ok H' ts Ds:=⟨h.len,fun i x hx=>by obtain⟨t,D,a,b,c⟩:=h.at_ i x hx;exact⟨t,D,a,b,c.keep k kt⟩⟩
theorem Z4.fr(f:FrN A A' H H')(h:Z4 (·∉A.fp) H ts Ds):Z4 (·∉A'.fp) H' ts Ds:=⟨h.len,fun i x hx=>by obtain⟨t,D,a,b,c⟩:=h.at_ i x hx;exact⟨t,D,a,b,c.fr f⟩⟩
end
def V5(w:Int×Int):Yg:=.away w.1 w.2
structure PgR(mb:Bool)(ok:Addr->Prop)(H:Hp)(nu:List Int)(n:Nat)(d:Addr)(P:Pg)(S:Sea):Prop where
 pg:zdl ok H d P
 rb:zhc mb P S
 so:SOk nu n S
open Classical in
noncomputable def Ls(ms:List P3):Str:=if 20<ms.length then "TooManyMatches" else if Vn ms then "OutOfRange" else if X4 ms then "SameClub" else ""
open Classical in
noncomputable def dueW(S:Sea)(D:Yg):Str:=match refS S D with|some r=>r.name|none=>""
inductive G4(K:Frag)(vs:List V)(H:Hp)(Q:VK)(_:XK):Prop where
 | mk(l:Addr)(ts:List V)(ms:List P3)(_:vs=[.ref l])(_:H l=some (.lst ts))(_:Zy H ts (ms.map pV))(_:ms.length<=100)(_:∀ H',Same H H'->Q (.str (Ls ms)) H')
theorem G5(ns:List Int):(ns.map V.int).all Ss=true:=List.all_eq_true.mpr fun x hx=>by obtain⟨_,_,rfl⟩:=zsq.mp hx;rfl
theorem Lu(b:Bool):atI [x,y] (if b=true then 1 else 0)=some (if b=true then y else x):=by cases b<;>rfl
theorem Ck(h0:¬ S.len<=S.led.length)(h1:¬ S.cur.isSome=true)(hs:S.std.length<100):dueW S (.draw ms)=Ls ms:=by
 unfold dueW Ls;simp only[refS];rw[if_neg h0,if_neg h1];by_cases c1:20<ms.length
 ·rw[if_pos c1,if_pos c1];rfl
 rw[if_neg c1,if_neg c1];by_cases c2:Vn ms
 ·rw[if_pos c2,if_pos c2];rfl
 rw[if_neg c2,if_neg c2];by_cases c3:X4 ms
 ·rw[if_pos c3,if_pos c3];rfl
 ·rw[if_neg c3,if_neg c3,if_neg ⋯]
theorem Sx(h:refS S D=some r):dueW S D=r.name:=by unfold dueW;rw[h]
theorem Sy(h:refS S D=none):dueW S D="":=by unfold dueW;rw[h]
theorem Zy.rep(h:Zy H ts (ms.map pV)):∀ k:Nat,Zy H (List.replicate k ts).flatten ((List.replicate k ms).flatten.map pV)
 | 0=>.nil
 | k+1=>by
   rw[ztv,ztv,zt6,zt6,zsp];exact h.app (Zy.rep h k)
def zi3(r o:Int)(dr:Bool)(lp ll:Addr):List (Key×V):=[(.inr "rounds",.int r),(.inr "over",.int o),(.inr "drawn",.bl dr),(.inr "people",.ref lp),(.inr "log",.ref ll)]
structure zjw(H:Hp)(d lp ll:Addr)(S:Sea):Prop where
 dd:H d=some (.dK (zi3 S.len S.led.length S.cur.isSome lp ll))
 pp:∃ pts,H lp=some (.lst pts)/\Zy H pts (S.ppl.map pV)
 gg:∃ lts,H ll=some (.lst lts)/\Zy H lts (S.std.map fun x=>Xb x.1)
 ne:lp≠ll
structure I22(S:Sea):Prop where
 out:S.out=[]
 std:∀ x∈S.std,x.2=none/\(x.1.1=("enrol":Str)\/x.1.1=("draw up":Str))
 last:∀ std0 x,S.std=std0++[x]->x.1.1=("enrol":Str)->S.cur=none
theorem Zy.unsnoc(h:Zy H ts (R++[r])):∃ ts0 t,ts=ts0++[.ref t]/\Zy H ts0 R/\H t=some (.tup r):=by
 induction R generalizing ts with
 | nil =>
   cases h with
   | cons h q=>cases q;exact⟨[],_,rfl,.nil,h⟩
 | cons x R ih =>
   cases h with
   | cons h q =>
     obtain⟨ts0,t,e,q0,ht⟩:=ih q;exact⟨_ :: ts0,t,by rw[e];rfl,.cons h q0,ht⟩
theorem G6{P:Program}{w:World}{H:Hp}{h:Heap}{a:Addr}{o:HO}(x:Yp P w H h a o):∃ ob,h.get? a=some ob:=by
 cases o with
 | lst xs=>obtain⟨_,_,_,_,e⟩:=x;exact⟨_,e⟩
 | tup xs=>obtain⟨_,_,_,ob,e,_⟩:=x;exact⟨_,e⟩
 | dK kvs=>obtain⟨_,_,_,_,o,_,_,e,_⟩:=x;exact⟨_,e⟩
 | dT kvs=>obtain⟨_,_,_,_,o,_,_,e,_⟩:=x;exact⟨_,e⟩
 | set S n=>obtain⟨o,_,_,_,e,_⟩:=x;exact⟨_,e⟩
 | ins C dx fs=>obtain⟨_,_,_,e,_⟩:=x;exact⟨_,e⟩
 | own y=>exact x
 | xd fs=>obtain⟨_,⟨_,_,_,e,_⟩,_⟩:=x;exact⟨_,e⟩
 | rng lo hi=>obtain⟨_,_,_,e⟩:=x;exact⟨_,e⟩
 | frz ob u=>obtain⟨e,_⟩:=x;exact⟨_,e⟩
 | tbl ps=>exact⟨_,x⟩
 | met f y=>exact⟨_,x⟩
 | ext φ=>obtain⟨_,e,_⟩:=x;exact e
def dxs:HO->List Addr
 | .ins _ dx _=>[dx]
 | .frz _ u=>dxs u
 | _=>[]
theorem zdu(x:Yp P w H h a o)(k:∀ b u,(b=a\/b∈dxs o)->h.get? b=some u->h'.get? b=some u)
  (ho:∀ b∈dxs o,H b=some (.own a)->H' b=some (.own a)) (ht:∀ b xs,H b=some (.tup xs)->H' b=some (.tup xs)):Yp P w H' h' a o:=by
 induction o with
 | lst xs=>obtain⟨z,its,n,r,e⟩:=x;exact⟨z,its,n,r,k _ _ (.inl rfl) e⟩
 | tup xs=>obtain⟨z,its,r,ob,e,c⟩:=x;exact⟨z,its,r,ob,k _ _ (.inl rfl) e,c⟩
 | dK kvs=>obtain⟨z,y,vs,r,ob,es,ep,e,c⟩:=x;exact⟨z,y,vs,r,ob,es,ep,k _ _ (.inl rfl) e,c⟩
 | dT kvs =>
   obtain⟨z,y,xs,r,ob,es,ep,e,c⟩:=x;exact⟨z,y,xs,Paired.mapP r fun p q z=>⟨z.1,ht _ _ z.2.1,z.2.2⟩,ob,es,ep,k _ _ (.inl rfl) e,c⟩
 | set S n=>obtain⟨ob,es,ep,t,e,c⟩:=x;exact⟨ob,es,ep,t,k _ _ (.inl rfl) e,c⟩
 | ins C dx fs =>
   obtain⟨d,z,ne,e,mA,⟨od,es,ep,e2,c⟩,r⟩:=x;exact⟨ho _ zsz d,z,ne,k _ _ (.inl rfl) e,mA,⟨od,es,ep,k _ _ (.inr zsz) e2,c⟩,r⟩
 | own y=>obtain⟨ob,e⟩:=x;exact⟨ob,k _ _ (.inl rfl) e⟩
 | xd fs=>obtain⟨mA,⟨od,es,ep,e,c⟩,r⟩:=x;exact⟨mA,⟨od,es,ep,k _ _ (.inl rfl) e,c⟩,r⟩
 | rng lo hi=>obtain⟨t,u,v,e⟩:=x;exact⟨t,u,v,k _ _ (.inl rfl) e⟩
 | frz ob u ih=>obtain⟨e,q⟩:=x;exact⟨k _ _ (.inl rfl) e,ih q k ho⟩
 | tbl ps =>
   have e:h.get? a=some { cls:=.none,data:=.fields ps }:=x;show h'.get? a=some { cls:=.none,data:=.fields ps };exact k a _ (.inl rfl) e
 | met f y =>
   have e:h.get? a=some (PySem.W.methodObj (.ref f) (.ref y)):=x;show h'.get? a=some (PySem.W.methodObj (.ref f) (.ref y));exact k a _ (.inl rfl) e
 | ext φ=>obtain⟨p,⟨o,e⟩,st⟩:=x;exact⟨st _ _ p fun o q=>k _ _ (.inl rfl) q,⟨o,k _ _ (.inl rfl) e⟩,st⟩
open Classical in
noncomputable def hide(B:Addr->Prop)(H:Hp):Hp:=fun b=>if B b then none else H b
open Classical in
noncomputable def Vp(B:Addr->Prop)(H H1:Hp):Hp:=fun b=>if B b then H b else H1 b
structure T5(B:Addr->Prop)(H:Hp):Prop where
 th:∀ b,B b->H b≠none
 cl:∀ a o,H a=some o->B a->∀ dx∈dxs o,B dx
 own:∀ a b,H b=some (.own a)->B b->B a
 tup:∀ t xs,B t->H t≠some (.tup xs)
section
variable{B:Addr->Prop}{H H1:Hp}{b:Addr}{o:HO}
theorem Up(h:B b):hide B H b=none:=if_pos h
theorem Yv(h:¬ B b):hide B H b=H b:=if_neg h
theorem Wf(h:B b):Vp B H H1 b=H b:=if_pos h
theorem Y5(h:¬ B b):Vp B H H1 b=H1 b:=if_neg h
theorem Q4(B:Addr->Prop)(H:Hp):Same (hide B H) H:=fun b o e=>by
 by_cases h:B b
 ·rw[Up h] at e;cases e
 ·rw[Yv h] at e;exact e
theorem Vg(h:H b=none):hide B H b=none:=by
 by_cases z:B b
 ·exact Up z
 ·rw[Yv z];exact h
end
section
variable{P:Program}{w:World}{K:Frag}{mg:Str->Option Value}{base:Heap}{B:Addr->Prop}{H H1:Hp}{s s':Shared}{outer:List Env}{A:Around}
theorem zdv(k:T5 B H)(x:HOk P w H h):HOk P w (hide B H) h:=fun a o e=>by
 by_cases z:B a
 ·rw[Up z] at e;cases e
 rw[Yv z] at e;refine(x a o e).stay (fun _ _ _ q=>q) (fun b q=>?_) (fun t xs q=>?_)
 ·rw[Yv fun y=>z (k.own a b q y)];exact q
 ·rw[Yv fun y=>k.tup t xs y q];exact q
theorem zdw(k:T5 B H)(e:Mu P w K mg base A outer s H):Mu P w K mg base A outer s (hide B H):=⟨e.frames,e.mod,fun b o q=>⟨(e.bs b o q).1,Vg (e.bs b o q).2⟩,e.bsz,e.funs,fun b q=>Vg (e.frf b q),zdv k e.hok,e.bare⟩
theorem G7(k:T5 B H)(e:Mu P w K mg base A outer s H)(u:Un (frs outer) [] (hide B H) H1 s.heap s'.heap):Un (frs outer) [] H (Vp B H H1) s.heap s'.heap:=by
 refine⟨fun b o q n hf hx=>u.keep b o q (Vg n) hf hx,fun b o q n hf hx=>u.slot b o q (Vg n) hf hx,fun b o q n hx=>?_,u.there,fun b xs q=>?_,fun b o x q=>?_,fun b ps q=>?_⟩
 ·rw[Y5 fun z=>k.th b z n];exact u.free b o q (Vg n) hx
 ·by_cases z:B b
  ·rw[Wf z];exact q
  ·rw[Y5 z];exact u.tups b xs (by rw[Yv z];exact q)
 ·by_cases z:B b
  ·rw[Wf z];exact q
  ·rw[Y5 z];exact u.frzs b o x (by rw[Yv z];exact q)
 ·by_cases z:B b
  ·exact⟨#[],by rw[Wf z,q,Array.append_empty]⟩
  ·rw[Y5 z];exact u.tbls b ps (by rw[Yv z];exact q)
theorem Ee(k:T5 B H)(e:Mu P w K mg base A outer s H)(u:Un (frs outer) [] (hide B H) H1 s.heap s'.heap)(z:B b):H1 b=none:=by
 cases q:H b with
 | none=>exact absurd q (k.th b z)
 | some o =>
   obtain⟨ob,hob⟩:=G6 (e.hok b o q);exact u.free b ob hob (Up z) (by simp)
theorem Kx(k:T5 B H)(e:Mu P w K mg base A outer s H)(u:Un (frs outer) [] (hide B H) H1 s.heap s'.heap)(x:HOk P w H1 s'.heap):HOk P w (Vp B H H1) s'.heap:=fun a o q=>by
 by_cases z:B a
 ·rw[Wf z] at q;refine zdu (e.hok a o q) (fun b v hb g=>?_) (fun b hb g=>?_) (fun t xs g=>?_)
  ·have zb:B b:=by
    rcases hb with rfl|hb
    ·exact z
    ·exact k.cl a o q z b hb
   refine u.keep b v g (Up zb) (fun y=>?_) (by simp);exact k.th b zb (e.frf b y)
  ·rw[Wf (k.cl a o q z b hb)];exact g
  ·rw[Y5 fun y=>k.tup t xs y g];exact u.tups t xs (by rw[Yv fun y=>k.tup t xs y g];exact g)
 ·rw[Y5 z] at q;refine(x a o q).stay (fun _ _ _ g=>g) (fun b g=>?_) (fun t xs g=>?_)
  ·rw[Y5 fun y=>by rw[Ee k e u y] at g;cases g];exact g
  ·rw[Y5 fun y=>by rw[Ee k e u y] at g;cases g];exact g
end
theorem Cm(h:∀ b,B b->H1 b=none):hide B (Vp B H H1)=H1:=funext fun b=>by
 by_cases z:B b
 ·rw[Up z,h b z]
 ·rw[Yv z,Y5 z]
inductive spF(sp:Sp)(vs:List V)(H:Hp)(Q:VK)(E:XK):Prop where
 | mk(B:Addr->Prop)(_:T5 B H)(_:sp vs (hide B H) (fun v H1=>(∀ b,B b->H1 b=none)->Q v (Vp B H H1)) (fun c o H1=>E c o (Vp B H H1)))
theorem FnOk.frame{P:Program}{w:World}{K:Frag}{mg:Str->Option Value}{base:Heap}{k:Nat}{f:Addr}{fd:FuncData}{ps:List Str}{sp:Sp}(F:FnOk P w K mg base (CX1 P w) k f fd ps sp):FnOk P w K mg base (CX1 P w) k f fd ps (spF sp):=by
 refine⟨fun vs H Q E ⟨B,_,h⟩=>F.len vs _ _ _ h,fun A outer s H args us vs Q E hr he hb hv ⟨B,ok,h⟩=>?_⟩;refine codeAny_mono (F.run A outer s (hide B H) args us vs _ _ hr (zdw ok he) hb hv h) fun r s' c=>?_;cases r with
 | ok d =>
   cases d with
   | ret u =>
     obtain⟨v,H',c1,c2,c3,c4,c5,c6⟩:=c;exact⟨v,_,c1,c2,G7 ok he c3,Kx ok he c3 c4,c5,c6 fun b z=>Ee ok he c3 z⟩
   | _=>exact c
 | error e =>
   obtain⟨a,T,cls,H',e1,c1,c2,c3,c4,c5,c6⟩:=c;refine⟨a,T,cls,_,e1,c1,c2,G7 ok he c3,Kx ok he c3 c4,?_,c6⟩;obtain⟨f1,f2,f3,f4,f5⟩:=c5;have nb:∀ {x:Addr},s.heap.get? x=none->H' x=none->Vp B H H' x=none:=fun {x} hx hn=>by
    by_cases z:B x
    ·cases q:H x with
     | none=>exact absurd q (ok.th x z)
     | some o =>
       obtain⟨ob,hob⟩:=G6 (he.hok x o q);rw[hx] at hob;cases hob
    ·rw[Y5 z];exact hn
   exact⟨f1,f2,f3,nb f2 f4,nb f3 f5⟩
inductive ze2(nu:List Int)(n:Nat):Sea->Prop where
 | nil {S:Sea} (e:S.std=[]) (o:SOk nu n S):ze2 nu n S
 | snoc {S0 S:Sea} (h:ze2 nu n S0) (st:Qe S0 S) (o:SOk nu n S):ze2 nu n S
theorem Vh(e:Same H H'):Same (hide B H) (hide B H'):=fun b o q=>by
 by_cases h:B b
 ·rw[Up h] at q;cases q
 ·rw[Yv h] at q ⊢;exact e _ _ q
theorem P2(k:∀ x o,H x=some o->¬ B x->H' x=some o)(hb:∀ x,B' x->B x\/H x=none):Same (hide B H) (hide B' H'):=fun b o q=>by
 by_cases h:B b
 ·rw[Up h] at q;cases q
 ·rw[Yv h] at q;have:¬ B' b:=fun z=>by
   rcases hb b z with y|y
   ·exact h y
   ·rw[q] at y;cases y
  rw[Yv this];exact k b o q h
theorem Ef(h:∀ b,B b->(∃ xs,H b=some (.lst xs))\/∃ kvs,H b=some (.dK kvs)):T5 B H:=by
 refine⟨fun b z e=>?_,fun a o e z dx hd=>?_,fun a b e z=>?_,fun t xs z e=>?_⟩
 ·rcases h b z with ⟨_,q⟩|⟨_,q⟩
  ·rw[e] at q;cases q
  ·rw[e] at q;cases q
 ·rcases h a z with ⟨_,q⟩|⟨_,q⟩
  ·rw[e] at q;cases q;cases hd
  ·rw[e] at q;cases q;cases hd
 ·rcases h b z with ⟨_,q⟩|⟨_,q⟩
  ·rw[e] at q;cases q
  ·rw[e] at q;cases q
 ·rcases h t z with ⟨_,q⟩|⟨_,q⟩
  ·rw[e] at q;cases q
  ·rw[e] at q;cases q
theorem Zw.keep0(h:Zw ca H A S)(hn:∀ x∈A.fp,∀ o,H x=some o->H' x=some o)(kt:∀ t xs,H t=some (.tup xs)->H' t=some (.tup xs))(ki:∀ x c e f,H x=some (.ins c e f)->H' x=some (.ins c e f))(hc:S.cur=none)(ho:S.old=[])(hs:∀ x∈S.std,x.2=none):Zw ca H' A S:=by
 obtain⟨⟨dx,v,a1,a2⟩,b,c,⟨kvs0,d1,d2⟩,⟨vs,f1,f2⟩,⟨us,g1,g2⟩,nd,np⟩:=h;have hp:A.p∈A.fp:=by simp[SAd.fp]
 have hdr:A.dr∈A.fp:=by simp[SAd.fp]
 have hlr:A.lr∈A.fp:=by simp[SAd.fp]
 have hld:A.ld∈A.fp:=by simp[SAd.fp]
 have hda:A.da∈A.fp:=by simp[SAd.fp]
 have hls:A.ls∈A.fp:=by simp[SAd.fp]
 have hlt:A.lt∈A.fp:=by simp[SAd.fp]
 obtain⟨⟨dxr,kvr,r1,r2,r3⟩,ndr⟩:=b;obtain⟨⟨dxl,l1⟩,l2,l3⟩:=id c;rw[hc] at a2;rw[ho] at f2;refine⟨⟨dx,v,hn _ hp _ a1,by rw[hc];exact a2⟩,⟨⟨dxr,kvr,ki _ _ _ _ r1,hn _ hdr _ r2,r3.mono kt⟩,ndr⟩,c.keep (fun o e=>?_) (hn _ hlr) (hn _ hld) kt,⟨kvs0,hn _ hda _ d1,d2⟩,⟨vs,hn _ hls _ f1,by rw[ho];cases f2;exact .nil⟩,⟨us,hn _ hlt _ g1,KeepI.none kt hs g2⟩,nd,np⟩;rw[l1] at e;cases e;exact ki _ _ _ _ l1
theorem Zw.hide0(h:Zw ca H A S)(hb:∀ b,B b->b∉A.fp/\((∃ xs,H b=some (.lst xs))\/∃ kvs,H b=some (.dK kvs)))(hc:S.cur=none)(ho:S.old=[])(hs:∀ x∈S.std,x.2=none):Zw ca (hide B H) A S:=by
 refine h.keep0 (fun x hx o e=>?_) (fun t xs e=>?_) (fun x c d f e=>?_) hc ho hs
 ·rw[Yv fun z=>(hb x z).1 hx];exact e
 ·refine(Yv fun z=>?_).trans e;rcases(hb t z).2 with ⟨_,q⟩|⟨_,q⟩
  ·rw[e] at q;cases q
  ·rw[e] at q;cases q
 ·refine(Yv fun z=>?_).trans e;rcases(hb x z).2 with ⟨_,q⟩|⟨_,q⟩
  ·rw[e] at q;cases q
  ·rw[e] at q;cases q
structure D22(nu:List Int)(D:Yg):Prop where
 aw:∀ i n,D≠.away i n
 dr:∀ ms,D=.draw ms->ms=[]
 sm:Nw D
 en:∀ k g c,D=.enrol k g c->k∈nu\/badI k g c
section
variable{B:Addr->Prop}{H H' H1 H2:Hp}{b:Addr}{o:HO}
theorem Cn(h:Same (hide B H) H2):Same H (Vp B H H2):=fun x o e=>by
 by_cases z:B x
 ·rw[Wf z];exact e
 ·rw[Y5 z];exact h _ _ (by rw[Yv z];exact e)
theorem G8(g:∀ b,B b->H2 b=none):Same H2 (Vp B H H2):=fun x o e=>by
 by_cases z:B x
 ·rw[g x z] at e;cases e
 ·rw[Y5 z];exact e
theorem zhe{K:Frag}{le:Addr}{xs:List V}(h:SqL K H b xs)(hl:H le=none)(k:∀ x o,x≠le->H x=some o->H' x=some o):SqL K H' b xs:=by
 rcases h with (h|⟨u,h⟩)|h
 ·exact .inl (.inl (k _ _ (Zh h hl) h))
 ·exact .inl (.inr ⟨u,k _ _ (Zh h hl) h⟩)
 ·exact .inr h
end
def B22(d lp ll ln le:Addr):Addr->Prop:=fun x=>x=d\/x=lp\/x=ll\/x=ln\/x=le
structure zka(ca:CA)(nu:List Int)(d lp ll ln le:Addr)(A:SAd)(S:Sea)(n:Nat)(H:Hp):Prop where
 sea:Zw ca (hide (B22 d lp ll ln le) H) A S
 st:zjw H d lp ll S
 i:I22 S
 hi:ze2 nu n S
 lv:H ln=some (.lst (nu.map V.int))
 lw:∃ ys,H le=some (.lst ys)
 nl:lp≠ln/\ll≠ln
 ne:lp≠le/\ll≠le
end G
namespace L2
open PySem PySem.Spec PyProof.Rows G
open AutoSeq1 (wpAny_loadPart')
open MeetsSeq SeqAt
theorem Ii(l:Addr)(items:Array Value)(n:Nat)(x:Value)(e:Value->Bool)(j:Nat)(hj:j<items.size)(hit:e items[j]=true)(k:Nat)(hs1:items.size<=sizeLine) :
  ∀ i:Nat,j-i=k->i<=j->(∀ m (hm:m<items.size),i<=m->m<j->e items[m]=false)->PySem.Meets (Builtin.«list.remove.loop» ⟨[.ref l,x,rawInt i],[]⟩)
    (fun A R s=>s.heap.get? l=some { cls:=.type "list",dict:=none,data:=.seq items n,slots:=#[] }/\(∀ y,y∈items->EqAt A.in1 s y x (e y))/\R (.ok (.ret .none)) { s with heap:=s.heap.update l (Obj.mapSeq fun xs=>xs.eraseIdxIfInBounds j) }):=by
 induction k with
 | zero =>
   intro i hk hij hno prog w A R s h;obtain⟨hp,g,d,tk,os⟩:=s;obtain⟨hl,he,h⟩:=h;have hij':i=j:=by omega
   subst hij'
   wp_walk using wpAny_loadPart' hl
   have hi:items[((i:Nat):Int).toNat]?=some items[i]:=by simp[hj]
   rw[hi];refine wpAny_bind (he _ (Array.getElem_mem hj) prog w _ _ ?_);rw[hit];have hz':(items.eraseIdxIfInBounds i).size<=sizeLine+1:=zs3 (size_erased items _) (ztr hs1)
   wp_walk using (wpAny_updateSeq hl rfl (hz:=hs1) (_hz':=hz')),wpAny_loadPart' hl
   simpa using h
 | succ k ih =>
   intro i hk hij hno prog w A R s h;obtain⟨hp,g,d,tk,os⟩:=s;obtain⟨hl,he,h⟩:=h;have hlt:i<items.size:=by omega
   wp_walk using wpAny_loadPart' hl
   have hi:items[((i:Nat):Int).toNat]?=some items[i]:=by simp[hlt]
   have hc:((i:Int)+1)=((i+1:Nat):Int):=by push_cast;rfl
   rw[hi];refine wpAny_bind (he _ (Array.getElem_mem hlt) prog w _ _ ?_);rw[hno i hlt (zso _) ⋯]
   wp_walk
   rw[hc];exact⟨plainId_quiet plain_remove_loop _,codeAny_builtin entry_remove_loop (by
    rw[Around.under_plainId plain_remove_loop _];exact ih (i+1) ⋯ ⋯ (fun m hm h1 h2=>hno m hm ⋯ h2) prog w A R _ ⟨hl,he,h⟩)⟩
theorem Ij(l:Addr)(items:Array Value)(n:Nat)(x:Value)(e:Value->Bool)(j:Nat)(hj:j<items.size)
  (hit:e items[j]=true) (hno:∀ m (hm:m<items.size),m<j->e items[m]=false) (hs1:items.size<=sizeLine) :
  PySem.Meets (Builtin.«list.remove» ⟨[.ref l,x],[]⟩)
   (fun A R s=>s.heap.get? l=some { cls:=.type "list",dict:=none,data:=.seq items n,slots:=#[] }/\(∀ y,y∈items->EqAt A.in1 s y x (e y))/\R (.ok (.ret .none)) { s with heap:=s.heap.update l (Obj.mapSeq fun xs=>xs.eraseIdxIfInBounds j) }):=by
 intro prog w A R s h;obtain⟨hp,g,d,tk,os⟩:=s;obtain⟨hl,he,h⟩:=h
 wp_walk using wpAny_loadPart' hl
 exact⟨plainId_quiet plain_remove_loop _,codeAny_builtin entry_remove_loop (by
  rw[Around.under_plainId plain_remove_loop _];exact Ii l items n x e j hj hit _ hs1 0 rfl (zs1 _) (fun m hm _ h2=>hno m hm h2) prog w A R _ ⟨hl,he,h⟩)⟩
inductive zi4(K:Frag)(x:V)(vs:List V)(H:Hp)(Q:VK):Prop where
 | mk(l t:Addr)(ts:List V)(a b:Int)(ps:List (Int×Int))(j:Nat)(_:x=.ref l)(_:vs=[.ref t])(_:H l=some (.lst ts))(_:SqT K H t [.int a,.int b])(_:Zy H ts (ps.map oiV))(_:ps[j]?=some (a,b))(_:(∀ m,m<j->ps[m]?≠some (a,b)))(_:Q .non (upd H l (.lst (ts.eraseIdx j))))
theorem zdx(p q:Int×Int):PyData.eqv (toPy (Xq p)) (toPy (Xq q))=decide (p=q):=by
 have:=Nu (a:=q.1) (b:=q.2) [p];rw[zst,Xa,zt9] at this;simp only[List.map_nil,Xa,List.any_nil,Bool.or_false] at this;rw[this];exact decide_eq_decide.mpr ⟨fun h=>(zsl.mp h).symm,fun h=>zsl.mpr h.symm⟩
theorem G9:∀ (ps:List (Int×Int)) (m:Nat),(Xa (ps.map Xq))[m]?=ps[m]?.map fun p=>toPy (Xq p)
 | [],m=>by simp[Xa]
 | p :: ps,0=>by simp[Xa]
 | p :: ps,m+1=>by rw[zst,Xa,List.getElem?_cons_succ,List.getElem?_cons_succ];exact G9 ps m
theorem Bs{X:Cx}{K:Frag}(hK:X.K=K)(hu:X.A.units+64<cLine):MtM X "list.remove" (zi4 K):=by
 subst hK;intro pins s σ H x vs v us Q I rx rv h;obtain⟨l,t,ts,a,b,ps,j,rfl,rfl,hH,ht,tl,hj,hno,q⟩:=h;have rx0:=rx;cases rx;obtain⟨u,rfl,ru⟩:=rv.one;obtain⟨as,r1⟩:=Is.reads I (Is.tup ht (.cons (.int a) (.cons (.int b) .nil)):Is X.K H (.ref t) (Xq (a,b))) ru;have r1:Reads s.heap u (toPy (Xq (a,b))) as:=r1;obtain⟨bs,r2⟩:=Is.reads I (Is.lst (SqL.of hH) (Ku tl)) rx0;rw[toPy] at r2;obtain⟨z,its,n,r,hl,e⟩:=I.lstM hH;have hall:∃ bs',ReadsAll s.heap its (Xa (ps.map Xq)) bs':=by
  cases r2 with
  | list h1 h2 h3 h4 =>
    rw[e] at h1;cases h1;cases h3;exact⟨_,by simpa using h4⟩
 obtain⟨bs',hall⟩:=hall;have hmap:=readsAll_map _ _ _ (Q0 ps) hall;have hlen:its.length=ps.length:=by rw[<- hl,tl.length,zsg]
 have ev:∀ (m:Nat) (hm:m<its.toArray.size) (p:Int×Int),ps[m]?=some p->PyData.eqv (readOf s.heap (its.toArray[m]'hm)) (toPy (Xq (a,b)))=decide (p=(a,b)):=fun m hm p hp=>by
  have h1:(its.map (readOf s.heap))[m]?=some (readOf s.heap (its.toArray[m]'hm)):=by
   rw[zsn,show its[m]?=some (its.toArray[m]'hm) by simp];rfl
  rw[hmap,G9,hp] at h1;rw[<- Option.some.inj h1];exact zdx p (a,b)
 have hjl:j<its.toArray.size:=by
  have:=(zsj.mp hj).1;rw[zss];omega
 have hd:(toPy (Xq (a,b))).depth=1:=rfl;have hroom:∀ A:Around,A.units=X.A.units->A.units+1+min (PyData.depthAll (Xa (ps.map Xq))) (toPy (Xq (a,b))).depth<cLine:=fun A hA=>by
  have:=Nat.min_le_right (PyData.depthAll (Xa (ps.map Xq))) (toPy (Xq (a,b))).depth;rw[hd] at this ⊢;omega
 refine call_meets PySem.F.slot_list_remove ⟨_,e,rfl⟩ PySem.F.entry_list_remove (PySem.F.args_list_remove_2 _ _) (Ij l its.toArray n u (fun y=>PyData.eqv (readOf s.heap y) (toPy (Xq (a,b)))) j hjl (by rw[ev j hjl _ hj];exact zsm rfl) (fun m hm hmj=>?_) (by rw[zss];omega)) ⟨e,fun y hy=>?_,?_⟩
 ·have hmp:m<ps.length:=by rw[zss] at hm;omega
  rw[ev m hm _ (zsi hmp)];exact zsr fun z=>hno m hmj (by rw[zsi hmp,z])
 ·exact items_eqAt (by simpa using hall) r1 (Q0 ps) rfl (hroom _ rfl) y hy
 ·refine⟨.non,_,I.lset (its':=its.eraseIdx j) hH e ?_ (r.eraseIdx j) ?_,rfl,q⟩
  ·show its.toArray.eraseIdxIfInBounds j=(its.eraseIdx j).toArray;rw[List.eraseIdxIfInBounds_toArray]
  ·have:=Ge ts j;omega
end L2
namespace G
open PySem PySem.Spec PyProof.Rows L2
def DrX(S0 S:Sea):Prop:=∀ d y,S.std=S0.std++[(d,y)]->(d.1=("draw up":Str)/\S0.cur=none)\/(d.1≠("draw up":Str)/\S0.cur.isSome=S.cur.isSome)
inductive Tb(E:Sea->Prop)(nu:List Int)(n:Nat):Sea->Prop where
 | nil {S:Sea} (e:S.std=[]) (o:SOk nu n S) (x:E S):Tb E nu n S
 | snoc {S0 S:Sea} (h:Tb E nu n S0) (st:Qe S0 S) (dr:DrX S0 S) (o:SOk nu n S) (x:E S):Tb E nu n S
section
variable{E:Sea->Prop}{nu:List Int}{n m:Nat}{S S':Sea}{D:Yg}{v:V}{H':Hp}
theorem Tb.ok(h:Tb E nu n S):SOk nu n S:=by
 cases h with
 | nil e o=>exact o
 | snoc h st dr o=>exact o
theorem Tb.mono(h:Tb E nu n S)(e:n<=m):Tb E nu m S:=by
 induction h with
 | nil z o x=>exact .nil z (o.mono e) x
 | snoc h st dr o x ih=>exact .snoc ih st dr (o.mono e) x
theorem Tb.back(h:Tb E nu n S)(hne:S.std≠[]):∃ S0,Qe S0 S/\DrX S0 S/\Tb E nu n S0:=by
 cases h with
 | nil e o=>exact absurd e hne
 | snoc h st dr o=>exact⟨_,st,dr,h⟩
theorem Oy(h:l++[(a,b)]=l++[(c,d)]):a=c:=by
 have:=List.append_cancel_left h;cases this;rfl
theorem zbe(g:Mq S D)(af:X5 H' S D S' v)(hb:D≠.back)(hc:D≠.close):DrX S S':=by
 have w1:("enrol":Str)≠"draw up":=by decide +kernel
 have w2:("away":Str)≠"draw up":=by decide +kernel
 cases af with
 | enrol k gr c=>exact fun d y e=>.inr ⟨by rw[<- Oy e];exact w1,rfl⟩
 | awayN h hl=>exact fun d y e=>.inr ⟨by rw[<- Oy e];exact w2,rfl⟩
 | awayF h hp hl=>exact fun d y e=>.inr ⟨by rw[<- Oy e];exact w2,by rw[h];rfl⟩
 | awayC h hp hl tl CR=>exact fun d y e=>.inr ⟨by rw[<- Oy e];exact w2,by rw[h];rfl⟩
 | draw hl F T=>exact fun d y e=>.inl ⟨by rw[<- Oy e],g.2.1⟩
 | close h=>exact absurd rfl hc
 | back h ht hs=>exact absurd rfl hb
theorem Tb.after(h:Tb E nu n S)(g:Mq S D)(af:X5 H' S D S' v)(hn:∀ k gr c,D=.enrol k gr c->k∈nu)(hx:D≠.back->E S'):Tb E nu (n+1) S':=by
 by_cases hb:D=.back
 ·subst hb;cases af with
  | @back S0 dd t hs _ hst =>
    obtain⟨S1,h1,_,h2⟩:=h.back g;have e:=G1 hst h1;subst e;exact h2.mono (zul n)
 ·obtain⟨o',ho⟩:=zdo h.ok g af hb hn;rcases ho with ⟨_,e1,_⟩|⟨hc,st⟩
  ·exact .nil e1 o' (hx hb)
  ·exact .snoc (h.mono (zul n)) st (zbe g af hb hc) o' (hx hb)
end
def Xf(r o:Int)(dr:Bool)(lp lo ll:Addr):List (Key×V):=[(.inr "rounds",.int r),(.inr "over",.int o),(.inr "drawn",.bl dr),(.inr "people",.ref lp),(.inr "out",.ref lo),(.inr "log",.ref ll)]
structure Oz(H:Hp)(d lp lo ll:Addr)(S:Sea):Prop where
 dd:H d=some (.dK (Xf S.len S.led.length S.cur.isSome lp lo ll))
 pp:H lp=some (.lst ((S.ppl.map (·.1)).map V.int))
 oo:∃ ots,H lo=some (.lst ots)/\Zy H ots (S.out.map oiV)
 gg:∃ lts,H ll=some (.lst lts)/\Zy H lts (S.std.map fun x=>Xb x.1)
 n1:lp≠lo
 n2:lp≠ll
 n3:lo≠ll
theorem Oz.mono{H H':Hp}{d lp lo ll:Addr}{S:Sea}(X:Oz H d lp lo ll S)(k:∀ x,x=d\/x=lp\/x=lo\/x=ll->∀ o,H x=some o->H' x=some o)(kt:∀ t xs,H t=some (.tup xs)->H' t=some (.tup xs)):Oz H' d lp lo ll S:=by
 obtain⟨a,b,⟨pts,p1,p2⟩,⟨lts,g1,g2⟩,n1,n2,n3⟩:=X;exact⟨k _ (.inl rfl) _ a,k _ (.inr (.inl rfl)) _ b,⟨pts,k _ (.inr (.inr (.inl rfl))) _ p1,p2.mono kt⟩,⟨lts,k _ (.inr (.inr (.inr rfl))) _ g1,g2.mono kt⟩,n1,n2,n3⟩
theorem Oz.same{H H':Hp}{d lp lo ll:Addr}{S:Sea}(X:Oz H d lp lo ll S)(e:Same H H'):Oz H' d lp lo ll S:=X.mono (fun _ _ _ z=>e _ _ z) (fun _ _ z=>e _ _ z)
def ze3(d lp lo ll:Addr)(S':Sea)(H:Hp)(Q:VK):Prop:=∀ (ll':Addr) (H':Hp),Oz H' d lp lo ll' S'->(∀ x o,H x=some o->x≠d->x≠lp->x≠lo->x≠ll->H' x=some o)->(ll'=ll\/H ll'=none)->Q .non H'
def B23(d lp lo ll:Addr)(X:Addr->Prop):Addr->Prop:=fun x=>x=d\/x=lp\/x=lo\/x=ll\/X x
structure In23(ca:CA)(E:Sea->Prop)(nu:List Int)(d lp lo ll:Addr)(X:Addr->Prop)(A:SAd)(S:Sea)(n:Nat)(H:Hp):Prop where
 sea:Zw ca (hide (B23 d lp lo ll X) H) A S
 st:Oz H d lp lo ll S
 hi:Tb E nu n S
 xs:∀ x,X x->∃ ys,H x=some (.lst ys)
 nx:∀ x,X x->x≠lp/\x≠lo/\x≠ll
section
variable{ca:CA}{E:Sea->Prop}{nu:List Int}{d lp lo ll ll':Addr}{X:Addr->Prop}{A A':SAd}{S S':Sea}{n:Nat}{H H' H1 H2 H3 H4:Hp}{D:Yg}{v:V}
theorem In23.same(h:In23 ca E nu d lp lo ll X A S n H)(e:Same H H'):In23 ca E nu d lp lo ll X A S n H' :=
 ⟨h.sea.same (Vh e),h.st.same e,h.hi,fun x z=>(h.xs x z).imp fun _ y=>e _ _ y,h.nx⟩
theorem In23.mono(h:In23 ca E nu d lp lo ll X A S n H)(e:n<=m):In23 ca E nu d lp lo ll X A S m H:=⟨h.sea,h.st,h.hi.mono e,h.xs,h.nx⟩
theorem In23.dne(h:In23 ca E nu d lp lo ll X A S n H):d≠lp/\d≠lo/\d≠ll/\∀ x,X x->d≠x:=by
 obtain⟨_,p1,_⟩:=h.st.oo;obtain⟨_,g1,_⟩:=h.st.gg;exact⟨Ye h.st.dd h.st.pp (by intro z;cases z),Ye h.st.dd p1 (by intro z;cases z),Ye h.st.dd g1 (by intro z;cases z),fun x z=>by obtain⟨_,y⟩:=h.xs x z;exact Ye h.st.dd y (by intro z;cases z)⟩
theorem In23.off(h:In23 ca E nu d lp lo ll X A S n H)(k:∀ x o,¬ X x->H x=some o->H' x=some o)(hx:∀ x,X x->∃ ys,H' x=some (.lst ys)):In23 ca E nu d lp lo ll X A S n H':=by
 refine⟨h.sea.same (P2 (fun x o e nb=>k x o (fun z=>nb (.inr (.inr (.inr (.inr z))))) e) fun _ z=>.inl z),h.st.mono (fun x hx' o e=>k x o (fun z=>?_) e) (fun t xs e=>k t _ (fun z=>?_) e),h.hi,hx,h.nx⟩
 ·obtain⟨n1,n2,n3⟩:=h.nx x z;rcases hx' with e|e|e|e
  ·exact h.dne.2.2.2 x z e.symm
  ·exact n1 e
  ·exact n2 e
  ·exact n3 e
 ·obtain⟨_,y⟩:=h.xs t z;rw[e] at y;cases y
theorem In23.there(h:In23 ca E nu d lp lo ll X A S n H)(z:B23 d lp lo ll X b):(∃ xs,H b=some (.lst xs))\/∃ kvs,H b=some (.dK kvs):=by
 rcases z with rfl|rfl|rfl|rfl|z
 ·exact .inr ⟨_,h.st.dd⟩
 ·exact .inl ⟨_,h.st.pp⟩
 ·exact .inl (h.st.oo.imp fun _ z=>z.1)
 ·exact .inl (h.st.gg.imp fun _ z=>z.1)
 ·exact .inl (h.xs b z)
theorem In23.hok(h:In23 ca E nu d lp lo ll X A S n H):T5 (B23 d lp lo ll X) H:=Ef fun _ z=>h.there z
theorem In23.out(h:In23 ca E nu d lp lo ll X A S n H)(z:H b=none):¬ B23 d lp lo ll X b:=fun y=>h.hok.th b y z
theorem In23.stay(h:In23 ca E nu d lp lo ll X A S n H1)(kt:∀ t xs,hide (B23 d lp lo ll X) H1 t=some (.tup xs)->H2 t=some (.tup xs)):Oz (Vp (B23 d lp lo ll X) H1 H2) d lp lo ll S :=
 h.st.mono (fun x hx o e=>by
  rw[Wf (by rcases hx with z|z|z|z<;>simp[B23,z])];exact e) fun t xs e=>by
  have nb:¬ B23 d lp lo ll X t:=fun z=>h.hok.tup t xs z e;rw[Y5 nb];exact kt _ _ (by rw[Yv nb];exact e)
theorem In23.moved(h:In23 ca E nu d lp lo ll X A S n H1)(SA:Zw ca (hide (B23 d lp lo ll X) H3) A' S')(f:FrN A A' (hide (B23 d lp lo ll X) H1) (hide (B23 d lp lo ll X) H3))(kb:∀ x o,B23 d lp lo ll X x->H1 x=some o->H3 x=some o)(af:X5 H' S D S' v)(g:Mq S D)(hn:∀ k gr c,D=.enrol k gr c->k∈nu)(hE:D≠.back->E S')
  (Y:Oz H4 d lp lo ll' S') (k:∀ x o,H3 x=some o->x≠d->x≠lp->x≠lo->x≠ll->H4 x=some o) (hl:ll'=ll\/H3 ll'=none) :
  In23 ca E nu d lp lo ll' X A' S' (n+1) H4/\FrN A A' (hide (B23 d lp lo ll X) H1) (hide (B23 d lp lo ll' X) H4)/\∀ x o,X x->H1 x=some o->H4 x=some o:=by
 have hm:Same (hide (B23 d lp lo ll X) H3) (hide (B23 d lp lo ll' X) H4):=P2 (fun x o e nb=>k x o e (fun z=>nb (.inl z)) (fun z=>nb (.inr (.inl z))) (fun z=>nb (.inr (.inr (.inl z)))) (fun z=>nb (.inr (.inr (.inr (.inl z)))))) fun x hx=>by
  rcases hx with z|z|z|z|z
  ·exact .inl (.inl z)
  ·exact .inl (.inr (.inl z))
  ·exact .inl (.inr (.inr (.inl z)))
  ·rcases hl with y|y
   ·exact .inl (.inr (.inr (.inr (.inl (z.trans y)))))
   ·exact .inr (by rw[z];exact y)
  ·exact .inl (.inr (.inr (.inr (.inr z))))
 have hX:∀ x o,X x->H1 x=some o->H4 x=some o:=fun x o z e=>by
  obtain⟨n1,n2,n3⟩:=h.nx x z;exact k _ _ (kb _ _ (.inr (.inr (.inr (.inr z)))) e) (h.dne.2.2.2 x z).symm n1 n2 n3
 refine⟨⟨SA.same hm,Y,h.hi.after g af hn hE,fun x z=>(h.xs x z).imp fun ys y=>hX _ _ z y,fun x z=>?_⟩,f.trans (.of hm),hX⟩;obtain⟨n1,n2,n3⟩:=h.nx x z;refine⟨n1,n2,?_⟩;rcases hl with y|y
 ·rw[y];exact n3
 ·obtain⟨ys,w⟩:=h.xs x z;exact Zh (kb _ _ (.inr (.inr (.inr (.inr z)))) w) y
end
theorem X5.aw(af:X5 H' S (.away i n) S' v):S'.len=S.len/\S'.led=S.led/\S'.ppl=S.ppl/\S'.out=S.out++[(i,n)]/\S'.std=S.std++[((("away":Str),n,i),S.cur)]/\S'.cur.isSome=S.cur.isSome:=by
 cases af with
 | awayN hh hl=>exact⟨rfl,rfl,rfl,rfl,rfl,rfl⟩
 | awayF hh hp hl=>exact⟨rfl,rfl,rfl,rfl,rfl,by rw[hh];rfl⟩
 | awayC hh hp hl tl CR=>exact⟨rfl,rfl,rfl,rfl,rfl,by rw[hh];rfl⟩
theorem ze4(l:List α)(x:α):(l++[x])[l.length]?=some x:=by simp
theorem Bt(l:List α)(x:α):(l++[x]).eraseIdx l.length=l:=by
 induction l with
 | nil=>rfl
 | cons y l ih=>show y :: (l++[x]).eraseIdx l.length=_;rw[ih]
theorem ze5(h:x∉l)(m:Nat)(hm:m<l.length):(l++[x])[m]?≠some x:=by
 rw[ztb hm];exact fun z=>h (zsu z)
structure D23(nu:List Int)(j:Nat)(D:Yg):Prop where
 dr:∀ ms,D=.draw ms->ms=[]
 sm:Nw D
 en:∀ k g c,D=.enrol k g c->nu[j]?=some k/\1<=g/\g<=9/\1<=c/\c<=99
theorem Co(h:¬ badM m):Ri m:=by
 unfold badM at h;exact⟨Yd ⋯ ⋯,Yd ⋯ ⋯,Yd ⋯ ⋯⟩
structure E24(S:Sea):Prop where
 ppl:S.ppl=[]
 out:S.out=[]
 st:(S.cur=none/\S.std=[])\/∃ s,S.cur=some s/\S.std=[((("draw up":Str),(s.ms.length:Int),atV S),none)]
 gv:∀ s,S.cur=some s\/s∈S.old->s.gv=List.replicate s.ms.length V.non
inductive ze6(ok:Addr->Prop)(H:Hp):List V->List Z9->Prop where
 | nil:ze6 ok H [] []
 | cons {l:Addr} {ts:List V} {ls:List V} {s:Z9} {ss:List Z9} (h:H l=some (.lst ts)) (q:Zy H ts (s.ms.map pV)) (o:ok l) (r:ze6 ok H ls ss):ze6 ok H (.ref l :: ls) (s :: ss)
def zi5(r:Int)(lv:Addr)(v:V):List (Key×V):=[(.inr "rounds",.int r),(.inr "over",.ref lv),(.inr "listed",v)]
structure zjx(ok:Addr->Prop)(H:Hp)(d lv:Addr)(v:V)(S:Sea):Prop where
 dd:H d=some (.dK (zi5 S.len lv v))
 vv:∃ ls,H lv=some (.lst ls)/\ze6 ok H ls S.old
 li:zhb ok H v (S.cur.map (·.ms))
def B24(d lv lc:Addr):Addr->Prop:=fun x=>x=d\/x=lv\/x=lc
structure zkb(K:Frag)(ca:CA)(d lv lc b:Addr)(cs ns:List Int)(v:V)(A:SAd)(S:Sea)(n:Nat)(H:Hp):Prop where
 sea:Zw ca (hide (B24 d lv lc) H) A S
 st:zjx (fun x=>x∉A.fp/\¬ B24 d lv lc x) H d lv v S
 e:E24 S
 so:SOk [] n S
 cl:H lc=some (.lst (cs.map V.int))
 sc:zi1 K A (hide (B24 d lv lc) H) b (ns.map V.int)
def E25(_:Sea):Prop:=True
inductive Runs:Sea->List Yg->Sea->Prop where
 | nil {S:Sea}:Runs S [] S
 | ref {S S':Sea} {D:Yg} {Ds:List Yg} {r:Ref} (h:refS S D=some r) (t:Runs S Ds S'):Runs S (D :: Ds) S'
 | done {S S1 S':Sea} {D:Yg} {Ds:List Yg} {v:V} {H:Hp} (h:refS S D=none) (g:Mq S D) (af:X5 H S D S1 v) (t:Runs S1 Ds S'):Runs S (D :: Ds) S'
inductive Can:Sea->List Yg->Prop where
 | nil {S:Sea}:Can S []
 | cons {S:Sea} {D:Yg} {Ds:List Yg} (hb:D=.back\/D=.close->refS S D=none) (hw:D=.back->∀ S0 d,S.std=S0++[d]->d.1.1≠("enrol":Str)) (hl:D≠.back/\D≠.close->S.led.length<S.len) (hr:∀ r,refS S D=some r->Can S Ds) (hd:∀ S1 v H,refS S D=none->Mq S D->X5 H S D S1 v->Can S1 Ds):Can S (D :: Ds)
def X2(D:Yg):Prop:=D≠.back/\D≠.close
section
variable{S S' S1:Sea}{D:Yg}{Ds Es:List Yg}{v:V}{H H':Hp}{nu:List Int}{n:Nat}
theorem zbf(hp:X2 D)(af:X5 H S D S' v):S'.led=S.led/\S'.len=S.len:=by
 cases af with
 | enrol k g c=>exact⟨rfl,rfl⟩
 | awayN h hl=>exact⟨rfl,rfl⟩
 | awayF h hp hl=>exact⟨rfl,rfl⟩
 | awayC h hp hl tl CR=>exact⟨rfl,rfl⟩
 | draw hl F T=>exact⟨rfl,rfl⟩
 | close h=>exact absurd rfl hp.2
 | back h ht hs=>exact absurd rfl hp.1
theorem Can.plain(h:∀ D∈Ds,X2 D):∀ S:Sea,S.led.length<S.len->Can S Ds:=by
 induction Ds with
 | nil=>exact fun S _=>.nil
 | cons D Ds ih =>
   have ih:=ih fun x hx=>h x (zsw _ hx);have hp:=h D zsz;obtain⟨h1,h2⟩:=hp;exact fun S hS=>.cons (fun z=>(z.elim h1 h2).elim) (fun z=>(h1 z).elim) (fun _=>hS) (fun _ _=>ih S hS) fun S1 _ _ _ _ af=>ih S1 (by obtain⟨e1,e2⟩:=zbf ⟨h1,h2⟩ af;rw[e1,e2];exact hS)
theorem Can.append(h1:Can S Ds)(h2:∀ S',Runs S Ds S'->Can S' Es):Can S (Ds++Es):=by
 induction Ds generalizing S with
 | nil=>exact h2 S .nil
 | cons D Ds ih =>
   cases h1 with
   | cons hb hw hl hr hd =>
     exact .cons hb hw hl (fun r e=>ih (hr r e) fun S' t=>h2 S' (.ref e t)) fun S1 v H e g af=>ih (hd S1 v H e g af) fun S' t=>h2 S' (.done e g af t)
theorem Runs.split(h:Runs S (Ds++Es) S'):∃ S1,Runs S Ds S1/\Runs S1 Es S':=by
 induction Ds generalizing S with
 | nil=>exact⟨S,.nil,h⟩
 | cons D Ds ih =>
   cases h with
   | ref e t =>
     obtain⟨S1,a,b⟩:=ih t;exact⟨S1,.ref e a,b⟩
   | done e g af t =>
     obtain⟨S1,a,b⟩:=ih t;exact⟨S1,.done e g af a,b⟩
theorem zdy(h:100<=S.std.length)(hp:X2 D):refS S D≠none:=by
 cases D with
 | enrol k g c =>
   simp only[refS];split;· exact nofun
   split;· exact nofun
   split;· exact nofun
   split;· exact nofun
   split;· exact nofun
   exact nofun
 | away i k =>
   simp only[refS];split;· exact nofun
   split;· exact nofun
   split
   ·split;· exact nofun
    exact nofun
   ·exact nofun
 | draw ms =>
   simp only[refS];split;· exact nofun
   split;· exact nofun
   split;· exact nofun
   split;· exact nofun
   split;· exact nofun
   exact nofun
 | close=>exact absurd rfl hp.2
 | back=>exact absurd rfl hp.1
theorem Runs.full(h:Runs S Ds S')(hs:100<=S.std.length)(hp:∀ D∈Ds,X2 D):S'=S:=by
 induction h with
 | nil=>rfl
 | ref e t ih=>exact ih hs fun x hx=>hp x (zsw _ hx)
 | done e g af t ih=>exact absurd e (zdy hs (hp _ zsz))
structure zhf(S S':Sea):Prop where
 len:S'.len=S.len
 led:S'.led=S.led
 ppl:S'.ppl=S.ppl
def A5(p:Int×Int):Xs:=(("away":Str),p.2,p.1)
theorem Runs.aways{ps:List (Int×Int)}(h:Runs S (ps.map V5) S')(hd:∀ p∈ps,(S.led.length:Int)<p.1/\p.1<=S.len/\p.2∈S.ppl.map (·.1)/\p∉S.out)(hn:ps.Nodup)(hl:S.std.length+ps.length<=100) :
  zhf S S'/\S'.out=S.out++ps/\S'.std.map (·.1)=S.std.map (·.1)++ps.map A5/\S'.cur.isSome=S.cur.isSome:=by
 induction ps generalizing S with
 | nil=>cases h;exact⟨⟨rfl,rfl,rfl⟩,by simp,by simp,rfl⟩
 | cons p ps ih =>
   obtain⟨d1,d2,d3,d4⟩:=hd p zsz;rw[zs6] at hn;rw[zs4] at hl;have e0:refS S (V5 p)=none:=by
    show refS S (.away p.1 p.2)=none;simp only[refS];rw[if_neg ⋯,if_neg ⋯,if_pos d3,if_neg d4,if_neg ⋯]
   rw[zst] at h;cases h with
   | ref e t=>rw[e0] at e;cases e
   | done e g af t =>
     obtain⟨a1,a2,a3,a4,a5,a6⟩:=X5.aw (i:=p.1) (n:=p.2) af;obtain⟨b1,b2,b3,b4⟩:=ih t (fun q hq=>by
      obtain⟨x1,x2,x3,x4⟩:=hd q (zsw _ hq);rw[a1,a2,a3,a4];refine⟨x1,x2,x3,fun z=>?_⟩;rcases zsv.mp z with z|z
      ·exact x4 z
      ·have e:q=p:=zsl.mp z;exact hn.1 (by rw[<- e];exact hq)) hn.2 (by rw[a5,zsh];show S.std.length+1+ps.length<=100;omega)
     refine⟨⟨b1.len.trans a1,b1.led.trans a2,b1.ppl.trans a3⟩,?_,?_,b4.trans a6⟩
     ·rw[b2,a4,ztn];rfl
     ·rw[b3,a5,zsp,ztn];rfl
theorem Runs.aways_room{ps:List (Int×Int)}(h:Runs S (ps.map V5) S')(hd:∀ p∈ps,(S.led.length:Int)<p.1/\p.1<=S.len/\p.2∈S.ppl.map (·.1)/\p∉S.out)(hn:ps.Nodup)(hs:S.std.length<=100)(hl:100<=S.std.length+ps.length):S'.std.length=100/\S'.led=S.led/\S'.len=S.len/\S'.cur.isSome=S.cur.isSome:=by
 by_cases hf:S.std.length=100
 ·rw[h.full ⋯ fun D hD=>by obtain⟨p,_,rfl⟩:=zsq.mp hD;exact⟨nofun,nofun⟩];exact⟨hf,rfl,rfl,rfl⟩
 ·have hk:100-S.std.length<=ps.length:=by omega
  rw[<- List.take_append_drop (100-S.std.length) ps,zsp] at h;obtain⟨S1,h1,h2⟩:=h.split;have htl:(ps.take (100-S.std.length)).length=100-S.std.length:=by rw[ztc];omega
  obtain⟨b1,b2,b3,b4⟩:=h1.aways (fun p hp=>hd p (zt4 hp)) (hn.sublist (zue _ _)) ⋯;have e:=congrArg List.length b3;rw[zsh,zsg,zsg,zsg,htl] at e;rw[h2.full ⋯ fun D hD=>by obtain⟨p,_,rfl⟩:=zsq.mp hD;exact⟨nofun,nofun⟩];exact⟨by omega,b1.led,b1.len,b4⟩
def Rj(x:P3):Yg:=.enrol x.1 x.2.1 x.2.2
def zhg(k:Int)(x:P3):Xs:=(("enrol":Str),x.1,k)
theorem Runs.enrols(h:Runs S (es.map Rj) S')(hc:S.cur=none)(hle:S.led.length<S.len)(hd:∀ x∈es,¬ badI x.1 x.2.1 x.2.2/\x.1∉S.ppl.map (·.1))(hn:(es.map (·.1)).Nodup)(hl:S.std.length+es.length<=100)(hp:S.ppl.length+es.length<=30) :
  S'.len=S.len/\S'.led=S.led/\S'.ppl=S.ppl++es/\S'.out=S.out/\S'.std.map (·.1)=S.std.map (·.1)++es.map (zhg (atV S))/\S'.cur=none:=by
 induction es generalizing S with
 | nil=>cases h;exact⟨rfl,rfl,by simp,rfl,by simp,hc⟩
 | cons x es ih =>
   obtain⟨d1,d2⟩:=hd x zsz;rw[zst,zs6] at hn;rw[zs4] at hl hp;have e0:refS S (Rj x)=none:=by
    show refS S (.enrol x.1 x.2.1 x.2.2)=none;simp only[refS];rw[if_neg ⋯,hc,if_neg ⋯,if_neg d1,if_neg d2,if_neg ⋯,if_neg ⋯]
   rw[zst] at h;cases h with
   | ref e t=>rw[e0] at e;cases e
   | @done _ S1 _ _ _ _ _ e g af t =>
     have ea:S1={ S with ppl:=S.ppl++[(x.1,x.2.1,x.2.2)],std:=S.std++[(((("enrol":Str),x.1,atV S):Xs),S.cur)] }:=by
      unfold Rj at af;cases af;rfl
     have a1:S1.ppl=S.ppl++[x]:=by rw[ea]
     have a2:S1.std=S.std++[(((("enrol":Str),x.1,atV S):Xs),S.cur)]:=by rw[ea]
     have a3:S1.len=S.len/\S1.led=S.led/\S1.out=S.out/\S1.cur=S.cur:=by rw[ea];exact⟨rfl,rfl,rfl,rfl⟩
     obtain⟨b1,b2,b3,b4,b5,b6⟩:=ih t (a3.2.2.2.trans hc) (by rw[a3.1,a3.2.1];exact hle) (fun y hy=>by
      obtain⟨x1,x2⟩:=hd y (zsw _ hy);refine⟨x1,fun z=>?_⟩;rw[a1,zsp] at z;rcases zsv.mp z with z|z
      ·exact x2 z
      ·exact hn.1 (zsq.mpr ⟨y,hy,zsl.mp z⟩)) hn.2 (by rw[a2,zsh];show S.std.length+1+es.length<=100;omega) (by rw[a1,zsh];show S.ppl.length+1+es.length<=30;omega)
     have eat:atV S1=atV S:=by unfold atV;rw[a3.2.1]
     rw[eat] at b5;refine⟨b1.trans a3.1,b2.trans a3.2.1,?_,b4.trans a3.2.2.1,?_,b6⟩
     ·rw[b3,a1,ztn];rfl
     ·rw[b5,a2,zsp,ztn];rfl
theorem Runs.draw(h:Runs S [.draw ms] S')(hc:S.cur=none)(hle:S.led.length<S.len)(hm:Nv ms)(h20:ms.length<=20)(hl:S.std.length<100) :
  S'.len=S.len/\S'.led=S.led/\S'.ppl=S.ppl/\S'.out=S.out/\S'.std.map (·.1)=S.std.map (·.1)++[(("draw up":Str),(ms.length:Int),atV S)]/\S'.cur.isSome=true:=by
 have e0:refS S (.draw ms)=none:=by
  simp only[refS];rw[if_neg ⋯,hc,if_neg ⋯,if_neg ⋯,if_neg fun ⟨m,x,y⟩=>hm.1 m x y,if_neg fun ⟨m,x,y⟩=>hm.2 m x y,if_neg ⋯]
 cases h with
 | ref e t=>rw[e0] at e;cases e
 | done e g af t =>
   cases t;cases af with
   | draw hl F T=>exact⟨rfl,rfl,rfl,rfl,by show List.map (fun x:Xs×Option Z9=>x.1) (S.std++[_])=_;rw[zsp];rfl,rfl⟩
theorem Runs.drawn(h:Runs S [.draw ms] S')(hle:S.led.length<S.len)(hm:Nv ms)(h20:ms.length<=20)(hl:S.std.length<100) :
  zhf S S'/\S'.out=S.out/\S'.cur.isSome=true/\S.std.length<=S'.std.length/\S'.std.length<=S.std.length+1:=by
 by_cases hc:S.cur=none
 ·obtain⟨a1,a2,a3,a4,a5,a6⟩:=h.draw hc hle hm h20 hl;have e:=congrArg List.length a5;rw[zsh,zsg,zsg] at e;have:[((("draw up":Str),(ms.length:Int),atV S):Xs)].length=1:=rfl;exact⟨⟨a1,a2,a3⟩,a4,a6,by omega,by omega⟩
 ·have hs:S.cur.isSome=true:=by
   cases e:S.cur with
   | none=>exact absurd e hc
   | some s=>rfl
  cases h with
  | ref e t=>cases t;exact⟨⟨rfl,rfl,rfl⟩,rfl,hs,zso _,zul _⟩
  | done e g af t=>exact absurd g.2.1 hc
theorem Runs.back(h:Runs S [.back] S')(hs:S.std.map (·.1)=std++[d])(hd:d.1≠("enrol":Str)):zhf S S'/\S'.std.map (·.1)=std/\∀ p∈S'.out,p∈S.out:=by
 cases h with
 | ref e t =>
   simp only[refS] at e;split at e
   ·rename_i z;rw[z] at hs;exact absurd hs.symm (by simp)
   ·cases e
 | done e g af t =>
   cases t;cases af with
   | back hh ht hst =>
     obtain⟨d',a1,a2,a3,a4,a5,a6⟩:=hst;rw[a1,zsp] at hs;obtain⟨e1,e2⟩:=zt2 hs rfl;have e3:d'=d:=(List.cons.inj e2).1;subst e3;rcases a2 with ⟨x,_⟩|⟨_,x,y,_⟩|⟨_,x,y⟩
     ·exact absurd x hd
     ·exact⟨⟨a3.symm▸rfl,a5.symm▸rfl,x⟩,e1,fun p hp=>by rw[y];exact zs8 _ hp⟩
     ·exact⟨⟨a3.symm▸rfl,a5.symm▸rfl,x⟩,e1,fun p hp=>by rw[<- y];exact hp⟩
theorem Cp(hs:S.std≠[]):refS S .back=none:=by
 simp only[refS];rw[if_neg hs]
theorem Fb(hs:S.cur.isSome=true)(hle:S.led.length<S.len):refS S .close=none:=by
 simp only[refS];rw[if_neg ⋯,if_neg fun z=>by rw[z] at hs;cases hs]
end
structure D25(nu:List Int)(D:Yg):Prop where
 sm:Nw D
 dr:∀ ms,D=.draw ms->ms.length<=100
 en:∀ n g c,D=.enrol n g c->1<=n/\1<=g/\1<=c/\c<=99/\(¬ badI n g c->n∈nu)
theorem D25.away(hi:Z8 i)(hn:Z8 n):D25 nu (.away i n):=⟨⟨hi,hn⟩,nofun,nofun⟩
theorem D25.draw(h:∀ m∈ms,Ri m)(hl:ms.length<=100):D25 nu (.draw ms):=⟨⟨h,by omega⟩,fun _ e=>by cases e;exact hl,nofun⟩
theorem D25.enrol(hn:Z8 n)(h1:1<=n)(h2:1<=g)(h2':g<=999)(h3:1<=c)(h4:c<=99)(h:¬ badI n g c->n∈nu):D25 nu (.enrol n g c):=⟨⟨hn,Yd ⋯ ⋯,Yd ⋯ ⋯⟩,nofun,fun _ _ _ e=>by cases e;exact⟨h1,h2,h3,h4,h⟩⟩
theorem D25.plain(h:D=.close\/D=.back):D25 nu D:=by
 rcases h with rfl|rfl
 ·exact⟨trivial,nofun,nofun⟩
 ·exact⟨trivial,nofun,nofun⟩
def Qf(S:Sea):Sea:={ S with std:=[] }
theorem ze7(hp:X2 D)(hs:S.std.length<=100):dueW S D=if dueW (Qf S) D="" then (if S.std.length=100 then ("TooManyDeeds":Str) else ("":Str)) else dueW (Qf S) D:=by
 have key:(refS (Qf S) D=none/\refS S D=if S.std.length=100 then some .manyD else none)\/∃ r,refS (Qf S) D=some r/\refS S D=some r:=by
  have h0:¬ 100<=(Qf S).std.length:=by show ¬ 100<=0;decide
  have hm:(if 100<=S.std.length then some Ref.manyD else none)=if S.std.length=100 then some Ref.manyD else none:=by
   by_cases h:S.std.length=100
   ·rw[if_pos h,if_pos ⋯]
   ·rw[if_neg h,if_neg ⋯]
  cases D with
  | enrol k g c =>
    simp only[refS];rw[if_neg h0,hm];show ((if S.len<=S.led.length then _ else _)=_/\_)\/∃ r,(if S.len<=S.led.length then _ else _)=_/\_;by_cases c1:S.len<=S.led.length
    ·rw[if_pos c1,if_pos c1];exact .inr ⟨_,rfl,rfl⟩
    rw[if_neg c1,if_neg c1];show ((if S.cur.isSome=true then _ else _)=_/\_)\/∃ r,(if S.cur.isSome=true then _ else _)=_/\_;by_cases c2:S.cur.isSome=true
    ·rw[if_pos c2,if_pos c2];exact .inr ⟨_,rfl,rfl⟩
    rw[if_neg c2,if_neg c2];by_cases c3:badI k g c
    ·rw[if_pos c3,if_pos c3];exact .inr ⟨_,rfl,rfl⟩
    rw[if_neg c3,if_neg c3];show ((if k∈S.ppl.map (·.1) then _ else _)=_/\_)\/∃ r,(if k∈S.ppl.map (·.1) then _ else _)=_/\_;by_cases c4:k∈S.ppl.map (·.1)
    ·rw[if_pos c4,if_pos c4];exact .inr ⟨_,rfl,rfl⟩
    rw[if_neg c4,if_neg c4];show ((if 30<=S.ppl.length then _ else _)=_/\_)\/∃ r,(if 30<=S.ppl.length then _ else _)=_/\_;by_cases c5:30<=S.ppl.length
    ·rw[if_pos c5,if_pos c5];exact .inr ⟨_,rfl,rfl⟩
    rw[if_neg c5,if_neg c5];exact .inl ⟨rfl,rfl⟩
  | away i k =>
    simp only[refS];rw[if_neg h0,hm];show ((if i<1\/(S.len:Int)<i then _ else _)=_/\_)\/∃ r,(if i<1\/(S.len:Int)<i then _ else _)=_/\_;by_cases c1:i<1\/(S.len:Int)<i
    ·rw[if_pos c1,if_pos c1];exact .inr ⟨_,rfl,rfl⟩
    rw[if_neg c1,if_neg c1];show ((if i<=S.led.length then _ else _)=_/\_)\/∃ r,(if i<=S.led.length then _ else _)=_/\_;by_cases c2:i<=S.led.length
    ·rw[if_pos c2,if_pos c2];exact .inr ⟨_,rfl,rfl⟩
    rw[if_neg c2,if_neg c2];show ((if k∈S.ppl.map (·.1) then _ else _)=_/\_)\/∃ r,(if k∈S.ppl.map (·.1) then _ else _)=_/\_;by_cases c3:k∈S.ppl.map (·.1)
    ·rw[if_pos c3,if_pos c3];show ((if (i,k)∈S.out then _ else _)=_/\_)\/∃ r,(if (i,k)∈S.out then _ else _)=_/\_;by_cases c4:(i,k)∈S.out
     ·rw[if_pos c4,if_pos c4];exact .inr ⟨_,rfl,rfl⟩
     rw[if_neg c4,if_neg c4];exact .inl ⟨rfl,rfl⟩
    ·rw[if_neg c3,if_neg c3];exact .inr ⟨_,rfl,rfl⟩
  | draw ms =>
    simp only[refS];rw[if_neg h0,hm];show ((if S.len<=S.led.length then _ else _)=_/\_)\/∃ r,(if S.len<=S.led.length then _ else _)=_/\_;by_cases c1:S.len<=S.led.length
    ·rw[if_pos c1,if_pos c1];exact .inr ⟨_,rfl,rfl⟩
    rw[if_neg c1,if_neg c1];show ((if S.cur.isSome=true then _ else _)=_/\_)\/∃ r,(if S.cur.isSome=true then _ else _)=_/\_;by_cases c2:S.cur.isSome=true
    ·rw[if_pos c2,if_pos c2];exact .inr ⟨_,rfl,rfl⟩
    rw[if_neg c2,if_neg c2];by_cases c3:20<ms.length
    ·rw[if_pos c3,if_pos c3];exact .inr ⟨_,rfl,rfl⟩
    rw[if_neg c3,if_neg c3];by_cases c4:Vn ms
    ·rw[if_pos c4,if_pos c4];exact .inr ⟨_,rfl,rfl⟩
    rw[if_neg c4,if_neg c4];by_cases c5:X4 ms
    ·rw[if_pos c5,if_pos c5];exact .inr ⟨_,rfl,rfl⟩
    rw[if_neg c5,if_neg c5];exact .inl ⟨rfl,rfl⟩
  | close=>exact absurd rfl hp.2
  | back=>exact absurd rfl hp.1
 rcases key with ⟨h1,h2⟩|⟨r,h1,h2⟩
 ·rw[Sy h1,if_pos rfl];by_cases h:S.std.length=100
  ·rw[if_pos h] at h2 ⊢;exact Sx h2
  ·rw[if_neg h] at h2 ⊢;exact Sy h2
 ·rw[Sx h1,Sx h2,if_neg fun z=>by have:=Az r;rw[z] at this;simp at this]
inductive O0(K:Frag)(vs:List V)(H:Hp)(Q:VK)(_:XK):Prop where
 | mk(d lp lo ll t:Addr)(S:Sea)(D:Yg)(nu:List Int)(_:vs=[.ref d,.ref t])(_:Oz H d lp lo ll S)(_:Z3 (fun _=>True) H t D)(_:D25 nu D)(_:X2 D)(_:S.led.length<S.len)(_:S.ppl.length<=30)(_:∀ H',Same H H'->Q (.str (dueW (Qf S) D)) H')
inductive A6(K:Frag)(vs:List V)(H:Hp)(Q:VK)(_:XK):Prop where
 | mk(d lp lo ll t:Addr)(S:Sea)(D:Yg)(nu:List Int)(_:vs=[.ref d,.ref t])(_:Oz H d lp lo ll S)(_:Z3 (fun _=>True) H t D)(_:D25 nu D)(_:(X2 D->S.led.length<S.len))(_:(D=.back\/D=.close->refS S D=none))(_:S.std.length<=100)(_:S.ppl.length<=30)(_:∀ H',Same H H'->Q (.str (dueW S D)) H')
inductive Fc(K:Frag)(vs:List V)(H:Hp)(Q:VK)(_:XK):Prop where
 | mk(d lp lo ll t:Addr)(S S':Sea)(D:Yg)(v:V)(H0:Hp)(_:vs=[.ref d,.ref t])(_:Oz H d lp lo ll S)(_:Z3 (fun _=>True) H t D)(_:Mq S D)(_:X5 H0 S D S' v)(_:(D=.back->DrX S' S))(_:(D=.back->∀ S0 x,S.std=S0++[x]->x.1.1≠("enrol":Str)))(_:S.ppl.length<=100)(_:S.std.length<=100)(_:S.out.length<=900)(_:ze3 d lp lo ll S' H Q)
inductive Fd(K:Frag)(vs:List V)(H:Hp)(Q:VK)(_:XK):Prop where
 | mk(d lp lo ll ln t:Addr)(S:Sea)(nu:List Int)(i n:Int)(_:vs=[.ref d,.ref ln,.ref t])(_:Oz H d lp lo ll S)(_:S.std.length=100)(_:(∀ x∈S.std,Z8 x.1.2.1/\Z8 x.1.2.2))(_:H ln=some (.lst (nu.map V.int)))(_:1<=nu.length)(_:(∀ k∈nu,1<=k/\k<=999))(_:H t=some (.tup [.str "away",.int i,.int n]))(_:Z8 i)(_:Z8 n)(_:∀ (l:Addr) (ts:List V) (Ds:List Yg) (H':Hp),H' l=some (.lst ts)->Z4 (fun x=>H x=none) H' ts Ds->Ds.length=12->(∀ D∈Ds,X2 D/\D25 nu D)->Same H H'->H l=none->Q (.ref l) H')
inductive Mt(K:Frag)(ca:CA)(vs:List V)(H:Hp)(Q:VK)(_:XK):Prop where
 | mk(A:SAd)(S:Sea)(d lp lo ll l:Addr)(X:Addr->Prop)(ts:List V)(Ds:List Yg)(nu:List Int)(n:Nat)(_:vs=[.ref A.p,.ref d,.ref l])(_:In23 ca E25 nu d lp lo ll X A S n H)(_:X l)(_:H l=some (.lst ts))(_:Z4 (·∉A.fp) (hide (B23 d lp lo ll X) H) ts Ds)(_:(∀ D∈Ds,D25 nu D))(_:Can S Ds)(_:S.std.length<=100)(_:n+Ds.length<=800)(_:∀ (ll':Addr) (A':SAd) (S':Sea) (H':Hp),A'.p=A.p->Runs S Ds S'->S'.std.length<=100->In23 ca E25 nu d lp lo ll' X A' S' (n+Ds.length) H'->FrN A A' (hide (B23 d lp lo ll X) H) (hide (B23 d lp lo ll' X) H')->(∀ x o,X x->H x=some o->H' x=some o)->Q (.bl true) H')
theorem Runs.append(h1:Runs S Ds S1)(h2:Runs S1 Es S'):Runs S (Ds++Es) S':=by
 induction h1 with
 | nil=>exact h2
 | ref e t ih=>exact .ref e (ih h2)
 | done e g af t ih=>exact .done e g af (ih h2)
theorem zbg(af:X5 H S D S' v):S'.std.length<=S.std.length+1/\(D=.back\/D=.close->S'.std.length<=S.std.length):=by
 have one:∀ (l:List (Xs×Option Z9)) (x:Xs×Option Z9),(l++[x]).length<=l.length+1:=fun l x=>by rw[zsh];exact zso _
 cases af with
 | enrol k g c=>exact⟨one _ _,fun z=>by rcases z with z|z<;>cases z⟩
 | awayN h hl=>exact⟨one _ _,fun z=>by rcases z with z|z<;>cases z⟩
 | awayF h hp hl=>exact⟨one _ _,fun z=>by rcases z with z|z<;>cases z⟩
 | awayC h hp hl tl CR=>exact⟨one _ _,fun z=>by rcases z with z|z<;>cases z⟩
 | draw hl F T=>exact⟨one _ _,fun z=>by rcases z with z|z<;>cases z⟩
 | close h=>exact⟨zs1 _,fun _=>zs1 _⟩
 | back h ht hs =>
   have e:=congrArg List.length h;rw[zsh] at e;have:∀ x:Xs×Option Z9,[x].length=1:=fun _=>rfl;rw[this] at e;exact⟨by omega,fun _=>by omega⟩
section
variable{ok:Addr->Prop}{A:SAd}{H H':Hp}{ts us:List V}{Ds Es:List Yg}{B:Addr->Prop}
theorem Z4.append(h1:Z4 ok H ts Ds)(h2:Z4 ok H us Es):Z4 ok H (ts++us) (Ds++Es):=by
 refine⟨by rw[zsh,zsh,h1.len,h2.len],fun i x hx=>?_⟩;rw[List.getElem?_append] at hx;split at hx
 ·rename_i hi;obtain⟨t,D,a,b,c⟩:=h1.at_ i x hx;exact⟨t,D,a,by rw[ztb (by rw[<- h1.len];exact hi)];exact b,c⟩
 ·rename_i hi;obtain⟨t,D,a,b,c⟩:=h2.at_ _ x hx;exact⟨t,D,a,by rw[ztd (by rw[<- h1.len];omega),<- h1.len];exact b,c⟩
theorem Z4.take(h:Z4 ok H ts Ds)(k:Nat):Z4 ok H (ts.take k) (Ds.take k):=by
 refine⟨by rw[ztc,ztc,h.len],fun i x hx=>?_⟩;have hi:i<k:=by
  have:=(zsj.mp hx).1;rw[ztc] at this;omega
 rw[zt5 hi] at hx;obtain⟨t,D,a,b,c⟩:=h.at_ i x hx;exact⟨t,D,a,by rw[zt5 hi];exact b,c⟩
theorem Z4.drop(h:Z4 ok H ts Ds)(k:Nat):Z4 ok H (ts.drop k) (Ds.drop k):=by
 refine⟨by rw[ztu,ztu,h.len],fun i x hx=>?_⟩;rw[List.getElem?_drop] at hx;obtain⟨t,D,a,b,c⟩:=h.at_ _ x hx;exact⟨t,D,a,by rw[List.getElem?_drop];exact b,c⟩
theorem Z3.hide(h:Z3 ok H t D)(hk:T5 B H)(ho:∀ x,ok x->x∉A.fp/\¬ B x):Z3 (·∉A.fp) (G.hide B H) t D:=by
 have kt:∀ t xs,H t=some (.tup xs)->G.hide B H t=some (.tup xs):=fun t xs e=>(Yv fun z=>hk.tup t xs z e).trans e;cases D with
 | enrol n g c=>exact kt _ _ h
 | away i n=>exact kt _ _ h
 | draw ms =>
   obtain⟨l,ts,a1,a2,a3,a4⟩:=h;exact⟨l,ts,kt _ _ a1,(Yv (ho l a4).2).trans a2,a3.mono kt,(ho l a4).1⟩
 | close=>exact kt _ _ h
 | back=>exact kt _ _ h
theorem Z4.hide(h:Z4 ok H ts Ds)(hk:T5 B H)(ho:∀ x,ok x->x∉A.fp/\¬ B x):Z4 (·∉A.fp) (G.hide B H) ts Ds:=⟨h.len,fun i x hx=>by obtain⟨t,D,a,b,c⟩:=h.at_ i x hx;exact⟨t,D,a,b,c.hide hk ho⟩⟩
theorem Z4.one(h:Z3 ok H t D):Z4 ok H [.ref t] [D]:=⟨rfl,fun i x hx=>by
 cases i with
 | zero=>cases hx;exact⟨t,D,rfl,rfl,h⟩
 | succ i=>cases hx⟩
end
theorem In23.rex{ca:CA}{E:Sea->Prop}{nu:List Int}{d lp lo ll:Addr}{X X':Addr->Prop}{A:SAd}{S:Sea}{n:Nat}{H H':Hp}(h:In23 ca E nu d lp lo ll X A S n H)(e:Same H H')(hX:∀ x,X' x->X x\/H x=none)(hx:∀ x,X' x->∃ ys,H' x=some (.lst ys)) :
  In23 ca E nu d lp lo ll X' A S n H'/\Same (hide (B23 d lp lo ll X) H) (hide (B23 d lp lo ll X') H'):=by
 have hm:Same (hide (B23 d lp lo ll X) H) (hide (B23 d lp lo ll X') H'):=P2 (fun x o z _=>e _ _ z) fun x z=>by
  rcases z with z|z|z|z|z
  ·exact .inl (.inl z)
  ·exact .inl (.inr (.inl z))
  ·exact .inl (.inr (.inr (.inl z)))
  ·exact .inl (.inr (.inr (.inr (.inl z))))
  ·exact(hX x z).imp (fun y=>.inr (.inr (.inr (.inr y)))) id
 refine⟨⟨h.sea.same hm,h.st.same e,h.hi,hx,fun x z=>?_⟩,hm⟩;rcases hX x z with y|y
 ·exact h.nx x y
 ·obtain⟨_,p1,_⟩:=h.st.oo;obtain⟨_,g1,_⟩:=h.st.gg;exact⟨(Zh h.st.pp y).symm,(Zh p1 y).symm,(Zh g1 y).symm⟩
def upto(es:List P3)(c:Nat)(ms:List P3)(ps:List (Int×Int)):List Yg:=(es.map Rj++if c=1 then [.draw ms] else [])++(ps.take (99-(es.length+if c=1 then 1 else 0))).map V5
structure Cq(S S1:Sea)(es:List P3)(k:Nat)(ps:List (Int×Int)):Prop where
 std:∃ std0 w1 w2,S1.std.map (·.1)=std0++[w1]++[w2]/\std0.length=98/\w1.1≠("enrol":Str)/\w2.1≠("enrol":Str)
 led:S1.led=S.led
 len:S1.len=S.len
 ppl:S1.ppl=es
 out:∀ p∈S1.out,p∈ps.take (k+1)
theorem Bu:("away":Str)≠"enrol":=by decide +kernel
theorem zhh:("draw up":Str)≠"enrol":=by decide +kernel
theorem zhi(h:Runs (T4 r q) (upto es c ms ps++[L]) S1)(hk:k=99-(es.length+if c=1 then 1 else 0))(hr:5<=r)(he1:20<=es.length)(he2:es.length<=30)(hg:∀ x∈es,¬ badI x.1 x.2.1 x.2.2)(hn:(es.map (·.1)).Nodup)(hm:Nv ms)(hm5:ms.length<=5)
  (hp:∀ p∈ps,1<=p.1/\p.1<=5/\p.2∈es.map (·.1)) (hnd:ps.Nodup) (hpl:100<=ps.length) (hL:if c=2 then L=.draw ms else ∃ p,ps[k]?=some p/\L=V5 p):Cq (T4 r q) S1 es k ps:=by
 unfold upto at h;rw[<- hk] at h;obtain⟨Sc,hc,h3⟩:=h.split;obtain⟨Sb,hb,h2⟩:=hc.split;obtain⟨Sa,ha,h1⟩:=hb.split;obtain⟨a1,a2,a3,a4,a5,a6⟩:=ha.enrols rfl (show 0<r by omega) (fun x hx=>⟨hg x hx,nofun⟩) hn (by show 0+es.length<=100;omega) (by show 0+es.length<=30;omega);have la:Sa.std.length=es.length:=by
  have e:=congrArg List.length a5;rw[zsg,zsh,zsg,zsg] at e;have:(T4 r q).std.length=0:=rfl;omega
 have hb2:Sb.len=r/\Sb.led=[]/\Sb.ppl=es/\Sb.out=[]/\Sb.std.length=es.length+(if c=1 then 1 else 0)/\(c=2->Sb.cur=none):=by
  by_cases hc1:c=1
  ·rw[if_pos hc1] at h1;obtain⟨b1,b2,b3,b4,b5,_⟩:=h1.draw a6 (by rw[a1,a2];show 0<r;omega) hm ⋯ ⋯;have e:=congrArg List.length b5;rw[zsg,zsh,zsg] at e;have:[((("draw up":Str),(ms.length:Int),atV Sa):Xs)].length=1:=rfl;exact⟨b1.trans a1,b2.trans a2,b3.trans a3,b4.trans a4,by rw[if_pos hc1];omega,fun z=>by omega⟩
  ·rw[if_neg hc1] at h1;cases h1;exact⟨a1,a2,a3,a4,by rw[if_neg hc1];omega,fun _=>a6⟩
 obtain⟨b1,b2,b3,b4,b5,b6⟩:=hb2;have hk1:1<=k/\k<=79:=by
  rw[hk];split<;>omega
 have hsum:es.length+(if c=1 then 1 else 0)+k=99:=by
  rw[hk];split<;>omega
 have htl:(ps.take k).length=k:=by rw[ztc];omega
 obtain⟨l1,o1,w1,i1⟩:=h2.aways (fun p hp'=>by
  obtain⟨x1,x2,x3⟩:=hp p (zt4 hp');rw[b1,b2,b3,b4];refine⟨?_,?_,x3,nofun⟩
  ·show (0:Int)<p.1;omega
  ·omega) (hnd.sublist (zue _ _)) (by rw[htl];omega)
 have lc:Sc.std.length=99:=by
  have e:=congrArg List.length w1;rw[zsg,zsh,zsg,zsg,htl] at e;omega
 obtain⟨p0,hp0⟩:∃ p0,ps[k-1]?=some p0:=⟨_,zsi (show k-1<ps.length by omega)⟩;have etk:ps.take k=ps.take (k-1)++[p0]:=by
  have:k=k-1+1:=by omega
  rw[this,zto,Nat.add_sub_cancel,hp0];rfl
 have wc:Sc.std.map (·.1)=(Sb.std.map (·.1)++(ps.take (k-1)).map A5)++[A5 p0]:=by
  rw[w1,etk,zsp,ztn];rfl
 have l98:(Sb.std.map (·.1)++(ps.take (k-1)).map A5).length=98:=by
  rw[zsh,zsg,zsg,ztc];omega
 have oc:Sc.out=ps.take k:=by rw[o1,b4];rfl
 have lenc:Sc.len=r:=l1.len.trans b1;have ledc:Sc.led=[]:=l1.led.trans b2;have pplc:Sc.ppl=es:=l1.ppl.trans b3;by_cases hc2:c=2
 ·rw[if_pos hc2] at hL;subst hL;have hcn:Sc.cur=none:=by
   have:=i1;rw[b6 hc2] at this;cases e:Sc.cur with
   | none=>rfl
   | some s=>rw[e] at this;cases this
  obtain⟨d1,d2,d3,d4,d5,_⟩:=h3.draw hcn (by rw[lenc,ledc];show 0<r;omega) hm ⋯ ⋯;refine⟨⟨_,_,_,by rw[d5,wc],l98,Bu,zhh⟩,d2.trans ledc,d1.trans lenc,d3.trans pplc,fun p hp'=>?_⟩;rw[d4,oc] at hp';exact List.take_subset_take_left _ (zul k) hp'
 ·rw[if_neg hc2] at hL;obtain⟨p,hpk,rfl⟩:=hL;have hpm:=zsu hpk;obtain⟨x1,x2,x3⟩:=hp p hpm;have h3':Runs Sc ([p].map V5) S1:=h3;obtain⟨l2,o2,w2,_⟩:=h3'.aways (fun y hy=>by
   rw[zsl.mp hy,lenc,ledc,pplc,oc];refine⟨by show (0:Int)<p.1;omega,by omega,x3,fun z=>?_⟩;obtain⟨j,hj⟩:=List.mem_iff_getElem?.mp z;have hjk:j<k:=by
    have:=(zsj.mp hj).1;rw[htl] at this;exact this
   rw[zt5 hjk] at hj;have:=(List.getElem?_inj (show j<ps.length by omega) hnd).mp (hj.trans hpk.symm);omega) (by simp) (by rw[lc];exact zso _)
  refine⟨⟨_,_,_,by rw[w2,wc];rfl,l98,Bu,Bu⟩,l2.led.trans ledc,l2.len.trans lenc,l2.ppl.trans pplc,fun y hy=>?_⟩;rw[o2,oc] at hy;rw[zto,hpk];exact hy
theorem Cq.full(a:Cq S S1 es k ps):S1.std.length=100:=by
 obtain⟨std0,w1,w2,e,l,_⟩:=a.std;have:=congrArg List.length e;rw[zsg,zsh,zsh] at this;have o:∀ w:Xs,[w].length=1:=fun _=>rfl;rw[o,o] at this;omega
theorem zbh{S:Sea}{std:List Xs}{w:Xs}(h:S.std.map (·.1)=std++[w]):∀ S0 d,S.std=S0++[d]->d.1=w:=fun S0 d e=>by
 rw[e,zsp] at h;exact(List.cons.inj (zt2 h rfl).2).1
def Uq(T:List Yg)(ms:List P3)(ps:List (Int×Int))(k:Nat):List Yg:=T++(([.back,.back,.draw ms]:List Yg)++((ps.drop (k+1)).take 3).map V5)
section
variable{S S1 S2:Sea}{es ms:List P3}{k:Nat}{ps:List (Int×Int)}{T:List Yg}
theorem Cr{std:List Xs}{w:Xs}(h:S.std.map (·.1)=std++[w])(hw:w.1≠("enrol":Str)){Ds:List Yg}(hd:∀ S',Runs S [.back] S'->Can S' Ds):Can S (.back :: Ds):=by
 have hne:S.std≠[]:=fun z=>by rw[z] at h;exact absurd h.symm (by simp)
 refine .cons (fun _=>Cp hne) (fun _ S0 d e=>by rw[zbh h S0 d e];exact hw) (fun z=>absurd rfl z.1) (fun r e=>?_) fun S' v H e g af=>hd S' (.done e g af .nil);rw[Cp hne] at e;cases e
theorem zjy(a:Cq S S1 es k ps)(hl:S.led.length<S.len)(hT:∀ D∈T,X2 D):Can S1 (Uq T ms ps k):=by
 obtain⟨std0,w1,w2,e,l,n1,n2⟩:=a.std;have hl1:S1.led.length<S1.len:=by rw[a.led,a.len];exact hl
 refine(Can.plain hT S1 hl1).append fun S' r=>?_;rw[r.full (by rw[a.full];exact zso _) hT];refine Cr e n2 fun Sa ra=>?_;obtain⟨la,ea,_⟩:=ra.back e n2;refine Cr ea n1 fun Sb rb=>?_;obtain⟨lb,eb,_⟩:=rb.back ea n1;refine Can.plain (fun D hD=>?_) Sb (by rw[lb.led,lb.len,la.led,la.len];exact hl1);rcases zsk.mp hD with z|z
 ·subst z;exact⟨nofun,nofun⟩
 ·obtain⟨p,_,rfl⟩:=zsq.mp z;exact⟨nofun,nofun⟩
theorem zhj(h:Runs S1 (Uq T ms ps k) S2)(a:Cq S S1 es k ps)(hl:S.led.length<S.len)(hT:∀ D∈T,X2 D)(hm:Nv ms)(hm5:ms.length<=5)(hp:∀ p∈ps,(S.led.length:Int)<p.1/\p.1<=S.len/\p.2∈es.map (·.1))(hnd:ps.Nodup)(hpl:k+4<=ps.length):S2.std.length=100/\S2.led=S.led/\S2.len=S.len/\S2.cur.isSome=true:=by
 obtain⟨std0,w1,w2,e,l,n1,n2⟩:=a.std;obtain⟨S',h1,h2⟩:=h.split;rw[h1.full (by rw[a.full];exact zso _) hT] at h2;obtain⟨Sa,ra,h3⟩:=Runs.split (Ds:=[.back]) h2;obtain⟨la,ea,oa⟩:=ra.back e n2;obtain⟨Sb,rb,h4⟩:=Runs.split (Ds:=[.back]) h3;obtain⟨lb,eb,ob⟩:=rb.back ea n1;obtain⟨Sc,rc,h5⟩:=Runs.split (Ds:=[.draw ms]) h4;have hsb:Sb.std.length=98:=by
  have:=congrArg List.length eb;rw[zsg] at this;omega
 have hlb:Sb.led.length<Sb.len:=by rw[lb.led,lb.len,la.led,la.len,a.led,a.len];exact hl
 obtain⟨lc,oc,ic,s1,s2⟩:=rc.drawn hlb hm ⋯ ⋯;have hlen3:((ps.drop (k+1)).take 3).length=3:=by rw[ztc,ztu];omega
 obtain⟨x1,x2,x3,x4⟩:=h5.aways_room (fun p hp'=>by
  have hpd:=zt4 hp';obtain⟨y1,y2,y3⟩:=hp p (zuh hpd);rw[lc.led,lc.len,lc.ppl,lb.led,lb.len,lb.ppl,la.led,la.len,la.ppl,a.led,a.len,a.ppl,oc];refine⟨y1,y2,y3,fun z=>?_⟩;have z1:=a.out p (oa p (ob p z));have:=List.take_append_drop (k+1) ps;rw[<- this,List.nodup_append] at hnd;exact hnd.2.2 p z1 p hpd rfl) ((hnd.sublist (List.drop_sublist _ _)).sublist (zue _ _)) ⋯ (by rw[hlen3];omega)
 exact⟨x1,by rw[x2,lc.led,lb.led,la.led,a.led],by rw[x3,lc.len,lb.len,la.len,a.len],x4.trans ic⟩
theorem can3(h1:S2.std.length=100)(h2:S2.led.length+1<S2.len)(h3:S2.cur.isSome=true)(hT:∀ D∈T,X2 D)(hD:∀ D∈Ds,X2 D):Can S2 (T++.close :: Ds):=by
 refine(Can.plain hT S2 ⋯).append fun S' r=>?_;rw[r.full (by rw[h1];exact zso _) hT];refine .cons (fun _=>Fb h3 ⋯) (fun z=>by cases z) (fun z=>absurd rfl z.2) (fun r e=>?_) fun S' v H e g af=>?_
 ·rw[Fb h3 ⋯] at e;cases e
 ·cases af with
  | close hs=>exact Can.plain hD _ (by show (S2.led++[_]).length<S2.len;rw[zsh];exact h2)
end
structure Sm(S:Sea):Prop where
 std:∀ x∈S.std,Z8 x.1.2.1/\Z8 x.1.2.2
 led:S.led.length<=S.len
 len:S.len<=60
theorem Runs.small(h:Runs S Ds S')(hd:∀ D∈Ds,Nw D)(hs:Sm S):Sm S':=by
 induction h with
 | nil=>exact hs
 | ref e t ih=>exact ih (fun D hD=>hd D (zsw _ hD)) hs
 | @done S S1 S' D Ds v H e g af t ih =>
   refine ih (fun D hD=>hd D (zsw _ hD)) ?_;have sd:=hd D zsz;obtain⟨h1,h2,h3⟩:=hs;have hat:Z8 (atV S):=by
    have:atV S=(S.led.length:Int)+1:=rfl;exact Yd ⋯ ⋯
   have put:∀ {w:Xs} {y:Option Z9},Z8 w.2.1/\Z8 w.2.2->∀ x∈S.std++[(w,y)],Z8 x.1.2.1/\Z8 x.1.2.2:=fun hw x hx=>by
    rcases zsv.mp hx with z|z
    ·exact h1 x z
    ·rw[zsl.mp z];exact hw
   cases af with
   | enrol k gr c=>exact⟨put ⟨sd.1,hat⟩,h2,h3⟩
   | awayN hh hl=>exact⟨put ⟨sd.2,sd.1⟩,h2,h3⟩
   | awayF hh hp hl=>exact⟨put ⟨sd.2,sd.1⟩,h2,h3⟩
   | awayC hh hp hl tl CR=>exact⟨put ⟨sd.2,sd.1⟩,h2,h3⟩
   | @draw ms gv l hl F T=>exact⟨put ⟨show Z8 (ms.length:Int) from Yd ⋯ (by have:=sd.2;omega),hat⟩,h2,h3⟩
   | close hh =>
     refine⟨nofun,?_,h3⟩;show (S.led++[_]).length<=S.len;rw[zsh];exact g.1
   | back hh ht hst =>
     obtain⟨d',a1,a2,a3,a4,a5,a6⟩:=hst;exact⟨fun x hx=>h1 x (by rw[a1];exact zs8 _ hx),by rw[<- a3,<- a5];exact h2,by rw[<- a3];exact h3⟩
end G
namespace K25
open PySem PySem.Spec PyProof.Rows L2 G
def top(i:Nat):Stmt:=PySem.Challenge.pw_whistlebook_k25_hundred_deeds.main.body.getD i (.Pass ⟨0,0,0,0⟩)
structure Ad where
 zln:Addr
 zkn:Addr
 zkp:Addr
 zkk:Addr
 zkl:Addr
 zkm:Addr
 zk6:Addr
 zkw:Addr
 zkt:Addr
 zk0:Addr
 zkv:Addr
 zks:Addr
 zlc:Addr
 zk5:Addr
 zkh:Addr
 zko:Addr
 zke:Addr
 zkf:Addr
 zkg:Addr
 zkc:Addr
abbrev ca(a:Ad):CA:=⟨a.zkc,a.zkg,a.zkf,a.zke,a.zkn,a.zkp,a.zkk,a.zkl,a.zkm,a.zk6,a.zkw,a.zkt,a.zk0,a.zkv,a.zks,a.zlc,a.zk5,a.zkh,a.zko⟩
structure Tx(K:Frag)(mg:Str->Option Value)(a:Ad):Prop where
 zld:Cls K a.zke
 zmp:Xh K a.zke "rounds"
 zlt:Xh K a.zke "meetings"
 zk4:Cls K a.zkf
 zlf:Xh K a.zkf "entries"
 zk1:Cls K a.zkg
 zme:Xh K a.zkg "listed"
 zol:Xh K a.zkg "lists"
 zmm:Xh K a.zkg "given"
 zn1:Xh K a.zkg "gaps"
 zkd:Cls K a.zkc
 zna:Xh K a.zkc "length"
 zpa:Xh K a.zkc "rest"
 zlk:Xh K a.zkc "roster"
 zls:Xh K a.zkc "ledger"
 zmc:Xh K a.zkc "absent"
 zm1:Xh K a.zkc "sheets"
 zlb:Xh K a.zkc "sheet"
 zle:Xh K a.zkc "standing"
 zp5:R6 K mg "OutOfRange" a.zkn
 zox:R6 K mg "TooManyMatches" a.zkm
 zqk:R6 K mg "SameClub" a.zk6
 zpi:R6 K mg "KnownReferee" a.zkp
 zoh:R6 K mg "TooManyReferees" a.zkk
 zo8:R6 K mg "UnknownReferee" a.zkl
 zp9:R6 K mg "SeasonOver" a.zkv
 zql:R6 K mg "DrawnUp" a.zlc
 zp1:R6 K mg "NoSuchRound" a.zkt
 zpk:R6 K mg "TooManyDeeds" a.zko
 zpx:R6 K mg "NotDrawn" a.zk5
 zqb:R6 K mg "RoundOver" a.zk0
 zp4:R6 K mg "AwayAlready" a.zks
 zoa:R6 K mg "NothingToTakeBack" a.zkh
 zpz:mg "max"=none
 zli:mg "len"=none
 zn9:mg "tuple"=none
 zmi:mg "list"=none
 zmo:mg "enumerate"=none
 zlw:mg "range"=none
 zqf:mg "zip"=none
 zki:mg "isinstance"=none
 zog:mg "int"=none
 zpm:mg "bool"=none
 zqe:mg "str"=none
 zl9:mg "ValueError"=none
 zqd:mg "any"=none
 zqh:mg "min"=none
 zqa:mg "BookError"=some (.ref a.zln)
 zp2:mg "OutOfRange"=some (.ref a.zkn)
 zpf:mg "KnownReferee"=some (.ref a.zkp)
 zob:mg "TooManyReferees"=some (.ref a.zkk)
 zoo:mg "UnknownReferee"=some (.ref a.zkl)
 zoi:mg "TooManyMatches"=some (.ref a.zkm)
 zqg:mg "SameClub"=some (.ref a.zk6)
 zpt:mg "NoSuchMatch"=some (.ref a.zkw)
 zpu:mg "NoSuchRound"=some (.ref a.zkt)
 zp7:mg "RoundOver"=some (.ref a.zk0)
 zp3:mg "SeasonOver"=some (.ref a.zkv)
 zpo:mg "AwayAlready"=some (.ref a.zks)
 zqj:mg "DrawnUp"=some (.ref a.zlc)
 zqc:mg "NotDrawn"=some (.ref a.zk5)
 zn3:mg "NothingToTakeBack"=some (.ref a.zkh)
 zpg:mg "TooManyDeeds"=some (.ref a.zko)
 gc_Ledger:mg "Ledger"=some (.ref a.zke)
 gc_Roster:mg "Roster"=some (.ref a.zkf)
 gc_Sheet:mg "Sheet"=some (.ref a.zkg)
 gc_Season:mg "Season"=some (.ref a.zkc)
 zp8:zch K a.zln
 ei:∀ r:Ref,r≠.noMatch->Fo K (r.cls (ca a))
 mB:∀ r:Ref,r≠.noMatch->PySem.W.mroIn K (r.cls (ca a)) (.ref a.zln)=some true
 kit:∀ r t:Ref,r≠.noMatch->PySem.W.kitOne K (.ref (r.cls (ca a))) (.ref (t.cls (ca a)))=some (decide (r=t))
 zqm:∀ r:Ref,r≠.noMatch->PySem.W.kitOne K (.ref (r.cls (ca a))) (.type "ValueError")=some true
 zl2:∃ t,mg "MOST_NUMBER"=some (.int 999 t)
 zlv:∃ t,mg "MOST_GRADE"=some (.int 9 t)
 zlr:∃ t,mg "MOST_CLUB"=some (.int 99 t)
 zlg:∃ t,mg "MOST_REFEREES"=some (.int 30 t)
 zll:∃ t,mg "MOST_MATCHES"=some (.int 20 t)
 zl0:∃ t,mg "MOST_ROUNDS"=some (.int 60 t)
 zmq:∃ t,mg "MOST_REST"=some (.int 10 t)
 zlh:∃ t,mg "MOST_DEEDS"=some (.int 100 t)
end K25
set_option maxHeartbeats 64000000
namespace K25
open PySem PySem.Spec PyProof.Rows L2 G
local macro_rules | `(tactic| walk_at "rd")=>`(tactic| repeat (first|(refine⟨_,rfl,?_⟩)|(refine⟨_,_,rfl,rfl,?_⟩)|(refine And.intro (show CMul _ _ from Or.inr (And.intro (by decide) (by decide))) ?_)|(refine And.intro (show CMul _ _ from Or.inl (And.intro (by decide) (by decide))) ?_)|(refine And.intro (show CDiv _ _ from(And.intro (by decide) (by decide))) ?_)|(refine And.intro (show CPow _ _ from(And.intro (by decide) (And.intro (by decide) (by decide)))) ?_)|(refine And.intro (show (0:Int)<_ from(by decide)) ?_)))
local macro_rules | `(tactic| walk_at "if")=>`(tactic| dsimp only[Ve,List.set])
local macro_rules | `(tactic| walk_at "ar")=>`(tactic| (intro _ _ _ _ h;first|(cases h;subst_vars;rfl)|repeat (first|(obtain⟨h1,_⟩:=h;subst h1;rfl)|(obtain⟨_,h⟩:=h))))
section
variable{P:Program}{w:World}{K:Frag}{mg:Str->Option Value}{base:Heap}{a:Ad}{f:Addr}{fd:FuncData}
abbrev Rk:Stmt:=top 2
theorem Pf:Zm ["number","club","ledger","rest","rested"] ["number","club","ledger","rest"] (Zj Rk):=fnS
theorem Il(F:Fun K "met_lately" "met_lately" Rk f fd)(T:Tx K mg a)(zkq:Zv P w K mg base a.zke "over" 1 ["self"] (Nm a.zke))(znt:Zv P w K mg base a.zke "met" 1 ["self","number","club"] (zfi a.zke)):FnOk P w K mg base (CX1 P w) 2 f fd ["number","club","ledger","rest"] (Dh a.zke):=by
 refine F.okX Pf ⋯ fun _ _ _ _ H _ Q E hr h=>?_;obtain⟨p,lr,ld,Rs,n,c,rest,rfl,LA,h⟩:=h;refine⟨_,(Zc (pS 4 Pf.nd (Zq (Hs rfl) (by rfl) T.zpz PyProof.Rows.boot_max (Za (Zt Nf (Yk (pv 2) T.zld zkq (hr.mono ⋯) Zk) (pv 3)) (Za Zg Zd))))
 (Zf (Zo (Ux Tu (Xt (pv 2) T.zld znt (hr.mono ⋯) Zk (Za (pv 0) (Za (pv 1) Zd))) (pv 4) (Zr _))))),?_⟩
 obtain⟨⟨dx,hp⟩,_,_⟩:=id LA;refine⟨_,rfl,p,dx,_,rfl,hp,Kj ⋯ ⋯,p,lr,ld,Rs,rfl,LA,_,rfl,_,_,rfl,rfl,_,_,rfl,?_⟩;refine⟨_,rfl,p,dx,_,rfl,hp,Kj ⋯ ⋯,_,rfl,_,rfl,p,lr,ld,Rs,n,c,rfl,LA,fun H' s'=>⟨_,rfl,_,_,rfl,rfl,h H' s'⟩⟩
abbrev Ny:Stmt:=top 3
theorem Wh:Zm ["referee","match","out","ledger","rest","number","grade","club","home","guest","asked","told"] ["referee","match","out","ledger","rest"] (Zj Ny):=fnS
theorem Bv(F:Fun K "reasons" "reasons" Ny f fd)(T:Tx K mg a)(zmy:Yh P w K mg base "met_lately" 2 ["number","club","ledger","rest"] (Dh a.zke)):FnOk P w K mg base (CX1 P w) 3 f fd ["referee","match","out","ledger","rest"] (Gm K a.zke):=by
 refine F.okX Wh ⋯ fun _ _ _ _ H _ Q E hr h=>?_;obtain⟨t1,t2,p,lr,ld,Rs,n,g,c,h,gu,d,rest,o,rfl,h1,h2,LA,hq⟩:=h;refine⟨_,(Zc (pS 5 Wh.nd (pI (iU K) (pv 0) Zg))
 (Zc (pS 6 Wh.nd (pI (iU K) (pv 0) Zg))
 (Zc (pS 7 Wh.nd (pI (iU K) (pv 0) Zg))
 (Zc (pS 8 Wh.nd (pI (iU K) (pv 1) Zg))
 (Zc (pS 9 Wh.nd (pI (iU K) (pv 1) Zg))
 (Zc (pS 10 Wh.nd (pI (iU K) (pv 1) Zg))
 (Zc (pS 11 Wh.nd (Z5 Zd))
 (Zc (Z1 (Wn (pv 2))
  (Zf (Yt (pv 11) Zl))
  Zs)
 (Zc (Z1 (Zn Tu (pv 10) (pv 6) (Zr _))
  (Zf (Yt (pv 11) Zl))
  Zs)
 (Zc (Z1 (PW.pt (V1 (Zn Y6 (pv 7) (pv 8) (Zr _)) (W3 (Zn Y6 (pv 7) (pv 9) (Zr _)))))
  (Zf (Yt (pv 11) Zl))
  Zs)
 (Zc (Z1 (PW.pt (V1 (Wn (pF zmy hr (Za (pv 5) (Za (pv 8) (Za (pv 3) (Za (pv 4) Zd)))))) (W3 (Wn (pF zmy hr (Za (pv 5) (Za (pv 9) (Za (pv 3) (Za (pv 4) Zd)))))))))
  (Zf (Yt (pv 11) Zl))
  Zs)
 (Zf (Zo (pv 11)))))))))))))),?_⟩
 show let y1:TS:=_;let y2:TS:=Z0 _ y1;let y3:TS:=Z0 _ y2;let y4:TS:=Z0 _ y3;let y5:TS:=Z0 _ y4;let y6:TS:=Z0 _ y5;let y7:TS:=Z0 _ y6;let y8:TS:=Z0 _ y7;let y9:TS:=Z0 _ y8;let y10:TS:=Z0 _ y9;let y11:TS:=Z0 _ y10;Z0 _ y11 _ _ _;intro y1 y2 y3 y4 y5 y6 y7 y8 y9 y10 y11;refine⟨_,rfl,t1,_,_,_,rfl,rfl,SqT.of h1,(show atI [V.int n,V.int g,V.int c] 0=some _ from rfl),_,rfl,t1,_,_,_,rfl,rfl,SqT.of h1,(show atI [V.int n,V.int g,V.int c] 1=some _ from rfl),_,rfl,t1,_,_,_,rfl,rfl,SqT.of h1,(show atI [V.int n,V.int g,V.int c] 2=some _ from rfl),?_⟩;refine⟨_,rfl,t2,_,_,_,rfl,rfl,SqT.of h2,(show atI [V.int h,V.int gu,V.int d] 0=some _ from rfl),_,rfl,t2,_,_,_,rfl,rfl,SqT.of h2,(show atI [V.int h,V.int gu,V.int d] 1=some _ from rfl),_,rfl,t2,_,_,_,rfl,rfl,SqT.of h2,(show atI [V.int h,V.int gu,V.int d] 2=some _ from rfl),?_⟩;refine⟨by show 0<=sizeLine;decide,fun l hl=>?_⟩;have s1:=Ze (o:=.lst []) hl;have q1:upd H l (.lst []) l=some (.lst (([]:List Str).map V.str)):=Zb;generalize upd H l (.lst [])=H1 at s1 q1;walk_at "if";have b1:=Bi o "away";have b2:=Bi (decide (g<d)) "grade";have b3:=Bi (decide (c=h)||decide (c=gu)) "club";refine Lo (b:=o) (H0:=H) (Fz fun Q q=>⟨_,rfl,_,rfl,q⟩) hl s1 q1 ⋯ rfl (fun H2 s2 q2 _=>?_);rw[List.nil_append] at q2;refine Lo (b:=decide (g<d)) (H0:=H) (Fz fun Q q=>⟨_,rfl,_,rfl,_,_,rfl,rfl,_,rfl,q⟩) hl s2 q2 ⋯ rfl (fun H3 s3 q3 _=>?_);refine Lo (b:=decide (c=h)||decide (c=gu)) (H0:=H) (Fz (R8 (fun Q q=>⟨_,rfl,_,rfl,rfl,_,rfl,Kg▸q⟩) (fun Q q=>⟨_,rfl,_,rfl,rfl,_,rfl,Kg▸q⟩))) hl s3 q3 (by rw[zsh];omega) rfl (fun H4 s4 q4 _=>?_);refine Lo (b:=Dg Rs n h rest||Dg Rs n gu rest) (H0:=H) (zcw (fun Q q=>⟨_,rfl,_,rfl,_,rfl,_,rfl,p,lr,ld,Rs,n,h,rest,rfl,LA.same s4,fun H5 s5=>⟨_,rfl,q H5 s5⟩⟩) (fun H5 s5 Q q=>⟨_,rfl,_,rfl,_,rfl,_,rfl,p,lr,ld,Rs,n,gu,rest,rfl,LA.same (s4.trans s5),fun H6 s6=>⟨_,rfl,q H6 s6⟩⟩)) hl s4 q4 (by rw[zsh,zsh];omega) rfl (fun H5 s5 q5 _=>?_);refine⟨_,rfl,hq l H5 ?_ s5 hl⟩;unfold Fy;rw[q5,ztn,ztn]
abbrev Vq:Stmt:=Zz (top 23) 0
theorem P4:Zm ["self"] ["self"] (Zj Vq):=fnS
theorem P5(F:Fun K "__init__" "Ledger.__init__" Vq f fd)(T:Tx K mg a):FnOk P w K mg base (CX1 P w) 1 f fd ["self"] (Al a.zke):=by
 refine F.okX P4 ⋯ fun _ _ _ _ H _ Q E hr h=>?_;obtain⟨p,dx,rfl,hp,h⟩:=h;refine⟨_,(Zc (Yx (K:=K) rfl (pv 0) (Z5 Zd) rfl)
 (Zf (Yx (K:=K) rfl (pv 0) E3 rfl))),?_⟩
 refine⟨by show 0<=sizeLine;decide,fun lr hlr=>?_⟩;have np:p≠lr:=Zh hp hlr;refine⟨_,rfl,p,a.zke,dx,[],rfl,(by rw[Zi np];exact hp),T.zld,T.zmp,⋯,?_⟩;intro ld hld;have n1:ld≠p:=fun z=>by rw[z,Zb] at hld;cases hld
 have n2:ld≠lr:=fun z=>by rw[z,Zi (Ne.symm np),Zb] at hld;cases hld
 have hld0:H ld=none:=by rw[Zi n1,Zi n2] at hld;exact hld
 refine⟨_,rfl,p,a.zke,dx,[("rounds",.ref lr)],rfl,(by rw[Zi (Ne.symm n1),Zb];rfl),T.zld,T.zlt,(by show 1<1000;decide),?_⟩;rw[zio];refine h lr ld _ ⟨⟨dx,Zb⟩,⟨[],?_,.nil⟩,⟨[],?_,fun n c=>rfl,zs1 _⟩⟩ (fun b o e hb=>?_) hlr hld0 (Ne.symm n2)
 ·rw[Zi (Ne.symm np),Zi (Ne.symm n2),Zi (Ne.symm np),Zb]
 ·rw[Zi n1,Zb]
 ·rw[Zi hb,Zi (Zh e hld0),Zi hb,Zi (Zh e hlr)];exact e
abbrev Tc:Stmt:=Zz (top 23) 1
theorem Xd:Zm ["self","rows","at","home","guest","grade","referee"] ["self","rows"] (Zj Tc):=fnS
theorem Mx(F:Fun K "write" "Ledger.write" Tc f fd)(T:Tx K mg a):FnOk P w K mg base (CX1 P w) 1 f fd ["self","rows"] (Dw a.zke):=by
 refine F.okX Xd ⋯ fun _ _ _ _ H _ Q E hr h=>?_;obtain⟨p,lr,ld,Rs,b,ts,rs,rfl,LA,hb,nb,tl,hl,hl2,h⟩:=h;have hu:=Wu hr;refine⟨_,(Zc (Yt (Zp (K:=K) rfl (pv 0) rfl) (Xc (Kf (K:=K) rfl) (by rfl) T.zn9 PyProof.Rows.boot_tuple (Za (pv 1) Zd)))
 (Zc (pS 2 Xd.nd (Zq (cL K) (by rfl) T.zli PySem.boot_len (Za (Zp (K:=K) rfl (pv 0) rfl) Zd)))
 (Zf (Vi PassesOwn.leaving rfl (Yz (K:=K) rfl (pv 1)) (Ug (K:=K) (n:=4) rfl rfl (Ya (pN 3 Xd.nd) (Ya (pN 4 Xd.nd) (Ya (pN 5 Xd.nd) (Ya (pN 6 Xd.nd) Ue)))))
  (Zf (Z1 (Zn Oi (pv 6) X1 (Zr _))
   (Zc (Wl hu (Zp (K:=K) rfl (pv 0) rfl) (Z2 (Za (pv 6) (Za (pv 3) Zd))) (pv 2) rfl)
   (Zf (Wl hu (Zp (K:=K) rfl (pv 0) rfl) (Z2 (Za (pv 6) (Za (pv 4) Zd))) (pv 2) rfl)))
   Zs)))))),?_⟩
 obtain⟨⟨dx,hp⟩,⟨rr,hlr,rl⟩,⟨kvs,hd,mt,kl⟩⟩:=LA;have hlen:ts.length=rs.length:=by rw[tl.length,zsg]
 have nrd:lr≠ld:=Ye hlr hd (by intro z;cases z);have nrp:p≠lr:=Ye hp hlr (by intro z;cases z);have npd:p≠ld:=Ye hp hd (by intro z;cases z);have nbd:b≠ld:=Ye hb hd (by intro z;cases z);refine⟨_,rfl,p,a.zke,dx,_,_,rfl,hp,T.zld,T.zmp,Nl,lr,rr,rfl,hlr,_,rfl,b,ts,rfl,.inl ⟨SqL.of hb,fun t ht=>⟨rr,(by rw[Zi (Zh hlr ht)];exact hlr),Qt (by rw[rl.length];omega),?_⟩⟩⟩;have ntr:t≠lr:=Ne.symm (Zh hlr ht);have k1:∀ x o,H x=some o->x≠lr->upd (upd H t (.tup ts)) lr (.lst (rr++[.ref t])) x=some o:=fun x o e n=>by rw[Zi n,Zi (Zh e ht)];exact e
 have t1:∀ x xs,H x=some (.tup xs)->upd (upd H t (.tup ts)) lr (.lst (rr++[.ref t])) x=some (.tup xs):=fun x xs e=>k1 x _ e (Ye e hlr (by intro z;cases z));have r1:upd (upd H t (.tup ts)) lr (.lst (rr++[.ref t])) lr=some (.lst (rr++[.ref t])):=Zb;have rl1:Q6 (upd (upd H t (.tup ts)) lr (.lst (rr++[.ref t]))) (rr++[.ref t]) (Rs++[rs]):=(rl.mono t1).snoc (by rw[Zi ntr,Zb]) (tl.mono t1);have tl1:=tl.mono t1;generalize upd (upd H t (.tup ts)) lr (.lst (rr++[.ref t]))=H1 at k1 t1 r1 rl1 tl1;have hp1:=k1 _ _ hp nrp;have hb1:=k1 _ _ hb nb;have hd1:=k1 _ _ hd (Ne.symm nrd);refine⟨_,rfl,p,a.zke,dx,_,_,rfl,hp1,T.zld,T.zmp,Nl,lr,_,rfl,.inl (SqL.of r1),?_⟩;have hN:(((rr++[V.ref t]).length:Nat):Int)=((Rs.length+1:Nat):Int):=by rw[zsh,rl.length];rfl
 rw[hN];refine⟨_,rfl,b,rfl,⟨_,SqL.of hb1⟩,Ui (K:=K) (a:=b) (xs:=ts) (fun i σ H'=>(∃ v1 v2 v3 v4,σ=[some (.ref p),some (.ref b),some (.int ((Rs.length+1:Nat):Int)),v1,v2,v3,v4])/\(∀ x o,H1 x=some o->x≠ld->H' x=some o) /\
  ∃ kvs',H' ld=some (.dT kvs')/\Meets kvs' (Nn Rs rs i)/\kvs'.length<=2*(tot Rs+i)) ⟨⟨_,_,_,_,rfl⟩,fun _ _ e _=>e,kvs,hd1,by rw[zav];exact mt,by omega⟩ (fun i σ H' _ ⟨_,k,_⟩=>SqL.of (k _ _ hb1 nbd)) ?_ ?_⟩
 ·rintro i x σ H' hx ⟨⟨v1,v2,v3,v4,rfl⟩,k2,kvs',hd2,mt2,kl2⟩;obtain⟨tr,r,rfl,hr3,htr⟩:=zgw tl1 hx;have hi:i<rs.length:=(zsj.mp hr3).1;have htr2:=k2 _ _ htr (Ye htr hd1 (by intro z;cases z));refine⟨tr,_,rfl,SqT.of htr2,rfl,_,_,rfl,_,_,rfl,_,_,rfl,_,_,rfl,rfl,?_⟩;refine⟨_,rfl,rfl,_,rfl,?_⟩;cases hw:r.w with
  | none =>
    refine iteF ?_;exact⟨⟨_,_,_,_,rfl⟩,k2,kvs',hd2,by rw[zaw hr3 hw];exact mt2,by omega⟩
  | some w =>
    refine iteT ?_;have hp2:=k2 _ _ hp1 npd;refine⟨_,rfl,_,rfl,p,a.zke,dx,_,_,rfl,hp2,T.zld,T.zlt,R9,_,rfl,_,rfl,sz2,fun t2 ht2=>⟨ld,_,rfl,DPut.t (k:=[inl w,inl r.h]) (by rw[Zi (Zh hd2 ht2)];exact hd2) Zb ((Nat.lt_trans (zt3 (show _<=200000 by omega) ⋯) Sv)),?_⟩⟩;have k3:∀ x o,H1 x=some o->x≠ld->upd (upd H' t2 (.tup [oV (some w),.int r.h])) ld (.dT (putK kvs' [inl w,inl r.h] (.int ((Rs.length+1:Nat):Int)))) x=some o:=fun x o e n=>by
     have:=k2 x o e n;rw[Zi n,Zi (Zh this ht2)];exact this
    have hd3:upd (upd H' t2 (.tup [oV (some w),.int r.h])) ld (.dT (putK kvs' [inl w,inl r.h] (.int ((Rs.length+1:Nat):Int)))) ld=some (.dT (putK kvs' [inl w,inl r.h] (.int ((Rs.length+1:Nat):Int)))):=Zb;have l3:=X6 kvs' ([inl w,inl r.h]:List Key) (.int ((Rs.length+1:Nat):Int));generalize upd (upd H' t2 (.tup [oV (some w),.int r.h])) ld (.dT (putK kvs' [inl w,inl r.h] (.int ((Rs.length+1:Nat):Int))))=H3 at k3 hd3;have hp3:=k3 _ _ hp1 npd;refine⟨_,rfl,_,rfl,p,a.zke,dx,_,_,rfl,hp3,T.zld,T.zlt,R9,_,rfl,_,rfl,sz2,fun t4 ht4=>⟨ld,_,rfl,DPut.t (k:=[inl w,inl r.g]) (by rw[Zi (Zh hd3 ht4)];exact hd3) Zb ((Nat.lt_trans (zt3 (show _<=200000 by omega) ⋯) Sv)),?_⟩⟩;refine⟨⟨_,_,_,_,rfl⟩,fun x o e n=>?_,_,Zb,?_,?_⟩
    ·have:=k3 x o e n;rw[Zi n,Zi (Zh this ht4)];exact this
    ·rw[<- zax hr3 hw];exact(mt2.put w r.h _ (Nat.succ_pos _)).put w r.g _ (Nat.succ_pos _)
    ·have:=X6 (putK kvs' ([inl w,inl r.h]:List Key) (.int ((Rs.length+1:Nat):Int))) ([inl w,inl r.g]:List Key) (.int ((Rs.length+1:Nat):Int));omega
 ·rintro σ H' ⟨⟨v1,v2,v3,v4,rfl⟩,k2,kvs',hd2,mt2,kl2⟩;rw[hlen] at mt2 kl2;rw[zct] at mt2;refine h H' ⟨⟨dx,k2 _ _ hp1 npd⟩,⟨_,k2 _ _ r1 nrd,rl1.mono fun x xs e=>k2 _ _ e (Ye e hd1 (by intro z;cases z))⟩,kvs',hd2,mt2,by rw[zcs];exact kl2⟩ fun x o e n1 n2=>k2 x o (k1 x o e n1) n2
abbrev T6:Stmt:=Zz (top 23) 2
theorem Ky:Zm ["self"] ["self"] (Zj T6):=fnS
theorem Kz(F:Fun K "over" "Ledger.over" T6 f fd)(T:Tx K mg a):FnOk P w K mg base (CX1 P w) 1 f fd ["self"] (Nm a.zke):=by
 refine F.okX Ky ⋯ fun _ _ _ _ H _ Q E hr h=>?_;obtain⟨p,lr,ld,Rs,rfl,LA,h⟩:=h;refine⟨_,(Zf (Zo (Zq (cL K) (by rfl) T.zli PySem.boot_len (Za (Zp (K:=K) rfl (pv 0) rfl) Zd)))),?_⟩;obtain⟨⟨dx,hp⟩,⟨rr,hlr,rl⟩,_⟩:=LA;refine⟨_,rfl,p,a.zke,dx,_,_,rfl,hp,T.zld,T.zmp,Nl,lr,_,rfl,.inl (SqL.of hlr),?_⟩;rw[rl.length];exact h
abbrev Rl:Stmt:=Zz (top 23) 4
theorem Im:Zm ["self","number","club"] ["self","number","club"] (Zj Rl):=fnS
theorem Io(F:Fun K "met" "Ledger.met" Rl f fd)(T:Tx K mg a):FnOk P w K mg base (CX1 P w) 1 f fd ["self","number","club"] (zfi a.zke):=by
 refine F.okX Im ⋯ fun _ _ _ _ H _ Q E hr h=>?_;obtain⟨p,lr,ld,Rs,n,c,rfl,LA,h⟩:=h;have hu:=Wu hr;refine⟨_,(Zf (Zo (zb9 hu (Zp (K:=K) rfl (pv 0) rfl) (Z2 (Za (pv 1) (Za (pv 2) Zd))) Zg ⟨rfl,rfl,rfl,rfl⟩))),?_⟩;obtain⟨⟨dx,hp⟩,_,⟨kvs,hd,mt,kl⟩⟩:=LA;refine⟨_,rfl,p,a.zke,dx,_,_,rfl,hp,T.zld,T.zlt,R9,ld,rfl,.inr ⟨kvs,.inl hd⟩,_,rfl,_,rfl,sz2,fun t ht=>⟨_,DGet.t (k:=[inl n,inl c]) (by rw[Zi (Zh hd ht)];exact hd) Zb,?_⟩⟩;have e:((valV kvs ([inl n,inl c]:List Key)).getD (.int 0))=.int (metS Rs n c:Nat):=by
  rw[mt n c];split
  ·rename_i z;rw[z];rfl
  ·rfl
 rw[e];exact h _ (Ze ht)
abbrev T7:Stmt:=top 25
theorem K0:Zm ["value","least","most"] ["value","least","most"] (Zj T7):=fnS
theorem K1(F:Fun K "check_range" "check_range" T7 f fd)(T:Tx K mg a):FnOk P w K mg base (CX1 P w) 1 f fd ["value","least","most"] (Ow a.zkn):=by
 refine F.okX K0 ⋯ fun _ _ _ _ H _ Q E hr h=>?_;obtain⟨v,lo,m,rfl,s1,s2,s3,h⟩:=h;refine⟨_,(Zf (Z1 (PW.pt (V1 (Zn Hr (pv 0) (pv 1) (Zr _)) (W3 (Zn Tu (pv 0) (pv 2) (Zr _)))))
  (Zf (Y8 Y7 rfl T.zp5 rfl (Za (Vl (Zx (W4 (pv 0)) (Zx (Xo ⋯) (Zx (W4 (pv 1)) (Zx (Xo ⋯) (Zx (W4 (pv 2)) Vk))))) ⋯) Zd)))
  Zs)),?_⟩
 walk_at "rd";refine itD (fun h1=>?_) (fun h1=>?_)
 ·rw[if_pos (Or.inl h1)] at h;refine iteT ?_;walk_at "rd";refine⟨.inl ⟨_,rfl,s1⟩,_,rfl,.inl ⟨_,rfl,s2⟩,_,rfl,.inl ⟨_,rfl,s3⟩,fun z=>⟨sz1,h⟩⟩
 ·walk_at "rd";refine itD (fun h2=>?_) (fun h2=>?_)
  ·rw[if_pos (Or.inr h2)] at h;walk_at "rd";refine⟨.inl ⟨_,rfl,s1⟩,_,rfl,.inl ⟨_,rfl,s2⟩,_,rfl,.inl ⟨_,rfl,s3⟩,fun z=>⟨sz1,h⟩⟩
  ·rw[if_neg (fun z=>z.elim h1 h2)] at h;exact h
abbrev T8:Stmt:=top 35
theorem Qg:Zm ["matches","count"] ["matches"] (Zj T8):=fnS
theorem K2(F:Fun K "check_count" "check_count" T8 f fd)(T:Tx K mg a):FnOk P w K mg base (CX1 P w) 1 f fd ["matches"] (D6 K (ca a)):=by
 refine F.okX Qg ⋯ fun _ _ _ _ H _ Q E hr h=>?_;obtain⟨b,ts,rfl,hs,hl,h1,h2⟩:=h;refine⟨_,(Zc (pS 1 Qg.nd (Zq (cL K) (by rfl) T.zli PySem.boot_len (Za (pv 0) Zd)))
 (Zf (Z1 (Zn Tu (pv 1) (Xk rfl T.zll) (Zr _))
  (Zf (Y8 Y7 rfl T.zox rfl (Za (Vl (Zx (W4 (pv 1)) (Zx (Xo ⋯) (Zx (W4 (Xk rfl T.zll)) Vk))) ⋯) Zd)))
  Zs))),?_⟩
 refine⟨_,rfl,b,_,rfl,.inl hs,?_⟩;walk_at "rd";refine itD (fun hc=>?_) (fun hc=>?_)
 ·walk_at "rd";exact⟨.inl ⟨_,rfl,Yd ⋯ ⋯⟩,.inl ⟨_,rfl,Yf ⋯⟩,fun z=>⟨sz1,h1 ⋯⟩⟩
 ·exact h2 ⋯
abbrev Td:Stmt:=top 36
theorem Ww:Zm ["matches","home","guest","grade"] ["matches"] (Zj Td):=fnS
theorem My(F:Fun K "check_ranges" "check_ranges" Td f fd)(T:Tx K mg a)(zku:Yh P w K mg base "check_range" 1 ["value","least","most"] (Ow a.zkn)):FnOk P w K mg base (CX1 P w) 2 f fd ["matches"] (Gz K (ca a)):=by
 refine F.okX Ww ⋯ fun _ _ _ _ H _ Q E hr h=>?_;obtain⟨b,ts,Ms,rfl,hs,tl,sm,h1,h2⟩:=h;refine⟨_,(Zf (Vi PassesOwn.leaving rfl (Yz (K:=K) rfl (pv 0)) (Ug (K:=K) (n:=3) rfl rfl (Ya (pN 1 Ww.nd) (Ya (pN 2 Ww.nd) (Ya (pN 3 Ww.nd) Ue))))
  (Zc (Z6 (pF zku hr (Za (pv 1) (Za Zg (Za (Xk rfl T.zlr) Zd)))))
  (Zc (Z6 (pF zku hr (Za (pv 2) (Za Zg (Za (Xk rfl T.zlr) Zd)))))
  (Zf (Z6 (pF zku hr (Za (pv 3) (Za Zg (Za (Xk rfl T.zlv) Zd)))))))))),?_⟩
 have hlen:ts.length=Ms.length:=by rw[tl.length,zsg]
 let jv1:Nat->L2.St->Hp->Prop:=fun i σ H'=>H'=H/\(∃ v1 v2 v3,σ=[some (.ref b),v1,v2,v3])/\∀ m∈Ms.take i,¬ badM m
 refine⟨_,rfl,b,rfl,⟨_,hs⟩,Ui (K:=K) (a:=b) (xs:=ts) jv1 ⟨rfl,⟨_,_,_,rfl⟩,by simp⟩ (fun i σ H' _ ⟨e,_⟩=>e▸hs) ?_ ?_⟩
 ·rintro i x σ H' hx ⟨rfl,⟨v1,v2,v3,rfl⟩,hi⟩;obtain⟨t,m,rfl,hm,ht⟩:=Bj tl hx;have hmem:=zsu hm;obtain⟨s1,s2,s3⟩:=sm m hmem;have bad:badM m->E (.ref a.zkn) none H':=fun hb=>h1 ⟨m,hmem,hb⟩;refine⟨t,_,rfl,SqT.of ht,rfl,_,_,rfl,_,_,rfl,_,_,rfl,rfl,?_⟩;refine⟨_,rfl,_,1,99,rfl,s1,Yf ⋯,Yf ⋯,?_⟩;refine E5 (fun b1=>bad (by unfold badM;omega)) (fun b1=>?_);refine⟨_,rfl,_,1,99,rfl,s2,Yf ⋯,Yf ⋯,?_⟩;refine E5 (fun b2=>bad (by unfold badM;omega)) (fun b2=>?_);refine⟨_,rfl,_,1,9,rfl,s3,Yf ⋯,Yf ⋯,?_⟩;refine E5 (fun b3=>bad (by unfold badM;omega)) (fun b3=>?_);exact⟨rfl,⟨_,_,_,rfl⟩,Gy hm hi (by unfold badM;omega)⟩
 ·rintro σ H' ⟨rfl,⟨v1,v2,v3,rfl⟩,hi⟩;rw[hlen,zs0] at hi;exact h2 fun ⟨m,hm,hb⟩=>hi m hm hb
abbrev T9:Stmt:=top 37
theorem Vr:Zm ["matches","home","guest","grade"] ["matches"] (Zj T9):=fnS
theorem K3(F:Fun K "check_clubs" "check_clubs" T9 f fd)(T:Tx K mg a):FnOk P w K mg base (CX1 P w) 1 f fd ["matches"] (D7 K (ca a)):=by
 refine F.okX Vr ⋯ fun _ _ _ _ H _ Q E hr h=>?_;obtain⟨b,ts,Ms,rfl,hs,tl,sm,h1,h2⟩:=h;refine⟨_,(Zf (Vi PassesOwn.leaving rfl (Yz (K:=K) rfl (pv 0)) (Ug (K:=K) (n:=3) rfl rfl (Ya (pN 1 Vr.nd) (Ya (pN 2 Vr.nd) (Ya (pN 3 Vr.nd) Ue))))
  (Zf (Z1 (Zn Y6 (pv 1) (pv 2) (Zr _))
   (Zf (Y8 Y7 rfl T.zqk rfl (Za (Vl (Zx (Xo ⋯) (Zx (W4 (pv 1)) (Zx (Xo ⋯) Vk))) ⋯) Zd)))
   Zs)))),?_⟩
 have hlen:ts.length=Ms.length:=by rw[tl.length,zsg]
 let jv2:Nat->L2.St->Hp->Prop:=fun i σ H'=>H'=H/\(∃ v1 v2 v3,σ=[some (.ref b),v1,v2,v3])/\∀ m∈Ms.take i,¬ (m.1=m.2.1)
 refine⟨_,rfl,b,rfl,⟨_,hs⟩,Ui (K:=K) (a:=b) (xs:=ts) jv2 ⟨rfl,⟨_,_,_,rfl⟩,by simp⟩ (fun i σ H' _ ⟨e,_⟩=>e▸hs) ?_ ?_⟩
 ·rintro i x σ H' hx ⟨rfl,⟨v1,v2,v3,rfl⟩,hi⟩;obtain⟨t,m,rfl,hm,ht⟩:=Bj tl hx;have hmem:=zsu hm;obtain⟨s1,s2,s3⟩:=sm m hmem;refine⟨t,_,rfl,SqT.of ht,rfl,_,_,rfl,_,_,rfl,_,_,rfl,rfl,?_⟩;refine⟨_,rfl,_,rfl,rfl,_,rfl,?_⟩;refine itV (fun he=>?_) (fun he=>?_)
  ·exact⟨_,rfl,.inl ⟨_,rfl,s1⟩,fun z=>⟨sz1,h1 ⟨m,hmem,he⟩⟩⟩
  ·exact⟨rfl,⟨_,_,_,rfl⟩,Gy (p:=fun m=>m.1=m.2.1) hm hi he⟩
 ·rintro σ H' ⟨rfl,⟨v1,v2,v3,rfl⟩,hi⟩;rw[hlen,zs0] at hi;exact h2 fun ⟨m,hm,hb⟩=>hi m hm hb
abbrev Nz:Stmt:=top 38
theorem Bw:Zm ["matches"] ["matches"] (Zj Nz):=fnS
theorem Bx(F:Fun K "checked" "checked" Nz f fd)(T:Tx K mg a)(znl:Yh P w K mg base "check_count" 1 ["matches"] (D6 K (ca a)))(zm5:Yh P w K mg base "check_ranges" 2 ["matches"] (Gz K (ca a)))(zno:Yh P w K mg base "check_clubs" 1 ["matches"] (D7 K (ca a))):FnOk P w K mg base (CX1 P w) 3 f fd ["matches"] (Kq K (ca a)):=by
 refine F.okX Bw ⋯ fun _ _ _ _ H _ Q E hr h=>?_;obtain⟨b,ts,Ms,rfl,hs,tl,sm,hl,h1,h2,h3,h4⟩:=h;refine⟨_,(Zc (Z6 (pF znl hr (Za (pv 0) Zd)))
 (Zc (Z6 (pF zm5 hr (Za (pv 0) Zd)))
 (Zc (Z6 (pF zno hr (Za (pv 0) Zd)))
 (Zf (Zo (Xc (X0 (K:=K) rfl) (by rfl) T.zmi PyProof.Rows.boot_list (Za (pv 0) Zd))))))),?_⟩
 have hlen:ts.length=Ms.length:=by rw[tl.length,zsg]
 refine⟨_,rfl,b,ts,rfl,hs,by omega,fun hc=>h1 ⋯,fun hc=>?_⟩;refine⟨_,rfl,b,ts,Ms,rfl,hs,tl,sm,fun hb=>h2 ⋯ hb,fun hb=>?_⟩;refine⟨_,rfl,b,ts,Ms,rfl,hs,tl,sm,fun hb2=>h3 ⋯ hb hb2,fun hb2=>?_⟩;exact⟨_,rfl,b,ts,rfl,.inl hs,h4 ⋯ hb hb2⟩
abbrev Vs:Stmt:=Zz (top 40) 0
theorem P6:Zm ["self"] ["self"] (Zj Vs):=fnS
theorem P7(F:Fun K "__init__" "Roster.__init__" Vs f fd)(T:Tx K mg a):FnOk P w K mg base (CX1 P w) 1 f fd ["self"] (Ao (ca a)):=by
 refine F.okX P6 ⋯ fun _ _ _ _ H _ Q E hr h=>?_;obtain⟨p,dx,rfl,hp,h⟩:=h;refine⟨_,(Zf (Yx (K:=K) rfl (pv 0) E2 rfl)),?_⟩;intro d hd;exact⟨_,rfl,p,a.zkf,dx,[],rfl,(by rw[Zi (Zh hp hd)];exact hp),T.zk4,T.zlf,⋯,h d hd⟩
abbrev W8:Stmt:=Zz (top 40) 1
theorem Q7:Zm ["self","number","grade","club"] ["self","number","grade","club"] (Zj W8):=fnS
theorem Q8(F:Fun K "check_new" "Roster.check_new" W8 f fd)(T:Tx K mg a)(zku:Yh P w K mg base "check_range" 1 ["value","least","most"] (Ow a.zkn)):FnOk P w K mg base (CX1 P w) 2 f fd ["self","number","grade","club"] (Pt (ca a)):=by
 refine F.okX Q7 ⋯ fun _ _ _ _ H _ Q E hr h=>?_;obtain⟨p,d,R,n,g,c,rfl,RA,sm,h⟩:=h;have hu:=Wu hr;refine⟨_,(Zc (Z6 (pF zku hr (Za (pv 1) (Za Zg (Za (Xk rfl T.zl2) Zd)))))
 (Zc (Z6 (pF zku hr (Za (pv 2) (Za Zg (Za (Xk rfl T.zlv) Zd)))))
 (Zc (Z6 (pF zku hr (Za (pv 3) (Za Zg (Za (Xk rfl T.zlr) Zd)))))
 (Zc (Z1 (Ph (Fh hu (pv 1) (Zp (K:=K) rfl (pv 0) rfl)))
  (Zf (Y8 Y7 rfl T.zpi rfl (Za (Vl (Zx (Xo ⋯) (Zx (W4 (pv 1)) (Zx (Xo ⋯) Vk))) ⋯) Zd)))
  Zs)
 (Zf (Z1 (Zn zfa (Zq zan (by rfl) T.zli PySem.boot_len (Za (Zp (K:=K) rfl (pv 0) rfl) Zd)) (Xk rfl T.zlg) (Zr _))
  (Zf (Y8 Y7 rfl T.zoh rfl (Za (Vl (Zx (Xo ⋯) (Zx (W4 (Xk rfl T.zlg)) (Zx (Xo ⋯) Vk))) ⋯) Zd)))
  Zs)))))),?_⟩
 obtain⟨sn,sg,sc⟩:=sm;obtain⟨⟨dx,kvs,hp,hd,en⟩,nd⟩:=id RA;have bad:∀ {A B:Prop},(badI n g c->(if badI n g c then A else B)->A):=fun hb z=>by rw[if_pos hb] at z;exact z
 refine⟨_,rfl,n,1,999,rfl,sn,Yf ⋯,Yf ⋯,?_⟩;refine E5 (fun b1=>bad (by unfold badI;omega) h) (fun b1=>?_);refine⟨_,rfl,g,1,9,rfl,sg,Yf ⋯,Yf ⋯,?_⟩;refine E5 (fun b2=>bad (by unfold badI;omega) h) (fun b2=>?_);refine⟨_,rfl,c,1,99,rfl,sc,Yf ⋯,Yf ⋯,?_⟩;refine E5 (fun b3=>bad (by unfold badI;omega) h) (fun b3=>?_);rw[if_neg (by unfold badI;omega)] at h;refine⟨_,rfl,_,rfl,p,a.zkf,dx,_,_,rfl,hp,T.zk4,T.zlf,W6,d,_,rfl,DGet.k (k:=inl n) hd,_,rfl,?_⟩;rw[en.isSome nd];refine itD (fun hn=>?_) (fun hn=>?_)
 ·rw[if_pos hn] at h;exact⟨_,rfl,.inl ⟨_,rfl,sn⟩,fun z=>⟨sz1,h⟩⟩
 rw[if_neg hn] at h;refine⟨_,rfl,p,a.zkf,dx,_,_,rfl,hp,T.zk4,T.zlf,W6,d,_,rfl,hd,_,_,rfl,rfl,_,rfl,?_⟩;rw[en.length];refine itD (fun hz=>?_) (fun hz=>?_)
 ·rw[if_pos ⋯] at h;exact⟨.inl ⟨_,rfl,Yf ⋯⟩,fun z=>⟨sz1,h⟩⟩
 rw[if_neg ⋯] at h;exact h
abbrev Wi:Stmt:=Zz (top 40) 2
theorem Rx:Zm ["self","number"] ["self","number"] (Zj Wi):=fnS
theorem Ry(F:Fun K "check_known" "Roster.check_known" Wi f fd)(T:Tx K mg a):FnOk P w K mg base (CX1 P w) 1 f fd ["self","number"] (Rg (ca a)):=by
 refine F.okX Rx ⋯ fun _ _ _ _ H _ Q E hr h=>?_;obtain⟨p,d,R,n,rfl,RA,sn,h⟩:=h;have hu:=Wu hr;refine⟨_,(Zf (Z1 (Ph (Ni hu (pv 1) (Zp (K:=K) rfl (pv 0) rfl)))
  (Zf (Y8 Y7 rfl T.zo8 rfl (Za (Vl (Zx (Xo ⋯) (Zx (W4 (pv 1)) (Zx (Xo ⋯) Vk))) ⋯) Zd)))
  Zs)),?_⟩
 obtain⟨⟨dx,kvs,hp,hd,en⟩,nd⟩:=id RA;refine⟨_,rfl,_,rfl,p,a.zkf,dx,_,_,rfl,hp,T.zk4,T.zlf,W6,d,_,rfl,DGet.k (k:=inl n) hd,_,rfl,?_⟩;rw[en.isSome nd];by_cases hn:n∈R.map (·.1)
 ·rw[zsm hn];rw[if_pos hn] at h;exact iteF h
 ·rw[zsr hn];rw[if_neg hn] at h;exact iteT ⟨_,rfl,.inl ⟨_,rfl,sn⟩,fun z=>⟨sz1,h⟩⟩
abbrev Rm:Stmt:=Zz (top 40) 3
theorem Ip:Zm ["self","number","grade","club"] ["self","number","grade","club"] (Zj Rm):=fnS
theorem Iq(F:Fun K "add" "Roster.add" Rm f fd)(T:Tx K mg a)(zk7:Zv P w K mg base a.zkf "check_new" 2 ["self","number","grade","club"] (Pt (ca a))):FnOk P w K mg base (CX1 P w) 3 f fd ["self","number","grade","club"] (zdd (ca a)):=by
 refine F.okX Ip ⋯ fun _ _ _ _ H _ Q E hr h=>?_;obtain⟨p,d,R,n,g,c,rfl,RA,sm,hl,h⟩:=h;have hu:=Wu hr;refine⟨_,(Zc (Z6 (Xt (pv 0) T.zk4 zk7 (hr.mono ⋯) Zk (Za (pv 1) (Za (pv 2) (Za (pv 3) Zd)))))
 (Zf (Wl hu (Zp (K:=K) rfl (pv 0) rfl) (pv 1) (Z2 (Za (pv 2) (Za (pv 3) Zd))) rfl))),?_⟩
 obtain⟨⟨dx,kvs,hp,hd,en⟩,nd⟩:=id RA;refine⟨_,rfl,p,dx,_,rfl,hp,Y4.no ⋯,_,rfl,_,rfl,_,rfl,p,d,R,n,g,c,rfl,RA,sm,?_⟩;refine it2 h (fun _ z=>z) fun hb h=>it2 h (fun _ z=>z) fun hn h=>it2 h (fun _ z=>z) fun hz h=>?_;refine⟨_,rfl,_,rfl,sz2,fun t ht=>?_⟩;have ntp:p≠t:=Zh hp ht;have ntd:d≠t:=Zh hd ht;have npd:p≠d:=Ye hp hd (by intro z;cases z);refine⟨_,rfl,p,a.zkf,dx,_,_,rfl,(by rw[Zi ntp];exact hp),T.zk4,T.zlf,W6,_,rfl,d,_,rfl,DPut.k (k:=inl n) (by rw[Zi ntd];exact hd) (Qt (by rw[en.length];exact hl)),?_⟩;rw[za4 (en.val_none hn)];refine h _ ⟨⟨dx,_,(by rw[Zi npd,Zi ntp];exact hp),Zb,?_⟩,?_⟩ fun b o e hb=>(by rw[Zi hb,Zi (Zh e ht)];exact e)
 ·refine W5.snoc (by rw[Zi (Ne.symm ntd)];exact Zb) (en.mono fun b xs e=>?_);rw[Zi (Ye e hd (by intro z;cases z)),Zi (Zh e ht)];exact e
 ·rw[zsp];exact Fn nd hn
abbrev Ur:Stmt:=Zz (top 40) 4
theorem N0:Zm ["self","number"] ["self","number"] (Zj Ur):=fnS
theorem N1(F:Fun K "strike" "Roster.strike" Ur f fd)(T:Tx K mg a):FnOk P w K mg base (CX1 P w) 1 f fd ["self","number"] (Dq (ca a)):=by
 refine F.okX N0 ⋯ fun _ _ _ _ H _ Q E hr h=>?_;obtain⟨p,d,R,n,g,c,rfl,RA,h⟩:=h;refine⟨_,(Zf (Z6 (zca (Zp (K:=K) rfl (pv 0) rfl) (pv 1) ⟨rfl,rfl,rfl,rfl⟩))),?_⟩;obtain⟨⟨dx,kvs,hp,hd,en⟩,nd⟩:=id RA;have npd:p≠d:=Ye hp hd (by intro z;cases z);obtain⟨t,e1,e2⟩:=en.val_some nd (show (n,g,c)∈R++[(n,g,c)] by simp);have hn:n∉R.map (·.1):=by
  rw[zsp,List.nodup_append] at nd;exact fun z=>nd.2.2 n z n (by simp) rfl
 refine⟨_,rfl,p,a.zkf,dx,_,_,rfl,hp,T.zk4,T.zlf,W6,d,rfl,.inl ⟨kvs,.inl hd⟩,_,rfl,kvs,inl n,_,hd,rfl,e1,?_⟩;refine h _ ⟨⟨dx,_,(by rw[Zi npd];exact hp),Zb,(en.unsnoc hn).mono fun b xs e=>?_⟩,?_⟩ fun b o e hb=>(by rw[Zi hb];exact e)
 ·rw[Zi (Ye e hd (by intro z;cases z))];exact e
 ·rw[zsp,List.nodup_append] at nd;exact nd.1
abbrev V9:Stmt:=Zz (top 40) 6
theorem O1:Zm ["self"] ["self"] (Zj V9):=fnS
theorem O2(F:Fun K "numbers" "Roster.numbers" V9 f fd)(T:Tx K mg a):FnOk P w K mg base (CX1 P w) 1 f fd ["self"] (Pu (ca a)):=by
 refine F.okX O1 ⋯ fun _ _ _ _ H _ Q E hr h=>?_;obtain⟨p,d,R,rfl,RA,h⟩:=h;refine⟨_,(Zf (Zo (Xc (Bh rfl) (by rfl) T.zmi PyProof.Rows.boot_list (Za (Zp (K:=K) rfl (pv 0) rfl) Zd)))),?_⟩;obtain⟨⟨dx,kvs,hp,hd,en⟩,nd⟩:=id RA;refine⟨_,rfl,p,a.zkf,dx,_,_,rfl,hp,T.zk4,T.zlf,W6,d,kvs,rfl,.inl hd,fun l hl=>?_⟩;rw[en.keys];exact h l hl
abbrev Te:Stmt:=Zz (top 40) 7
theorem Mz:Zm ["self","number"] ["self","number"] (Zj Te):=fnS
theorem M0(F:Fun K "entry" "Roster.entry" Te f fd)(T:Tx K mg a)(zk2:Zv P w K mg base a.zkf "check_known" 1 ["self","number"] (Rg (ca a))):FnOk P w K mg base (CX1 P w) 2 f fd ["self","number"] (Dr (ca a)):=by
 refine F.okX Mz ⋯ fun _ _ _ _ H _ Q E hr h=>?_;obtain⟨p,d,R,n,rfl,RA,sn,h1,h2⟩:=h;have hu:=Wu hr;refine⟨_,(Zc (Z6 (Xt (pv 0) T.zk4 zk2 (hr.mono ⋯) Zk (Za (pv 1) Zd)))
 (Zf (Zo (pD hu (Zp (K:=K) rfl (pv 0) rfl) (pv 1))))),?_⟩
 obtain⟨⟨dx,kvs,hp,hd,en⟩,nd⟩:=id RA;refine⟨_,rfl,p,dx,_,rfl,hp,Y4.no ⋯,_,rfl,p,d,R,n,rfl,RA,sn,?_⟩;refine E5 (fun hn=>?_) (fun hn=>h1 hn);obtain⟨⟨m,g,c⟩,q,rfl⟩:=zsq.mp hn;obtain⟨t,e1,e2⟩:=en.val_some nd q;exact⟨_,rfl,p,a.zkf,dx,_,_,rfl,hp,T.zk4,T.zlf,W6,_,rfl,d,_,rfl,(by rw[<- e1];exact DGet.k (k:=inl m) hd),h2 g c t q e2⟩
abbrev Us:Stmt:=Zz (top 40) 10
theorem N2:Zm ["self","number"] ["self","number"] (Zj Us):=fnS
theorem N3(F:Fun K "person" "Roster.person" Us f fd)(T:Tx K mg a)(zm3:Zv P w K mg base a.zkf "entry" 2 ["self","number"] (Dr (ca a))):FnOk P w K mg base (CX1 P w) 3 f fd ["self","number"] (Du (ca a)):=by
 refine F.okX N2 ⋯ fun _ _ _ _ H _ Q E hr h=>?_;obtain⟨p,d,R,n,rfl,RA,sn,h1,h2⟩:=h;refine⟨_,(Zf (Zo (Zt (Dv (K:=K) rfl) (Z2 (Za (pv 1) Zd)) (Xt (pv 0) T.zk4 zm3 (hr.mono ⋯) Zk (Za (pv 1) Zd))))),?_⟩;obtain⟨⟨dx,kvs,hp,hd,en⟩,nd⟩:=id RA;refine⟨_,rfl,sz1,fun t1 ht1=>?_⟩;have s1:=Ze (o:=.tup [.int n]) ht1;have q1:upd H t1 (.tup [.int n]) t1=some (.tup [.int n]):=Zb;generalize upd H t1 (.tup [.int n])=H1 at s1 q1;refine⟨_,rfl,p,dx,_,rfl,s1 _ _ hp,Y4.no ⋯,_,rfl,p,d,R,n,rfl,RA.same s1,sn,fun hn=>h1 hn H1 s1,fun g c t q ht=>?_⟩;refine⟨t1,t,_,_,rfl,rfl,SqT.of q1,SqT.of ht,by simp,by show 1+2<=sizeLine;exact sz3,fun z=>absurd z (by simp),fun _ t2 ht2=>?_⟩;exact h2 g c t2 _ q Zb (s1.trans (Ze ht2)) (s1.free ht2)
abbrev K4:Stmt:=top 4
theorem zbi:Zm ["people","match","out","ledger","rest"] ["people","match","out","ledger","rest"] (Zj K4):=fnS
theorem zbj(F:Fun K "takers" "takers" K4 f fd)(T:Tx K mg a)(zo1:Yh P w K mg base "reasons" 3 ["referee","match","out","ledger","rest"] (Gm K a.zke)):FnOk P w K mg base (CX1 P w) 4 f fd ["people","match","out","ledger","rest"] (Dj K a.zke):=by
 refine F.okX zbi ⋯ fun _ _ _ _ H _ Q E hr h=>?_;obtain⟨lp,lo,tm,p,lr,ld,Rs,ts,Ms,os,h,gu,d,rest,rfl,hp,tl,ho,hoo,ht,LA,hl,hq⟩:=h;refine⟨_,(Zf (Zo (Uo rfl (cT ["match","ledger","rest","out"] [1,3,4,2]) (Yz (K:=K) rfl (pv 0)) (fun _ _ _ _ _=>Fq (V6 (Gi (K:=K) rfl (Ag zo1 (hr.mono ⋯) zco rfl (Za (pv 0) (Za (pv 1) (Za (Ux (Pn (K:=K) rfl) (pI (iU K) (pv 0) Zg) (pv 4) (by with_unfolding_all rfl)) (Za (pv 2) (Za (pv 3) Zd)))))) (fun _=>rfl)))) (fun _ _ _ _ _=>(pI (iU K) (pv 0) Zg))))),?_⟩;have hlen:ts.length=Ms.length:=by rw[tl.length,zsg]
 refine⟨_,rfl,lp,rfl,⟨_,SqL.of hp⟩,?_⟩;refine V7 (K:=K) (a:=lp) (xs:=ts) (fun i ys H'=>Same H H'/\ys=((Ms.take i).filter (Qa Rs h gu d os rest)).map fun m=>V.int m.1) ⟨Same.refl _,rfl⟩ (fun i ys H' _ ⟨s,_⟩=>SqL.of (s _ _ hp)) (by rw[hlen];exact szN hl) (fun i ys H' ⟨_,e⟩=>by rw[e,zsg];exact zs3 (zuc _ _) (zum _ _)) ?_ ?_
 ·rintro i x ys H' hx ⟨sm,rfl⟩;obtain⟨t,m,rfl,hm,htt⟩:=Bj tl hx;have htt':=sm _ _ htt;refine⟨_,rfl,_,rfl,_,rfl,t,_,_,_,rfl,rfl,SqT.of htt',(show atI (pV m) 0=some _ from rfl),_,rfl,lo,os,rfl,.inl (SqL.of (sm _ _ ho)),rfl,List.all_eq_true.mpr (fun y hy=>zcv (hoo y hy)),_,rfl,_,rfl,t,tm,p,lr,ld,Rs,m.1,m.2.1,m.2.2,h,gu,d,rest,inV (.int m.1) os,rfl,htt',sm _ _ ht,LA.same sm,fun l H2 hl2 s2 _=>?_⟩;refine⟨_,.inl ⟨_,SqL.of hl2,rfl⟩,?_⟩;have e:((Fy Rs m.1 m.2.1 m.2.2 h gu d (inV (.int m.1) os) rest).map V.str).isEmpty=Qa Rs h gu d os rest m:=by unfold Qa;rw[List.isEmpty_map]
  have hys:∀ ys',((Ms.take (i+1)).filter (Qa Rs h gu d os rest)).map (fun m=>V.int m.1)=((Ms.take i).filter (Qa Rs h gu d os rest)).map (fun m=>V.int m.1)++ys'↔ys'=if Qa Rs h gu d os rest m then [V.int m.1] else []:=fun ys'=>by
   rw[zto,hm,List.filter_append,zsp,List.append_cancel_left_eq];cases q:Qa Rs h gu d os rest m<;>simp[q,eq_comm]
  dsimp only;rw[e];refine itB (fun hb=>?_) (fun hb=>?_)
  ·rw[Bool.not_not] at hb;refine⟨_,rfl,t,_,_,_,rfl,rfl,SqT.of (s2 _ _ htt'),(show atI (pV m) 0=some _ from rfl),sm.trans s2,?_⟩;exact((hys [V.int m.1]).mpr (by rw[hb];rfl)).symm
  ·rw[Bool.not_not] at hb;refine⟨sm.trans s2,?_⟩;have:=(hys []).mpr (by rw[hb];rfl);rw[zup] at this;exact this.symm
 ·rintro ys H' ⟨sm,rfl⟩ l hl';rw[hlen,zs0];exact hq l _ Zb (sm.trans (Ze hl')) (sm.free hl')
abbrev Tf:Stmt:=top 42
theorem Wx:Zm ["given","taken","place","number"] ["given"] (Zj Tf):=fnS
theorem M3(F:Fun K "places_taken" "places_taken" Tf f fd)(T:Tx K mg a):FnOk P w K mg base (CX1 P w) 1 f fd ["given"] (Am K):=by
 refine F.okX Wx ⋯ fun _ _ _ _ H _ Q E hr h=>?_;obtain⟨b,gs,rfl,hb,ho,hinj,hl,h⟩:=h;have hu:=Wu hr;refine⟨_,(Zc (pS 1 Wx.nd E2)
 (Zc (Vi PassesOwn.leaving rfl (zeq (K:=K) rfl rfl T.zmo (Za (pv 0) Zd)) (Ug (K:=K) (n:=2) rfl rfl (Ya (pN 2 Wx.nd) (Ya (pN 3 Wx.nd) Ue)))
  (Zf (Z1 (Zn Oi (pv 3) X1 (Zr _))
   (Zf (Wl hu (pv 1) (pv 3) (pv 2) rfl))
   Zs)))
 (Zf (Zo (pv 1))))),?_⟩
 have line:100<sizeLine:=by rw[sizeLine_eq];decide
 intro d hd
 let jv1:Nat->L2.St->Hp->Prop:=fun i σ' H'=>(∃ u v,σ'=[some (.ref b),some (.ref d),u,v])/\Same H H'/\∃ kvs,H' d=some (.dK kvs)/\kvs.length<=i/\(∀ (n:Int) (j:Nat),j<i->gs[j]?=some (.int n)->valV kvs (inl n:Key)=some (.int (j:Nat)))/\(∀ n:Int,(∀ j:Nat,j<i->gs[j]?≠some (.int n))->valV kvs (inl n:Key)=none)
 refine⟨_,rfl,b,rfl,⟨gs,SqL.of (Ze hd _ _ hb)⟩,zc3 (xs:=gs) jv1
  ⟨⟨none,none,rfl⟩,Ze hd,[],Zb,zso _,fun n j hj=>absurd hj (zuq _),fun n _=>rfl⟩ (fun i σ' H' hi p=>SqL.of (p.2.1 _ _ hb)) (fun i x t σ' H' hx p htn=>?_) (fun σ' H' p=>?_)⟩
 ·obtain⟨⟨u,v,rfl⟩,hs,kvs,hk,hkl,h1,h2⟩:=p;have s2:=hs.trans (Ze (o:=.tup [.int (i:Nat),x]) htn);have hk2:=Ze (o:=.tup [.int (i:Nat),x]) htn _ _ hk;refine⟨t,_,rfl,SqT.of Zb,rfl,_,_,rfl,_,_,rfl,rfl,?_⟩;generalize upd H' t (.tup [.int (i:Nat),x])=H2 at s2 hk2;have hi:i<gs.length:=(zsj.mp hx).1;refine Uh (b:=!decide (x=.non)) (fun Q k=>⟨_,rfl,rfl,_,rfl,k⟩) ?_;rcases ho x (zsu hx) with rfl|⟨n,rfl⟩
  ·refine iteF (Zu ⟨⟨_,_,rfl⟩,s2,kvs,hk2,by omega,fun n j hj hg=>?_,fun n hn=>h2 n fun j hj=>hn j ⋯⟩);by_cases e:j=i
   ·subst e;rw[hx] at hg;cases hg
   ·exact h1 n j ⋯ hg
  ·refine iteT ⟨_,rfl,_,rfl,_,rfl,d,_,rfl,DPut.k (k:=inl n) hk2 ⋯,⟨_,_,rfl⟩,?_,_,Zb,?_,fun m j hj hg=>?_,fun m hm=>?_⟩
   ·exact Xp hd s2
   ·exact zs3 (X6 kvs _ _) ⋯
   ·rw[Sr];by_cases e:j=i
    ·subst e;rw[hx] at hg;cases hg;rw[if_pos rfl]
    ·have hne:¬ ((inl m:Key)=inl n):=fun z=>by
      rw[inl.inj z] at hg;exact e (hinj j i n hg hx)
     rw[if_neg hne];exact h1 m j ⋯ hg
   ·have hne:¬ ((inl m:Key)=inl n):=fun z=>by
     rw[inl.inj z] at hm;exact hm i ⋯ hx
    rw[Sr,if_neg hne];exact h2 m fun j hj=>hm j ⋯
 ·obtain⟨⟨u,v,rfl⟩,hs,kvs,hk,hkl,h1,h2⟩:=p;exact⟨_,rfl,h d kvs H' hk ⟨fun n j hj=>h1 n j (zsj.mp hj).1 hj,fun n hn=>h2 n fun j _=>hn j⟩ hs hd⟩
abbrev Rn:Stmt:=top 43
theorem Xj:Zm ["may","taken","start","into","waiting","done","place","number"] ["may","taken","start"] (Zj Rn):=fnS
theorem Ir(F:Fun K "steps_into" "steps_into" Rn f fd)(T:Tx K mg a):FnOk P w K mg base (CX1 P w) 1 f fd ["may","taken","start"] (zc9 K):=by
 refine F.okX Xj ⋯ fun _ _ _ _ H _ Q E hr h=>?_;obtain⟨l,d,ls,rows,kvs,gs,p,rfl,hl,il,hrl,hd,tk,FP,hp,h⟩:=h;have hu:=Wu hr;refine⟨_,(Zc (pS 3 Xj.nd (B9 (R4 (pv 2) X1 B8) rfl rfl (by simp) ⋯))
 (Zc (pS 4 Xj.nd (Z5 (Za (pv 2) Zd)))
 (Zc (pS 5 Xj.nd Zg)
 (Zc (Eo PassesOwn.leaving (Zn Hr (pv 5) (Zq (cL K) (by rfl) T.zli PySem.boot_len (Za (pv 4) Zd)) (Zr _))
  (Zc (pS 6 Xj.nd (pI (iL K) (pv 4) (pv 5)))
  (Zc (pS 5 Xj.nd (Zt Y1 (pv 5) Zg))
  (Zf (Vi PassesOwn.leaving rfl (Yz (K:=K) rfl (pI (iL K) (pv 0) (pv 6))) (pN 7 Xj.nd)
   (Zf (Z1 (PW.pt (Pj (Ph (Fh hu (pv 7) (pv 1))) (S9 (Ph (Ni hu (pD hu (pv 1) (pv 7)) (pv 3))))))
    (Zc (Wl hu (pv 3) (pD hu (pv 1) (pv 7)) (Z2 (Za (pv 6) (Za (pv 7) Zd))) rfl)
    (Zf (Yt (pv 4) (pD hu (pv 1) (pv 7)))))
    Zs)))))))
 (Zf (Zo (pv 3))))))),?_⟩
 show let y1:TS:=_;let y2:TS:=Z0 _ y1;let y3:TS:=_;let y4:TS:=Z0 (zbs _ (Z0 _ y2)) y3;let y5:TS:=Z0 _ y4;let y6:TS:=Z0 _ y5;Z0 _ y6 _ _ _;intro y1 y2 y3 y4 y5 y6;have line0:200<sizeLine:=by rw[sizeLine_eq];decide
 intro ld hld;refine⟨_,rfl,Zb,[(inl (p:Int),.non)],rfl,(by show 1<=15;decide),?_⟩;have s0:Same H (upd (upd H ld (.dK [])) ld (.dK (Rb [] [(inl (p:Int),.non)]))):=Xp hld (Ze hld);have q0:upd (upd H ld (.dK [])) ld (.dK (Rb [] [(inl (p:Int),.non)])) ld=some (.dK [((inl (p:Int):Key),V.non)]):=Zb;generalize upd (upd H ld (.dK [])) ld (.dK (Rb [] [(inl (p:Int),.non)]))=H1 at s0 q0;refine⟨_,rfl,sz1,fun ln hln=>?_⟩;have s1:=Ze (o:=.lst [.int p]) hln;have e1:upd H1 ln (.lst [.int p]) ln=some (.lst (Ru [p])):=Zb;have q1:=s1 _ _ q0;have s01:=s0.trans s1;have nln:ld≠ln:=Zh q0 hln;have fln:H ln=none:=s0.free hln;generalize upd H1 ln (.lst [.int p])=H2 at s1 e1 q1 s01;have hbound:∀ line:List Nat,line.Nodup->(∀ c∈line,c<rows.length)->line.length<=rows.length:=fun line nd hc=>by
  have:=nd.length_le_of_subset (l₂:=List.range rows.length) fun c hcc=>zti.mpr (hc c hcc);rw[ztl] at this;exact this
 refine⟨fun m σ' H'=>∃ (line:List Nat) (dep:Nat->Nat) (fr:Nat->Option (Nat×Int)) (into:List (Key×V)) (dn:Nat) (v6 v7:Option V),m=rows.length-dn/\dn<=line.length/\σ'=[some (.ref l),some (.ref d),some (.int p),some (.ref ld),some (.ref ln),some (.int (dn:Nat)),v6,v7]/\Same H H'/\H' ld=some (.dK into)/\H' ln=some (.lst (Ru line))/\Xi H' into line fr/\Bfs rows gs p line dep/\Done rows gs line dep dn/\U6 rows gs p line dep fr/\(∀ q∈line,q<rows.length)/\∀ here,line[dn]?=some here->∀ x∈line,dep x<=dep here+1,
  ⟨_,[p],fun _=>0,fun _=>none,_,0,_,_,rfl,zs1 _,rfl,s01,q1,e1,Bo _ _,zaz rows gs p,fun i q hi=>absurd hi (zuq _),Bp,by simpa using hp,fun here _ x _=>zs1 _⟩,?_⟩
 rintro m σ Ha ⟨line,dep,fr,into,dn,v6,v7,rfl,hdn,rfl,sa,hda,hna,io,B,Dn,fo,hlt,near⟩;have hll:=hbound _ B.nodup hlt;have hnl:(Ru line).length=line.length:=by unfold Ru;rw[zsg]
 refine⟨_,rfl,_,rfl,ln,_,rfl,.inl (SqL.of hna),_,_,rfl,rfl,_,rfl,?_⟩;rw[hnl];by_cases hlt2:dn<line.length
 ·rw[zsm (show ((dn:Nat):Int)<(line.length:Nat) by omega)];refine iteT ?_;obtain⟨here,hh⟩:∃ here,line[dn]?=some here:=⟨_,zsi hlt2⟩;have hhm:=zsu hh;have hhere:=hlt here hhm;have hhv:(Ru line)[dn]?=some (.int (here:Nat)):=by unfold Ru;rw[zsn,hh];rfl
  refine⟨fun σ' H'=>∃ (line:List Nat) (dep:Nat->Nat) (fr:Nat->Option (Nat×Int)) (into:List (Key×V)) (v6 v7:Option V),dn+1<=line.length/\σ'=[some (.ref l),some (.ref d),some (.int p),some (.ref ld),some (.ref ln),some (.int ((dn+1:Nat):Int)),v6,v7]/\Same H H'/\H' ld=some (.dK into)/\H' ln=some (.lst (Ru line))/\Xi H' into line fr/\Bfs rows gs p line dep/\Done rows gs line dep (dn+1)/\U6 rows gs p line dep fr/\(∀ q∈line,q<rows.length)/\∀ here,line[dn+1]?=some here->∀ x∈line,dep x<=dep here+1,
   fun σ' H' ⟨line,dep,fr,into,v6,v7,a1,a2,a3,a4,a5,a6,a7,a8,a9,a10,a11⟩=>⟨rows.length-(dn+1),by omega,line,dep,fr,into,dn+1,v6,v7,rfl,a1,a2,a3,a4,a5,a6,a7,a8,a9,a10,a11⟩,?_⟩
  have hr':rows[here]?=some (rows[here]'hhere):=zsi hhere;generalize (rows[here]'hhere)=r at hr';obtain⟨lr,e2,e3⟩:=il.getR hr';have hl':(ls.map V.ref)[here]?=some (.ref lr):=by rw[zsn,e2];rfl
  refine⟨_,rfl,_,rfl,ln,_,_,_,rfl,rfl,SqL.of hna,Y3 hhv,?_⟩;refine⟨_,rfl,_,_,rfl,rfl,?_⟩;refine⟨_,rfl,_,rfl,l,_,_,_,rfl,rfl,SqL.of (sa _ _ hl),Y3 hl',lr,rfl,⟨_,SqL.of (sa _ _ e3)⟩,?_⟩
  let jv2:Nat->L2.St->Hp->Prop:=fun j σ' H'=>∃ (line:List Nat) (dep:Nat->Nat) (fr:Nat->Option (Nat×Int)) (into:List (Key×V)) (v7:Option V),σ'=[some (.ref l),some (.ref d),some (.int p),some (.ref ld),some (.ref ln),some (.int ((dn+1:Nat):Int)),some (.int (here:Nat)),v7]/\Same H H'/\H' ld=some (.dK into)/\H' ln=some (.lst (Ru line))/\Xi H' into line fr/\Bfs rows gs p line dep/\Done rows gs line dep dn/\U6 rows gs p line dep fr/\(∀ q∈line,q<rows.length)/\line[dn]?=some here/\(∀ x∈line,dep x<=dep here+1)/\∀ n∈r.take j,∀ q':Nat,gs[q']?=some (.int n)->q'∈line
  refine Ui (K:=K) (a:=lr) (xs:=r.map V.int) jv2
   ⟨line,dep,fr,into,_,rfl,sa,hda,hna,io,B,Dn,fo,hlt,hh,near here hh,by simp⟩ (fun j σ' H' _ ⟨_,_,_,_,_,_,z,_⟩=>SqL.of (z _ _ e3)) ?_ ?_
  ·rintro j y σ' Hx hy ⟨line,dep,fr,into,w7,rfl,sx,hdx,hnx,io,B,Dn,fo,hlt,hh,near,pr⟩;have hj:j<r.length:=by have:=(zsj.mp hy).1;rw[zsg] at this;exact this
   have hhm:=zsu hh;have hrj:r[j]?=some (r[j]'hj):=zsi hj;have etk:r.take (j+1)=r.take j++[r[j]'hj]:=zte hj;generalize (r[j]'hj)=n at hrj etk;have ey:y=.int n:=by rw[zsn,hrj] at hy;exact(Option.some.inj hy).symm
   subst ey;have hnr:=zsu hrj;have hll:=hbound _ B.nodup hlt;have prev:(∀ q':Nat,gs[q']?=some (.int n)->q'∈line)->∀ m∈r.take (j+1),∀ q':Nat,gs[q']?=some (.int m)->q'∈line:=fun k m hm=>by
    rw[etk] at hm;rcases zsv.mp hm with z|z
    ·exact pr m z
    ·rw[zsl.mp z];exact k
   rcases tk.iff n with ⟨q',hq',hv⟩|⟨hno,hv⟩
   ·by_cases hin:q'∈line
    ·refine Uh (b:=false) (fun Q k=>?_) (iteF (Zu ⟨line,dep,fr,into,_,rfl,sx,hdx,hnx,io,B,Dn,fo,hlt,hh,near,prev fun q2 h2=>by rw[FP.inj q2 q' n h2 hq'];exact hin⟩));refine⟨_,rfl,_,rfl,d,_,rfl,DGet.k (k:=inl n) (sx _ _ hd),_,rfl,?_⟩;rw[hv];refine iteT ⟨_,rfl,_,rfl,d,_,rfl,hv▸DGet.k (k:=inl n) (sx _ _ hd),_,rfl,ld,_,rfl,DGet.k (k:=inl (q':Int)) hdx,_,rfl,?_⟩;rw[(io.has q').mpr hin];exact k
    ·have hnin:(valV into (inl (q':Int):Key)).isSome=false:=by
      rw[Bool.eq_false_iff];exact fun z=>hin ((io.has q').mp z)
     have hq'l:q' < rows.length:=by
      have:=(zsj.mp hq').1;rw[FP.len] at this;exact this
     have ha:adjN rows gs here n q':=⟨⟨r,hr',hnr⟩,hq'⟩;obtain⟨B',old,all⟩:=B.app (dn:=dn) hh near ha hin;refine Uh (b:=true) (fun Q k=>?_) (iteT ?_)
     ·refine⟨_,rfl,_,rfl,d,_,rfl,DGet.k (k:=inl n) (sx _ _ hd),_,rfl,?_⟩;rw[hv];refine iteT ⟨_,rfl,_,rfl,d,_,rfl,hv▸DGet.k (k:=inl n) (sx _ _ hd),_,rfl,ld,_,rfl,DGet.k (k:=inl (q':Int)) hdx,_,rfl,?_⟩;rw[hnin];exact k
     ·refine⟨_,rfl,_,rfl,sz2,fun t ht=>?_⟩;have t1:=Ze (o:=.tup [.int (here:Nat),.int n]) ht;have st:=sx.trans t1;have hdt:=t1 _ _ hdx;have hnt:=t1 _ _ hnx;have et:upd Hx t (.tup [.int (here:Nat),.int n]) t=some (.tup [.int (here:Nat),.int n]):=Zb;have iot:=io.same t1;generalize upd Hx t (.tup [.int (here:Nat),.int n])=Ht at t1 st hdt hnt et iot;refine⟨_,rfl,_,rfl,_,rfl,d,_,rfl,hv▸DGet.k (k:=inl n) (st _ _ hd),ld,_,rfl,DPut.k (k:=inl (q':Int)) hdt ?_,?_⟩
      ·have:=io.len;omega
      have sd:Same H (upd Ht ld (.dK (putK into (inl (q':Int)) (.ref t)))):=Xp hld st;have ed:upd Ht ld (.dK (putK into (inl (q':Int)) (.ref t))) ld=some (.dK (putK into (inl (q':Int)) (.ref t))):=Zb;have en:upd Ht ld (.dK (putK into (inl (q':Int)) (.ref t))) ln=some (.lst (Ru line)):=by rw[Zi (Ne.symm nln)];exact hnt
      have iod:Xi (upd Ht ld (.dK (putK into (inl (q':Int)) (.ref t)))) (putK into (inl (q':Int)) (.ref t)) (line++[q']) (Mn fr q' (here,n)) :=
       (iot.app hin et).mono fun c xs e=>by rw[Zi (Ye e hdt (fun z=>nomatch z))];exact e
      generalize upd Ht ld (.dK (putK into (inl (q':Int)) (.ref t)))=Hd at sd ed en iod;have hsz:(Ru line).length<sizeLine:=by unfold Ru;rw[zsg];omega
      refine⟨_,rfl,ln,_,rfl,en,_,rfl,_,rfl,d,_,rfl,hv▸DGet.k (k:=inl n) (sd _ _ hd),_,en,hsz,line++[q'],Vm dep q' (dep here+1),Mn fr q' (here,n),putK into (inl (q':Int)) (.ref t),_,rfl,Xp fln sd,?_,?_,?_,B',Dn.app ?_ ⟨_,rfl⟩ old,fo.app hin B.memp hhm ha,?_,?_,?_,?_⟩
      ·rw[Zi nln];exact ed
      ·rw[Zb];unfold Ru;rw[zsp];rfl
      ·exact iod.mono fun c xs e=>by rw[Zi (Ye e en (fun z=>nomatch z))];exact e
      ·have:=(zsj.mp hh).1;omega
      ·intro q hq;rcases zsv.mp hq with z|z
       ·exact hlt q z
       ·rw[zsl.mp z];exact hq'l
      ·rw[ztb (zsj.mp hh).1];exact hh
      ·intro x hx;rw[old here hhm];exact all x hx
      ·intro m hm q2 h2;rw[etk] at hm;rcases zsv.mp hm with z|z
       ·exact zs8 _ (pr m z q2 h2)
       ·rw[zsl.mp z] at h2;rw[FP.inj q2 q' n h2 hq'];exact zs5 _ (zsl.mpr rfl)
   ·refine Uh (b:=false) (fun Q k=>?_) (iteF (Zu ⟨line,dep,fr,into,_,rfl,sx,hdx,hnx,io,B,Dn,fo,hlt,hh,near,prev fun q2 h2=>absurd h2 (hno q2)⟩));refine⟨_,rfl,_,rfl,d,_,rfl,DGet.k (k:=inl n) (sx _ _ hd),_,rfl,?_⟩;rw[hv];exact iteF k
  ·rintro σ' Hx ⟨line,dep,fr,into,w7,rfl,sx,hdx,hnx,io,B,Dn,fo,hlt,hh,near,pr⟩;rw[zsg,zs0] at pr;have hlt3:=(zsj.mp hh).1;refine⟨line,dep,fr,into,_,_,by omega,rfl,sx,hdx,hnx,io,B,fun i q hi hq n q' ha=>?_,fo,hlt,fun here2 hh2 x hx=>?_⟩
   ·by_cases e:i=dn
    ·rw[e,hh] at hq;cases hq;obtain⟨⟨r2,h1,h2⟩,h3⟩:=ha;rw[hr'] at h1;cases h1;have hm:=pr n h2 q' h3;exact⟨hm,near q' hm⟩
    ·exact Dn i q ⋯ hq n q' ha
   ·have:=B.sorted dn (dn+1) here here2 ⋯ hh hh2;have:=near x hx;omega
 ·rw[zsr (show ¬ (((dn:Nat):Int)<(line.length:Nat)) by omega)];refine iteF ⟨_,rfl,?_⟩;have e:dn=line.length:=by omega
  subst e;exact h ld into line dep fr Ha hda io B Dn fo hlt sa hld
abbrev Tg:Stmt:=top 44
theorem Rv:Zm ["numbers","taken","number"] ["numbers","taken"] (Zj Tg):=fnS
theorem M4(F:Fun K "free_referee" "free_referee" Tg f fd)(T:Tx K mg a):FnOk P w K mg base (CX1 P w) 1 f fd ["numbers","taken"] (Gs K):=by
 refine F.okX Rv ⋯ fun _ _ _ _ H _ Q E hr h=>?_;obtain⟨l,d,r,kvs,rfl,hl,hd,h⟩:=h;have hu:=Wu hr;refine⟨_,(Zc (Vi PassesOwn.leaving rfl (Yz (K:=K) rfl (pv 0)) (pN 2 Rv.nd)
  (Zf (Z1 (Ph (Ni hu (pv 2) (pv 1)))
   (Zf (Zo (pv 2)))
   Zs)))
 (Zf (Zo X1))),?_⟩
 let jv3:Nat->L2.St->Hp->Prop:=fun i σ' H'=>(∃ u,σ'=[some (.ref l),some (.ref d),u])/\H'=H/\∀ n∈r.take i,(valV kvs (inl n:Key)).isSome=true
 refine⟨_,rfl,l,rfl,⟨_,SqL.of hl⟩,Ui (xs:=r.map V.int) jv3
  ⟨⟨none,rfl⟩,rfl,by simp⟩ (fun i σ' H' hi p=>by rw[p.2.1];exact SqL.of hl) (fun i x σ' H' hx p=>?_) (fun σ' H' p=>?_)⟩
 ·obtain⟨⟨u,rfl⟩,rfl,hp⟩:=p;have hi:i<r.length:=by have:=(zsj.mp hx).1;rw[zsg] at this;exact this
  have e:x=.int (r[i]'hi):=by
   rw[zsn,zsi hi] at hx;exact(Option.some.inj hx).symm
  subst e;refine Uh (b:=!(valV kvs (inl (r[i]'hi):Key)).isSome) (fun Q k=>⟨_,rfl,_,rfl,d,_,rfl,DGet.k (k:=inl (r[i]'hi)) hd,_,rfl,k⟩) ?_;cases hv:valV kvs (inl (r[i]'hi):Key) with
  | none=>exact iteT ⟨_,rfl,h (some (r[i]'hi)) (fun n hn=>by cases hn;exact⟨ztm hi,hv⟩) (fun z=>nomatch z)⟩
  | some y =>
    refine iteF (Zu ⟨⟨_,rfl⟩,rfl,fun n hn=>?_⟩);rw[zte hi] at hn;rcases zsv.mp hn with z|z
    ·exact hp n z
    ·rw[zsl.mp z,hv];rfl
 ·obtain⟨⟨u,rfl⟩,rfl,hp⟩:=p;rw[zsg,zs0] at hp;exact h none (fun n z=>nomatch z) fun _=>hp
abbrev K5:Stmt:=top 45
theorem Q5:Zm ["into","place","number","steps","step"] ["into","place","number"] (Zj K5):=fnS
theorem zbk(F:Fun K "traced" "traced" K5 f fd)(T:Tx K mg a):FnOk P w K mg base (CX1 P w) 1 f fd ["into","place","number"] (Dm K):=by
 refine F.okX Q5 ⋯ fun _ _ _ _ H _ Q E hr h=>?_;obtain⟨t,q,p,w,rows,gs,into,line,dep,fr,rfl,ht,io,fo,d0,hp,hq,hdq,h⟩:=h;have hu:=Wu hr;refine⟨_,(Zc (pS 3 Q5.nd (Z5 (Za (Z2 (Za (pv 1) (Za (pv 2) Zd))) Zd)))
 (Zc (pS 4 Q5.nd (pD hu (pv 0) (pv 1)))
 (Zc (Eo PassesOwn.leaving (Zn Oi (pv 4) X1 (Zr _))
  (Zc (Yt (pv 3) (pv 4))
  (Zf (pS 4 Q5.nd (pD hu (pv 0) (pI (iU K) (pv 4) Zg))))))
 (Zc (Z6 (Bd PySem.F.plainAttrs_list PySem.F.slot_list_reverse PySem.F.type_list_reverse Bf (pv 3)))
 (Zf (Zo (pv 3))))))),?_⟩
 have line0:200<sizeLine:=by rw[sizeLine_eq];decide
 have get:∀ {H':Hp},Same H H'->∀ k:Nat,DGet H' t (.int (k:Nat)) (valV into (inl (k:Int):Key)):=fun {H'} hs k=>.inl ⟨into,inl (k:Int),ht.imp (hs _ _) (fun ⟨o,e⟩=>⟨o,hs _ _ e⟩),rfl,rfl⟩;have fr0:∀ c∈line,fr c=none->c=p:=fun c hc hf=>by
  by_cases e:c=p
  ·exact e
  ·obtain⟨par,n,h1,_⟩:=fo.2 c hc e;rw[hf] at h1;cases h1
 have some_of:∀ c∈line,∃ v,valV into (inl (c:Int):Key)=some v:=fun c hc=>zty.mp ((io.has c).mpr hc);refine⟨_,rfl,_,rfl,sz2,fun m hm=>⟨sz1,fun lt hlt=>?_⟩⟩;have s1:=Ze (o:=.tup [.int (q:Nat),oV w]) hm;have e1:upd H m (.tup [.int (q:Nat),oV w]) m=some (.tup (V4 (q,w))):=Zb;generalize upd H m (.tup [.int (q:Nat),oV w])=H1 at s1 e1 hlt;have s2:=Ze (o:=.lst [V.ref m]) hlt;have e2:upd H1 lt (.lst [V.ref m]) lt=some (.lst [V.ref m]):=Zb;have e3:=s2 _ _ e1;have s3:=s1.trans s2;have hltn:H lt=none:=s1.free hlt;generalize upd H1 lt (.lst [V.ref m])=H2 at s2 e2 e3 s3;obtain⟨v0,hv0⟩:=some_of q hq;refine⟨_,rfl,_,rfl,t,v0,rfl,hv0▸get s3 q,?_⟩;refine⟨fun mm σ' H'=>∃ (cur:Nat) (st:List (Nat×Option Int)) (ts:List V) (v:V),mm=dep cur/\cur∈line/\valV into (inl (cur:Int):Key)=some v/\σ'=[some (.ref t),some (.int (q:Nat)),some (oV w),some (.ref lt),some v]/\Same H H'/\H' lt=some (.lst ts)/\Zy H' ts (st.reverse.map V4)/\Ch rows gs cur st q w/\st.length+dep cur=dep q+1,
  ⟨_,q,[(q,w)],_,v0,rfl,hq,hv0,rfl,s3,e2,.cons e3 .nil,.one q w,by show 1+dep q=_;omega⟩,?_⟩
 rintro mm σ' Ha ⟨cur,st,ts,v,rfl,hc,hv,rfl,sa,hta,htl,hch,hlen⟩;have htsl:ts.length=st.length:=by have:=htl.length;rw[zsg,List.length_reverse] at this;exact this
 refine⟨_,rfl,rfl,_,rfl,?_⟩;cases hf:fr cur with
 | none =>
   have hcp:=fr0 cur hc hf;subst hcp;have hvn:=io.none cur hc hf;rw[hv] at hvn;cases hvn;refine iteF ?_;refine⟨_,rfl,.inl ⟨rfl,_,SqL.of hta⟩,lt,ts,rfl,rfl,hta,_,rfl,?_⟩;refine h lt ts.reverse st _ Zb ?_ hch ⋯ (Xp hltn sa) hltn;have hr:=htl.reverse;rw[<- List.map_reverse,List.reverse_reverse] at hr;exact hr.mono fun c xs e=>by rw[Zi (Ye e hta (fun z=>nomatch z))];exact e
 | some x =>
   obtain⟨par,n⟩:=x;obtain⟨tt,h1,h2⟩:=io.some cur hc par n hf;rw[hv] at h1;cases h1;have hcp:cur≠p:=fun z=>by rw[z,fo.1] at hf;cases hf
   obtain⟨par',n',h3,h4,h5,h6⟩:=fo.2 cur hc hcp;rw[hf] at h3;cases h3;obtain⟨v',hv'⟩:=some_of par h4;refine iteT ?_;refine⟨fun σ' H'=>∃ (st:List (Nat×Option Int)) (ts:List V),σ'=[some (.ref t),some (.int (q:Nat)),some (oV w),some (.ref lt),some v']/\Same H H'/\H' lt=some (.lst ts)/\Zy H' ts (st.reverse.map V4)/\Ch rows gs par st q w/\st.length+dep par=dep q+1,
    fun σ' H' ⟨st,ts,a1,a2,a3,a4,a5,a6⟩=>⟨dep par,by omega,par,st,ts,v',rfl,h4,hv',a1,a2,a3,a4,a5,a6⟩,?_⟩
   have s4:Same H (upd Ha lt (.lst (ts++[V.ref tt]))):=Xp hltn sa;refine⟨_,rfl,lt,_,rfl,hta,_,rfl,_,hta,by omega,?_⟩;refine⟨_,rfl,_,rfl,tt,_,_,_,rfl,rfl,SqT.of (s4 _ _ h2),rfl,t,v',rfl,hv'▸get s4 par,(par,some n) :: st,ts++[V.ref tt],rfl,s4,Zb,?_,.step h5 hch,?_⟩
   ·rw[zuf,zsp];exact(htl.mono fun c xs e=>by rw[Zi (Ye e hta (fun z=>nomatch z))];exact e).snoc (s4 _ _ h2)
   ·rw[zs4];omega
abbrev Eg:Stmt:=top 46
theorem Qh:Zm ["may","given","place","taken","into","reached","number"] ["may","given","place"] (Zj Eg):=fnS
theorem zdz(F:Fun K "chain" "chain" Eg f fd)(T:Tx K mg a)(zm7:Yh P w K mg base "places_taken" 1 ["given"] (Am K))(znz:Yh P w K mg base "steps_into" 1 ["may","taken","start"] (zc9 K))(zne:Yh P w K mg base "free_referee" 1 ["numbers","taken"] (Gs K))(zok:Yh P w K mg base "traced" 1 ["into","place","number"] (Dm K)):FnOk P w K mg base (CX1 P w) 2 f fd ["may","given","place"] (F3 K):=by
 refine F.okX Qh ⋯ fun _ _ _ _ H _ Q E hr h=>?_;obtain⟨l,lg,ls,rows,nu,gs,p,rfl,hl,il,mo,hg,FP,hp,hgp,h⟩:=h;refine⟨_,(Zc (pS 3 Qh.nd (pF zm7 hr (Za (pv 1) Zd)))
 (Zc (pS 4 Qh.nd (pF znz hr (Za (pv 0) (Za (pv 3) (Za (pv 2) Zd)))))
 (Zc (Vi PassesOwn.leaving rfl (zer (pv 4)) (pN 5 Qh.nd)
  (Zc (pS 6 Qh.nd (pF zne hr (Za (pI (iL K) (pv 0) (pv 5)) (Za (pv 3) Zd))))
  (Zf (Z1 (Zn Oi (pv 6) X1 (Zr _))
   (Zf (Zo (pF zok hr (Za (pv 4) (Za (pv 5) (Za (pv 6) Zd))))))
   Zs))))
 (Zf (Zo (pF zok hr (Za (pv 4) (Za (Zq (za2 rfl) (by rfl) T.zpz PyProof.Rows.boot_max (Za (pv 4) Zd)) (Za X1 Zd))))))))),?_⟩
 have hrl:rows.length<=100:=zs3 mo.few ⋯;refine⟨_,rfl,lg,gs,rfl,hg,FP.one,FP.inj,by rw[FP.len];exact hrl,fun d kvs H1 hd1 tk s1 hdn=>?_⟩;refine⟨_,rfl,_,rfl,_,rfl,l,d,ls,rows,kvs,gs,p,rfl,s1 _ _ hl,il.same s1,hrl,hd1,tk,FP,hp,fun t into line dep fr H2 ht io B Dn fo hlt s2 htn=>?_⟩;have hbound:line.length<=rows.length:=by
  have:=B.nodup.length_le_of_subset (l₂:=List.range rows.length) fun c hcc=>zti.mpr (hlt c hcc);rw[ztl] at this;exact this
 have hd2:=s2 _ _ hd1;have s02:=s1.trans s2;have hfree:∀ q n,(∃ r,rows[q]?=some r/\n∈r)->valV kvs (inl n:Key)=none->Po rows gs q n:=fun q n hr hv=>⟨hr,fun j hj=>by rw[tk.has n j hj] at hv;cases hv⟩
 have hdep:∀ q∈line,dep q<=100:=fun q hq=>by
  obtain⟨pre,hc,hlp⟩:=fo.back B.d0 (dep q) q q none [(q,none)] rfl hq (.one q none);have nd:=hc.nodup fun k hk=>by
   rw[zsh,hlp];have:=(B.full Dn hk).2;show dep q+1<=k+1;omega
  have hlt':=hc.lt FP hp;have:=nd.length_le_of_subset (l₂:=List.range rows.length) fun x hx=>by
   obtain⟨s,hs,rfl⟩:=zsq.mp hx;exact zti.mpr (hlt' s hs)
  rw[zsg,ztl,zsh,hlp] at this;omega
 have htH:H t=none:=s1.free htn;refine⟨_,rfl,t,into,rfl,ht,fun o=>?_⟩;have e0:upd H2 t (.frz o (.dK into)) t=some (.frz o (.dK into)):=Zb;have s3:Same H (upd H2 t (.frz o (.dK into))):=Xp htH s02;have hd3:upd H2 t (.frz o (.dK into)) d=some (.dK kvs):=by rw[Zi (Zh hd1 htn)];exact hd2
 have io3:Xi (upd H2 t (.frz o (.dK into))) into line fr:=io.mono fun c xs e=>by rw[Zi (Ye e ht (fun z=>nomatch z))];exact e
 generalize upd H2 t (.frz o (.dK into))=H3 at e0 s3 hd3 io3;have hil:into.length=line.length:=io.len;have key:∀ (i:Nat) (k:Key) (v:V),into[i]?=some (k,v)->∃ q:Nat,line[i]?=some q/\k=inl (q:Int):=fun i k v e=>by
  have:=congrArg (·[i]?) io.keys;simp only[zsn,e,ztq] at this;cases hq:line[i]? with
  | none=>rw[hq] at this;cases this
  | some q=>rw[hq] at this;exact⟨q,rfl,Option.some.inj this⟩
 let jv4:Nat->L2.St->Hp->Prop:=fun i σ' H'=>(∃ u v,σ'=[some (.ref l),some (.ref lg),some (.int p),some (.ref d),some (.ref t),u,v])/\H'=H3/\∀ (j q:Nat),j<i->line[j]?=some q->¬ Uy rows gs q
 refine zc6 (a:=t) (o:=o) (kvs:=into) jv4 ⟨⟨none,none,rfl⟩,rfl,fun j q hj=>absurd hj (zuq _)⟩ (fun i σ' H' _ p=>by rw[p.2.1];exact e0) (fun i k v σ' H' hk hP=>?_) (fun σ' H' hP=>?_)
 ·obtain⟨⟨u,v',rfl⟩,rfl,hno⟩:=hP;obtain⟨q,hq,rfl⟩:=key i k v hk;have hqm:=zsu hq;have hqr:rows[q]?=some (rows[q]'(hlt q hqm)):=zsi (hlt q hqm);generalize (rows[q]'(hlt q hqm))=r at hqr;obtain⟨lr,e2,e3⟩:=il.getR hqr;have hl':(ls.map V.ref)[q]?=some (.ref lr):=by rw[zsn,e2];rfl
  refine⟨_,rfl,_,rfl,l,_,_,_,rfl,rfl,SqL.of (s3 _ _ hl),Y3 hl',_,rfl,lr,d,r,kvs,rfl,s3 _ _ e3,hd3,fun w hw1 hw2=>?_⟩;walk_at "if";refine Uh (b:=!decide (oV w=.non)) (fun Q k=>⟨_,rfl,rfl,_,rfl,k⟩) ?_;cases w with
  | none =>
    refine iteF (Zu ⟨⟨_,_,rfl⟩,rfl,fun j q2 hj hq2=>?_⟩);by_cases e:j=i
    ·rw[e,hq] at hq2;cases hq2;rintro⟨n,⟨r2,h1,h2⟩,h3⟩;rw[hqr] at h1;cases h1;have:=hw2 rfl n h2;rw[tk.not n h3] at this;cases this
    ·exact hno j q2 ⋯ hq2
  | some n =>
    obtain⟨hn1,hn2⟩:=hw1 n rfl;refine iteT ⟨_,rfl,_,rfl,_,rfl,t,q,p,some n,rows,gs,into,line,dep,fr,rfl,.inr ⟨o,e0⟩,io3,fo,B.d0,B.memp,hqm,hdep q hqm,fun lt ts st H4 h1 h2 h3 h4 s4 hltn=>?_⟩;have hf:=hfree q n ⟨r,hqr,hn1⟩ hn2;have Di:Done rows gs line dep i:=fun j x hj=>Dn j x (Nat.lt_trans hj (zsj.mp hq).1);exact h lt ts st q (some n) H4 h1 h2 (Bl B Di hq hno hf h3 h4) (s3.trans s4) (s3.free hltn)
 ·obtain⟨⟨u,v',rfl⟩,rfl,hno⟩:=hP;have hpos:0<line.length:=List.length_pos_of_mem B.memp;refine⟨_,rfl,⟨_,rfl,t,into,line.map fun q:Nat=>(q:Int),rfl,.inr ⟨o,e0⟩,by rw[io.keys,zt7];rfl,by rw[zsg];exact hpos,fun M hM hmax=>?_⟩⟩;obtain⟨e,he,rfl⟩:=zsq.mp hM;refine⟨t,e,p,none,rows,gs,into,line,dep,fr,rfl,.inr ⟨o,e0⟩,io3,fo,B.d0,B.memp,he,hdep e he,fun lt ts st H4 h1 h2 h3 h4 s4 hltn=>?_⟩;refine h lt ts st e none H4 h1 h2 (Bm B Dn (fun q hq=>?_) (fun q hq=>?_) h3 h4) (s3.trans s4) (s3.free hltn)
  ·obtain⟨j,hj,e2⟩:=ztw hq;exact hno j q ⋯ (by rw[zsi hj,e2])
  ·have:=hmax _ (zsq.mpr ⟨q,hq,rfl⟩);omega
abbrev N4:Stmt:=top 47
theorem Ro:Zm ["given","steps","behind","place","number"] ["given","steps"] (Zj N4):=fnS
theorem By(F:Fun K "stepped" "stepped" N4 f fd)(T:Tx K mg a):FnOk P w K mg base (CX1 P w) 1 f fd ["given","steps"] (Np K):=by
 refine F.okX Ro ⋯ fun _ _ _ _ H _ Q E hr h=>?_;obtain⟨b,c,xs,ts,st,rfl,hb,hc,ht,hst,ho,hl,hls,h⟩:=h;refine⟨_,(Zc (pS 2 Ro.nd (Xc (X0 (K:=K) rfl) (by rfl) T.zmi PyProof.Rows.boot_list (Za (pv 0) Zd)))
 (Zc (Vi PassesOwn.leaving rfl (Yz (K:=K) rfl (pv 1)) (Ug (K:=K) (n:=2) rfl rfl (Ya (pN 3 Ro.nd) (Ya (pN 4 Ro.nd) Ue)))
  (Zf (zbr (pv 4) (zfw (pv 2) (pv 3) zcb))))
 (Zf (Zo (pv 2))))),?_⟩
 have htl:ts.length=st.length:=by have:=ht.length;rw[zsg] at this;exact this
 refine⟨_,rfl,b,_,rfl,.inl (SqL.of hb),fun l hln=>?_⟩
 let jv5:Nat->L2.St->Hp->Prop:=fun i σ' H'=>(∃ u v,σ'=[some (.ref b),some (.ref c),some (.ref l),u,v])/\H' l=some (.lst (Yq (st.take i) xs))/\(∀ a o,H a=some o->H' a=some o)
 refine⟨_,rfl,c,rfl,⟨ts,SqL.of (Ze hln _ _ hc)⟩,Ui (xs:=ts) jv5 ⟨⟨none,none,rfl⟩,Zb,Ze hln⟩ (fun i σ' H' hi p=>SqL.of (p.2.2 _ _ hc)) (fun i x σ' H' hx p=>?_) (fun σ' H' p=>?_)⟩
 ·obtain⟨⟨u,v,rfl⟩,hl2,hs⟩:=p;have hi:i<st.length:=by rw[<- htl];exact(zsj.mp hx).1
  obtain⟨t,e1,e2⟩:=ziq ht (zsi hi);rw[hx] at e1;cases e1;refine⟨t,_,rfl,SqT.of (hs _ _ e2),rfl,_,_,rfl,_,_,rfl,rfl,?_⟩;have hlen:(Yq (st.take i) xs).length=xs.length:=Xw _ _;have hp:(st[i]'hi).1<xs.length:=hst _ (ztm hi);have e3:Yq (st.take (i+1)) xs=(Yq (st.take i) xs).set (st[i]'hi).1 (oV (st[i]'hi).2):=by
   rw[zte hi,Gq];rfl
  refine⟨_,rfl,_,rfl,_,rfl,l,_,_,(st[i]'hi).1,rfl,rfl,hl2,(show ixN _ (((st[i]'hi).1:Nat):Int)=some _ by unfold ixN;rw[if_pos ⋯,if_pos ⋯,zs7]),⟨_,_,rfl⟩,?_,fun a o q=>?_⟩
  ·rw[e3];exact Zb
  ·rw[Zi (Zh q hln)];exact hs a o q
 ·obtain⟨⟨u,v,rfl⟩,hl2,hs⟩:=p;rw[htl,zs0] at hl2;exact⟨_,rfl,h l H' hl2 hs hln⟩
abbrev Bz:Stmt:=top 49
theorem Lv:Zm ["may","given","place"] ["may"] (Zj Bz):=fnS
theorem ze8(F:Fun K "fill" "fill" Bz f fd)(T:Tx K mg a)(zmk:Yh P w K mg base "stepped" 1 ["given","steps"] (Np K))(zn7:Yh P w K mg base "chain" 2 ["may","given","place"] (F3 K)):FnOk P w K mg base (CX1 P w) 3 f fd ["may"] (zcy K):=by
 refine F.okX Lv ⋯ fun _ _ _ _ H _ Q E hr h=>?_;obtain⟨l,ls,rows,nu,rfl,hl,il,mo,h⟩:=h;refine⟨_,(Zc (T1 (i:=1) Lv.nd rfl rfl rfl (cT [] []) (Yz (K:=K) rfl (pv 0)) (fun _ _ _ _ _=>Wv) (fun _ _ _ _ _=>X1))
 (Zc (Vi PassesOwn.leaving rfl (Wk rfl T.zlw (Za (Zq (cL K) (by rfl) T.zli PySem.boot_len (Za (pv 0) Zd)) Zd)) (pN 2 Lv.nd)
  (Zf (pS 1 Lv.nd (pF zmk hr (Za (pv 1) (Za (pF zn7 hr (Za (pv 0) (Za (pv 1) (Za (pv 2) Zd)))) Zd))))))
 (Zf (Zo (pv 1))))),?_⟩
 have hlen:=il.length;have hrl:rows.length<=100:=zs3 mo.few ⋯;refine⟨_,rfl,l,rfl,⟨_,SqL.of hl⟩,?_⟩;refine V7 (K:=K) (a:=l) (xs:=ls.map V.ref) (fun i ys H'=>H'=H/\ys=(rows.take i).map fun _=>V.non) ⟨rfl,by simp⟩ (fun i ys H' _ z=>by rw[z.1];exact SqL.of hl) (szN (by rw[zsg];omega)) (fun i ys H' z=>by rw[z.2,zsg,ztc];omega) ?_ ?_
 ·rintro i x ys H' hx ⟨rfl,rfl⟩;have hi:i<rows.length:=by
   have:=(zsj.mp hx).1;rw[zsg] at this;omega
  unfold tYes;dsimp only;rw[if_pos rfl];refine⟨rfl,?_⟩;rw[zte hi,zsp];rfl
 ·rintro ys H' ⟨rfl,rfl⟩ lg hlg;rw[zsg,hlen,zs0];have s1:=Ze (o:=.lst (rows.map fun _=>V.non)) hlg;have e1:upd H' lg (.lst (rows.map fun _=>V.non)) lg=some (.lst (rows.map fun _=>V.non)):=Zb;generalize upd H' lg (.lst (rows.map fun _=>V.non))=H1 at s1 e1;refine⟨_,rfl,l,_,rfl,.inl (SqL.of (s1 _ _ hl)),_,rfl,by omega,by rw[zsg];omega,?_⟩;rw[zsg,hlen,zs7]
  let jv6:Nat->L2.St->Hp->Prop:=fun i σ' Hx=>∃ (lg:Addr) (gs:List V) (v2:Option V),σ'=[some (.ref l),some (.ref lg),v2]/\Same H' Hx/\Hx lg=some (.lst gs)/\Uz rows gs i/\H' lg=none
  refine Qr jv6 ⟨lg,_,_,rfl,s1,e1,Ia rows,hlg⟩ ?_ ?_
  ·rintro i σ' Hx hi ⟨lg,gs,v2,rfl,sx,hgx,F,hn⟩;rw[zt8];refine⟨_,rfl,⟨_,rfl,_,rfl,_,rfl,l,lg,ls,rows,nu,gs,i,rfl,sx _ _ hl,il.same sx,mo,hgx,F.fill,hi,F.non (zso _) hi,fun lt ts st e w H2 h1 h2 c s2 hltn=>?_⟩⟩;refine⟨lg,lt,gs,ts,st,rfl,s2 _ _ hgx,h1,h2,fun s hs=>?_,F.fill.one,by rw[F.fill.len];omega,?_,fun l' H3 h3 s3 hl'=>?_⟩
   ·rw[F.fill.len];exact c.ch.lt F.fill hi s hs
   ·have:=c.len F.fill hi;omega
   ·exact⟨l',_,_,rfl,(sx.trans s2).trans s3,h3,F.step hi c,(sx.trans s2).free hl'⟩
  ·rintro σ' Hx ⟨lg,gs,v2,rfl,sx,hgx,F,hn⟩;exact⟨_,rfl,h lg gs Hx hgx F.fill F.last sx hn⟩
abbrev P8:Stmt:=top 50
theorem Cs:Zm ["given","number"] ["given","number"] (Zj P8):=fnS
theorem Ct(F:Fun K "place_of" "place_of" P8 f fd)(T:Tx K mg a):FnOk P w K mg base (CX1 P w) 1 f fd ["given","number"] (Gn K):=by
 refine F.okX Cs ⋯ fun _ _ _ _ H _ Q E hr h=>?_;obtain⟨b,xs,n,rfl,hb,ho,hl,h⟩:=h;refine⟨_,(Zf (Zo (En (Zn (Pn (K:=K) rfl) (pv 1) (pv 0) (by with_unfolding_all rfl)) (zcc PySem.F.plainAttrs_list PySem.F.slot_list_index PySem.F.type_list_index zc1 (pv 0) (Za (pv 1) Zd)) X1))),?_⟩;have fl:xs.all Ss=true:=List.all_eq_true.mpr fun x hx=>by rcases ho x hx with rfl|⟨_,rfl⟩<;>rfl
 refine⟨_,rfl,_,rfl,b,xs,rfl,.inl (SqL.of hb),rfl,fl,_,rfl,?_⟩;have key:=@zc2 xs n ho;show if inV (V.int n) xs=true then _ else _
 cases hp:X9 xs n with
 | none =>
   rw[hp] at h;have hno:¬ inV (V.int n) xs=true:=fun z=>by
    obtain⟨j,hj⟩:=key.mp z;have:=List.find?_eq_none.mp hp j (zti.mpr (zsj.mp hj).1);exact this (zsm hj)
   rw[if_neg hno];exact h H (Same.refl H)
 | some j =>
   rw[hp] at h;obtain⟨h1,h2,h3⟩:=List.find?_range_eq_some.mp hp;have hj:xs[j]?=some (.int n):=of_decide_eq_true h1;rw[if_pos (key.mpr ⟨j,hj⟩)];refine⟨_,rfl,?_,_,rfl,b,xs,.int n,j,rfl,rfl,hb,rfl,fl,⟨_,hj,(Lp (.inr ⟨_,rfl⟩)).mpr rfl⟩,fun m z hm hz=>?_,h H (Same.refl H)⟩
   ·exact .inl ⟨rfl,xs,SqL.of hb⟩
   ·have:=h3 m hm;have hne:¬ z=.int n:=fun q=>by
     rw[q] at hz;rw[zsm hz] at this;cases this
    cases hb2:eqV z (.int n) with
    | false=>rfl
    | true=>exact absurd ((Lp (ho z (zsu hz))).mp hb2) hne
abbrev Ua:Stmt:=Zz (top 52) 0
theorem O3:Zm ["self","listed","lists","given","gaps"] ["self","listed","lists","given","gaps"] (Zj Ua):=fnS
theorem O4(F:Fun K "__init__" "Sheet.__init__" Ua f fd)(T:Tx K mg a):FnOk P w K mg base (CX1 P w) 1 f fd ["self","listed","lists","given","gaps"] (Ox (ca a)):=by
 refine F.okX O3 ⋯ fun _ _ _ _ H _ Q E hr h=>?_;obtain⟨q,dx,l1,l2,l3,l4,rfl,hq,h⟩:=h;refine⟨_,(Zc (Yx (K:=K) rfl (pv 0) (pv 1) rfl)
 (Zc (Yx (K:=K) rfl (pv 0) (pv 2) rfl)
 (Zc (Yx (K:=K) rfl (pv 0) (pv 3) rfl)
 (Zf (Yx (K:=K) rfl (pv 0) (pv 4) rfl))))),?_⟩
 refine⟨_,rfl,_,rfl,q,a.zkg,dx,[],rfl,hq,T.zk1,T.zme,⋯,?_⟩;refine⟨_,rfl,_,rfl,q,a.zkg,dx,[("listed",.ref l1)],rfl,Zb,T.zk1,T.zol,(by show 1<1000;decide),?_⟩;rw[zjt];refine⟨_,rfl,_,rfl,q,a.zkg,dx,_,rfl,Zb,T.zk1,T.zmm,(by show 2<1000;decide),?_⟩;rw[zju];refine⟨_,rfl,_,rfl,q,a.zkg,dx,_,rfl,Zb,T.zk1,T.zn1,(by show 3<1000;decide),?_⟩;rw[zjv];refine h _ ?_;rw[Lj,Lj,Lj];rfl
abbrev Th:Stmt:=Zz (top 52) 1
theorem M5:Zm ["self","lists"] ["self","lists"] (Zj Th):=fnS
theorem M6(F:Fun K "barred" "Sheet.barred" Th f fd)(T:Tx K mg a)(zmw:T3 P w K mg base "Sheet" a.zkg 1 ["self","listed","lists","given","gaps"] (Ox (ca a))):FnOk P w K mg base (CX1 P w) 3 f fd ["self","lists"] (Dx (ca a)):=by
 refine F.okX M5 ⋯ fun _ _ _ _ H _ Q E hr h=>?_;obtain⟨ok,q,l2,ls,rows,s,rfl,SA,hl2,il,ok2,okl,no,h⟩:=h;refine⟨_,(Zf (Zo (Fs zmw (hr.mono ⋯) Zk rfl (Za (Zp (K:=K) rfl (pv 0) rfl) (Za (pv 1) (Za (Zp (K:=K) rfl (pv 0) rfl) (Za (Zp (K:=K) rfl (pv 0) rfl) Zd))))))),?_⟩;obtain⟨dx,m1,m2,m3,m4,ts,ms,gts,a1,a2,a3,a4,a5,a6,a7,a8,o1,o2,o3,o4,o5,o6⟩:=id SA;refine⟨_,rfl,q,a.zkg,dx,_,_,rfl,a1,T.zk1,T.zme,Qy,_,rfl,_,rfl,q,a.zkg,dx,_,_,rfl,a1,T.zk1,T.zmm,Qc,_,rfl,q,a.zkg,dx,_,_,rfl,a1,T.zk1,T.zn1,F5,?_⟩;intro q' dx' hq' hdx' ne;refine⟨q',dx',m1,l2,m3,m4,rfl,Zb,fun H' e=>⟨rfl,?_⟩⟩;obtain⟨s1,q1⟩:=Pw (C:=a.zkg) (l1:=m1) (l2:=l2) (l3:=m3) (l4:=m4) hq' hdx' ne;rw[<- e] at s1 q1;exact h q' H' ⟨dx',m1,l2,m3,m4,ts,ls,gts,q1,s1 _ _ a2,a3.same s1,s1 _ _ hl2,il.same s1,s1 _ _ a6,s1 _ _ a7,a8.keep (fun _ _ _ z=>s1 _ _ z) (fun _ _ z=>s1 _ _ z),no _ hq',o2,ok2,o4,o5,okl⟩ s1 hq'
abbrev W9:Stmt:=Zz (top 52) 2
theorem Xl:Zm ["self","number","lists","place","gap","steps"] ["self","number","lists"] (Zj W9):=fnS
theorem Q9(F:Fun K "fallen_out" "Sheet.fallen_out" W9 f fd)(T:Tx K mg a)(zlo:Zv P w K mg base a.zkg "where" 2 ["self","number"] (Nq (ca a)))(zmk:Yh P w K mg base "stepped" 1 ["given","steps"] (Np K))(zn7:Yh P w K mg base "chain" 2 ["may","given","place"] (F3 K))(zmw:T3 P w K mg base "Sheet" a.zkg 1 ["self","listed","lists","given","gaps"] (Ox (ca a))):FnOk P w K mg base (CX1 P w) 3 f fd ["self","number","lists"] (Dy (ca a)):=by
 refine F.okX Xl ⋯ fun _ _ _ _ H _ Q E hr h=>?_;obtain⟨ok,q,l2,ls,rows,nu,s,n,p,rfl,SA,hl2,il,ok2,okl,no,mo,ho,hgp,hun,FP,hgz,h⟩:=h;refine⟨_,(Zc (pS 3 Xl.nd (Xt (pv 0) T.zk1 zlo (hr.mono ⋯) Zk (Za (pv 1) Zd)))
 (Zc (pS 4 Xl.nd (pF zmk hr (Za (Zp (K:=K) rfl (pv 0) rfl) (Za (Z5 (Za (Z2 (Za (pv 3) (Za X1 Zd))) Zd)) Zd))))
 (Zc (pS 5 Xl.nd (pF zn7 hr (Za (pv 2) (Za (pv 4) (Za (pv 3) Zd)))))
 (Zf (Zo (Fs zmw (hr.mono ⋯) Zk rfl (Za (Zp (K:=K) rfl (pv 0) rfl) (Za (pv 2) (Za (pF zmk hr (Za (pv 4) (Za (pv 5) Zd))) (Za (Zt X7 (Zp (K:=K) rfl (pv 0) rfl) (Z5 (Za (Z2 (Za (pv 1) (Za (pv 5) Zd))) Zd))) Zd)))))))))),?_⟩
 obtain⟨dx,m1,m2,m3,m4,ts,ms,gts,a1,a2,a3,a4,a5,a6,a7,a8,o1,o2,o3,o4,o5,o6⟩:=id SA;have hrl:rows.length<=100:=zs3 mo.few ⋯;have hgl:s.gv.length<=100:=by have:=FP.len;rw[zt1] at this;omega
 have hpl:p<s.gv.length:=(zsj.mp hgp).1;have hpr:p<rows.length:=by have:=FP.len;rw[zt1] at this;omega
 have hplace:X9 s.gv n=some p:=by
  unfold X9;rw[List.find?_eq_some_iff_getElem];refine⟨zsm hgp,p,by rw[ztl];exact hpl,by rw[List.getElem_range],fun j hj=>?_⟩;rw[List.getElem_range,Bool.not_eq_true',decide_eq_false_iff_not];exact fun z=>absurd (hun j z) ⋯
 refine⟨_,rfl,q,dx,_,rfl,a1,Rh ⋯ ⋯ ⋯ ⋯,_,rfl,ok,q,s,n,rfl,SA,ho,hgl,fun H1 s1=>?_⟩;rw[hplace,show oN (some p)=V.int (p:Nat) from rfl];have SA1:=SA.same s1;refine⟨_,rfl,q,a.zkg,dx,_,_,rfl,s1 _ _ a1,T.zk1,T.zmm,Qc,_,rfl,sz2,fun t1 ht1=>⟨sz1,fun lx hlx=>?_⟩⟩;have s2:=Ze (o:=.tup [.int (p:Nat),.non]) ht1;have q2:upd H1 t1 (.tup [.int (p:Nat),.non]) t1=some (.tup (V4 (p,none))):=Zb;generalize upd H1 t1 (.tup [.int (p:Nat),.non])=H2 at s2 q2 hlx;have s3:=Ze (o:=.lst [V.ref t1]) hlx;have q3:upd H2 lx (.lst [V.ref t1]) lx=some (.lst [V.ref t1]):=Zb;have q23:=s3 _ _ q2;generalize upd H2 lx (.lst [V.ref t1])=H3 at s3 q3 q23;have s13:=s1.trans (s2.trans s3);refine⟨m3,lx,s.gv,[V.ref t1],[(p,none)],rfl,s13 _ _ a6,q3,.cons q23 .nil,fun st hst=>by rw[zsl.mp hst];exact hpl,ho,hgl,by show 1<=100;decide,fun lg H4 hg4 s4 f4=>?_⟩;have s14:=s13.trans s4;have hg4:H4 lg=some (.lst (s.gv.set p .non)):=hg4;refine⟨_,rfl,_,rfl,_,rfl,l2,lg,ls,rows,nu,s.gv.set p .non,p,rfl,s14 _ _ hl2,il.same s14,mo,hg4,FP,hpr,by rw[ztj hpl],fun lt us st e w H5 hlt tl CR s5 f5=>?_⟩;have s15:=s14.trans s5;have hst100:st.length<=100:=zs3 (CR.len FP hpr) hrl;refine⟨_,rfl,q,a.zkg,dx,_,_,rfl,s15 _ _ a1,T.zk1,T.zme,Qy,_,rfl,_,rfl,_,rfl,lg,lt,s.gv.set p .non,us,st,rfl,s5 _ _ hg4,hlt,tl,fun x hx=>?_,FP.one,by rw[FP.len];exact hrl,hst100,fun l3 H6 h6 s6 f6=>?_⟩
 ·rw[FP.len];exact CR.ch.lt FP hpr x hx
 have s16:=s15.trans s6;refine⟨_,rfl,q,a.zkg,dx,_,_,rfl,s16 _ _ a1,T.zk1,T.zn1,F5,_,rfl,_,rfl,sz2,fun t2 ht2=>⟨sz1,fun ly hly=>?_⟩⟩;have s7:=Ze (o:=.tup [.int n,.ref lt]) ht2;have q7:upd H6 t2 (.tup [.int n,.ref lt]) t2=some (.tup [.int n,.ref lt]):=Zb;generalize upd H6 t2 (.tup [.int n,.ref lt])=H7 at s7 q7 hly;have s8:=Ze (o:=.lst [V.ref t2]) hly;have q8:upd H7 ly (.lst [V.ref t2]) ly=some (.lst [V.ref t2]):=Zb;have q78:=s8 _ _ q7;generalize upd H7 ly (.lst [V.ref t2])=H8 at s8 q8 q78;have s18:=s16.trans (s7.trans s8);refine⟨m4,ly,gts,[V.ref t2],rfl,rfl,s18 _ _ a7,q8,by have:=a8.length;show gts.length+1<=sizeLine;have:=Sv;omega,fun l4 hl4=>?_⟩;have s9:=Ze (o:=.lst (gts++[V.ref t2])) hl4;have q9:upd H8 l4 (.lst (gts++[V.ref t2])) l4=some (.lst (gts++[V.ref t2])):=Zb;generalize upd H8 l4 (.lst (gts++[V.ref t2]))=H9 at s9 q9;have s19:=s18.trans s9;intro q' dx' hq' hdx' ne;refine⟨q',dx',m1,l2,l3,l4,rfl,Zb,fun H' e'=>⟨rfl,?_⟩⟩;obtain⟨s10,q10⟩:=Pw (C:=a.zkg) (l1:=m1) (l2:=l2) (l3:=l3) (l4:=l4) hq' hdx' ne;rw[<- e'] at s10 q10;have s:=s19.trans s10;have s6x:=s7.trans (s8.trans (s9.trans s10));have s5x:=s6.trans s6x;refine h q' st e w H' ⟨dx',m1,l2,l3,l4,ts,ls,gts++[V.ref t2],q10,s _ _ a2,a3.same s,s _ _ hl2,il.same s,s6x _ _ h6,s10 _ _ q9,?_,no _ (s19.free hq'),o2,ok2,no _ (s15.free f6),no _ (s18.free hl4),okl⟩ CR s (s19.free hq');exact(a8.keep (fun _ _ _ z=>s _ _ z) (fun _ _ z=>s _ _ z)).snoc ((s9.trans s10) _ _ q78) (s5x _ _ hlt) (tl.same s5x) (no _ (s14.free f5))
abbrev Ut:Stmt:=Zz (top 52) 3
theorem N5:Zm ["self"] ["self"] (Zj Ut):=fnS
theorem N6(F:Fun K "matches" "Sheet.matches" Ut f fd)(T:Tx K mg a):FnOk P w K mg base (CX1 P w) 1 f fd ["self"] (Mo (ca a)):=by
 refine F.okX N5 ⋯ fun _ _ _ _ H _ Q E hr h=>?_;obtain⟨ok,q,s,rfl,SA,h⟩:=h;refine⟨_,(Zf (Zo (Xc (X0 (K:=K) rfl) (by rfl) T.zmi PyProof.Rows.boot_list (Za (Zp (K:=K) rfl (pv 0) rfl) Zd)))),?_⟩;obtain⟨dx,m1,m2,m3,m4,ts,ms,gts,a1,a2,a3,a4,a5,a6,a7,a8,o1,o2,o3,o4,o5,o6⟩:=id SA;refine⟨_,rfl,q,a.zkg,dx,_,_,rfl,a1,T.zk1,T.zme,Qy,m1,_,rfl,.inl (SqL.of a2),fun l hl=>?_⟩;exact h l ts _ Zb (a3.same (Ze hl)) (Ze hl) hl
abbrev Rp:Stmt:=Zz (top 52) 7
theorem Iu:Zm ["self"] ["self"] (Zj Rp):=fnS
theorem Iv(F:Fun K "goes" "Sheet.goes" Rp f fd)(T:Tx K mg a):FnOk P w K mg base (CX1 P w) 1 f fd ["self"] (Kn (ca a)):=by
 refine F.okX Iu ⋯ fun _ _ _ _ H _ Q E hr h=>?_;obtain⟨ok,q,s,rfl,SA,h⟩:=h;refine⟨_,(Zf (Zo (Xc (X0 (K:=K) rfl) (by rfl) T.zmi PyProof.Rows.boot_list (Za (Zp (K:=K) rfl (pv 0) rfl) Zd)))),?_⟩;obtain⟨dx,m1,m2,m3,m4,ts,ms,gts,a1,a2,a3,a4,a5,a6,a7,a8,o1,o2,o3,o4,o5,o6⟩:=id SA;refine⟨_,rfl,q,a.zkg,dx,_,_,rfl,a1,T.zk1,T.zmm,Qc,m3,_,rfl,.inl (SqL.of a6),fun l hl=>?_⟩;exact h l _ Zb (Ze hl) hl
abbrev Sd:Stmt:=Zz (top 52) 8
theorem K6:Zm ["self","number"] ["self","number"] (Zj Sd):=fnS
theorem K7(F:Fun K "where" "Sheet.where" Sd f fd)(T:Tx K mg a)(zod:Yh P w K mg base "place_of" 1 ["given","number"] (Gn K)):FnOk P w K mg base (CX1 P w) 2 f fd ["self","number"] (Nq (ca a)):=by
 refine F.okX K6 ⋯ fun _ _ _ _ H _ Q E hr h=>?_;obtain⟨ok,q,s,n,rfl,SA,ho,hgl,h⟩:=h;refine⟨_,(Zf (Zo (pF zod hr (Za (Zp (K:=K) rfl (pv 0) rfl) (Za (pv 1) Zd))))),?_⟩;obtain⟨dx,m1,m2,m3,m4,ts,ms,gts,a1,a2,a3,a4,a5,a6,a7,a8,o1,o2,o3,o4,o5,o6⟩:=id SA;exact⟨_,rfl,q,a.zkg,dx,_,_,rfl,a1,T.zk1,T.zmm,Qc,_,rfl,m3,s.gv,n,rfl,a6,ho,hgl,fun H' s'=>h H' s'⟩
abbrev Ti:Stmt:=Zz (top 52) 11
theorem M7:Zm ["self"] ["self"] (Zj Ti):=fnS
theorem M8(F:Fun K "chains" "Sheet.chains" Ti f fd)(T:Tx K mg a):FnOk P w K mg base (CX1 P w) 1 f fd ["self"] (Ko (ca a)):=by
 refine F.okX M7 ⋯ fun _ _ _ _ H _ Q E hr h=>?_;obtain⟨ok,q,s,rfl,SA,hgz,h⟩:=h;refine⟨_,(Zf (Zo (Kl rfl (Ot.mk (xo:=["number","steps"]) (ys:=[]) (js:=[]) rfl rfl ⋯ ⋯ rfl (by repeat' (first|exact True.intro|apply And.intro|rfl)) (by repeat' (first|exact True.intro|apply And.intro|rfl)) ⋯) (Yz (K:=K) rfl (Zp (K:=K) rfl (pv 0) rfl)) (fun _ _ _ _ _=>Wv) (fun _ _ _ _ _=>(Ug (K:=K) (n:=2) rfl rfl (Ya (Uw (i:=0) (show List.Nodup [("number":Str),("steps":Str)] by decide +kernel) rfl (by first|exact Or.inl rfl|exact Or.inr rfl)) (Ya (Uw (i:=1) (show List.Nodup [("number":Str),("steps":Str)] by decide +kernel) rfl (by first|exact Or.inl rfl|exact Or.inr rfl)) Ue)))) (fun _ _ _ _ _=>(Z2 (Za (pv 0) (Za (Xc (X0 (K:=K) rfl) (by rfl) T.zmi PyProof.Rows.boot_list (Za (pv 1) Zd)) Zd))))))),?_⟩;obtain⟨dx,m1,m2,m3,m4,ts,ms,gts,a1,a2,a3,a4,a5,a6,a7,a8,o1,o2,o3,o4,o5,o6⟩:=id SA;have hgts:=a8.length;refine⟨_,rfl,q,a.zkg,dx,_,_,rfl,a1,T.zk1,T.zn1,F5,m4,rfl,⟨_,SqL.of a7⟩,?_⟩;refine Kp (K:=K) (xs:=gts) (fun i ys H'=>Same H H'/\W7 (fun x=>H x=none) H' ys (s.gaps.take i)/\ys.length=i) ⟨Same.refl _,.nil,rfl⟩ (fun i ys H' _ ⟨s',_⟩=>SqL.of (s' _ _ a7)) (szN ⋯) (fun i ys H' ⟨_,_,e⟩=>by omega) ?_ ?_
 ·rintro i x ys H' hx ⟨s1,gl,hyl⟩;obtain⟨t,l,n,us,st,rfl,hgi,ht,hl,tl,_⟩:=a8.get hx;have ht1:=s1 _ _ ht;have hl1:=s1 _ _ hl;refine⟨t,_,rfl,SqT.of ht1,rfl,_,_,rfl,_,_,rfl,rfl,⟨[some (.int n),some (.ref l)],rfl,rfl⟩,?_⟩;unfold tYes;dsimp only;rw[if_pos rfl];refine⟨_,rfl,_,rfl,l,_,rfl,.inl (SqL.of hl1),fun l2 hl2=>?_⟩;have s2:=Ze (o:=.lst us) hl2;have q2:upd H' l2 (.lst us) l2=some (.lst us):=Zb;have f2:H l2=none:=s1.free hl2;generalize upd H' l2 (.lst us)=H2 at s2 q2;refine⟨sz2,fun t2 ht2=>?_⟩;have s3:=Ze (o:=.tup [.int n,.ref l2]) ht2;have s23:=s2.trans s3;refine⟨s1.trans s23,?_,by rw[zsh,hyl];rfl⟩;have e:s.gaps.take (i+1)=s.gaps.take i++[(n,st)]:=by rw[zto,hgi];rfl
  rw[e];exact(gl.keep (fun _ _ _ z=>s23 _ _ z) (fun _ _ z=>s23 _ _ z)).snoc Zb (s3 _ _ q2) (tl.same (s1.trans s23)) f2
 ·rintro ys H' ⟨s1,gl,hyl⟩ l hl;rw[hgts,zs0] at gl;refine h l ys _ Zb ?_ (s1.trans (Ze hl)) (s1.free hl);exact(gl.imp (ok':=fun x=>H x=none/\x≠l) fun x ⟨o,e⟩ z=>⟨z,Zh e hl⟩).keep (fun _ _ _ z=>Ze hl _ _ z) (fun _ _ z=>Ze hl _ _ z)
abbrev Rq:Stmt:=Zz (top 52) 12
theorem Iw:Zm ["self"] ["self"] (Zj Rq):=fnS
theorem Iy(F:Fun K "rows" "Sheet.rows" Rq f fd)(T:Tx K mg a):FnOk P w K mg base (CX1 P w) 1 f fd ["self"] (D1 (ca a)):=by
 refine F.okX Iw ⋯ fun _ _ _ _ H _ Q E hr h=>?_;obtain⟨ok,q,s,rfl,SA,ho,hgl,hml,h⟩:=h;refine⟨_,(Zf (Zo (Kl rfl (Ot.mk (xo:=["match","number"]) (ys:=[]) (js:=[]) rfl rfl ⋯ ⋯ rfl (by repeat' (first|exact True.intro|apply And.intro|rfl)) (by repeat' (first|exact True.intro|apply And.intro|rfl)) ⋯) (zgz (K:=K) rfl rfl T.zqf (Za (Zp (K:=K) rfl (pv 0) rfl) (Za (Zp (K:=K) rfl (pv 0) rfl) Zd))) (fun _ _ _ _ _=>Wv) (fun _ _ _ _ _=>(Ug (K:=K) (n:=2) rfl rfl (Ya (Uw (i:=0) (show List.Nodup [("match":Str),("number":Str)] by decide +kernel) rfl (by first|exact Or.inl rfl|exact Or.inr rfl)) (Ya (Uw (i:=1) (show List.Nodup [("match":Str),("number":Str)] by decide +kernel) rfl (by first|exact Or.inl rfl|exact Or.inr rfl)) Ue)))) (fun _ _ _ _ _=>(Zt (Dv (K:=K) rfl) (pv 0) (Z2 (Za (pv 1) Zd))))))),?_⟩;obtain⟨dx,m1,m2,m3,m4,ts,ms,gts,a1,a2,a3,a4,a5,a6,a7,a8,o1,o2,o3,o4,o5,o6⟩:=id SA;have hts:ts.length=s.ms.length:=by rw[a3.length,zsg]
 refine⟨_,rfl,q,a.zkg,dx,_,_,rfl,a1,T.zk1,T.zme,Qy,_,rfl,q,a.zkg,dx,_,_,rfl,a1,T.zk1,T.zmm,Qc,m1,m3,rfl,⟨_,SqL.of a2⟩,⟨_,SqL.of a6⟩,?_⟩;refine za5 (K:=K) (xs:=ts) (zs:=s.gv) (fun i ys H'=>Same H H'/\Zy H' ys (((Wd s).take i).map Fw)/\ys.length=i) ⟨Same.refl _,.nil,rfl⟩ ⋯ (fun i ys H' _ ⟨s',_⟩=>⟨SqL.of (s' _ _ a2),SqL.of (s' _ _ a6)⟩) (szN ⋯) (fun i ys H' ⟨_,_,e⟩=>by omega) ?_ ?_
 ·rintro i x z t ys H' hx hz ⟨s1,tl,hyl⟩ ht;obtain⟨tm,m,rfl,hm,htm⟩:=Bj a3 hx;have oz:=ho z (zsu hz);have s2:=s1.trans (Ze (o:=.tup [.ref tm,z]) ht);have tl2:=tl.same (Ze (o:=.tup [.ref tm,z]) ht);have q2:upd H' t (.tup [.ref tm,z]) t=some (.tup [.ref tm,z]):=Zb;generalize upd H' t (.tup [.ref tm,z])=H2 at s2 tl2 q2;refine⟨t,_,rfl,SqT.of q2,rfl,_,_,rfl,_,_,rfl,rfl,⟨[some (.ref tm),some z],rfl,rfl⟩,?_⟩;unfold tYes;dsimp only;rw[if_pos rfl];refine⟨_,rfl,_,rfl,sz1,fun t1 ht1=>?_⟩;have s3:=Ze (o:=.tup [z]) ht1;have q3:upd H2 t1 (.tup [z]) t1=some (.tup [z]):=Zb;generalize upd H2 t1 (.tup [z])=H3 at s3 q3;refine⟨tm,t1,_,_,rfl,rfl,SqT.of ((s2.trans s3) _ _ htm),SqT.of q3,by unfold pV;simp,by show 3+1<=sizeLine;exact sz4,fun z=>absurd z (by simp),fun _ t2 ht2=>?_⟩;have s4:=Ze (o:=.tup (pV m++[z])) ht2;refine⟨s2.trans (s3.trans s4),?_,by rw[zsh,hyl];rfl⟩;rw[za6 hm hz,zsp];refine((tl2.same s3).same s4).snoc ?_;rw[Zb,zg4 m oz];rfl
 ·rintro ys H' ⟨s1,tl,hyl⟩ l hl;rw[hts,<- D2 hgl,zs0] at tl;exact h l ys _ Zb (tl.same (Ze hl)) (s1.trans (Ze hl)) (s1.free hl)
abbrev Se:Stmt:=top 53
theorem K8:Zm ["listed","lists"] ["listed","lists"] (Zj Se):=fnS
theorem K9(F:Fun K "drawn_sheet" "drawn_sheet" Se f fd)(T:Tx K mg a)(zmw:T3 P w K mg base "Sheet" a.zkg 1 ["self","listed","lists","given","gaps"] (Ox (ca a)))(zqi:Yh P w K mg base "fill" 3 ["may"] (zcy K)):FnOk P w K mg base (CX1 P w) 4 f fd ["listed","lists"] (Aq (ca a)):=by
 refine F.okX K8 ⋯ fun _ _ _ _ H _ Q E hr h=>?_;obtain⟨ok,l1,l2,ts,ls,ms,rows,nu,rfl,hl1,tl,hl2,il,ok1,ok2,okl,no,mo,h⟩:=h;refine⟨_,(Zf (Zo (Fs zmw (hr.mono ⋯) Zk rfl (Za (pv 0) (Za (pv 1) (Za (pF zqi hr (Za (pv 1) Zd)) (Za (Z5 Zd) Zd))))))),?_⟩;refine⟨_,rfl,_,rfl,_,rfl,l2,ls,rows,nu,rfl,hl2,il,mo,fun l3 gv H1 h3 FP SP s1 f3=>?_⟩;refine⟨by show 0<=sizeLine;decide,fun l4 hl4=>?_⟩;have s2:=Ze (o:=.lst []) hl4;have q2:upd H1 l4 (.lst []) l4=some (.lst []):=Zb;generalize upd H1 l4 (.lst [])=H2 at s2 q2;have s12:=s1.trans s2;intro q dx hq hdx ne;refine⟨q,dx,l1,l2,l3,l4,rfl,Zb,fun H' e=>⟨rfl,?_⟩⟩;obtain⟨s3,q3⟩:=Pw (C:=a.zkg) (l1:=l1) (l2:=l2) (l3:=l3) (l4:=l4) hq hdx ne;rw[<- e] at s3 q3;have s:=s12.trans s3;exact h q gv H' ⟨dx,l1,l2,l3,l4,ts,ls,[],q3,s _ _ hl1,tl.same s,s _ _ hl2,il.same s,s3 _ _ (s2 _ _ h3),s3 _ _ q2,.nil,no _ (s12.free hq),ok1,ok2,no _ f3,no _ (s1.free hl4),okl⟩ FP SP s (s12.free hq)
abbrev Vt:Stmt:=Zz (top 55) 0
theorem P9:Zm ["self","rounds","rest"] ["self","rounds","rest"] (Zj Vt):=fnS
theorem Oa(F:Fun K "__init__" "Season.__init__" Vt f fd)(T:Tx K mg a)(zku:Yh P w K mg base "check_range" 1 ["value","least","most"] (Ow a.zkn))(zpn:T3 P w K mg base "Roster" a.zkf 1 ["self"] (Ao (ca a)))(zpw:T3 P w K mg base "Ledger" a.zke 1 ["self"] (Al a.zke)):FnOk P w K mg base (CX1 P w) 3 f fd ["self","rounds","rest"] (As (ca a)):=by
 refine F.okX P9 ⋯ fun _ _ _ _ H _ Q E hr h=>?_;obtain⟨p,dx,r,q,rfl,hp,sr,sq,h⟩:=h;refine⟨_,(Zc (Z6 (pF zku hr (Za (pv 1) (Za Zg (Za (Xk rfl T.zl0) Zd)))))
 (Zc (Z6 (pF zku hr (Za (pv 2) (Za Zg (Za (Xk rfl T.zmq) Zd)))))
 (Zc (Yx (K:=K) rfl (pv 0) (pv 1) rfl)
 (Zc (Yx (K:=K) rfl (pv 0) (pv 2) rfl)
 (Zc (Yx (K:=K) rfl (pv 0) (Ah zpn (hr.mono ⋯) Zk rfl) rfl)
 (Zc (Yx (K:=K) rfl (pv 0) (Ah zpw (hr.mono ⋯) Zk rfl) rfl)
 (Zc (Yx (K:=K) rfl (pv 0) E3 rfl)
 (Zc (Yx (K:=K) rfl (pv 0) (Z5 Zd) rfl)
 (Zc (Yx (K:=K) rfl (pv 0) X1 rfl)
 (Zf (Yx (K:=K) rfl (pv 0) (Z5 Zd) rfl))))))))))),?_⟩
 show let y1:TS:=_;let y2:TS:=Z0 _ y1;let y3:TS:=Z0 _ y2;let y4:TS:=Z0 _ y3;let y5:TS:=Z0 _ y4;let y6:TS:=Z0 _ y5;let y7:TS:=Z0 _ y6;let y8:TS:=Z0 _ y7;let y9:TS:=Z0 _ y8;Z0 _ y9 _ _ _;intro y1 y2 y3 y4 y5 y6 y7 y8 y9;refine⟨_,rfl,r,0,60,rfl,sr,Yf ⋯,Yf ⋯,?_⟩;refine it2 h (fun _ z=>z) fun h1 h=>?_;refine⟨_,rfl,q,0,10,rfl,sq,Yf ⋯,Yf ⋯,?_⟩;refine it2 h (fun _ z=>z) fun h2 hF=>?_;have er:r=((r.toNat:Nat):Int):=by omega
 have eq':q=((q.toNat:Nat):Int):=by omega
 generalize r.toNat=rn at hF er;generalize q.toNat=qn at hF eq';subst er eq';refine⟨_,rfl,_,rfl,p,a.zkc,dx,_,rfl,hp,T.zkd,T.zna,(by show 0<1000;decide),?_⟩;rw[pF1];refine⟨_,rfl,_,rfl,p,a.zkc,dx,_,rfl,Zb,T.zkd,T.zpa,(by show 1<1000;decide),?_⟩;rw[pF2,Lj];have b1:Vo p H (upd H p (.ins a.zkc dx (sF2 (.int rn) (.int qn)))):=.put;have q1:upd H p (.ins a.zkc dx (sF2 (.int rn) (.int qn))) p=some (.ins a.zkc dx (sF2 (.int rn) (.int qn))):=Zb;generalize upd H p (.ins a.zkc dx (sF2 (.int rn) (.int qn)))=H1 at b1 q1;intro pr dxr hpr hdxr ne;refine⟨pr,dxr,rfl,Zb,fun dr hdr=>⟨rfl,?_⟩⟩;have ndp:dr≠pr:=fun z=>by rw[z,Zb] at hdr;cases hdr
 have ndx:dr≠dxr:=fun z=>by rw[z,Zi ne,Zb] at hdr;cases hdr
 have hdr1:H1 dr=none:=by rw[Zi ndp,Zi ndx] at hdr;exact hdr
 have s2:Same H1 (upd (upd (upd (upd H1 dxr (.own pr)) pr (.ins a.zkf dxr [])) dr (.dK [])) pr (.ins a.zkf dxr [("entries",.ref dr)])):=fun b o e=>by
  rw[Zi (Zh e hpr),Zi (Zh e hdr1),Zi (Zh e hpr),Zi (Zh e hdxr)];exact e
 have R2:Y4 a.zkf (upd (upd (upd (upd H1 dxr (.own pr)) pr (.ins a.zkf dxr [])) dr (.dK [])) pr (.ins a.zkf dxr [("entries",.ref dr)])) pr dr []:=⟨⟨dxr,[],Zb,by rw[Zi ndp,Zb],.nil⟩,List.nodup_nil⟩;generalize upd (upd (upd (upd H1 dxr (.own pr)) pr (.ins a.zkf dxr [])) dr (.dK [])) pr (.ins a.zkf dxr [("entries",.ref dr)])=H2 at s2 R2;refine⟨_,rfl,p,a.zkc,dx,_,rfl,s2 _ _ q1,T.zkd,T.zlk,(by show 2<1000;decide),?_⟩;rw[pF3];have np2:pr≠p/\dr≠p:=⟨Ne.symm (Zh q1 hpr),Ne.symm (Zh q1 hdr1)⟩;have b3:Vo p H (upd H2 p (.ins a.zkc dx (sF3 (.int rn) (.int qn) (.ref pr)))):=b1.trans ((Vo.of s2).trans .put);have q3:upd H2 p (.ins a.zkc dx (sF3 (.int rn) (.int qn) (.ref pr))) p=some (.ins a.zkc dx (sF3 (.int rn) (.int qn) (.ref pr))):=Zb;have kt3:∀ t xs,H2 t=some (.tup xs)->upd H2 p (.ins a.zkc dx (sF3 (.int rn) (.int qn) (.ref pr))) t=some (.tup xs):=fun t xs e=>by rw[Zi (Ye e (s2 _ _ q1) (fun z=>nomatch z))];exact e
 have R3:=R2.keep (H':=upd H2 p (.ins a.zkc dx (sF3 (.int rn) (.int qn) (.ref pr)))) (fun o e=>by rw[Zi np2.1];exact e) (fun o e=>by rw[Zi np2.2];exact e) kt3;have fdr:H dr=none:=Vo.free b1 ⟨_,q1⟩ hdr1;have hr2:H2 dr=some (.dK [])/\∃ o,H2 pr=some o:=by
  obtain⟨⟨x,kv,z1,z2,z3⟩,_⟩:=R2;cases z3;exact⟨z2,_,z1⟩
 generalize upd H2 p (.ins a.zkc dx (sF3 (.int rn) (.int qn) (.ref pr)))=H3 at b3 q3 R3;intro pl dxl hpl hdxl nel;refine⟨pl,dxl,rfl,Zb,fun lr ld H4 L0 k0 f0 g0 n0=>⟨rfl,?_⟩⟩;obtain⟨s4,fr0,fd0⟩:=zcu hpl hdxl nel k0 f0 g0;refine⟨_,rfl,p,a.zkc,dx,_,rfl,s4 _ _ q3,T.zkd,T.zls,(by show 3<1000;decide),?_⟩;rw[pF4];have q4:=s4 _ _ q3;have np4:pl≠p/\lr≠p/\ld≠p:=⟨Ne.symm (Zh q3 hpl),Ne.symm (Zh q3 fr0),Ne.symm (Zh q3 fd0)⟩;have b5:Vo p H (upd H4 p (.ins a.zkc dx (sF4 (.int rn) (.int qn) (.ref pr) (.ref pl)))):=b3.trans ((Vo.of s4).trans .put);have q5:upd H4 p (.ins a.zkc dx (sF4 (.int rn) (.int qn) (.ref pr) (.ref pl))) p=some (.ins a.zkc dx (sF4 (.int rn) (.int qn) (.ref pr) (.ref pl))):=Zb;have kt5:∀ t xs,H4 t=some (.tup xs)->upd H4 p (.ins a.zkc dx (sF4 (.int rn) (.int qn) (.ref pr) (.ref pl))) t=some (.tup xs):=fun t xs e=>by rw[Zi (Ye e q4 (fun z=>nomatch z))];exact e
 have R5:=(R3.same s4).keep (H':=upd H4 p (.ins a.zkc dx (sF4 (.int rn) (.int qn) (.ref pr) (.ref pl)))) (fun o e=>by rw[Zi np2.1];exact e) (fun o e=>by rw[Zi np2.2];exact e) kt5;have L5:=L0.keep (H':=upd H4 p (.ins a.zkc dx (sF4 (.int rn) (.int qn) (.ref pr) (.ref pl)))) (fun o e=>by rw[Zi np4.1];exact e) (fun o e=>by rw[Zi np4.2.1];exact e) (fun o e=>by rw[Zi np4.2.2];exact e) kt5;have flr:H lr=none:=Vo.free b3 ⟨_,q3⟩ fr0;have fld:H ld=none:=Vo.free b3 ⟨_,q3⟩ fd0;have nrp:pr≠pl/\dr≠pl/\pr≠lr/\dr≠lr/\pr≠ld/\dr≠ld:=by
  obtain⟨⟨x,kv,z1,z2,_⟩,_⟩:=R3;exact⟨Zh z1 hpl,Zh z2 hpl,Zh z1 fr0,Zh z2 fr0,Zh z1 fd0,Zh z2 fd0⟩
 generalize upd H4 p (.ins a.zkc dx (sF4 (.int rn) (.int qn) (.ref pr) (.ref pl)))=H5 at b5 q5 R5 L5;intro da hda;have npa:da≠p:=Ne.symm (Zh q5 hda);refine⟨_,rfl,p,a.zkc,dx,_,rfl,Ze (o:=.dT []) hda _ _ q5,T.zkd,T.zmc,(by show 4<1000;decide),?_⟩;rw[pF5];have b7:Vo p H5 (upd (upd H5 da (.dT [])) p (.ins a.zkc dx (sF5 (.int rn) (.int qn) (.ref pr) (.ref pl) (.ref da)))):=(Vo.of (Ze hda)).trans .put;have q7:upd (upd H5 da (.dT [])) p (.ins a.zkc dx (sF5 (.int rn) (.int qn) (.ref pr) (.ref pl) (.ref da))) p=some (.ins a.zkc dx (sF5 (.int rn) (.int qn) (.ref pr) (.ref pl) (.ref da))):=Zb;have d7:upd (upd H5 da (.dT [])) p (.ins a.zkc dx (sF5 (.int rn) (.int qn) (.ref pr) (.ref pl) (.ref da))) da=some (.dT []):=by rw[Zi npa,Zb]
 generalize upd (upd H5 da (.dT [])) p (.ins a.zkc dx (sF5 (.int rn) (.int qn) (.ref pr) (.ref pl) (.ref da)))=H7 at b7 q7 d7;refine⟨by show 0<=sizeLine;decide,fun ls hls=>?_⟩;have nps:ls≠p:=Ne.symm (Zh q7 hls);refine⟨_,rfl,p,a.zkc,dx,_,rfl,Ze (o:=.lst []) hls _ _ q7,T.zkd,T.zm1,(by show 5<1000;decide),?_⟩;rw[pF6];have b9:Vo p H7 (upd (upd H7 ls (.lst [])) p (.ins a.zkc dx (sF6 (.int rn) (.int qn) (.ref pr) (.ref pl) (.ref da) (.ref ls)))):=(Vo.of (Ze hls)).trans .put;have q9:upd (upd H7 ls (.lst [])) p (.ins a.zkc dx (sF6 (.int rn) (.int qn) (.ref pr) (.ref pl) (.ref da) (.ref ls))) p=some (.ins a.zkc dx (sF6 (.int rn) (.int qn) (.ref pr) (.ref pl) (.ref da) (.ref ls))):=Zb;have l9:upd (upd H7 ls (.lst [])) p (.ins a.zkc dx (sF6 (.int rn) (.int qn) (.ref pr) (.ref pl) (.ref da) (.ref ls))) ls=some (.lst []):=by rw[Zi nps,Zb]
 generalize upd (upd H7 ls (.lst [])) p (.ins a.zkc dx (sF6 (.int rn) (.int qn) (.ref pr) (.ref pl) (.ref da) (.ref ls)))=H9 at b9 q9 l9;refine⟨_,rfl,p,a.zkc,dx,_,rfl,q9,T.zkd,T.zlb,(by show 6<1000;decide),?_⟩;rw[pF7];have b10:Vo p H9 (upd H9 p (.ins a.zkc dx (sF7 (.int rn) (.int qn) (.ref pr) (.ref pl) (.ref da) (.ref ls) .non))):=.put;have q10:upd H9 p (.ins a.zkc dx (sF7 (.int rn) (.int qn) (.ref pr) (.ref pl) (.ref da) (.ref ls) .non)) p=some (.ins a.zkc dx (sF7 (.int rn) (.int qn) (.ref pr) (.ref pl) (.ref da) (.ref ls) .non)):=Zb;generalize upd H9 p (.ins a.zkc dx (sF7 (.int rn) (.int qn) (.ref pr) (.ref pl) (.ref da) (.ref ls) .non))=H10 at b10 q10;refine⟨by show 0<=sizeLine;decide,fun lt hlt=>?_⟩;have npt:lt≠p:=Ne.symm (Zh q10 hlt);refine⟨_,rfl,p,a.zkc,dx,_,rfl,Ze (o:=.lst []) hlt _ _ q10,T.zkd,T.zle,(by show 7<1000;decide),?_⟩;rw[pF8];have b12:Vo p H10 (upd (upd H10 lt (.lst [])) p (.ins a.zkc dx (sF8 (.int rn) (.int qn) (.ref pr) (.ref pl) (.ref da) (.ref ls) .non (.ref lt)))):=(Vo.of (Ze hlt)).trans .put;have q12:upd (upd H10 lt (.lst [])) p (.ins a.zkc dx (sF8 (.int rn) (.int qn) (.ref pr) (.ref pl) (.ref da) (.ref ls) .non (.ref lt))) p=some (.ins a.zkc dx (sF8 (.int rn) (.int qn) (.ref pr) (.ref pl) (.ref da) (.ref ls) .non (.ref lt))):=Zb;have l12:upd (upd H10 lt (.lst [])) p (.ins a.zkc dx (sF8 (.int rn) (.int qn) (.ref pr) (.ref pl) (.ref da) (.ref ls) .non (.ref lt))) lt=some (.lst []):=by rw[Zi npt,Zb]
 generalize upd (upd H10 lt (.lst [])) p (.ins a.zkc dx (sF8 (.int rn) (.int qn) (.ref pr) (.ref pl) (.ref da) (.ref ls) .non (.ref lt)))=H12 at b12 q12 l12;have b912:=b10.trans b12;have b712:=b9.trans b912;have b512:=b7.trans b712;have bb:=b5.trans b512;have kt:∀ t xs,H5 t=some (.tup xs)->H12 t=some (.tup xs):=fun t xs e=>b512 t _ e (Ye e q5 (fun z=>nomatch z));have R12:=R5.keep (fun o e=>b512 _ o e np2.1) (fun o e=>b512 _ o e np2.2) kt;have L12:=L5.keep (fun o e=>b512 _ o e np4.1) (fun o e=>b512 _ o e np4.2.1) (fun o e=>b512 _ o e np4.2.2) kt;have d12:=b712 _ _ d7 npa;have l912:=b912 _ _ l9 nps;have fda:H da=none:=Vo.free b5 ⟨_,q5⟩ hda;have fls:H ls=none:=Vo.free (b5.trans b7) ⟨_,q7⟩ hls;have flt:H lt=none:=Vo.free (b5.trans (b7.trans (b9.trans b10))) ⟨_,q10⟩ hlt;have ex5:(∃ o,H5 pr=some o)/\(∃ o,H5 dr=some o)/\(∃ o,H5 pl=some o)/\(∃ o,H5 lr=some o)/\(∃ o,H5 ld=some o):=by
  obtain⟨⟨x,kv,z1,z2,_⟩,_⟩:=id R5;obtain⟨⟨y,w1⟩,⟨rs,w2,_⟩,⟨ks,w3,_⟩⟩:=id L5;exact⟨⟨_,z1⟩,⟨_,z2⟩,⟨_,w1⟩,⟨_,w2⟩,⟨_,w3⟩⟩
 have n5:∀ {x y:Addr},(∃ o,H5 x=some o)->H5 y=none->x≠y:=fun ⟨o,e⟩ hy=>Zh e hy;have fls5:H5 ls=none:=Vo.free b7 ⟨_,q7⟩ hls;have flt5:H5 lt=none:=Vo.free (b7.trans (b9.trans b10)) ⟨_,q10⟩ hlt;have ndas:da≠ls:=Zh d7 hls;have ndat:da≠lt:=Zh (b10 _ _ (b9 _ _ d7 npa) npa) hlt;have nst:ls≠lt:=Zh (b10 _ _ l9 nps) hlt;obtain⟨e1,e2,e3,e4,e5⟩:=ex5;have nrl:lr≠ld:=n0;refine hF ⟨p,pr,dr,pl,lr,ld,da,ls,lt⟩ H12 rfl ⟨⟨dx,.non,q12,rfl⟩,R12,L12,⟨[],d12,fun i n=>rfl,zso _⟩,⟨[],l912,.nil⟩,⟨[],l12,.nil⟩,?_,?_⟩ bb ?_
 ·show [p,dr,lr,ld,da,ls,lt].Nodup;simp only[zs6,zsk,zth,or_false,not_or];exact⟨⟨Ne.symm np2.2,Ne.symm np4.2.1,Ne.symm np4.2.2,Ne.symm npa,Ne.symm nps,Ne.symm npt⟩,⟨nrp.2.2.2.1,nrp.2.2.2.2.2,n5 e2 hda,n5 e2 fls5,n5 e2 flt5⟩,⟨nrl,n5 e4 hda,n5 e4 fls5,n5 e4 flt5⟩,⟨n5 e5 hda,n5 e5 fls5,n5 e5 flt5⟩,⟨ndas,ndat⟩,nst,by simp,List.nodup_nil⟩
 ·have hpr5:∃ x fs,H5 pr=some (.ins a.zkf x fs):=by obtain⟨⟨x,kv,z1,_⟩,_⟩:=R5;exact⟨_,_,z1⟩
  have hdr5:∃ kv,H5 dr=some (.dK kv):=by obtain⟨⟨x,kv,_,z2,_⟩,_⟩:=R5;exact⟨_,z2⟩
  have hpl5:∃ x fs,H5 pl=some (.ins a.zke x fs):=by obtain⟨⟨y,w1⟩,_⟩:=L5;exact⟨_,_,w1⟩
  obtain⟨x1,y1,z1⟩:=hpr5;obtain⟨y2,z2⟩:=hdr5;obtain⟨x3,y3,z3⟩:=hpl5;obtain⟨_,⟨rs,w2,_⟩,⟨ks,w3,_⟩⟩:=id L5;have nm:∀ m,m∈([p,dr,lr,ld,da,ls,lt]:List Addr)↔m=p\/m=dr\/m=lr\/m=ld\/m=da\/m=ls\/m=lt:=fun m=>by simp
  refine⟨fun hm=>?_,fun hm=>?_⟩
  ·rcases(nm _).mp hm with q|q|q|q|q|q|q
   ·exact np2.1 q
   ·exact Ye z1 z2 (fun z=>nomatch z) q
   ·exact nrp.2.2.1 q
   ·exact nrp.2.2.2.2.1 q
   ·exact n5 e1 hda q
   ·exact n5 e1 fls5 q
   ·exact n5 e1 flt5 q
  ·rcases(nm _).mp hm with q|q|q|q|q|q|q
   ·exact np4.1 q
   ·exact nrp.2.1 q.symm
   ·exact Ye z3 w2 (fun z=>nomatch z) q
   ·exact Ye z3 w3 (fun z=>nomatch z) q
   ·exact n5 e3 hda q
   ·exact n5 e3 fls5 q
   ·exact n5 e3 flt5 q
 ·intro x hx hxp;simp only[SAd.fp,zsk,zth,or_false] at hx;rcases hx with q|q|q|q|q|q|q
  ·exact absurd q hxp
  ·rw[q];exact fdr
  ·rw[q];exact flr
  ·rw[q];exact fld
  ·rw[q];exact fda
  ·rw[q];exact fls
  ·rw[q];exact flt
abbrev Xr:Stmt:=Zz (top 55) 1
theorem Sf:Zm ["self"] ["self"] (Zj Xr):=fnS
theorem Sg(F:Fun K "check_not_over" "Season.check_not_over" Xr f fd)(T:Tx K mg a)(zkj:Zv P w K mg base a.zkc "at_hand" 2 ["self"] (U7 (ca a))):FnOk P w K mg base (CX1 P w) 3 f fd ["self"] (Nr (ca a)):=by
 refine F.okX Sf ⋯ fun _ _ _ _ H _ Q E hr h=>?_;obtain⟨A',S,rfl,SA,h⟩:=h;refine⟨_,(Zf (Z1 (Zn Tu (Yk (pv 0) T.zkd zkj (hr.mono ⋯) Zk) (Zp (K:=K) rfl (pv 0) rfl) (Zr _))
  (Zf (Y8 Y7 rfl T.zp9 rfl (Za Zl Zd)))
  Zs)),?_⟩
 obtain⟨⟨dx,v,a1,a2⟩,b,c,_⟩:=id SA;refine⟨_,rfl,A'.p,dx,_,rfl,a1,Yo ⋯,A',S,rfl,SA,_,rfl,A'.p,a.zkc,dx,_,_,rfl,a1,T.zkd,T.zna,Gv,_,_,rfl,rfl,_,rfl,?_⟩;refine itD (fun hc=>?_) (fun hc=>?_)
 ·rw[if_pos (by unfold atV at hc;omega)] at h;exact⟨sz1,h⟩
 ·rw[if_neg (by unfold atV at hc;omega)] at h;exact h
abbrev Xx:Stmt:=Zz (top 55) 2
theorem Sz:Zm ["self"] ["self"] (Zj Xx):=fnS
theorem S4(F:Fun K "check_undrawn" "Season.check_undrawn" Xx f fd)(T:Tx K mg a)(zkx:Zv P w K mg base a.zkc "check_not_over" 3 ["self"] (Nr (ca a))):FnOk P w K mg base (CX1 P w) 4 f fd ["self"] (Nt (ca a)):=by
 refine F.okX Sz ⋯ fun _ _ _ _ H _ Q E hr h=>?_;obtain⟨A',S,rfl,SA,h⟩:=h;refine⟨_,(Zc (Z6 (Yk (pv 0) T.zkd zkx (hr.mono ⋯) Zk))
 (Zf (Z1 (Zn Oi (Zp (K:=K) rfl (pv 0) rfl) X1 (Zr _))
  (Zf (Y8 Y7 rfl T.zql rfl (Za Zl Zd)))
  Zs))),?_⟩
 obtain⟨⟨dx,v,a1,a2⟩,b,c,_⟩:=id SA;refine⟨_,rfl,A'.p,dx,_,rfl,a1,Yo ⋯,A',S,rfl,SA,?_⟩;refine it2 h (fun _ z=>z) fun hn h=>?_;refine⟨_,rfl,A'.p,a.zkc,dx,_,_,rfl,a1,T.zkd,T.zlb,We,rfl,_,rfl,?_⟩;cases hc:S.cur with
 | none =>
   rw[hc] at a2 h;have a2:v=.non:=a2;rw[a2];exact iteF h
 | some s =>
   rw[hc] at a2 h;obtain⟨q,rfl,_⟩:=a2;exact iteT ⟨sz1,h⟩
abbrev Wj:Stmt:=Zz (top 55) 3
theorem Rz:Zm ["self","at"] ["self","at"] (Zj Wj):=fnS
theorem R0(F:Fun K "check_round" "Season.check_round" Wj f fd)(T:Tx K mg a):FnOk P w K mg base (CX1 P w) 1 f fd ["self","at"] (F6 (ca a)):=by
 refine F.okX Rz ⋯ fun _ _ _ _ H _ Q E hr h=>?_;obtain⟨A',S,i,rfl,SA,si,h⟩:=h;refine⟨_,(Zf (Z1 (PW.pt (V1 (Zn Hr (pv 1) Zg (Zr _)) (W3 (Zn Tu (pv 1) (Zp (K:=K) rfl (pv 0) rfl) (Zr _)))))
  (Zf (Y8 Y7 rfl T.zp1 rfl (Za (Vl (Zx (W4 (pv 1)) (Zx (Xo ⋯) Vk)) ⋯) Zd)))
  Zs)),?_⟩
 obtain⟨⟨dx,v,a1,a2⟩,b,c,_⟩:=id SA;refine⟨_,rfl,_,_,rfl,rfl,_,rfl,?_⟩;refine itD (fun hc=>?_) (fun hc=>?_)
 ·rw[if_pos (.inl hc)] at h;refine iteT ?_;exact⟨_,rfl,.inl ⟨_,rfl,si⟩,fun z=>⟨sz1,h⟩⟩
 refine⟨_,rfl,_,rfl,A'.p,a.zkc,dx,_,_,rfl,a1,T.zkd,T.zna,Gv,_,_,rfl,rfl,_,rfl,?_⟩;refine itD (fun hc2=>?_) (fun hc2=>?_)
 ·rw[if_pos (.inr hc2)] at h;exact⟨_,rfl,.inl ⟨_,rfl,si⟩,fun z=>⟨sz1,h⟩⟩
 ·rw[if_neg (fun z=>z.elim hc hc2)] at h;exact h
abbrev Wr:Stmt:=Zz (top 55) 4
theorem Qi:Zm ["self"] ["self"] (Zj Wr):=fnS
theorem Qj(F:Fun K "check_room" "Season.check_room" Wr f fd)(T:Tx K mg a):FnOk P w K mg base (CX1 P w) 1 f fd ["self"] (F7 (ca a)):=by
 refine F.okX Qi ⋯ fun _ _ _ _ H _ Q E hr h=>?_;obtain⟨A',S,rfl,SA,h⟩:=h;refine⟨_,(Zf (Z1 (Zn zfa (Zq (cL K) (by rfl) T.zli PySem.boot_len (Za (Zp (K:=K) rfl (pv 0) rfl) Zd)) (Xk rfl T.zlh) (Zr _))
  (Zf (Y8 Y7 rfl T.zpk rfl (Za (Vl (Zx (W4 (Xk rfl T.zlh)) (Zx (Xo ⋯) Vk)) ⋯) Zd)))
  Zs)),?_⟩
 obtain⟨⟨dx,v,a1,a2⟩,b,c,d,f,⟨us,g1,g2⟩,nd,np⟩:=id SA;refine⟨_,rfl,A'.p,a.zkc,dx,_,_,rfl,a1,T.zkd,T.zle,Um,A'.lt,_,rfl,.inl (SqL.of g1),_,_,rfl,rfl,_,rfl,?_⟩;rw[g2.length];refine itD (fun hc=>?_) (fun hc=>?_)
 ·rw[if_pos ⋯] at h;exact⟨.inl ⟨_,rfl,Yf ⋯⟩,fun z=>⟨sz1,h⟩⟩
 ·rw[if_neg ⋯] at h;exact h
abbrev Sh:Stmt:=Zz (top 55) 5
theorem Jc:Zm ["self","word","number","at"] ["self","word","number","at"] (Zj Sh):=fnS
theorem Jd(F:Fun K "note" "Season.note" Sh f fd)(T:Tx K mg a):FnOk P w K mg base (CX1 P w) 1 f fd ["self","word","number","at"] (F8 (ca a)):=by
 refine F.okX Jc ⋯ fun _ _ _ _ H _ Q E hr h=>?_;obtain⟨A',S,w',n,i,rfl,SA,hz,h⟩:=h;refine⟨_,(Zf (Yt (Zp (K:=K) rfl (pv 0) rfl) (Z2 (Za (Z2 (Za (pv 1) (Za (pv 2) (Za (pv 3) Zd)))) (Za (Zp (K:=K) rfl (pv 0) rfl) Zd))))),?_⟩;obtain⟨⟨dx,v,a1,a2⟩,b,c,⟨kvs,d1,d2⟩,⟨vs,f1,f2⟩,⟨us,g1,g2⟩,nd,np⟩:=id SA;refine⟨_,rfl,A'.p,a.zkc,dx,_,_,rfl,a1,T.zkd,T.zle,Um,A'.lt,us,rfl,g1,?_⟩;refine⟨_,rfl,_,rfl,_,rfl,sz3,fun t1 ht1=>?_⟩;have s1:=Ze (o:=.tup [.str w',.int n,.int i]) ht1;have q1:upd H t1 (.tup [.str w',.int n,.int i]) t1=some (.tup (Xb (w',n,i))):=Zb;generalize upd H t1 (.tup [.str w',.int n,.int i])=H1 at s1 q1;refine⟨_,rfl,A'.p,a.zkc,dx,_,_,rfl,s1 _ _ a1,T.zkd,T.zlb,We,sz2,fun t2 ht2=>?_⟩;have s2:=Ze (o:=.tup [.ref t1,v]) ht2;have q2:upd H1 t2 (.tup [.ref t1,v]) t2=some (.tup [.ref t1,v]):=Zb;have q12:=s2 _ _ q1;have s12:=s1.trans s2;generalize upd H1 t2 (.tup [.ref t1,v])=H2 at s2 q2 q12 s12;refine⟨us,s12 _ _ g1,by have:=g2.length;have:=Sv;omega,?_⟩;have fr:FrS A' H (upd H2 A'.lt (.lst (us++[.ref t2]))):=fun b o e hb=>by
  rw[Zi (fun z=>hb (by rw[z];simp[SAd.fp]))];exact s12 _ _ e
 have kt:=SA.tups fr;have kp:∀ x o,x≠A'.lt->H x=some o->upd H2 A'.lt (.lst (us++[.ref t2])) x=some o:=fun x o hx e=>by rw[Zi hx];exact s12 _ _ e
 have kt2:∀ t xs,H2 t=some (.tup xs)->upd H2 A'.lt (.lst (us++[.ref t2])) t=some (.tup xs):=fun t xs e=>by
  rw[Zi (Ye e (s12 _ _ g1) (fun z=>nomatch z))];exact e
 have ko:∀ x o,x∉A'.fp->H x=some o->upd H2 A'.lt (.lst (us++[.ref t2])) x=some o:=fun x o hx e=>fr x o e hx;have nd':=nd;simp only[SAd.fp,zs6,zsk,zth,or_false,not_or] at nd';obtain⟨⟨n1,n2,n3,n4,n5,n6⟩,⟨n7,n8,n9,n10,n11⟩,⟨n12,n13,n14,n15⟩,⟨n16,n17,n18⟩,⟨n19,n20⟩,n21,_⟩:=nd';have npt:A'.pr≠A'.lt/\A'.pl≠A'.lt:=⟨fun z=>np.1 (by rw[z];simp[SAd.fp]),fun z=>np.2 (by rw[z];simp[SAd.fp])⟩;refine h _ ⟨⟨dx,v,kp _ _ n6 a1,a2.keep ko kt⟩,b.keep (fun o e=>kp _ o npt.1 e) (fun o e=>kp _ o n11 e) kt,c.keep (fun o e=>kp _ o npt.2 e) (fun o e=>kp _ o n15 e) (fun o e=>kp _ o n18 e) kt,⟨kvs,kp _ _ n20 d1,d2⟩,⟨vs,kp _ _ n21 f1,f2.keep ko kt⟩,⟨us++[.ref t2],Zb,?_⟩,nd,np⟩ fr;exact(g2.keep ko kt).snoc (kt2 _ _ q2) (kt2 _ _ q12) (a2.keep ko kt)
abbrev Xy:Stmt:=Zz (top 55) 6
theorem S5:Zm ["self"] ["self"] (Zj Xy):=fnS
theorem S6(F:Fun K "sheet_at_hand" "Season.sheet_at_hand" Xy f fd)(T:Tx K mg a):FnOk P w K mg base (CX1 P w) 1 f fd ["self"] (Px (ca a)):=by
 refine F.okX S5 ⋯ fun _ _ _ _ H _ Q E hr h=>?_;obtain⟨A',S,rfl,SA,h1,h2⟩:=h;refine⟨_,(Zc (Z1 (Zn L6 (Zp (K:=K) rfl (pv 0) rfl) X1 (Zr _))
  (Zf (Y8 Y7 rfl T.zpx rfl (Za Zl Zd)))
  Zs)
 (Zf (Zo (Zp (K:=K) rfl (pv 0) rfl)))),?_⟩
 obtain⟨⟨dx,v,a1,a2⟩,b,c,_⟩:=id SA;refine⟨_,rfl,A'.p,a.zkc,dx,_,_,rfl,a1,T.zkd,T.zlb,We,rfl,_,rfl,?_⟩;cases hc:S.cur with
 | none =>
   rw[hc] at a2;have a2:v=.non:=a2;rw[a2];exact iteT ⟨sz1,h1 hc⟩
 | some s =>
   rw[hc] at a2;obtain⟨q,rfl,hs⟩:=a2;refine iteF ?_;exact⟨_,rfl,A'.p,a.zkc,dx,_,_,rfl,a1,T.zkd,T.zlb,We,h2 s q hc hs⟩
abbrev Vu:Stmt:=Zz (top 55) 7
theorem Ob:Zm ["self","at"] ["self","at"] (Zj Vu):=fnS
theorem Oc(F:Fun K "sheet_of" "Season.sheet_of" Vu f fd)(T:Tx K mg a)(zk3:Zv P w K mg base a.zkc "check_round" 1 ["self","at"] (F6 (ca a)))(zkq:Zv P w K mg base a.zke "over" 1 ["self"] (Nm a.zke))(zkj:Zv P w K mg base a.zkc "at_hand" 2 ["self"] (U7 (ca a)))(zkz:Zv P w K mg base a.zkc "sheet_at_hand" 1 ["self"] (Px (ca a))):FnOk P w K mg base (CX1 P w) 3 f fd ["self","at"] (Gx (ca a)):=by
 refine F.okX Ob ⋯ fun _ _ _ _ H _ Q E hr h=>?_;obtain⟨A',S,i,rfl,SA,si,hol,h⟩:=h;refine⟨_,(Zc (Z6 (Xt (pv 0) T.zkd zk3 (hr.mono ⋯) Zk (Za (pv 1) Zd)))
 (Zc (Z1 (Zn zbw (pv 1) (Yk (Zp (K:=K) rfl (pv 0) rfl) T.zld zkq (hr.mono ⋯) Zk) (Zr _))
  (Zf (Zo (pI (iL K) (Zp (K:=K) rfl (pv 0) rfl) (Zt Nf (pv 1) Zg))))
  Zs)
 (Zc (Z1 (Zn Tu (pv 1) (Yk (pv 0) T.zkd zkj (hr.mono ⋯) Zk) (Zr _))
  (Zf (Y8 Y7 rfl T.zpx rfl (Za (Vl (Zx (Xo ⋯) (Zx (W4 (pv 1)) (Zx (Xo ⋯) Vk))) ⋯) Zd)))
  Zs)
 (Zf (Zo (Yk (pv 0) T.zkd zkz (hr.mono ⋯) Zk)))))),?_⟩
 obtain⟨⟨dx,v,a1,a2⟩,b,c,d,⟨vs,f1,f2⟩,_⟩:=id SA;obtain⟨⟨dxl,hpl⟩,_⟩:=id c;refine⟨_,rfl,A'.p,dx,_,rfl,a1,Yo ⋯,_,rfl,A',S,i,rfl,SA,si,?_⟩;refine it2 h (fun _ z=>z) fun hn h=>?_;refine⟨_,rfl,_,rfl,A'.p,a.zkc,dx,_,_,rfl,a1,T.zkd,T.zls,U3,A'.pl,dxl,_,rfl,hpl,Kj ⋯ ⋯,A'.pl,A'.lr,A'.ld,S.led,rfl,c,_,_,rfl,rfl,_,rfl,?_⟩;refine itD (fun hc=>?_) (fun hc=>?_)
 ·have hk:(i-1).toNat<S.old.length:=by omega
  have hs:U1 S i=some (S.old[(i-1).toNat]'hk):=by unfold U1;rw[if_pos hc];exact zsi hk
  obtain⟨q,e1,e2⟩:=f2.getR (zsi hk);exact⟨_,rfl,A'.p,a.zkc,dx,_,_,rfl,a1,T.zkd,T.zm1,Gw,_,rfl,_,_,rfl,rfl,A'.ls,_,_,_,rfl,rfl,SqL.of f1,(show atI vs (i-1)=some (.ref q) by rw[show i-1=(((i-1).toNat:Nat):Int) by omega];exact Y3 e1),h.2 _ q hs e2⟩
 ·refine Zu ?_;refine⟨_,rfl,_,rfl,A'.p,dx,_,rfl,a1,Yo ⋯,A',S,rfl,SA,_,_,rfl,rfl,_,rfl,?_⟩;refine itD (fun hc2=>?_) (fun hc2=>?_)
  ·exact⟨_,rfl,.inl ⟨_,rfl,si⟩,fun z=>⟨sz1,h.1 (by unfold U1;rw[if_neg hc,if_pos (by unfold atV at hc2;omega)])⟩⟩
  ·have hs:U1 S i=S.cur:=by unfold U1;rw[if_neg hc,if_neg (by unfold atV at hc2;omega)]
   exact⟨_,rfl,A'.p,dx,_,rfl,a1,Yo ⋯,A',S,rfl,SA,fun hz=>h.1 (by rw[hs];exact hz),fun s q hz hq=>h.2 s q (by rw[hs];exact hz) hq⟩
abbrev Va:Stmt:=Zz (top 55) 8
theorem Xm:Zm ["self","listed","people","at","out"] ["self","listed"] (Zj Va):=fnS
theorem Pa(F:Fun K "takers_of" "Season.takers_of" Va f fd)(T:Tx K mg a)(zk9:Zv P w K mg base a.zkf "numbers" 1 ["self"] (Pu (ca a)))(zmt:Zv P w K mg base a.zkf "person" 3 ["self","number"] (Du (ca a)))(zkj:Zv P w K mg base a.zkc "at_hand" 2 ["self"] (U7 (ca a)))(zpp:Yh P w K mg base "takers" 4 ["people","match","out","ledger","rest"] (Dj K a.zke)):FnOk P w K mg base (CX1 P w) 5 f fd ["self","listed"] (Py (ca a)):=by
 refine F.okX Xm ⋯ fun _ _ _ _ H _ Q E hr h=>?_;obtain⟨A',S,l,ts,ms,rfl,SA,hl,tl,hml,hpl,hsm,h⟩:=h;have hu:=Wu hr;refine⟨_,(Zc (pS 2 Xm.nd (Uo rfl (cT ["self"] [0]) (Yz (K:=K) rfl (Yk (Zp (K:=K) rfl (pv 0) rfl) T.zk4 zk9 (hr.mono ⋯) Zk)) (fun _ _ _ _ _=>Wv) (fun _ _ _ _ _=>(Xt (Zp (K:=K) rfl (pv 1) rfl) T.zk4 zmt (hr.mono ⋯) zco (Za (pv 0) Zd)))))
 (Zc (pS 3 Xm.nd (Yk (pv 0) T.zkd zkj (hr.mono ⋯) Zk))
 (Zc (pS 4 Xm.nd (Uo rfl (cT ["at","self"] [3,0]) (Yz (K:=K) rfl (Yk (Zp (K:=K) rfl (pv 0) rfl) T.zk4 zk9 (hr.mono ⋯) Zk)) (fun _ _ _ _ _=>Fq (Ph (Fh hu (Z2 (Za (pv 1) (Za (pv 0) Zd))) (Zp (K:=K) rfl (pv 2) rfl)))) (fun _ _ _ _ _=>(pv 0))))
 (Zf (Zo (Uo rfl (cT ["people","out","self"] [2,4,0]) (Yz (K:=K) rfl (pv 1)) (fun _ _ _ _ _=>Wv) (fun _ _ _ _ _=>(Ag zpp (hr.mono ⋯) zco rfl (Za (pv 1) (Za (pv 0) (Za (pv 2) (Za (Zp (K:=K) rfl (pv 3) rfl) (Za (Zp (K:=K) rfl (pv 3) rfl) Zd))))))))))))),?_⟩
 obtain⟨⟨dx,v,a1,a2⟩,b,c,⟨kvs,d1,d2⟩,_⟩:=id SA;obtain⟨⟨dxr,kvr,hpr,hdr,en⟩,ndr⟩:=id b;refine⟨_,rfl,A'.p,a.zkc,dx,_,_,rfl,a1,T.zkd,T.zlk,Vf,A'.pr,dxr,_,rfl,hpr,Y4.no ⋯,A'.pr,A'.dr,S.ppl,rfl,b,fun ln hln=>?_⟩;have s1:=Ze (o:=.lst (S.ppl.map fun x=>V.int x.1)) hln;have q1:upd H ln (.lst (S.ppl.map fun x=>V.int x.1)) ln=some (.lst (S.ppl.map fun x=>V.int x.1)):=Zb;generalize upd H ln (.lst (S.ppl.map fun x=>V.int x.1))=H1 at s1 q1;have hnl:(S.ppl.map fun x=>V.int x.1).length=S.ppl.length:=by rw[zsg]
 refine⟨ln,rfl,⟨_,SqL.of q1⟩,V7 (K:=K) (xs:=S.ppl.map fun x=>V.int x.1) (fun i ys H'=>Same H H'/\Same H1 H'/\Zy H' ys ((S.ppl.take i).map pV)/\ys.length=i) ⟨s1,Same.refl _,.nil,rfl⟩ (fun i ys H' _ ⟨_,z,_⟩=>SqL.of (z _ _ q1)) (szN ⋯) (fun i ys H' ⟨_,_,_,e⟩=>by omega) ?_ ?_⟩
 ·rintro i x ys H' hx ⟨sh,s1',tl',hyl⟩;have hi:i<S.ppl.length:=by have:=(zsj.mp hx).1;omega
  have hpi:S.ppl[i]?=some (S.ppl[i]'hi):=zsi hi;have etk:S.ppl.take (i+1)=S.ppl.take i++[S.ppl[i]'hi]:=zte hi;have hmem:S.ppl[i]'hi∈S.ppl:=ztm hi;have ex:x=.int (S.ppl[i]'hi).1:=by rw[zsn,hpi] at hx;exact(Option.some.inj hx).symm
  generalize (S.ppl[i]'hi)=pp at hpi etk hmem ex;subst ex;unfold tYes;dsimp only;rw[if_pos rfl];refine⟨_,rfl,A'.p,a.zkc,dx,_,_,rfl,sh _ _ a1,T.zkd,T.zlk,Vf,A'.pr,dxr,_,rfl,sh _ _ hpr,Y4.no ⋯,_,rfl,A'.pr,A'.dr,S.ppl,pp.1,rfl,b.same sh,hsm pp hmem,fun z=>absurd (zsq.mpr ⟨pp,hmem,rfl⟩) z,fun g c' t H2 hm ht s2 _=>?_⟩;have epp:=zex b.nd hm hmem rfl;rw[epp] at ht;refine⟨sh.trans s2,s1'.trans s2,?_,by rw[zsh,hyl];rfl⟩;rw[etk,zsp];exact(tl'.same s2).snoc ht
 rintro ys H2 ⟨sh2,s12,tl2,hyl⟩ lp hlp;rw[hnl,zs0] at tl2;have s3:=sh2.trans (Ze (o:=.lst ys) hlp);have q3:upd H2 lp (.lst ys) lp=some (.lst ys):=Zb;have tl3:=tl2.same (Ze (o:=.lst ys) hlp);generalize upd H2 lp (.lst ys)=H3 at s3 q3 tl3;have SA3:=SA.same s3;refine⟨_,rfl,A'.p,dx,_,rfl,s3 _ _ a1,Yo ⋯,A',S,rfl,SA3,?_⟩;refine⟨_,rfl,A'.p,a.zkc,dx,_,_,rfl,s3 _ _ a1,T.zkd,T.zlk,Vf,A'.pr,dxr,_,rfl,s3 _ _ hpr,Y4.no ⋯,A'.pr,A'.dr,S.ppl,rfl,b.same s3,fun ln4 hln4=>?_⟩;have s4:=Ze (o:=.lst (S.ppl.map fun x=>V.int x.1)) hln4;have q4:upd H3 ln4 (.lst (S.ppl.map fun x=>V.int x.1)) ln4=some (.lst (S.ppl.map fun x=>V.int x.1)):=Zb;generalize upd H3 ln4 (.lst (S.ppl.map fun x=>V.int x.1))=H4 at s4 q4;refine⟨ln4,rfl,⟨_,SqL.of q4⟩,V7 (K:=K) (xs:=S.ppl.map fun x=>V.int x.1) (fun i ys H'=>Same H4 H'/\ys=((S.ppl.take i).filter (pIn S.out (atV S))).map fun x=>V.int x.1) ⟨Same.refl _,rfl⟩ (fun i ys H' _ ⟨z,_⟩=>SqL.of (z _ _ q4)) (szN ⋯) (fun i ys H' ⟨_,e⟩=>by rw[e,zsg];exact zs3 (zuc _ _) (zum _ _)) ?_ ?_⟩
 ·rintro i x zs H' hx ⟨s4',rfl⟩;have hi:i<S.ppl.length:=by have:=(zsj.mp hx).1;omega
  have hpi:S.ppl[i]?=some (S.ppl[i]'hi):=zsi hi;have etk:S.ppl.take (i+1)=S.ppl.take i++[S.ppl[i]'hi]:=zte hi;have ex:x=.int (S.ppl[i]'hi).1:=by rw[zsn,hpi] at hx;exact(Option.some.inj hx).symm
  generalize (S.ppl[i]'hi)=pp at hpi etk ex;subst ex;refine⟨_,rfl,_,rfl,sz2,fun t ht=>?_⟩;have s5:=Ze (o:=.tup [.int (atV S),.int pp.1]) ht;have q5:upd H' t (.tup [.int (atV S),.int pp.1]) t=some (.tup (([inl (atV S),inl pp.1]:List Key).map kV)):=Zb;generalize upd H' t (.tup [.int (atV S),.int pp.1])=H5 at s5 q5;have sh5:=s3.trans (s4.trans (s4'.trans s5));refine⟨_,rfl,A'.p,a.zkc,dx,_,_,rfl,sh5 _ _ a1,T.zkd,T.zmc,Qz,A'.da,_,rfl,DGet.t (k:=[inl (atV S),inl pp.1]) (sh5 _ _ d1) q5,_,rfl,?_⟩;rw[d2.isSome];have e2:∀ ws,((S.ppl.take (i+1)).filter (pIn S.out (atV S))).map (fun x=>V.int x.1)=((S.ppl.take i).filter (pIn S.out (atV S))).map (fun x=>V.int x.1)++ws↔ws=if pIn S.out (atV S) pp then [V.int pp.1] else []:=fun ws=>by
   rw[etk,List.filter_append,zsp,List.append_cancel_left_eq];cases q:pIn S.out (atV S) pp<;>simp[q,eq_comm]
  refine itB (fun hb=>?_) (fun hb=>?_)
  ·exact⟨_,rfl,s4'.trans s5,((e2 [V.int pp.1]).mpr (by rw[show pIn S.out (atV S) pp=true from hb];rfl)).symm⟩
  ·refine⟨s4'.trans s5,?_⟩;have:=(e2 []).mpr (by rw[show pIn S.out (atV S) pp=false from hb];rfl);rw[zup] at this;exact this.symm
 rintro zs H5 ⟨s45,rfl⟩ lo hlo;rw[hnl,zs0];have s6:=s45.trans (Ze (o:=.lst (outV S)) hlo);have q6:upd H5 lo (.lst (outV S)) lo=some (.lst (outV S)):=Zb;show Ve 4 (V.ref lo) _ (upd H5 lo (.lst (outV S))) _;generalize upd H5 lo (.lst (outV S))=H6 at s6 q6;have s36:=s4.trans s6;have s06:=s3.trans s36;have hl6:=s06 _ _ hl;have hts:ts.length=ms.length:=by rw[tl.length,zsg]
 refine⟨_,rfl,l,rfl,⟨_,SqL.of hl6⟩,V7 (K:=K) (xs:=ts) (fun i ys H'=>Same H6 H'/\∃ ls,ys=ls.map V.ref/\ILs H' ls ((mayS S ms).take i)/\ls.length=i/\∀ x∈ls,H x=none) ⟨Same.refl _,[],rfl,.nil,rfl,by simp⟩ (fun i ys H' _ ⟨z,_⟩=>SqL.of (z _ _ hl6)) (szN ⋯) (fun i ys H' ⟨_,ls,e1,_,e2,_⟩=>by rw[e1,zsg];omega) ?_ ?_⟩
 ·rintro i x ys' H' hx ⟨s6',ls,rfl,il,hll,hfr⟩;obtain⟨tm,m,rfl,hm,htm⟩:=Bj tl hx;have s0:=s06.trans s6';unfold tYes;dsimp only;rw[if_pos rfl];refine⟨_,rfl,_,rfl,_,rfl,_,rfl,A'.p,a.zkc,dx,_,_,rfl,s0 _ _ a1,T.zkd,T.zls,U3,_,rfl,A'.p,a.zkc,dx,_,_,rfl,s0 _ _ a1,T.zkd,T.zpa,zew,lp,lo,tm,A'.pl,A'.lr,A'.ld,S.led,ys,S.ppl,outV S,m.1,m.2.1,m.2.2,S.rest,rfl,(s36.trans s6') _ _ q3,tl3.same (s36.trans s6'),s6' _ _ q6,zde S,s0 _ _ htm,c.same s0,by omega,fun l2 H2 hl2 s2 f2=>?_⟩;rw[zg5] at hl2;refine⟨s6'.trans s2,ls++[l2],by rw[zsp];rfl,?_,by rw[zsh,hll];rfl,fun y hy=>?_⟩
  ·have e:(mayS S ms).take (i+1)=(mayS S ms).take i++[F9 S m]:=by
    unfold mayS;rw[zto,zsn,hm];rfl
   rw[e];exact(il.same s2).snoc hl2
  ·rcases zsv.mp hy with z|z
   ·exact hfr y z
   ·rw[zsl.mp z];exact s0.free f2
 ·rintro ys' H' ⟨s6',ls,rfl,il,hll,hfr⟩ l' hl';have hmy:(mayS S ms).length=ms.length:=by unfold mayS;rw[zsg]
  rw[hts,<- hmy,zs0] at il;have s0:=s06.trans s6';exact h l' ls _ Zb (il.same (Ze hl')) (s0.trans (Ze hl')) (s0.free hl') hfr
abbrev Tj:Stmt:=Zz (top 55) 9
theorem M9:Zm ["self","number","grade","club"] ["self","number","grade","club"] (Zj Tj):=fnS
theorem Lb(F:Fun K "enrol" "Season.enrol" Tj f fd)(T:Tx K mg a)(zky:Zv P w K mg base a.zkc "check_undrawn" 4 ["self"] (Nt (ca a)))(zk7:Zv P w K mg base a.zkf "check_new" 2 ["self","number","grade","club"] (Pt (ca a)))(zkr:Zv P w K mg base a.zkc "check_room" 1 ["self"] (F7 (ca a)))(zla:Zv P w K mg base a.zkc "note" 1 ["self","word","number","at"] (F8 (ca a)))(zkj:Zv P w K mg base a.zkc "at_hand" 2 ["self"] (U7 (ca a)))(znv:Zv P w K mg base a.zkf "add" 3 ["self","number","grade","club"] (zdd (ca a))):FnOk P w K mg base (CX1 P w) 5 f fd ["self","number","grade","club"] (Au (ca a)):=by
 refine F.okX M9 ⋯ fun _ _ _ _ H _ Q E hr h=>?_;obtain⟨A',S,n,g,c0,rfl,SA,sm,hz,hz2,h⟩:=h;refine⟨_,(Zc (Z6 (Yk (pv 0) T.zkd zky (hr.mono ⋯) Zk))
 (Zc (Z6 (Xt (Zp (K:=K) rfl (pv 0) rfl) T.zk4 zk7 (hr.mono ⋯) Zk (Za (pv 1) (Za (pv 2) (Za (pv 3) Zd)))))
 (Zc (Z6 (Yk (pv 0) T.zkd zkr (hr.mono ⋯) Zk))
 (Zc (Z6 (Xt (pv 0) T.zkd zla (hr.mono ⋯) Zk (Za Zl (Za (pv 1) (Za (Yk (pv 0) T.zkd zkj (hr.mono ⋯) Zk) Zd)))))
 (Zf (Z6 (Xt (Zp (K:=K) rfl (pv 0) rfl) T.zk4 znv (hr.mono ⋯) Zk (Za (pv 1) (Za (pv 2) (Za (pv 3) Zd)))))))))),?_⟩
 obtain⟨⟨dx,v,a1,a2⟩,b,c,_⟩:=id SA;obtain⟨⟨dxr,kvr,hpr,hdr,en⟩,ndr⟩:=id b;refine⟨_,rfl,A'.p,dx,_,rfl,a1,Yo ⋯,A',S,rfl,SA,?_⟩;refine it2 h (fun _ z=>z) fun h1 h=>it2 h (fun _ z=>z) fun h2 h=>?_;refine⟨_,rfl,A'.p,a.zkc,dx,_,_,rfl,a1,T.zkd,T.zlk,Vf,A'.pr,dxr,_,rfl,hpr,Y4.no ⋯,_,rfl,_,rfl,_,rfl,A'.pr,A'.dr,S.ppl,n,g,c0,rfl,b,sm,?_⟩;refine it2 h (fun _ z=>z) fun h3 h=>it2 h (fun _ z=>z) fun h4 h=>it2 h (fun _ z=>z) fun h5 h=>?_;refine⟨_,rfl,A'.p,dx,_,rfl,a1,Yo ⋯,A',S,rfl,SA,?_⟩;refine it2 h (fun _ z=>z) fun h6 h=>?_;refine⟨_,rfl,A'.p,dx,_,rfl,a1,Yo ⋯,_,rfl,_,rfl,A'.p,dx,_,rfl,a1,Yo ⋯,A',S,rfl,SA,A',S,"enrol",n,atV S,rfl,SA,hz,fun H1 SA1 f1=>?_⟩;obtain⟨⟨dx1,v1,a11,a12⟩,b1,c1,_⟩:=id SA1;obtain⟨⟨dxr1,kvr1,hpr1,hdr1,en1⟩,ndr1⟩:=id b1;refine⟨_,rfl,A'.p,a.zkc,dx1,_,_,rfl,a11,T.zkd,T.zlk,Vf,A'.pr,dxr1,_,rfl,hpr1,Y4.no ⋯,_,rfl,_,rfl,_,rfl,A'.pr,A'.dr,S.ppl,n,g,c0,rfl,b1,sm,hz2,?_⟩;rw[if_neg h3,if_neg h4,if_neg h5];intro H2 R2 k2;obtain⟨SA2,f2⟩:=SA1.setRos R2 k2;exact h H2 SA2 (f1.trans f2)
abbrev Ub:Stmt:=Zz (top 55) 10
theorem T2:Zm ["self","matches","listed"] ["self","matches"] (Zj Ub):=fnS
theorem O5(F:Fun K "draw_up" "Season.draw_up" Ub f fd)(T:Tx K mg a)(zky:Zv P w K mg base a.zkc "check_undrawn" 4 ["self"] (Nt (ca a)))(zpc:Yh P w K mg base "checked" 3 ["matches"] (Kq K (ca a)))(zkr:Zv P w K mg base a.zkc "check_room" 1 ["self"] (F7 (ca a)))(zla:Zv P w K mg base a.zkc "note" 1 ["self","word","number","at"] (F8 (ca a)))(zkj:Zv P w K mg base a.zkc "at_hand" 2 ["self"] (U7 (ca a)))(znr:Yh P w K mg base "drawn_sheet" 4 ["listed","lists"] (Aq (ca a)))(zk8:Zv P w K mg base a.zkc "takers_of" 5 ["self","listed"] (Py (ca a)))(zly:Zv P w K mg base a.zkg "goes" 1 ["self"] (Kn (ca a))):FnOk P w K mg base (CX1 P w) 6 f fd ["self","matches"] (D8 K (ca a)):=by
 refine F.okX T2 ⋯ fun _ _ _ _ H _ Q E hr h=>?_;obtain⟨A',S,b,ts,ms,rfl,SA,hs,tl,sm,hml,hz,po,h⟩:=h;refine⟨_,(Zc (Z6 (Yk (pv 0) T.zkd zky (hr.mono ⋯) Zk))
 (Zc (pS 2 T2.nd (pF zpc hr (Za (pv 1) Zd)))
 (Zc (Z6 (Yk (pv 0) T.zkd zkr (hr.mono ⋯) Zk))
 (Zc (Z6 (Xt (pv 0) T.zkd zla (hr.mono ⋯) Zk (Za Zl (Za (Zq (cL K) (by rfl) T.zli PySem.boot_len (Za (pv 2) Zd)) (Za (Yk (pv 0) T.zkd zkj (hr.mono ⋯) Zk) Zd)))))
 (Zc (Yx (K:=K) rfl (pv 0) (pF znr hr (Za (pv 2) (Za (Xt (pv 0) T.zkd zk8 (hr.mono ⋯) Zk (Za (pv 2) Zd)) Zd))) rfl)
 (Zf (Zo (Yk (Zp (K:=K) rfl (pv 0) rfl) T.zk1 zly (hr.mono ⋯) Zk)))))))),?_⟩
 obtain⟨⟨dx,v,a1,a2⟩,br,cl,_⟩:=id SA;have hts:ts.length=ms.length:=by rw[tl.length,zsg]
 refine⟨_,rfl,A'.p,dx,_,rfl,a1,Yo ⋯,A',S,rfl,SA,?_⟩;refine it2 h (fun _ z=>z) fun h1 h=>it2 h (fun _ z=>z) fun h2 h=>?_;refine⟨_,rfl,b,ts,ms,rfl,hs,tl,sm,hml,h.1,h.2.1,h.2.2.1,fun g1 g2 g3 l1 hl1=>?_⟩;have h4:=h.2.2.2 g1 g2 g3;have s1:=Ze (o:=.lst ts) hl1;have q1:upd H l1 (.lst ts) l1=some (.lst ts):=Zb;generalize upd H l1 (.lst ts)=H1 at s1 q1;have SA1:=SA.same s1;have a11:=s1 _ _ a1;refine⟨_,rfl,A'.p,dx,_,rfl,a11,Yo ⋯,A',S,rfl,SA1,?_⟩;refine E5 (fun z=>h4.1 z H1 s1) (fun hroom=>?_);refine⟨_,rfl,A'.p,dx,_,rfl,a11,Yo ⋯,_,rfl,l1,_,rfl,.inl (SqL.of q1),_,rfl,A'.p,dx,_,rfl,a11,Yo ⋯,A',S,rfl,SA1,A',S,"draw up",(ts.length:Nat),atV S,rfl,SA1,hz,fun H2 SA2 f2=>?_⟩;rw[hts] at SA2;have ok1:l1∉A'.fp:=SA.newOk l1 hl1;have q12:=f2 _ _ q1 ok1;have tl2:=(tl.same s1).mono (SA1.tups f2);obtain⟨⟨dx2,v2,a21,a22⟩,br2,_⟩:=id SA2;refine⟨_,rfl,_,rfl,A'.p,dx2,_,rfl,a21,Yo ⋯,_,rfl,A',_,l1,ts,ms,rfl,SA2,q12,tl2,by omega,zs3 po.2 ⋯,po.small,fun l2 ls H3 h3 il3 s3 f3 fl3=>?_⟩;have SA3:=SA2.same s3;have mo:Mm (mayS S ms) (S.ppl.map (·.1)):=po.may br2.nd g1;refine⟨(·∉A'.fp),l1,l2,ts,ls,ms,mayS S ms,_,rfl,s3 _ _ q12,tl2.same s3,h3,il3,ok1,SA2.newOk l2 f3,fun x hx=>SA2.newOk x (fl3 x hx),SA3.newOk,mo,fun q gv H4 ShA FP SP s4 fq=>?_⟩;have SA4:=SA3.same s4;obtain⟨⟨dx4,v4,a41,a42⟩,_⟩:=id SA4;refine⟨_,rfl,A'.p,a.zkc,dx4,_,rfl,a41,T.zkd,T.zlb,(by show 8<1000;decide),?_⟩;obtain⟨SA5,f5,Sh5⟩:=SA4.newSheet a41 ShA;generalize upd H4 A'.p (.ins a.zkc dx4 (putF "sheet" (.ref q) (seaF A' S.len S.rest v4)))=H5 at SA5 f5 Sh5;obtain⟨⟨dx5,v5,a51,a52⟩,_⟩:=id SA5;obtain⟨q',rfl,Sq⟩:=a52;obtain⟨dxq,m1,m2,m3,m4,hq'⟩:=ShAt.ins Sq;refine⟨_,rfl,A'.p,a.zkc,dx5,_,_,rfl,a51,T.zkd,T.zlb,We,q',dxq,_,rfl,hq',Rh ⋯ ⋯ ⋯ ⋯,(·∉A'.fp),q',_,rfl,Sq,fun l H6 hl s6 fl=>?_⟩;have fr5:FrS A' H H5:=(FrS.of A' s1).trans (f2.trans ((FrS.of A' (s3.trans s4)).trans f5));exact h4.2 ⋯ l gv H6 hl (SA5.same s6) FP SP (fr5.trans (FrS.of A' s6)) (fr5.free SA5 fl)
abbrev Si:Stmt:=Zz (top 55) 11
theorem Je:Zm ["self","at","number"] ["self","at","number"] (Zj Si):=fnS
theorem Jf(F:Fun K "away" "Season.away" Si f fd)(T:Tx K mg a)(zk3:Zv P w K mg base a.zkc "check_round" 1 ["self","at"] (F6 (ca a)))(zkq:Zv P w K mg base a.zke "over" 1 ["self"] (Nm a.zke))(zk2:Zv P w K mg base a.zkf "check_known" 1 ["self","number"] (Rg (ca a)))(zkr:Zv P w K mg base a.zkc "check_room" 1 ["self"] (F7 (ca a)))(zla:Zv P w K mg base a.zkc "note" 1 ["self","word","number","at"] (F8 (ca a)))(zkj:Zv P w K mg base a.zkc "at_hand" 2 ["self"] (U7 (ca a)))(zmf:Zv P w K mg base a.zkc "step_in" 6 ["self","number"] (D9 (ca a))):FnOk P w K mg base (CX1 P w) 7 f fd ["self","at","number"] (zdg (ca a)):=by
 refine F.okX Je ⋯ fun _ _ _ _ H _ Q E hr h=>?_;obtain⟨A',S,i,n,rfl,SA,si,sn,hz,hoz,po,hcur,h⟩:=h;have hu:=Wu hr;refine⟨_,(Zc (Z6 (Xt (pv 0) T.zkd zk3 (hr.mono ⋯) Zk (Za (pv 1) Zd)))
 (Zc (Z1 (Zn zbw (pv 1) (Yk (Zp (K:=K) rfl (pv 0) rfl) T.zld zkq (hr.mono ⋯) Zk) (Zr _))
  (Zf (Y8 Y7 rfl T.zqb rfl (Za (Vl (Zx (Xo ⋯) (Zx (W4 (pv 1)) (Zx (Xo ⋯) Vk))) ⋯) Zd)))
  Zs)
 (Zc (Z6 (Xt (Zp (K:=K) rfl (pv 0) rfl) T.zk4 zk2 (hr.mono ⋯) Zk (Za (pv 2) Zd)))
 (Zc (Z1 (Ph (Fh hu (Z2 (Za (pv 1) (Za (pv 2) Zd))) (Zp (K:=K) rfl (pv 0) rfl)))
  (Zf (Y8 Y7 rfl T.zp4 rfl (Za (Vl (Zx (Xo ⋯) (Zx (W4 (pv 2)) (Zx (Xo ⋯) (Zx (W4 (pv 1)) (Zx (Xo ⋯) Vk))))) ⋯) Zd)))
  Zs)
 (Zc (Z6 (Yk (pv 0) T.zkd zkr (hr.mono ⋯) Zk))
 (Zc (Z6 (Xt (pv 0) T.zkd zla (hr.mono ⋯) Zk (Za Zl (Za (pv 2) (Za (pv 1) Zd)))))
 (Zc (Wl hu (Zp (K:=K) rfl (pv 0) rfl) (Z2 (Za (pv 1) (Za (pv 2) Zd))) Vd rfl)
 (Zc (Z1 (PW.pt (V1 (Zn Tu (pv 1) (Yk (pv 0) T.zkd zkj (hr.mono ⋯) Zk) (Zr _)) (W3 (Zn L6 (Zp (K:=K) rfl (pv 0) rfl) X1 (Zr _)))))
  (Zf (Zo (Z5 Zd)))
  Zs)
 (Zf (Zo (Xt (pv 0) T.zkd zmf (hr.mono ⋯) Zk (Za (pv 2) Zd)))))))))))),?_⟩
 show let y1:TS:=_;let y2:TS:=Z0 _ y1;let y3:TS:=Z0 _ y2;let y4:TS:=Z0 _ y3;let y5:TS:=Z0 _ y4;let y6:TS:=Z0 _ y5;let y7:TS:=Z0 _ y6;let y8:TS:=Z0 _ y7;Z0 _ y8 _ _ _;intro y1 y2 y3 y4 y5 y6 y7 y8;obtain⟨⟨dx,v,a1,a2⟩,br,cl,⟨kvs,d1,d2⟩,_⟩:=id SA;obtain⟨⟨dxl,hpl⟩,_⟩:=id cl;obtain⟨⟨dxr,kvr,hpr,hdr,en⟩,ndr⟩:=id br;refine⟨_,rfl,A'.p,dx,_,rfl,a1,Yo ⋯,_,rfl,A',S,i,rfl,SA,si,?_⟩;refine it2 h (fun _ z=>z) fun h1 h=>?_;refine⟨_,rfl,_,rfl,A'.p,a.zkc,dx,_,_,rfl,a1,T.zkd,T.zls,U3,A'.pl,dxl,_,rfl,hpl,Kj ⋯ ⋯,A'.pl,A'.lr,A'.ld,S.led,rfl,cl,_,_,rfl,rfl,_,rfl,?_⟩;refine itD (fun hc=>?_) (fun hc=>?_)
 ·rw[if_pos hc] at h;exact⟨_,rfl,.inl ⟨_,rfl,si⟩,fun z=>⟨sz1,h⟩⟩
 rw[if_neg hc] at h;refine Zu ?_;refine⟨_,rfl,A'.p,a.zkc,dx,_,_,rfl,a1,T.zkd,T.zlk,Vf,A'.pr,dxr,_,rfl,hpr,Y4.no ⋯,_,rfl,A'.pr,A'.dr,S.ppl,n,rfl,br,sn,?_⟩;refine it2 h (fun hk h=>?_) (fun _ z=>z);refine⟨_,rfl,_,rfl,sz2,fun t ht=>?_⟩;have s1:=Ze (o:=.tup [.int i,.int n]) ht;have q1:upd H t (.tup [.int i,.int n]) t=some (.tup (([inl i,inl n]:List Key).map kV)):=Zb;generalize upd H t (.tup [.int i,.int n])=H1 at s1 q1;have SA1:=SA.same s1;have a11:=s1 _ _ a1;refine⟨_,rfl,A'.p,a.zkc,dx,_,_,rfl,a11,T.zkd,T.zmc,Qz,A'.da,_,rfl,DGet.t (k:=[inl i,inl n]) (s1 _ _ d1) q1,_,rfl,?_⟩;rw[d2.isSome];refine itD (fun hm=>?_) (fun hm=>?_)
 ·rw[if_pos hm] at h;exact⟨_,rfl,.inl ⟨_,rfl,sn⟩,_,rfl,.inl ⟨_,rfl,si⟩,fun z=>⟨sz1,h H1 s1⟩⟩
 rw[if_neg hm] at h;refine Zu ?_;refine⟨_,rfl,A'.p,dx,_,rfl,a11,Yo ⋯,A',S,rfl,SA1,?_⟩;refine it2 h (fun _ z=>z H1 s1) fun h6 h=>?_;refine⟨_,rfl,A'.p,dx,_,rfl,a11,Yo ⋯,_,rfl,_,rfl,A',S,"away",n,i,rfl,SA1,hz,fun H2 SA2 f2=>?_⟩;obtain⟨⟨dx2,v2,a21,a22⟩,br2,cl2,⟨kvs2,d21,d22⟩,_⟩:=id SA2;refine⟨_,rfl,A'.p,a.zkc,dx2,_,_,rfl,a21,T.zkd,T.zmc,Qz,_,rfl,_,rfl,sz2,fun t2 ht2=>?_⟩;have s3:=Ze (o:=.tup [.int i,.int n]) ht2;have q3:upd H2 t2 (.tup [.int i,.int n]) t2=some (.tup (([inl i,inl n]:List Key).map kV)):=Zb;generalize upd H2 t2 (.tup [.int i,.int n])=H3 at s3 q3;have SA3:=SA2.same s3;refine⟨A'.da,_,rfl,DPut.t (k:=[inl i,inl n]) (s3 _ _ d21) q3 (by have:=d22.2;have h9:kvs2.length<=S.out.length:=this;have:=Sv;omega),?_⟩;obtain⟨SA4,f4⟩:=SA3.setOut (out:=S.out++[(i,n)]) Zb (d22.put i n) (fun b o e hb=>by rw[Zi hb];exact e);generalize upd H3 A'.da (.dT (putK kvs2 [inl i,inl n] (.bl true)))=H4 at SA4 f4;have SA4:Zw (ca a) H4 A' (Xe S i n):=SA4;have fr4:FrS A' H H4:=(FrS.of A' s1).trans (f2.trans ((FrS.of A' s3).trans f4));obtain⟨⟨dx4,v4,a41,a42⟩,br4,_⟩:=id SA4;have empty:(S.cur=none\/atV S<i)->∀ l,H4 l=none->Q (.ref l) (upd H4 l (.lst [])):=fun hz l hl=>h.1 hz l _ Zb (SA4.same (Ze hl)) (fr4.trans (FrS.of A' (Ze hl))) (fr4.free SA4 hl);refine⟨_,rfl,_,rfl,A'.p,dx4,_,rfl,a41,Yo ⋯,A',_,rfl,SA4,_,_,rfl,rfl,_,rfl,?_⟩;refine itD (fun hgt=>?_) (fun hle=>?_)
 ·refine iteT ?_;exact⟨by show 0<=sizeLine;decide,fun l hl=>empty (.inr hgt) l hl⟩
 have hat:i=atV S:=by
  have hle:¬ (atV S<i):=hle;unfold atV at hle ⊢;omega
 refine⟨_,rfl,A'.p,a.zkc,dx4,_,_,rfl,a41,T.zkd,T.zlb,We,rfl,_,rfl,?_⟩;cases hc4:S.cur with
 | none =>
   have e4:v4=.non:=by
    have:ShO a.zkg (·∉A'.fp) H4 v4 S.cur:=a42;rw[hc4] at this;exact this
   rw[e4];refine iteT ?_;exact⟨by show 0<=sizeLine;decide,fun l hl=>empty (.inl hc4) l hl⟩
 | some s =>
   have e4:∃ q,v4=.ref q:=by
    have:ShO a.zkg (·∉A'.fp) H4 v4 S.cur:=a42;rw[hc4] at this;obtain⟨q,e,_⟩:=this;exact⟨q,e⟩
   obtain⟨q4,rfl⟩:=e4;refine iteF (Zu ?_);obtain⟨hm20,FP,emay,hgz⟩:=hcur s hc4;have po4:Qd (Xe S i n):=po;have hgl:s.gv.length<=100:=by rw[FP.len,emay];unfold mayS;rw[zsg];omega
   refine⟨_,rfl,A'.p,dx4,_,rfl,a41,Yo ⋯,_,rfl,A',Xe S i n,n,s,(Xe S i n).ppl.map (·.1),rfl,SA4,hc4,po4,hm20,FP.one,hgl,hgz,po4.may br4.nd hm20,fun hp l H5 hl SA5 f5 fl=>?_,fun p hp=>?_⟩
   ·exact h.2.1 s hat hc4 hp l H5 hl SA5 (fr4.trans f5) (fr4.free SA4 fl)
   ·have hgp:=P0 hp;refine⟨hgp,fun j hj=>FP.inj j p n hj hgp,?_,fun l us st e w' H5 hl tl CR SA5 f5 fl=>?_⟩
    ·rw[hat,U8,<- emay];exact U0 FP hgp
    ·exact h.2.2 s p hat hc4 hp l us st e w' H5 hl tl CR SA5 (fr4.trans f5) (fr4.free SA4 fl)
abbrev Uc:Stmt:=Zz (top 55) 12
theorem Vv:Zm ["self","number","lists","fallen"] ["self","number"] (Zj Uc):=fnS
theorem O6(F:Fun K "step_in" "Season.step_in" Uc f fd)(T:Tx K mg a)(zk8:Zv P w K mg base a.zkc "takers_of" 5 ["self","listed"] (Py (ca a)))(zmu:Zv P w K mg base a.zkg "matches" 1 ["self"] (Mo (ca a)))(zlo:Zv P w K mg base a.zkg "where" 2 ["self","number"] (Nq (ca a)))(znd:Zv P w K mg base a.zkg "barred" 3 ["self","lists"] (Dx (ca a)))(zl4:Zv P w K mg base a.zkg "fallen_out" 3 ["self","number","lists"] (Dy (ca a)))(zm8:Zv P w K mg base a.zkg "chains" 1 ["self"] (Ko (ca a))):FnOk P w K mg base (CX1 P w) 6 f fd ["self","number"] (D9 (ca a)):=by
 refine F.okX Vv ⋯ fun _ _ _ _ H _ Q E hr h=>?_;obtain⟨A',S,n,s,nu,rfl,SA,hc,po,hml,ho,hgl,hgz,mo,h1,h2⟩:=h;refine⟨_,(Zc (pS 2 Vv.nd (Xt (pv 0) T.zkd zk8 (hr.mono ⋯) Zk (Za (Yk (Zp (K:=K) rfl (pv 0) rfl) T.zk1 zmu (hr.mono ⋯) Zk) Zd)))
 (Zc (Z1 (Zn L6 (Xt (Zp (K:=K) rfl (pv 0) rfl) T.zk1 zlo (hr.mono ⋯) Zk (Za (pv 1) Zd)) X1 (Zr _))
  (Zc (Yx (K:=K) rfl (pv 0) (Xt (Zp (K:=K) rfl (pv 0) rfl) T.zk1 znd (hr.mono ⋯) Zk (Za (pv 2) Zd)) rfl)
  (Zf (Zo (Z5 Zd))))
  Zs)
 (Zc (Yx (K:=K) rfl (pv 0) (Xt (Zp (K:=K) rfl (pv 0) rfl) T.zk1 zl4 (hr.mono ⋯) Zk (Za (pv 1) (Za (pv 2) Zd))) rfl)
 (Zc (pS 3 Vv.nd (Yk (Zp (K:=K) rfl (pv 0) rfl) T.zk1 zm8 (hr.mono ⋯) Zk))
 (Zf (Zo (pI (iU K) (pI (iL K) (pv 3) (Er Lz Zg)) Zg))))))),?_⟩
 obtain⟨⟨dx,v,a1,a2⟩,br,cl,_⟩:=id SA;rw[hc] at a2;obtain⟨q,rfl,Sq⟩:=a2;obtain⟨dxq,m1,m2,m3,m4,hq⟩:=ShAt.ins Sq;refine⟨_,rfl,A'.p,dx,_,rfl,a1,Yo ⋯,_,rfl,A'.p,a.zkc,dx,_,_,rfl,a1,T.zkd,T.zlb,We,q,dxq,_,rfl,hq,Rh ⋯ ⋯ ⋯ ⋯,(·∉A'.fp),q,s,rfl,Sq,fun l1 ts H1 hl1 tl s1 f1=>?_⟩;have SA1:=SA.same s1;refine⟨A',S,l1,ts,s.ms,rfl,SA1,hl1,tl,by omega,zs3 po.2 ⋯,po.small,fun l2 ls H2 h3 il3 s2 f3 fl3=>?_⟩;have s12:=s1.trans s2;have SA2:=SA1.same s2;have Sq2:=Sq.same s12;refine⟨_,rfl,A'.p,a.zkc,dx,_,_,rfl,s12 _ _ a1,T.zkd,T.zlb,We,q,dxq,_,rfl,s12 _ _ hq,Rh ⋯ ⋯ ⋯ ⋯,_,rfl,(·∉A'.fp),q,s,n,rfl,Sq2,ho,hgl,fun H3 s3=>?_⟩;have s13:=s12.trans s3;have SA3:=SA2.same s3;have Sq3:=Sq2.same s3;have il4:=il3.same s3;refine⟨rfl,_,rfl,?_⟩;cases hp:X9 s.gv n with
 | none =>
   refine iteT ?_;refine⟨_,rfl,A'.p,a.zkc,dx,_,_,rfl,s13 _ _ a1,T.zkd,T.zlb,We,q,dxq,_,rfl,s13 _ _ hq,Rh ⋯ ⋯ ⋯ ⋯,_,rfl,(·∉A'.fp),q,l2,ls,mayS S s.ms,s,rfl,Sq3,s3 _ _ h3,il4,SA1.newOk l2 f3,fun x hx=>SA1.newOk x (fl3 x hx),SA3.newOk,fun q' H4 ShA s4 fq=>?_⟩;have SA4:=SA3.same s4;obtain⟨⟨dx4,v4,a41,a42⟩,_⟩:=id SA4;refine⟨_,rfl,A'.p,a.zkc,dx4,_,rfl,a41,T.zkd,T.zlb,(by show 8<1000;decide),?_⟩;obtain⟨SA5,f5,Sh5⟩:=SA4.newSheet a41 ShA;generalize upd H4 A'.p (.ins a.zkc dx4 (putF "sheet" (.ref q') (seaF A' S.len S.rest v4)))=H5 at SA5 f5 Sh5;have fr5:FrS A' H H5:=(FrS.of A' (s13.trans s4)).trans f5;refine⟨by show 0<=sizeLine;decide,fun l hl=>?_⟩;exact h1 hp l _ Zb (SA5.same (Ze hl)) (fr5.trans (FrS.of A' (Ze hl))) (fr5.free SA5 hl)
 | some p =>
   refine iteF (Zu ?_);obtain⟨hgp,hun,FP,h3'⟩:=h2 p hp;refine⟨_,rfl,A'.p,a.zkc,dx,_,_,rfl,s13 _ _ a1,T.zkd,T.zlb,We,q,dxq,_,rfl,s13 _ _ hq,Rh ⋯ ⋯ ⋯ ⋯,_,rfl,_,rfl,(·∉A'.fp),q,l2,ls,mayS S s.ms,nu,s,n,p,rfl,Sq3,s3 _ _ h3,il4,SA1.newOk l2 f3,fun x hx=>SA1.newOk x (fl3 x hx),SA3.newOk,mo,ho,hgp,hun,FP,by omega,fun q' st e w' H4 ShA CR s4 fq=>?_⟩;have SA4:=SA3.same s4;obtain⟨⟨dx4,v4,a41,a42⟩,_⟩:=id SA4;refine⟨_,rfl,A'.p,a.zkc,dx4,_,rfl,a41,T.zkd,T.zlb,(by show 8<1000;decide),?_⟩;obtain⟨SA5,f5,Sh5⟩:=SA4.newSheet a41 ShA;generalize upd H4 A'.p (.ins a.zkc dx4 (putF "sheet" (.ref q') (seaF A' S.len S.rest v4)))=H5 at SA5 f5 Sh5;have fr5:FrS A' H H5:=(FrS.of A' (s13.trans s4)).trans f5;obtain⟨⟨dx5,v5,a51,a52⟩,_⟩:=id SA5;obtain⟨q5,rfl,Sq5⟩:=a52;obtain⟨dxq5,m51,m52,m53,m54,hq5⟩:=ShAt.ins Sq5;refine⟨_,rfl,A'.p,a.zkc,dx5,_,_,rfl,a51,T.zkd,T.zlb,We,q5,dxq5,_,rfl,hq5,Rh ⋯ ⋯ ⋯ ⋯,(·∉A'.fp),q5,_,rfl,Sq5,by show (s.gaps++[(n,st)]).length<=1000;rw[zsh];show s.gaps.length+1<=1000;omega,fun l us H6 hl gl s6 fl=>?_⟩;obtain⟨vs',t,l',us',rfl,ht,hl',tl',ok',_⟩:=W7.unsnoc gl;refine⟨_,rfl,_,rfl,l,_,_,_,rfl,rfl,SqL.of hl,atI_last,t,_,_,_,rfl,rfl,SqT.of ht,rfl,?_⟩;exact h3' l' us' st e w' H6 hl' tl' CR (SA5.same s6) (fr5.trans (FrS.of A' s6)) (fr5.free SA5 ok')
abbrev Tn:Stmt:=Zz (top 55) 13
theorem Rw:Zm ["self","sheet"] ["self"] (Zj Tn):=fnS
theorem Lc(F:Fun K "close" "Season.close" Tn f fd)(T:Tx K mg a)(zkx:Zv P w K mg base a.zkc "check_not_over" 3 ["self"] (Nr (ca a)))(zkz:Zv P w K mg base a.zkc "sheet_at_hand" 1 ["self"] (Px (ca a)))(znb:Zv P w K mg base a.zke "write" 1 ["self","rows"] (Dw a.zke))(znw:Zv P w K mg base a.zkg "rows" 1 ["self"] (D1 (ca a)))(zkq:Zv P w K mg base a.zke "over" 1 ["self"] (Nm a.zke)):FnOk P w K mg base (CX1 P w) 4 f fd ["self"] (Av (ca a)):=by
 refine F.okX Rw ⋯ fun _ _ _ _ H _ Q E hr h=>?_;obtain⟨A',S,rfl,SA,ht,hl,hol,hcur,h⟩:=h;refine⟨_,(Zc (Z6 (Yk (pv 0) T.zkd zkx (hr.mono ⋯) Zk))
 (Zc (pS 1 Rw.nd (Yk (pv 0) T.zkd zkz (hr.mono ⋯) Zk))
 (Zc (Z6 (Xt (Zp (K:=K) rfl (pv 0) rfl) T.zld znb (hr.mono ⋯) Zk (Za (Yk (pv 1) T.zk1 znw (hr.mono ⋯) Zk) Zd)))
 (Zc (Yt (Zp (K:=K) rfl (pv 0) rfl) (pv 1))
 (Zc (Yx (K:=K) rfl (pv 0) X1 rfl)
 (Zc (Yx (K:=K) rfl (pv 0) (Z5 Zd) rfl)
 (Zf (Zo (Yk (Zp (K:=K) rfl (pv 0) rfl) T.zld zkq (hr.mono ⋯) Zk))))))))),?_⟩
 obtain⟨⟨dx,v,a1,a2⟩,br,cl,_⟩:=id SA;obtain⟨⟨dxl,hpl⟩,_⟩:=id cl;refine⟨_,rfl,A'.p,dx,_,rfl,a1,Yo ⋯,A',S,rfl,SA,?_⟩;refine it2 h (fun _ z=>z) fun h1 h=>?_;refine⟨_,rfl,A'.p,dx,_,rfl,a1,Yo ⋯,A',S,rfl,SA,h.1,fun s q hc Sq=>?_⟩;obtain⟨ho,hgl,hml⟩:=hcur s hc;obtain⟨dxq,m1,m2,m3,m4,hq⟩:=ShAt.ins Sq;refine⟨_,rfl,A'.p,a.zkc,dx,_,_,rfl,a1,T.zkd,T.zls,U3,A'.pl,dxl,_,rfl,hpl,Kj ⋯ ⋯,_,rfl,q,dxq,_,rfl,hq,Rh ⋯ ⋯ ⋯ ⋯,(·∉A'.fp),q,s,rfl,Sq,ho,hgl,hml,fun l1 ts H1 hl1 tl s1 f1=>?_⟩;have SA1:=SA.same s1;have ok1:l1∉A'.fp:=SA.newOk l1 f1;refine⟨A'.pl,A'.lr,A'.ld,S.led,l1,ts,Wd s,rfl,SA1.led,hl1,fun z=>ok1 (by rw[z];simp[SAd.fp]),tl,by rw[D2 hgl];omega,hl,fun H2 L2' k2=>?_⟩;obtain⟨SA2,f2⟩:=SA1.setLed L2' k2;obtain⟨⟨dx2,v2,a21,a22⟩,br2,cl2,d2,⟨vs,f21,f22⟩,_⟩:=id SA2;have Sq2:=(Sq.same s1).keep (fun x o hx e=>f2 x o e hx) (SA1.tups f2);refine⟨_,rfl,A'.p,a.zkc,dx2,_,_,rfl,a21,T.zkd,T.zm1,Gw,A'.ls,vs,rfl,f21,_,rfl,vs,f21,by have:=f22.length;have h9:vs.length=S.old.length:=this;have:=Sv;omega,?_⟩;have k3:∀ b o,H2 b=some o->b≠A'.ls->upd H2 A'.ls (.lst (vs++[.ref q])) b=some o:=fun b o e hb=>by rw[Zi hb];exact e
 have kt3:∀ t xs,H2 t=some (.tup xs)->upd H2 A'.ls (.lst (vs++[.ref q])) t=some (.tup xs):=fun t xs e=>k3 t _ e (Ye e f21 (fun z=>nomatch z));have ko3:∀ x o,x∉A'.fp->H2 x=some o->upd H2 A'.ls (.lst (vs++[.ref q])) x=some o:=fun x o hx e=>k3 x o e fun z=>hx (by rw[z];simp[SAd.fp]);obtain⟨SA3,f3⟩:=SA2.setOld (old:=S.old++[s]) Zb ((f22.keep ko3 kt3).snoc (Sq2.keep ko3 kt3)) k3;generalize upd H2 A'.ls (.lst (vs++[.ref q]))=H3 at SA3 f3;obtain⟨⟨dx3,v3,a31,a32⟩,_⟩:=id SA3;refine⟨_,rfl,A'.p,a.zkc,dx3,_,rfl,a31,T.zkd,T.zlb,(by show 8<1000;decide),?_⟩;obtain⟨SA4,f4⟩:=SA3.setCur (H':=upd H3 A'.p (.ins a.zkc dx3 (putF "sheet" .non (seaF A' S.len S.rest v3)))) (cur:=none) (v:=.non) ⟨dx3,by rw[Zb];exact congrArg (fun x=>some (HO.ins a.zkc dx3 x)) Pz⟩ rfl (fun b o e hb=>by rw[Zi hb];exact e);generalize upd H3 A'.p (.ins a.zkc dx3 (putF "sheet" .non (seaF A' S.len S.rest v3)))=H4 at SA4 f4;obtain⟨⟨dx4,v4,a41,a42⟩,_⟩:=id SA4;refine⟨by show 0<=sizeLine;decide,fun x hx=>?_⟩;have npx:A'.p≠x:=Zh a41 hx;refine⟨_,rfl,A'.p,a.zkc,dx4,_,rfl,(by rw[Zi npx];exact a41),T.zkd,T.zle,(by show 8<1000;decide),?_⟩;obtain⟨SA5,f5⟩:=SA4.freshStd hx a41 a42 rfl;have fr4:FrS A' H H4:=(FrS.of A' s1).trans (f2.trans (f3.trans f4));have fx:H x=none:=fr4.free SA4 hx;generalize upd (upd H4 x (.lst [])) A'.p (.ins a.zkc dx4 (putF "standing" (.ref x) (seaF A' S.len S.rest v4)))=H5 at SA5 f5;have SA5:Zw (ca a) H5 { A' with lt:=x } (Ea S s):=SA5;obtain⟨⟨dx5,v5,a51,a52⟩,br5,cl5,_⟩:=id SA5;obtain⟨⟨dxl5,hpl5⟩,_⟩:=id cl5;refine⟨_,rfl,A'.p,a.zkc,dx5,_,_,rfl,a51,T.zkd,T.zls,U3,A'.pl,dxl5,_,rfl,hpl5,Kj ⋯ ⋯,A'.pl,A'.lr,A'.ld,S.led++[Wd s],rfl,cl5,?_⟩;have hfin:=h.2 s x H5 hc SA5 (fr4.trans f5) fx;have e:(((S.led++[Wd s]).length:Nat):Int)=atV S:=by rw[zsh];rfl
 rw[e];exact hfin
abbrev Vb:Stmt:=Zz (top 55) 14
theorem Ws:Zm ["self","last","deed"] ["self"] (Zj Vb):=fnS
theorem Pb(F:Fun K "take_back" "Season.take_back" Vb f fd)(T:Tx K mg a)(zms:Zv P w K mg base a.zkf "strike" 1 ["self","number"] (Dq (ca a))):FnOk P w K mg base (CX1 P w) 2 f fd ["self"] (Ks (ca a)):=by
 refine F.okX Ws ⋯ fun _ _ _ _ H _ Q E hr h=>?_;obtain⟨A',S,rfl,SA,h1,h2⟩:=h;have hu:=Wu hr;refine⟨_,(Zc (Z1 (V6 (Gi (K:=K) rfl (Zp (K:=K) rfl (pv 0) rfl) (fun _=>rfl)))
  (Zf (Y8 Y7 rfl T.zoa rfl (Za Zl Zd)))
  Zs)
 (Zc (pS 1 Ws.nd (Bd PySem.F.plainAttrs_list PySem.F.slot_list_pop PySem.F.type_list_pop zce (Zp (K:=K) rfl (pv 0) rfl)))
 (Zc (pS 2 Ws.nd (pI (iU K) (pv 1) Zg))
 (Zc (Yx (K:=K) rfl (pv 0) (pI (iU K) (pv 1) Zg) rfl)
 (Zc (Z1 (Zn Y6 (pI (iU K) (pv 2) Zg) Zl (Zr _))
  (Zf (Z6 (Xt (Zp (K:=K) rfl (pv 0) rfl) T.zk4 zms (hr.mono ⋯) Zk (Za (pI (iU K) (pv 2) Zg) Zd))))
  Zs)
 (Zc (Z1 (Zn Y6 (pI (iU K) (pv 2) Zg) Zl (Zr _))
  (Zf (Z6 (zdc hu (Zp (K:=K) rfl (pv 0) rfl) (Z2 (Za (pI (iU K) (pv 2) Zg) (Za (pI (iU K) (pv 2) Zg) Zd))) ⟨rfl,rfl,rfl,rfl⟩)))
  Zs)
 (Zf (Zo (pv 2))))))))),?_⟩
 show let y1:TS:=_;let y2:TS:=Z0 _ y1;let y3:TS:=Z0 _ y2;let y4:TS:=Z0 _ y3;let y5:TS:=Z0 _ y4;let y6:TS:=Z0 _ y5;Z0 _ y6 _ _ _;intro y1 y2 y3 y4 y5 y6;obtain⟨⟨dx,v,a1,a2⟩,br,cl,d0,f0,⟨us,g1,g2⟩,_⟩:=id SA;refine⟨_,rfl,A'.p,a.zkc,dx,_,_,rfl,a1,T.zkd,T.zle,Um,_,.inl ⟨_,SqL.of g1,rfl⟩,?_⟩;have hul:=g2.length;rcases List.eq_nil_or_concat S.std with hn|⟨std',⟨d,s⟩,he⟩
 ·rw[hn] at hul;have hu0:us=[]:=List.length_eq_zero_iff.mp hul;rw[hu0];exact iteT ⟨sz1,h1 hn⟩
 have he:S.std=std'++[(d,s)]:=by rw[he,List.concat_eq_append]
 rw[he] at g2;obtain⟨vs',t,u,v',rfl,ht,hu',hs,g3⟩:=Ul.unsnoc g2;have hne:(vs'++[V.ref t]).isEmpty=false:=by cases vs'<;>rfl
 rw[hne];refine iteF (Zu ?_);obtain⟨ppl,out,hbk,hfin⟩:=h2 std' d s he;refine⟨_,rfl,A'.p,a.zkc,dx,_,_,rfl,a1,T.zkd,T.zle,Um,.inl ⟨rfl,_,SqL.of g1⟩,A'.lt,_,V.ref t,rfl,rfl,g1,by simp,?_⟩;rw[List.dropLast_concat];have k1:∀ b o,H b=some o->b≠A'.lt->upd H A'.lt (.lst vs') b=some o:=fun b o e hb=>by rw[Zi hb];exact e
 have kt1:∀ t xs,H t=some (.tup xs)->upd H A'.lt (.lst vs') t=some (.tup xs):=fun t xs e=>k1 t _ e (Ye e g1 (fun z=>nomatch z));have ko1:∀ x o,x∉A'.fp->H x=some o->upd H A'.lt (.lst vs') x=some o:=fun x o hx e=>k1 x o e fun z=>hx (by rw[z];simp[SAd.fp]);obtain⟨SA1,f1⟩:=SA.setStd (std:=std') Zb (g3.keep ko1 kt1) k1;have ht1:=kt1 _ _ ht;have hu1:=kt1 _ _ hu';have hs1:=hs.keep ko1 kt1;generalize upd H A'.lt (.lst vs')=H1 at SA1 f1 ht1 hu1 hs1;refine⟨_,rfl,t,_,_,_,rfl,rfl,SqT.of ht1,rfl,?_⟩;obtain⟨⟨dx1,v1,a11,a12⟩,_⟩:=id SA1;refine⟨_,rfl,t,_,_,_,rfl,rfl,SqT.of ht1,rfl,_,rfl,A'.p,a.zkc,dx1,_,rfl,a11,T.zkd,T.zlb,(by show 8<1000;decide),?_⟩;have k2:∀ b o,H1 b=some o->b≠A'.p->upd H1 A'.p (.ins a.zkc dx1 (putF "sheet" v' (seaF A' S.len S.rest v1))) b=some o:=fun b o e hb=>by rw[Zi hb];exact e
 have kt2:∀ t xs,H1 t=some (.tup xs)->upd H1 A'.p (.ins a.zkc dx1 (putF "sheet" v' (seaF A' S.len S.rest v1))) t=some (.tup xs):=fun t xs e=>k2 t _ e (Ye e a11 (fun z=>nomatch z));obtain⟨SA2,f2⟩:=SA1.setCur (cur:=s) (v:=v') ⟨dx1,by rw[Zb];exact congrArg (fun x=>some (HO.ins a.zkc dx1 x)) Pz⟩ (hs1.keep (fun x o hx e=>k2 x o e fun z=>hx (by rw[z];simp[SAd.fp])) kt2) k2;have hu2:=kt2 _ _ hu1;generalize upd H1 A'.p (.ins a.zkc dx1 (putF "sheet" v' (seaF A' S.len S.rest v1)))=H2 at SA2 f2 hu2;have fr2:=f1.trans f2;have d0:atI (Xb d) 0=some (.str d.1):=rfl;have d1:atI (Xb d) 1=some (.int d.2.1):=rfl;have d2:atI (Xb d) 2=some (.int d.2.2):=rfl;have es:∀ w:Str,decide (V.str d.1=V.str w)=decide (d.1=w):=fun w=>by
  by_cases z:d.1=w
  ·rw[zsm z,zsm (congrArg V.str z)]
  ·rw[zsr z,zsr (fun q=>z (V.str.inj q))]
 walk_at "if";refine Yn ?_;refine⟨_,rfl,u,_,_,_,rfl,rfl,SqT.of hu2,d0,rfl,_,rfl,?_⟩;rw[es];obtain⟨⟨dx2,v2,a21,a22⟩,br2,cl2,⟨kvs2,e21,e22⟩,_⟩:=id SA2;have n1:¬ (("enrol":Str)="away"):=by decide +kernel
 have n2:¬ (("draw up":Str)="away"):=by decide +kernel
 have n3:¬ (("draw up":Str)="enrol"):=by decide +kernel
 have n4:¬ (("away":Str)="enrol"):=by decide +kernel
 rcases hbk with ⟨hd,⟨g,c0,hp⟩,ho⟩|⟨hd,hp,ho,hno⟩|⟨hd,hp,ho⟩
 ·rw[zsm hd];refine iteT ?_;obtain⟨⟨dxr,kvr,hpr,hdr,en⟩,ndr⟩:=id br2;refine⟨_,rfl,A'.p,a.zkc,dx2,_,_,rfl,a21,T.zkd,T.zlk,Vf,A'.pr,dxr,_,rfl,hpr,Y4.no ⋯,_,rfl,u,_,_,_,rfl,rfl,SqT.of hu2,d1,A'.pr,A'.dr,ppl,d.2.1,g,c0,rfl,(show Y4 a.zkf H2 A'.pr A'.dr (ppl++[(d.2.1,g,c0)]) by have:Y4 a.zkf H2 A'.pr A'.dr S.ppl:=br2;rw[hp] at this;exact this),fun H3 R3 k3=>?_⟩;obtain⟨SA3,f3⟩:=SA2.setRos R3 k3;have hu3:=SA2.tups f3 _ _ hu2;refine⟨_,rfl,u,_,_,_,rfl,rfl,SqT.of hu3,d0,rfl,_,rfl,?_⟩;rw[es,zsr (by rw[hd];exact n1)];refine iteF (Zu ⟨_,rfl,?_⟩);refine hfin u H3 hu3 ?_ (fr2.trans f3);rw[ho];exact SA3
 ·rw[zsr (by rw[hd];exact n4)];refine iteF (Zu ?_);refine⟨_,rfl,u,_,_,_,rfl,rfl,SqT.of hu2,d0,rfl,_,rfl,?_⟩;rw[es,zsm hd];refine iteT ?_;refine⟨_,rfl,A'.p,a.zkc,dx2,_,_,rfl,a21,T.zkd,T.zmc,Qz,A'.da,rfl,.inr ⟨kvs2,.inl e21⟩,_,rfl,u,_,_,_,rfl,rfl,SqT.of hu2,d2,_,rfl,u,_,_,_,rfl,rfl,SqT.of hu2,d1,sz2,fun tk htk=>?_⟩;have s3:=Ze (o:=.tup [.int d.2.2,.int d.2.1]) htk;have q3:upd H2 tk (.tup [.int d.2.2,.int d.2.1]) tk=some (.tup (([inl d.2.2,inl d.2.1]:List Key).map kV)):=Zb;generalize upd H2 tk (.tup [.int d.2.2,.int d.2.1])=H3 at s3 q3;have SA3:=SA2.same s3;have e22:Qb kvs2 S.out:=e22;rw[ho] at e22;have hv:∃ vv,valV kvs2 [inl d.2.2,inl d.2.1]=some vv:=zty.mp (by rw[e22.1,zsm (by simp)]);obtain⟨vv,hv⟩:=hv;refine⟨kvs2,[inl d.2.2,inl d.2.1],tk,vv,s3 _ _ e21,rfl,q3,hv,?_⟩;obtain⟨SA4,f4⟩:=SA3.setOut (out:=out) Zb (e22.drop hno) (fun b o e hb=>by rw[Zi hb];exact e);have hu4:=SA3.tups f4 _ _ (s3 _ _ hu2);refine⟨_,rfl,hfin u _ hu4 ?_ (fr2.trans ((FrS.of A' s3).trans f4))⟩;rw[hp];exact SA4
 ·rw[zsr (by rw[hd];exact n3)];refine iteF (Zu ?_);refine⟨_,rfl,u,_,_,_,rfl,rfl,SqT.of hu2,d0,rfl,_,rfl,?_⟩;rw[es,zsr (by rw[hd];exact n2)];refine iteF (Zu ⟨_,rfl,hfin u H2 hu2 ?_ fr2⟩);rw[hp,ho];exact SA2
abbrev Ud:Stmt:=Zz (top 55) 15
theorem O7:Zm ["self"] ["self"] (Zj Ud):=fnS
theorem O8(F:Fun K "at_hand" "Season.at_hand" Ud f fd)(T:Tx K mg a)(zkq:Zv P w K mg base a.zke "over" 1 ["self"] (Nm a.zke)):FnOk P w K mg base (CX1 P w) 2 f fd ["self"] (U7 (ca a)):=by
 refine F.okX O7 ⋯ fun _ _ _ _ H _ Q E hr h=>?_;obtain⟨A',S,rfl,SA,h⟩:=h;refine⟨_,(Zf (Zo (Zt Y1 (Yk (Zp (K:=K) rfl (pv 0) rfl) T.zld zkq (hr.mono ⋯) Zk) Zg))),?_⟩;obtain⟨⟨dx,v,a1,a2⟩,b,c,_⟩:=id SA;obtain⟨⟨dxl,hpl⟩,_⟩:=id c;refine⟨_,rfl,A'.p,a.zkc,dx,_,_,rfl,a1,T.zkd,T.zls,U3,A'.pl,dxl,_,rfl,hpl,Kj ⋯ ⋯,A'.pl,A'.lr,A'.ld,S.led,rfl,c,_,_,rfl,rfl,?_⟩;exact h
abbrev To:Stmt:=Zz (top 55) 16
theorem Ld:Zm ["self"] ["self"] (Zj To):=fnS
theorem Le(F:Fun K "deeds" "Season.deeds" To f fd)(T:Tx K mg a):FnOk P w K mg base (CX1 P w) 1 f fd ["self"] (Aw (ca a)):=by
 refine F.okX Ld ⋯ fun _ _ _ _ H _ Q E hr h=>?_;obtain⟨A',S,rfl,SA,hz,h⟩:=h;have hu:=Wu hr;refine⟨_,(Zf (Zo (Kl rfl (Ot.mk (xo:=["deed","sheet"]) (ys:=[]) (js:=[]) rfl rfl ⋯ ⋯ rfl (by repeat' (first|exact True.intro|apply And.intro|rfl)) (by repeat' (first|exact True.intro|apply And.intro|rfl)) ⋯) (Yz (K:=K) rfl (Zp (K:=K) rfl (pv 0) rfl)) (fun _ _ _ _ _=>Wv) (fun _ _ _ _ _=>(Ug (K:=K) (n:=2) rfl rfl (Ya (Uw (i:=0) (show List.Nodup [("deed":Str),("sheet":Str)] by decide +kernel) rfl (by first|exact Or.inl rfl|exact Or.inr rfl)) (Ya (Uw (i:=1) (show List.Nodup [("deed":Str),("sheet":Str)] by decide +kernel) rfl (by first|exact Or.inl rfl|exact Or.inr rfl)) Ue)))) (fun _ _ _ _ _=>(pv 0))))),?_⟩;obtain⟨⟨dx,v,a1,a2⟩,br,cl,d0,f0,⟨us,g1,g2⟩,_⟩:=id SA;have hul:=g2.length;refine⟨_,rfl,A'.p,a.zkc,dx,_,_,rfl,a1,T.zkd,T.zle,Um,A'.lt,rfl,⟨_,SqL.of g1⟩,?_⟩;refine Kp (K:=K) (xs:=us) (fun i ys H'=>H'=H/\Zy H ys ((S.std.take i).map fun x=>Xb x.1)/\ys.length=i) ⟨rfl,.nil,rfl⟩ (fun i ys H' _ ⟨e,_⟩=>by rw[e];exact SqL.of g1) (szN ⋯) (fun i ys H' ⟨_,_,e⟩=>by omega) ?_ ?_
 ·rintro i x ys H' hx ⟨rfl,tl,hyl⟩;obtain⟨t,u,v',d,s,rfl,hgi,ht,hu'⟩:=g2.get hx;refine⟨t,_,rfl,SqT.of ht,rfl,_,_,rfl,_,_,rfl,rfl,⟨[some (.ref u),some v'],rfl,rfl⟩,?_⟩;unfold tYes;dsimp only;rw[if_pos rfl];refine⟨_,rfl,rfl,?_,by rw[zsh,hyl];rfl⟩;have e:S.std.take (i+1)=S.std.take i++[(d,s)]:=by rw[zto,hgi];rfl
  rw[e,zsp];exact tl.snoc hu'
 ·rintro ys H' ⟨rfl,tl,hyl⟩ l hl;rw[hul,zs0] at tl;exact h l ys _ Zb (tl.same (Ze hl)) (Ze hl) hl
abbrev Vw:Stmt:=Zz (top 55) 17
theorem Od:Zm ["self"] ["self"] (Zj Vw):=fnS
theorem Oe(F:Fun K "referees" "Season.referees" Vw f fd)(T:Tx K mg a)(zk9:Zv P w K mg base a.zkf "numbers" 1 ["self"] (Pu (ca a))):FnOk P w K mg base (CX1 P w) 2 f fd ["self"] (Kt (ca a)):=by
 refine F.okX Od ⋯ fun _ _ _ _ H _ Q E hr h=>?_;obtain⟨A',S,rfl,SA,h⟩:=h;refine⟨_,(Zf (Zo (Yk (Zp (K:=K) rfl (pv 0) rfl) T.zk4 zk9 (hr.mono ⋯) Zk))),?_⟩;obtain⟨⟨dx,v,a1,a2⟩,br,cl,_⟩:=id SA;obtain⟨⟨dxr,kvr,hpr,hdr,en⟩,ndr⟩:=id br;exact⟨_,rfl,A'.p,a.zkc,dx,_,_,rfl,a1,T.zkd,T.zlk,Vf,A'.pr,dxr,_,rfl,hpr,Y4.no ⋯,A'.pr,A'.dr,S.ppl,rfl,br,fun l hl=>h l _ Zb (Ze hl) hl⟩
abbrev Sj:Stmt:=Zz (top 55) 21
theorem Jg:Zm ["self","at"] ["self","at"] (Zj Sj):=fnS
theorem Jh(F:Fun K "goes" "Season.goes" Sj f fd)(T:Tx K mg a)(zl8:Zv P w K mg base a.zkc "sheet_of" 3 ["self","at"] (Gx (ca a)))(zly:Zv P w K mg base a.zkg "goes" 1 ["self"] (Kn (ca a))):FnOk P w K mg base (CX1 P w) 4 f fd ["self","at"] (zg6 (ca a)):=by
 refine F.okX Jg ⋯ fun _ _ _ _ H _ Q E hr h=>?_;obtain⟨A',S,i,rfl,SA,hr0⟩:=h;refine⟨_,(Zf (Zo (Yk (Xt (pv 0) T.zkd zl8 (hr.mono ⋯) Zk (Za (pv 1) Zd)) T.zk1 zly (hr.mono ⋯) Zk))),?_⟩;obtain⟨si,hol,h⟩:=hr0;obtain⟨⟨dx,v,a1,a2⟩,_⟩:=id SA;refine⟨_,rfl,A'.p,dx,_,rfl,a1,Yo ⋯,_,rfl,A',S,i,rfl,SA,si,hol,it2 h (fun _ z=>z) fun hn h=>⟨h.1,fun s q hs Sq=>?_⟩⟩;obtain⟨dxq,m1,m2,m3,m4,hq⟩:=ShAt.ins Sq;exact⟨q,dxq,_,rfl,hq,Rh ⋯ ⋯ ⋯ ⋯,(·∉A'.fp),q,s,rfl,Sq,fun l H' a b c=>h.2 s hs l H' a b c⟩
abbrev Qk:Stmt:=top 57
theorem Eh:Zm ["_law_found"] ["_law_found"] (Zj Qk):=fnS
theorem Ei(F:Fun K "_law_whole" "_law_whole" Qk f fd)(T:Tx K mg a):FnOk P w K mg base (CX1 P w) 1 f fd ["_law_found"] Ft:=by
 refine F.okX Eh ⋯ fun _ _ _ _ H _ Q E hr h=>?_;obtain⟨i,rfl,h⟩:=h;refine⟨_,(Zf (Zo (Fg (Zq (Yb (K:=K) rfl) (by rfl) T.zki PyProof.Rows.boot_isinstance (Za (pv 0) (Za (S8 rfl T.zog PyProof.Rows.boot_int (show RelV (.ty "int") _ from rfl)) Zd))) (Cw (zfu (Zq (Yb (K:=K) rfl) (by rfl) T.zki PyProof.Rows.boot_isinstance (Za (pv 0) (Za (S8 rfl T.zpm PyProof.Rows.boot_bool (show RelV (.ty "bool") _ from rfl)) Zd)))))))),?_⟩;refine⟨_,rfl,_,_,_,_,rfl,.of (.int i),.inl ⟨_,rfl⟩,zgp K,_,rfl,?_⟩;refine iteT ?_;exact⟨_,rfl,_,_,_,_,rfl,.of (.int i),.inl ⟨_,rfl⟩,zgq K,_,rfl,h⟩
abbrev Ji:Stmt:=top 58
theorem zbl:Zm ["_law_script","_law_k"] ["_law_script","_law_k"] (Zj Ji):=fnS
theorem zbm(F:Fun K "_law_at" "_law_at" Ji f fd)(T:Tx K mg a):FnOk P w K mg base (CX1 P w) 1 f fd ["_law_script","_law_k"] (zim K):=by
 refine F.okX zbl ⋯ fun _ _ _ _ H _ Q E hr h=>?_;obtain⟨b,ns,k,rfl,hs,h⟩:=h;refine⟨_,(Zc (Z1 (Zn Hr (pv 1) (Zq (cL K) (by rfl) T.zli PySem.boot_len (Za (pv 0) Zd)) (Zr _))
  (Zf (Zo (pI (iL K) (pv 0) (pv 1))))
  Zs)
 (Zf (Zo Zg))),?_⟩
 refine⟨_,rfl,_,rfl,b,_,rfl,.inl hs,_,_,rfl,rfl,_,rfl,?_⟩;rw[zsg];refine itD (fun hk=>?_) (fun hk=>?_)
 ·have hk':k<ns.length:=by omega
  refine⟨_,rfl,_,rfl,b,_,_,_,rfl,rfl,hs,Y3 (show (ns.map V.int)[k]?=some (.int (V3 ns k)) from ?_),h⟩;unfold V3;rw[zsn,zsi hk'];rfl
 ·have e:V3 ns k=0:=by unfold V3;rw[zud ⋯];rfl
  rw[e] at h;exact h
abbrev N7:Stmt:=top 59
theorem Rr:Zm ["_law_cell","_law_k","_law_one","_law_two","_law_three"] ["_law_cell","_law_k"] (Zj N7):=fnS
theorem B0(F:Fun K "_law_mix" "_law_mix" N7 f fd)(T:Tx K mg a):FnOk P w K mg base (CX1 P w) 1 f fd ["_law_cell","_law_k"] zfh:=by
 refine F.okX Rr ⋯ fun _ _ _ _ H _ Q E hr h=>?_;obtain⟨c,k,rfl,h⟩:=h;refine⟨_,(Zc (pS 2 Rr.nd (Zt Xg (Zt Y1 (Zt U4 (pv 0) Zg) (pv 1)) Zg))
 (Zc (pS 3 Rr.nd (Zt Xg (Zt Y1 (Zt U4 (pv 2) Zg) (Zt U4 Zg (pv 1))) Zg))
 (Zc (pS 4 Rr.nd (Zt Xg (Zt Y1 (Zt U4 (pv 3) Zg) (pv 2)) Zg))
 (Zf (Zo (Zt Y1 (Zt U4 (Zt Y1 (Zt U4 (pv 2) Zg) (pv 3)) Zg) (pv 4))))))),?_⟩
 walk_at "rd";exact h
abbrev Yl:Stmt:=top 60
theorem Ql:Zm ["_law_cell","_law_many","_law_step"] ["_law_cell","_law_many"] (Zj Yl):=fnS
@[irreducible] def Vx:List Expr:=zg9 (ze0 (Ih (Ta (Z7 Yl) 0)))
@[irreducible] def Qm:Pos:=zha (ze0 (Ih (Ta (Z7 Yl) 0)))
theorem N8:Z7 Yl=[.Assign (zg8 (Ta (Z7 Yl) 0)) (.Subscript (.List Vx Qm) (ziw (Ih (Ta (Z7 Yl) 0))) (zix (Ih (Ta (Z7 Yl) 0)))) (stP (Ta (Z7 Yl) 0)),Ta (Z7 Yl) 1]:=by unfold Vx Qm;kernel_rfl
theorem N9:Ax Vx [1,2,5,10,100,500,998]:=by unfold Vx;exact⟨by kernel_rfl,by kernel_rfl⟩
theorem Jj(F:Fun K "_law_numbers" "_law_numbers" Yl f fd)(T:Tx K mg a):FnOk P w K mg base (CX1 P w) 1 f fd ["_law_cell","_law_many"] Ki:=by
 refine F.okX Ql ⋯ fun _ _ _ _ H _ Q E hr h=>?_;obtain⟨c,m,rfl,hm,h⟩:=h;rw[N8];refine⟨_,(Zc (pS 2 Ql.nd (pI (iL K) (Z5 (Eb [1,2,5,10,100,500,998] N9)) (Zt Xg (pv 0) Zg)))
 (Zf (Zo (Uo rfl (cT ["_law_cell","_law_step"] [0,2]) (Wk rfl T.zlw (Za (pv 1) Zd)) (fun _ _ _ _ _=>Wv) (fun _ _ _ _ _=>(Zt Y1 Zg (Zt Xg (Zt Y1 (Zt Vj (pv 1) Zg) (Zt U4 (pv 2) (pv 0))) Zg))))))),?_⟩
 refine⟨by show 7<=sizeLine;decide,fun p0 hp0=>?_⟩;walk_at "rd";refine⟨p0,_,_,_,rfl,rfl,SqL.of Zb,Uj (xs:=[1,2,5,10,100,500,998]) ⋯ (by show c%7<7;omega),?_⟩;refine⟨_,rfl,_,rfl,by omega,by omega,Gh (fun j=>V.int (zat c j)) (by rw[zs7];exact zs3 hm ⋯) (fun i R hi k=>?_) (fun p hp=>?_)⟩
 ·rw[zs7] at hi;walk_at "rd";refine⟨.inr ⟨by omega,by omega⟩,?_⟩;walk_at "rd";rw[zt8];exact k
 ·rw[zs7];refine h p _ ?_ ((Ze hp0).trans (Ze hp)) ((Ze hp0).free hp);rw[Zb];unfold Oq;rw[zt7];rfl
abbrev Y0:Stmt:=top 61
theorem O9:Zm ["_law_cell","_law_many","_law_step"] ["_law_cell","_law_many"] (Zj Y0):=fnS
@[irreducible] def U2:List Expr:=zg9 (ze0 (Ih (Ta (Z7 Y0) 0)))
@[irreducible] def Na:Pos:=zha (ze0 (Ih (Ta (Z7 Y0) 0)))
theorem Jk:Z7 Y0=[.Assign (zg8 (Ta (Z7 Y0) 0)) (.Subscript (.List U2 Na) (ziw (Ih (Ta (Z7 Y0) 0))) (zix (Ih (Ta (Z7 Y0) 0)))) (stP (Ta (Z7 Y0) 0)),Ta (Z7 Y0) 1]:=by unfold U2 Na;kernel_rfl
theorem Jl:Ax U2 [1,2,5,10,50,97,98]:=by unfold U2;exact⟨by kernel_rfl,by kernel_rfl⟩
theorem Ej(F:Fun K "_law_clubs" "_law_clubs" Y0 f fd)(T:Tx K mg a):FnOk P w K mg base (CX1 P w) 1 f fd ["_law_cell","_law_many"] Aj:=by
 refine F.okX O9 ⋯ fun _ _ _ _ H _ Q E hr h=>?_;obtain⟨c,m,rfl,hm,h⟩:=h;rw[Jk];refine⟨_,(Zc (pS 2 O9.nd (pI (iL K) (Z5 (Eb [1,2,5,10,50,97,98] Jl)) (Zt Xg (pv 0) Zg)))
 (Zf (Zo (Uo rfl (cT ["_law_cell","_law_step"] [0,2]) (Wk rfl T.zlw (Za (pv 1) Zd)) (fun _ _ _ _ _=>Wv) (fun _ _ _ _ _=>(Zt Y1 Zg (Zt Xg (Zt Y1 (Zt Vj (pv 1) Zg) (Zt U4 (pv 2) (pv 0))) Zg))))))),?_⟩
 refine⟨by show 7<=sizeLine;decide,fun p0 hp0=>?_⟩;walk_at "rd";refine⟨p0,_,_,_,rfl,rfl,SqL.of Zb,Uj (xs:=[1,2,5,10,50,97,98]) ⋯ (by show c%7<7;omega),?_⟩;refine⟨_,rfl,_,rfl,by omega,by omega,Gh (fun j=>V.int (Gj c j)) (by rw[zs7];exact zs3 hm ⋯) (fun i R hi k=>?_) (fun p hp=>?_)⟩
 ·rw[zs7] at hi;walk_at "rd";refine⟨.inr ⟨by omega,by omega⟩,?_⟩;walk_at "rd";rw[zt8];exact k
 ·rw[zs7];refine h p _ ?_ ((Ze hp0).trans (Ze hp)) ((Ze hp0).free hp);rw[Zb];unfold Rf;rw[zt7];rfl
abbrev Rt:Stmt:=top 62
theorem Iz:Zm ["_law_found","_law_due_here"] ["_law_found","_law_due_here"] (Zj Rt):=fnS
theorem Hn(F:Fun K "_law_one_is" "_law_one_is" Rt f fd)(T:Tx K mg a)(zl5:Yh P w K mg base "_law_whole" 1 ["_law_found"] Ft):FnOk P w K mg base (CX1 P w) 2 f fd ["_law_found","_law_due_here"] Fv:=by
 refine F.okX Iz ⋯ fun _ _ _ _ H _ Q E hr h=>?_;obtain⟨x,rfl,hx,h⟩:=h;refine⟨_,(Zf (Zo (En (Zn L6 (pv 1) X1 (Zr _)) (Ux L6 (pv 0) X1 (Zr _)) (Fg (pF zl5 hr (Za (pv 0) Zd)) (Cw (Ux Y6 (pv 0) (pv 1) (Zr _))))))),?_⟩;rcases hx with rfl|⟨i,rfl⟩
 ·refine⟨_,rfl,rfl,_,rfl,?_⟩;refine iteT ?_;exact⟨_,rfl,rfl,h⟩
 ·refine⟨_,rfl,rfl,_,rfl,?_⟩;refine iteF ?_;refine⟨_,rfl,i,rfl,_,rfl,?_⟩;refine iteT ?_;refine⟨_,rfl,_,rfl,rfl,?_⟩;rw[zsm rfl];exact h
abbrev Sk:Stmt:=top 63
theorem Qn:Zm ["_law_found","_law_due_here","_law_k"] ["_law_found","_law_due_here"] (Zj Sk):=fnS
theorem Jm(F:Fun K "_law_list_is" "_law_list_is" Sk f fd)(T:Tx K mg a)(zlm:Yh P w K mg base "_law_one_is" 2 ["_law_found","_law_due_here"] Fv):FnOk P w K mg base (CX1 P w) 3 f fd ["_law_found","_law_due_here"] (De K):=by
 refine F.okX Qn ⋯ fun _ _ _ _ H _ Q E hr h=>?_;obtain⟨b,c,xs,rfl,hb,hc,ho,hl,h⟩:=h;refine⟨_,(Zc (Z1 (PW.pt (V1 (V6 (Wn (Zq (Yb (K:=K) rfl) (by rfl) T.zki PyProof.Rows.boot_isinstance (Za (pv 0) (Za (S8 rfl T.zmi PyProof.Rows.boot_list (show RelV (.ty "list") _ from rfl)) Zd))))) (W3 (Zn Oh (Zq (cL K) (by rfl) T.zli PySem.boot_len (Za (pv 0) Zd)) (Zq (cL K) (by rfl) T.zli PySem.boot_len (Za (pv 1) Zd)) (Zr _)))))
  (Zf (Zo Vd))
  Zs)
 (Zc (Vi PassesOwn.leaving rfl (Wk rfl T.zlw (Za (Zq (cL K) (by rfl) T.zli PySem.boot_len (Za (pv 1) Zd)) Zd)) (pN 2 Qn.nd)
  (Zf (Z1 (V6 (Wn (pF zlm hr (Za (pI (iL K) (pv 0) (pv 2)) (Za (pI (iL K) (pv 1) (pv 2)) Zd)))))
   (Zf (Zo Vd))
   Zs)))
 (Zf (Zo Vd)))),?_⟩
 refine⟨_,rfl,_,_,_,_,rfl,.of (.lst hb),.inl ⟨_,rfl⟩,zcq K,_,rfl,?_⟩;refine iteF ?_;refine⟨_,rfl,b,_,rfl,.inl (SqL.of hb),_,rfl,c,_,rfl,.inl hc,rfl,_,rfl,?_⟩;rw[zsm rfl];refine iteF ?_;refine⟨_,rfl,c,_,rfl,.inl hc,_,rfl,by omega,by omega,Qr (fun i σ H'=>H'=H/\(∃ v,σ=[some (.ref b),some (.ref c),v])) ⟨rfl,⟨_,rfl⟩⟩ (fun i σ H' hi ⟨e,⟨v,hv⟩⟩=>?_) (fun σ H' ⟨e,⟨v,hv⟩⟩=>?_)⟩
 ·subst e hv;rw[zs7] at hi;have h1:xs[i]?=some (xs[i]'hi):=zsi hi;rw[zt8];refine⟨_,rfl,_,rfl,b,_,_,_,rfl,rfl,SqL.of hb,Y3 h1,_,rfl,_,rfl,c,_,_,_,rfl,rfl,hc,Y3 h1,_,rfl,ho _ (ztm hi),_,rfl,?_⟩;exact iteF ⟨rfl,⟨_,rfl⟩⟩
 ·subst e hv;exact h
abbrev Sl:Stmt:=top 64
theorem Jn:Zm ["_law_found","_law_due_here"] ["_law_found","_law_due_here"] (Zj Sl):=fnS
theorem Jo(F:Fun K "_law_deed_is" "_law_deed_is" Sl f fd)(T:Tx K mg a)(zlm:Yh P w K mg base "_law_one_is" 2 ["_law_found","_law_due_here"] Fv):FnOk P w K mg base (CX1 P w) 3 f fd ["_law_found","_law_due_here"] Ci:=by
 refine F.okX Jn ⋯ fun _ _ _ _ H _ Q E hr h=>?_;obtain⟨t1,t2,d,rfl,h1,h2,h⟩:=h;refine⟨_,(Zc (Z1 (PW.pt (V1 (V6 (Wn (Zq (Yb (K:=K) rfl) (by rfl) T.zki PyProof.Rows.boot_isinstance (Za (pv 0) (Za (S8 rfl T.zn9 PyProof.Rows.boot_tuple (show RelV (.ty "tuple") _ from rfl)) Zd))))) (V1 (Zn Oh (Zq (cL K) (by rfl) T.zli PySem.boot_len (Za (pv 0) Zd)) Zg (Zr _)) (W3 (V6 (Wn (Zq (Yb (K:=K) rfl) (by rfl) T.zki PyProof.Rows.boot_isinstance (Za (pI (iU K) (pv 0) Zg) (Za (S8 rfl T.zqe PyProof.Rows.boot_str (show RelV (.ty "str") _ from rfl)) Zd)))))))))
  (Zf (Zo Vd))
  Zs)
 (Zf (Zo (Fg (Ux Y6 (pI (iU K) (pv 0) Zg) (pI (iU K) (pv 1) Zg) (Zr _)) (Fg (pF zlm hr (Za (pI (iU K) (pv 0) Zg) (Za (pI (iU K) (pv 1) Zg) Zd))) (Cw (pF zlm hr (Za (pI (iU K) (pv 0) Zg) (Za (pI (iU K) (pv 1) Zg) Zd))))))))),?_⟩
 have h1:H t1=some (.tup [.str d.1,.int d.2.1,.int d.2.2]):=h1;have h2:H t2=some (.tup [.str d.1,.int d.2.1,.int d.2.2]):=h2;refine Yn ?_;refine⟨_,rfl,_,_,_,_,rfl,.of (.tup h1),.inl ⟨_,rfl⟩,zgr K,_,rfl,?_⟩;refine iteF ?_;refine⟨_,rfl,t1,_,rfl,.inr (SqT.of h1),rfl,_,rfl,?_⟩;refine(show if (!decide (V.int ((3:Nat):Int)=V.int 3))=true then _ else _ from ?_);rw[zsm (show V.int ((3:Nat):Int)=V.int 3 from rfl)];refine iteF ?_;refine⟨_,rfl,t1,_,_,_,rfl,rfl,SqT.of h1,rfl,_,_,_,_,rfl,.of (.str _),.inl ⟨_,rfl⟩,zgs K,_,rfl,?_⟩;refine iteF (Zu ?_);dsimp only;refine⟨_,rfl,t1,_,_,_,rfl,rfl,SqT.of h1,rfl,_,rfl,t2,_,_,_,rfl,rfl,SqT.of h2,rfl,rfl,true,by rw[zsm rfl],iteT ?_⟩;refine⟨_,rfl,t1,_,_,_,rfl,rfl,SqT.of h1,rfl,_,rfl,t2,_,_,_,rfl,rfl,SqT.of h2,rfl,.int d.2.1,rfl,.inr ⟨_,rfl⟩,true,rfl,iteT ?_⟩;exact⟨_,rfl,t1,_,_,_,rfl,rfl,SqT.of h1,rfl,_,rfl,t2,_,_,_,rfl,rfl,SqT.of h2,rfl,.int d.2.2,rfl,.inr ⟨_,rfl⟩,h⟩
abbrev Uu:Stmt:=top 65
theorem S7:Zm ["_law_found","_law_due_here","_law_k"] ["_law_found","_law_due_here"] (Zj Uu):=fnS
theorem Ma(F:Fun K "_law_deeds_are" "_law_deeds_are" Uu f fd)(T:Tx K mg a)(znp:Yh P w K mg base "_law_deed_is" 3 ["_law_found","_law_due_here"] Ci):FnOk P w K mg base (CX1 P w) 4 f fd ["_law_found","_law_due_here"] (Kw K):=by
 refine F.okX S7 ⋯ fun _ _ _ _ H _ Q E hr h=>?_;obtain⟨b,c,ts,us,ds,rfl,hb,hc,tl,ul,hl,h⟩:=h;refine⟨_,(Zc (Z1 (PW.pt (V1 (V6 (Wn (Zq (Yb (K:=K) rfl) (by rfl) T.zki PyProof.Rows.boot_isinstance (Za (pv 0) (Za (S8 rfl T.zmi PyProof.Rows.boot_list (show RelV (.ty "list") _ from rfl)) Zd))))) (W3 (Zn Oh (Zq (cL K) (by rfl) T.zli PySem.boot_len (Za (pv 0) Zd)) (Zq (cL K) (by rfl) T.zli PySem.boot_len (Za (pv 1) Zd)) (Zr _)))))
  (Zf (Zo Vd))
  Zs)
 (Zc (Vi PassesOwn.leaving rfl (Wk rfl T.zlw (Za (Zq (cL K) (by rfl) T.zli PySem.boot_len (Za (pv 1) Zd)) Zd)) (pN 2 S7.nd)
  (Zf (Z1 (V6 (Wn (pF znp hr (Za (pI (iL K) (pv 0) (pv 2)) (Za (pI (iL K) (pv 1) (pv 2)) Zd)))))
   (Zf (Zo Vd))
   Zs)))
 (Zf (Zo Vd)))),?_⟩
 have e1:=tl.length;have e2:=ul.length;rw[zsg] at e1 e2;have el:ts.length=us.length:=by omega
 refine⟨_,rfl,_,_,_,_,rfl,.of (.lst hb),.inl ⟨_,rfl⟩,zcq K,_,rfl,?_⟩;refine iteF ?_;refine⟨_,rfl,b,_,rfl,.inl (SqL.of hb),_,rfl,c,_,rfl,.inl (SqL.of hc),rfl,_,rfl,?_⟩;rw[el,zsm rfl];refine iteF (Zu ?_);dsimp only;refine⟨_,rfl,c,_,rfl,.inl (SqL.of hc),_,rfl,by omega,by omega,Qr (fun i σ H'=>H'=H/\(∃ v,σ=[some (.ref b),some (.ref c),v])) ⟨rfl,⟨_,rfl⟩⟩ (fun i σ H' hi ⟨e,⟨v,hv⟩⟩=>?_) (fun σ H' ⟨e,⟨v,hv⟩⟩=>?_)⟩
 ·subst e hv;rw[zs7] at hi;have hd:i<ds.length:=by omega
  obtain⟨t1,x1,x2⟩:=tl.getR (i:=i) (r:=Xb (ds[i]'hd)) (by rw[zsn,zsi hd];rfl);obtain⟨t2,y1,y2⟩:=ul.getR (i:=i) (r:=Xb (ds[i]'hd)) (by rw[zsn,zsi hd];rfl);rw[zt8];walk_at "if";refine⟨_,rfl,_,rfl,b,_,_,_,rfl,rfl,SqL.of hb,Y3 x1,_,rfl,_,rfl,c,_,_,_,rfl,rfl,SqL.of hc,Y3 y1,t1,t2,_,rfl,x2,y2,true,rfl,?_⟩;exact iteF (Zu ⟨rfl,⟨_,rfl⟩⟩)
 ·subst e hv;exact h
abbrev Yc:Stmt:=top 66
theorem Ys:Zm ["_law_cell","_law_clubs_here","_law_most","_law_mixed","_law_matches_here","_law_many","_law_grades","_law_rest","_law_k","_law_home","_law_guest"] ["_law_cell","_law_clubs_here","_law_most","_law_mixed"] (Zj Yc):=fnS
@[irreducible] def Vy:List Expr:=zg9 (Ih (Ta (Z7 Yc) 2))
@[irreducible] def Qo:Pos:=zha (Ih (Ta (Z7 Yc) 2))
theorem Mb:Z7 Yc=[Ta (Z7 Yc) 0,Ta (Z7 Yc) 1,.Assign (zg8 (Ta (Z7 Yc) 2)) (.List Vy Qo) (stP (Ta (Z7 Yc) 2)),Ta (Z7 Yc) 3,Ta (Z7 Yc) 4,Ta (Z7 Yc) 5]:=by unfold Vy Qo;kernel_rfl
theorem Mc:Ax Vy [1,2,3,4,5,6,7,8,9,1,1,1,1,2,2,3,3,4]:=by unfold Vy;exact⟨by kernel_rfl,by kernel_rfl⟩
theorem Jp(F:Fun K "_law_matches" "_law_matches" Yc f fd)(T:Tx K mg a)(zoq:Yh P w K mg base "_law_mix" 1 ["_law_cell","_law_k"] zfh):FnOk P w K mg base (CX1 P w) 2 f fd ["_law_cell","_law_clubs_here","_law_most","_law_mixed"] (Mr K):=by
 refine F.okX Ys ⋯ fun _ _ _ _ H _ Q E hr h=>?_;obtain⟨b,ns,cell,most,mixed,rfl,hb,hl1,hl2,nd,rng,hm1,hmx,h⟩:=h;rw[Mb];refine⟨_,(Zc (pS 4 Ys.nd (Z5 Zd))
 (Zc (pS 5 Ys.nd (Zq (cL K) (by rfl) T.zli PySem.boot_len (Za (pv 1) Zd)))
 (Zc (pS 6 Ys.nd (Z5 (Eb [1,2,3,4,5,6,7,8,9,1,1,1,1,2,2,3,3,4] Mc)))
 (Zc (pS 7 Ys.nd (Zt Vj (pv 0) (Zt Y1 (pv 2) Zg)))
 (Zc (Vi PassesOwn.leaving rfl (Wk rfl T.zlw (Za (Zt Xg (pv 0) (Zt Y1 (pv 2) Zg)) Zd)) (pN 8 Ys.nd)
  (Zc (pS 9 Ys.nd (Zt Xg (pv 7) (pv 5)))
  (Zc (pS 10 Ys.nd (Zt Xg (Zt Y1 (Zt Y1 (pv 9) Zg) (Zt Xg (Zt Vj (pv 7) (pv 5)) (Zt Nf (pv 5) Zg))) (pv 5)))
  (Zc (Yt (pv 4) (Z2 (Za (pI (iL K) (pv 1) (pv 9)) (Za (pI (iL K) (pv 1) (pv 10)) (Za (pI (iL K) (pv 6) (Zt Xg (Zt Vj (Zt Vj (pv 7) (pv 5)) (Zt Nf (pv 5) Zg)) Zg)) Zd)))))
  (Zf (pS 7 Ys.nd (pI (iL K) (Z5 (Za (Zt Vj (Zt Vj (Zt Vj (pv 7) (pv 5)) (Zt Nf (pv 5) Zg)) Zg) (Za (pF zoq hr (Za (pv 7) (Za (pv 8) Zd))) Zd))) (pv 3))))))))
 (Zf (Zo (pv 4)))))))),?_⟩
 show let y1:TS:=_;let y2:TS:=Z0 _ y1;let y3:TS:=Z0 _ y2;let y4:TS:=_;let y5:TS:=Z0 (zfz _ _ (Z0 _ y3)) y4;let y6:TS:=Z0 _ y5;let y7:TS:=Z0 _ y6;let y8:TS:=Z0 _ y7;Z0 _ y8 _ _ _;intro y1 y2 y3 y4 y5 y6 y7 y8;have sz0:([]:List V).length<=sizeLine:=zs1 _;have sz3:∀ x y z:V,[x,y,z].length<=sizeLine:=fun x y z=>by show 3<=sizeLine;rw[sizeLine_eq];decide
 refine⟨sz0,fun r fr=>?_⟩;have s1:=Ze (o:=.lst []) fr;have q1:=Zb (H:=H) (a:=r) (o:=.lst []);walk_at "if";generalize upd H r (.lst [])=H1 at s1 q1 ⊢;refine⟨_,rfl,b,_,rfl,.inl (SqL.of (s1 _ _ hb)),?_⟩;rw[zsg];walk_at "if";refine zdk [1,2,3,4,5,6,7,8,9,1,1,1,1,2,2,3,3,4] ⋯ fun lg H2 hg s2 fg=>?_;have frg:lg≠r:=(Zh q1 fg).symm;have hc:(0:Int)<(most:Int)+1:=by omega
 refine⟨_,rfl,_,rfl,_,_,rfl,rfl,_,_,rfl,rfl,⟨hc,by omega⟩,?_⟩;walk_at "if";refine⟨_,rfl,_,rfl,_,_,rfl,rfl,_,_,rfl,rfl,hc,_,rfl,?_⟩;have c0:=ztx cell (show ((most:Int)+1)≠0 by omega);have c1:=ztp cell hc;have hn0:(0:Int)<(ns.length:Int):=by omega
 have hn1:(0:Int)<(ns.length:Int)-1:=by omega
 let jv1:Nat->L2.St->Hp->Prop:=fun i σ H'=>(∃ v8 v9 v10 R,σ=[some (.int cell),some (.ref b),some (.int most),some (.int mixed),some (.ref r),some (.int ns.length),some (.ref lg),some (.int R),v8,v9,v10])/\(∀ x o,H2 x=some o->x≠r->H' x=some o)/\∃ ts ms,H' r=some (.lst ts)/\Zy H' ts (ms.map pV)/\ms.length=i/\Nv ms
 refine⟨by omega,by omega,Qr jv1
  ⟨⟨_,_,_,_,rfl⟩,fun _ _ e _=>e,[],[],s2 _ _ q1,.nil,rfl,(fun m z=>nomatch z),(fun m z=>nomatch z)⟩ ?_ ?_⟩
 ·rintro i σ H' hi ⟨⟨v8,v9,v10,R,rfl⟩,k,ts,ms,hr',tl,hml,gm⟩;have hb':=k _ _ (s2 _ _ (s1 _ _ hb)) (Zh hb fr);have hg':=k _ _ hg frg;have e0:=ztx R (show (ns.length:Int)≠0 by omega);have e1:=ztp R hn0;have f0:=ztx (R/(ns.length:Int)) (show (ns.length:Int)-1≠0 by omega);have f1:=ztp (R/(ns.length:Int)) hn1;have w0:=ztx (R/(ns.length:Int)/((ns.length:Int)-1)) (show (18:Int)≠0 by omega);have w1:=ztp (R/(ns.length:Int)/((ns.length:Int)-1)) (show (0:Int)<18 by omega);obtain⟨g0,g1,g2⟩:=zdm e0 e1 (y:=1+R/(ns.length:Int)%((ns.length:Int)-1)) ⋯ ⋯;rw[<- Int.add_assoc] at g0 g1 g2;refine⟨_,rfl,_,rfl,_,_,rfl,rfl,hn0,?_⟩;walk_at "if";refine⟨_,rfl,_,_,rfl,rfl,_,rfl,_,rfl,_,_,rfl,rfl,⟨hn0,by omega⟩,_,rfl,_,_,rfl,rfl,_,_,rfl,rfl,hn1,_,_,rfl,rfl,_,rfl,_,_,rfl,rfl,hn0,?_⟩;walk_at "if";generalize hG:(R%(ns.length:Int)+1+R/(ns.length:Int)%((ns.length:Int)-1))%(ns.length:Int)=gu at g0 g1 g2 ⊢;generalize hHo:R%(ns.length:Int)=ho at e0 e1 g2 ⊢;refine⟨_,rfl,r,_,rfl,hr',?_⟩;have hgr:=Uj (xs:=Ed) w0 (by show _<((18:Nat):Int);omega);have rgr:=Bq (R/(ns.length:Int)/((ns.length:Int)-1)%18).toNat ⋯;generalize hgv:Ed.getD (R/(ns.length:Int)/((ns.length:Int)-1)%18).toNat 0=gv at hgr rgr;have hho:=Uj (xs:=ns) e0 ⋯;have hgu:=Uj (xs:=ns) g0 ⋯;have mho:=Q3 (ns:=ns) (i:=ho.toNat) ⋯;have mgu:=Q3 (ns:=ns) (i:=gu.toNat) ⋯;have hne:ns.getD ho.toNat 0≠ns.getD gu.toNat 0:=fun z=>by
   have:=Cg nd ⋯ ⋯ z;omega
  generalize ns.getD ho.toNat 0=a1 at hho mho hne;generalize ns.getD gu.toNat 0=a2 at hgu mgu hne;refine⟨_,rfl,_,rfl,b,_,_,_,rfl,rfl,SqL.of hb',hho,_,rfl,_,rfl,b,_,_,_,rfl,rfl,SqL.of hb',hgu,?_⟩;refine⟨_,rfl,_,rfl,_,rfl,_,_,rfl,rfl,⟨hn0,by omega⟩,_,rfl,_,_,rfl,rfl,_,_,rfl,rfl,⟨hn1,by omega⟩,_,_,rfl,rfl,⋯,lg,_,_,_,rfl,rfl,SqL.of hg',hgr,sz3 _ _ _,fun t ft=>?_⟩;have s3:=Ze (o:=.tup [.int a1,.int a2,.int gv]) ft;have q3:=Zb (H:=H') (a:=t) (o:=.tup [.int a1,.int a2,.int gv]);generalize upd H' t (.tup [.int a1,.int a2,.int gv])=H3 at s3 q3 ⊢;have tln:=tl.length;rw[zsg] at tln;refine⟨ts,s3 _ _ hr',szN ⋯,?_⟩;have hi':i<101:=by omega
  have k4:∀ x o,H3 x=some o->x≠r->upd H3 r (.lst (ts++[.ref t])) x=some o:=fun x o e n=>by rw[Zi n];exact e
  have q4:=Zb (H:=H3) (a:=r) (o:=.lst (ts++[.ref t]));have kt4:∀ x ys,H3 x=some (.tup ys)->upd H3 r (.lst (ts++[.ref t])) x=some (.tup ys):=fun x ys e=>k4 _ _ e (Ye e (s3 _ _ hr') (by intro z;cases z));dsimp only;generalize upd H3 r (.lst (ts++[.ref t]))=H4 at k4 q4 kt4 ⊢;obtain⟨z,hz⟩:=at2 (R/(ns.length:Int)/((ns.length:Int)-1)/18) (zgu R (0+(i:Int))) hmx;refine⟨_,rfl,_,rfl,_,_,rfl,rfl,⟨hn0,by omega⟩,_,rfl,_,_,rfl,rfl,_,_,rfl,rfl,⟨hn1,by omega⟩,_,_,rfl,rfl,⟨by omega,by omega⟩,_,rfl,_,rfl,_,_,rfl,sz2,fun l2 f2=>⟨_,rfl,l2,_,_,_,rfl,rfl,SqL.of Zb,hz,?_⟩⟩;have s5:=Ze (o:=.lst [.int (R/(ns.length:Int)/((ns.length:Int)-1)/18),.int (zgu R (0+(i:Int)))]) f2;refine⟨⟨_,_,_,_,rfl⟩,fun x o e n=>s5 _ _ (k4 _ _ (s3 _ _ (k _ _ e n)) n),ts++[.ref t],ms++[(a1,a2,gv)],s5 _ _ q4,?_,by rw[zsh,hml];rfl,?_,?_⟩
  ·rw[zsp];exact(tl.mono fun x ys e=>s5 _ _ (kt4 _ _ (s3 _ _ e))).snoc (s5 _ _ (kt4 _ _ q3))
  ·intro m hm;rcases zsv.mp hm with hm|hm
   ·exact gm.1 m hm
   ·rw[zsl.mp hm];have:=rng _ mho;have:=rng _ mgu;unfold badM;dsimp only;omega
  ·intro m hm;rcases zsv.mp hm with hm|hm
   ·exact gm.2 m hm
   ·rw[zsl.mp hm];exact hne
 ·rintro σ H' ⟨⟨v8,v9,v10,R,rfl⟩,k,ts,ms,hr',tl,hml,gm⟩;refine⟨_,rfl,h r ts ms H' hr' tl ⋯ gm (fun x o e=>k _ _ (s2 _ _ (s1 _ _ e)) (Zh e fr)) fr⟩
abbrev Jq:Stmt:=top 67
theorem zbn:Zm ["_law_season","_law_deed"] ["_law_season","_law_deed"] (Zj Jq):=fnS
theorem zbo(F:Fun K "_law_do" "_law_do" Jq f fd)(T:Tx K mg a)(zm9:Zv P w K mg base a.zkc "enrol" 5 ["self","number","grade","club"] (Au (ca a)))(znq:Zv P w K mg base a.zkc "away" 7 ["self","at","number"] (zdg (ca a)))(zmh:Zv P w K mg base a.zkc "draw_up" 6 ["self","matches"] (D8 K (ca a)))(zm6:Zv P w K mg base a.zkc "close" 4 ["self"] (Av (ca a)))(zl3:Zv P w K mg base a.zkc "take_back" 2 ["self"] (Ks (ca a))):FnOk P w K mg base (CX1 P w) 8 f fd ["_law_season","_law_deed"] (zfm K (ca a)):=by
 refine F.okX zbn ⋯ fun _ _ _ _ H _ Q E hr h=>?_;obtain⟨A',S,t,d,rfl,SA,hd,sd,co,po,hz,hoz,htot,hl,hol,hbk,hE,h⟩:=h;refine⟨_,(Zc (Z1 (Zn Y6 (pI (iU K) (pv 1) Zg) Zl (Zr _))
  (Zf (Zo (Xt (pv 0) T.zkd zm9 (hr.mono ⋯) Zk (Za (pI (iU K) (pv 1) Zg) (Za (pI (iU K) (pv 1) Zg) (Za (pI (iU K) (pv 1) Zg) Zd))))))
  Zs)
 (Zc (Z1 (Zn Y6 (pI (iU K) (pv 1) Zg) Zl (Zr _))
  (Zf (Zo (Xt (pv 0) T.zkd znq (hr.mono ⋯) Zk (Za (pI (iU K) (pv 1) Zg) (Za (pI (iU K) (pv 1) Zg) Zd)))))
  Zs)
 (Zc (Z1 (Zn Y6 (pI (iU K) (pv 1) Zg) Zl (Zr _))
  (Zf (Zo (Xt (pv 0) T.zkd zmh (hr.mono ⋯) Zk (Za (Xc (X0 (K:=K) rfl) (by rfl) T.zmi PyProof.Rows.boot_list (Za (pI (iU K) (pv 1) Zg) Zd)) Zd))))
  Zs)
 (Zc (Z1 (Zn Y6 (pI (iU K) (pv 1) Zg) Zl (Zr _))
  (Zf (Zo (Yk (pv 0) T.zkd zm6 (hr.mono ⋯) Zk)))
  Zs)
 (Zf (Zo (Yk (pv 0) T.zkd zl3 (hr.mono ⋯) Zk))))))),?_⟩
 have hpl:=po.2;obtain⟨⟨dx,v,a1,a2⟩,_⟩:=id SA;cases d with
 | enrol n g c0 =>
   have ht:H t=some (.tup [.str "enrol",.int n,.int g,.int c0]):=hd;refine⟨_,rfl,t,_,_,_,rfl,rfl,SqT.of ht,rfl,rfl,_,rfl,?_⟩;rw[strT];refine iteT ?_;refine⟨_,rfl,A'.p,dx,_,rfl,a1,Yo ⋯,_,rfl,t,_,_,_,rfl,rfl,SqT.of ht,rfl,_,rfl,t,_,_,_,rfl,rfl,SqT.of ht,rfl,_,rfl,t,_,_,_,rfl,rfl,SqT.of ht,rfl,A',S,n,g,c0,rfl,SA,sd,by omega,by omega,?_⟩;by_cases c1:S.len<=S.led.length
   ·rw[if_pos c1];exact hE .seaOver (by simp only[refS];rw[if_pos c1]) H (Same.refl _)
   rw[if_neg c1];by_cases c2:S.cur.isSome=true
   ·rw[if_pos c2];exact hE .drawn (by simp only[refS];rw[if_neg c1,if_pos c2]) H (Same.refl _)
   rw[if_neg c2];by_cases c3:badI n g c0
   ·rw[if_pos c3];exact hE .out (by simp only[refS];rw[if_neg c1,if_neg c2,if_pos c3]) H (Same.refl _)
   rw[if_neg c3];by_cases c4:n∈S.ppl.map (·.1)
   ·rw[if_pos c4];exact hE .known (by simp only[refS];rw[if_neg c1,if_neg c2,if_neg c3,if_pos c4]) H (Same.refl _)
   rw[if_neg c4];by_cases c5:30<=S.ppl.length
   ·rw[if_pos c5];exact hE .many (by simp only[refS];rw[if_neg c1,if_neg c2,if_neg c3,if_neg c4,if_pos c5]) H (Same.refl _)
   rw[if_neg c5];by_cases c6:100<=S.std.length
   ·rw[if_pos c6];exact hE .manyD (by simp only[refS];rw[if_neg c1,if_neg c2,if_neg c3,if_neg c4,if_neg c5,if_pos c6]) H (Same.refl _)
   rw[if_neg c6];exact fun H' SA' f'=>h (by simp only[refS];rw[if_neg c1,if_neg c2,if_neg c3,if_neg c4,if_neg c5,if_neg c6]) .non A' _ H' (.enrol n g c0) SA' (.refl A' H) f' (fun l z=>nomatch z)
 | away i n =>
   have ht:H t=some (.tup [.str "away",.int i,.int n]):=hd;refine⟨_,rfl,t,_,_,_,rfl,rfl,SqT.of ht,rfl,rfl,_,rfl,?_⟩;rw[V0 ⋯];refine iteF (Zu ?_);refine⟨_,rfl,t,_,_,_,rfl,rfl,SqT.of ht,rfl,rfl,_,rfl,?_⟩;rw[strT];refine iteT ?_;refine⟨_,rfl,A'.p,dx,_,rfl,a1,Yo ⋯,_,rfl,t,_,_,_,rfl,rfl,SqT.of ht,rfl,_,rfl,t,_,_,_,rfl,rfl,SqT.of ht,rfl,A',S,i,n,rfl,SA,sd.1,sd.2,by omega,hoz,po,fun s hs=>?_,?_⟩
   ·obtain⟨c1,c2,c3,c4,c5⟩:=co s hs;exact⟨c1,c2,c4,by omega⟩
   by_cases c1:i<1\/(S.len:Int)<i
   ·rw[if_pos c1];exact hE .noRound (by simp only[refS];rw[if_pos c1]) H (Same.refl _)
   rw[if_neg c1];by_cases c2:i<=S.led.length
   ·rw[if_pos c2];exact hE .over (by simp only[refS];rw[if_neg c1,if_pos c2]) H (Same.refl _)
   rw[if_neg c2];by_cases c3:n∈S.ppl.map (·.1)
   rotate_left
   ·rw[if_neg c3];exact hE .unk (by simp only[refS];rw[if_neg c1,if_neg c2,if_neg c3]) H (Same.refl _)
   rw[if_pos c3];by_cases c4:(i,n)∈S.out
   ·rw[if_pos c4];exact hE .away (by simp only[refS];rw[if_neg c1,if_neg c2,if_pos c3,if_pos c4])
   rw[if_neg c4];by_cases c5:100<=S.std.length
   ·rw[if_pos c5];exact hE .manyD (by simp only[refS];rw[if_neg c1,if_neg c2,if_pos c3,if_neg c4,if_pos c5])
   rw[if_neg c5];have h:=h (by simp only[refS];rw[if_neg c1,if_neg c2,if_pos c3,if_neg c4,if_neg c5]);refine⟨fun hc l H' hl' SA' f' fl=>h _ A' _ H' (.awayN hc hl') SA' (.refl A' H) f' (fun l2 z _=>by cases z;exact fl),fun s hi hs hp l H' hl' SA' f' fl=>?_,fun s p hi hs hp l us st e w' H' hl' tl CR SA' f' fl=>?_⟩
   ·subst hi;exact h _ A' _ H' (.awayF hs hp hl') SA' (.refl A' H) f' (fun l2 z _=>by cases z;exact fl)
   ·subst hi;exact h _ A' _ H' (.awayC hs hp hl' tl CR) SA' (.refl A' H) f' (fun l2 z _=>by cases z;exact fl)
 | draw ms =>
   obtain⟨l0,ts,ht,hl0,tl,okl⟩:∃ l ts,H t=some (.tup [.str "draw up",.ref l])/\H l=some (.lst ts)/\Zy H ts (ms.map pV)/\l∉A'.fp:=hd;refine⟨_,rfl,t,_,_,_,rfl,rfl,SqT.of ht,rfl,rfl,_,rfl,?_⟩;rw[V0 ⋯];refine iteF (Zu ?_);refine⟨_,rfl,t,_,_,_,rfl,rfl,SqT.of ht,rfl,rfl,_,rfl,?_⟩;rw[V0 ⋯];refine iteF (Zu ?_);refine⟨_,rfl,t,_,_,_,rfl,rfl,SqT.of ht,rfl,rfl,_,rfl,?_⟩;rw[strT];refine iteT ?_;refine⟨_,rfl,A'.p,dx,_,rfl,a1,Yo ⋯,_,rfl,t,_,_,_,rfl,rfl,SqT.of ht,rfl,l0,ts,rfl,.inl (SqL.of hl0),fun l1 hl1=>?_⟩;have s1:=Ze (o:=.lst ts) hl1;have q1:upd H l1 (.lst ts) l1=some (.lst ts):=Zb;generalize upd H l1 (.lst ts)=H1 at s1 q1;refine⟨A',S,l1,ts,ms,rfl,SA.same s1,SqL.of q1,tl.same s1,sd.1,sd.2,by omega,po,?_⟩;by_cases c1:S.len<=S.led.length
   ·rw[if_pos c1];exact hE .seaOver (by simp only[refS];rw[if_pos c1]) H1 s1
   rw[if_neg c1];by_cases c2:S.cur.isSome=true
   ·rw[if_pos c2];exact hE .drawn (by simp only[refS];rw[if_neg c1,if_pos c2]) H1 s1
   rw[if_neg c2];refine⟨fun c3=>hE .manyM (by simp only[refS];rw[if_neg c1,if_neg c2,if_pos c3]) H1 s1,fun c3 c4=>hE .out (by simp only[refS];rw[if_neg c1,if_neg c2,if_neg ⋯,if_pos c4]) H1 s1,fun c3 c4 c5=>hE .same (by simp only[refS];rw[if_neg c1,if_neg c2,if_neg ⋯,if_neg c4,if_pos c5]) H1 s1,fun c3 c4 c5=>⟨fun c6 H' s'=>hE .manyD (by simp only[refS];rw[if_neg c1,if_neg c2,if_neg ⋯,if_neg c4,if_neg c5,if_pos c6]) H' (s1.trans s'),fun c6 l gv H' hl' SA' FP SP f' fl=>?_⟩⟩;exact h (by simp only[refS];rw[if_neg c1,if_neg c2,if_neg ⋯,if_neg c4,if_neg c5,if_neg ⋯]) _ A' _ H' (.draw hl' FP SP) SA' (.refl A' H) ((FrS.of A' s1).trans f') (fun l2 z _=>by cases z;exact s1.free fl)
 | close =>
   have ht:H t=some (.tup [.str "close"]):=hd;refine⟨_,rfl,t,_,_,_,rfl,rfl,SqT.of ht,rfl,rfl,_,rfl,?_⟩;rw[V0 ⋯];refine iteF (Zu ?_);refine⟨_,rfl,t,_,_,_,rfl,rfl,SqT.of ht,rfl,rfl,_,rfl,?_⟩;rw[V0 ⋯];refine iteF (Zu ?_);refine⟨_,rfl,t,_,_,_,rfl,rfl,SqT.of ht,rfl,rfl,_,rfl,?_⟩;rw[V0 ⋯];refine iteF (Zu ?_);refine⟨_,rfl,t,_,_,_,rfl,rfl,SqT.of ht,rfl,rfl,_,rfl,?_⟩;rw[strT];refine iteT ?_;refine⟨_,rfl,A'.p,dx,_,rfl,a1,Yo ⋯,A',S,rfl,SA,htot,hl,hol,fun s hs=>?_,?_⟩
   ·obtain⟨c1,c2,c3,c4,c5⟩:=co s hs;refine⟨c2.one,?_,by omega⟩;rw[c2.len,c4];unfold mayS;rw[zsg]
   by_cases c1:S.len<=S.led.length
   ·rw[if_pos c1];exact hE .seaOver (by simp only[refS];rw[if_pos c1]) H (Same.refl _)
   rw[if_neg c1];exact⟨fun z=>hE .notDrawn (by simp only[refS];rw[if_neg c1,if_pos z]) H (Same.refl _),fun s x H' hs SA' f' fx=>h (by simp only[refS];rw[if_neg c1,if_neg (by rw[hs];exact fun z=>nomatch z)]) _ { A' with lt:=x } _ H' (.close hs) SA' ⟨x,rfl,.inr fx⟩ f' (fun l2 z=>nomatch z)⟩
 | back =>
   have ht:H t=some (.tup [.str "take back"]):=hd;refine⟨_,rfl,t,_,_,_,rfl,rfl,SqT.of ht,rfl,rfl,_,rfl,?_⟩;rw[V0 ⋯];refine iteF (Zu ?_);refine⟨_,rfl,t,_,_,_,rfl,rfl,SqT.of ht,rfl,rfl,_,rfl,?_⟩;rw[V0 ⋯];refine iteF (Zu ?_);refine⟨_,rfl,t,_,_,_,rfl,rfl,SqT.of ht,rfl,rfl,_,rfl,?_⟩;rw[V0 ⋯];refine iteF (Zu ?_);refine⟨_,rfl,t,_,_,_,rfl,rfl,SqT.of ht,rfl,rfl,_,rfl,?_⟩;rw[V0 ⋯];refine iteF (Zu ?_);refine⟨_,rfl,A'.p,dx,_,rfl,a1,Yo ⋯,A',S,rfl,SA,fun z=>hE .nothing (by simp only[refS];rw[if_pos z]) H (Same.refl _),fun std d s he=>?_⟩;have hne:S.std≠[]:=by rw[he];simp
   obtain⟨S0,hs0⟩:=hbk rfl hne;obtain⟨d0,e1,e2,e3,e4,e5,e6⟩:=id hs0;rw[e1] at he;obtain⟨he1,he2⟩:=zt2 he rfl;have he2:(d0,S0.cur)=(d,s):=by simpa using he2
   cases he2;subst he1;refine⟨S0.ppl,S0.out,e2,fun t' H' ht' SA' f'=>?_⟩;have eS:{ S with ppl:=S0.ppl,out:=S0.out,cur:=S0.cur,std:=S0.std }=S0:=by
    cases S;cases S0;simp only at e3 e4 e5 e6 ⊢;subst e3 e4 e5 e6;rfl
   rw[eS] at SA';exact h (by simp only[refS];rw[if_neg hne]) _ A' S0 H' (.back e1 ht' hs0) SA' (.refl A' H) f' (fun l2 z hx=>by cases z;obtain⟨xs,hx⟩:=hx;rw[ht'] at hx;cases hx)
theorem cat2{D:Og}{v0 v1:Option V}{vr:List (Option V)}{l e c1 c2 C:Addr}{H:Hp}{b1 b2:Bool}{xs:List V}(hx:H e=some (excO e (.ref C)))(hl:H l=some (.lst xs))(hz:xs.length<=100)(ei:Fo K C)(k1:PySem.W.kitOne K (.ref C) (.ref c1)=some b1)(k2:PySem.W.kitOne K (.ref C) (.ref c2)=some b2)
  (k:∀ l' H',H' l'=some (.lst (xs++[.bl b1,.bl b2]))->H' e=some (excO e (.ref C))->Same H H'->D.nx (v0 :: v1 :: some (.ref l') :: some (.ref e) :: vr) H') :
  Cy (tOp zgh (tVar 2) (tLst (Tv (tCB (rIsI K) (Tv (tVar 3) (Tv (tC (V.ref c1)) tNil))) (Tv (tCB (rIsI K) (Tv (tVar 3) (Tv (tC (V.ref c2)) tNil))) tNil)))) (Ve 2) D (v0 :: v1 :: some (.ref l) :: some (.ref e) :: vr) H:=by
 refine⟨_,rfl,_,rfl,_,_,_,_,rfl,.exc rfl rfl hx ei,.inr ⟨_,rfl⟩,k1,_,rfl,_,_,_,_,rfl,.exc rfl rfl hx ei,.inr ⟨_,rfl⟩,k2,sz2,fun l1 hl1=>?_⟩;have s1:=Ze (o:=.lst [.bl b1,.bl b2]) hl1;refine⟨l,l1,xs,_,rfl,rfl,s1 _ _ hl,Zb,szN (by show xs.length+2<=1000;omega),fun l2 hl2=>?_⟩;have s2:=s1.trans (Ze (o:=.lst (xs++[.bl b1,.bl b2])) hl2);exact k l2 _ Zb (s2 _ _ hx) s2
theorem zi6{D:Og}{v0 v1:Option V}{vr:List (Option V)}{l e c1 C:Addr}{H:Hp}{b1:Bool}{xs:List V}(hx:H e=some (excO e (.ref C)))(hl:H l=some (.lst xs))(hz:xs.length<=100)(ei:Fo K C)(k1:PySem.W.kitOne K (.ref C) (.ref c1)=some b1)(k2:PySem.W.kitOne K (.ref C) (.type "ValueError")=some true)
  (k:∀ l' H',H' l'=some (.lst (xs++[.bl b1,.bl true]))->Same H H'->D.nx (v0 :: v1 :: some (.ref l') :: some (.ref e) :: vr) H') :
  Cy (tOp zgh (tVar 2) (tLst (Tv (tCB (rIsI K) (Tv (tVar 3) (Tv (tC (V.ref c1)) tNil))) (Tv (tCB (rIsI K) (Tv (tVar 3) (Tv (tC (V.ty "ValueError")) tNil))) tNil)))) (Ve 2) D (v0 :: v1 :: some (.ref l) :: some (.ref e) :: vr) H:=by
 refine⟨_,rfl,_,rfl,_,_,_,_,rfl,.exc rfl rfl hx ei,.inr ⟨_,rfl⟩,k1,_,rfl,_,_,_,_,rfl,.exc rfl rfl hx ei,.inl ⟨_,rfl⟩,k2,sz2,fun l1 hl1=>?_⟩;have s1:=Ze (o:=.lst [.bl b1,.bl true]) hl1;refine⟨l,l1,xs,_,rfl,rfl,s1 _ _ hl,Zb,szN (by show xs.length+2<=1000;omega),fun l2 hl2=>?_⟩;have s2:=s1.trans (Ze (o:=.lst (xs++[.bl b1,.bl true])) hl2);exact k l2 _ Zb s2
abbrev Of:Stmt:=top 68
theorem Yi:Zm ["_law_season","_law_deed","_law_names","e","_law_words"] ["_law_season","_law_deed"] (Zj Of):=fnS
theorem Cu(F:Fun K "_law_done" "_law_done" Of f fd)(T:Tx K mg a)(zpv:Yh P w K mg base "_law_do" 8 ["_law_season","_law_deed"] (zfm K (ca a))):FnOk P w K mg base (CX1 P w) 9 f fd ["_law_season","_law_deed"] (spF (zdq K (ca a))):=by
 refine FnOk.frame ?_;refine F.okX Yi ⋯ fun _ _ _ _ H _ Q E hr h=>?_;obtain⟨A',S,t,d,rfl,SA,hd,sd,co,po,hz,hoz,htot,hl,hol,hbk,hE,h⟩:=h;have hu:=Wu hr;refine⟨_,(Zc (pS 2 Yi.nd (Z5 Zd))
 (Zc (zcm (as:=[]) (i:=3) zaq Yi.nd rfl rfl T.zp8 rfl T.zqa
  (fun E1 lk1 pn1 EX1 hl1 hO hP =>
  (Zf (Zo (Z2 (Za Zl (Za (Ag zpv (hr.mono ⋯) hP rfl (Za (pv 0) (Za (pv 1) Zd))) Zd))))))
  (fun a1 =>
  (Zc (pS 2 Yi.nd (Z5 (Za (Zq (Yb (K:=K) rfl) (by rfl) T.zki PyProof.Rows.boot_isinstance (Za (pv 3) (Za (Xv rfl T.zp2) Zd))) (Za (Zq (Yb (K:=K) rfl) (by rfl) T.zki PyProof.Rows.boot_isinstance (Za (pv 3) (Za (Xv rfl T.zpf) Zd))) Zd))))
  (Zc (pS 2 Yi.nd (Zt X7 (pv 2) (Z5 (Za (Zq (Yb (K:=K) rfl) (by rfl) T.zki PyProof.Rows.boot_isinstance (Za (pv 3) (Za (Xv rfl T.zob) Zd))) (Za (Zq (Yb (K:=K) rfl) (by rfl) T.zki PyProof.Rows.boot_isinstance (Za (pv 3) (Za (Xv rfl T.zoo) Zd))) Zd)))))
  (Zc (pS 2 Yi.nd (Zt X7 (pv 2) (Z5 (Za (Zq (Yb (K:=K) rfl) (by rfl) T.zki PyProof.Rows.boot_isinstance (Za (pv 3) (Za (Xv rfl T.zoi) Zd))) (Za (Zq (Yb (K:=K) rfl) (by rfl) T.zki PyProof.Rows.boot_isinstance (Za (pv 3) (Za (Xv rfl T.zqg) Zd))) Zd)))))
  (Zc (pS 2 Yi.nd (Zt X7 (pv 2) (Z5 (Za (Zq (Yb (K:=K) rfl) (by rfl) T.zki PyProof.Rows.boot_isinstance (Za (pv 3) (Za (Xv rfl T.zpt) Zd))) (Za (Zq (Yb (K:=K) rfl) (by rfl) T.zki PyProof.Rows.boot_isinstance (Za (pv 3) (Za (Xv rfl T.zpu) Zd))) Zd)))))
  (Zc (pS 2 Yi.nd (Zt X7 (pv 2) (Z5 (Za (Zq (Yb (K:=K) rfl) (by rfl) T.zki PyProof.Rows.boot_isinstance (Za (pv 3) (Za (Xv rfl T.zp7) Zd))) (Za (Zq (Yb (K:=K) rfl) (by rfl) T.zki PyProof.Rows.boot_isinstance (Za (pv 3) (Za (Xv rfl T.zp3) Zd))) Zd)))))
  (Zc (pS 2 Yi.nd (Zt X7 (pv 2) (Z5 (Za (Zq (Yb (K:=K) rfl) (by rfl) T.zki PyProof.Rows.boot_isinstance (Za (pv 3) (Za (Xv rfl T.zpo) Zd))) (Za (Zq (Yb (K:=K) rfl) (by rfl) T.zki PyProof.Rows.boot_isinstance (Za (pv 3) (Za (Xv rfl T.zqj) Zd))) Zd)))))
  (Zc (pS 2 Yi.nd (Zt X7 (pv 2) (Z5 (Za (Zq (Yb (K:=K) rfl) (by rfl) T.zki PyProof.Rows.boot_isinstance (Za (pv 3) (Za (Xv rfl T.zqc) Zd))) (Za (Zq (Yb (K:=K) rfl) (by rfl) T.zki PyProof.Rows.boot_isinstance (Za (pv 3) (Za (Xv rfl T.zn3) Zd))) Zd)))))
  (Zf (pS 2 Yi.nd (Zt X7 (pv 2) (Z5 (Za (Zq (Yb (K:=K) rfl) (by rfl) T.zki PyProof.Rows.boot_isinstance (Za (pv 3) (Za (Xv rfl T.zpg) Zd))) (Za (Zq (Yb (K:=K) rfl) (by rfl) T.zki PyProof.Rows.boot_isinstance (Za (pv 3) (Za (S8 rfl T.zl9 PyProof.Rows.Boot.«ValueError» (show RelV (.ty "ValueError") _ from rfl)) Zd))) Zd)))))))))))))))
 (Zc (pS 4 Yi.nd Zl)
 (Zc (pS 4 Yi.nd (Zt G2 (pv 4) Zl))
 (Zc (pS 4 Yi.nd (zcc PySem.F.plainAttrs_str PySem.F.slot_str_split PySem.F.type_str_split zdp (Zt G2 (pv 4) Zl) (Za Zl Zd)))
 (Zf (Zo (Z2 (Za Zl (Za (Uo rfl (cT ["_law_words","_law_names"] [4,2]) (Wk rfl T.zlw (Za Zg Zd)) (fun _ _ _ _ _=>Fq (Wn (pI (iL K) (pv 2) (pv 0)))) (fun _ _ _ _ _=>(pI (iL K) (pv 1) (pv 0)))) Zd)))))))))),?_⟩
 show let y1:TS:=_;let y2:TS:=Z0 _ y1;let y3:TS:=Z0 _ y2;let y4:TS:=Z0 _ y3;let y5:TS:=Z0 _ y4;Z0 _ y5 _ _ _;intro y1 y2 y3 y4 y5;refine⟨by show 0<=sizeLine;decide,fun l0 hl0=>?_⟩;have s0:Same H (upd H l0 (.lst [])):=Ze hl0;generalize upd H l0 (.lst [])=H0 at s0;refine⟨_,rfl,_,rfl,A',S,t,d,rfl,SA.same s0,hd.same s0,sd,co,po,hz,hoz,htot,hl,hol,hbk,fun r hr H1 s1=>?_,fun hn v A2 S2 H1 af SA2 nx fr fl=>?_⟩
 ·have hne:=zdr hr;have ei:=T.ei r hne;refine⟨_,rfl,T.mB r hne,fun e he=>?_⟩;have s2:=s0.trans (s1.trans (Ze (o:=excO e (.ref (r.cls (ca a)))) he));have hx:upd H1 e (excO e (.ref (r.cls (ca a)))) e=some (excO e (.ref (r.cls (ca a)))):=Zb;generalize upd H1 e (excO e (.ref (r.cls (ca a))))=H2 at s2 hx;refine⟨_,rfl,_,_,_,_,rfl,.exc rfl rfl hx ei,.inr ⟨_,rfl⟩,T.kit r .out hne,_,rfl,_,_,_,_,rfl,.exc rfl rfl hx ei,.inr ⟨_,rfl⟩,T.kit r .known hne,sz2,fun l1 hl1=>?_⟩;have s3:=s2.trans (Ze (o:=.lst [.bl (decide (r=.out)),.bl (decide (r=.known))]) hl1);have q3:upd H2 l1 (.lst [.bl (decide (r=.out)),.bl (decide (r=.known))]) l1=some (.lst [.bl (decide (r=.out)),.bl (decide (r=.known))]):=Zb;have x3:=Ze (o:=.lst [.bl (decide (r=.out)),.bl (decide (r=.known))]) hl1 _ _ hx;generalize upd H2 l1 (.lst [.bl (decide (r=.out)),.bl (decide (r=.known))])=H3 at s3 q3 x3;walk_at "if";refine cat2 x3 q3 (by show 2<=100;decide) ei (T.kit r .many hne) (T.kit r .unk hne) fun l2 H4 q4 x4 s4=>?_;refine cat2 x4 q4 (by show 4<=100;decide) ei (T.kit r .manyM hne) (T.kit r .same hne) fun l3 H5 q5 x5 s5=>?_;refine cat2 x5 q5 (by show 6<=100;decide) ei (T.kit r .noMatch hne) (T.kit r .noRound hne) fun l4 H6 q6 x6 s6=>?_;refine cat2 x6 q6 (by show 8<=100;decide) ei (T.kit r .over hne) (T.kit r .seaOver hne) fun l5 H7 q7 x7 s7=>?_;refine cat2 x7 q7 (by show 10<=100;decide) ei (T.kit r .away hne) (T.kit r .drawn hne) fun l6 H8 q8 x8 s8=>?_;refine cat2 x8 q8 (by show 12<=100;decide) ei (T.kit r .notDrawn hne) (T.kit r .nothing hne) fun l7 H9 q9 x9 s9=>?_;refine zi6 x9 q9 (by show 14<=100;decide) ei (T.kit r .manyD hne) (T.zqm r hne) fun l8 H10 q10 s10=>?_;have sA:=s3.trans (s4.trans (s5.trans (s6.trans (s7.trans (s8.trans (s9.trans s10))))))
  replace q10:H10 l8=some (.lst (refB r)):=q10
  refine⟨_,rfl,_,_,rfl,rfl,by decide +kernel,?_⟩;refine⟨_,rfl,_,_,rfl,rfl,by decide +kernel,rfl,_,_,rfl,rfl,by decide +kernel,by decide +kernel,by decide +kernel,by decide +kernel,by decide +kernel,fun lw hlw=>?_⟩;rw[zbd];have s11:=sA.trans (Ze (o:=.lst (refW.map V.str)) hlw);have q11:upd H10 lw (.lst (refW.map V.str)) lw=some (.lst (refW.map V.str)):=Zb;have b11:=Ze (o:=.lst (refW.map V.str)) hlw _ _ q10;generalize upd H10 lw (.lst (refW.map V.str))=H11 at s11 q11 b11;refine⟨_,rfl,by decide,by decide,?_⟩;refine F1 (refP r) (fun i=>V.str (refW.getD i "")) ⋯ (fun j R hj k'=>?_) (fun j R hj _ k'=>?_) (fun lz flz=>?_)
  ·rw[zt8];exact⟨_,rfl,_,rfl,l8,_,_,_,rfl,rfl,SqL.of b11,Y3 (zds r hj),_,rfl,k'⟩
  ·rw[zt8];exact⟨_,rfl,_,rfl,lw,_,_,_,rfl,rfl,SqL.of q11,Y3 (zdt hj),k'⟩
  rw[show Int.toNat 16=16 from rfl,zbc];have s12:=s11.trans (Ze (o:=.lst [.str r.name,.str "ValueError"]) flz);have q12:upd H11 lz (.lst [.str r.name,.str "ValueError"]) lz=some (.lst [.str r.name,.str "ValueError"]):=Zb;generalize upd H11 lz (.lst [.str r.name,.str "ValueError"])=H12 at s12 q12;refine⟨sz2,fun u hu'=>hE r hr u lz _ Zb (Ze hu' _ _ q12) (s12.trans (Ze hu')) (s12.free hu')⟩
 ·refine⟨sz2,fun u hu'=>?_⟩;have s1:=Ze (o:=HO.tup [V.str "told",v]) hu';exact h hn u v A2 S2 _ Zb (af.same s1) (SA2.same s1) (nx.back s0) ((FrS.of A' s0).trans (fr.trans (FrS.of A' s1))) (SA2.newOk u hu')
abbrev Tp:Stmt:=top 69
theorem Wy:Zm ["_law_matches_here","_law_home","_law_guest","_law_grade"] ["_law_matches_here"] (Zj Tp):=fnS
theorem Lg(F:Fun K "_law_due_draw" "_law_due_draw" Tp f fd)(T:Tx K mg a):FnOk P w K mg base (CX1 P w) 1 f fd ["_law_matches_here"] (G4 K):=by
 refine F.okX Wy ⋯ fun _ _ _ _ H _ Q E hr h=>?_;obtain⟨l,ts,ms,rfl,hl,tl,hml,h⟩:=h;refine⟨_,(Zc (Z1 (Zn Tu (Zq (cL K) (by rfl) T.zli PySem.boot_len (Za (pv 0) Zd)) Zg (Zr _))
  (Zf (Zo Zl))
  Zs)
 (Zc (Vi PassesOwn.leaving rfl (Yz (K:=K) rfl (pv 0)) (Ug (K:=K) (n:=3) rfl rfl (Ya (pN 1 Wy.nd) (Ya (pN 2 Wy.nd) (Ya (pN 3 Wy.nd) Ue))))
  (Zf (Z1 (PW.pt (V1 (Zn Hr (Zq (zar rfl) (by rfl) T.zqh PyProof.Rows.boot_min (Za (pv 1) (Za (pv 2) (Za (pv 3) Zd)))) Zg (Zr _)) (V1 (Zn Tu (Zq (Hs rfl) (by rfl) T.zpz PyProof.Rows.boot_max (Za (pv 1) (Za (pv 2) Zd))) Zg (Zr _)) (W3 (Zn Tu (pv 3) Zg (Zr _))))))
   (Zf (Zo Zl))
   Zs)))
 (Zf (Zo (pI (iL K) (Z5 (Za Zl (Za Zl Zd))) (Xc Qs (by rfl) T.zog PyProof.Rows.boot_int (Za (Zq (zas (K:=K) rfl rfl) (by rfl) T.zqd PyProof.Rows.boot_any (Za (Uo rfl (cT [] []) (Yz (K:=K) rfl (pv 0)) (fun _ _ _ _ _=>Wv) (fun _ _ _ _ _=>(Ux Y6 (pI (iU K) (pv 0) Zg) (pI (iU K) (pv 0) Zg) (Zr _)))) Zd)) Zd))))))),?_⟩
 have htl:ts.length=ms.length:=by rw[tl.length,zsg]
 have hh:=h;unfold Ls at hh
 haveI:Decidable (X4 ms):=Classical.propDecidable _
 refine Yn (Uh (b:=decide ((20:Int)<(ts.length:Int))) (fun Q q=>⟨_,rfl,l,ts,rfl,.inl (SqL.of hl),_,_,rfl,rfl,_,rfl,q⟩) (itB (fun hb=>?_) (fun hb=>Zu ?_)))
 ·have:=hh H (.refl _);have:=of_decide_eq_true hb;rw[if_pos ⋯] at *
  assumption
 have h1:¬ 20<ms.length:=by have:=of_decide_eq_false hb;omega
 dsimp only
 let jv2:Nat->L2.St->Hp->Prop:=fun i σ H'=>(∃ v1 v2 v3,σ=[some (.ref l),v1,v2,v3])/\H'=H/\∀ m∈ms.take i,¬ badM m
 refine⟨_,rfl,l,rfl,⟨_,SqL.of hl⟩,Ui (K:=K) (a:=l) (xs:=ts) jv2 ⟨⟨_,_,_,rfl⟩,rfl,by simp⟩ (fun i σ H' _ z=>by rw[z.2.1];exact SqL.of hl) ?_ ?_⟩
 ·rintro i x σ H' hx ⟨⟨v1,v2,v3,rfl⟩,rfl,hg⟩;obtain⟨tp,m,rfl,hm,htm⟩:=Bj tl hx;refine⟨tp,_,rfl,SqT.of htm,rfl,_,_,rfl,_,_,rfl,_,_,rfl,rfl,?_⟩;walk_at "if";have etk:=Sw hm;refine Uh (b:=decide ((if m.2.1<m.1 then if m.2.2<m.2.1 then m.2.2 else m.2.1 else if m.2.2<m.1 then m.2.2 else m.1)<1)||(decide (99<(if m.2.1>m.1 then m.2.1 else m.1))||decide (9<m.2.2))) (R8 (fun Q q=>⟨_,rfl,_,rfl,_,rfl,_,_,_,rfl,_,_,rfl,rfl,_,rfl,q⟩) (R8 (fun Q q=>⟨_,rfl,_,rfl,_,_,rfl,_,_,rfl,rfl,_,rfl,q⟩) (fun Q q=>⟨_,rfl,_,_,rfl,rfl,_,rfl,q⟩))) (itB (fun hb=>?_) (fun hb=>Zu ?_))
  ·have:=hh H' (.refl _);have hbad:Vn ms:=⟨m,zsu hm,by
    rw[Bool.or_eq_true,Bool.or_eq_true,decide_eq_true_eq,decide_eq_true_eq,decide_eq_true_eq] at hb;unfold badM;rcases hb with z|z|z
    ·revert z;split<;>split<;>intro z<;>omega
    ·revert z;split<;>intro z<;>omega
    ·omega⟩
   rw[if_neg h1,if_pos hbad] at this;exact this
  ·refine⟨⟨_,_,_,rfl⟩,rfl,fun m' hm'=>?_⟩;rw[etk] at hm';rcases zsv.mp hm' with z|z
   ·exact hg m' z
   ·rw[zsl.mp z];rw[Bool.or_eq_false_iff,Bool.or_eq_false_iff,decide_eq_false_iff_not,decide_eq_false_iff_not,decide_eq_false_iff_not] at hb;obtain⟨z1,z2,z3⟩:=hb;unfold badM
    revert z1 z2
    split<;>split<;>split<;>intro z1 z2<;>omega
 rintro σ H' ⟨⟨v1,v2,v3,rfl⟩,rfl,hg⟩;rw[htl,zs0] at hg;have h2:¬ Vn ms:=fun ⟨m,hm,hb⟩=>hg m hm hb;dsimp only;refine⟨sz2,fun l1 f1=>?_⟩;have s1:=Ze (o:=.lst [.str "",.str "SameClub"]) f1;have q1:=Zb (H:=H') (a:=l1) (o:=.lst [.str "",.str "SameClub"]);generalize upd H' l1 (.lst [.str "",.str "SameClub"])=H1 at s1 q1 ⊢;have tl1:=tl.same s1;refine⟨_,rfl,l,rfl,⟨_,SqL.of (s1 _ _ hl)⟩,V7 (K:=K) (a:=l) (xs:=ts) (fun i ys Hy=>Hy=H1/\ys=((ms.take i).map fun m=>decide (m.1=m.2.1)).map V.bl) ⟨rfl,rfl⟩ (fun i ys Hy _ z=>by rw[z.1];exact SqL.of (s1 _ _ hl)) (szN ⋯) (fun i ys Hy z=>by rw[z.2,zsg,zsg];exact zum _ _) ?_ ?_⟩
 ·rintro i x ys Hy hx ⟨rfl,rfl⟩;obtain⟨tp,m,rfl,hm,htm⟩:=Bj tl1 hx;unfold tYes;dsimp only;rw[if_pos rfl];refine⟨_,rfl,tp,_,_,_,rfl,rfl,SqT.of htm,(show atI (pV m) 0=some _ from rfl),_,rfl,tp,_,_,_,rfl,rfl,SqT.of htm,(show atI (pV m) 1=some _ from rfl),rfl,rfl,?_⟩;rw[Sw hm,zsp,zsp];have e:decide (V.int m.1=V.int m.2.1)=decide (m.1=m.2.1):=decide_eq_decide.mpr ⟨fun z=>V.int.inj z,fun z=>by rw[z]⟩;rw[e];rfl
 rintro ys Hy ⟨rfl,rfl⟩ lb flb;rw[htl,zs0];refine⟨lb,_,rfl,SqL.of Zb,.inr ⟨_,rfl,l1,_,_,_,rfl,rfl,SqL.of (Ze flb _ _ q1),Lu _,?_⟩⟩;have:=hh _ (s1.trans (Ze (o:=.lst ((ms.map fun m=>decide (m.1=m.2.1)).map V.bl)) flb));rw[if_neg h1,if_neg h2] at this;have e:(List.map (fun m:P3=>decide (m.1=m.2.1)) ms).any id=decide (X4 ms):=by
  by_cases hs:X4 ms
  ·rw[zsm hs,zui];obtain⟨m,hm,z⟩:=hs;exact⟨true,zsq.mpr ⟨m,hm,zsm z⟩,rfl⟩
  ·rw[zsr hs,Bool.eq_false_iff];intro z;obtain⟨b,hb,hb2⟩:=zui.mp z;obtain⟨m,hm,rfl⟩:=zsq.mp hb;exact hs ⟨m,hm,of_decide_eq_true hb2⟩
 rw[e];by_cases hk:X4 ms
 ·rw[if_pos hk] at this;rw[zsm hk];exact this
 ·rw[if_neg hk] at this;rw[zsr hk];exact this
abbrev Uv:Stmt:=top 70
theorem Md:Zm ["_law_state","_law_deed"] ["_law_state","_law_deed"] (Zj Uv):=fnS
theorem Me(F:Fun K "_law_due_first" "_law_due_first" Uv f fd)(T:Tx K mg a)(znf:Yh P w K mg base "_law_due_draw" 1 ["_law_matches_here"] (G4 K)):FnOk P w K mg base (CX1 P w) 2 f fd ["_law_state","_law_deed"] (O0 K):=by
 refine F.okX Md ⋯ fun _ _ _ _ H _ Q E hr h=>?_;obtain⟨d,lp,lo,ll,t,S,D,nu,rfl,X,hD,d25,hp,hle,hpl,h⟩:=h;have hu:=Wu hr;refine⟨_,(Zc (Z1 (PW.pt (Pj (Zn Y6 (pI (iU K) (pv 1) Zg) Zl (Zr _)) (S9 (PW.pt (V1 (Zn Hr (pI (iU K) (pv 1) Zg) Zg (Zr _)) (W3 (Zn Tu (pI (iU K) (pv 1) Zg) (pD hu (pv 0) Zl) (Zr _))))))))
  (Zf (Zo Zl))
  Zs)
 (Zc (Z1 (PW.pt (Pj (Zn Y6 (pI (iU K) (pv 1) Zg) Zl (Zr _)) (S9 (Zn zbw (pI (iU K) (pv 1) Zg) (pD hu (pv 0) Zl) (Zr _)))))
  (Zf (Zo Zl))
  Zs)
 (Zc (Z1 (PW.pt (Pj (Zn Y6 (pI (iU K) (pv 1) Zg) Zl (Zr _)) (S9 (Zn (Jy (K:=K) rfl) (pI (iU K) (pv 1) Zg) (pD hu (pv 0) Zl) (by with_unfolding_all rfl)))))
  (Zf (Zo Zl))
  Zs)
 (Zc (Z1 (Zn Y6 (pI (iU K) (pv 1) Zg) Zl (Zr _))
  (Zf (Zo (pI (iL K) (Z5 (Za Zl (Za Zl Zd))) (Xc Qs (by rfl) T.zog PyProof.Rows.boot_int (Za (Ux (Ec (K:=K) rfl hr.units) (Z2 (Za (pI (iU K) (pv 1) Zg) (Za (pI (iU K) (pv 1) Zg) Zd))) (pD hu (pv 0) Zl) (by with_unfolding_all rfl)) Zd)))))
  Zs)
 (Zc (Z1 (Wn (pD hu (pv 0) Zl))
  (Zf (Zo Zl))
  Zs)
 (Zc (Z1 (Zn Y6 (pI (iU K) (pv 1) Zg) Zl (Zr _))
  (Zf (Zo (pF znf hr (Za (pI (iU K) (pv 1) Zg) Zd))))
  Zs)
 (Zc (Z1 (PW.pt (V1 (Zn Tu (pI (iU K) (pv 1) Zg) Zg (Zr _)) (W3 (Zn Tu (pI (iU K) (pv 1) Zg) Zg (Zr _)))))
  (Zf (Zo Zl))
  Zs)
 (Zc (Z1 (Zn (Pn (K:=K) rfl) (pI (iU K) (pv 1) Zg) (pD hu (pv 0) Zl) (by with_unfolding_all rfl))
  (Zf (Zo Zl))
  Zs)
 (Zf (Zo (pI (iL K) (Z5 (Za Zl (Za Zl Zd))) (Xc Qs (by rfl) T.zog PyProof.Rows.boot_int (Za (Ux Y6 (Zq (cL K) (by rfl) T.zli PySem.boot_len (Za (pD hu (pv 0) Zl) Zd)) Zg (Zr _)) Zd))))))))))))),?_⟩
 show let y1:TS:=_;let y2:TS:=Z0 _ y1;let y3:TS:=Z0 _ y2;let y4:TS:=Z0 _ y3;let y5:TS:=Z0 _ y4;let y6:TS:=Z0 _ y5;let y7:TS:=Z0 _ y6;let y8:TS:=Z0 _ y7;Z0 _ y8 _ _ _;intro y1 y2 y3 y4 y5 y6 y7 y8;obtain⟨ots,o1,o2⟩:=X.oo;have gd:=X.dd;have p1:=X.pp;have hh:=h;have e0:¬ S.len<=S.led.length:=by omega
 obtain⟨rw,hw⟩:=hD.word;have hw0:atI (V.str (Wm D) :: rw) 0=some (V.str (Wm D)):=Y3 (j:=0) rfl;by_cases ha:∃ i n,D=.away i n
 ·obtain⟨i,n,rfl⟩:=ha;have wa:decide (V.str (Wm (.away i n))=V.str "away")=true:=zsm rfl;have ht:H t=some (.tup [.str "away",.int i,.int n]):=hD;have hr:dueW (Qf S) (.away i n)=if i<1\/(S.len:Int)<i then "NoSuchRound" else if i<=S.led.length then "RoundOver" else if n∈S.ppl.map (·.1) then (if (i,n)∈S.out then "AwayAlready" else "") else "UnknownReferee":=by
   unfold dueW;simp only[refS];show (match (if i<1\/(S.len:Int)<i then _ else if i<=S.led.length then _ else if n∈S.ppl.map (·.1) then (if (i,n)∈S.out then _ else _) else _) with|some r=>Ref.name r|none=>_)=_;by_cases c1:i<1\/(S.len:Int)<i
   ·rw[if_pos c1,if_pos c1];rfl
   rw[if_neg c1,if_neg c1];by_cases c2:i<=S.led.length
   ·rw[if_pos c2,if_pos c2];rfl
   rw[if_neg c2,if_neg c2];by_cases c3:n∈S.ppl.map (·.1)
   ·rw[if_pos c3,if_pos c3];by_cases c4:(i,n)∈S.out
    ·rw[if_pos c4,if_pos c4];rfl
    ·rw[if_neg c4,if_neg c4];rfl
   ·rw[if_neg c3,if_neg c3];rfl
  rw[hr] at hh;refine Yn ?_;refine⟨_,rfl,t,_,_,_,rfl,rfl,SqT.of hw,hw0,rfl,_,rfl,?_⟩;rw[wa];refine iteT (R8 (b:=decide (i<1)) (c:=decide ((S.len:Int)<i)) (fun Q q=>⟨_,rfl,t,_,_,_,rfl,rfl,SqT.of ht,rfl,_,_,rfl,rfl,_,rfl,q⟩) (fun Q q=>⟨_,rfl,t,_,_,_,rfl,rfl,SqT.of ht,rfl,_,rfl,d,_,rfl,DGet.k (k:=.inr "rounds") gd,_,_,rfl,rfl,_,rfl,q⟩) _ (itB (fun hb=>?_) (fun hb=>Zu ?_)))
  ·have:=hh H (.refl _);rw[if_pos (by simpa using hb)] at this;exact this
  have h1:¬ (i<1\/(S.len:Int)<i):=by simpa using hb
  dsimp only;refine Yn ?_;refine⟨_,rfl,t,_,_,_,rfl,rfl,SqT.of hw,hw0,rfl,_,rfl,?_⟩;rw[wa];refine iteT ⟨_,rfl,t,_,_,_,rfl,rfl,SqT.of ht,rfl,_,rfl,d,_,rfl,DGet.k (k:=.inr "over") gd,_,_,rfl,rfl,_,rfl,itB (fun hb=>?_) (fun hb=>Zu ?_)⟩
  ·have:=hh H (.refl _);rw[if_neg h1,if_pos (of_decide_eq_true hb)] at this;exact this
  have h2:¬ i<=(S.led.length:Int):=of_decide_eq_false hb;dsimp only;refine Yn ?_;refine⟨_,rfl,t,_,_,_,rfl,rfl,SqT.of hw,hw0,rfl,_,rfl,?_⟩;rw[wa];refine iteT ⟨_,rfl,t,_,_,_,rfl,rfl,SqT.of ht,rfl,_,rfl,d,_,rfl,DGet.k (k:=.inr "people") gd,lp,_,rfl,.inl (SqL.of p1),rfl,G5 _,_,rfl,?_⟩;rw[if_pos rfl,F2];refine itB (fun hb=>?_) (fun hb=>Zu ?_)
  ·have:=hh H (.refl _);rw[if_neg h1,if_neg h2,if_neg (by simpa using hb)] at this;exact this
  have h3:n∈S.ppl.map (·.1):=of_decide_eq_true (by rw[<- Bool.not_not (decide _),hb];rfl);dsimp only;refine Yn ?_;refine⟨_,rfl,t,_,_,_,rfl,rfl,SqT.of hw,hw0,rfl,_,rfl,?_⟩;rw[wa];refine iteT ⟨sz2,fun l1 f1=>?_⟩;have s2:=Ze (o:=.lst [.str "",.str "AwayAlready"]) f1;have q2:=Zb (H:=H) (a:=l1) (o:=.lst [.str "",.str "AwayAlready"]);generalize upd H l1 (.lst [.str "",.str "AwayAlready"])=H2 at s2 q2 ⊢;refine⟨_,rfl,t,_,_,_,rfl,rfl,SqT.of (s2 _ _ ht),rfl,_,rfl,t,_,_,_,rfl,rfl,SqT.of (s2 _ _ ht),rfl,sz2,fun t3 f3=>?_⟩;have s3:=Ze (o:=.tup [.int i,.int n]) f3;have q3:=Zb (H:=H2) (a:=t3) (o:=.tup [.int i,.int n]);generalize upd H2 t3 (.tup [.int i,.int n])=H3 at s3 q3 ⊢;have s03:=s2.trans s3;refine⟨_,rfl,d,_,rfl,DGet.k (k:=.inr "out") (s03 _ _ gd),t3,lo,ots,_,_,S.out,rfl,rfl,SqT.of q3,SqL.of (s03 _ _ o1),o2.same s03,.inr ⟨_,rfl,l1,_,_,_,rfl,rfl,SqL.of (s3 _ _ q2),Lu _,?_⟩⟩;have:=hh H3 s03;rw[if_neg h1,if_neg h2,if_pos h3] at this;rw[if_neg (show ¬ false=true by decide)];by_cases hk:(i,n)∈S.out
  ·rw[if_pos hk] at this;rw[zsm hk];exact this
  ·rw[if_neg hk] at this;rw[zsr hk];exact this
 have hna:∀ i n,D≠.away i n:=fun i n e=>ha ⟨i,n,e⟩;have hwa:decide (V.str (Wm D)=V.str "away")=false:=by
  cases D with
  | enrol n g c=>exact V0 (show decide (("enrol":Str)="away")=false by decide +kernel)
  | draw ms=>exact V0 (show decide (("draw up":Str)="away")=false by decide +kernel)
  | close=>exact absurd rfl hp.2
  | away i n=>exact absurd rfl (hna i n)
  | back=>exact absurd rfl hp.1
 refine Yn ?_;refine⟨_,rfl,t,_,_,_,rfl,rfl,SqT.of hw,hw0,rfl,_,rfl,?_⟩;rw[hwa];refine iteF (iteF (Zu ?_));dsimp only;refine Yn ?_;refine⟨_,rfl,t,_,_,_,rfl,rfl,SqT.of hw,hw0,rfl,_,rfl,?_⟩;rw[hwa];refine iteF (iteF (Zu ?_));dsimp only;refine Yn ?_;refine⟨_,rfl,t,_,_,_,rfl,rfl,SqT.of hw,hw0,rfl,_,rfl,?_⟩;rw[hwa];refine iteF (iteF (Zu ?_));dsimp only;refine Yn ?_;refine⟨_,rfl,t,_,_,_,rfl,rfl,SqT.of hw,hw0,rfl,_,rfl,?_⟩;rw[hwa];refine iteF (Zu ?_);dsimp only;refine Yn ?_;refine⟨_,rfl,d,_,rfl,DGet.k (k:=.inr "drawn") gd,_,rfl,itB (fun hb'=>?_) (fun hb'=>Zu ?_)⟩
 ·have:=hh H (.refl _);have er:refS (Qf S) D=some .drawn:=by
   cases D with
   | enrol n g c=>simp only[refS];exact(if_neg e0).trans (if_pos hb')
   | draw ms=>simp only[refS];exact(if_neg e0).trans (if_pos hb')
   | close=>exact absurd rfl hp.2
   | away i n=>exact absurd rfl (hna i n)
   | back=>exact absurd rfl hp.1
  rw[Sx er] at this;exact this
 have e1:¬ S.cur.isSome=true:=by rw[hb'];decide
 dsimp only;refine Yn ?_;refine⟨_,rfl,t,_,_,_,rfl,rfl,SqT.of hw,hw0,rfl,_,rfl,?_⟩;cases D with
 | close=>exact absurd rfl hp.2
 | away i n=>exact absurd rfl (hna i n)
 | back=>exact absurd rfl hp.1
 | draw ms =>
   rw[show decide (V.str (Wm (.draw ms))=V.str "draw up")=true from zsm rfl];obtain⟨l,ts,ht,hl,tl,_⟩:∃ l ts,H t=some (.tup [.str "draw up",.ref l])/\H l=some (.lst ts)/\Zy H ts (ms.map pV)/\True:=hD;rw[Ck (S:=Qf S) e0 e1 (by show 0<100;decide)] at hh;exact iteT ⟨_,rfl,t,_,_,_,rfl,rfl,SqT.of ht,rfl,l,ts,ms,rfl,hl,tl,d25.dr ms rfl,fun H1 s1=>hh H1 s1⟩
 | enrol n g c =>
   rw[show decide (V.str (Wm (.enrol n g c))=V.str "draw up")=false from V0 (show decide (("enrol":Str)="draw up")=false by decide +kernel)];refine iteF (Zu ?_);dsimp only;have ht:H t=some (.tup [.str "enrol",.int n,.int g,.int c]):=hD;obtain⟨k1,k2,k3,k4,_⟩:=d25.en n g c rfl;have hr:dueW (Qf S) (.enrol n g c)=if badI n g c then "OutOfRange" else if n∈S.ppl.map (·.1) then "KnownReferee" else if 30<=S.ppl.length then "TooManyReferees" else "":=by
    unfold dueW;simp only[refS];show (match (if S.len<=S.led.length then _ else if S.cur.isSome=true then _ else if badI n g c then _ else if n∈S.ppl.map (·.1) then _ else if 30<=S.ppl.length then _ else _) with|some r=>Ref.name r|none=>_)=_;rw[if_neg e0,if_neg e1];by_cases c1:badI n g c
    ·rw[if_pos c1,if_pos c1];rfl
    rw[if_neg c1,if_neg c1];by_cases c3:n∈S.ppl.map (·.1)
    ·rw[if_pos c3,if_pos c3];rfl
    rw[if_neg c3,if_neg c3];by_cases c4:30<=S.ppl.length
    ·rw[if_pos c4,if_pos c4];rfl
    ·rw[if_neg c4,if_neg c4];rfl
   rw[hr] at hh;refine Yn (Uh (b:=decide (n>999)||decide (g>9)) (R8 (fun Q q=>⟨_,rfl,t,_,_,_,rfl,rfl,SqT.of ht,rfl,_,_,rfl,rfl,_,rfl,q⟩) (fun Q q=>⟨_,rfl,t,_,_,_,rfl,rfl,SqT.of ht,rfl,_,_,rfl,rfl,_,rfl,q⟩)) (itB (fun hb=>?_) (fun hb=>Zu ?_)))
   ·have hbad:badI n g c:=by
     have:n>999\/g>9:=by simpa using hb
     unfold badI;omega
    have:=hh H (.refl _);rw[if_pos hbad] at this;exact this
   have hgood:¬ badI n g c:=by
    have:¬ (n>999\/g>9):=by simpa using hb
    unfold badI;omega
   dsimp only;refine Yn (Uh (b:=decide (n∈S.ppl.map (·.1))) (fun Q q=>⟨_,rfl,t,_,_,_,rfl,rfl,SqT.of ht,rfl,_,rfl,d,_,rfl,DGet.k (k:=.inr "people") gd,lp,_,rfl,.inl (SqL.of p1),rfl,G5 _,_,rfl,by rw[if_neg (show ¬ false=true by decide),F2];exact q⟩) (itB (fun hk=>?_) (fun hk=>Zu ?_)))
   ·have:=hh H (.refl _);rw[if_neg hgood,if_pos (of_decide_eq_true hk)] at this;exact this
   have h3:=of_decide_eq_false hk;dsimp only;refine⟨sz2,fun l1 f1=>?_⟩;have s2:=Ze (o:=.lst [.str "",.str "TooManyReferees"]) f1;have q2:=Zb (H:=H) (a:=l1) (o:=.lst [.str "",.str "TooManyReferees"]);generalize upd H l1 (.lst [.str "",.str "TooManyReferees"])=H2 at s2 q2 ⊢;refine⟨_,rfl,d,_,rfl,DGet.k (k:=.inr "people") (s2 _ _ gd),lp,_,rfl,.inl (SqL.of (s2 _ _ p1)),rfl,.inr ⟨_,rfl,l1,_,_,_,rfl,rfl,SqL.of q2,Lu _,?_⟩⟩;have:=hh H2 s2;rw[if_neg hgood,if_neg h3] at this;rw[zsg,zsg];by_cases c4:30<=S.ppl.length
   ·rw[if_pos c4] at this;rw[zsm (congrArg V.int ⋯)];exact this
   ·rw[if_neg c4] at this;rw[zsr (fun z=>c4 (by have:=V.int.inj z;omega))];exact this
abbrev Mf:Stmt:=top 71
theorem Jr:Zm ["_law_state","_law_deed","_law_word"] ["_law_state","_law_deed"] (Zj Mf):=fnS
theorem B1(F:Fun K "_law_due" "_law_due" Mf f fd)(T:Tx K mg a)(zmv:Yh P w K mg base "_law_due_first" 2 ["_law_state","_law_deed"] (O0 K)):FnOk P w K mg base (CX1 P w) 3 f fd ["_law_state","_law_deed"] (A6 K):=by
 refine F.okX Jr ⋯ fun _ _ _ _ H _ Q E hr h=>?_;obtain⟨d,lp,lo,ll,t,S,D,nu,rfl,X,hD,d25,hle,hbc,hst,hpl,h⟩:=h;have hu:=Wu hr;refine⟨_,(Zc (Z1 (PW.pt (V1 (Zn Y6 (pI (iU K) (pv 1) Zg) Zl (Zr _)) (W3 (Zn Y6 (pI (iU K) (pv 1) Zg) Zl (Zr _)))))
  (Zf (Zo Zl))
  Zs)
 (Zc (pS 2 Jr.nd (pF zmv hr (Za (pv 0) (Za (pv 1) Zd))))
 (Zc (Z1 (PW.pt (Pj (Zn Y6 (pv 2) Zl (Zr _)) (S9 (Zn Y6 (Zq (cL K) (by rfl) T.zli PySem.boot_len (Za (pD hu (pv 0) Zl) Zd)) Zg (Zr _)))))
  (Zf (Zo Zl))
  Zs)
 (Zf (Zo (pv 2)))))),?_⟩
 have gd:=X.dd;obtain⟨lts,g1,g2⟩:=X.gg;have hlt:lts.length=S.std.length:=by rw[g2.length,zsg]
 obtain⟨rw,hw⟩:=hD.word;have hw0:atI (V.str (Wm D) :: rw) 0=some (V.str (Wm D)):=Y3 (j:=0) rfl;refine Yn ?_;refine⟨_,rfl,t,_,_,_,rfl,rfl,SqT.of hw,hw0,rfl,_,rfl,?_⟩;by_cases hb:D=.back
 ·have:=h H (.refl _);rw[Sy (hbc (.inl hb))] at this;subst hb;rw[G3];exact iteT (iteT this)
 rw[A4 hb];refine iteF ?_;refine⟨_,rfl,t,_,_,_,rfl,rfl,SqT.of hw,hw0,rfl,_,rfl,?_⟩;by_cases hc:D=.close
 ·have:=h H (.refl _);rw[Sy (hbc (.inr hc))] at this;subst hc;rw[show decide (V.str (Wm .close)=V.str "close")=true from zsm rfl];exact iteT this
 have hwc:decide (V.str (Wm D)=V.str "close")=false:=by
  cases D with
  | enrol n g c=>exact V0 (show decide (("enrol":Str)="close")=false by decide +kernel)
  | draw ms=>exact V0 (show decide (("draw up":Str)="close")=false by decide +kernel)
  | close=>exact absurd rfl hc
  | away i n=>exact V0 (show decide (("away":Str)="close")=false by decide +kernel)
  | back=>exact absurd rfl hb
 rw[hwc];refine iteF (Zu ?_);refine⟨_,rfl,_,rfl,d,lp,lo,ll,t,S,D,nu,rfl,X,hD,d25,⟨hb,hc⟩,hle ⟨hb,hc⟩,hpl,fun H1 s1=>?_⟩;have hh:=h H1 s1;rw[ze7 ⟨hb,hc⟩ hst] at hh;walk_at "if";refine Yn ?_;refine⟨_,rfl,rfl,_,rfl,?_⟩;by_cases he:dueW (Qf S) D=""
 ·rw[if_pos he] at hh;rw[he,strT];refine iteT ⟨_,rfl,d,_,rfl,DGet.k (k:=.inr "log") (s1 _ _ gd),ll,lts,rfl,.inl (SqL.of (s1 _ _ g1)),rfl,_,rfl,?_⟩;rw[hlt];by_cases hf:S.std.length=100
  ·rw[if_pos hf] at hh;rw[zsm (congrArg V.int ⋯)];exact iteT hh
  ·rw[if_neg hf] at hh;rw[zsr (fun z=>hf (by have:=V.int.inj z;omega))];refine iteF (Zu ?_);exact⟨_,rfl,hh⟩
 ·rw[if_neg he] at hh;rw[zsr (fun z=>he (V.str.inj z))];refine iteF (iteF (Zu ?_));exact⟨_,rfl,hh⟩
abbrev Qp:Stmt:=top 72
theorem Vz:Zm ["_law_state","_law_deed","_law_at_here","_law_word","_law_number","_law_day"] ["_law_state","_law_deed"] (Zj Qp):=fnS
theorem Ek(F:Fun K "_law_moved" "_law_moved" Qp f fd)(T:Tx K mg a):FnOk P w K mg base (CX1 P w) 1 f fd ["_law_state","_law_deed"] (Fc K):=by
 refine F.okX Vz ⋯ fun _ _ _ _ H _ Q E hr h=>?_;obtain⟨d,lp,lo,ll,t,S,S',D,v,H0,rfl,X,hD,g,af,hdx,hnw,hpl,hsl,hol,h⟩:=h;have hu:=Wu hr;refine⟨_,(Zc (pS 2 Vz.nd (Zt Y1 (pD hu (pv 0) Zl) Zg))
 (Zf (Z1 (Zn Y6 (pI (iU K) (pv 1) Zg) Zl (Zr _))
  (Zc (zbr (Bd PySem.F.plainAttrs_list PySem.F.slot_list_pop PySem.F.type_list_pop zce (pD hu (pv 0) Zl)) (Ug (K:=K) (n:=3) rfl rfl (Ya (pN 3 Vz.nd) (Ya (pN 4 Vz.nd) (Ya (pN 5 Vz.nd) Ue)))))
  (Zf (Z1 (Zn Y6 (pv 3) Zl (Zr _))
   (Zf (Z6 (zcc PySem.F.plainAttrs_list PySem.F.slot_list_remove PySem.F.type_list_remove (Bs (K:=K) rfl hr.units) (pD hu (pv 0) Zl) (Za (Z2 (Za (pv 5) (Za (pv 4) Zd))) Zd))))
   (Zf (Wl hu (pv 0) Zl Vd rfl)))))
  (Zf (Z1 (Zn Y6 (pI (iU K) (pv 1) Zg) Zl (Zr _))
   (Zc (Wl hu (pv 0) Zl (pv 2) rfl)
   (Zc (Wl hu (pv 0) Zl Vd rfl)
   (Zf (Wl hu (pv 0) Zl (Z5 Zd) rfl))))
   (Zf (Z1 (Zn Y6 (pI (iU K) (pv 1) Zg) Zl (Zr _))
    (Zc (Yt (pD hu (pv 0) Zl) (Z2 (Za (pI (iU K) (pv 1) Zg) (Za (pI (iU K) (pv 1) Zg) Zd))))
    (Zf (Yt (pD hu (pv 0) Zl) (Z2 (Za Zl (Za (pI (iU K) (pv 1) Zg) (Za (pI (iU K) (pv 1) Zg) Zd)))))))
    (Zf (Z1 (Zn Y6 (pI (iU K) (pv 1) Zg) Zl (Zr _))
     (Zc (Yt (pD hu (pv 0) Zl) (pI (iU K) (pv 1) Zg))
     (Zf (Yt (pD hu (pv 0) Zl) (Z2 (Za Zl (Za (pI (iU K) (pv 1) Zg) (Za (pv 2) Zd)))))))
     (Zc (Wl hu (pv 0) Zl Vd rfl)
     (Zf (Yt (pD hu (pv 0) Zl) (Z2 (Za Zl (Za (Zq (cL K) (by rfl) T.zli PySem.boot_len (Za (pI (iU K) (pv 1) Zg) Zd)) (Za (pv 2) Zd)))))))))))))))),?_⟩
 show let y1:TS:=_;let y2:TS:=_;let y3:TS:=Z0 _ y2;let y4:TS:=(zaa _ (Z0 _ y1) (zaa _ (Z0 _ y3) _));Z0 _ y4 _ _ _;intro y1 y2 y3 y4;obtain⟨gd,p1,⟨ots,o1,o2⟩,⟨lts,g1,g2⟩,n1,n2,n3⟩:=id X;have hlt:lts.length=S.std.length:=by rw[g2.length,zsg]
 have hot:ots.length=S.out.length:=by rw[o2.length,zsg]
 have dlp:d≠lp:=Ye gd p1 (by intro z;cases z);have dlo:d≠lo:=Ye gd o1 (by intro z;cases z);have dll:d≠ll:=Ye gd g1 (by intro z;cases z);have sz6:6<sizeLine:=by rw[sizeLine_eq];decide
 have sz3:3<=sizeLine:=by rw[sizeLine_eq];decide
 obtain⟨rw,hw⟩:=hD.word;have hw0:atI (V.str (Wm D) :: rw) 0=some (V.str (Wm D)):=Y3 (j:=0) rfl;refine⟨_,rfl,d,_,rfl,DGet.k (k:=.inr "over") gd,_,_,rfl,rfl,?_⟩;walk_at "if";by_cases hb:D=.back
 ·subst hb;have ht:H t=some (.tup [.str "take back"]):=hD;refine⟨_,rfl,t,_,_,_,rfl,rfl,SqT.of ht,rfl,rfl,_,rfl,?_⟩;rw[strT];refine iteT (Yn ?_);cases af with
  | @back S0 dd tt hs _ hst =>
    have dx:=hdx rfl dd S'.cur hs;rw[hs,zsp] at g2;obtain⟨lts0,tl,rfl,g3,htl⟩:=Zy.unsnoc g2;refine⟨_,rfl,d,_,rfl,DGet.k (k:=.inr "log") gd,.inl ⟨rfl,_,SqL.of g1⟩,ll,_,V.ref tl,rfl,rfl,g1,by simp,?_⟩;rw[List.dropLast_concat];have k1:∀ x o,H x=some o->x≠ll->upd H ll (.lst lts0) x=some o:=fun x o e n=>by rw[Zi n];exact e
    have kt1:∀ x ys,H x=some (.tup ys)->upd H ll (.lst lts0) x=some (.tup ys):=fun x ys e=>k1 _ _ e (Ye e g1 (by intro z;cases z));have q1:=Zb (H:=H) (a:=ll) (o:=.lst lts0);have gd1:=k1 _ _ gd dll;have p11:=k1 _ _ p1 n2;have o11:=k1 _ _ o1 n3;have o21:=o2.mono kt1;have g31:=g3.mono kt1;have htl1:=kt1 _ _ htl;generalize upd H ll (.lst lts0)=H1 at k1 kt1 q1 gd1 p11 o11 o21 g31 htl1 ⊢;refine⟨tl,_,rfl,SqT.of htl1,rfl,_,_,rfl,_,_,rfl,_,_,rfl,rfl,?_⟩;obtain⟨d',a1,a2,a3,a4,a5,a6⟩:=hst;have ed:d'=dd:=by
     obtain⟨_,e2⟩:=zt2 (a1.symm.trans hs) rfl;exact(Prod.mk.inj (List.cons.inj e2).1).1
    subst ed;have w1:("enrol":Str)≠"away":=by decide +kernel
    have w2:("enrol":Str)≠"draw up":=by decide +kernel
    have w3:("draw up":Str)≠"away":=by decide +kernel
    walk_at "if";refine⟨_,rfl,rfl,_,rfl,?_⟩;rcases a2 with ⟨x1,_⟩|⟨x1,x2,x3,x4⟩|⟨x1,x2,x3⟩
    ·exact absurd x1 (hnw rfl _ _ hs)
    ·rw[show decide (V.str d'.1=V.str "away")=true by rw[x1];exact strT];refine iteT ?_;rw[x3,zsp] at o21;obtain⟨ots0,tq,rfl,o31,htq⟩:=Zy.unsnoc o21;have hol0:ots0.length=S'.out.length:=by rw[o31.length,zsg]
     refine⟨_,rfl,d,_,rfl,DGet.k (k:=.inr "out") gd1,.inl ⟨rfl,_,SqL.of o11⟩,_,rfl,_,rfl,sz2,fun tp ftp=>?_⟩;have s2:=Ze (o:=.tup [.int d'.2.2,.int d'.2.1]) ftp;have q2:=Zb (H:=H1) (a:=tp) (o:=.tup [.int d'.2.2,.int d'.2.1]);generalize upd H1 tp (.tup [.int d'.2.2,.int d'.2.1])=H2 at s2 q2 ⊢;refine⟨lo,tp,_,d'.2.2,d'.2.1,S.out,S'.out.length,rfl,rfl,s2 _ _ o11,SqT.of q2,?_,by rw[x3];exact ze4 _ _,fun m hm=>by rw[x3];exact ze5 x4 m hm,?_⟩
     ·rw[x3,zsp];exact o21.same s2
     rw[<- hol0,Bt];have k2:∀ x o,H2 x=some o->x≠lo->upd H2 lo (.lst ots0) x=some o:=fun x o e n=>by rw[Zi n];exact e
     have kt2:∀ x ys,H1 x=some (.tup ys)->upd H2 lo (.lst ots0) x=some (.tup ys):=fun x ys e=>k2 _ _ (s2 _ _ e) (Ye (s2 _ _ e) (s2 _ _ o11) (by intro z;cases z));refine h ll _ ⟨?_,k2 _ _ (s2 _ _ (by rw[x2];exact p11)) n1,⟨ots0,Zb,o31.mono kt2⟩,⟨lts0,k2 _ _ (s2 _ _ q1) n3.symm,g31.mono kt2⟩,n1,n2,n3⟩ (fun x o e m1 m2 m3 m4=>k2 _ _ (s2 _ _ (k1 _ _ e m4)) m3) (.inl rfl);have:=k2 _ _ (s2 _ _ gd1) dlo;rcases dx with ⟨y,_⟩|⟨_,y⟩
     ·exact absurd (y.symm.trans x1) w3
     ·rw[<- a3,<- a5,y];exact this
    ·rw[show decide (V.str d'.1=V.str "away")=false by rw[x1];exact V0 (show decide (("draw up":Str)="away")=false by decide +kernel)];refine iteF ?_;refine⟨_,rfl,d,_,rfl,DPut.k (k:=.inr "drawn") gd1 sz6,?_⟩;have k2:∀ x o,H1 x=some o->x≠d->upd H1 d (.dK (Xf S.len S.led.length false lp lo ll)) x=some o:=fun x o e n=>by rw[Zi n];exact e
     have kt2:∀ x ys,H1 x=some (.tup ys)->upd H1 d (.dK (Xf S.len S.led.length false lp lo ll)) x=some (.tup ys):=fun x ys e=>k2 _ _ e (Ye e gd1 (by intro z;cases z));refine h ll (upd H1 d (.dK (Xf S.len S.led.length false lp lo ll))) ⟨?_,k2 _ _ (by rw[x2];exact p11) dlp.symm,⟨ots,k2 _ _ o11 dlo.symm,by rw[x3];exact o21.mono kt2⟩,⟨lts0,k2 _ _ q1 dll.symm,g31.mono kt2⟩,n1,n2,n3⟩ (fun x o e m1 m2 m3 m4=>k2 _ _ (k1 _ _ e m4) m1) (.inl rfl);rcases dx with ⟨_,y⟩|⟨y,_⟩
     ·rw[<- a3,<- a5,y];exact Zb
     ·exact absurd x1 y
 refine⟨_,rfl,t,_,_,_,rfl,rfl,SqT.of hw,hw0,rfl,_,rfl,?_⟩;rw[A4 hb];refine iteF ?_;refine⟨_,rfl,t,_,_,_,rfl,rfl,SqT.of hw,hw0,rfl,_,rfl,?_⟩;by_cases hc:D=.close
 ·subst hc;cases af with
  | @close s hs =>
  rw[show decide (V.str (Wm .close)=V.str "close")=true from zsm rfl];refine iteT (Yn ?_);refine⟨_,rfl,_,rfl,d,_,rfl,DPut.k (k:=.inr "over") gd sz6,?_⟩;have k1:∀ x o,H x=some o->x≠d->upd H d (.dK (Xf S.len ((S.led.length:Int)+1) S.cur.isSome lp lo ll)) x=some o:=fun x o e n=>by rw[Zi n];exact e
  have q1:=Zb (H:=H) (a:=d) (o:=.dK (Xf S.len ((S.led.length:Int)+1) S.cur.isSome lp lo ll));show Z0 _ _ _ _ (upd H d (.dK (Xf S.len ((S.led.length:Int)+1) S.cur.isSome lp lo ll)));generalize upd H d (.dK (Xf S.len ((S.led.length:Int)+1) S.cur.isSome lp lo ll))=H1 at k1 q1 ⊢;refine⟨_,rfl,d,_,rfl,DPut.k (k:=.inr "drawn") q1 sz6,?_⟩;have k2:∀ x o,H1 x=some o->x≠d->upd H1 d (.dK (Xf S.len ((S.led.length:Int)+1) false lp lo ll)) x=some o:=fun x o e n=>by rw[Zi n];exact e
  have q2:=Zb (H:=H1) (a:=d) (o:=.dK (Xf S.len ((S.led.length:Int)+1) false lp lo ll));show y2 _ _ (upd H1 d (.dK (Xf S.len ((S.led.length:Int)+1) false lp lo ll)));generalize upd H1 d (.dK (Xf S.len ((S.led.length:Int)+1) false lp lo ll))=H2 at k2 q2 ⊢;refine⟨zs1 _,fun l9 f9=>⟨_,rfl,d,_,rfl,DPut.k (k:=.inr "log") (Ze f9 _ _ q2) sz6,?_⟩⟩;have s3:=Ze (o:=.lst []) f9;have q3:=Zb (H:=H2) (a:=l9) (o:=.lst []);have n9:l9≠d:=fun z=>by rw[z,q2] at f9;cases f9
  have p13:=s3 _ _ (k2 _ _ (k1 _ _ p1 dlp.symm) dlp.symm);have o13:=s3 _ _ (k2 _ _ (k1 _ _ o1 dlo.symm) dlo.symm);have n9p:lp≠l9:=Zh (k2 _ _ (k1 _ _ p1 dlp.symm) dlp.symm) f9;have n9o:lo≠l9:=Zh (k2 _ _ (k1 _ _ o1 dlo.symm) dlo.symm) f9;generalize upd H2 l9 (.lst [])=H3 at s3 q3 p13 o13 ⊢;have k4:∀ x o,H3 x=some o->x≠d->upd H3 d (.dK (Xf S.len ((S.led.length:Int)+1) false lp lo l9)) x=some o:=fun x o e n=>by rw[Zi n];exact e
  have kall:∀ x o,H x=some o->x≠d->upd H3 d (.dK (Xf S.len ((S.led.length:Int)+1) false lp lo l9)) x=some o:=fun x o e n=>k4 _ _ (s3 _ _ (k2 _ _ (k1 _ _ e n) n)) n;refine h l9 (upd H3 d (.dK (Xf S.len ((S.led.length:Int)+1) false lp lo l9))) ⟨?_,k4 _ _ p13 dlp.symm,⟨ots,k4 _ _ o13 dlo.symm,o2.mono fun x ys e=>kall _ _ e (Ye e gd (by intro z;cases z))⟩,⟨[],k4 _ _ q3 n9,.nil⟩,n1,n9p,n9o⟩ (fun x o e m1 _ _ _=>kall _ _ e m1) (.inr ?_)
  ·rw[Zb];show some (HO.dK (Xf S.len ((S.led.length:Int)+1) false lp lo l9))=some (HO.dK (Xf S.len (((S.led++[Wd s]).length:Nat):Int) false lp lo l9));rw[zsh];rfl
  ·cases hq:H l9 with
   | none=>rfl
   | some o =>
     have:=k2 _ _ (k1 _ _ hq n9) n9;rw[f9] at this;cases this
 have hwc:decide (V.str (Wm D)=V.str "close")=false:=by
  cases D with
  | enrol n g c=>exact V0 (show decide (("enrol":Str)="close")=false by decide +kernel)
  | draw ms=>exact V0 (show decide (("draw up":Str)="close")=false by decide +kernel)
  | close=>exact absurd rfl hc
  | away i n=>exact V0 (show decide (("away":Str)="close")=false by decide +kernel)
  | back=>exact absurd rfl hb
 rw[hwc];refine iteF ?_;refine⟨_,rfl,t,_,_,_,rfl,rfl,SqT.of hw,hw0,rfl,_,rfl,?_⟩;have app:∀ {H3:Hp} {te:Addr} {dd:Xs} (lp' lo':Addr),H3 ll=some (.lst lts)->H3 te=some (.tup (Xb dd))->(∀ x o,H3 x=some o->x≠ll->upd H3 ll (.lst (lts++[.ref te])) x=some o)/\(∀ x ys,H3 x=some (.tup ys)->upd H3 ll (.lst (lts++[.ref te])) x=some (.tup ys)):=by
  intro H3 te dd _ _ e1 e2;have k4:∀ x o,H3 x=some o->x≠ll->upd H3 ll (.lst (lts++[.ref te])) x=some o:=fun x o e n=>by rw[Zi n];exact e
  exact⟨k4,fun x ys e=>k4 _ _ e (Ye e e1 (by intro z;cases z))⟩
 cases D with
 | back=>exact absurd rfl hb
 | close=>exact absurd rfl hc
 | away i n =>
   obtain⟨a1,a2,a3,a4,a5,a6⟩:=af.aw;have ht:H t=some (.tup [.str "away",.int i,.int n]):=hD;rw[show decide (V.str (Wm (.away i n))=V.str "away")=true from zsm rfl];refine iteT (Yn ?_);refine⟨_,rfl,d,_,rfl,DGet.k (k:=.inr "out") gd,lo,ots,rfl,o1,_,rfl,t,_,_,_,rfl,rfl,SqT.of ht,rfl,_,rfl,t,_,_,_,rfl,rfl,SqT.of ht,rfl,sz2,fun tp ftp=>?_⟩;have s1:=Ze (o:=.tup [.int i,.int n]) ftp;have q1:=Zb (H:=H) (a:=tp) (o:=.tup [.int i,.int n]);generalize upd H tp (.tup [.int i,.int n])=H1 at s1 q1 ⊢;refine⟨ots,s1 _ _ o1,szN ⋯,?_⟩;have k2:∀ x o,H1 x=some o->x≠lo->upd H1 lo (.lst (ots++[.ref tp])) x=some o:=fun x o e n=>by rw[Zi n];exact e
   have q2:=Zb (H:=H1) (a:=lo) (o:=.lst (ots++[.ref tp]));have kt2:∀ x ys,H1 x=some (.tup ys)->upd H1 lo (.lst (ots++[.ref tp])) x=some (.tup ys):=fun x ys e=>k2 _ _ e (Ye e (s1 _ _ o1) (by intro z;cases z));generalize upd H1 lo (.lst (ots++[.ref tp]))=H2 at k2 q2 kt2 ⊢;have gd2:=k2 _ _ (s1 _ _ gd) dlo;have g12:=k2 _ _ (s1 _ _ g1) n3.symm;dsimp only;refine⟨_,rfl,d,_,rfl,DGet.k (k:=.inr "log") gd2,ll,lts,rfl,g12,_,rfl,t,_,_,_,rfl,rfl,SqT.of (kt2 _ _ (s1 _ _ ht)),rfl,_,rfl,t,_,_,_,rfl,rfl,SqT.of (kt2 _ _ (s1 _ _ ht)),rfl,sz3,fun te fte=>?_⟩;have s3:=Ze (o:=.tup [.str "away",.int n,.int i]) fte;have q3:upd H2 te (.tup [.str "away",.int n,.int i]) te=some (.tup (Xb (("away":Str),n,i))):=Zb;show ∃ ys,upd H2 te (.tup [.str "away",.int n,.int i]) ll=_/\_/\_;generalize upd H2 te (.tup [.str "away",.int n,.int i])=H3 at s3 q3 ⊢;refine⟨lts,s3 _ _ g12,szN ⋯,?_⟩;obtain⟨k4,kt4⟩:=app lp lo (s3 _ _ g12) q3;have ktA:∀ x ys,H x=some (.tup ys)->upd H3 ll (.lst (lts++[.ref te])) x=some (.tup ys):=fun x ys e=>kt4 _ _ (s3 _ _ (kt2 _ _ (s1 _ _ e)));refine h ll _ ⟨by rw[a1,a2,a6];exact k4 _ _ (s3 _ _ gd2) dll,by rw[a3];exact k4 _ _ (s3 _ _ (k2 _ _ (s1 _ _ p1) n1)) n2,⟨ots++[.ref tp],k4 _ _ (s3 _ _ q2) n3,?_⟩,⟨lts++[.ref te],Zb,?_⟩,n1,n2,n3⟩ (fun x o e m1 m2 m3 m4=>k4 _ _ (s3 _ _ (k2 _ _ (s1 _ _ e) m3)) m4) (.inl rfl)
   ·rw[a4,zsp];exact Zy.snoc (kt4 _ _ (s3 _ _ (kt2 _ _ q1))) (o2.mono ktA)
   ·rw[a5,zsp];exact Zy.snoc (kt4 _ _ q3) (g2.mono ktA)
 | enrol n gr c =>
   cases af with
   | enrol =>
   have ht:H t=some (.tup [.str "enrol",.int n,.int gr,.int c]):=hD;rw[show decide (V.str (Wm (.enrol n gr c))=V.str "away")=false from V0 (show decide (("enrol":Str)="away")=false by decide +kernel)];refine iteF ?_;refine⟨_,rfl,t,_,_,_,rfl,rfl,SqT.of hw,hw0,rfl,_,rfl,?_⟩;rw[show decide (V.str (Wm (.enrol n gr c))=V.str "enrol")=true from zsm rfl];refine iteT (Yn ?_);refine⟨_,rfl,d,_,rfl,DGet.k (k:=.inr "people") gd,lp,_,rfl,p1,_,rfl,t,_,_,_,rfl,rfl,SqT.of ht,rfl,_,p1,szN (by rw[zsg,zsg];omega),?_⟩;have k2:∀ x o,H x=some o->x≠lp->upd H lp (.lst ((S.ppl.map (·.1)).map V.int++[.int n])) x=some o:=fun x o e n=>by rw[Zi n];exact e
   have q2:=Zb (H:=H) (a:=lp) (o:=.lst ((S.ppl.map (·.1)).map V.int++[.int n]));have kt2:∀ x ys,H x=some (.tup ys)->upd H lp (.lst ((S.ppl.map (·.1)).map V.int++[.int n])) x=some (.tup ys):=fun x ys e=>k2 _ _ e (Ye e p1 (by intro z;cases z));dsimp only;show tApp _ _ _ _ (upd H lp (.lst ((S.ppl.map (·.1)).map V.int++[.int n])));generalize upd H lp (.lst ((S.ppl.map (·.1)).map V.int++[.int n]))=H2 at k2 q2 kt2 ⊢;have gd2:=k2 _ _ gd dlp;have g12:=k2 _ _ g1 n2.symm;refine⟨_,rfl,d,_,rfl,DGet.k (k:=.inr "log") gd2,ll,lts,rfl,g12,_,rfl,t,_,_,_,rfl,rfl,SqT.of (kt2 _ _ ht),rfl,_,rfl,sz3,fun te fte=>?_⟩;have s3:=Ze (o:=.tup [.str "enrol",.int n,.int ((S.led.length:Int)+1)]) fte;have q3:upd H2 te (.tup [.str "enrol",.int n,.int ((S.led.length:Int)+1)]) te=some (.tup (Xb (("enrol":Str),n,atV S))):=Zb;show ∃ ys,upd H2 te (.tup [.str "enrol",.int n,.int ((S.led.length:Int)+1)]) ll=_/\_/\_;generalize upd H2 te (.tup [.str "enrol",.int n,.int ((S.led.length:Int)+1)])=H3 at s3 q3 ⊢;refine⟨lts,s3 _ _ g12,szN ⋯,?_⟩;obtain⟨k4,kt4⟩:=app lp lo (s3 _ _ g12) q3;have ktA:∀ x ys,H x=some (.tup ys)->upd H3 ll (.lst (lts++[.ref te])) x=some (.tup ys):=fun x ys e=>kt4 _ _ (s3 _ _ (kt2 _ _ e));refine h ll _ ⟨k4 _ _ (s3 _ _ gd2) dll,(k4 _ _ (s3 _ _ q2) n2).trans ?_,⟨ots,k4 _ _ (s3 _ _ (k2 _ _ o1 n1.symm)) n3,o2.mono ktA⟩,⟨lts++[.ref te],Zb,?_⟩,n1,n2,n3⟩ (fun x o e m1 m2 m3 m4=>k4 _ _ (s3 _ _ (k2 _ _ e m2)) m4) (.inl rfl)
   ·show _=some (HO.lst (((S.ppl++[(n,gr,c)]).map (·.1)).map V.int));rw[zsp,zsp];rfl
   ·show Zy _ _ ((S.std++[((("enrol":Str),n,atV S),S.cur)]).map fun x=>Xb x.1);rw[zsp];exact Zy.snoc (kt4 _ _ q3) (g2.mono ktA)
 | draw ms =>
   cases af with
   | @draw _ gv l hl F T =>
   obtain⟨lm,ts,ht,hlm,tl,_⟩:∃ l ts,H t=some (.tup [.str "draw up",.ref l])/\H l=some (.lst ts)/\Zy H ts (ms.map pV)/\True:=hD;have htl:ts.length=ms.length:=by rw[tl.length,zsg]
   rw[show decide (V.str (Wm (.draw ms))=V.str "away")=false from V0 (show decide (("draw up":Str)="away")=false by decide +kernel)];refine iteF ?_;refine⟨_,rfl,t,_,_,_,rfl,rfl,SqT.of hw,hw0,rfl,_,rfl,?_⟩;rw[show decide (V.str (Wm (.draw ms))=V.str "enrol")=false from V0 (show decide (("draw up":Str)="enrol")=false by decide +kernel)];refine iteF (Yn ?_);refine⟨_,rfl,d,_,rfl,DPut.k (k:=.inr "drawn") gd sz6,?_⟩;have k1:∀ x o,H x=some o->x≠d->upd H d (.dK (Xf S.len S.led.length true lp lo ll)) x=some o:=fun x o e n=>by rw[Zi n];exact e
   have q1:=Zb (H:=H) (a:=d) (o:=.dK (Xf S.len S.led.length true lp lo ll));have kt1:∀ x ys,H x=some (.tup ys)->upd H d (.dK (Xf S.len S.led.length true lp lo ll)) x=some (.tup ys):=fun x ys e=>k1 _ _ e (Ye e gd (by intro z;cases z));dsimp only;show tApp _ _ _ _ (upd H d (.dK (Xf S.len S.led.length true lp lo ll)));generalize upd H d (.dK (Xf S.len S.led.length true lp lo ll))=H1 at k1 q1 kt1 ⊢;have g11:=k1 _ _ g1 dll.symm;have hlm1:=k1 _ _ hlm (Ye hlm gd (by intro z;cases z));refine⟨_,rfl,d,_,rfl,DGet.k (k:=.inr "log") q1,ll,lts,rfl,g11,_,rfl,t,_,_,_,rfl,rfl,SqT.of (kt1 _ _ ht),rfl,lm,ts,rfl,.inl (SqL.of hlm1),_,rfl,sz3,fun te fte=>?_⟩;rw[htl];have s3:=Ze (o:=.tup [.str "draw up",.int (ms.length:Int),.int ((S.led.length:Int)+1)]) fte;have q3:upd H1 te (.tup [.str "draw up",.int (ms.length:Int),.int ((S.led.length:Int)+1)]) te=some (.tup (Xb (("draw up":Str),(ms.length:Int),atV S))):=Zb;show ∃ ys,upd H1 te (.tup [.str "draw up",.int (ms.length:Int),.int ((S.led.length:Int)+1)]) ll=_/\_/\_;generalize upd H1 te (.tup [.str "draw up",.int (ms.length:Int),.int ((S.led.length:Int)+1)])=H3 at s3 q3 ⊢;refine⟨lts,s3 _ _ g11,szN ⋯,?_⟩;obtain⟨k4,kt4⟩:=app lp lo (s3 _ _ g11) q3;have ktA:∀ x ys,H x=some (.tup ys)->upd H3 ll (.lst (lts++[.ref te])) x=some (.tup ys):=fun x ys e=>kt4 _ _ (s3 _ _ (kt1 _ _ e));refine h ll _ ⟨k4 _ _ (s3 _ _ q1) dll,k4 _ _ (s3 _ _ (k1 _ _ p1 dlp.symm)) n2,⟨ots,k4 _ _ (s3 _ _ (k1 _ _ o1 dlo.symm)) n3,o2.mono ktA⟩,⟨lts++[.ref te],Zb,?_⟩,n1,n2,n3⟩ (fun x o e m1 m2 m3 m4=>k4 _ _ (s3 _ _ (k1 _ _ e m1)) m4) (.inl rfl);show Zy _ _ ((S.std++[((("draw up":Str),(ms.length:Int),atV S),S.cur)]).map fun x=>Xb x.1);rw[zsp];exact Zy.snoc (kt4 _ _ q3) (g2.mono ktA)
abbrev Ts:Stmt:=top 73
theorem Wz:Zm ["_law_season","_law_state","_law_deeds","_law_deed","_law_due_here","_law_told"] ["_law_season","_law_state","_law_deeds"] (Zj Ts):=fnS
theorem Lh(F:Fun K "_law_all_done" "_law_all_done" Ts f fd)(T:Tx K mg a)(zos:Yh P w K mg base "_law_due" 3 ["_law_state","_law_deed"] (A6 K))(zoc:Yh P w K mg base "_law_done" 9 ["_law_season","_law_deed"] (spF (zdq K (ca a))))(zn6:Yh P w K mg base "_law_moved" 1 ["_law_state","_law_deed"] (Fc K))(zmr:Yh P w K mg base "_law_deeds_are" 4 ["_law_found","_law_due_here"] (Kw K))(znc:Zv P w K mg base a.zkc "deeds" 1 ["self"] (Aw (ca a)))(znm:Yh P w K mg base "_law_list_is" 3 ["_law_found","_law_due_here"] (De K))(zl6:Zv P w K mg base a.zkc "referees" 2 ["self"] (Kt (ca a))):FnOk P w K mg base (CX1 P w) 10 f fd ["_law_season","_law_state","_law_deeds"] (Mt K (ca a)):=by
 refine F.okX Wz ⋯ fun _ _ _ _ H _ Q E hr h=>?_;obtain⟨A',S,d,lp,lo,ll,l,X,ts,Ds,nu,n,rfl,I0,hXl,hl,tl0,dk,can0,hst0,hn8,h⟩:=h;have hu:=Wu hr;refine⟨_,(Zc (Vi PassesOwn.leaving rfl (Yz (K:=K) rfl (pv 2)) (pN 3 Wz.nd)
  (Zc (pS 4 Wz.nd (pF zos hr (Za (pv 1) (Za (pv 3) Zd))))
  (Zc (pS 5 Wz.nd (pF zoc hr (Za (pv 0) (Za (pv 3) Zd))))
  (Zc (Z1 (PW.pt (Pj (Zn Oh (pv 4) Zl (Zr _)) (S9 (PW.pt (V1 (Zn Oh (pI (iU K) (pv 5) Zg) Zl (Zr _)) (W3 (Zn (zeo (K:=K) rfl hr.units) (pI (iU K) (pv 5) Zg) (Z5 (Za (pv 4) (Za Zl Zd))) (Zr _))))))))
   (Zf (Zo Vd))
   Zs)
  (Zc (Z1 (PW.pt (Pj (Zn Y6 (pv 4) Zl (Zr _)) (S9 (Zn Oh (pI (iU K) (pv 5) Zg) Zl (Zr _)))))
   (Zf (Zo Vd))
   Zs)
  (Zc (Z1 (Zn Y6 (pv 4) Zl (Zr _))
   (Zf (Z6 (pF zn6 hr (Za (pv 1) (Za (pv 3) Zd)))))
   Zs)
  (Zc (Z1 (V6 (Wn (pF zmr hr (Za (Yk (pv 0) T.zkd znc (hr.mono ⋯) Zk) (Za (pD hu (pv 1) Zl) Zd)))))
   (Zf (Zo Vd))
   Zs)
  (Zf (Z1 (V6 (Wn (pF znm hr (Za (Yk (pv 0) T.zkd zl6 (hr.mono ⋯) Zk) (Za (pD hu (pv 1) Zl) Zd)))))
   (Zf (Zo Vd))
   Zs)))))))))
 (Zf (Zo Vd))),?_⟩
 show let y1:TS:=_;let y2:TS:=Z0 _ y1;let y3:TS:=Z0 _ y2;let y4:TS:=Z0 _ y3;let y5:TS:=Z0 _ y4;let y6:TS:=Z0 _ y5;let y7:TS:=_;Z0 (zfz _ _ (Z0 _ y6)) y7 _ _ _;intro y1 y2 y3 y4 y5 y6 y7;have htl:=tl0.len
 let jv1:Nat->L2.St->Hp->Prop:=fun i σ H'=>∃ ll2 A2 S2 v3 v4 v5,σ=[some (.ref A'.p),some (.ref d),some (.ref l),v3,v4,v5]/\A2.p=A'.p/\In23 (ca a) E25 nu d lp lo ll2 X A2 S2 (n+i) H'/\(∀ x o,X x->H x=some o->H' x=some o)/\Z4 (·∉A2.fp) (hide (B23 d lp lo ll2 X) H') ts Ds/\FrN A' A2 (hide (B23 d lp lo ll X) H) (hide (B23 d lp lo ll2 X) H')/\Runs S (Ds.take i) S2/\Can S2 (Ds.drop i)/\S2.std.length<=100
 refine⟨_,rfl,l,rfl,⟨_,SqL.of hl⟩,Ui (K:=K) (a:=l) (xs:=ts) jv1 ⟨ll,A',S,_,_,_,rfl,rfl,I0,fun _ _ _ e=>e,tl0,FrN.refl _ _,.nil,can0,hst0⟩ (fun i σ H' _ ⟨_,_,_,_,_,_,_,_,_,z,_⟩=>SqL.of (z _ _ hXl hl)) ?_ ?_⟩
 ·rintro i x σ H1 hx ⟨ll2,A2,S2,v3,v4,v5,rfl,eAp,I1,hX,tl1,f1,ru,can,hst⟩;obtain⟨t,D,rfl,hDi,hD⟩:=tl1.at_ i x hx;obtain⟨hil,hge⟩:=zsj.mp hDi;have d25:=dk D (zsu hDi);rw[List.drop_eq_getElem_cons hil,hge] at can;have etk:Ds.take (i+1)=Ds.take i++[D]:=by rw[zte hil,hge]
  cases can with
  | cons hb hw hle hcr hcd =>
  have so:=I1.hi.ok;have hnum:=so.num;have hfew:=so.few;have hlen2:=so.len;have htot:=so.tot;have hol:=so.olen;have hDt:Z3 (fun _=>True) H1 t D:=(hD.imp fun _ _=>trivial).same (Q4 _ _);walk_at "if";refine⟨_,rfl,_,rfl,d,lp,lo,ll2,t,S2,D,nu,rfl,I1.st,hDt,d25,hle,hb,hst,hfew,fun H2 s2=>?_⟩;have I2:=I1.same s2;have hD2:=hD.same (Vh s2);have tl2:=tl1.same (Vh s2);have f2:=f1.trans (.of (Vh s2));have hX2:∀ x o,X x->H x=some o->H2 x=some o:=fun x o z e=>s2 _ _ (hX x o z e);clear I1 hD tl1 hDt f1 hX;walk_at "if";have fin:∀ {ll3:Addr} {A3:SAd} {S3:Sea} {Hz:Hp} {v4 v5:Option V},A3.p=A'.p->In23 (ca a) E25 nu d lp lo ll3 X A3 S3 (n+(i+1)) Hz->(∀ x o,X x->H x=some o->Hz x=some o)->Z4 (·∉A3.fp) (hide (B23 d lp lo ll3 X) Hz) ts Ds->FrN A' A3 (hide (B23 d lp lo ll X) H) (hide (B23 d lp lo ll3 X) Hz)->Runs S (Ds.take (i+1)) S3->Can S3 (Ds.drop (i+1))->S3.std.length<=100->y2 { nx:=jv1 (i+1),rt:=Q,bk:=y7 { nx:=fun x H'=>Q V.non H',rt:=Q },ct:=jv1 (i+1) } [some (.ref A'.p),some (.ref d),some (.ref l),some (.ref t),v4,v5] Hz:=by
   intro ll3 A3 S3 Hz v4 v5 eAp3 J hX3 tl3 f3 ru3 can3 hst3;obtain⟨lts,g1,g2⟩:=J.st.gg;have so3:=J.hi.ok;have few3:=so3.few;have num3:=so3.num;have SAz:=J.sea.same (Q4 _ _);obtain⟨⟨dx,vv,ob,_⟩,_⟩:=id SAz;rw[eAp3] at ob;refine⟨_,rfl,A'.p,dx,_,rfl,ob,Yo ⋯,A3,S3,(by rw[eAp3];rfl),SAz,by omega,fun l6 ts6 H6 h6 tl6 s6 f6=>?_⟩;refine⟨_,rfl,d,_,rfl,DGet.k (k:=.inr "log") (s6 _ _ J.st.dd),l6,ll3,ts6,lts,S3.std.map (·.1),rfl,h6,s6 _ _ g1,(by rw[zt7];exact tl6),(by rw[zt7];exact g2.same s6),(by rw[zsg];omega),true,rfl,iteF (Zu ?_)⟩;refine⟨_,rfl,A'.p,dx,_,rfl,s6 _ _ ob,Yo ⋯,A3,S3,(by rw[eAp3];rfl),SAz.same s6,fun l4 H4 h4 s4 f4=>?_⟩;have s46:=s6.trans s4;refine⟨_,rfl,d,_,rfl,DGet.k (k:=.inr "people") (s46 _ _ J.st.dd),l4,lp,S3.ppl.map fun x=>V.int x.1,rfl,h4,SqL.of (by have:=s46 _ _ J.st.pp;rw[zt7] at this;exact this),fun x hx=>(by obtain⟨y,_,rfl⟩:=zsq.mp hx;exact .inr ⟨_,rfl⟩),(by rw[zsg];omega),true,rfl,iteF (Zu ?_)⟩;exact⟨ll3,A3,S3,_,_,_,rfl,eAp3,J.same s46,fun x o z e=>s46 _ _ (hX3 x o z e),tl3.same (Vh s46),f3.trans (.of (Vh s46)),ru3,can3,hst3⟩
  refine⟨_,rfl,_,rfl,B23 d lp lo ll2 X,I2.hok,A2,S2,t,D,(by rw[eAp];rfl),I2.sea,hD2,d25.sm,so.cur,so.pok,by omega,by omega,by omega,by omega,by omega,fun _ z=>(I2.hi.back z).imp fun _ y=>y.1,fun r hr u lr H3 hu hlr s3 fu gone=>?_,fun hno u v A3 S3 H3 hu af SA3 nx fr nu3 gone=>?_⟩
  ·have us:=Cn s3;have ut:=G8 (H:=H2) gone;have hu':=ut _ _ hu;have hlr':=ut _ _ hlr;generalize Vp (B23 d lp lo ll2 X) H2 H3=H4 at us ut hu' hlr' ⊢;rw[Sx hr];have hfn:decide (V.str r.name=V.str "")=false:=V0 (Az r);walk_at "if";refine Yn ?_;refine⟨_,rfl,rfl,_,rfl,?_⟩;rw[hfn];refine iteT ?_;refine⟨_,rfl,u,_,_,_,rfl,rfl,SqT.of hu',rfl,rfl,_,rfl,?_⟩;rw[strT];refine iteF ?_;refine⟨_,rfl,u,_,_,_,rfl,rfl,SqT.of hu',rfl,_,rfl,sz2,fun l7 f7=>?_⟩;refine⟨.lst ([r.name,"ValueError"].map Dt.str),.lst ([r.name,"ValueError"].map Dt.str),.lst (SqL.of (Ze f7 _ _ hlr')) (P1 [r.name,"ValueError"]),.lst (SqL.of Zb) (P1 [r.name,"ValueError"]),Ay _ (A0 r),Ay _ (A0 r),false,?_,iteF (Zu ?_)⟩
   ·rw[if_pos rfl,Dc];rfl
   have s7:=us.trans (Ze (o:=.lst [.str r.name,.str "ValueError"]) f7);generalize upd H4 l7 (.lst [.str r.name,.str "ValueError"])=H7 at s7 ⊢;dsimp only;refine Yn ?_;refine⟨_,rfl,rfl,_,rfl,?_⟩;rw[hfn];refine iteF (iteF (Zu ?_));dsimp only;refine Yn ?_;refine⟨_,rfl,rfl,_,rfl,?_⟩;rw[hfn];refine iteF (Zu ?_);dsimp only;exact fin eAp ((I2.same s7).mono ⋯) (fun x o z e=>s7 _ _ (hX2 x o z e)) (tl2.same (Vh s7)) (f2.trans (.of (Vh s7))) (by rw[etk];exact ru.append (.ref hr .nil)) (hcr r hr) hst
  ·obtain⟨g,hroom⟩:=zbb hno fun ms e m hm=>by subst e;exact d25.sm.1 m hm
   have hkn:∀ k gr c,D=.enrol k gr c->k∈nu:=fun k gr c e=>(d25.en k gr c e).2.2.2.2 (by rw[e] at g;exact g.2.2.1);have f:=FrN.next I2.sea nx fr;have st4:=I2.stay f.kt;have ut:=G8 (H:=H2) gone;have hD4:Z3 (fun _=>True) _ t D:=((hD2.fr f).imp fun _ _=>trivial).same ut
   have hu4:=ut _ _ hu;have af4:=af.same ut;have kb:∀ x o,B23 d lp lo ll2 X x->H2 x=some o->Vp (B23 d lp lo ll2 X) H2 H3 x=some o:=fun x o z e=>by rw[Wf z];exact e
   rw[<- Cm (H:=H2) gone] at SA3 f;have hst3:S3.std.length<=100:=by
    obtain⟨q1,q2⟩:=zbg af;by_cases hpl:D≠.close/\D≠.back
    ·have:=hroom hpl;omega
    ·have:D=.back\/D=.close:=by
      by_cases z:D=.close
      ·exact .inr z
      ·by_cases z':D=.back
       ·exact .inl z'
       ·exact absurd ⟨z,z'⟩ hpl
     have:=q2 this;omega
   have ru3:Runs S (Ds.take (i+1)) S3:=by rw[etk];exact ru.append (.done hno g af .nil)
   have can3:=hcd S3 v _ hno g af;generalize Vp (B23 d lp lo ll2 X) H2 H3=H4 at st4 ut hD4 hu4 af4 kb SA3 f ⊢;rw[Sy hno];walk_at "if";refine Yn ?_;refine⟨_,rfl,rfl,_,rfl,?_⟩;rw[strT];refine iteF (iteF (Zu ?_));dsimp only;refine Yn ?_;refine⟨_,rfl,rfl,_,rfl,?_⟩;rw[strT];refine iteT ?_;refine⟨_,rfl,u,_,_,_,rfl,rfl,SqT.of hu4,rfl,rfl,_,rfl,?_⟩;rw[strT];refine iteF (Zu ?_);dsimp only;refine Yn ?_;refine⟨_,rfl,rfl,_,rfl,?_⟩;rw[strT];refine iteT ?_;refine⟨_,rfl,_,rfl,d,lp,lo,ll2,t,S2,S3,D,v,H4,rfl,st4,hD4,g,af4,fun z=>?_,hw,by omega,by omega,by omega,fun ll8 H8 X8 k8 n8=>?_⟩
   ·subst z;cases af with
    | back h1 h2 h3 =>
      obtain⟨S1,x1,x2,_⟩:=I2.hi.back g;rw[G1 h3 x1];exact x2
   ·obtain⟨I8,f8,hX8⟩:=I2.moved SA3 f kb af4 g hkn (fun _=>trivial) X8 k8 n8;exact fin (f8.p.trans eAp) (by rw[<- Nat.add_assoc];exact I8) (fun x o z e=>hX8 x o z (hX2 x o z e)) (tl2.fr f8) (f2.trans f8) ru3 can3 hst3
 ·rintro σ H1 ⟨ll2,A2,S2,v3,v4,v5,rfl,eAp,I1,hX,tl1,f1,ru,can,hst⟩;rw[htl] at I1 ru;rw[zs0] at ru;exact h ll2 A2 S2 H1 eAp ru hst I1 f1 hX
abbrev Tt:Stmt:=top 74
theorem Xz:Zm ["_law_state","_law_numbers_here","_law_spare","_law_used","_law_deeds"] ["_law_state","_law_numbers_here","_law_spare"] (Zj Tt):=fnS
theorem Li(F:Fun K "_law_too_many" "_law_too_many" Tt f fd)(T:Tx K mg a):FnOk P w K mg base (CX1 P w) 1 f fd ["_law_state","_law_numbers_here","_law_spare"] (Fd K):=by
 refine F.okX Xz ⋯ fun _ _ _ _ H _ Q E hr h=>?_;obtain⟨d,lp,lo,ll,ln,t,S,nu,i,n,rfl,X,hst,hsm,hln,hnl,hrng,ht,si,sn,h⟩:=h;have hu:=Wu hr;refine⟨_,(Zc (pS 3 Xz.nd (pI (iL K) (pD hu (pv 0) Zl) Zg))
 (Zc (pS 4 Xz.nd (Z5 (Za (pv 2) (Za (Z2 (Za Zl (Za Zg (Za (pI (iL K) (pv 1) Zg) Zd)))) (Za (Z2 (Za Zl (Za (pI (iU K) (pv 2) Zg) (Za Zg Zd)))) (Za (Z2 (Za Zl (Za (pI (iU K) (pv 3) Zg) (Za (pI (iU K) (pv 3) Zg) Zd)))) Zd))))))
 (Zc (pS 4 Xz.nd (Zt X7 (pv 4) (Z5 (Za (Z2 (Za Zl (Za (pI (iL K) (pv 1) (Er Lz Zg)) (Za Zg (Za Zg Zd))))) (Za (Z2 (Za Zl (Za Zg (Za Zg (Za Zg Zd))))) (Za (Z2 (Za Zl (Za (pI (iL K) (pv 1) Zg) (Za Zg (Za Zg Zd))))) Zd))))))
 (Zc (pS 4 Xz.nd (Zt X7 (pv 4) (Z5 (Za (Z2 (Za Zl (Za (pI (iL K) (pv 1) (Er Lz Zg)) (Za Zg (Za Zg Zd))))) (Za (Z2 (Za Zl (Za (Z5 Zd) Zd))) (Za (Z2 (Za Zl (Za (Z5 (Za (Z2 (Za Zg (Za Zg (Za Zg Zd)))) Zd)) Zd))) Zd))))))
 (Zf (Zo (Zt X7 (pv 4) (Z5 (Za (Z2 (Za Zl (Za (Zt zgi (Z5 (Za (Z2 (Za Zg (Za Zg (Za Zg Zd)))) Zd)) Zg) Zd))) (Za (Z2 (Za Zl (Za (Z5 (Za (Z2 (Za Zg (Za Zg (Za Zg Zd)))) (Za (Z2 (Za Zg (Za Zg (Za Zg Zd)))) Zd))) Zd))) Zd)))))))))),?_⟩
 have gd:=X.dd;obtain⟨lts,g1,g2⟩:=X.gg;have sz3:3<=sizeLine:=by rw[sizeLine_eq];decide
 have hlt:lts.length=S.std.length:=by rw[g2.length,zsg]
 obtain⟨x,hx⟩:∃ x,S.std[40]?=some x:=⟨_,zsi ⋯⟩;obtain⟨tu,htu0,htu⟩:∃ tu,lts[40]?=some (.ref tu)/\H tu=some (.tup (Xb x.1)):=by
  have e:(S.std.map fun y=>Xb y.1)[40]?=some (Xb x.1):=by rw[zsn,hx];rfl
  exact g2.getR e
 have hu:=hsm x (zsu hx);obtain⟨n0,hn0,mn0⟩:∃ k,(nu.map V.int)[0]?=some (.int k)/\k∈nu:=⟨nu[0]'⋯,by rw[zsn,zsi ⋯];rfl,ztm _⟩;obtain⟨nl,hnl',mnl⟩:∃ k,atI (nu.map V.int) (-1)=some (.int k)/\k∈nu:=by
  rcases List.eq_nil_or_concat nu with z|⟨xs,y,z⟩
  ·rw[z] at hnl;cases hnl
  ·exact⟨y,by rw[z,List.concat_eq_append,zsp];exact L2.atI_last _ _,by rw[z];simp⟩
 have r0:=hrng n0 mn0;have rl:=hrng nl mnl;refine⟨_,rfl,d,_,rfl,DGet.k (k:=.inr "log") gd,ll,_,_,_,rfl,rfl,SqL.of g1,Y3 (j:=40) htu0,?_⟩;walk_at "if";refine⟨_,rfl,_,rfl,ln,_,_,_,rfl,rfl,SqL.of hln,Y3 (j:=0) hn0,sz3,fun t1 f1=>?_⟩;have s1:=Ze (o:=.tup [.str "away",.int 0,.int n0]) f1;have q1:=Zb (H:=H) (a:=t1) (o:=.tup [.str "away",.int 0,.int n0]);generalize upd H t1 (.tup [.str "away",.int 0,.int n0])=H1 at s1 q1 ⊢;have u1:=s1;refine⟨_,rfl,t,_,_,_,rfl,rfl,SqT.of (u1 _ _ ht),rfl,sz3,fun t2 f2=>?_⟩;have s2:=Ze (o:=.tup [.str "away",.int i,.int 0]) f2;have q2:=Zb (H:=H1) (a:=t2) (o:=.tup [.str "away",.int i,.int 0]);generalize upd H1 t2 (.tup [.str "away",.int i,.int 0])=H2 at s2 q2 ⊢;have u2:=u1.trans s2;refine⟨_,rfl,tu,_,_,_,rfl,rfl,SqT.of (u2 _ _ htu),rfl,_,rfl,tu,_,_,_,rfl,rfl,SqT.of (u2 _ _ htu),rfl,sz3,fun t3 f3=>?_⟩;have s3:=Ze (o:=.tup [.str "away",.int x.1.2.2,.int x.1.2.1]) f3;have q3:=Zb (H:=H2) (a:=t3) (o:=.tup [.str "away",.int x.1.2.2,.int x.1.2.1]);generalize upd H2 t3 (.tup [.str "away",.int x.1.2.2,.int x.1.2.1])=H3 at s3 q3 ⊢;have u3:=u2.trans s3;refine⟨sz4,fun l4 f4=>?_⟩;have s4:=Ze (o:=.lst [.ref t,.ref t1,.ref t2,.ref t3]) f4;have q4:=Zb (H:=H3) (a:=l4) (o:=.lst [.ref t,.ref t1,.ref t2,.ref t3]);generalize upd H3 l4 (.lst [.ref t,.ref t1,.ref t2,.ref t3])=H4 at s4 q4 ⊢;have u4:=u3.trans s4;walk_at "if";refine⟨_,rfl,_,rfl,_,rfl,ln,_,_,_,rfl,rfl,SqL.of (u4 _ _ hln),hnl',sz4,fun t4 f5=>?_⟩;have s5:=Ze (o:=.tup [.str "enrol",.int nl,.int 5,.int 5]) f5;have q5:=Zb (H:=H4) (a:=t4) (o:=.tup [.str "enrol",.int nl,.int 5,.int 5]);generalize upd H4 t4 (.tup [.str "enrol",.int nl,.int 5,.int 5])=H5 at s5 q5 ⊢;have u5:=u4.trans s5;refine⟨sz4,fun t5 f6=>?_⟩;have s6:=Ze (o:=.tup [.str "enrol",.int 1000,.int 5,.int 5]) f6;have q6:=Zb (H:=H5) (a:=t5) (o:=.tup [.str "enrol",.int 1000,.int 5,.int 5]);generalize upd H5 t5 (.tup [.str "enrol",.int 1000,.int 5,.int 5])=H6 at s6 q6 ⊢;have u6:=u5.trans s6;refine⟨_,rfl,ln,_,_,_,rfl,rfl,SqL.of (u6 _ _ hln),Y3 (j:=0) hn0,sz4,fun t6 f7=>?_⟩;have s7:=Ze (o:=.tup [.str "enrol",.int n0,.int 5,.int 5]) f7;have q7:=Zb (H:=H6) (a:=t6) (o:=.tup [.str "enrol",.int n0,.int 5,.int 5]);generalize upd H6 t6 (.tup [.str "enrol",.int n0,.int 5,.int 5])=H7 at s7 q7 ⊢;have u7:=u6.trans s7;refine⟨sz3,fun l5 f8=>?_⟩;have s8:=Ze (o:=.lst [.ref t4,.ref t5,.ref t6]) f8;have q8:=Zb (H:=H7) (a:=l5) (o:=.lst [.ref t4,.ref t5,.ref t6]);generalize upd H7 l5 (.lst [.ref t4,.ref t5,.ref t6])=H8 at s8 q8 ⊢;have u8:=u7.trans s8;refine⟨l4,l5,_,_,rfl,rfl,(s8 _ _ (s7 _ _ (s6 _ _ (s5 _ _ q4)))),q8,(by show 7<=sizeLine;rw[sizeLine_eq];decide),fun l6 f9=>?_⟩;have s9:=Ze (o:=.lst ([V.ref t,.ref t1,.ref t2,.ref t3]++[.ref t4,.ref t5,.ref t6])) f9;have q9:=Zb (H:=H8) (a:=l6) (o:=.lst ([V.ref t,.ref t1,.ref t2,.ref t3]++[.ref t4,.ref t5,.ref t6]));generalize upd H8 l6 (.lst ([V.ref t,.ref t1,.ref t2,.ref t3]++[.ref t4,.ref t5,.ref t6]))=H9 at s9 q9 ⊢;have u9:=u8.trans s9;walk_at "if";refine⟨_,rfl,_,rfl,_,rfl,ln,_,_,_,rfl,rfl,SqL.of (u9 _ _ hln),hnl',sz4,fun t7 f10=>?_⟩;have s10:=Ze (o:=.tup [.str "enrol",.int nl,.int 10,.int 5]) f10;have q10:=Zb (H:=H9) (a:=t7) (o:=.tup [.str "enrol",.int nl,.int 10,.int 5]);generalize upd H9 t7 (.tup [.str "enrol",.int nl,.int 10,.int 5])=H10 at s10 q10 ⊢;have u10:=u9.trans s10;refine⟨zs1 _,fun la f11=>?_⟩;have s11:=Ze (o:=.lst []) f11;have q11:=Zb (H:=H10) (a:=la) (o:=.lst []);generalize upd H10 la (.lst [])=H11 at s11 q11 ⊢;have u11:=u10.trans s11;refine⟨sz2,fun t8 f12=>?_⟩;have s12:=Ze (o:=.tup [.str "draw up",.ref la]) f12;have q12:=Zb (H:=H11) (a:=t8) (o:=.tup [.str "draw up",.ref la]);generalize upd H11 t8 (.tup [.str "draw up",.ref la])=H12 at s12 q12 ⊢;have u12:=u11.trans s12;refine⟨sz3,fun tm f13=>?_⟩;have s13:=Ze (o:=.tup [.int 1,.int 1,.int 1]) f13;have q13:=Zb (H:=H12) (a:=tm) (o:=.tup [.int 1,.int 1,.int 1]);generalize upd H12 tm (.tup [.int 1,.int 1,.int 1])=H13 at s13 q13 ⊢;have u13:=u12.trans s13;refine⟨sz1,fun lb f14=>?_⟩;have s14:=Ze (o:=.lst [.ref tm]) f14;have q14:=Zb (H:=H13) (a:=lb) (o:=.lst [.ref tm]);generalize upd H13 lb (.lst [.ref tm])=H14 at s14 q14 ⊢;have u14:=u13.trans s14;refine⟨sz2,fun t9 f15=>?_⟩;have s15:=Ze (o:=.tup [.str "draw up",.ref lb]) f15;have q15:=Zb (H:=H14) (a:=t9) (o:=.tup [.str "draw up",.ref lb]);generalize upd H14 t9 (.tup [.str "draw up",.ref lb])=H15 at s15 q15 ⊢;have u15:=u14.trans s15;refine⟨sz3,fun l7 f16=>?_⟩;have s16:=Ze (o:=.lst [.ref t7,.ref t8,.ref t9]) f16;have q16:=Zb (H:=H15) (a:=l7) (o:=.lst [.ref t7,.ref t8,.ref t9]);generalize upd H15 l7 (.lst [.ref t7,.ref t8,.ref t9])=H16 at s16 q16 ⊢;have u16:=u15.trans s16;refine⟨l6,l7,_,_,rfl,rfl,(s16 _ _ (s15 _ _ (s14 _ _ (s13 _ _ (s12 _ _ (s11 _ _ (s10 _ _ q9))))))),q16,(by show 10<=sizeLine;rw[sizeLine_eq];decide),fun l8 f17=>?_⟩;have s17:=Ze (o:=.lst ([V.ref t,.ref t1,.ref t2,.ref t3]++[.ref t4,.ref t5,.ref t6]++[.ref t7,.ref t8,.ref t9])) f17;have q17:=Zb (H:=H16) (a:=l8) (o:=.lst ([V.ref t,.ref t1,.ref t2,.ref t3]++[.ref t4,.ref t5,.ref t6]++[.ref t7,.ref t8,.ref t9]));generalize upd H16 l8 (.lst ([V.ref t,.ref t1,.ref t2,.ref t3]++[.ref t4,.ref t5,.ref t6]++[.ref t7,.ref t8,.ref t9]))=H17 at s17 q17 ⊢;have u17:=u16.trans s17;walk_at "if";refine⟨_,rfl,sz3,fun tn f18=>?_⟩;have s18:=Ze (o:=.tup [.int 1,.int 2,.int 3]) f18;have q18:=Zb (H:=H17) (a:=tn) (o:=.tup [.int 1,.int 2,.int 3]);generalize upd H17 tn (.tup [.int 1,.int 2,.int 3])=H18 at s18 q18 ⊢;have u18:=u17.trans s18;refine⟨sz1,fun lc f19=>?_⟩;have s19:=Ze (o:=.lst [.ref tn]) f19;have q19:=Zb (H:=H18) (a:=lc) (o:=.lst [.ref tn]);generalize upd H18 lc (.lst [.ref tn])=H19 at s19 q19 ⊢;have u19:=u18.trans s19;refine⟨lc,21,[.ref tn],rfl,rfl,q19,by decide,by decide,(by show 21<=sizeLine;rw[sizeLine_eq];decide),fun ld f20=>?_⟩;have s20:=Ze (o:=.lst (List.replicate (21:Int).toNat [V.ref tn]).flatten) f20;have q20:=Zb (H:=H19) (a:=ld) (o:=.lst (List.replicate (21:Int).toNat [V.ref tn]).flatten);generalize upd H19 ld (.lst (List.replicate (21:Int).toNat [V.ref tn]).flatten)=H20 at s20 q20 ⊢;have u20:=u19.trans s20;refine⟨sz2,fun t10 f21=>?_⟩;have s21:=Ze (o:=.tup [.str "draw up",.ref ld]) f21;have q21:=Zb (H:=H20) (a:=t10) (o:=.tup [.str "draw up",.ref ld]);generalize upd H20 t10 (.tup [.str "draw up",.ref ld])=H21 at s21 q21 ⊢;have u21:=u20.trans s21;refine⟨sz3,fun tp f22=>?_⟩;have s22:=Ze (o:=.tup [.int 1,.int 2,.int 3]) f22;have q22:=Zb (H:=H21) (a:=tp) (o:=.tup [.int 1,.int 2,.int 3]);generalize upd H21 tp (.tup [.int 1,.int 2,.int 3])=H22 at s22 q22 ⊢;have u22:=u21.trans s22;refine⟨sz3,fun tq f23=>?_⟩;have s23:=Ze (o:=.tup [.int 0,.int 4,.int 5]) f23;have q23:=Zb (H:=H22) (a:=tq) (o:=.tup [.int 0,.int 4,.int 5]);generalize upd H22 tq (.tup [.int 0,.int 4,.int 5])=H23 at s23 q23 ⊢;have u23:=u22.trans s23;refine⟨sz2,fun le f24=>?_⟩;have s24:=Ze (o:=.lst [.ref tp,.ref tq]) f24;have q24:=Zb (H:=H23) (a:=le) (o:=.lst [.ref tp,.ref tq]);generalize upd H23 le (.lst [.ref tp,.ref tq])=H24 at s24 q24 ⊢;have u24:=u23.trans s24;refine⟨sz2,fun t11 f25=>?_⟩;have s25:=Ze (o:=.tup [.str "draw up",.ref le]) f25;have q25:=Zb (H:=H24) (a:=t11) (o:=.tup [.str "draw up",.ref le]);generalize upd H24 t11 (.tup [.str "draw up",.ref le])=H25 at s25 q25 ⊢;have u25:=u24.trans s25;refine⟨sz2,fun l9 f26=>?_⟩;have s26:=Ze (o:=.lst [.ref t10,.ref t11]) f26;have q26:=Zb (H:=H25) (a:=l9) (o:=.lst [.ref t10,.ref t11]);generalize upd H25 l9 (.lst [.ref t10,.ref t11])=H26 at s26 q26 ⊢;have u26:=u25.trans s26;refine⟨l8,l9,_,_,rfl,rfl,(s26 _ _ (s25 _ _ (s24 _ _ (s23 _ _ (s22 _ _ (s21 _ _ (s20 _ _ (s19 _ _ (s18 _ _ q17))))))))),q26,(by show 12<=sizeLine;rw[sizeLine_eq];decide),fun l10 f27=>?_⟩;have s27:=Ze (o:=.lst ([V.ref t,.ref t1,.ref t2,.ref t3]++[.ref t4,.ref t5,.ref t6]++[.ref t7,.ref t8,.ref t9]++[.ref t10,.ref t11])) f27;have q27:=Zb (H:=H26) (a:=l10) (o:=.lst ([V.ref t,.ref t1,.ref t2,.ref t3]++[.ref t4,.ref t5,.ref t6]++[.ref t7,.ref t8,.ref t9]++[.ref t10,.ref t11]));generalize upd H26 l10 (.lst ([V.ref t,.ref t1,.ref t2,.ref t3]++[.ref t4,.ref t5,.ref t6]++[.ref t7,.ref t8,.ref t9]++[.ref t10,.ref t11]))=H27 at s27 q27 ⊢;have u27:=u26.trans s27;have e27:=Same.refl H27;have e26:=s27.trans e27;have e25:=s26.trans e26;have e24:=s25.trans e25;have e23:=s24.trans e24;have e22:=s23.trans e23;have e21:=s22.trans e22;have e20:=s21.trans e21;have e19:=s20.trans e20;have e18:=s19.trans e19;have e17:=s18.trans e18;have e16:=s17.trans e17;have e15:=s16.trans e16;have e14:=s15.trans e15;have e13:=s14.trans e14;have e12:=s13.trans e13;have e11:=s12.trans e12;have e10:=s11.trans e11;have e9:=s10.trans e10;have e8:=s9.trans e9;have e7:=s8.trans e8;have e6:=s7.trans e7;have e5:=s6.trans e6;have e4:=s5.trans e5;have e3:=s4.trans e4;have e2:=s3.trans e3;have e1:=s2.trans e2;have d0:Z4 (fun x=>H x=none) H27 [] []:=⟨rfl,fun i x hx=>by cases hx⟩;have d1:=d0.snoc (show Z3 (fun x=>H x=none) H27 t (.away i n) from(u27 _ _ ht));have d2:=d1.snoc (show Z3 (fun x=>H x=none) H27 t1 (.away 0 n0) from(e1 _ _ q1));have d3:=d2.snoc (show Z3 (fun x=>H x=none) H27 t2 (.away i 0) from(e2 _ _ q2));have d4:=d3.snoc (show Z3 (fun x=>H x=none) H27 t3 (.away x.1.2.2 x.1.2.1) from(e3 _ _ q3));have d5:=d4.snoc (show Z3 (fun x=>H x=none) H27 t4 (.enrol nl 5 5) from(e5 _ _ q5));have d6:=d5.snoc (show Z3 (fun x=>H x=none) H27 t5 (.enrol 1000 5 5) from(e6 _ _ q6));have d7:=d6.snoc (show Z3 (fun x=>H x=none) H27 t6 (.enrol n0 5 5) from(e7 _ _ q7));have d8:=d7.snoc (show Z3 (fun x=>H x=none) H27 t7 (.enrol nl 10 5) from(e10 _ _ q10));have d9:=d8.snoc (show Z3 (fun x=>H x=none) H27 t8 (.draw []) from⟨la,[],(e12 _ _ q12),(e11 _ _ q11),.nil,(u10.free f11)⟩);have d10:=d9.snoc (show Z3 (fun x=>H x=none) H27 t9 (.draw [(1,1,1)]) from⟨lb,_,(e15 _ _ q15),(e14 _ _ q14),.cons (e13 _ _ q13) .nil,(u13.free f14)⟩);have d11:=d10.snoc (show Z3 (fun x=>H x=none) H27 t10 (.draw (List.replicate 21 (1,2,3))) from⟨ld,_,(e21 _ _ q21),(e20 _ _ q20),Zy.rep (ms:=[(1,2,3)]) (.cons (e18 _ _ q18) .nil) 21,(u19.free f20)⟩);have d12:=d11.snoc (show Z3 (fun x=>H x=none) H27 t11 (.draw [(1,2,3),(0,4,5)]) from⟨le,_,(e25 _ _ q25),(e24 _ _ q24),.cons (e22 _ _ q22) (.cons (e23 _ _ q23) .nil),(u23.free f24)⟩);have sI:∀ k:Int,0<=k->k<=1000->Z8 k:=fun k a b=>Yd ⋯ ⋯;refine h l10 _ _ H27 q27 d12 rfl (fun D hD=>?_) u27 (u26.free f27);simp only[List.nil_append,List.cons_append,zsk,zth,or_false] at hD;rcases hD with rfl|rfl|rfl|rfl|rfl|rfl|rfl|rfl|rfl|rfl|rfl|rfl
 ·exact⟨⟨nofun,nofun⟩,.away si sn⟩
 ·exact⟨⟨nofun,nofun⟩,.away (sI 0 ⋯ ⋯) (sI n0 ⋯ ⋯)⟩
 ·exact⟨⟨nofun,nofun⟩,.away si (sI 0 ⋯ ⋯)⟩
 ·exact⟨⟨nofun,nofun⟩,.away hu.2 hu.1⟩
 ·exact⟨⟨nofun,nofun⟩,.enrol (sI nl ⋯ ⋯) ⋯ ⋯ ⋯ ⋯ ⋯ fun _=>mnl⟩
 ·exact⟨⟨nofun,nofun⟩,.enrol (sI 1000 ⋯ ⋯) ⋯ ⋯ ⋯ ⋯ ⋯ fun z=>absurd (show badI 1000 5 5 by unfold badI;omega) z⟩
 ·exact⟨⟨nofun,nofun⟩,.enrol (sI n0 ⋯ ⋯) ⋯ ⋯ ⋯ ⋯ ⋯ fun _=>mn0⟩
 ·exact⟨⟨nofun,nofun⟩,.enrol (sI nl ⋯ ⋯) ⋯ ⋯ ⋯ ⋯ ⋯ fun _=>mnl⟩
 ·exact⟨⟨nofun,nofun⟩,.draw nofun ⋯⟩
 ·exact⟨⟨nofun,nofun⟩,.draw (fun m hm=>by rw[zsl.mp hm];exact⟨sI 1 ⋯ ⋯,sI 1 ⋯ ⋯,sI 1 ⋯ ⋯⟩) ⋯⟩
 ·exact⟨⟨nofun,nofun⟩,.draw (fun m hm=>by rw[List.eq_of_mem_replicate hm];exact⟨sI 1 ⋯ ⋯,sI 2 ⋯ ⋯,sI 3 ⋯ ⋯⟩) ⋯⟩
 ·exact⟨⟨nofun,nofun⟩,.draw (fun m hm=>by
   simp only[zsk,zth,or_false] at hm;rcases hm with rfl|rfl
   ·exact⟨sI 1 ⋯ ⋯,sI 2 ⋯ ⋯,sI 3 ⋯ ⋯⟩
   ·exact⟨sI 0 ⋯ ⋯,sI 4 ⋯ ⋯,sI 5 ⋯ ⋯⟩) ⋯⟩
abbrev Fe:Stmt:=top 75
theorem Vc:Zm ["_law_script","_law_state","_law_season","_law_many","_law_numbers_here","_law_clubs_here","_law_deeds","_law_drawn","_law_first","_law_spots","_law_away","_law_need","_law_last","_law_back","_law_more"] ["_law_script"] (Zj Fe):=fnS
theorem zhk(F:Fun K "law" "law" Fe f fd)(T:Tx K mg a)(zl1:Yh P w K mg base "_law_at" 1 ["_law_script","_law_k"] (zim K))(zp0:T3 P w K mg base "Season" a.zkc 3 ["self","rounds","rest"] (As (ca a)))(znn:Yh P w K mg base "_law_numbers" 1 ["_law_cell","_law_many"] Ki)(zn4:Yh P w K mg base "_law_clubs" 1 ["_law_cell","_law_many"] Aj)(zni:Yh P w K mg base "_law_matches" 2 ["_law_cell","_law_clubs_here","_law_most","_law_mixed"] (Mr K))(zlq:Yh P w K mg base "_law_all_done" 10 ["_law_season","_law_state","_law_deeds"] (Mt K (ca a)))(zl7:Yh P w K mg base "_law_too_many" 1 ["_law_state","_law_numbers_here","_law_spare"] (Fd K))(zl5:Yh P w K mg base "_law_whole" 1 ["_law_found"] Ft):FnOk P w K mg base (CX1 P w) 11 f fd ["_law_script"] (Ak K):=by
 refine F.okX Vc ⋯ fun _ _ _ _ H _ Q E hr h=>?_;obtain⟨b,ns,rfl,hS,hlen,h⟩:=h;have hu:=Wu hr;refine⟨_,(Zc (pS 1 Vc.nd (B9 (R4 Zl (Zt Y1 Zg (Zt Xg (Zt Vj (pF zl1 hr (Za (pv 0) (Za Zg Zd))) Zg) Zg)) (R4 Zl Zg (R4 Zl Vd (R4 Zl (Z5 Zd) B8)))) rfl rfl (by simp) ⋯))
 (Zc (Wl hu (pv 1) Zl (Z5 Zd) rfl)
 (Zc (Wl hu (pv 1) Zl (Z5 Zd) rfl)
 (Zc (pS 2 Vc.nd (Fs zp0 (hr.mono ⋯) Zk rfl (Za (pD hu (pv 1) Zl) (Za Zg Zd))))
 (Zc (pS 3 Vc.nd (Zt Y1 Zg (Zt Xg (pF zl1 hr (Za (pv 0) (Za Zg Zd))) Zg)))
 (Zc (pS 4 Vc.nd (pF znn hr (Za (pF zl1 hr (Za (pv 0) (Za Zg Zd))) (Za (Zt Y1 (pv 3) Zg) Zd))))
 (Zc (pS 5 Vc.nd (pF zn4 hr (Za (pF zl1 hr (Za (pv 0) (Za Zg Zd))) (Za Zg Zd))))
 (Zc (T1 (i:=6) Vc.nd rfl rfl rfl (cT ["_law_numbers_here","_law_clubs_here"] [4,5]) (Wk rfl T.zlw (Za (pv 3) Zd)) (fun _ _ _ _ _=>Wv) (fun _ _ _ _ _=>(Z2 (Za Zl (Za (pI (iL K) (pv 1) (pv 0)) (Za (Zt Y1 Zg (Zt Xg (pv 0) Zg)) (Za (pI (iL K) (pv 2) (Zt Xg (pv 0) Zg)) Zd)))))))
 (Zc (pS 7 Vc.nd (Z2 (Za Zl (Za (pF zni hr (Za (pF zl1 hr (Za (pv 0) (Za Zg Zd))) (Za (pv 5) (Za Zg (Za Zg Zd))))) Zd))))
 (Zc (Z1 (Zn Y6 (Zt Xg (pF zl1 hr (Za (pv 0) (Za Zg Zd))) Zg) Zg (Zr _))
  (Zf (Yt (pv 6) (pv 7)))
  Zs)
 (Zc (pS 8 Vc.nd (Zt Xg (pF zl1 hr (Za (pv 0) (Za Zg Zd))) (Zt U4 Zg (pv 3))))
 (Zc (T1 (i:=9) Vc.nd rfl rfl rfl (cT ["_law_first","_law_many"] [8,3]) (Wk rfl T.zlw (Za (Zt U4 Zg (pv 3)) Zd)) (fun _ _ _ _ _=>Wv) (fun _ _ _ _ _=>(Zt Xg (Zt Y1 (pv 1) (pv 0)) (Zt U4 Zg (pv 2)))))
 (Zc (T1 (i:=10) Vc.nd rfl rfl rfl (cT ["_law_numbers_here"] [4]) (Yz (K:=K) rfl (pv 9)) (fun _ _ _ _ _=>Wv) (fun _ _ _ _ _=>(Z2 (Za Zl (Za (Zt Y1 (Zt Xg (pv 0) Zg) Zg) (Za (pI (iL K) (pv 1) (Zt Vj (pv 0) Zg)) Zd))))))
 (Zc (pS 11 Vc.nd (Zt Nf Zg (Zq (cL K) (by rfl) T.zli PySem.boot_len (Za (pv 6) Zd))))
 (Zc (pS 12 Vc.nd (pI (iL K) (Z5 (Za (pI (iL K) (pv 10) (pv 11)) (Za (pv 7) Zd))) (Xc Qs (by rfl) T.zog PyProof.Rows.boot_int (Za (Ux Y6 (Zt Xg (pF zl1 hr (Za (pv 0) (Za Zg Zd))) Zg) Zg (Zr _)) Zd))))
 (Zc (Z1 (PW.pt (V1 (V6 (Wn (pF zlq hr (Za (pv 2) (Za (pv 1) (Za (Zt X7 (Zt X7 (pv 6) (Kb (Ke (K:=K) rfl) (pv 10) Aa (Ln (pv 11)))) (Z5 (Za (pv 12) Zd))) Zd)))))) (W3 (Zn Oh (Zq (cL K) (by rfl) T.zli PySem.boot_len (Za (pD hu (pv 1) Zl) Zd)) Zg (Zr _)))))
  (Zf (Zo Vd))
  Zs)
 (Zc (pS 13 Vc.nd (Zt X7 (Z5 (Za (Z2 (Za Zl Zd)) (Za (Z2 (Za Zl Zd)) (Za (pv 7) Zd)))) (Kb (Ke (K:=K) rfl) (pv 10) (Ln (Zt Y1 (pv 11) Zg)) (Ln (Zt Y1 (pv 11) Zg)))))
 (Zc (Z1 (V6 (Wn (pF zlq hr (Za (pv 2) (Za (pv 1) (Za (Zt X7 (pF zl7 hr (Za (pv 1) (Za (pv 4) (Za (pI (iL K) (pv 10) (Er Lz Zg)) Zd)))) (pv 13)) Zd))))))
  (Zf (Zo Vd))
  Zs)
 (Zc (Z1 (PW.pt (V1 (Zn Oh (Zq (cL K) (by rfl) T.zli PySem.boot_len (Za (pD hu (pv 1) Zl) Zd)) Zg (Zr _)) (V1 (V6 (Wn (pF zl5 hr (Za (Xk rfl T.zlh) Zd)))) (W3 (Zn Oh (Xk rfl T.zlh) Zg (Zr _))))))
  (Zf (Zo Vd))
  Zs)
 (Zc (pS 14 Vc.nd (Zt X7 (Zt X7 (pF zl7 hr (Za (pv 1) (Za (pv 4) (Za (pI (iL K) (pv 10) (Er Lz Zg)) Zd)))) (Z5 (Za (Z2 (Za Zl Zd)) Zd))) (Kb (Ke (K:=K) rfl) (pv 10) (Ln (Zt Y1 (pv 11) Zg)) Aa)))
 (Zf (Zo (pF zlq hr (Za (pv 2) (Za (pv 1) (Za (pv 14) Zd)))))))))))))))))))))))))),?_⟩
 show let y1:TS:=_;let y2:TS:=Z0 _ y1;let y3:TS:=Z0 _ y2;let y4:TS:=Z0 _ y3;let y5:TS:=Z0 _ y4;let y6:TS:=Z0 _ y5;let y7:TS:=Z0 _ y6;let y8:TS:=Z0 _ y7;let y9:TS:=Z0 _ y8;let y10:TS:=Z0 _ y9;let y11:TS:=Z0 _ y10;let y12:TS:=Z0 _ y11;let y13:TS:=Z0 _ y12;let y14:TS:=Z0 _ y13;let y15:TS:=Z0 _ y14;let y16:TS:=Z0 _ y15;let y17:TS:=Z0 _ y16;let y18:TS:=Z0 _ y17;let y19:TS:=Z0 _ y18;let y20:TS:=Z0 _ y19;Z0 _ y20 _ _ _;intro y1 y2 y3 y4 y5 y6 y7 y8 y9 y10 y11 y12 y13 y14 y15 y16 y17 y18 y19 y20;intro d f0;have s2:=Ze (o:=.dK []) f0;have p1:(upd H d (.dK [])) d=some (.dK []):=Zb;generalize upd H d (.dK [])=H2 at s2 p1 ⊢;refine⟨_,rfl,b,ns,0,rfl,s2.seq hS,_,_,rfl,rfl,⟨by decide,by decide⟩,_,_,rfl,rfl,(show (0:Int)<56 by decide),_,_,rfl,rfl,?_⟩;obtain⟨rr,hrr,hr5,hr60⟩:∃ rr:Nat,5+V3 ns 0/3%56=(rr:Int)/\5<=rr/\rr<=60:=⟨(5+V3 ns 0/3%56).toNat,by omega,by omega,by omega⟩;rw[hrr];refine⟨zs1 _,fun lp f1=>?_⟩;have s3:=Ze (o:=.lst []) f1;have a1:(upd H2 lp (.lst [])) lp=some (.lst []):=Zb;have m1:lp≠d:=fun z=>by rw[z,p1] at f1;cases f1
 have p4:=s3 _ _ p1;generalize upd H2 lp (.lst [])=H4 at s3 a1 p4 ⊢;obtain⟨D4,hD4⟩:∃ D4,D4=[((.inr "rounds":Key),V.int rr),(.inr "over",.int 0),(.inr "drawn",.bl false),(.inr "people",.ref lp)]:=⟨_,rfl⟩;refine⟨p4,[(.inr "rounds",.int rr),(.inr "over",.int 0),(.inr "drawn",.bl false),(.inr "people",.ref lp)],rfl,(show 4<=15 by decide),?_⟩;rw[show Rb [] [((.inr "rounds":Key),V.int rr),(.inr "over",.int 0),(.inr "drawn",.bl false),(.inr "people",.ref lp)]=D4 by rw[hD4];rfl];have s5:=Xp (o:=.dK D4) f0 (s2.trans s3);have p5:(upd H4 d (.dK D4)) d=some (.dK D4):=Zb;have c1:=(Zi (H:=H4) (o:=.dK D4) m1).trans a1;clear p4 a1 p1 s3 s2;generalize upd H4 d (.dK D4)=H5 at s5 p5 c1 ⊢;walk_at "if";refine⟨zs1 _,fun lo f2=>⟨_,rfl,d,_,rfl,DPut.k (k:=.inr "out") (Ze f2 _ _ p5) (by rw[hD4];show 4<sizeLine;rw[sizeLine_eq];decide),?_⟩⟩;have n1:lp≠lo:=Zh c1 f2;have m2:lo≠d:=(Zh p5 f2).symm;obtain⟨D5,hD5⟩:∃ D5,D5=putK D4 (.inr "out") (.ref lo):=⟨_,rfl⟩;rw[<- hD5];have c2:=(Zi (H:=upd H5 lo (.lst [])) (o:=.dK D5) m2).trans Zb;have c11:=(Zi (H:=upd H5 lo (.lst [])) (o:=.dK D5) m1).trans ((Zi n1).trans c1);have p51:=Zb (H:=upd H5 lo (.lst [])) (a:=d) (o:=.dK D5);have s51:=Xp (o:=.dK D5) f0 (s5.trans (Ze (o:=.lst []) f2));generalize upd (upd H5 lo (.lst [])) d (.dK D5)=H51 at c2 c11 p51 s51 ⊢;clear p5 c1 s5 f2;refine⟨zs1 _,fun ll f3=>⟨_,rfl,d,_,rfl,DPut.k (k:=.inr "log") (Ze f3 _ _ p51) (by rw[hD5,hD4];show 5<sizeLine;rw[sizeLine_eq];decide),?_⟩⟩;have n2:lp≠ll:=Zh c11 f3;have n3:lo≠ll:=Zh c2 f3;have m3:ll≠d:=(Zh p51 f3).symm;rw[show putK D5 (.inr "log") (.ref ll)=Xf rr 0 false lp lo ll by rw[hD5,hD4];rfl];have c3:=(Zi (H:=upd H51 ll (.lst [])) (o:=.dK (Xf rr 0 false lp lo ll)) m3).trans Zb;have c12:=(Zi (H:=upd H51 ll (.lst [])) (o:=.dK (Xf rr 0 false lp lo ll)) m1).trans ((Zi n2).trans c11);have c21:=(Zi (H:=upd H51 ll (.lst [])) (o:=.dK (Xf rr 0 false lp lo ll)) m2).trans ((Zi n3).trans c2);have p52:=Zb (H:=upd H51 ll (.lst [])) (a:=d) (o:=.dK (Xf rr 0 false lp lo ll));have s52:=Xp (o:=.dK (Xf rr 0 false lp lo ll)) f0 (s51.trans (Ze (o:=.lst []) f3));generalize upd (upd H51 ll (.lst [])) d (.dK (Xf rr 0 false lp lo ll))=H52 at c3 c12 c21 p52 s52 ⊢;clear p51 c11 c2 s51 f3 hD5 hD4;refine⟨_,rfl,d,_,rfl,DGet.k (k:=.inr "rounds") p52,?_⟩;intro p0 dx0 hp0 hdx0 ne0;refine⟨p0,dx0,rr,3,rfl,Zb,Yd ⋯ ⋯,Yd ⋯ ⋯,?_⟩;rw[if_neg ⋯,if_neg ⋯];intro A1 H6 hAp SA6 k6 f6;rw[zs7] at SA6;have s6:Same H52 H6:=fun x o e=>k6 x o (by rw[Zi (Zh e hp0),Zi (Zh e hdx0)];exact e) (Zh e hp0);have ff:∀ x∈A1.fp,H52 x=none:=fun x hx=>by
  by_cases z:x=p0
  ·rw[z];exact hp0
  ·have:=f6 x hx z;rw[Zi z] at this;by_cases w:x=dx0
   ·rw[w];exact hdx0
   ·rw[Zi w] at this;exact this
 clear f6 k6;subst hAp;refine⟨rfl,?_⟩;have p6:=s6 _ _ p52;have l6:=s6 _ _ c12;have o6:=s6 _ _ c21;have g6:=s6 _ _ c3;have I6:In23 (ca a) E25 [] d lp lo ll (fun _=>False) A1 (T4 rr (Int.toNat 3)) 0 H6:=⟨SA6.hide0 (fun x hx=>by
  rcases hx with z|z|z|z|z
  ·subst z;exact⟨fun z=>(by rw[ff _ z] at p52;cases p52),.inr ⟨_,p6⟩⟩
  ·subst z;exact⟨fun z=>(by rw[ff _ z] at c12;cases c12),.inl ⟨_,l6⟩⟩
  ·subst z;exact⟨fun z=>(by rw[ff _ z] at c21;cases c21),.inl ⟨_,o6⟩⟩
  ·subst z;exact⟨fun z=>(by rw[ff _ z] at c3;cases c3),.inl ⟨_,g6⟩⟩
  ·exact z.elim) rfl rfl (fun x hx=>by cases hx),⟨p6,l6,⟨[],o6,.nil⟩,⟨[],g6,.nil⟩,n1,n2,n3⟩,.nil rfl ⟨nofun,.nil,nofun,zs1 _,rfl,nofun,⟨zs1 _,hr60,(show 3<=10 by decide)⟩,fun z=>absurd rfl z,⟨zs1 _,zs1 _⟩,fun s hs=>(by rcases hs with z|z<;>cases z)⟩ trivial,nofun,nofun⟩
 have hS6:=(s52.trans s6).seq hS;clear SA6 ff p52 c12 c21 c3 s52 s6 hp0 hdx0 ne0 p6 l6 o6 g6;walk_at "if";refine⟨_,rfl,b,ns,1,rfl,hS6,_,_,rfl,rfl,(show (0:Int)<11 by decide),_,_,rfl,rfl,?_⟩;obtain⟨mn,hmn,hm20,hm30⟩:∃ mn:Nat,20+V3 ns 1%11=(mn:Int)/\20<=mn/\mn<=30:=⟨(20+V3 ns 1%11).toNat,by omega,by omega,by omega⟩;walk_at "if";rw[hmn];refine⟨_,rfl,b,ns,2,rfl,hS6,_,rfl,_,_,rfl,rfl,_,mn+1,rfl,by omega,fun ln H7 hln s7 fln=>?_⟩;obtain⟨nu,hnu⟩:∃ nu,nu=Oq (V3 ns 2) (mn+1):=⟨_,rfl⟩;rw[<- hnu] at hln;have hnl:nu.length=mn+1:=by rw[hnu];exact Fx _ _
 have hnd:nu.Nodup:=by rw[hnu];exact Cc _ ⋯
 have hrng:∀ n∈nu,1<=n/\n<=999:=by rw[hnu];exact za8 _ _
 clear hnu;walk_at "if";obtain⟨I7',_⟩:=I6.rex s7 (X':=fun x=>x=ln) (fun x z=>.inr (by rw[z];exact fln)) fun x z=>⟨nu.map V.int,by rw[z];exact hln⟩
 have I7:In23 (ca a) E25 nu d lp lo ll (fun x=>x=ln) A1 (T4 rr (Int.toNat 3)) 0 H7:=⟨I7'.sea,I7'.st,.nil rfl ⟨nofun,.nil,nofun,zs1 _,rfl,nofun,⟨zs1 _,hr60,(show 3<=10 by decide)⟩,fun z=>absurd rfl z,⟨zs1 _,zs1 _⟩,fun s hs=>(by rcases hs with z|z<;>cases z)⟩ trivial,I7'.xs,I7'.nx⟩;clear I7' I6;refine⟨_,rfl,b,ns,3,rfl,s7.seq hS6,_,6,rfl,by decide,fun lc H8 hlc s8 flc=>?_⟩;obtain⟨cs,hcs⟩:∃ cs,cs=Rf (V3 ns 3) 6:=⟨_,rfl⟩;rw[<- hcs] at hlc;have hcl:cs.length=6:=by rw[hcs];exact J0 _ _
 have hcnd:cs.Nodup:=by rw[hcs];exact Cb _ ⋯
 have hcr:∀ n∈cs,1<=n/\n<=99:=by rw[hcs];exact za7 _ _
 clear hcs;have hln8:=s8 _ _ hln;have fln8:H6 ln=none:=fln;walk_at "if";obtain⟨es,hes⟩:∃ es:List P3,es=(List.range mn).map fun (i:Nat)=>(nu.getD i 0,1+(i:Int)%9,cs.getD ((i:Int)%6).toNat 0):=⟨_,rfl⟩;have hel:es.length=mn:=by rw[hes,zsg,ztl]
 have heg:∀ i,i<mn->es[i]?=some (nu.getD i 0,1+(i:Int)%9,cs.getD ((i:Int)%6).toNat 0):=fun i hi=>by rw[hes,zsn,List.getElem?_range hi];rfl
 refine⟨_,rfl,_,rfl,by omega,by omega,?_⟩;rw[zs7];refine Rc (fun i ys H'=>Same H8 H'/\Z4 (fun _=>False) H' ys ((es.take i).map Rj)/\ys.length=i) ⟨Same.refl _,⟨rfl,fun i x hx=>by cases hx⟩,rfl⟩ (szN ⋯) (fun i ys H' ⟨_,_,e⟩=>by omega) ?_ ?_
 ·rintro i ys H' hi ⟨sm,tl,hl⟩;have x0:=Uj (xs:=nu) (i:=(i:Int)) ⋯ ⋯;rw[zs7] at x0;have x1:=Uj (xs:=cs) (ztx (i:Int) (show (6:Int)≠0 by decide)) (by have:=ztp (i:Int) (show (0:Int)<6 by decide);omega);rw[zt8];unfold tYes;dsimp only;rw[if_pos rfl];refine⟨_,rfl,_,rfl,ln,_,_,_,rfl,rfl,SqL.of (sm _ _ hln8),x0,_,rfl,_,_,rfl,rfl,(show (0:Int)<9 by decide),_,_,rfl,rfl,_,rfl,_,rfl,_,_,rfl,rfl,(show (0:Int)<6 by decide),lc,_,_,_,rfl,rfl,SqL.of (sm _ _ hlc),x1,sz4,fun t ht=>?_⟩;have u:=Ze (o:=.tup [.str "enrol",.int (nu.getD i 0),.int (1+(i:Int)%9),.int (cs.getD ((i:Int)%6).toNat 0)]) ht;refine⟨sm.trans u,?_,by rw[zsh,hl];rfl⟩;rw[Sw (heg i hi),zsp];exact(tl.same u).snoc (show Z3 (fun _=>False) _ t (.enrol (nu.getD i 0) (1+(i:Int)%9) (cs.getD ((i:Int)%6).toNat 0)) from Zb)
 rintro ys0 H81 ⟨s81,tl8,hyl0⟩ le hle;rw[<- hel,zs0] at tl8;have s89:=Ze (o:=.lst ys0) hle;have q9:upd H81 le (.lst ys0) le=some (.lst ys0):=Zb;have tl9:=tl8.same s89;generalize upd H81 le (.lst ys0)=H9 at s89 q9 tl9 ⊢;have s9:=s81.trans s89;have s79:=s8.trans s9;have s69:=s7.trans s79;have hS9:=s69.seq hS6;have fle:=(s8.trans s81).free hle;walk_at "if";refine⟨_,rfl,b,ns,4,rfl,hS9,_,rfl,lc,cs,_,5,0,rfl,s9 _ _ hlc,by omega,by omega,hcnd,hcr,by decide,by decide,fun lm tm ms Ha hlm tlm hml gm sa flm=>⟨sz2,fun td ftd=>?_⟩⟩;have sb:=Ze (o:=.tup [.str "draw up",.ref lm]) ftd;have W1:Z3 (fun x=>x=lm) (upd Ha td (.tup [.str "draw up",.ref lm])) td (.draw ms):=⟨lm,tm,Zb,sb _ _ hlm,tlm.same sb,rfl⟩;generalize upd Ha td (.tup [.str "draw up",.ref lm])=Hb at sb W1 ⊢;have s9b:=sa.trans sb;have s7b:=s79.trans s9b;have hSb:=(s7.trans s7b).seq hS6;have flm7:=s79.free flm;walk_at "if";obtain⟨c,hc,hc2⟩:∃ c:Nat,V3 ns 0%3=(c:Int)/\c<=2:=⟨(V3 ns 0%3).toNat,by omega,by omega⟩;have nlm:lm≠le:=(Zh q9 flm).symm
 let jv1:L2.St->Hp->Prop:=fun σ' H'=>σ'=[some (.ref b),some (.ref d),some (.ref A1.p),some (.int mn),some (.ref ln),some (.ref lc),some (.ref le),some (.ref td),none,none,none,none,none,none,none]/\(∀ x o,x≠le->Hb x=some o->H' x=some o)/\∃ ys,H' le=some (.lst ys)/\Z4 (fun x=>x=lm) H' ys (es.map Rj++if c=1 then [.draw ms] else [])
 refine Dd (b:=decide (V.int (V3 ns 0%3)=V.int 1)) jv1 (fun Q q=>⟨_,rfl,b,ns,0,rfl,hSb,_,_,rfl,rfl,(show (0:Int)<3 by decide),rfl,_,rfl,q⟩) (fun hb N hN=>?_) (fun hb N hN=>Zu (hN _ _ ⟨rfl,fun _ _ _ e=>e,ys0,s9b _ _ q9,?_⟩)) ?_
 ·have hc1:c=1:=by have:=V.int.inj (of_decide_eq_true hb);omega
  refine⟨_,rfl,le,ys0,rfl,s9b _ _ q9,_,rfl,ys0,s9b _ _ q9,szN ⋯,?_⟩;have kt:∀ x xs,Hb x=some (.tup xs)->upd Hb le (.lst (ys0++[.ref td])) x=some (.tup xs):=fun x xs e=>by rw[Zi (Ye e (s9b _ _ q9) (by intro z;cases z))];exact e
  refine hN _ _ ⟨rfl,fun x o n e=>by rw[Zi n];exact e,ys0++[.ref td],Zb,?_⟩;rw[if_pos hc1];refine Z4.snoc ((((tl9.same s9b).imp fun _ z=>z.elim).keep (fun x o z e=>by rw[Zi (by rw[z];exact nlm)];exact e) kt)) (W1.keep (fun x o z e=>by rw[Zi (by rw[z];exact nlm)];exact e) kt)
 ·have hc1:c≠1:=fun z=>of_decide_eq_false hb (congrArg V.int (by rw[hc,z];rfl));rw[if_neg hc1,zup];exact(tl9.same s9b).imp fun _ z=>z.elim
 rintro σ Hc ⟨rfl,kc,ys,hyc,tlc⟩;have nnl:ln≠le:=Zh ((s8.trans s81) _ _ hln) hle;have hSc:=zhe ((s7.trans (s8.trans s81)).seq hS6) hle fun x o n e=>kc x o n ((s89.trans s9b) _ _ e);have hlnc:=kc _ _ nnl (s7b _ _ hln);obtain⟨I9,_⟩:=(I7.same (s8.trans s81)).rex s89 (X':=fun x=>x=ln\/x=le) (fun x z=>z.imp id fun y=>by rw[y];exact hle) fun x z=>by
  rcases z with z|z
  ·exact⟨nu.map V.int,by rw[z];exact s79 _ _ hln⟩
  ·exact⟨ys0,by rw[z];exact q9⟩
 have Ic:In23 (ca a) E25 nu d lp lo ll (fun x=>x=ln\/x=le) A1 (T4 rr (Int.toNat 3)) 0 Hc:=(I9.same s9b).off (fun x o n e=>kc x o (fun z=>n (.inr z)) e) fun x z=>by
  rcases z with z|z
  ·exact⟨nu.map V.int,by rw[z];exact hlnc⟩
  ·exact⟨ys,by rw[z];exact hyc⟩
 have ktc:∀ x xs,Hb x=some (.tup xs)->Hc x=some (.tup xs):=fun x xs e=>kc _ _ (Ye e (s9b _ _ q9) (by intro z;cases z)) e;have Wc:Z3 (fun x=>x=lm) Hc td (.draw ms):=W1.keep (fun x o z e=>kc x o (by rw[z];exact nlm) e) ktc;have hlmA:lm∉A1.fp:=I7.sea.newOk _ (Vg flm7);have hlmX:¬ B23 d lp lo ll (fun x=>x=ln) lm:=I7.out flm7;clear I9 I7 W1 hSb hS9 tl9 q9 tl8 s7b s9b sb sa s69 s79 s9 s89 s81 hS6 s7 s8 kc ktc hlm tlm hln8 hlc flc hyl0 ftd flm flm7 fle fln8 fln hle;refine⟨_,rfl,b,ns,5,rfl,hSc,_,rfl,_,_,rfl,rfl,.inl ⟨by decide,by decide⟩,_,_,rfl,rfl,(by show (0:Int)<5*(mn:Int);omega),?_⟩;have hm5:(0:Int)<5*(mn:Int):=by omega
 have fi0:=ztx (V3 ns 5) (show 5*(mn:Int)≠0 by omega);have fi1:=ztp (V3 ns 5) hm5;generalize V3 ns 5%(5*(mn:Int))=fi at fi0 fi1 ⊢;walk_at "if";obtain⟨sps,hsps⟩:∃ sps:List Int,sps=(List.range (5*mn)).map fun (k:Nat)=>(fi+(k:Int))%(5*(mn:Int)):=⟨_,rfl⟩;have hspl:sps.length=5*mn:=by rw[hsps,zsg,ztl]
 have hspg:∀ i,i<5*mn->sps[i]?=some ((fi+(i:Int))%(5*(mn:Int))):=fun i hi=>by rw[hsps,zsn,List.getElem?_range hi];rfl
 have hspr:∀ s∈sps,0<=s/\s<5*(mn:Int):=fun s hs=>by
  rw[hsps] at hs;obtain⟨i,_,rfl⟩:=zsq.mp hs;exact⟨ztx _ ⋯,ztp _ hm5⟩
 have hspn:sps.Nodup:=by
  rw[hsps,ztg,List.pairwise_map];refine List.Pairwise.imp_of_mem (fun {i j} hi hj (hne:i≠j) z=>?_) (ztg.mp List.nodup_range);have h1:=zti.mp hi;have h2:=zti.mp hj;have h3:(5*(mn:Int)) ∣ (((i:Int)-(j:Int))):=by
   have:=Int.emod_emod_of_dvd (0:Int) (Int.dvd_refl (5*(mn:Int)));have e:=Int.emod_eq_emod_iff_emod_sub_eq_zero.mp z;have e2:fi+(i:Int)-(fi+(j:Int))=(i:Int)-(j:Int):=by omega
   rw[e2] at e;exact Int.dvd_of_emod_eq_zero e
  obtain⟨q,hq⟩:=h3;have hq0:q=0:=by
   rcases Int.lt_trichotomy q 0 with w|w|w
   ·have:5*(mn:Int)*q<=5*(mn:Int)*(-1):=Int.mul_le_mul_of_nonneg_left ⋯ ⋯;omega
   ·exact w
   ·have:5*(mn:Int)*1<=5*(mn:Int)*q:=Int.mul_le_mul_of_nonneg_left ⋯ ⋯;omega
  rw[hq0,Int.mul_zero] at hq;omega
 refine⟨_,rfl,_,_,rfl,rfl,.inl ⟨by decide,by decide⟩,_,rfl,by omega,by omega,?_⟩;rw[show ((5:Int)*(mn:Int)).toNat=5*mn by omega];refine Rc (fun i ys H'=>H'=Hc/\ys=(sps.take i).map V.int) ⟨rfl,rfl⟩ (szN ⋯) (fun i ys H' ⟨_,e⟩=>by rw[e,zsg];exact zum _ _) ?_ ?_
 ·rintro i ys H' hi ⟨rfl,rfl⟩;rw[zt8];unfold tYes;dsimp only;rw[if_pos rfl];refine⟨_,rfl,_,rfl,_,_,rfl,rfl,_,rfl,_,_,rfl,rfl,.inl ⟨by decide,by decide⟩,_,_,rfl,rfl,hm5,rfl,?_⟩;rw[Sw (hspg i hi),zsp];rfl
 rintro ys1 H' ⟨rfl,rfl⟩ lsp flsp;rw[<- hspl,zs0];have sd:=Ze (o:=.lst (sps.map V.int)) flsp;have qd:=Zb (H:=H') (a:=lsp) (o:=.lst (sps.map V.int));generalize upd H' lsp (.lst (sps.map V.int))=Hd at sd qd ⊢;walk_at "if";obtain⟨ps,hps⟩:∃ ps:List (Int×Int),ps=sps.map fun s=>(s%5+1,nu.getD (s/5).toNat 0):=⟨_,rfl⟩;have hpl:ps.length=5*mn:=by rw[hps,zsg,hspl]
 refine⟨_,rfl,lsp,rfl,⟨_,SqL.of qd⟩,V7 (K:=K) (a:=lsp) (xs:=sps.map V.int) (fun i ys H''=>Same Hd H''/\Z4 (fun _=>False) H'' ys ((ps.take i).map V5)/\ys.length=i) ⟨.refl _,⟨rfl,fun i x hx=>by cases hx⟩,rfl⟩ (fun i ys H'' _ ⟨z,_⟩=>SqL.of (z _ _ qd)) (szN (by rw[zsg];omega)) (fun i ys H'' ⟨_,_,e⟩=>by omega) ?_ ?_⟩
 ·rintro i x ys H'' hx ⟨sm,tl,hl⟩;obtain⟨s,hs,rfl⟩:∃ s,sps[i]?=some s/\x=.int s:=by
   rw[zsn] at hx;cases hq:sps[i]? with
   | none=>rw[hq] at hx;cases hx
   | some s=>rw[hq] at hx;exact⟨s,rfl,(Option.some.inj hx).symm⟩
  have hsr:=hspr s (zsu hs);have x0:=Uj (xs:=nu) (i:=s/5) ⋯ ⋯;have hpg:ps[i]?=some (s%5+1,nu.getD (s/5).toNat 0):=by rw[hps,zsn,hs];rfl
  unfold tYes;dsimp only;rw[if_pos rfl];refine⟨_,rfl,_,_,rfl,rfl,⋯,_,_,rfl,rfl,_,rfl,_,rfl,_,_,rfl,rfl,⟨by decide,by decide⟩,ln,_,_,_,rfl,rfl,SqL.of ((sd.trans sm) _ _ hlnc),x0,(by show 3<=sizeLine;rw[sizeLine_eq];decide),fun t ht=>?_⟩;have u:=Ze (o:=.tup [.str "away",.int (s%5+1),.int (nu.getD (s/5).toNat 0)]) ht;refine⟨sm.trans u,?_,by rw[zsh,hl];rfl⟩;rw[Sw hpg,zsp];exact(tl.same u).snoc (show Z3 (fun _=>False) _ t (.away (s%5+1) (nu.getD (s/5).toNat 0)) from Zb)
 rintro ys2 He ⟨se,tle,hyl2⟩ la fla;rw[zsg,hspl,<- hpl,zs0] at tle;have sf:=Ze (o:=.lst ys2) fla;have qf:=Zb (H:=He) (a:=la) (o:=.lst ys2);have W2:=tle.same sf;have scf:=(sd.trans se).trans sf;have fla':=(sd.trans se).free fla;generalize upd He la (.lst ys2)=Hf at sf qf W2 scf ⊢;walk_at "if";have hysl:=tlc.len;have hif:(if c=1 then [Yg.draw ms] else []).length=if c=1 then 1 else 0:=by split<;>rfl
 rw[zsh,zsg,hel,hif] at hysl;have hif1:(if c=1 then 1 else 0)<=1:=by split<;>omega
 obtain⟨k,hk⟩:∃ k,k=99-(mn+if c=1 then 1 else 0):=⟨_,rfl⟩;refine⟨_,rfl,le,ys,rfl,.inl (SqL.of (scf _ _ hyc)),_,_,rfl,rfl,?_⟩;rw[show (99:Int)-(ys.length:Int)=(k:Int) by omega];walk_at "if";have hlen2:=W2.len;rw[zsg] at hlen2;obtain⟨x2,hx2⟩:∃ x2,ys2[k]?=some x2:=⟨_,zsi (show k<ys2.length by omega)⟩;obtain⟨tk,Dk,rfl,hDk,hWk⟩:=W2.at_ k x2 hx2;obtain⟨pk,hpk,rfl⟩:∃ p,ps[k]?=some p/\V5 p=Dk:=by
  rw[zsn] at hDk;cases hq:ps[k]? with
  | none=>rw[hq] at hDk;cases hDk
  | some p=>rw[hq] at hDk;exact⟨p,rfl,Option.some.inj hDk⟩
 refine⟨_,rfl,_,rfl,la,_,_,_,rfl,rfl,SqL.of qf,Y3 hx2,_,rfl,sz2,fun l1 f1=>?_⟩;have sg:=Ze (o:=.lst [.ref tk,.ref td]) f1;have qg:=Zb (H:=Hf) (a:=l1) (o:=.lst [.ref tk,.ref td]);have scg:=scf.trans sg;generalize upd Hf l1 (.lst [.ref tk,.ref td])=Hg at sg qg scg ⊢;refine⟨_,rfl,b,ns,0,rfl,scg.seq hSc,_,_,rfl,rfl,(show (0:Int)<3 by decide),rfl,.inr ⟨_,rfl,l1,_,_,_,rfl,rfl,SqL.of qg,Lu _,?_⟩⟩;obtain⟨tL,L,hval,hWL,hL⟩:∃ tL L,(if decide (V.int (V3 ns 0%3)=V.int 2)=true then V.ref td else V.ref tk)=.ref tL/\Z3 (fun x=>x=lm) Hg tL L/\(if c=2 then L=.draw ms else ∃ p,ps[k]?=some p/\L=V5 p):=by
  by_cases h2:c=2
  ·refine⟨td,_,if_pos (zsm (by rw[hc,h2];rfl)),Wc.same scg,?_⟩;rw[if_pos h2]
  ·refine⟨tk,_,if_neg (fun z=>h2 (by have:=V.int.inj (of_decide_eq_true z);omega)),(hWk.imp fun _ z=>z.elim).same sg,?_⟩;rw[if_neg h2];exact⟨pk,hpk,rfl⟩
 rw[hval];have W0:Z4 (fun x=>x=lm) Hg ys (es.map Rj++if c=1 then [.draw ms] else []):=tlc.same scg;have W2g:=W2.same sg;have hyg:=scg _ _ hyc;have hlag:=sg _ _ qf;have Ig:=0;have hlng:=scg _ _ hlnc;have Wg:=Wc.same scg;obtain⟨tmc,hlmc⟩:∃ tmc,H' lm=some (.lst tmc):=by
  obtain⟨l,tt,_,q,_,e⟩:=Wc;exact⟨tt,by rw[<- show l=lm from e];exact q⟩
 clear tlc W2 tle hWk qg qf qd sf se sd scf sg Wc hyc hlnc Ig;walk_at "if";have hmd:∀ n∈nu,n∈nu:=fun _ z=>z;have hpr:∀ p∈ps,1<=p.1/\p.1<=5/\p.2∈es.map (·.1):=fun p hp=>by
  rw[hps] at hp;obtain⟨s,hs,rfl⟩:=zsq.mp hp;obtain⟨h1,h2⟩:=hspr s hs;refine⟨by show 1<=s%5+1;omega,by show s%5+1<=5;omega,?_⟩;obtain⟨j,hj⟩:∃ j:Nat,s/5=(j:Int):=⟨(s/5).toNat,by omega⟩;have hjm:j<mn:=by omega
  refine zsq.mpr ⟨_,zsu (heg j hjm),?_⟩;show nu.getD j 0=nu.getD (s/5).toNat 0;rw[hj,zs7]
 have hpn:ps.Nodup:=by
  rw[hps,ztg,List.pairwise_map];refine List.Pairwise.imp_of_mem (fun {s t} hs ht (hne:s≠t) z=>?_) (ztg.mp hspn);obtain⟨z1,z2⟩:=Prod.mk.inj z;obtain⟨a1,a2⟩:=hspr s hs;obtain⟨b1,b2⟩:=hspr t ht;have:=Cg hnd (i:=(s/5).toNat) (j:=(t/5).toNat) ⋯ ⋯ z2;omega
 have hen:(es.map (·.1)).Nodup:=by
  have:es.map (·.1)=nu.take mn:=by
   refine List.ext_getElem? fun i=>?_;rw[zsn,List.getElem?_take];by_cases hi:i<mn
   ·rw[heg i hi,if_pos hi,zsi (show i<nu.length by omega)];show some (nu.getD i 0)=_;rw[G.Lr (show i<nu.length by omega)]
   ·rw[if_neg hi,zud ⋯];rfl
  rw[this];exact hnd.sublist (zue _ _)
 have heb:∀ x∈es,¬ badI x.1 x.2.1 x.2.2/\x.1∈nu/\Km x.1 x.2.1 x.2.2/\1<=x.1/\1<=x.2.1/\x.2.1<=9/\1<=x.2.2/\x.2.2<=99:=fun x hx=>by
  rw[hes] at hx;obtain⟨i,hi,rfl⟩:=zsq.mp hx;have hi:=zti.mp hi;have m1:=Q3 (ns:=nu) (i:=i) ⋯;have m2:=Q3 (ns:=cs) (i:=((i:Int)%6).toNat) ⋯;have h1:=hrng _ m1;have h2:=hcr _ m2;have h3:=ztx (i:Int) (show (9:Int)≠0 by decide);have h4:=ztp (i:Int) (show (0:Int)<9 by decide);generalize nu.getD i 0=xa at m1 h1;generalize cs.getD ((i:Int)%6).toNat 0=xc at h2;generalize (i:Int)%9=xb at h3 h4;dsimp only;refine⟨by unfold badI;omega,m1,⟨Yd ⋯ ⋯,Yd ⋯ ⋯,Yd ⋯ ⋯⟩,by omega,by omega,by omega,by omega,by omega⟩
 have hsm:∀ m∈ms,Ri m:=fun m hm=>Co (gm.1 m hm);have dE:∀ D∈es.map Rj,X2 D/\D25 nu D:=fun D hD=>by
  obtain⟨x,hx,rfl⟩:=zsq.mp hD;obtain⟨y1,y2,y3,y4,y5,y6,y7,y8⟩:=heb x hx;exact⟨⟨nofun,nofun⟩,.enrol y3.1 y4 y5 ⋯ y7 y8 fun _=>y2⟩
 have dM:X2 (.draw ms)/\D25 nu (.draw ms):=⟨⟨nofun,nofun⟩,.draw hsm ⋯⟩;have dA:∀ p∈ps,X2 (V5 p)/\D25 nu (V5 p):=fun p hp=>by
  obtain⟨x1,x2,x3⟩:=hpr p hp;obtain⟨y,hy,e⟩:=zsq.mp x3;have:=(heb y hy).2.2.1.1;rw[e] at this;exact⟨⟨nofun,nofun⟩,.away (Yd ⋯ ⋯) this⟩
 have dL:X2 L/\D25 nu L:=by
  by_cases h2:c=2
  ·rw[if_pos h2] at hL;rw[hL];exact dM
  ·rw[if_neg h2] at hL;obtain⟨p,hp,e⟩:=hL;rw[e];exact dA p (zsu hp)
 have dU:∀ D∈upto es c ms ps++[L],X2 D/\D25 nu D:=fun D hD=>by
  unfold upto at hD;rcases zsv.mp hD with z|z
  ·rcases zsv.mp z with z|z
   ·rcases zsv.mp z with z|z
    ·exact dE D z
    ·by_cases h1:c=1
     ·rw[if_pos h1] at z;rw[zsl.mp z];exact dM
     ·rw[if_neg h1] at z;cases z
   ·obtain⟨p,hp,rfl⟩:=zsq.mp z;exact dA p (zt4 hp)
  ·rw[zsl.mp z];exact dL
 clear hspr hspn hsps hspg hes hps heg hcr hcnd hspl hsm hmd;refine Yn ?_;refine⟨_,rfl,_,rfl,_,rfl,_,rfl,_,rfl,_,rfl,la,ys2,rfl,SqL.of hlag,fun l2 f2=>?_⟩;rw[zet];have t2:=Ze (o:=.lst (ys2.take k)) f2;have q2:=Zb (H:=Hg) (a:=l2) (o:=.lst (ys2.take k));generalize upd Hg l2 (.lst (ys2.take k))=Hh at t2 q2 ⊢;refine⟨le,l2,_,_,rfl,rfl,t2 _ _ hyg,q2,szN (by rw[ztc];omega),fun l3 f3=>?_⟩;have t3:=Ze (o:=.lst (ys++ys2.take k)) f3;have q3:=Zb (H:=Hh) (a:=l3) (o:=.lst (ys++ys2.take k));generalize upd Hh l3 (.lst (ys++ys2.take k))=Hi at t3 q3 ⊢;refine⟨_,rfl,sz1,fun l4 f4=>?_⟩;have t4:=Ze (o:=.lst [.ref tL]) f4;have q4:=Zb (H:=Hi) (a:=l4) (o:=.lst [.ref tL]);generalize upd Hi l4 (.lst [.ref tL])=Hj at t4 q4 ⊢;refine⟨l3,l4,_,_,rfl,rfl,t4 _ _ q3,q4,szN (by rw[zsh,ztc];show ys.length+min k ys2.length+1<=1000;omega),fun l5 f5=>?_⟩;have t24:=(t2.trans t3).trans t4;have t5:=t24.trans (Ze (o:=.lst (ys++ys2.take k++[.ref tL])) f5);have q5:=Zb (H:=Hj) (a:=l5) (o:=.lst (ys++ys2.take k++[.ref tL]));have f5c:=(scg.trans t24).free f5;generalize upd Hj l5 (.lst (ys++ys2.take k++[.ref tL]))=Hk at t5 q5 ⊢;have eU:upto es c ms ps=(es.map Rj++if c=1 then [.draw ms] else [])++(ps.map V5).take k:=by unfold upto;rw[hel,<- hk,List.map_take]
 have WL:Z4 (fun x=>x=lm) Hk (ys++ys2.take k++[.ref tL]) (upto es c ms ps++[L]):=by
  rw[eU];exact((W0.same t5).append (((W2g.imp fun _ z=>z.elim).same t5).take k)).append (.one (hWL.same t5))
 have hlnk:=t5 _ _ hlng;have hlak:=t5 _ _ hlag;obtain⟨Ik,_⟩:=Ic.rex (scg.trans t5) (X':=fun x=>x=ln\/x=la\/x=l5) (fun x z=>by
  rcases z with z|z|z
  ·exact .inl (.inl z)
  ·exact .inr (by rw[z];exact fla')
  ·exact .inr (by rw[z];exact f5c)) fun x z=>by
  rcases z with z|z|z
  ·exact⟨nu.map V.int,by rw[z];exact hlnk⟩
  ·exact⟨ys2,by rw[z];exact hlak⟩
  ·exact⟨_,by rw[z];exact q5⟩
 have nlm1:∀ {X:Addr->Prop},¬ X lm->¬ B23 d lp lo ll X lm:=fun hX z=>by
  rcases z with z|z|z|z|z
  ·exact hlmX (.inl z)
  ·exact hlmX (.inr (.inl z))
  ·exact hlmX (.inr (.inr (.inl z)))
  ·exact hlmX (.inr (.inr (.inr (.inl z))))
  ·exact hX z
 have nlln:lm≠ln:=fun z=>hlmX (.inr (.inr (.inr (.inr z))));have nlla:lm≠la:=Zh hlmc fla';have nll5:lm≠l5:=Zh hlmc f5c;have hkO:∀ x,x=lm->x∉A1.fp/\¬ B23 d lp lo ll (fun x=>x=ln\/x=la\/x=l5) x:=fun x z=>by
  rw[z];refine⟨hlmA,nlm1 fun w=>?_⟩;rcases w with w|w|w
  ·exact nlln w
  ·exact nlla w
  ·exact nll5 w
 have WLh:=WL.hide (A:=A1) Ik.hok hkO;have W2h:=((W2g.imp (ok':=fun x=>x=lm) fun _ z=>z.elim).same t5).hide (A:=A1) Ik.hok hkO;have Wdh:=(Wg.same t5).hide (A:=A1) Ik.hok hkO;have hUl:(upto es c ms ps++[L]).length<=110:=by
  rw[<- WL.len,zsh,zsh,ztc];show ys.length+min k ys2.length+1<=110;omega
 refine⟨A1,T4 rr (Int.toNat 3),d,lp,lo,ll,l5,fun x=>x=ln\/x=la\/x=l5,_,upto es c ms ps++[L],nu,0,rfl,Ik,.inr (.inr rfl),q5,WLh,fun D hD=>(dU D hD).2,Can.plain (fun D hD=>(dU D hD).1) _ (show 0<rr by omega),zs1 _,by omega,fun ll2 A2 S2 Hl eAp ru hst I2 fr2 hX2=>⟨true,rfl,iteF ?_⟩⟩;have at1:=zhi ru (by rw[hel];exact hk) hr5 ⋯ ⋯ (fun x hx=>(heb x hx).1) hen gm hml hpr hpn ⋯ hL;have sm2:=ru.small (fun D hD=>(dU D hD).2.sm) ⟨nofun,zs1 _,hr60⟩;have hlnl:=hX2 ln _ (.inl rfl) hlnk;have hlal:=hX2 la _ (.inr (.inl rfl)) hlak;have W2l:=W2h.fr fr2;have Wdl:=Wdh.fr fr2;clear WLh W2h Wdh WL W2g Wg W0 hWL hX2 fr2 ru Ik Ic q5 t5 hkO dU;obtain⟨lts,g1,g2⟩:=I2.st.gg;have hl100:lts.length=100:=by rw[g2.length,zsg,at1.full]
 refine⟨_,rfl,d,_,rfl,DGet.k (k:=.inr "log") I2.st.dd,ll2,lts,rfl,.inl (SqL.of g1),rfl,false,(by rw[hl100];rfl),iteF (Zu ?_)⟩;dsimp only;have hylast:∃ tz p,atI ys2 (-1)=some (V.ref tz)/\p∈ps/\Z3 (·∉A2.fp) (hide (B23 d lp lo ll2 fun x=>x=ln\/x=la\/x=l5) Hl) tz (V5 p):=by
  rcases List.eq_nil_or_concat ys2 with z|⟨xs,y,z⟩
  ·rw[z] at hlen2;exact absurd hlen2 (by show ¬ 0=ps.length;omega)
  ·rw[List.concat_eq_append] at z;have hy:ys2[xs.length]?=some y:=by rw[z];simp
   obtain⟨tz,Dz,e,hz,hWz⟩:=W2l.at_ _ y hy;rw[zsn] at hz;cases hq:ps[xs.length]? with
   | none=>rw[hq] at hz;cases hz
   | some p =>
     rw[hq] at hz;cases hz;exact⟨tz,p,by rw[z,e];exact L2.atI_last _ _,zsu hq,hWz⟩
 obtain⟨tz,pz,hz1,hz2,hz3⟩:=hylast;have hz4:Hl tz=some (.tup [.str "away",.int pz.1,.int pz.2]):=Q4 _ _ _ _ hz3;have sz:=(dA pz hz2).2.sm;have szp:Z8 pz.1/\Z8 pz.2:=sz;refine⟨sz1,fun b1 y1'=>?_⟩;have v1:=Ze (o:=.tup [.str "take back"]) y1';have r1:=Zb (H:=Hl) (a:=b1) (o:=.tup [.str "take back"]);generalize upd Hl b1 (.tup [.str "take back"])=J1 at v1 r1 ⊢;refine⟨sz1,fun b2 y2'=>?_⟩;have v2:=Ze (o:=.tup [.str "take back"]) y2';have r2:=Zb (H:=J1) (a:=b2) (o:=.tup [.str "take back"]);generalize upd J1 b2 (.tup [.str "take back"])=J2 at v2 r2 ⊢;refine⟨_,rfl,(by show 3<=sizeLine;rw[sizeLine_eq];decide),fun b3 y3'=>?_⟩;have v3:=Ze (o:=.lst [.ref b1,.ref b2,.ref td]) y3';have r3:=Zb (H:=J2) (a:=b3) (o:=.lst [.ref b1,.ref b2,.ref td]);generalize upd J2 b3 (.lst [.ref b1,.ref b2,.ref td])=J3 at v3 r3 ⊢;have w13:=(v1.trans v2).trans v3;refine⟨_,rfl,_,rfl,_,_,rfl,rfl,_,rfl,_,rfl,_,_,rfl,rfl,_,rfl,la,ys2,rfl,SqL.of (w13 _ _ hlal),fun b4 y4'=>?_⟩;rw[show (k:Int)+1=((k+1:Nat):Int) by omega,show (k:Int)+4=((k+4:Nat):Int) by omega,zep _ ⋯,show k+4-(k+1)=3 by omega];have v4:=Ze (o:=.lst ((ys2.drop (k+1)).take 3)) y4';have r4:=Zb (H:=J3) (a:=b4) (o:=.lst ((ys2.drop (k+1)).take 3));generalize upd J3 b4 (.lst ((ys2.drop (k+1)).take 3))=J4 at v4 r4 ⊢;refine⟨b3,b4,_,_,rfl,rfl,v4 _ _ r3,r4,szN (by rw[ztc];show 3+min 3 _<=1000;omega),fun b5 y5'=>?_⟩;have v5:=Ze (o:=.lst ([V.ref b1,.ref b2,.ref td]++(ys2.drop (k+1)).take 3)) y5';have r5:=Zb (H:=J4) (a:=b5) (o:=.lst ([V.ref b1,.ref b2,.ref td]++(ys2.drop (k+1)).take 3));have w15:=(w13.trans v4).trans v5;generalize upd J4 b5 (.lst ([V.ref b1,.ref b2,.ref td]++(ys2.drop (k+1)).take 3))=J5 at v5 r5 w15 ⊢;have i1:=((((v2.trans v3).trans v4).trans v5)) _ _ r1;have i2:=(((v3.trans v4).trans v5)) _ _ r2;have J5I:=I2.same w15;walk_at "if";refine Yn ?_;refine⟨_,rfl,_,rfl,_,rfl,_,rfl,_,rfl,_,rfl,la,_,_,_,rfl,rfl,SqL.of (w15 _ _ hlal),hz1,d,lp,lo,ll2,ln,tz,S2,nu,pz.1,pz.2,rfl,J5I.st,at1.full,sm2.std,w15 _ _ hlnl,by omega,hrng,w15 _ _ hz4,szp.1,szp.2,fun lq tq Tq J6 hq Wq hTl hT u6 fq=>?_⟩;refine⟨_,rfl,lq,b5,_,_,rfl,rfl,hq,u6 _ _ r5,szN (by rw[Wq.len,hTl,zsh,ztc];show 12+(3+min 3 _)<=1000;omega),fun l8 f8=>?_⟩;have u8:=Ze (o:=.lst (tq++([V.ref b1,.ref b2,.ref td]++(ys2.drop (k+1)).take 3))) f8;have q8:=Zb (H:=J6) (a:=l8) (o:=.lst (tq++([V.ref b1,.ref b2,.ref td]++(ys2.drop (k+1)).take 3)));have w8:=(w15.trans u6).trans u8;have f8l:=(w15.trans u6).free f8;have u68:=u6.trans u8;have Wq8:=Wq.same u8;generalize upd J6 l8 (.lst (tq++([V.ref b1,.ref b2,.ref td]++(ys2.drop (k+1)).take 3)))=J8 at u8 q8 w8 u68 Wq8 ⊢;obtain⟨I8,m8⟩:=I2.rex w8 (X':=fun x=>x=ln\/x=la\/x=l8) (fun x z=>by
  rcases z with z|z|z
  ·exact .inl (.inl z)
  ·exact .inl (.inr (.inl z))
  ·exact .inr (by rw[z];exact f8l)) fun x z=>by
  rcases z with z|z|z
  ·exact⟨nu.map V.int,by rw[z];exact w8 _ _ hlnl⟩
  ·exact⟨ys2,by rw[z];exact w8 _ _ hlal⟩
  ·exact⟨_,by rw[z];exact q8⟩
 have fresh8:∀ x,J5 x=none->x∉A2.fp/\¬ B23 d lp lo ll2 (fun x=>x=ln\/x=la\/x=l8) x\/x=l8:=fun x hx=>by
  by_cases hl8:x=l8
  ·exact .inr hl8
  ·refine .inl ⟨I2.sea.newOk _ (Vg (w15.free hx)),fun z=>?_⟩;have ho:=J5I.out hx;rcases z with z|z|z|z|z|z|z
   ·exact ho (.inl z)
   ·exact ho (.inr (.inl z))
   ·exact ho (.inr (.inr (.inl z)))
   ·exact ho (.inr (.inr (.inr (.inl z))))
   ·exact ho (.inr (.inr (.inr (.inr (.inl z)))))
   ·exact ho (.inr (.inr (.inr (.inr (.inr (.inl z))))))
   ·exact hl8 z
 have Wq6:Z4 (fun x=>x∉A2.fp/\¬ B23 d lp lo ll2 (fun x=>x=ln\/x=la\/x=l8) x) J8 tq Tq:=⟨Wq8.len,fun i x hx=>by
  obtain⟨t,D,a1,a2,a3⟩:=Wq.at_ i x hx;refine⟨t,D,a1,a2,?_⟩;cases D with
  | draw ms' =>
    obtain⟨l,tt,e1,e2,e3,e4⟩:=a3;refine⟨l,tt,u8 _ _ e1,u8 _ _ e2,e3.same u8,?_⟩;rcases fresh8 l e4 with z|z
    ·exact z
    ·rw[z,f8] at e2;cases e2
  | enrol n g c=>exact u8 _ _ a3
  | away i n=>exact u8 _ _ a3
  | close=>exact u8 _ _ a3
  | back=>exact u8 _ _ a3⟩
 have Wqh:=Wq6.hide (A:=A2) I8.hok fun _ z=>z;have Wd8:=Wdl.same m8;have W28:=W2l.same m8;have Wb:∀ {t:Addr},J5 t=some (.tup [.str "take back"])->Z3 (·∉A2.fp) (hide (B23 d lp lo ll2 fun x=>x=ln\/x=la\/x=l8) J8) t .back:=fun {t} e=>(Yv fun z=>I8.hok.tup t _ z (u68 _ _ e)).trans (u68 _ _ e);have WL:Z4 (·∉A2.fp) (hide (B23 d lp lo ll2 fun x=>x=ln\/x=la\/x=l8) J8) (tq++([V.ref b1,.ref b2,.ref td]++(ys2.drop (k+1)).take 3)) (Uq Tq ms ps k):=by
  unfold Uq;refine Wqh.append (Z4.append (((Z4.one (Wb i1)).append (.one (Wb i2))).append (.one Wd8)) ?_);rw[List.map_take,List.map_drop];exact(W28.drop _).take _
 have d2:∀ D∈Uq Tq ms ps k,D25 nu D:=fun D hD=>by
  unfold Uq at hD;rcases zsv.mp hD with z|z
  ·exact(hT D z).2
  ·rcases zsv.mp z with z|z
   ·simp only[zsk,zth,or_false] at z;rcases z with rfl|rfl|rfl
    ·exact .plain (.inr rfl)
    ·exact .plain (.inr rfl)
    ·exact dM.2
   ·obtain⟨p,hp,rfl⟩:=zsq.mp z;exact(dA p (zuh (zt4 hp))).2
 have hTp:∀ D∈Tq,X2 D:=fun D hD=>(hT D hD).1;have hlt0:(T4 rr (Int.toNat 3)).led.length<(T4 rr (Int.toNat 3)).len:=by show 0<rr;omega
 have h2l:(Uq Tq ms ps k).length<=20:=by
  rw[<- WL.len,zsh,zsh,ztc,Wqh.len,hTl];show 12+(3+min 3 _)<=20;omega
 refine⟨A2,S2,d,lp,lo,ll2,l8,fun x=>x=ln\/x=la\/x=l8,_,Uq Tq ms ps k,nu,_,(by rw[eAp];rfl),I8,.inr (.inr rfl),q8,WL,d2,zjy at1 hlt0 hTp,hst,by omega,fun ll3 A3 S3 Hm eAp3 ru3 hst3 I3 fr3 hX3=>⟨true,rfl,iteF (Zu ?_)⟩⟩;obtain⟨at2,led3,len3,cur3⟩:=zhj ru3 at1 hlt0 hTp gm hml (fun p hp=>by
  obtain⟨x1,x2,x3⟩:=hpr p hp;exact⟨by show (0:Int)<p.1;omega,by show p.1<=(rr:Int);omega,x3⟩) hpn ⋯
 have sm3:=ru3.small (fun D hD=>(d2 D hD).sm) sm2;have hlnm:=hX3 ln _ (.inl rfl) (w8 _ _ hlnl);have hlam:=hX3 la _ (.inr (.inl rfl)) (w8 _ _ hlal);have W2m:=W28.fr fr3;have hz5:Hm tz=some (.tup [.str "away",.int pz.1,.int pz.2]):=Q4 _ _ _ _ ((hz3.same m8).fr fr3);have eAp4:=eAp3.trans eAp;clear WL Wqh Wq6 Wq8 Wq fresh8 I8 m8 W28 Wd8 Wb fr3 hX3 ru3 u68 u8 w8 q8 J5I i1 i2 w15 v5 r5 v4 r4 w13 v3 r3 v2 r2 v1 r1 W2l Wdl I2 hz4 hz3 hlal hlnl d2 hT u6 hq sm2;dsimp only;obtain⟨lt3,h1',h2'⟩:=I3.st.gg;have hl3:lt3.length=100:=by rw[h2'.length,zsg,at2]
 refine Yn ?_;refine⟨_,rfl,d,_,rfl,DGet.k (k:=.inr "log") I3.st.dd,ll3,lt3,rfl,.inl (SqL.of h1'),rfl,false,(by rw[hl3];rfl),iteF ?_⟩;refine⟨100,rfl,true,rfl,iteF ?_⟩;refine⟨rfl,false,rfl,iteF (Zu ?_)⟩;dsimp only;refine⟨_,rfl,_,rfl,_,rfl,_,rfl,la,_,_,_,rfl,rfl,SqL.of hlam,hz1,d,lp,lo,ll3,ln,tz,S3,nu,pz.1,pz.2,rfl,I3.st,at2,sm3.std,hlnm,by omega,hrng,hz5,szp.1,szp.2,fun lq tq Tr J6 hq Wq hTl hT u6 fq=>?_⟩;refine⟨sz1,fun c1 z1'=>?_⟩;have v1:=Ze (o:=.tup [.str "close"]) z1';have r1:=Zb (H:=J6) (a:=c1) (o:=.tup [.str "close"]);generalize upd J6 c1 (.tup [.str "close"])=J7 at v1 r1 ⊢;refine⟨sz1,fun c2 z2'=>?_⟩;have v2:=Ze (o:=.lst [.ref c1]) z2';have r2:=Zb (H:=J7) (a:=c2) (o:=.lst [.ref c1]);generalize upd J7 c2 (.lst [.ref c1])=J8 at v2 r2 ⊢;have hlq:tq.length=12:=by rw[Wq.len,hTl]
 refine⟨lq,c2,_,_,rfl,rfl,v2 _ _ (v1 _ _ hq),r2,szN (by rw[hlq];show 12+1<=1000;decide),fun c3 z3'=>?_⟩;have v3:=Ze (o:=.lst (tq++[.ref c1])) z3';have r3:=Zb (H:=J8) (a:=c3) (o:=.lst (tq++[.ref c1]));generalize upd J8 c3 (.lst (tq++[.ref c1]))=J9 at v3 r3 ⊢;have u9:=((u6.trans v1).trans v2).trans v3;refine⟨_,rfl,_,rfl,_,_,rfl,rfl,_,rfl,la,ys2,rfl,SqL.of (u9 _ _ hlam),fun c4 z4'=>?_⟩;rw[show (k:Int)+4=((k+4:Nat):Int) by omega,zay];have v4:=Ze (o:=.lst (ys2.drop (k+4))) z4';have r4:=Zb (H:=J9) (a:=c4) (o:=.lst (ys2.drop (k+4)));generalize upd J9 c4 (.lst (ys2.drop (k+4)))=Ja at v4 r4 ⊢;refine⟨c3,c4,_,_,rfl,rfl,v4 _ _ r3,r4,szN (by rw[zsh,ztu,hlq];show 12+1+(ys2.length-(k+4))<=1000;omega),fun c5 z5'=>?_⟩;have v5:=Ze (o:=.lst (tq++[.ref c1]++ys2.drop (k+4))) z5';have r5:=Zb (H:=Ja) (a:=c5) (o:=.lst (tq++[.ref c1]++ys2.drop (k+4)));have vq:=(((v1.trans v2).trans v3).trans v4).trans v5;have w5:=u6.trans vq;have z5m:=(u9.trans v4).free z5';have e1:=(((v2.trans v3).trans v4).trans v5) _ _ r1;generalize upd Ja c5 (.lst (tq++[.ref c1]++ys2.drop (k+4)))=Jb at v5 r5 vq w5 e1 ⊢;walk_at "if";obtain⟨Ib,mb⟩:=I3.rex w5 (X':=fun x=>x=c5) (fun x z=>.inr (by rw[z];exact z5m)) fun x z=>⟨tq++[.ref c1]++ys2.drop (k+4),by rw[z];exact r5⟩
 have Wqb:Z4 (fun x=>x∉A3.fp/\¬ B23 d lp lo ll3 (fun x=>x=c5) x) Jb tq Tr:=⟨Wq.len,fun i x hx=>by
  obtain⟨t,D,a1,a2,a3⟩:=Wq.at_ i x hx;refine⟨t,D,a1,a2,?_⟩;cases D with
  | draw ms' =>
    obtain⟨l,tt,q1,q2,q3,q4⟩:=a3;refine⟨l,tt,vq _ _ q1,vq _ _ q2,q3.same vq,I3.sea.newOk _ (Vg q4),fun z=>?_⟩;have ho:=I3.out q4;rcases z with z|z|z|z|z
    ·exact ho (.inl z)
    ·exact ho (.inr (.inl z))
    ·exact ho (.inr (.inr (.inl z)))
    ·exact ho (.inr (.inr (.inr (.inl z))))
    ·have:=(((v1.trans v2).trans v3).trans v4) _ _ q2;rw[z,z5'] at this;cases this
  | enrol n g c=>exact vq _ _ a3
  | away i n=>exact vq _ _ a3
  | close=>exact vq _ _ a3
  | back=>exact vq _ _ a3⟩
 have Wqh:=Wqb.hide (A:=A3) Ib.hok fun _ z=>z;have W2b:=W2m.same mb;have Wcl:Z3 (·∉A3.fp) (hide (B23 d lp lo ll3 fun x=>x=c5) Jb) c1 .close:=(Yv fun z=>Ib.hok.tup c1 _ z e1).trans e1;have WL:Z4 (·∉A3.fp) (hide (B23 d lp lo ll3 fun x=>x=c5) Jb) (tq++[.ref c1]++ys2.drop (k+4)) (Tr++.close :: (ps.drop (k+4)).map V5):=by
  rw[show Tr++.close :: (ps.drop (k+4)).map V5=Tr++[.close]++(ps.map V5).drop (k+4) by rw[ztn,List.map_drop];rfl];exact(Wqh.append (.one Wcl)).append (W2b.drop _)
 have h3l:(Tr++Yg.close :: (ps.drop (k+4)).map V5).length<=170:=by
  rw[<- WL.len,zsh,zsh,ztu,hlq];show 12+1+(ys2.length-(k+4))<=170;omega
 have hled3:S3.led.length+1<S3.len:=by rw[led3,len3];show 0+1<rr;omega
 refine⟨_,rfl,_,rfl,_,rfl,A3,S3,d,lp,lo,ll3,c5,fun x=>x=c5,_,_,nu,_,(by rw[eAp4];rfl),Ib,rfl,r5,WL,fun D hD=>?_,can3 at2 hled3 cur3 (fun D hD=>(hT D hD).1) fun D hD=>?_,hst3,by omega,fun _ _ _ H' _ _ _ _ _ _=>h H'⟩
 ·rcases zsv.mp hD with z|z
  ·exact(hT D z).2
  ·rcases zsk.mp z with z|z
   ·rw[z];exact .plain (.inl rfl)
   ·obtain⟨p,hp,rfl⟩:=zsq.mp z;exact(dA p (zuh hp)).2
 ·obtain⟨p,hp,rfl⟩:=zsq.mp hD;exact(dA p (zuh hp)).1
end
end K25
namespace K25
open PySem PySem.Spec PyProof.Rows L2 G PySem.W
theorem zhl{l:OpenLaw}{w:World}{K:Frag}{h:Heap}{mg:Str->Option Value}{fa zln zkn zkp zkk zkl zkm zk6 zkw zkt zk0 zkv zks zlc zk5 zkh zko zke zkf zkg zkc f0 f1 f2 f3 f4 f5 f6 f7 f8 f9 f10 f11 f12 f13 f14 f15 f16 f17 f18 f19 f20 f21 f22 f23 f24 f25 f26 f27 f28 f29 f30 f31 f32 f33 f34 f35 f36 f37 f38 f39 f40 f41 f42 f43 f44 f45 f46 f47 f48 f49 f50 f51 f52 f53 f54 f55 f56 f57 f58 f59 f60 f61 f62 f63 f64 f65 f66 f67 f68 f69 f70 f71 f72 f73 f74:Addr}{tk0 tk1 tk2 tk3 tk4 tk5 tk6 tk7:Tok}{u0 n0 u1 n1 u2 n2 u3 n3 u4 n4 u5 n5 u6 n6 u7 n7 u8 n8 u9 n9 u10 n10 u11 n11 u12 n12 u13 n13 u14 n14 u15 n15 u16 n16 u17 n17 u18 n18 u19 n19 u20 n20 u21 n21 u22 n22 u23 n23 u24 n24 u25 n25 u26 n26 u27 n27 u28 n28 u29 n29 u30 n30 u31 n31 u32 n32 u33 n33 u34 n34 u35 n35 u36 n36 u37 n37 u38 n38 u39 n39 u40 n40 u41 n41 u42 n42 u43 n43 u44 n44 u45 n45 u46 n46 u47 n47 u48 n48 u49 n49 u50 n50 u51 n51 u52 n52 u53 n53 u54 n54 u55 n55 u56 n56 u57 n57 u58 n58 u59 n59 u60 n60 u61 n61 u62 n62 u63 n63 u64 n64 u65 n65 u66 n66 u67 n67 u68 n68 u69 n69 u70 n70 u71 n71 u72 n72 u73 n73 u74 n74:Option Addr}{z0 z1 z2 z3 z4 z5 z6 z7 z8 z9 z10 z11 z12 z13 z14 z15 z16 z17 z18 z19 z20 z21 z22 z23 z24 z25 z26 z27 z28 z29 z30 z31 z32 z33 z34 z35 z36 z37 z38 z39 z40 z41 z42 z43 z44 z45 z46 z47 z48 z49 z50 z51 z52 z53 z54 z55 z56 z57 z58 z59 z60 z61 z62 z63 z64 z65 z66 z67 z68 z69 z70 z71 z72 z73 z74:Array (Option Value)}{o0 v0 d0 m0 c0 t0 o1 v1 d1 m1 c1 t1 o2 v2 d2 m2 c2 t2 o3 v3 d3 m3 c3 t3 o4 v4 d4 m4 c4 t4 o5 v5 d5 m5 c5 t5 o6 v6 d6 m6 c6 t6 o7 v7 d7 m7 c7 t7 o8 v8 d8 m8 c8 t8 o9 v9 d9 m9 c9 t9 o10 v10 d10 m10 c10 t10 o11 v11 d11 m11 c11 t11 o12 v12 d12 m12 c12 t12 o13 v13 d13 m13 c13 t13 o14 v14 d14 m14 c14 t14 o15 v15 d15 m15 c15 t15 o16 v16 d16 m16 c16 t16 o17 v17 d17 m17 c17 t17 o18 v18 d18 m18 c18 t18 o19 v19 d19 m19 c19 t19 o20 v20 d20 m20 c20 t20 o21 v21 d21 m21 c21 t21 o22 v22 d22 m22 c22 t22 o23 v23 d23 m23 c23 t23 o24 v24 d24 m24 c24 t24 o25 v25 d25 m25 c25 t25 o26 v26 d26 m26 c26 t26 o27 v27 d27 m27 c27 t27 o28 v28 d28 m28 c28 t28 o29 v29 d29 m29 c29 t29 o30 v30 d30 m30 c30 t30 o31 v31 d31 m31 c31 t31 o32 v32 d32 m32 c32 t32 o33 v33 d33 m33 c33 t33 o34 v34 d34 m34 c34 t34 o35 v35 d35 m35 c35 t35 o36 v36 d36 m36 c36 t36 o37 v37 d37 m37 c37 t37 o38 v38 d38 m38 c38 t38 o39 v39 d39 m39 c39 t39 o40 v40 d40 m40 c40 t40 o41 v41 d41 m41 c41 t41 o42 v42 d42 m42 c42 t42 o43 v43 d43 m43 c43 t43 o44 v44 d44 m44 c44 t44 o45 v45 d45 m45 c45 t45 o46 v46 d46 m46 c46 t46 o47 v47 d47 m47 c47 t47 o48 v48 d48 m48 c48 t48 o49 v49 d49 m49 c49 t49 o50 v50 d50 m50 c50 t50 o51 v51 d51 m51 c51 t51 o52 v52 d52 m52 c52 t52 o53 v53 d53 m53 c53 t53 o54 v54 d54 m54 c54 t54 o55 v55 d55 m55 c55 t55 o56 v56 d56 m56 c56 t56 o57 v57 d57 m57 c57 t57 o58 v58 d58 m58 c58 t58 o59 v59 d59 m59 c59 t59 o60 v60 d60 m60 c60 t60 o61 v61 d61 m61 c61 t61 o62 v62 d62 m62 c62 t62 o63 v63 d63 m63 c63 t63 o64 v64 d64 m64 c64 t64 o65 v65 d65 m65 c65 t65 o66 v66 d66 m66 c66 t66 o67 v67 d67 m67 c67 t67 o68 v68 d68 m68 c68 t68 o69 v69 d69 m69 c69 t69 o70 v70 d70 m70 c70 t70 o71 v71 d71 m71 c71 t71 o72 v72 d72 m72 c72 t72 o73 v73 d73 m73 c73 t73 o74 v74 d74 m74 c74 t74:Value}(X:K.In h)(G:h.Ns mainGlobals mg)(hfa:mg "law"=some (.ref fa))
  (zn2:NsB K "BookError" zln)
  (zmz:NsB K "OutOfRange" zkn)
  (zma:NsB K "KnownReferee" zkp)
  (zlp:NsB K "TooManyReferees" zkk)
  (zlx:NsB K "UnknownReferee" zkl)
  (zlu:NsB K "TooManyMatches" zkm)
  (znu:NsB K "SameClub" zk6)
  (znj:NsB K "NoSuchMatch" zkw)
  (zmn:NsB K "NoSuchRound" zkt)
  (zng:NsB K "RoundOver" zk0)
  (zm0:NsB K "SeasonOver" zkv)
  (zml:NsB K "AwayAlready" zks)
  (zn8:NsB K "DrawnUp" zlc)
  (znx:NsB K "NotDrawn" zk5)
  (zlj:NsB K "NothingToTakeBack" zkh)
  (zmb:NsB K "TooManyDeeds" zko)
  (zoj:NsB K "Ledger" zke)
  (zon:NsB K "Roster" zkf)
  (zph:NsB K "Sheet" zkg)
  (zom:NsB K "Season" zkc)
  (zpd:plainGet K zke Str.empty=true)
  (zoy:hasDictIn K zke=true)
  (zo3:plainOver K zke=true)
  (zo7:findIn K (.ref zke) "__setattr__"=some (some (.builtin "object.__setattr__")))
  (zov:makesIn K zke=true)
  (zot:keepIn K (.ref zke)=true)
  (zmp:findIn K (.ref zke) "rounds"=some none)
  (zlt:findIn K (.ref zke) "meetings"=some none)
  (zo2:plainGet K zkf Str.empty=true)
  (zop:hasDictIn K zkf=true)
  (zo9:plainOver K zkf=true)
  (zow:findIn K (.ref zkf) "__setattr__"=some (some (.builtin "object.__setattr__")))
  (zo4:makesIn K zkf=true)
  (zo6:keepIn K (.ref zkf)=true)
  (zlf:findIn K (.ref zkf) "entries"=some none)
  (zpr:plainGet K zkg Str.empty=true)
  (zpq:hasDictIn K zkg=true)
  (zpl:plainOver K zkg=true)
  (zps:findIn K (.ref zkg) "__setattr__"=some (some (.builtin "object.__setattr__")))
  (zpj:makesIn K zkg=true)
  (zpy:keepIn K (.ref zkg)=true)
  (zme:findIn K (.ref zkg) "listed"=some none)
  (zol:findIn K (.ref zkg) "lists"=some none)
  (zmm:findIn K (.ref zkg) "given"=some none)
  (zn1:findIn K (.ref zkg) "gaps"=some none)
  (zoz:plainGet K zkc Str.empty=true)
  (zor:hasDictIn K zkc=true)
  (zo0:plainOver K zkc=true)
  (zou:findIn K (.ref zkc) "__setattr__"=some (some (.builtin "object.__setattr__")))
  (zpb:makesIn K zkc=true)
  (zo5:keepIn K (.ref zkc)=true)
  (zna:findIn K (.ref zkc) "length"=some none)
  (zpa:findIn K (.ref zkc) "rest"=some none)
  (zlk:findIn K (.ref zkc) "roster"=some none)
  (zls:findIn K (.ref zkc) "ledger"=some none)
  (zmc:findIn K (.ref zkc) "absent"=some none)
  (zm1:findIn K (.ref zkc) "sheets"=some none)
  (zlb:findIn K (.ref zkc) "sheet"=some none)
  (zle:findIn K (.ref zkc) "standing"=some none)
  (zn0:XcB K zkn)
  (zmj:XcB K zkm)
  (zoe:XcB K zk6)
  (zm2:XcB K zkp)
  (zmd:XcB K zkk)
  (zmg:XcB K zkl)
  (zny:XcB K zkv)
  (zpe:XcB K zlc)
  (znk:XcB K zkt)
  (zm4:XcB K zko)
  (zof:XcB K zk5)
  (zn5:XcB K zk0)
  (znh:XcB K zks)
  (zlz:XcB K zkh)
  (zpz:NzB K "max")
  (zli:NzB K "len")
  (zn9:NzB K "tuple")
  (zmi:NzB K "list")
  (zmo:NzB K "enumerate")
  (zlw:NzB K "range")
  (zqf:NzB K "zip")
  (zki:NzB K "isinstance")
  (zog:NzB K "int")
  (zpm:NzB K "bool")
  (zqe:NzB K "str")
  (zl9:NzB K "ValueError")
  (zqd:NzB K "any")
  (zqh:NzB K "min")
  (zns:typeIn K (.ref zln)=some (.type "type"))
  (zmx:mroIn K zln (.type "BaseException")=some true)
  (ga:∀ r:Ref,r≠.noMatch->findIn K (.ref (r.cls (CA.mk zkc zkg zkf zke zkn zkp zkk zkl zkm zk6 zkw zkt zk0 zkv zks zlc zk5 zkh zko))) "__getattribute__"=some (some (.builtin "BaseException.__getattribute__")))
  (gk:∀ r:Ref,r≠.noMatch->findIn K (.ref (r.cls (CA.mk zkc zkg zkf zke zkn zkp zkk zkl zkm zk6 zkw zkt zk0 zkv zks zlc zk5 zkh zko))) "__getattr__"=some none)
  (at_:∀ r:Ref,r≠.noMatch->findIn K (.ref (r.cls (CA.mk zkc zkg zkf zke zkn zkp zkk zkl zkm zk6 zkw zkt zk0 zkv zks zlc zk5 zkh zko))) "__class__"=some (some (.builtin "object.__class__")))
  (mx:∀ r:Ref,r≠.noMatch->mroIn K (r.cls (CA.mk zkc zkg zkf zke zkn zkp zkk zkl zkm zk6 zkw zkt zk0 zkv zks zlc zk5 zkh zko)) (.type "BaseException")=some true)
  (mo:∀ r:Ref,r≠.noMatch->mroIn K (r.cls (CA.mk zkc zkg zkf zke zkn zkp zkk zkl zkm zk6 zkw zkt zk0 zkv zks zlc zk5 zkh zko)) (.type "object")=some true)
  (mB:∀ r:Ref,r≠.noMatch->mroIn K (r.cls (CA.mk zkc zkg zkf zke zkn zkp zkk zkl zkm zk6 zkw zkt zk0 zkv zks zlc zk5 zkh zko)) (.ref zln)=some true)
  (kit:∀ r t:Ref,r≠.noMatch->kitOne K (.ref (r.cls (CA.mk zkc zkg zkf zke zkn zkp zkk zkl zkm zk6 zkw zkt zk0 zkv zks zlc zk5 zkh zko))) (.ref (t.cls (CA.mk zkc zkg zkf zke zkn zkp zkk zkl zkm zk6 zkw zkt zk0 zkv zks zlc zk5 zkh zko)))=some (decide (r=t)))
  (zqm:∀ r:Ref,r≠.noMatch->kitOne K (.ref (r.cls (CA.mk zkc zkg zkf zke zkn zkp zkk zkl zkm zk6 zkw zkt zk0 zkv zks zlc zk5 zkh zko))) (.type "ValueError")=some true)
  (gt:specialIn K (.builtin "object.__class__") "__get__"=some (some (.builtin "getset_descriptor.__get__")))
  (tk:takesIn K (.builtin "object.__class__")=some true)
  (zl2:nsIn K mainGlobals "MOST_NUMBER"=some (some (.int 999 tk0)))
  (zlv:nsIn K mainGlobals "MOST_GRADE"=some (some (.int 9 tk1)))
  (zlr:nsIn K mainGlobals "MOST_CLUB"=some (some (.int 99 tk2)))
  (zlg:nsIn K mainGlobals "MOST_REFEREES"=some (some (.int 30 tk3)))
  (zll:nsIn K mainGlobals "MOST_MATCHES"=some (some (.int 20 tk4)))
  (zl0:nsIn K mainGlobals "MOST_ROUNDS"=some (some (.int 60 tk5)))
  (zmq:nsIn K mainGlobals "MOST_REST"=some (some (.int 10 tk6)))
  (zlh:nsIn K mainGlobals "MOST_DEEDS"=some (some (.int 100 tk7)))
  (l0:LN K "met_lately" "met_lately" Rk f0 o0 v0 d0 m0 c0 t0 u0 n0 z0)
  (l1:LN K "reasons" "reasons" Ny f1 o1 v1 d1 m1 c1 t1 u1 n1 z1)
  (l2:LN K "takers" "takers" K4 f2 o2 v2 d2 m2 c2 t2 u2 n2 z2)
  (l3:LM K zke "__init__" "Ledger.__init__" Vq f3 o3 v3 d3 m3 c3 t3 u3 n3 z3)
  (l4:LM K zke "write" "Ledger.write" Tc f4 o4 v4 d4 m4 c4 t4 u4 n4 z4)
  (l5:LM K zke "over" "Ledger.over" T6 f5 o5 v5 d5 m5 c5 t5 u5 n5 z5)
  (l6:LM K zke "met" "Ledger.met" Rl f6 o6 v6 d6 m6 c6 t6 u6 n6 z6)
  (l7:LN K "check_range" "check_range" T7 f7 o7 v7 d7 m7 c7 t7 u7 n7 z7)
  (l8:LN K "check_count" "check_count" T8 f8 o8 v8 d8 m8 c8 t8 u8 n8 z8)
  (l9:LN K "check_ranges" "check_ranges" Td f9 o9 v9 d9 m9 c9 t9 u9 n9 z9)
  (l10:LN K "check_clubs" "check_clubs" T9 f10 o10 v10 d10 m10 c10 t10 u10 n10 z10)
  (l11:LN K "checked" "checked" Nz f11 o11 v11 d11 m11 c11 t11 u11 n11 z11)
  (l12:LM K zkf "__init__" "Roster.__init__" Vs f12 o12 v12 d12 m12 c12 t12 u12 n12 z12)
  (l13:LM K zkf "check_new" "Roster.check_new" W8 f13 o13 v13 d13 m13 c13 t13 u13 n13 z13)
  (l14:LM K zkf "check_known" "Roster.check_known" Wi f14 o14 v14 d14 m14 c14 t14 u14 n14 z14)
  (l15:LM K zkf "add" "Roster.add" Rm f15 o15 v15 d15 m15 c15 t15 u15 n15 z15)
  (l16:LM K zkf "strike" "Roster.strike" Ur f16 o16 v16 d16 m16 c16 t16 u16 n16 z16)
  (l17:LM K zkf "numbers" "Roster.numbers" V9 f17 o17 v17 d17 m17 c17 t17 u17 n17 z17)
  (l18:LM K zkf "entry" "Roster.entry" Te f18 o18 v18 d18 m18 c18 t18 u18 n18 z18)
  (l19:LM K zkf "person" "Roster.person" Us f19 o19 v19 d19 m19 c19 t19 u19 n19 z19)
  (l20:LN K "places_taken" "places_taken" Tf f20 o20 v20 d20 m20 c20 t20 u20 n20 z20)
  (l21:LN K "steps_into" "steps_into" Rn f21 o21 v21 d21 m21 c21 t21 u21 n21 z21)
  (l22:LN K "free_referee" "free_referee" Tg f22 o22 v22 d22 m22 c22 t22 u22 n22 z22)
  (l23:LN K "traced" "traced" K5 f23 o23 v23 d23 m23 c23 t23 u23 n23 z23)
  (l24:LN K "chain" "chain" Eg f24 o24 v24 d24 m24 c24 t24 u24 n24 z24)
  (l25:LN K "stepped" "stepped" N4 f25 o25 v25 d25 m25 c25 t25 u25 n25 z25)
  (l26:LN K "fill" "fill" Bz f26 o26 v26 d26 m26 c26 t26 u26 n26 z26)
  (l27:LN K "place_of" "place_of" P8 f27 o27 v27 d27 m27 c27 t27 u27 n27 z27)
  (l28:LM K zkg "__init__" "Sheet.__init__" Ua f28 o28 v28 d28 m28 c28 t28 u28 n28 z28)
  (l29:LM K zkg "barred" "Sheet.barred" Th f29 o29 v29 d29 m29 c29 t29 u29 n29 z29)
  (l30:LM K zkg "fallen_out" "Sheet.fallen_out" W9 f30 o30 v30 d30 m30 c30 t30 u30 n30 z30)
  (l31:LM K zkg "matches" "Sheet.matches" Ut f31 o31 v31 d31 m31 c31 t31 u31 n31 z31)
  (l32:LM K zkg "goes" "Sheet.goes" Rp f32 o32 v32 d32 m32 c32 t32 u32 n32 z32)
  (l33:LM K zkg "where" "Sheet.where" Sd f33 o33 v33 d33 m33 c33 t33 u33 n33 z33)
  (l34:LM K zkg "chains" "Sheet.chains" Ti f34 o34 v34 d34 m34 c34 t34 u34 n34 z34)
  (l35:LM K zkg "rows" "Sheet.rows" Rq f35 o35 v35 d35 m35 c35 t35 u35 n35 z35)
  (l36:LN K "drawn_sheet" "drawn_sheet" Se f36 o36 v36 d36 m36 c36 t36 u36 n36 z36)
  (l37:LM K zkc "__init__" "Season.__init__" Vt f37 o37 v37 d37 m37 c37 t37 u37 n37 z37)
  (l38:LM K zkc "check_not_over" "Season.check_not_over" Xr f38 o38 v38 d38 m38 c38 t38 u38 n38 z38)
  (l39:LM K zkc "check_undrawn" "Season.check_undrawn" Xx f39 o39 v39 d39 m39 c39 t39 u39 n39 z39)
  (l40:LM K zkc "check_round" "Season.check_round" Wj f40 o40 v40 d40 m40 c40 t40 u40 n40 z40)
  (l41:LM K zkc "check_room" "Season.check_room" Wr f41 o41 v41 d41 m41 c41 t41 u41 n41 z41)
  (l42:LM K zkc "note" "Season.note" Sh f42 o42 v42 d42 m42 c42 t42 u42 n42 z42)
  (l43:LM K zkc "sheet_at_hand" "Season.sheet_at_hand" Xy f43 o43 v43 d43 m43 c43 t43 u43 n43 z43)
  (l44:LM K zkc "sheet_of" "Season.sheet_of" Vu f44 o44 v44 d44 m44 c44 t44 u44 n44 z44)
  (l45:LM K zkc "takers_of" "Season.takers_of" Va f45 o45 v45 d45 m45 c45 t45 u45 n45 z45)
  (l46:LM K zkc "enrol" "Season.enrol" Tj f46 o46 v46 d46 m46 c46 t46 u46 n46 z46)
  (l47:LM K zkc "draw_up" "Season.draw_up" Ub f47 o47 v47 d47 m47 c47 t47 u47 n47 z47)
  (l48:LM K zkc "away" "Season.away" Si f48 o48 v48 d48 m48 c48 t48 u48 n48 z48)
  (l49:LM K zkc "step_in" "Season.step_in" Uc f49 o49 v49 d49 m49 c49 t49 u49 n49 z49)
  (l50:LM K zkc "close" "Season.close" Tn f50 o50 v50 d50 m50 c50 t50 u50 n50 z50)
  (l51:LM K zkc "take_back" "Season.take_back" Vb f51 o51 v51 d51 m51 c51 t51 u51 n51 z51)
  (l52:LM K zkc "at_hand" "Season.at_hand" Ud f52 o52 v52 d52 m52 c52 t52 u52 n52 z52)
  (l53:LM K zkc "deeds" "Season.deeds" To f53 o53 v53 d53 m53 c53 t53 u53 n53 z53)
  (l54:LM K zkc "referees" "Season.referees" Vw f54 o54 v54 d54 m54 c54 t54 u54 n54 z54)
  (l55:LM K zkc "goes" "Season.goes" Sj f55 o55 v55 d55 m55 c55 t55 u55 n55 z55)
  (l56:LN K "_law_whole" "_law_whole" Qk f56 o56 v56 d56 m56 c56 t56 u56 n56 z56)
  (l57:LN K "_law_at" "_law_at" Ji f57 o57 v57 d57 m57 c57 t57 u57 n57 z57)
  (l58:LN K "_law_mix" "_law_mix" N7 f58 o58 v58 d58 m58 c58 t58 u58 n58 z58)
  (l59:LN K "_law_numbers" "_law_numbers" Yl f59 o59 v59 d59 m59 c59 t59 u59 n59 z59)
  (l60:LN K "_law_clubs" "_law_clubs" Y0 f60 o60 v60 d60 m60 c60 t60 u60 n60 z60)
  (l61:LN K "_law_one_is" "_law_one_is" Rt f61 o61 v61 d61 m61 c61 t61 u61 n61 z61)
  (l62:LN K "_law_list_is" "_law_list_is" Sk f62 o62 v62 d62 m62 c62 t62 u62 n62 z62)
  (l63:LN K "_law_deed_is" "_law_deed_is" Sl f63 o63 v63 d63 m63 c63 t63 u63 n63 z63)
  (l64:LN K "_law_deeds_are" "_law_deeds_are" Uu f64 o64 v64 d64 m64 c64 t64 u64 n64 z64)
  (l65:LN K "_law_matches" "_law_matches" Yc f65 o65 v65 d65 m65 c65 t65 u65 n65 z65)
  (l66:LN K "_law_do" "_law_do" Jq f66 o66 v66 d66 m66 c66 t66 u66 n66 z66)
  (l67:LN K "_law_done" "_law_done" Of f67 o67 v67 d67 m67 c67 t67 u67 n67 z67)
  (l68:LN K "_law_due_draw" "_law_due_draw" Tp f68 o68 v68 d68 m68 c68 t68 u68 n68 z68)
  (l69:LN K "_law_due_first" "_law_due_first" Uv f69 o69 v69 d69 m69 c69 t69 u69 n69 z69)
  (l70:LN K "_law_due" "_law_due" Mf f70 o70 v70 d70 m70 c70 t70 u70 n70 z70)
  (l71:LN K "_law_moved" "_law_moved" Qp f71 o71 v71 d71 m71 c71 t71 u71 n71 z71)
  (l72:LN K "_law_all_done" "_law_all_done" Ts f72 o72 v72 d72 m72 c72 t72 u72 n72 z72)
  (l73:LN K "_law_too_many" "_law_too_many" Tt f73 o73 v73 d73 m73 c73 t73 u73 n73 z73)
  (l74:LN K "law" "law" Fe f74 o74 v74 d74 m74 c74 t74 u74 n74 z74)
  : ∃ fd:FuncData,(∀ (s:Shared) (v:Value),BindsTo s fd ⟨[v],[]⟩ [("_law_script",v)])/\∀ base:Heap,K.In base->base.Ns mainGlobals mg->FnOk l.prog w K mg base (CX1 l.prog w) 11 fa fd ["_law_script"] (Ak K):=by
 have e:=hfa.symm.trans (mg_of X G l74.b);cases e
 let a:Ad:=⟨zln,zkn,zkp,zkk,zkl,zkm,zk6,zkw,zkt,zk0,zkv,zks,zlc,zk5,zkh,zko,zke,zkf,zkg,zkc⟩
 have T:Tx K mg a:=⟨⟨zpd,zoy,zo3,zo7⟩,
  zmp,
  zlt,
  ⟨zo2,zop,zo9,zow⟩,
  zlf,
  ⟨zpr,zpq,zpl,zps⟩,
  zme,
  zol,
  zmm,
  zn1,
  ⟨zoz,zor,zo0,zou⟩,
  zna,
  zpa,
  zlk,
  zls,
  zmc,
  zm1,
  zlb,
  zle,
  ⟨mg_of X G zmz,zn0⟩,
  ⟨mg_of X G zlu,zmj⟩,
  ⟨mg_of X G znu,zoe⟩,
  ⟨mg_of X G zma,zm2⟩,
  ⟨mg_of X G zlp,zmd⟩,
  ⟨mg_of X G zlx,zmg⟩,
  ⟨mg_of X G zm0,zny⟩,
  ⟨mg_of X G zn8,zpe⟩,
  ⟨mg_of X G zmn,znk⟩,
  ⟨mg_of X G zmb,zm4⟩,
  ⟨mg_of X G znx,zof⟩,
  ⟨mg_of X G zng,zn5⟩,
  ⟨mg_of X G zml,znh⟩,
  ⟨mg_of X G zlj,zlz⟩,
  mg_none_of X G zpz,
  mg_none_of X G zli,
  mg_none_of X G zn9,
  mg_none_of X G zmi,
  mg_none_of X G zmo,
  mg_none_of X G zlw,
  mg_none_of X G zqf,
  mg_none_of X G zki,
  mg_none_of X G zog,
  mg_none_of X G zpm,
  mg_none_of X G zqe,
  mg_none_of X G zl9,
  mg_none_of X G zqd,
  mg_none_of X G zqh,
  mg_of X G zn2,
  mg_of X G zmz,
  mg_of X G zma,
  mg_of X G zlp,
  mg_of X G zlx,
  mg_of X G zlu,
  mg_of X G znu,
  mg_of X G znj,
  mg_of X G zmn,
  mg_of X G zng,
  mg_of X G zm0,
  mg_of X G zml,
  mg_of X G zn8,
  mg_of X G znx,
  mg_of X G zlj,
  mg_of X G zmb,
  mg_of X G zoj,
  mg_of X G zon,
  mg_of X G zph,
  mg_of X G zom,
  ⟨zns,Kh zmx,zmx⟩,
  fun r h=>⟨ga r h,gk r h,Kh (mo r h),at_ r h,gt,tk,mo r h,mx r h⟩,
  mB,
  kit,
  zqm,
  ⟨_,mg_of X G zl2⟩,
  ⟨_,mg_of X G zlv⟩,
  ⟨_,mg_of X G zlr⟩,
  ⟨_,mg_of X G zlg⟩,
  ⟨_,mg_of X G zll⟩,
  ⟨_,mg_of X G zl0⟩,
  ⟨_,mg_of X G zmq⟩,
  ⟨_,mg_of X G zlh⟩⟩
 refine⟨fnOf "law" "law" (Tw Fe) (Z7 Fe) (Zj Fe) .none v74 d74 m74 n74 c74 t74,fun s v=>.of_eq rfl,fun base KX NX=>?_⟩;have Z:XG l.prog w base K mg h:=⟨X,G⟩;have zpw:=nM Z l3 zov zot zoj fun F=>P5 F T;have znb:=mM Z l4 fun F=>Mx F T;have zkq:=mM Z l5 fun F=>Kz F T;have znt:=mM Z l6 fun F=>Io F T;have zku:=dN Z l7 fun F=>K1 F T;have znl:=dN Z l8 fun F=>K2 F T;have zno:=dN Z l10 fun F=>K3 F T;have zpn:=nM Z l12 zo4 zo6 zon fun F=>P7 F T;have zk2:=mM Z l14 fun F=>Ry F T;have zms:=mM Z l16 fun F=>N1 F T;have zk9:=mM Z l17 fun F=>O2 F T;have zm7:=dN Z l20 fun F=>M3 F T;have znz:=dN Z l21 fun F=>Ir F T;have zne:=dN Z l22 fun F=>M4 F T;have zok:=dN Z l23 fun F=>zbk F T;have zmk:=dN Z l25 fun F=>By F T;have zod:=dN Z l27 fun F=>Ct F T;have zmw:=nM Z l28 zpj zpy zph fun F=>O4 F T;have zmu:=mM Z l31 fun F=>N6 F T;have zly:=mM Z l32 fun F=>Iv F T;have zm8:=mM Z l34 fun F=>M8 F T;have znw:=mM Z l35 fun F=>Iy F T;have zk3:=mM Z l40 fun F=>R0 F T;have zkr:=mM Z l41 fun F=>Qj F T;have zla:=mM Z l42 fun F=>Jd F T;have zkz:=mM Z l43 fun F=>S6 F T;have znc:=mM Z l53 fun F=>Le F T;have zl5:=dN Z l56 fun F=>Ei F T;have zl1:=dN Z l57 fun F=>zbm F T;have zoq:=dN Z l58 fun F=>B0 F T;have znn:=dN Z l59 fun F=>Jj F T;have zn4:=dN Z l60 fun F=>Ej F T;have znf:=dN Z l68 fun F=>Lg F T;have zn6:=dN Z l71 fun F=>Ek F T;have zl7:=dN Z l73 fun F=>Li F T;have zmy:=dN Z l0 fun F=>Il F T zkq znt;have zm5:=dN Z l9 fun F=>My F T zku;have zk7:=mM Z l13 fun F=>Q8 F T zku;have zm3:=mM Z l18 fun F=>M0 F T zk2;have zn7:=dN Z l24 fun F=>zdz F T zm7 znz zne zok;have zlo:=mM Z l33 fun F=>K7 F T zod;have zl3:=mM Z l51 fun F=>Pb F T zms;have zkj:=mM Z l52 fun F=>O8 F T zkq;have zl6:=mM Z l54 fun F=>Oe F T zk9;have zlm:=dN Z l61 fun F=>Hn F T zl5;have zni:=dN Z l65 fun F=>Jp F T zoq;have zmv:=dN Z l69 fun F=>Me F T znf;have zo1:=dN Z l1 fun F=>Bv F T zmy;have zpc:=dN Z l11 fun F=>Bx F T znl zm5 zno;have znv:=mM Z l15 fun F=>Iq F T zk7;have zmt:=mM Z l19 fun F=>N3 F T zm3;have zqi:=dN Z l26 fun F=>ze8 F T zmk zn7;have znd:=mM Z l29 fun F=>M6 F T zmw;have zl4:=mM Z l30 fun F=>Q9 F T zlo zmk zn7 zmw;have zp0:=nM Z l37 zpb zo5 zom fun F=>Oa F T zku zpn zpw;have zkx:=mM Z l38 fun F=>Sg F T zkj;have zl8:=mM Z l44 fun F=>Oc F T zk3 zkq zkj zkz;have znm:=dN Z l62 fun F=>Jm F T zlm;have znp:=dN Z l63 fun F=>Jo F T zlm;have zos:=dN Z l70 fun F=>B1 F T zmv;have zpp:=dN Z l2 fun F=>zbj F T zo1;have znr:=dN Z l36 fun F=>K9 F T zmw zqi;have zky:=mM Z l39 fun F=>S4 F T zkx;have zm6:=mM Z l50 fun F=>Lc F T zkx zkz znb znw zkq;have M_Season_goes:=mM Z l55 fun F=>Jh F T zl8 zly;have zmr:=dN Z l64 fun F=>Ma F T znp;have zk8:=mM Z l45 fun F=>Pa F T zk9 zmt zkj zpp;have zm9:=mM Z l46 fun F=>Lb F T zky zk7 zkr zla zkj znv;have zmh:=mM Z l47 fun F=>O5 F T zky zpc zkr zla zkj znr zk8 zly;have zmf:=mM Z l49 fun F=>O6 F T zk8 zmu zlo znd zl4 zm8;have znq:=mM Z l48 fun F=>Jf F T zk3 zkq zk2 zkr zla zkj zmf;have zpv:=dN Z l66 fun F=>zbo F T zm9 znq zmh zm6 zl3;have zoc:=dN Z l67 fun F=>Cu F T zpv;have zlq:=dN Z l72 fun F=>Lh F T zos zoc zn6 zmr znc znm zl6;exact zhk (Pm l74.l l74.c l74.k) T zl1 zp0 znn zn4 zni zlq zl7 zl5
theorem walk{l:OpenLaw}{q:Program}{loose:List Str}{XP:(Str->Option Value)->Heap->Prop}{YP:World->Heap->Prop}{d:DefRec}{K:Params->Frag}(hn:l.most=some 63)(hdf:d.params.defaults=[])
  (hY:∀ (w:World) (h:Heap),YP w h->(K w.params).In h)
  (F:∀ (w:World) (mg:Str->Option Value) (fa:Addr) (h:Heap),(K w.params).In h->h.Ns mainGlobals mg->mg d.name=some (.ref fa) ->
   ∃ fd:FuncData,(∀ (s:Shared) (u:Value),BindsTo s fd ⟨[u],[]⟩ [("_law_script",u)])/\∀ base:Heap,(K w.params).In base->base.Ns mainGlobals mg->FnOk l.prog w (K w.params) mg base (CX1 l.prog w) 11 fa fd ["_law_script"] (Ak (K w.params))) :
  WalkO q loose XP YP l.row.toRowW d [] (fun f vs=>PySem.call f vs) :=
 L2.zel (n:=63) (k:=11) (x:="_law_script") (CX:=fun w=>CX1 l.prog w) (sp:=fun w=>Ak (K w.params)) hn ⋯ hdf ⟨rfl,by decide,by decide⟩ hY F (fun _ _ a ns hl _ hS=>⟨a,ns,rfl,hS,hl,fun _=>rfl⟩) fun _ _ _ _ _ z=>by obtain⟨_,_,_,_,_,_,_,_,_,_,z⟩:=z;exact z
end K25
open PySem PySem.W PyProof.Rows
local macro_rules|`(command|universe $x*)=>do return Lean.mkNullNode (<-x.mapM fun i=>let n:=i.getId.toString.foldl (fun n c=>let k:=c.toNat;n*62+(if k<58 then k-48 else if k<91 then k-55 else k-61)) 0;let i:=Lean.mkIdent (.mkSimple s!"tw{n-10*62^10}");`(command|def $i:ident:=Nat))
namespace PySem.W.Fast
universe MNvZUTWnj36 EJ0uTemI08e Ky5df6WyzYi RSlE6TCSBM4 VUG8u9VfAdR TCZ4O9dDILN LI4X9yievL7 HvHxRndcVmu M0JQKBCjahZ IUZY8qM2n5a FYxWWRGhZTF TXSvf13aFl1 NPwpOwaZCav MU9x0btlyEn GxRZvfTbtrX QuC4Ehnys7w Fvb8I4A4jfT VJo8oVpmS3a Aa6NpNYlFcl KXUL3WqEGqE JmLP2mFXB7H VYmXetWuoxq FvNLXADRnYX G3L9A3RSuw8 RWKU7BaQYC5 E2Lyw86y0BT G5nBFjU1OmV TWjfz1X0lmA LtcalzgKl3z B44trjKxbzE NHqOMJ0R5lZ BEWNF0eCPvZ App7cnq6Iou G8PSR2eckAp RClVUNLvXUc TxW8ZRd2xKg IOIcjpvE1kE D9CHDql2XxF OOqYbqa3teO EJhhfOAxt50 EjrwI8jh2v4 TnKxa4njl0t ADTkWlPzmHx GPuFcmVaQ8Q LwSai4Mz80n F1tJaI6bOah BRUR9SOkn5x TMM7kGtThj7 HN3hysBFtHL D6hW8I0AQjy G0wAieC2xKc RePRJ0SrpSV HK0hVkBDkA0 VVCMJiZQ5ML GF9bGJXPzdL GSyVnokNHzJ UqM3Hw53FFm CEQPaQLQP77 GPhvhLmqGWv SLNIleLdIra TqxOxBTrqTC V6s5jr62AAG OTWtCwJpIXP ObNUy0ezheD GD2ejjDcAzG GdwBqYA3AcA Bd44ayv3gH8 Ldl6WvKaFzd PUMRWzygdCh GNT7lx2TzaL OmyF38P3pU8 IfkwOuoNCII BLzRz3k1cHX PvFzYgAKqH4 GffNwqYPnni HiosP5M35Tt Jb9HEPXx0q0 RsKmBG6MxIQ Q6DoDbBM98g EhYz6n0LkOX UL5EXwplm2o ARWbEHZW7KB C6sHFC86mpa NfmYwXJ2771 Nqe7EXEN6On VUMmVCTMb6h OvJOvRWWsxi GwM1QdKI8bR JJW14VGURAS FaRiDPeO7Pd Jdb39gn03yO RYIWs4XYt7q PcSMbXvUqTF TPSNP1rIMg2 BtGXo3eunJX Q1EcxL0G9gQ MTQWuU882LM TueyXieAfaJ Mxb9JUrFw9H ORD9DEObnfp QwRwB5YRsxz NusA49zz00f GT2iu4qzetF Busd9NTQ0J4 DpOoosCOCIC KjhpUpfdmXF IDINKIOA5ak UPikoZK8AmJ RryvBaZuZM0 RWbCzmqNWKU DWbSy35nhpq KNANt6TdTnF CXOL1D9qOv8 LovZSt5mSFY CMagIr0k5NP AiiUr9cwONZ ROMBcqQ8yjF NPQJNUP0urJ Fad5Jw86xzk TumA6MVDEqy CqWuHKixUaT IB4VtB5RD0n IrYUu15VxeL CCZK6H0KSln OQDYcPDWHTC T0FrWCZLjjs Lmy45rKIb3F Usu93fNVaGj T8I7zRZoCFc E6uctpIwVei BWlSxDp7uJ6 Ig4CWh2hcbq TZvmnAFg6zF AiiIqxyZTD6 RGLgCaS9sya NFMqoUVdkDA MaziO8UcgbY NKEBmXVtcfb N29YeyJu9wk KQO7OkGzzWc H4iX7RUs8yd DE4eYgnYQxv TbgGDbil0nB Hj8x10cxGf7 EXeBigGcgI7 H3l9Oe8QfmI CQ8xaooWU5A QGxz5JdEhPU MBrvK0UlFM8 CL7nS0jwPaF Qwo3ZpK0Gan TBSsAK8OTqN USXVCngoKor N1IGeAyrNFE BEhPicDKOS8 PeXsHoPLNCE TjizlYxul72 POGU40JElfJ Nhj2H9N4R9L PkZ8owN9BH1 CdXYrelBi35 UWpebs4oqqN OWSTACUFD8z Swli40b2KN6 NzrgDPFJ9m9 RO7Z6K0wYzj LV0ZWafFDL4 QjXrAg90EhC PL0NiMrg263 NS5icJFahfR OCUaOAsjCop UH5utMSiHr1 QQIPMFkiZUK NTIvmcfwNkl AGZOGVCHfUR TiQ7pQcQJVf BKEV9uQZFI6 A8N8wqdHlry RGrgmCcMcEj NHf1lnMvILj C4z81OFeMOU SStKOPaZ6Tl VMn0KnFreYw DzyNVEw1hsF Lbvp22fPLK9 OxdXlzUHRdo TdAY5ofos6N HHoixu1H9pg HKIcuoql6UT GSCv5QBvcXV KbfhBFxgF5g R9JMTGsBz7r Q8FqMhqgJcV UKQWiMpTC2x SdUKmEuAwMZ TTkgha16lqt Qc5VQl59uYr SUwC42qf5OE MSGGLUkynDL Ns7X4XDy9RU MWLeijAaA8z NtrhnmM4YDb F1AHfTTC2Ba R7KWQpMqaSw MQ36yLLcfOl VYSj71DL5Ym Rw38I9Bn1gC HvG7kQy3xgW ClBnqggkUo1 Gjvz4kCpQUq Aa1gsQbyzTM BUK2QjmLGli OVMFu02kJkP S3St2j5Omjg Dwb8f0AHknL EbId2TxTzd7 HQzl75Wkyz4 OBvHpg3xhSg J5kUvqmAh8S D3BVWakV0Ms QcZDiiXTQPr AYkZW2C7G2w LuVCVu5erMZ QE7pFoRG5I8 MQ8UjJ22Gvw AGqbb0G8MW8 RLgKUHHfBVG BdBL6sKlN0B PrWNvXAHRXr OP2BeSpmlEN CvPEl4EdNru DOnlZLmqe83 O1EOzx5Gf7n Jbz820Y4NZS LJeGOe4qxe2 Gg9vqnHs48g MVuznOuhpsX Qu9VkJNRtAX PWXNaxolemR UywYJhE5k8m TtYwvJPkWhw ThoXq1AgP2q QzMMviAU7pp TA7ZtexJEaC VUwFiiSH9JQ DeHVuAcR9YI BoWDG7njXhp IgtZChjxtDj IhPINDBe1oI IQgmcTqyl2C OFkRN2ge9uq JqLSyYccwdI CUlMa2rF6Ku DglY59nT0qd K2LZwoAu8xC Cf1PieyF5Zm TwNo4dryUMM VIApOtb2nzK OJWw5SbTND5 HfY07zKOJO8 UB8m4naq7bl M6a6nhwTwzh IlWHF315EbI SWNgvtwKTGr BCWTEbEtwQK U3PoPUc87pX URZmeIwIm59 QzOFS8gtCtK JuslWI5tbLC UEoB4zshLi0 T0OHaKubxEQ FbpWG7QaW4M OuzjFHDrfyN OiBiLZ9kXB6 LtyRBjUkj1B U2vGRtRmpe2 TIAVm0D7G66 P5iXJVPhDVH FrmvdIvrdtc EO9NL7uclTj Cr77mrhxNPv CP7TVjarZVs Fqf2qYgEzS3 FflMca53kO2 O725jdRglEl S0RirCQwH6f UMLGGOk9FdI AwDzE7ljEfE K6mree5wmdK DlcfGPbtRz0 IhemH2RJeRK THt15A6GO4p RvSNabIrxP0 C02LkheXA9y Sin8tiSVtT0 LatgldGgYkI KjeOD8VR60G JBj5pbDUi1l FkDQGuunbzl VTLgLxGfiOU VKW0v2E6z5B KqPbVfWtnol DOD901KwLY3 SeRfCKh25bx RBiAnUJHD48 TOiZiNROFRB DJ95dd3RPli MFKcQuIFJyp VocboRJ678u BEqHMUMY9X4 VImiCHcR3a0 H2YokBhhNms JGKYbf1HxKG AbbFWcDDFAf Q1V5kDCDcGI IcMYkH6n4Vv BuBdf68CuXn H4looT2f7xU Rcvbohhdjtx AXGBD6ez9Ba FZM0NUswEaQ VSUh6wosUb3 Pz6hldRGKRx ESa9tYKd8Qq Khtvw6n6cmm SVlmtaP92Jr AwOuNQxReFw Jkcn1RJ65Ky N8UOE6iisUA FU7AaSMjOe9 JsGbNtlPfCX UdnQ7aFRw5f N0DmF0HqNBa Fn9aBZ4hXUM REhGrFW0HWK Trj6Ea4qOuX UwvWqvkMgE0 TiCTfaTBRft Qp2eHqfPTOe HuHEJAY67sh LqI9QaKPjWF Uy3u99dexuK V6Gg8jUUuwF StnIizcAuX8 UPGNKe5HbrW TcMxiEXNFGJ DANrxBDmDAE TVjy097Erya FJsMXrvhiEv I7bDvPsdtrR HWnHWq0dF2W TrIH4xYL11w GUmRptZ5GSL TY34cWKAAP8 OdYPscujGY3 UP0QFdxnqfV RXJKyEw4yJg KpDC8H0jnZn R9S0KA9cU3Z DT5VNErzhC6 RHJ8y3vYkQ4 DquTC2iOQhv VkNUApQWiQt D1vWvcHqNTf MlYqb5jZZXu FXcUEi4WNco UvNsSvH78oE SucgAxhvHGk PED2V0jIjAi K0OMDJyS3Mu B2G3EbeEuyc KafSVGbkvpz HygHUGCi403 AbeOUVqHngL THoiUN73glE Mhc8q2py5qg RvtHKX3ErHA OeHXDIWBneo Bg7uvDfVm6D T0yecuzCGFq IgithjYoTx6 BU9EOTamwT1 K9XEACxfaJ5 S5NvbaiIVy8 HzhMhgJiXxf IeuPWBoQBBM DTl0iCjzXas RwJWfcevpGM NS7ETlQsrkm TgBSLGd2iiz M6wfkKAqvrW FLA9oSWFjsI OFAiP0TI4Cf Kd7IAyw6dgw Hn7ZMT8yIor Faz2kRB2vwa P0MS7YSH7Z3 QfKNQD5KvDh HWn0XEadeqx E5AMcqOnKWW NebOfDgHBM2 G7bE4OMQeAK Cn57SLgaQ8k GiDwxm9fPSF LsjIHkfQB6T Qb8MfO7WgBE I2L9m1MGkVX HomdXsX7hnt BwVExiN9RPw Visx5M0Itj0 PH3K2tPaEOl G3Pq0sDbPp8 KBu2sosBa0P SAXvPPp14yd FgbjoVmLN99 SsCpw0Y6Sss BlvDeKXSphG EYs86oo0VMi QLiJPUwMOcQ QL2dQQVFT27 CcmTslrT4lB BZMsrNPkoL3 CwWN02DRZ6H AEkA8OtJick MQtI5fKqv4W IQwBff7cYxN BEvxZrAba1r MoWtZiNLY4O OF6k19EVc4X VFttcb7gbXh BJCdHnf2Now I5YEZzyYojL IwSmpulZpng Qp6LBI6isue JUy3SOAvW4f QcxK88dT83I PfTT23bqhrW MWirGUzZH85 JStGCC4XICY Ick0hBAlgnz SI4KBTTempk CPTSOVKcVpM GgKOZ8WdxHX VNjBO5G7ILe ONqoN1vmpbx JfyFFOTKCpi Miocrq3FDiR PGi7P2dDA9u UByEeyastn6 V10QPT9wBNU EsaC7EhigHm IRbb2OpH7YW ADVGkOQH8cU H3sLnjG1YfK NTFwMCGpP10 H8cRftvT3A6 NfGA5PUhCaA HCxbZPOnh18 B6Vhv0JyotP E0E0RnSpm9v NTfAsNGSUTj Sbj18qfeOAU UbijyU4VzKm PbQy6sDwtmo ViTRxKJwHu9 KUkcffjaWAQ LA64dWHmQPt HUTGYS7jKub Ur40DU24ptj Sona9W8VOPi Fr7rc3mKdxC KiDeDqkBt91 D6ePn5egQRL Lo9U8uRo1hb E5pyXrrg3mo NTkvtcRjJbO BGR4E6RGOjN L0BMxjmrCMI R2rJUF725AP JQTL8EFeOZl Nlfp9xD4PYO H7DOZbziOCa SO37vubC4e7 FGX1y6ede9K MovRfnxLGhR HRzkYzWx8k4 Ojs3loUUsIv NlhFXObWIFL MhQM863aE3X U1rzoDpe10U IvCcFyveK98 EoB6Ozqj9kD Jk0j2FE19Dy CEEfMiMigJ5 O4Rxrdr70zD TyAheHXLBZc E7pBFTWR2a1 N1YiHpaYV3N L2vUQlGVT7a RyLQqZZe8cb DX48E5njj8z SsbgsQiuP6O Laf0m4fxFhp CP4xlJEWQbn DgnrZFR4tfE CrNjH6NiYoa KDJK0vS7uAO O9WvwwuOmwO OguJkBQSGDB Ck3Y4CnA19E Nc5CqSHxpX5 CuwfqN8FuHN MQfKPwnzz7y SAlHvsFJnSw Bvzb81fOhLs Jkpd6Y3WjgM Uiqhen9Zsw1 EX5Q9MqdQ0W LGfPzJWha5h LGeIYzQzAsE PeWCL2uP6aR GmOTZDQZbKh MQTS02ABxoe P6TAg3oAQno Uzstlo6hLiX HAToruzZy0M EyLRsKTTCWc ViLFpkY6OW8 H7mWaicJ8d6 ThU3YYPQJvk KDornxiMcGm SXIuMZUGLK6 MdMeuwAYSCE PEe8HTRlGOV HJjAIJHK1sh TPTP8a1ghlS R21ED1HCWfv PjcVSpSwnR0 M4LgHESQkaN Phseak5vPDq QodqTSuBu7d VBFu6qKwwle U3iI0xt7TAc PYmj8gXstSi EJQjcSz0eX2 KArUQkCQTZg Qkm7cyUuzHF KlfdBL3oa1y TJ0cIyd9oMK SvawSklle49 R6NzVRHjR68 NEjbLF44h2U J60QI3XJ3kR G3Y7C9iZ7w7 IxrOfPiy5U7 AmwFl8hsDrf Ntwa6CVDEmS B302c0QDmYN SnK614Uuba6 EwltIK2A3em L22zmJhNAxP ACrFnceBaYp Q9IVHHsaHxx Rrq6AJHk4id OBq9auPZVsS CrD7NUa7GS0 Sy8UaKuHhT3 KydliCjWe3H JoOxRxiXV8Z BiqgBWEq6Eh K5PdgKy1XY0 ESU9MbHXIax IiQPnxtKuaH MYBpc9xf3yp PkE9AbKrycV HJxBloE5dfC FuOZL5CECWb GSLkZVtPdas SKieAuNeL8l C75lveUv6yd QNhsybedtdH B9nTSDAN4iU RykCgQCMc1Y RZxysnQcD7C Poenv4vHwmb GOEz6XzXnON RaDxW5C8hlg UE030kM6f3N NZXnqbG6sei BM9k6hHHEJx CCllf8zacLv F6CQZqHmKKY U6pGLvwNQFQ ToSbQNQkAzl TooqkUMuKd1 JkuDij1von6 HrUKwwd04x5 VosN5CLx7Lc QThgJZcqfDD GYZfdECBzF7 TgGrUbXRjp5 Et9jA3u3m63 LsR4lItJtul PzAj43t6NPl BIa9YBGljew J7kGdLS8rg8 TWV4W9dLGcB BvxfYFs6sx9 TQD0ptQCtSu LFmbQyXt1UL IcwMbpehXVi DexKhPTgEqC T5FGOe4CMmF LgCLvYk3Xxt Jzlu7IvSHwt O656el3rS3l LfxHnuKBKIb VeOWqiqf0iK KXgRZWmhwo7 QW7e9L93J2p CErF0IsZOl6 B1iqOGhtw8C Hm7CNkrQOST Lhelh8IP9rT LzSYm1rIBts BT3ezgqU7LM GQncSuFHoff PSAIc3ZqWsy PlweIJ53g2I FruTDdvo9JY Etvj1uo5STP H0IFhqUkzli FgB68ERakdv UxJOlhY9tgy CiHW36wT088 PxYsPRSXwzg F9BlW3LrnPH GUOO6JyQex5 BSJO2kjZORu SUanMbl0UN8 RALg4spalIJ GSOQAvzhSCk Ew92gHMOaDa DVcIcDuN3YG PdxjNk62EXu EN0m912o4v1 GjbpoFz2pZ9 HhJGlW7PgiX EWDTLgBHSIW NPmU0V3DPFD PtrO5W6BVmL RTyZvzTixxa H4QAmQQdEvZ JOpwIXnP2Rv VtWwhOd40so BwTLwHYXyym Ffpd0hIzIu5 IKNhukvoEmN U1Kny6MLCVl FE0Ime5mZ8Z NDO5Go7RPUI U8WiwmcRPUE KrRjzddjwHZ Tu6Q80cOvWW RYDemFOr893 TzHw605T0T6 MzHirxPLmDK PVmgqB7Mtlk HqYfGtWH0Hu TU2JZt2gdJe Qr1mcJFwORN JSl01HhSGDp VvjkjX90odw UJZVuUZDawc RoX0q99P9x2 OplQui5obT1 DS55V4laclM SnhK9jpBAHV ObR6jFgVVMC MiwedzGI9xI ILbEkqJ96Kv O4ikdkjRMWK GXsdBFOtlQw UoiFki9Vc2g Np1bSJI9Y6M CHeh8VB82jT UjNFZPcrKTN N8kOYpzt86L RvSqT1RpinT Rv9MjQwb6bw ETogxPpPGYa U1HifZkAhPS LxrLbUAkn9R QWwa7UMsZY7 TP0uLcLhClp ApjNO9rKunT GN8EGtzHfQQ I1u7GaiXsnQ JaxW1nPmcxo GYDxmMxkaUr PB7EPiZeAiE RhStsQBUU97 CXHRHsD4GbR RS590MV7ZXL T4nnP88GNYn NiYIo2WopXL VAMiID56SwV BxGPTpg9t0A J9T03gBZcUf Dv6mcT0Q9XE JaMIcJ3oj4d GUGIoUVWggi U1btEkr7o0l SvxgewdAAxE MwnwAksOjwi E9sTXhGTAmm TTJ7jAqnFWN RihhIdSDu5M BTbK2TmSSmp HnMAr5nrggk TaXh4rdmSKP UjQ1mmzbmWA JF7jhUtCl4W IcfyfopATOe GIVZDvXkGvG F9EtOoAdkh4 Gt78r6ANIg9 SBSTQs5g6hl RJQi2V1r8U4 NrSwezik9Hm FtgVlV94vgx T8bx0rvBdcT N4TzgrTdGge GGlgk1fdPRg MOMjBvnldBs Ai7I4gES9Dd VCO2l1vdr1R IHJZ28WaJtu FVwht21HPrX Gcuu0Ufhq68 AcASFZprWGE Ra1k6VmyU9K PlunMRbBE6I G02AjesT0c6 PSF1GhAJQKw S3C3j8CKb13 EsLzmxn9dBs KZewgQMscz1 Kfq1cdIVgj5 K0KiO8UFTt8 BFhITSevSUl GAmojh9sUuv HH2XreuEP2n Eaxo7eedP2u GYy8LdnAaSi Tk5F2GEbzkn Nc2QkNSZBhZ Hq1p6K7d2FN CA8YtoJkCvx GsdxsarzJcH P0T4d4YosAu TNhQhvKwmHQ BeqyrUBxs6x NYQArwjYAwo BRaWz0dz5JS GU9yCu6dbdk IZHkQm9GHse Q8bZTxTG2nG QL3VcGmTPID HH8Km9JXcwq EDqbU0sbj8H FvxLUW9Y240 McribU8yyBm OrGEc8NBQVs FiG1qxR9D3m E0xb7RdNxjn GOhaRMrKEH1 MLjkndtpSKv To8pTdgUbiH Dlj4yDk7wHT QlKuBXL4p6n T1I0JlkxHIz MHYcLyLU8qO VEzKImL1FJx MBGI9AzDWUZ EsXfSFYjvt2 Bht75uodpsD RpHqVbgtI79 H0mQFgEFv6V IfrHXyqnbEe RAouZdW2hT8 M92kJ8JrT2G OQv2Yt7bnJJ HqYvYGd3nEN CmDISA1agv6 ORE6NsEDKSU UaJQ44qwL7M KiOzysK8SYB Lfgnq52UncH EBjL9U9fB1e P5UPr43bn1z VGLGYCMszQN G04BnhVbUii KjMSiNxTYgc N3quWXw9eeM FGyidXV2xIp UyGfbYeRNl1 K0QnxH7Gj9i CDH4Zb8e5nT AY8CyRwjhm1 FnzwfXfLAdf I433lYX7p1o Mrs9YeGZI32 Ll0RWlXDfw6 LZRDk8QWQO7 BUV5mS4atLO GhKnvls9PzZ O70Oa6xQFJV Gu8b1sWjKcQ EA3zGWA4iaq SFBUyzYPJpZ PCreuqeFveL CxLV5KNUYed TRfpIMZDNgt A5rtNIZu9xc NGDPo8EDA2Z FxN3hoJIawa Ll1BCxMxRNz GUw7x49cfAF KPLWNI8kLnP KEc7DcYJgNL HSaIZneMCx3 RUhRuGo4Zrr PZdJI6ZKoqc UQuvan5fmTX NaOTNtoaVBL DWTGox3qqmb AkonFoVtljg VZknamxdaU0 PFBDjxetTJu Hu0s1X79xRn SOct0b9yMZG BQPqyLrGqaX UgUs6ahUusP R8fviG5FeUu JRmz8t5PvZf Er298h8SF5n PFQKIJIPVRu Qk92LFNdNd5 BNUJEiBh9ir MS9ZEFP563u Lvvv51mf5ye QAaRoopOXHx Tb5g7IhoQAb OO1Rq3pjlnL TXLBOnRYvWG J9Y5swg4YsC MrpFtJBm1Gn FCnRRCD7bOw Rj8OZy9faI6 DWZmmNKpYvn Q9D5Z4SPa7i RvNC0DMPxAn PB5QiBFslet J6QmvyKOL9t QpB7A0w4O11 NoH2NxHNYbA SbFAvAmnA5z VqKbl6sdRvw LkhYygcPyj1 F4MjKERiLlE VwclTZZiBtJ BqMUeDyDivB JBrHxfXapmX Gni3f5Dph00 SNL2xb4jpIY Mb0cyKh6qL1 DATscETPZ5T MK9QZgHI49M VG1Hxlk1YrA Ujg5NLxdKh3 AmWIwzFZkGG Ky1KTmp7jwB IeW2nPVeK3H TDVyo2wbZ6A OXTV48CKFLa EIMkNLn67AX NpmQ8e59gds B3jnVoXVvI2 JvPstImDKEu M2JpYqr9zET EGt4Z0RHzIr BdhA77rMwoz DObhiIFBFjg O2Td9IozBP2 OlstJMQtYS2 EMI1Ndb9zUq RxMM02ENPmQ FkCE9fTuSca PAVO9hNFoQa UvJwysg4uNi TrbYAUUkW8A RNDA1IX2fXB TahLJLSoG5O HaeLxrXn7l6 QVB2VXy1WTn DPXceFvYOnD Gf5t7Cpgm6X HznGc8BD4LN NYd2z0u7Gwh EGOGh5CCfEf DPo5F6vG4Yj UgcaV054HwT Ic9ExTh5fpY HL9gpec7zxe Hdr3RP352TZ GINKcGXupHD LLQBYX5n5S0 M9lev2CDvOJ B5VSNZXrfPa N5Z9gntkJEO I2ebVcINPNA LzdPopZDnUX ElH8ps57h6f QS2xLSTZ63Y Hz7sF6oBvtd UuPbBQp4gvn R2jOmJVoY9T K5u3SJPvBW0 S9L9wReeblN J5cR0sJyfMl D9nsmaULF0o JowMSoVXim3 HwPlBb4Hd9O JYA9sH9pkvm I9yClzLtWVD VAd2v8ohSp2 QfFXNhP4L7t Eeicn8TLYt9 HZipp8zP6KJ BsX9MlB7Dxp MxJAD7Phij3 RFf3qBonqo3 TfPyiPxR55i M9W82D06P57 VsRjxqFqkZS PBNopTyyIam Nz5WpQLSzQF Gs5HHdd9hMS MV3REa2C6U4 TARQlGNo9qh EQuFvpl2hdz UowArCkk0yS TUAQktzxH9j NEGlEqkoMTm FGT2AIw0tKL ROUzwYarKnY KAjVUQCPGtP QJJKJYLOj6I RH7Wk7OXy9e S9MUXQfJd2t HwIbMDaXgKX EOnMb1WPiPG LbEBIo5WFXJ IMpTQ2OzB5F UhhoY6iSdfa GVMKxrKt8Xa TVoHZLZub1G VFV33Ira3pa KguSUx6BOrD Tv6XjzgNnPC Cgsx6zkjavO SkuQ4jTX9D5 OBaagnnk9Eb VKueMitmU81 USnGHpo9iT3 GKpJrTTclhd Pq9u4MJ6HjQ GbKxJgayEKh QVvhlRckqB2 FX8mItZuYjQ NskZuDdGcwp EQQZQoB43VX KIdPkTuEKVs B6b3RQIJ6VD PjXBVsJ4naI FE5d0I2hNwj GpaTtMyq1lD EIlZ1uYlDjj K8gsgVvjQLn IIfhmu6rArR LACd4dSJ9VH HtPk0HfjCet PFXo4RA3yC1 S9CA0XP0rIa J55o86TQNre BTi7Nssabu0 Bx8Nz8wqUP3 VDGlCCGlEto DdAYEQ7jHJw OprjHEKeACg E88SC6gIMmE LB09JvR2o8j MOwivKtaCnR Cv0friakpFx AWyCZfXjV0E U78MUGT4GRr EUWX7w7o8K1 PmFvtlTeDur Tzdn2LYwBLt KLu7yOU8owc PbsaIUBgeGv IabN9jOj4hE PTT3jOa9BX8 KPMprsujiuU Ew6ia1B9Lhq SotxN0nu8er NZUXOmsejVP OHJu0RdqzYJ MXHheM6YdXf GuoqAQyl708 Qs8wqfgvSEH OrK8YeqOvSL FqfEZV5tlsy CW0YUIpgMt8 LIos8yVz5hv CQfs9vhWd3o TSOhJHwvq2N GoM6icVvbPK BpTZAQJm7hu LxewUUnWyZo Bxir0DjGf1a FmwSEKid5I2 Aa0LuuBJDwu LmvNLcV3c3z OXi8ccggKvh IJb0w9VhkkY OH4B488W50T NRCDI6SEE0X D2AibF1wDZ9 A0EILlILy1R BxC6oyhBWnM IK7YUjaPeRG L6T7FE3iYI4 ESSXPMHpp1t NBkaxu83rxk FzjNh1w6KYT K7JoDpdepjY OUatgpbGSYt A95J4BClvcw QhWXZ0omYI4 Dk7N5GHAGan KCK692bL7jl AlXNMhOeu2y UEbhjf8CKw5 KviVgtmueza ARFQuugM9JU Tnr7dfhS4mx ItX7x4CS8W9 EKsrlQoKpYm PlvTQYGG2y4 UU3y5oxugIF O4U28MrGJcO IjbhfbKOoYV Tzj7NSKe0SS CIvBNleo3kN ENNhnCkKnPY V7gF8Jts1mw C1wPUsDzgGW G50wzp9I1LJ CrC1OFwH16Q PpFb2Hl7E78 NOvylUaK7uZ DkRgqNCwkQu OwjdLLFRdtU DpJmtSvG9gY JGVA48zBgx3 PqRKXsvbILE BlRBF4IIAyO AFfzq4WHaqa SYbytKS0rx3 REVbfS7iJBY V43uH4Z7QWu IVEkVUgu9kn D0bXuaTrpff VyIiUBO4HKf UNHOxTJQKzk PTHFgs25SOz OBfeHz0vsb2 Ju6blaL3rFD J3vDPCPHSD9 Gq3c3BYQnHV EPqeKsDtXpl DOhVWLBfaBT LTXPBCHoqLM MoDLt8xMz3G OJsVkDmZ0tt CYl13zvYEkq Ijw3nzS1wBu DGTB4ljE4h7
end PySem.W.Fast
set_option maxRecDepth 100000 in
set_option maxHeartbeats 0 in
theorem PySem.Challenge.cw_whistlebook_k25_hundred_deeds_holds : PySem.Challenge.rw_whistlebook_k25_hundred_deeds.Holds := by
 w_on;o_law;k_head;(case hw=>w_witness2)
 k_fill
 refine K25.walk (l:=PySem.Challenge.rw_whistlebook_k25_hundred_deeds) rfl rfl (fun w h Y=>PySem.W.kIn_of Y) ?F
 case F =>
  intro w mg fa h KX G hmg
  refine' K25.zhl KX G hmg ?zn2 ?zmz ?zma ?zlp ?zlx ?zlu ?znu ?znj ?zmn ?zng ?zm0 ?zml ?zn8 ?znx ?zlj ?zmb ?zoj ?zon ?zph ?zom ?zpd ?zoy ?zo3 ?zo7 ?zov ?zot ?zmp ?zlt ?zo2 ?zop ?zo9 ?zow ?zo4 ?zo6 ?zlf ?zpr ?zpq ?zpl ?zps ?zpj ?zpy ?zme ?zol ?zmm ?zn1 ?zoz ?zor ?zo0 ?zou ?zpb ?zo5 ?zna ?zpa ?zlk ?zls ?zmc ?zm1 ?zlb ?zle ?zn0 ?zmj ?zoe ?zm2 ?zmd ?zmg ?zny ?zpe ?znk ?zm4 ?zof ?zn5 ?znh ?zlz ?zpz ?zli ?zn9 ?zmi ?zmo ?zlw ?zqf ?zki ?zog ?zpm ?zqe ?zl9 ?zqd ?zqh ?zns ?zmx ?ga ?gk ?at_ ?mx ?mo ?mB ?kit ?zqm ?gt ?tk ?zl2 ?zlv ?zlr ?zlg ?zll ?zl0 ?zmq ?zlh ?l0 ?l1 ?l2 ?l3 ?l4 ?l5 ?l6 ?l7 ?l8 ?l9 ?l10 ?l11 ?l12 ?l13 ?l14 ?l15 ?l16 ?l17 ?l18 ?l19 ?l20 ?l21 ?l22 ?l23 ?l24 ?l25 ?l26 ?l27 ?l28 ?l29 ?l30 ?l31 ?l32 ?l33 ?l34 ?l35 ?l36 ?l37 ?l38 ?l39 ?l40 ?l41 ?l42 ?l43 ?l44 ?l45 ?l46 ?l47 ?l48 ?l49 ?l50 ?l51 ?l52 ?l53 ?l54 ?l55 ?l56 ?l57 ?l58 ?l59 ?l60 ?l61 ?l62 ?l63 ?l64 ?l65 ?l66 ?l67 ?l68 ?l69 ?l70 ?l71 ?l72 ?l73 ?l74
  (case zn2|zmz|zma|zlp|zlx|zlu|znu|znj|zmn|zng|zm0|zml|zn8|znx|zlj|zmb|zoj|zon|zph|zom|zpd|zoy|zo3|zo7|zov|zot|zmp|zlt|zo2|zop|zo9|zow|zo4|zo6|zlf|zpr|zpq|zpl|zps|zpj|zpy|zme|zol|zmm|zn1|zoz|zor|zo0|zou|zpb|zo5|zna|zpa|zlk|zls|zmc|zm1|zlb|zle|zpz|zli|zn9|zmi|zmo|zlw|zqf|zki|zog|zpm|zqe|zl9|zqd|zqh|zns|zmx|gt|tk|zl2|zlv|zlr|zlg|zll|zl0|zmq|zlh=>(show _=_;k_is))
  (case zn0|zmj|zoe|zm2|zmd|zmg|zny|zpe|znk|zm4|zof|zn5|znh|zlz=>(show PySem.W.excIn _ _ _ _=true;k_exc))
  (case ga|gk|at_|mx|mo|mB=>(intro r h;cases r<;>first|exact absurd rfl h|(dsimp only[_root_.G.Ref.cls];k_is)))
  (case kit=>(intro r t h;cases r<;>first|exact absurd rfl h|(cases t<;>(dsimp only[_root_.G.Ref.cls];first|(show _=some true;kit_is)|(show _=some false;kit_is)))))
  (case zqm=>(intro r h;cases r<;>first|exact absurd rfl h|(dsimp only[_root_.G.Ref.cls];kit_is)))
  (case l0|l1|l2|l7|l8|l9|l10|l11|l20|l21|l22|l23|l24|l25|l26|l27|l36|l56|l57|l58|l59|l60|l61|l62|l63|l64|l65|l66|l67|l68|l69|l70|l71|l72|l73|l74=>(constructor<;>(show _=_;k_is)))
  (case l3|l4|l5|l6|l12|l13|l14|l15|l16|l17|l18|l19|l28|l29|l30|l31|l32|l33|l34|l35|l37|l38|l39|l40|l41|l42|l43|l44|l45|l46|l47|l48|l49|l50|l51|l52|l53|l54|l55=>(constructor<;>(show _=_;k_is)))
#print axioms PySem.Challenge.cw_whistlebook_k25_hundred_deeds_holds

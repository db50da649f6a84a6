import PyProof.Rows.All
import Wide.All
import OpenK.AllK
import Wide.FinOn
import PyProof.EqAt
import PyProof.EqKinds
import PyProof.TupleCall
import Lean
import KE.KDictList
import PyProof.MaxThree
import KE.LcSums
import PyProof.Rows.FactsN_abs
import PyProof.FactsAll.list_3
import PyProof.SeqI3
import PyProof.EnumIter
import PyProof.EnumMake
import PyProof.EnumFor
import PyProof.ZipIter
import PyProof.FactsAll.zip_1
import PyProof.DictIter
import PyProof.MinMaxWalk
import PyProof.Rows.TupDisplay
import PySem.Challenge.RW_whistlebook_k33_whole_chains
abbrev zst:=@List.length_map
abbrev zsu:=@List.getElem?_eq_getElem
abbrev zsv:=@List.getElem?_eq_some_iff
abbrev zsw:=@List.length_append
abbrev zsx:=@List.mem_singleton
abbrev zsy:=@decide_eq_true
abbrev zsz:=@List.mem_cons
abbrev zs0:=@List.getElem?_map
abbrev zs1:=@List.map_append
abbrev zs2:=@List.mem_map
abbrev zs3:=@Nat.le_refl
abbrev zs4:=@List.map_cons
abbrev zs5:=@List.mem_of_getElem?
abbrev zs6:=@List.mem_append
abbrev zs7:=@List.size_toArray
abbrev zs8:=@decide_eq_false
abbrev zs9:=@List.mem_append_right
abbrev zta:=@Int.toNat_natCast
abbrev ztb:=@Nat.le_trans
abbrev ztc:=@List.mem_cons_of_mem
abbrev ztd:=@Bool.false_ne_true
abbrev zte:=@List.take_length
abbrev ztf:=@List.mem_append_left
abbrev ztg:=@Nat.lt_of_lt_of_le
abbrev zth:=@beq_eq_false_iff_ne
abbrev zti:=@List.length_cons
abbrev ztj:=@List.getD_eq_getElem?_getD
abbrev ztk:=@Nat.ne_of_lt
abbrev ztl:=@List.take_succ_eq_append_getElem
abbrev ztm:=@Nat.zero_le
abbrev ztn:=@List.nodup_cons
abbrev zto:=@List.mem_cons_self
abbrev ztp:=@List.getElem_mem
abbrev ztq:=@Int.emod_lt_of_pos
abbrev ztr:=@List.getElem_of_mem
abbrev zts:=@List.getElem?_append_right
abbrev ztt:=@List.getElem?_append_left
abbrev ztu:=@List.lookup_cons
abbrev ztv:=@List.append_assoc
abbrev ztw:=@List.length_filter_le
abbrev ztx:=@Int.emod_nonneg
abbrev zty:=@List.getElem?_set_ne
abbrev ztz:=@List.getElem?_set_self
abbrev zt0:=@List.mem_filter
abbrev zt1:=@List.mem_range
abbrev zt2:=@List.not_mem_nil
abbrev zt3:=@List.length_range
abbrev zt4:=@List.append_nil
abbrev zt5:=@Option.map_some
abbrev zt6:=@Bool.and_eq_true
abbrev zt7:=@Nat.le_succ_of_le
abbrev zt8:=@List.take_add_one
abbrev zt9:=@List.length_take_le
abbrev zua:=@List.map_map
abbrev zub:=@Int.zero_add
abbrev zuc:=@Option.isSome_iff_exists
abbrev zud:=@Nat.lt_of_le_of_lt
abbrev zue:=@List.filter_cons
abbrev zuf:=@List.all_eq_true
abbrev zug:=@Nat.lt_irrefl
abbrev zuh:=@List.filter_cons_of_neg
abbrev zui:=@List.filter_cons_of_pos
abbrev zuj:=@Nat.lt_succ_of_lt
abbrev zuk:=@List.length_set
abbrev zul:=@List.nodup_iff_pairwise_ne
abbrev zum:=@Bool.false_eq_true
abbrev zun:=@Nat.not_lt_zero
abbrev zuo:=@List.map_congr_left
abbrev zup:=@List.length_eq_zero_iff
abbrev zuq:=@List.mem_singleton_self
abbrev zur:=@Option.map_eq_some_iff
abbrev zus:=@List.filter_append
abbrev zut:=@List.find?_cons
abbrev zuu:=@List.filter_nil
abbrev zuv:=@List.any_cons
abbrev zuw:=@List.reverse_cons
abbrev zux:=@Nat.lt_succ_self
abbrev zuy:=@List.length_take
abbrev zuz:=@List.filterMap_cons
abbrev zu0:=@Int.toNat_of_nonneg
abbrev zu1:=@List.mem_filterMap
abbrev zu2:=@Bool.eq_iff_iff
set_option Elab.async false
set_option linter.all false
set_option maxRecDepth 100000
namespace L2
open PySem PySem.Spec PyProof.Rows
abbrev Key:=Sum Int Str
def Fc:Key->Value->Bool
 | .inl k,v=>Value.isInt k v
 | .inr x,v=>Value.isStrOf x v
def zjw(w:World):Key->Int
 | .inl k=>hashInt k
 | .inr x=>hashStr w x
theorem Y1:∀ {k:Key} {v:Value},Fc k v=true->(∃ i t,k=Sum.inl i/\v=Value.int i t)\/(∃ x t,k=Sum.inr x/\v=Value.str x t)
 | .inl i,v,h=>by
   obtain⟨t,e⟩:=Value.isInt_shape (k:=i) (v:=v) h;exact .inl ⟨i,t,rfl,e⟩
 | .inr x,v,h=>by
   obtain⟨t,e⟩:=Value.isStrOf_shape (x:=x) (v:=v) h;exact .inr ⟨x,t,rfl,e⟩
theorem zbp(i:Int)(t:Tok):Fc (.inl i) (.int i t)=true:=by simp[Fc,Value.isInt]
theorem zbq(x:Str)(t:Tok):Fc (.inr x) (.str x t)=true:=by simp[Fc,Value.isStrOf]
theorem zg2(a b:Int):decide ((Sum.inl a:Key)=Sum.inl b)=(a == b):=by
 by_cases e:a=b
 ·subst e;simp
 ·have h:¬ (Sum.inl a:Key)=Sum.inl b:=fun q=>e (Sum.inl.inj q)
  rw[zs8 h];exact(zth.mpr e).symm
theorem zg3(a b:Str):decide ((Sum.inr a:Key)=Sum.inr b)=decide (a=b):=by
 by_cases e:a=b
 ·subst e;simp
 ·have h:¬ (Sum.inr a:Key)=Sum.inr b:=fun q=>e (Sum.inr.inj q)
  rw[zs8 h,zs8 e]
theorem zg4(a:Int)(b:Str):decide ((Sum.inl a:Key)=Sum.inr b)=false:=zs8 (fun q=>nomatch q)
theorem zg5(a:Str)(b:Int):decide ((Sum.inr a:Key)=Sum.inl b)=false:=zs8 (fun q=>nomatch q)
def Yp(prog:Program)(w:World):PySem.KeyKind prog w Key where
 is:=Fc
 hash:=zjw w
 inj:=fun v a b ha hb=>by
  rcases Y1 ha with ⟨i,t,rfl,rfl⟩|⟨x,t,rfl,rfl⟩
  ·rcases Y1 hb with ⟨j,u,rfl,e⟩|⟨y,u,rfl,e⟩
   ·injection e with e1 _;rw[e1]
   ·exact nomatch e
  ·rcases Y1 hb with ⟨j,u,rfl,e⟩|⟨y,u,rfl,e⟩
   ·exact nomatch e
   ·injection e with e1 _;rw[e1]
 byValue:=fun k v h=>by
  rcases Y1 h with ⟨i,t,rfl,rfl⟩|⟨x,t,rfl,rfl⟩<;>rfl
 pyHash:=fun hv h=>by
  rcases Y1 hv with ⟨i,t,rfl,rfl⟩|⟨x,t,rfl,rfl⟩
  ·exact wpAny_pyHash_int h
  ·exact wpAny_pyHash_str h
 eqBool:=fun hu hv h=>by
  rcases Y1 hu with ⟨i,t,rfl,rfl⟩|⟨x,t,rfl,rfl⟩
  ·rcases Y1 hv with ⟨j,u,rfl,rfl⟩|⟨y,u,rfl,rfl⟩
   ·rw[zg2] at h;exact wpAny_eqBool_int h
   ·rw[zg4] at h;exact SeqAt.EqAt.int_str i t y u _ _ _ _ h
  ·rcases Y1 hv with ⟨j,u,rfl,rfl⟩|⟨y,u,rfl,rfl⟩
   ·rw[zg5] at h;exact SeqAt.EqAt.str_int x t j u _ _ _ _ h
   ·rw[zg3] at h;exact wpAny_eqBool_str h
 «strs»:=fun k x t v h=>by
  rcases Y1 h with ⟨i,u,rfl,e⟩|⟨y,u,rfl,e⟩
  ·exact nomatch e
  ·injection e with e1 _
   subst e1;cases v<;>rfl
theorem Dz(prog:Program)(w:World)(i:Int)(t:Tok):(Yp prog w).is (.inl i) (.int i t)=true:=zbp i t
theorem D1(prog:Program)(w:World)(x:Str)(t:Tok):(Yp prog w).is (.inr x) (.str x t)=true:=zbq x t
inductive V where
 | non|bl (b:Bool)|int (i:Int)|str (x:Str)|byt (b:Array UInt8)|flt (b:UInt64)|ref (a:Addr)|ty (n:String)
 deriving DecidableEq
def RelV:V->Value->Prop
 | .non,u=>u=Value.none
 | .bl b,u=>u=Value.bool b
 | .int i,u=>∃ t,u=Value.int i t
 | .str x,u=>∃ t,u=Value.str x t
 | .byt b,u=>∃ t,u=Value.bytes b t
 | .flt b,u=>∃ t,u=Value.float b t
 | .ref a,u=>u=Value.ref a
 | .ty n,u=>u=Value.type n
abbrev Vals:List V->List Value->Prop:=Paired RelV
theorem Vals.length(r:Vals xs us):xs.length=us.length:=Paired.length r
theorem Vals.get:∀ {xs:List V} {us:List Value} {i:Nat} {x:V},Vals xs us->xs[i]?=some x->∃ u,us[i]?=some u/\RelV x u
 | _,_,_,_,.nil,e=>by simp at e
 | _,_,0,_,.cons r _,e=>by simp at e;subst e;exact⟨_,rfl,r⟩
 | _,_,i+1,x,.cons _ t,e=>by
   obtain⟨u,h1,h2⟩:=Vals.get (i:=i) (x:=x) t (by simpa using e)
   exact⟨u,by simpa using h1,h2⟩
theorem Vals.set(r:RelV x u):∀ {xs:List V} {us:List Value} (i:Nat),Vals xs us->Vals (xs.set i x) (us.set i u)
 | _,_,_,.nil=>.nil
 | _,_,0,.cons _ t=>.cons r t
 | _,_,i+1,.cons q t=>.cons q (Vals.set r i t)
theorem Vals.append:∀ {xs ys:List V} {us ws:List Value},Vals xs us->Vals ys ws->Vals (xs++ys) (us++ws)
 | _,_,_,_,.nil,s=>s
 | _,_,_,_,.cons r t,s=>.cons r (Vals.append t s)
theorem Vals.take:∀ {xs:List V} {us:List Value} (n:Nat),Vals xs us->Vals (xs.take n) (us.take n)
 | _,_,0,_=>.nil
 | _,_,_+1,.nil=>.nil
 | _,_,n+1,.cons r t=>.cons r (Vals.take n t)
theorem Vals.drop:∀ {xs:List V} {us:List Value} (n:Nat),Vals xs us->Vals (xs.drop n) (us.drop n)
 | _,_,0,r=>r
 | _,_,_+1,.nil=>.nil
 | _,_,n+1,.cons _ t=>Vals.drop n t
def RelO:Option V->Option Value->Prop
 | some v,some u=>RelV v u
 | none,none=>True
 | _,_=>False
def KV{κ:Type}:List (κ×V)->List (κ×Value)->Prop:=Paired fun (p:κ×V) (q:κ×Value)=>p.1=q.1/\RelV p.2 q.2
def kV:Key->V
 | .inl i=>.int i
 | .inr x=>.str x
inductive HO where
 | lst (xs:List V)
 | tup (xs:List V)
 | dK (kvs:List (Key×V))|dT (kvs:List (List Key×V))
 | set (S:Int->Bool) (n:Nat)
 | ins (C dx:Addr) (fs:List (Str×V))
 | own (x:Addr)
 | xd (fs:List (Str×V))
 | met (f x:Addr)
 | rng (lo hi:Int)
 | frz (o:Obj) (u:HO)
 | tbl (ps:Array Value)
 | ext (φ:Heap->Prop)
abbrev Hp:=Addr->Option HO
def upd(H:Hp)(a:Addr)(o:HO):Hp:=fun b=>if b=a then some o else H b
theorem Zc:upd H a o a=some o:=by unfold upd;rw[if_pos rfl]
theorem Zi(h:b≠a):upd H a o b=H b:=by unfold upd;rw[if_neg h]
theorem Jb:upd (upd H a o) a u=upd H a u:=by
 funext b;unfold upd;split<;>rfl
theorem Yx{H:Hp}{a b:Addr}{o u:HO}(h:H a=some o)(h':H b=some u)(d:o≠u):a≠b:=by
 intro e;subst e;rw[h] at h';exact d (Option.some.inj h')
theorem Zh{H:Hp}{a b:Addr}{o:HO}(h:H a=some o)(h':H b=none):a≠b:=by
 intro e;subst e;rw[h] at h';cases h'
section
variable(P:Program)(w:World)
def Y9(H:Hp)(h:Heap)(a:Addr):HO->Prop
 | .lst xs=>xs.length<=sizeLine/\∃ (its:List Value) (n:Nat),Vals xs its/\h.get? a=some { cls:=.type "list",data:=.seq its.toArray n }
 | .tup xs=>xs.length<=sizeLine/\∃ its:List Value,Vals xs its/\IsTup h a its.toArray
 | .dK kvs=>kvs.length<=sizeLine/\(a == sysModules)=false/\∃ vs,KV kvs vs/\h.DictOf (Yp P w) a vs
 | .dT kvs=>kvs.length<=sizeLine/\(a == sysModules)=false/\∃ xs:List (List Key×Addr×Value),
   Paired (fun (p:List Key×V) (q:List Key×Addr×Value)=>p.1=q.1/\H q.2.1=some (.tup (p.1.map kV))/\RelV p.2 q.2.2) kvs xs /\
   ∃ o es ep,h.get? a=some o/\o.ExactDict/\o.data=.dict es ep/\es.toList=xs.map (entryOfKey (tupleKind (Yp P w)))/\(xs.map (·.1)).Nodup
 | .set S n=>h.SetOf (intKind P w) a S n
 | .ins C dx fs=>H dx=some (.own a)/\fs.length<=1000/\dx≠a/\h.get? a=some (PySem.W.instObj C dx) /\
   ∃ mA,h.Ns1 dx mA/\(∀ f,RelO (fs.lookup f) (mA f))/\PySem.Within mA (fs.map (·.1))
 | .own _=>∃ o,h.get? a=some o
 | .xd fs=>∃ mA,h.Ns1 a mA/\∀ f,RelO (fs.lookup f) (mA f)
 | .rng lo hi=>∃ t u v,h.get? a=some { cls:=.type "range",data:=.fields #[.int lo t,.int hi u,.int 1 v] }
 | .frz o u=>h.get? a=some o/\Y9 H h a u
 | .tbl ps=>h.get? a=some { cls:=.none,data:=.fields ps }
 | .met f x=>h.get? a=some (PySem.W.methodObj (.ref f) (.ref x))
 | .ext φ=>φ h/\(∃ o,h.get? a=some o)/\∀ h1 h2:Heap,φ h1->(∀ o,h1.get? a=some o->h2.get? a=some o)->φ h2
def HOk(H:Hp)(h:Heap):Prop:=∀ a o,H a=some o->Y9 P w H h a o
end
section
variable{P:Program}{w:World}{H H':Hp}{h h':Heap}{a:Addr}{o:HO}
theorem Y9.lt(x:Y9 P w H h a o):a<h.objs.size:=by
 cases o with
 | lst xs=>obtain⟨_,_,_,_,e⟩:=x;exact Heap.lt_size e
 | tup xs=>obtain⟨_,_,_,p⟩:=x;exact p.lt
 | dK kvs=>obtain⟨_,_,_,_,o,_,_,e,_⟩:=x;exact Heap.lt_size e
 | dT kvs=>obtain⟨_,_,_,_,o,_,_,e,_⟩:=x;exact Heap.lt_size e
 | set S n=>obtain⟨o,_,_,_,e,_⟩:=x;exact Heap.lt_size e
 | ins C dx fs=>obtain⟨_,_,_,e,_⟩:=x;exact Heap.lt_size e
 | own y=>obtain⟨_,e⟩:=x;exact Heap.lt_size e
 | xd fs=>obtain⟨_,⟨_,_,_,e,_⟩,_⟩:=x;exact Heap.lt_size e
 | rng lo hi=>obtain⟨_,_,_,e⟩:=x;exact Heap.lt_size e
 | frz ob u=>obtain⟨e,_⟩:=x;exact Heap.lt_size e
 | tbl ps=>exact Heap.lt_size (show h.get? a=some _ from x)
 | met f y=>exact Heap.lt_size (show h.get? a=some _ from x)
 | ext φ=>obtain⟨_,⟨_,e⟩,_⟩:=x;exact Heap.lt_size e
theorem Paired.mapP:∀ {l₁:List α} {l₂:List β},Paired F l₁ l₂->(∀ a b,F a b->G a b)->Paired G l₁ l₂
 | _,_,.nil,_=>.nil
 | _,_,.cons r t,f=>.cons (f _ _ r) (Paired.mapP t f)
theorem Y9.stay(x:Y9 P w H h a o)(k:∀ b u,(b=a\/H b=some (.own a))->h.get? b=some u->h'.get? b=some u)
  (ho:∀ b,H b=some (.own a)->H' b=some (.own a)) (ht:∀ b xs,H b=some (.tup xs)->H' b=some (.tup xs)):Y9 P w H' h' a o:=by
 induction o with
 | lst xs=>obtain⟨z,its,n,r,e⟩:=x;exact⟨z,its,n,r,k _ _ (.inl rfl) e⟩
 | tup xs=>obtain⟨z,its,r,ob,e,c⟩:=x;exact⟨z,its,r,ob,k _ _ (.inl rfl) e,c⟩
 | dK kvs=>obtain⟨z,y,vs,r,ob,es,ep,e,c⟩:=x;exact⟨z,y,vs,r,ob,es,ep,k _ _ (.inl rfl) e,c⟩
 | dT kvs =>
   obtain⟨z,y,xs,r,ob,es,ep,e,c⟩:=x;exact⟨z,y,xs,Paired.mapP r fun p q z=>⟨z.1,ht _ _ z.2.1,z.2.2⟩,ob,es,ep,k _ _ (.inl rfl) e,c⟩
 | set S n=>obtain⟨ob,es,ep,t,e,c⟩:=x;exact⟨ob,es,ep,t,k _ _ (.inl rfl) e,c⟩
 | ins C dx fs =>
   obtain⟨d,z,ne,e,mA,⟨od,es,ep,e2,c⟩,r⟩:=x;exact⟨ho _ d,z,ne,k _ _ (.inl rfl) e,mA,⟨od,es,ep,k _ _ (.inr d) e2,c⟩,r⟩
 | own y=>obtain⟨ob,e⟩:=x;exact⟨ob,k _ _ (.inl rfl) e⟩
 | xd fs=>obtain⟨mA,⟨od,es,ep,e,c⟩,r⟩:=x;exact⟨mA,⟨od,es,ep,k _ _ (.inl rfl) e,c⟩,r⟩
 | rng lo hi=>obtain⟨t,u,v,e⟩:=x;exact⟨t,u,v,k _ _ (.inl rfl) e⟩
 | frz ob u ih=>obtain⟨e,q⟩:=x;exact⟨k _ _ (.inl rfl) e,ih q⟩
 | tbl ps =>
   have e:h.get? a=some { cls:=.none,data:=.fields ps }:=x;show h'.get? a=some { cls:=.none,data:=.fields ps };exact k a _ (.inl rfl) e
 | met f y =>
   have e:h.get? a=some (PySem.W.methodObj (.ref f) (.ref y)):=x;show h'.get? a=some (PySem.W.methodObj (.ref f) (.ref y));exact k a _ (.inl rfl) e
 | ext φ=>obtain⟨p,⟨o,e⟩,st⟩:=x;exact⟨st _ _ p fun o q=>k _ _ (.inl rfl) q,⟨o,k _ _ (.inl rfl) e⟩,st⟩
theorem HOk.lt(x:HOk P w H h)(e:H a=some o):a<h.objs.size:=(x a o e).lt
theorem HOk.fresh(x:HOk P w H h)(e:h.objs.size<=a):H a=none:=by
 cases q:H a with
 | none=>rfl
 | some u=>exact absurd (ztg (x.lt q) e) (zug _)
theorem HOk.kept(x:HOk P w H h)(k:∀ b u,h.get? b=some u->h'.get? b=some u):HOk P w H h':=fun a o e =>
 (x a o e).stay (fun b u _ q=>k b u q) (fun _ q=>q) fun _ _ q=>q
theorem HOk.laid(x:HOk P w H h)(k:∀ b u,h.get? b=some u->h'.get? b=some u)(hp:h.objs.size<=a)(new:Y9 P w (upd H a o) h' a o):HOk P w (upd H a o) h':=fun b u e=>by
 have hn:=x.fresh hp;by_cases hb:b=a
 ·subst hb;rw[Zc] at e;cases e;exact new
 ·rw[Zi hb] at e
  exact(x b u e).stay (fun c v _ q=>k c v q) (fun c q=>by rw[Zi (Zh q hn)];exact q) fun c xs q=>by rw[Zi (Zh q hn)];exact q
end
def Rd(H:Hp)(a:Addr)(u:HO):Prop:=H a=some u\/∃ o,H a=some (.frz o u)
theorem Rd.ok(r:Rd H a u)(x:HOk P w H h):Y9 P w H h a u:=by
 rcases r with r|⟨o,r⟩
 ·exact x a u r
 ·obtain⟨_,q⟩:=x a _ r
  exact q
def Mut:Option HO->Prop
 | some (.lst _)=>True
 | some (.dK _)=>True
 | some (.dT _)=>True
 | some (.set _ _)=>True
 | some (.ins _ _ _)=>True
 | some (.ext _)=>True
 | _=>False
section
variable{P:Program}{w:World}{H:Hp}{h h':Heap}{x e:Addr}{o':HO}
theorem HOk.write(ok:HOk P w H h)(mu:Mut (H x))(he:e=x\/H e=some (.own x))(k:∀ b u,b≠e->h.get? b=some u->h'.get? b=some u)(heo:∃ u,h'.get? e=some u)
  (new:Y9 P w (upd H x o') h' x o'):HOk P w (upd H x o') h':=fun b u q=>by
 have nown:∀ c y,H c=some (.own y)->c≠x:=fun c y r z=>by subst z;rw[r] at mu;exact mu
 have ntup:∀ c xs,H c=some (.tup xs)->c≠x:=fun c xs r z=>by subst z;rw[r] at mu;exact mu
 by_cases hb:b=x
 ·subst hb;rw[Zc] at q;cases q;exact new
 ·rw[Zi hb] at q
  by_cases hbe:b=e
  ·have q':H b=some (.own x):=by
    rcases he with z|z
    ·exact absurd (hbe.trans z) hb
    ·rw[hbe];exact z
   rw[q] at q';cases q'
   obtain⟨v,hv⟩:=heo;exact⟨v,by rw[hbe];exact hv⟩
  ·refine(ok b u q).stay (fun c v hc r=>k c v ?_ r) (fun c r=>by rw[Zi (nown c b r)];exact r) fun c xs r=>by rw[Zi (ntup c xs r)];exact r
   rcases hc with rfl|hc
   ·exact hbe
   ·rintro rfl
    rcases he with z|z
    ·exact nown c b hc z
    ·rw[hc] at z;cases z;exact hb rfl
end
structure Un(fs ex:List Addr)(H H':Hp)(h h':Heap):Prop where
 keep:∀ b o,h.get? b=some o->H b=none->b∉fs->b∉ex->h'.get? b=some o
 slot:∀ b o,h.get? b=some o->H b=none->b∈fs->b∉ex->∃ sl,h'.get? b=some { o with slots:=sl }
 free:∀ b o,h.get? b=some o->H b=none->b∉ex->H' b=none
 there:∀ b o,h.get? b=some o->b∉ex->∃ o',h'.get? b=some o'
 tups:∀ b xs,H b=some (.tup xs)->H' b=some (.tup xs)
 frzs:∀ b o u,H b=some (.frz o u)->H' b=some (.frz o u)
 tbls:∀ b ps,H b=some (.tbl ps)->∃ more,H' b=some (.tbl (ps++more))
section
variable{fs fs' ex ex':List Addr}{H H1 H2:Hp}{h h1 h2 h':Heap}{a x e:Addr}{o:HO}
theorem Un.any(u:Un fs ex H H1 h h1)(q:h.get? b=some ob)(n:H b=none)(hx:b∉ex):∃ sl,h1.get? b=some { ob with slots:=sl }:=by
 by_cases hb:b∈fs
 ·exact u.slot b ob q n hb hx
 ·exact⟨ob.slots,u.keep b ob q n hb hx⟩
theorem Un.kept(k:∀ b u,h.get? b=some u->h'.get? b=some u):Un fs ex H H h h' :=
 ⟨fun b ob q _ _ _=>k b ob q,fun b ob q _ _ _=>⟨ob.slots,k b ob q⟩,fun _ _ _ n _=>n,fun b ob q _=>⟨ob,k b ob q⟩,fun _ _ q=>q,fun _ _ _ q=>q,fun _ ps q=>⟨#[],by rw[q];simp⟩⟩
theorem Un.refl:Un fs ex H H h h:=Un.kept fun _ _ q=>q
theorem Un.laid(k:∀ b u,h.get? b=some u->h'.get? b=some u)(hp:h.objs.size<=a)(hn:H a=none):Un fs ex H (upd H a o) h h' where
 keep:=fun b u q _ _ _=>k b u q
 slot:=fun b u q _ _ _=>⟨u.slots,k b u q⟩
 free:=fun b u q n _=>by rw[Zi (ztk (ztg (Heap.lt_size q) hp))];exact n
 there:=fun b u q _=>⟨u,k b u q⟩
 tups:=fun b xs q=>by rw[Zi (Zh q hn)];exact q
 frzs:=fun b u xs q=>by rw[Zi (Zh q hn)];exact q
 tbls:=fun b ps q=>⟨#[],by rw[Zi (Zh q hn),q];simp⟩
theorem Un.write(mu:Mut (H x))(he:e=x\/H e=some (.own x))(k:∀ b u,b≠e->h.get? b=some u->h'.get? b=some u)(heo:∃ u,h'.get? e=some u):Un fs ex H (upd H x o) h h':=by
 have hx:∀ b,H b=none->b≠x:=fun b n z=>by subst z;rw[n] at mu;exact mu
 have hb:∀ b,H b=none->b≠e:=fun b n z=>by
  subst z;rcases he with r|r
  ·exact hx b n r
  ·rw[n] at r;cases r
 have hm:∀ b u,H b=some u->¬ Mut (some u)->b≠x:=fun b u q nm z=>by subst z;rw[q] at mu;exact nm mu
 refine⟨fun b u q n _ _=>k b u (hb b n) q,fun b u q n _ _=>⟨u.slots,k b u (hb b n) q⟩,fun b u q n _=>by rw[Zi (hx b n)];exact n,fun b u q _=>?_,
  fun b xs q=>by rw[Zi (hm b _ q fun z=>z)];exact q,fun b u xs q=>by rw[Zi (hm b _ q fun z=>z)];exact q,fun b ps q=>⟨#[],by rw[Zi (hm b _ q fun z=>z),q];simp⟩⟩
 by_cases hbe:b=e
 ·subst hbe;exact heo
 ·exact⟨u,k b u hbe q⟩
end
def trk(h:Heap)(H:Hp):List Addr:=(List.range h.objs.size).filter fun a=>(H a).isSome
def Ek(h:Heap)(H:Hp):Heap:=PySem.W.hideAll h (trk h H)
theorem zbr(h:Heap)(H:Hp):(Ek h H).objs.size=h.objs.size:=PySem.W.hideAll_size _ _
theorem zde(e:h.get? b=some o)(n:H b=none):(Ek h H).get? b=some o :=
 PySem.W.hideAll_get _ e fun hm=>by
  have q:(H b).isSome=true:=(zt0.mp hm).2;rw[n] at q;simp at q
theorem zfg(e:(Ek h H).get? b=some o):h.get? b=some o/\H b=none:=by
 have e':h.get? b=some o:=PySem.W.of_hideAll (trk h H) e;refine⟨e',?_⟩;cases q:H b with
 | none=>rfl
 | some x =>
   have hm:b∈trk h H:=zt0.mpr ⟨zt1.mpr (Heap.lt_size e'),by simp[q]⟩
   have z:(Ek h H).get? b=none:=PySem.W.hideAll_none (trk h H) hm;rw[z] at e;cases e
structure Mod(K:PySem.W.Frag)(mg:Str->Option Value)(base:Heap):Prop where
 kin:K.In base
 glob:base.Ns mainGlobals mg
 blt:∃ mb,base.Ns builtinsNs mb/\∀ x:Str,x≠"__name__"->mb x=bootBuiltins x
 nolimit:base.NoLimit
structure Cx where
 prog:Program
 w:World
 K:PySem.W.Frag
 mg:Str->Option Value
 base:Heap
 A:Around
 N:List Str
 s₀:Shared
 H₀:Hp
 env:Env
 outer:List Env
 stack:List Env
 ex:List Addr
 fn:Str->Bool
 calm:Bool
 pn:List (Addr×Obj)
 xe:Value->Shared->Prop
 lk:List (Option V):=[]
def frs(l:List Env):List Addr:=l.filterMap (·.frame)
abbrev Cx.fs(X:Cx):List Addr:=frs X.outer
def Vis(sc:Scope)(x:Str):Prop:=sc.names.lookup x=some .local\/sc.names.lookup x=some .cell\/sc.names.lookup x=some .free
def Loc(sc:Scope)(x:Str):Prop:=sc.names.lookup x=some .local\/sc.names.lookup x=some .cell
def Look(env:Env)(h:Heap)(m:Str->Option Value)(x:Str)(u:Value):Prop :=
 (env.kindOf x=some .local/\m x=some u)\/((env.kindOf x=some .cell\/env.kindOf x=some .free)/\∃ c,env.cells.lookup x=some c/\h.IsCell c (some u))
structure Cx.Ok(X:Cx):Prop where
 mod:Mod X.K X.mg X.base
 kind:X.env.scope.kind=.function
 glob:X.env.globals=mainGlobals
 blt:X.env.builtins=builtinsNs
 above:X.s₀.heap.objs.size<=X.env.locals
 inj:∀ x y c,X.env.cells.lookup x=some c->X.env.cells.lookup y=some c->x=y
 has:∀ x,(X.env.kindOf x=some .cell\/X.env.kindOf x=some .free)->∃ c,X.env.cells.lookup x=some c
 cab:∀ x c,X.fn x=true->X.env.cells.lookup x=some c->X.s₀.heap.objs.size<=c
 hd:X.calm=true->X.A.handled=none
 frames:X.A.frames=some X.stack
 stk:X.stack=X.outer\/(X.stack=X.env :: X.outer/\X.env.frame=some X.env.locals)
 exf:∀ b∈X.ex,b≠X.env.locals/\∀ x c,X.env.cells.lookup x=some c->c≠b
 bs:∀ b o,X.base.get? b=some o->X.s₀.heap.get? b=some o/\X.H₀ b=none
 bsz:X.base.objs.size<=X.s₀.heap.objs.size
 noex:∀ b o,X.base.get? b=some o->b∉X.ex
 exfs:∀ b∈X.ex,b∉X.fs
 funs:X.s₀.heap.FunFrames X.base X.outer
 frf:∀ b∈X.fs,X.H₀ b=none
structure Inv(X:Cx)(pins:List (Addr×Obj))(σ:List (Option V))(H:Hp)(s:Shared):Prop where
 ok:X.Ok
 os:s.os=X.s₀.os
 bare:AllBare s.gens
 base:Un X.fs X.ex X.H₀ H X.s₀.heap s.heap
 loc:∃ m,s.heap.Ns X.env.locals m/\∀ (i:Nat) (x:Str) (v:V),X.N[i]?=some x->(σ[i]?=some (some v)\/X.lk[i]?=some (some v))->Vis X.env.scope x->∃ u,RelV v u/\Look X.env s.heap m x u
 cell:∀ x c,X.env.cells.lookup x=some c->∃ v,s.heap.IsCell c v
 free:H X.env.locals=none
 freeC:∀ x c,X.env.cells.lookup x=some c->H c=none
 pin:∀ p∈X.pn++pins,s.heap.get? p.1=some p.2/\H p.1=none/\p.1≠X.env.locals/\p.1∉X.fs/\∀ v,p.2.data≠.cell v
 hok:HOk X.prog X.w H s.heap
 len:σ.length=X.N.length
section
variable{X:Cx}{pins:List (Addr×Obj)}{σ:List (Option V)}{H H':Hp}{s:Shared}{h':Heap}
theorem Cx.Ok.nofr(ok:X.Ok)(e:X.base.get? b=some o):b∉X.fs:=fun hb=>by
 have:=(ok.funs.mem hb).1;rw[e] at this;cases this
theorem Inv.bs(I:Inv X pins σ H s):∀ b o,X.base.get? b=some o->s.heap.get? b=some o/\H b=none:=fun b o e =>
 ⟨I.base.keep b o (I.ok.bs b o e).1 (I.ok.bs b o e).2 (I.ok.nofr e) (I.ok.noex b o e),I.base.free b o (I.ok.bs b o e).1 (I.ok.bs b o e).2 (I.ok.noex b o e)⟩
theorem Inv.bk(I:Inv X pins σ H s):∀ b o,X.base.get? b=some o->s.heap.get? b=some o:=fun b o e=>(I.bs b o e).1
theorem Inv.mod(I:Inv X pins σ H s):Mod X.K X.mg X.base:=I.ok.mod
theorem Inv.kIn(I:Inv X pins σ H s):X.K.In s.heap:=I.ok.mod.kin.keeps I.bk
theorem Inv.lt(I:Inv X pins σ H s):X.env.locals<s.heap.objs.size:=let ⟨_,hn,_⟩:=I.loc;hn.lt
theorem Inv.sz(I:Inv X pins σ H s):X.s₀.heap.objs.size<=s.heap.objs.size:=ztb I.ok.above (Nat.le_of_lt I.lt)
theorem Inv.nofs(I:Inv X pins σ H s)(h:s.heap.objs.size<=a):a∉X.fs:=fun hb=>by
 obtain⟨_,o,ho,_⟩:=I.ok.funs.mem hb;exact absurd (ztg (Heap.lt_size ho) (ztb I.sz h)) (zug _)
theorem Inv.cne(I:Inv X pins σ H s):∀ x c,X.env.cells.lookup x=some c->c≠X.env.locals:=fun x c e z=>by
 obtain⟨v,o,ho,hd⟩:=I.cell x c e;obtain⟨m,⟨o',es,ep,ho',hd',_⟩,_⟩:=I.loc;rw[z,ho'] at ho;cases ho;rw[hd'] at hd;cases hd
theorem Inv.funs(I:Inv X pins σ H s):s.heap.FunFrames X.base X.outer:=by
 have all:∀ (l:List Env),(∀ b∈frs l,b∈X.fs)->X.s₀.heap.FunFrames X.base l->s.heap.FunFrames X.base l:=by
  intro l
  induction l with
  | nil=>intro _ _;trivial
  | cons env r ih =>
    intro hs hl;obtain⟨hk,⟨L,o,hf,hn,ho,hd⟩,hr⟩:=hl;have hL:L∈X.fs:=hs L (by unfold frs;rw[zuz,hf];exact zto)
    obtain⟨sl,e⟩:=I.base.slot L o ho (I.ok.frf L hL) hL fun z=>I.ok.exfs L z hL
    exact⟨hk,⟨L,_,hf,hn,e,hd⟩,ih (fun b hb=>hs b (by unfold frs;rw[zuz,hf];exact ztc _ hb)) hr⟩
 exact all X.outer (fun _ hb=>hb) I.ok.funs
theorem Inv.stack(I:Inv X pins σ H s):s.heap.FunFrames X.base X.stack:=by
 rcases I.ok.stk with e|⟨e,hf⟩
 ·rw[e];exact I.funs
 ·rw[e]
  obtain⟨m,hn,_⟩:=I.loc;refine .cons (by rw[I.ok.kind];decide) hf hn ?_ I.funs
  exact Heap.get?_none_of_le (ztb I.ok.bsz I.ok.above)
theorem Inv.stkSub(I:Inv X pins σ H s):∀ b∈frs X.stack,b∈X.env.locals :: X.fs:=fun b hb=>by
 rcases I.ok.stk with e|⟨e,hf⟩
 ·rw[e] at hb;exact ztc _ hb
 ·rw[e] at hb
  unfold frs at hb
  rw[zuz,hf] at hb
  exact hb
theorem Inv.stkFree(I:Inv X pins σ H s):∀ b∈frs X.stack,H b=none:=fun b hb=>by
 rcases zsz.mp (I.stkSub b hb) with e|hb
 ·rw[e];exact I.free
 ·obtain⟨_,o,ho,_⟩:=I.ok.funs.mem hb
  exact I.base.free b o ho (I.ok.frf b hb) fun z=>I.ok.exfs b z hb
theorem Inv.step{g':Array GenState}{t':Nat}{d':Drawn}{ch:List Addr}(I:Inv X pins σ H s)
  (hch:∀ b∈ch,(b∈X.ex\/X.s₀.heap.objs.size<=b)/\b≠X.env.locals/\(∀ x c,X.env.cells.lookup x=some c->c≠b)/\∀ p∈X.pn++pins,p.1≠b)
  (keep:∀ b o,b≠X.env.locals->b∉X.fs->b∉ch->s.heap.get? b=some o->H b=none->h'.get? b=some o)
  (slot:∀ b o,b≠X.env.locals->b∈X.fs->b∉ch->s.heap.get? b=some o->H b=none->∃ sl,h'.get? b=some { o with slots:=sl }) (free:∀ b o,b∉ch->s.heap.get? b=some o->H b=none->H' b=none)
  (there:∀ b o,b∉ch->s.heap.get? b=some o->∃ o',h'.get? b=some o')
  (tups:∀ b xs,H b=some (.tup xs)->H' b=some (.tup xs)) (frzs:∀ b o u,H b=some (.frz o u)->H' b=some (.frz o u)) (tbls:∀ b ps,H b=some (.tbl ps)->∃ more,H' b=some (.tbl (ps++more)))
  (ns:∀ m,s.heap.Ns X.env.locals m->h'.Ns X.env.locals m) (hok:HOk X.prog X.w H' h') (hg:AllBare g') :
  Inv X pins σ H' { s with heap:=h',gens:=g',drawn:=d',toks:=t' }:=by
 have neL:∀ b o,X.s₀.heap.get? b=some o->b≠X.env.locals:=fun b o e=>ztk (ztg (Heap.lt_size e) I.ok.above)
 have neC:∀ b o,X.s₀.heap.get? b=some o->b∉X.ex->b∉ch:=fun b o e hx hb=>by
  rcases(hch b hb).1 with z|z
  ·exact hx z
  ·exact absurd (ztg (Heap.lt_size e) z) (zug _)
 have cellK:∀ x c,X.env.cells.lookup x=some c->∀ v,s.heap.IsCell c v->h'.IsCell c v:=fun x c e v ⟨o,ho,hd⟩=>by
  have nch:c∉ch:=fun z=>(hch c z).2.2.1 x c e rfl
  by_cases hc:c∈X.fs
  ·obtain⟨sl,q⟩:=slot c o (I.cne x c e) hc nch ho (I.freeC x c e)
   exact⟨_,q,hd⟩
  ·exact⟨o,keep c o (I.cne x c e) hc nch ho (I.freeC x c e),hd⟩
 refine⟨I.ok,I.os,hg,⟨fun b o e n hb hx=>?_,fun b o e n hb hx=>?_,fun b o e n hx=>?_,fun b o e hx=>?_,fun b xs e=>tups b xs (I.base.tups b xs e),fun b o xs e=>frzs b o xs (I.base.frzs b o xs e),fun b ps e=>?_⟩,?_,fun x c e=>?_,?_,fun x c e=>?_,fun p hp=>?_,hok,I.len⟩
 ·exact keep b o (neL b o e) hb (neC b o e hx) (I.base.keep b o e n hb hx) (I.base.free b o e n hx)
 ·obtain⟨sl,e1⟩:=I.base.slot b o e n hb hx
  obtain⟨sl',e2⟩:=slot b _ (neL b o e) hb (neC b o e hx) e1 (I.base.free b o e n hx);exact⟨sl',e2⟩
 ·obtain⟨o',e1⟩:=I.base.there b o e hx
  exact free b o' (neC b o e hx) e1 (I.base.free b o e n hx)
 ·obtain⟨o',e1⟩:=I.base.there b o e hx
  exact there b o' (neC b o e hx) e1
 ·obtain⟨m1,e1⟩:=I.base.tbls b ps e
  obtain⟨m2,e2⟩:=tbls b _ e1;exact⟨m1++m2,by rw[e2,Array.append_assoc]⟩
 ·obtain⟨m,hn,hl⟩:=I.loc
  refine⟨m,ns m hn,fun i x v e1 e2 e3=>?_⟩
  obtain⟨u,r,l⟩:=hl i x v e1 e2 e3;refine⟨u,r,?_⟩;rcases l with l|⟨k,c,e,z⟩
  ·exact .inl l
  ·exact .inr ⟨k,c,e,cellK x c e _ z⟩
 ·obtain⟨v,z⟩:=I.cell x c e
  exact⟨v,cellK x c e v z⟩
 ·obtain⟨m,⟨o,_,_,ho,_⟩,_⟩:=I.loc
  exact free _ o (fun z=>(hch _ z).2.1 rfl) ho I.free
 ·obtain⟨v,o,ho,hd⟩:=I.cell x c e
  exact free c o (fun z=>(hch c z).2.2.1 x c e rfl) ho (I.freeC x c e)
 ·obtain⟨e,n,ne,nf,d⟩:=I.pin p hp
  have nch:p.1∉ch:=fun z=>(hch p.1 z).2.2.2 p hp rfl
  exact⟨keep p.1 p.2 ne nf nch e n,free p.1 p.2 nch e n,ne,nf,d⟩
theorem Inv.un{t':Nat}(I:Inv X pins σ H s)(u:Un X.fs [] H H' s.heap h')(hok:HOk X.prog X.w H' h'):Inv X pins σ H' { s with heap:=h',toks:=t' }:=by
 obtain⟨m,⟨o,es,ep,ho,r⟩,_⟩:=id I.loc;obtain⟨sl,hL⟩:=u.any ho I.free (by simp)
 exact I.step (g':=s.gens) (d':=s.drawn) (ch:=[]) (fun _ z=>nomatch z) (fun b o _ hb _ e n=>u.keep b o e n hb (by simp)) (fun b o _ hb _ e n=>u.slot b o e n hb (by simp)) (fun b o _ e n=>u.free b o e n (by simp)) (fun b o _ e=>u.there b o e (by simp)) u.tups u.frzs u.tbls (fun m' hm=>by
  obtain⟨o',es',ep',ho',r'⟩:=hm;rw[ho] at ho';cases ho'
  exact⟨_,es',ep',hL,r'⟩) hok I.bare
theorem Inv.call{g':Array GenState}{t':Nat}{d':Drawn}{ch:List Addr}(I:Inv X pins σ H s)(u:Un (frs X.stack) ch H H' s.heap h')(hok:HOk X.prog X.w H' h')(hg:AllBare g')
  (hch:∀ b∈ch,(b∈X.ex\/X.s₀.heap.objs.size<=b)/\b≠X.env.locals/\(∀ x c,X.env.cells.lookup x=some c->c≠b)/\∀ p∈X.pn++pins,p.1≠b) :
  Inv X pins σ H' { s with heap:=h',gens:=g',drawn:=d',toks:=t' }:=by
 obtain⟨m,⟨o,es,ep,ho,r⟩,_⟩:=id I.loc;obtain⟨sl,hL⟩:=u.any ho I.free fun z=>(hch _ z).2.1 rfl
 exact I.step (ch:=ch) hch (fun b o hL hb hc e n=>u.keep b o e n (fun z=>(zsz.mp (I.stkSub b z)).elim hL hb) hc) (fun b o _ _ hc e n=>u.any e n hc) (fun b o hc e n=>u.free b o e n hc) (fun b o hc e=>u.there b o e hc) u.tups u.frzs u.tbls (fun m' hm=>by
  obtain⟨o',es',ep',ho',r'⟩:=hm;rw[ho] at ho';cases ho'
  exact⟨_,es',ep',hL,r'⟩) hok hg
theorem Inv.turned{t':Nat}{it:Addr}(I:Inv X pins σ H s)(k:∀ b o,b≠it->s.heap.get? b=some o->h'.get? b=some o)(hn:H it=none)(hL:it≠X.env.locals)
  (h1:it∈X.ex\/X.s₀.heap.objs.size<=it) (h2:∀ x c,X.env.cells.lookup x=some c->c≠it) (h3:∀ p∈X.pn++pins,p.1≠it):Inv X pins σ H { s with heap:=h',toks:=t' }:=by
 have nit:∀ b u,H b=some u->b≠it:=fun b u e z=>by rw[z,hn] at e;cases e
 refine I.step (g':=s.gens) (d':=s.drawn) (ch:=[it]) (fun b hb=>?_) (fun b o _ _ hc e _=>k b o (fun z=>hc (by simp[z])) e) (fun b o _ _ hc e _=>⟨o.slots,k b o (fun z=>hc (by simp[z])) e⟩) (fun _ _ _ _ n=>n)
  (fun b o hc e=>⟨o,k b o (fun z=>hc (by simp[z])) e⟩) (fun _ _ e=>e) (fun _ _ _ e=>e) (fun b ps e=>⟨#[],by rw[e];simp⟩) (fun m hm=>?_) (fun b u e=>?_) I.bare
 ·have e:b=it:=by simpa using hb
  subst e;exact⟨h1,hL,h2,h3⟩
 ·obtain⟨o,es,ep,ho,r⟩:=hm
  exact⟨o,es,ep,k _ o (Ne.symm hL) ho,r⟩
 ·refine(I.hok b u e).stay (fun c v hc q=>k c v ?_ q) (fun _ q=>q) fun _ _ q=>q
  rcases hc with z|z
  ·rw[z];exact nit b u e
  ·exact nit c _ z
theorem Inv.tok(I:Inv X pins σ H s)(t:Nat):Inv X pins σ H { s with toks:=t }:=I.un (h':=s.heap) (t':=t) Un.refl I.hok
theorem Inv.kept(I:Inv X pins σ H s)(k:∀ b u,s.heap.get? b=some u->h'.get? b=some u):Inv X pins σ H { s with heap:=h',toks:=t' }:=I.un (Un.kept k) (I.hok.kept k)
theorem Inv.laid(I:Inv X pins σ H s)(k:∀ b u,s.heap.get? b=some u->h'.get? b=some u)(hp:s.heap.objs.size<=a)(new:Y9 X.prog X.w (upd H a o) h' a o) :
  Inv X pins σ (upd H a o) { s with heap:=h',toks:=t' }:=I.un (Un.laid k hp (I.hok.fresh hp)) (I.hok.laid k hp new)
theorem Inv.write(I:Inv X pins σ H s)(mu:Mut (H x))(he:e=x\/H e=some (.own x))(k:∀ b u,b≠e->s.heap.get? b=some u->h'.get? b=some u)(heo:∃ u,h'.get? e=some u)
  (new:Y9 X.prog X.w (upd H x o) h' x o):Inv X pins σ (upd H x o) { s with heap:=h',toks:=t' }:=I.un (Un.write mu he k heo) (I.hok.write mu he k heo new)
theorem Inv.weak(I:Inv X pins σ H s)(hl:σ'.length=σ.length)(w:∀ (i:Nat) v,σ'[i]?=some (some v)->σ[i]?=some (some v)):Inv X pins σ' H s :=
 ⟨I.ok,I.os,I.bare,I.base,let ⟨m,hn,hl'⟩:=I.loc;⟨m,hn,fun i x v e1 e2 e3=>hl' i x v e1 (e2.imp_left (w i v)) e3⟩,I.cell,I.free,I.freeC,I.pin,I.hok,hl.trans I.len⟩
theorem Inv.pins_of(I:Inv X pins σ H s)(h:∀ p∈pins',s.heap.get? p.1=some p.2/\H p.1=none/\p.1≠X.env.locals/\p.1∉X.fs/\∀ v,p.2.data≠.cell v):Inv X pins' σ H s :=
 ⟨I.ok,I.os,I.bare,I.base,I.loc,I.cell,I.free,I.freeC,fun p hp=>(zs6.mp hp).elim (fun z=>I.pin p (ztf _ z)) (h p),I.hok,I.len⟩
theorem D2{N:List Str}(hN:N.Nodup){i j:Nat}{x:Str}(a:N[i]?=some x)(b:N[j]?=some x):i=j:=by
 obtain⟨h1,e1⟩:=zsv.mp a;obtain⟨h2,e2⟩:=zsv.mp b;exact(List.getElem_inj hN).mp (e1.trans e2.symm)
def B9(X:Cx)(i:Nat)(x:Str):Prop:=(X.fn x=true\/X.env.scope.names.lookup x=some .local)/\∀ v,X.lk[i]?≠some (some v)
theorem Wv{i:Nat}:∀ v:V,([]:List (Option V))[i]?≠some (some v):=fun _ h=>by simp at h
theorem Fd{M:Model}{A:Around}{E:Value->Shared->Prop}{i:Nat}{x:Str}{v:V}{u:Value}{Q:Unit->Shared->Prop}(I:Inv X pins σ H s)(hN:X.N.Nodup)(hi:X.N[i]?=some x)(hx:Loc X.env.scope x)(r:RelV v u)
  (h:∀ s',Inv X pins (σ.set i (some v)) H s'->(∃ a,Heap.SameBut a s.heap s'.heap/\(a=X.env.locals\/X.env.cells.lookup x=some a))->Q () s') (hf:B9 X i x:=by first|exact⟨.inl rfl,Wv⟩|exact⟨.inr rfl,Wv⟩|assumption|exact⟨.inl rfl,by assumption⟩|exact⟨.inr rfl,by assumption⟩):wpAny M A (storeName X.env x u) Q E s:=by
 obtain⟨m,hn,hl⟩:=id I.loc;have hcls:(X.env.scope.kind == .class||(X.env.scope.kind == .module&&X.env.locals != X.env.globals))=false:=by rw[I.ok.kind];rfl
 have hiσ:i<σ.length:=by rw[I.len];exact(zsv.mp hi).1
 have cne:=I.cne;have tracked:∀ {a:Addr} {h':Heap},(∃ o,s.heap.get? a=some o/\H a=none)->Heap.SameBut a s.heap h'->HOk X.prog X.w H h':=fun {a h'} ha hs b ob e=>by
  obtain⟨_,_,hfree⟩:=ha;refine(I.hok b ob e).stay (fun c w' hc q=>(hs.2 c ?_).trans q) (fun _ q=>q) fun _ _ q=>q
  rintro rfl;rcases hc with rfl|hc
  ·rw[hfree] at e;cases e
  ·rw[hfree] at hc;cases hc
 rcases hx with hk|hk
 ·refine wpAny_storeName_local hk hn (fun h' hn' hs=>?_) hcls
  obtain⟨oL,_,_,hoL,_⟩:=id hn;refine h _ ⟨I.ok,I.os,I.bare,⟨fun b o e n hb hx=>?_,fun b o e n hb hx=>?_,I.base.free,fun b o e hx=>?_,I.base.tups,I.base.frzs,I.base.tbls⟩,⟨_,hn',fun j y v' e1 e2 e3=>?_⟩,fun y c e=>?_,I.free,I.freeC,fun p hp=>?_,tracked ⟨oL,hoL,I.free⟩ hs,by simpa using I.len⟩ ⟨_,hs,.inl rfl⟩
  ·exact(hs.2 b (ztk (ztg (Heap.lt_size e) I.ok.above))).trans (I.base.keep b o e n hb hx)
  ·obtain⟨sl,e1⟩:=I.base.slot b o e n hb hx
   exact⟨sl,(hs.2 b (ztk (ztg (Heap.lt_size e) I.ok.above))).trans e1⟩
  ·obtain⟨o',e1⟩:=I.base.there b o e hx
   exact⟨o',(hs.2 b (ztk (ztg (Heap.lt_size e) I.ok.above))).trans e1⟩
  ·by_cases hj:j=i
   ·subst hj
    rw[hi] at e1;cases e1
    rcases e2 with e2|e2
    case' inr=>exact absurd e2 (hf.2 _)
    rw[ztz hiσ] at e2
    cases e2;exact⟨u,r,.inl ⟨hk,by simp⟩⟩
   ·have e2:σ[j]?=some (some v')\/X.lk[j]?=some (some v'):=e2.imp_left fun z=>by rw[zty (Ne.symm hj)] at z;exact z
    obtain⟨u',r',q⟩:=hl j y v' e1 e2 e3;refine⟨u',r',?_⟩;rcases q with ⟨k,e⟩|⟨k,c,e,z⟩
    ·refine .inl ⟨k,?_⟩
     have:y≠x:=fun e=>hj (D2 hN e1 (e▸hi))
     simp[this,e]
    ·exact .inr ⟨k,c,e,z.sameBut hs (cne y c e)⟩
  ·obtain⟨w',z⟩:=I.cell y c e
   exact⟨w',z.sameBut hs (cne y c e)⟩
  ·obtain⟨e,n,ne,nf,d⟩:=I.pin p hp
   exact⟨(hs.2 p.1 ne).trans e,n,ne,nf,d⟩
 ·have hfn:X.fn x=true:=by
   rcases hf.1 with z|z
   ·exact z
   ·rw[z] at hk;cases hk
  obtain⟨c,hc⟩:=I.ok.has x (.inl hk);obtain⟨w',z⟩:=I.cell x c hc;refine wpAny_storeName_cell I.ok.kind hk hc z (fun h' hc' hs=>?_)
  obtain⟨oc,hoc,hocd⟩:=id z;refine h { s with heap:=h' } ⟨I.ok,I.os,I.bare,⟨fun b o e n hb hx=>?_,fun b o e n hb hx=>?_,I.base.free,fun b o e hx=>?_,I.base.tups,I.base.frzs,I.base.tbls⟩,⟨m,hn.sameBut hs (Ne.symm (cne x c hc)),fun j y v' e1 e2 e3=>?_⟩,fun y c' e=>?_,I.free,I.freeC,fun p hp=>?_,tracked ⟨oc,hoc,I.freeC x c hc⟩ hs,by simpa using I.len⟩ ⟨c,hs,.inr hc⟩
  ·exact(hs.2 b (ztk (ztg (Heap.lt_size e) (I.ok.cab x c hfn hc)))).trans (I.base.keep b o e n hb hx)
  ·obtain⟨sl,e1⟩:=I.base.slot b o e n hb hx
   exact⟨sl,(hs.2 b (ztk (ztg (Heap.lt_size e) (I.ok.cab x c hfn hc)))).trans e1⟩
  ·obtain⟨o',e1⟩:=I.base.there b o e hx
   exact⟨o',(hs.2 b (ztk (ztg (Heap.lt_size e) (I.ok.cab x c hfn hc)))).trans e1⟩
  ·by_cases hj:j=i
   ·subst hj
    rw[hi] at e1;cases e1
    rcases e2 with e2|e2
    case' inr=>exact absurd e2 (hf.2 _)
    rw[ztz hiσ] at e2
    cases e2;exact⟨u,r,.inr ⟨.inl hk,c,hc,hc'⟩⟩
   ·have e2:σ[j]?=some (some v')\/X.lk[j]?=some (some v'):=e2.imp_left fun z=>by rw[zty (Ne.symm hj)] at z;exact z
    obtain⟨u',r',q⟩:=hl j y v' e1 e2 e3;refine⟨u',r',?_⟩;rcases q with q|⟨k,c',e,z'⟩
    ·exact .inl q
    ·refine .inr ⟨k,c',e,z'.sameBut hs ?_⟩
     rintro rfl;exact hj (D2 hN e1 (I.ok.inj _ _ _ e hc▸hi))
  ·by_cases hcc:c'=c
   ·subst hcc;exact⟨_,hc'⟩
   ·obtain⟨w2,z2⟩:=I.cell y c' e
    exact⟨w2,z2.sameBut hs hcc⟩
  ·obtain⟨e,n,ne,nf,d⟩:=I.pin p hp
   refine⟨(hs.2 p.1 ?_).trans e,n,ne,nf,d⟩;intro q;rw[q,hoc] at e
   have q':oc=p.2:=Option.some.inj e;exact d w' (by rw[<- q'];exact hocd)
theorem D3(I:Inv X pins σ H s)(hN:X.N.Nodup)(hi:X.N[i]?=some x)(hx:Loc X.env.scope x)(r:RelV v u)
  (h:∀ s',Inv X pins (σ.set i (some v)) H s'->Q () s') (hf:B9 X i x:=by first|exact⟨.inl rfl,Wv⟩|exact⟨.inr rfl,Wv⟩|assumption|exact⟨.inl rfl,by assumption⟩|exact⟨.inr rfl,by assumption⟩):wpAny M A (storeName X.env x u) Q E s :=
 Fd I hN hi hx r (fun s' I' _=>h s' I') hf
theorem Inv.call'(I:Inv X pins σ H s)(ho:s'.os=s.os)(u:Un (frs X.stack) ch H H' s.heap s'.heap)(hok:HOk X.prog X.w H' s'.heap)(hg:AllBare s'.gens)
  (hch:∀ b∈ch,(b∈X.ex\/X.s₀.heap.objs.size<=b)/\b≠X.env.locals/\(∀ x c,X.env.cells.lookup x=some c->c≠b)/\∀ p∈X.pn++pins,p.1≠b):Inv X pins σ H' s':=by
 obtain⟨h',g',d',t',o'⟩:=s';have e:o'=s.os:=ho;subst e;exact I.call (g':=g') (t':=t') (d':=d') u hok hg hch
end
abbrev XK:=Value->Option Addr->Hp->Prop
abbrev St:=List (Option V)
abbrev VK:=V->Hp->Prop
abbrev TE:=St->Hp->VK->Prop
abbrev TT:=St->Hp->(Bool->Hp->Prop)->Prop
abbrev TA:=St->Hp->(List V->Hp->Prop)->Prop
structure Pp where
 nx:St->Hp->Prop
 rt:VK
 bk:St->Hp->Prop:=fun _ _=>False
 ct:St->Hp->Prop:=fun _ _=>False
abbrev TS:=Pp->St->Hp->Prop
def EP(X:Cx)(pins:List (Addr×Obj))(σ:St)(Q:VK)(u:Value)(s':Shared):Prop:=∃ v H',Inv X pins σ H' s'/\RelV v u/\Q v H'
def TP(X:Cx)(pins:List (Addr×Obj))(σ:St)(Q:Bool->Hp->Prop)(b:Bool)(s':Shared):Prop:=∃ H',Inv X pins σ H' s'/\Q b H'
def AP(X:Cx)(pins:List (Addr×Obj))(σ:St)(Q:List V->Hp->Prop)(us:List Value)(s':Shared):Prop:=∃ vs H',Inv X pins σ H' s'/\Vals vs us/\Q vs H'
def SP(X:Cx)(pins:List (Addr×Obj))(D:Pp)(f:Flow)(s':Shared):Prop :=
 match f with
 | .next=>∃ σ' H',Inv X pins σ' H' s'/\D.nx σ' H'
 | .brk=>∃ σ' H',Inv X pins σ' H' s'/\D.bk σ' H'
 | .cont=>∃ σ' H',Inv X pins σ' H' s'/\D.ct σ' H'
 | .ret u=>∃ v σ' H',Inv X pins σ' H' s'/\RelV v u/\D.rt v H'
def PE(X:Cx)(e:Expr)(t:TE):Prop :=
 ∀ (pins:List (Addr×Obj)) (s:Shared) (σ:St) (H:Hp) (Q:VK),Inv X pins σ H s->t σ H Q->wpAny (model X.prog X.w) X.A (eval e X.env) (EP X pins σ Q) X.xe s
def PT(X:Cx)(e:Expr)(t:TT):Prop :=
 ∀ (pins:List (Addr×Obj)) (s:Shared) (σ:St) (H:Hp) (Q:Bool->Hp->Prop),Inv X pins σ H s->t σ H Q->wpAny (model X.prog X.w) X.A (isTrue e X.env (eval e X.env)) (TP X pins σ Q) X.xe s
def PW(X:Cx)(e:Expr)(t:TT):Prop :=
 ∀ (whole:Sem Value) (pins:List (Addr×Obj)) (s:Shared) (σ:St) (H:Hp) (Q:Bool->Hp->Prop),Inv X pins σ H s->t σ H Q->wpAny (model X.prog X.w) X.A (isTrue e X.env whole) (TP X pins σ Q) X.xe s
theorem PW.pt(h:PW X e t):PT X e t:=h _
def PA(X:Cx)(es:List Expr)(t:TA):Prop :=
 ∀ (pos:Pos) (pins:List (Addr×Obj)) (s:Shared) (σ:St) (H:Hp) (Q:List V->Hp->Prop),Inv X pins σ H s->t σ H Q->wpAny (model X.prog X.w) X.A (spliced (backTo pos (starEach es X.env))) (AP X pins σ Q) X.xe s
def PS(X:Cx)(st:Stmt)(t:TS):Prop :=
 ∀ (pins:List (Addr×Obj)) (s:Shared) (σ:St) (H:Hp) (D:Pp),Inv X pins σ H s->t D σ H->wpAny (model X.prog X.w) X.A (exec st X.env) (SP X pins D) X.xe s
def PSs(X:Cx)(st:List Stmt)(t:TS):Prop :=
 ∀ (pins:List (Addr×Obj)) (s:Shared) (σ:St) (H:Hp) (D:Pp),Inv X pins σ H s->t D σ H->wpAny (model X.prog X.w) X.A (execs st X.env) (SP X pins D) X.xe s
theorem thn(h:wpAny M A t Q E s)(hQ:∀ a s,Q a s->Q' a s):wpAny M A t Q' E s:=wpAny_mono h hQ fun _ _ x=>x
section
variable{X:Cx}
inductive tVar(i:Nat)(σ:L2.St)(H:Hp)(Q:VK):Prop where
 | mk(v)(_:σ[i]?=some (some v))(_:Q v H)
def tC(v:V):TE:=fun _ H Q=>Q v H
theorem zg6(hN:X.N[i]?=some x)(hv:Vis X.env.scope x)(hd:(x == ("__debug__":Str))=false:=by decide)(hcd:(x == ("__classdict__":Str))=false:=by decide):PE X (.Name x pos) (tVar i):=by
 intro pins s σ H Q I h;obtain⟨v,e,h⟩:=h;obtain⟨m,hn,hl⟩:=I.loc;obtain⟨u,r,l⟩:=hl i x v hN (.inl e) hv;have fin:EP X pins σ Q u s:=⟨v,H,I,r,h⟩;rcases l with ⟨hk,hm⟩|⟨hk,c,hc,hcell⟩
 ·exact wpAny_Name (wpAny_loadName_local I.ok.kind hk hn hm fin) hd
 ·rcases hk with hk|hk
  ·exact wpAny_Name (wpAny_loadName_cell I.ok.kind hk hc hcell fin) hd
  ·exact wpAny_Name (wpAny_loadName_free I.ok.kind hk hc hcell fin hcd) hd
theorem Zg{i j pos}:PE X (.Constant (.int i) j pos) (tC (.int i)):=fun _ _ _ H _ I h=>wpAny_Constant_int ⟨.int i,H,I.tok _,⟨_,rfl⟩,h⟩
theorem Xs{b j pos}:PE X (.Constant (.bool b) j pos) (tC (.bl b)):=fun _ _ _ H _ I h=>Constant_bool ⟨.bl b,H,I,rfl,h⟩
theorem Yl{j pos}:PE X (.Constant .none j pos) (tC .non):=fun _ _ _ H _ I h=>Constant_none ⟨.non,H,I,rfl,h⟩
theorem Zq{x j pos}:PE X (.Constant (.str x) j pos) (tC (.str x)):=fun _ _ _ H _ I h=>Calls.Constant_str ⟨.str x,H,I.tok _,⟨_,rfl⟩,h⟩
def Gl(X:Cx)(x:Str):Prop:=X.env.kindOf x=some .globalImplicit
theorem Nj(I:Inv X pins σ H s)(hg:Gl X x)(hm:X.mg x=some u)(h:Q u s)
  (hd:(x == ("__debug__":Str))=false:=by decide):wpAny (model X.prog X.w) X.A (eval (.Name x pos) X.env) Q E s :=
 Calls.Name_function_global I.ok.kind hg (Calls.loadGlobal_global (by rw[I.ok.glob];exact I.mod.glob.keeps I.bk) hm h) hd
theorem Qf(I:Inv X pins σ H s)(hg:Gl X x)(hm:X.mg x=none)(hv:bootBuiltins x=some u)(h:Q u s)
  (hn:x≠"__name__":=by decide) (hd:(x == ("__debug__":Str))=false:=by decide):wpAny (model X.prog X.w) X.A (eval (.Name x pos) X.env) Q E s:=by
 obtain⟨mb,h1,h2⟩:=I.mod.blt;exact Calls.Name_function_global I.ok.kind hg (Calls.loadGlobal_builtin (by rw[I.ok.glob];exact I.mod.glob.keeps I.bk) hm (by rw[I.ok.blt];exact h1.keeps I.bk) ((h2 x hn).trans hv) h) hd
theorem zfh(hg:Gl X x)(hm:X.mg x=some u)(r:RelV v u)(hd:(x == ("__debug__":Str))=false:=by decide):PE X (.Name x pos) (tC v) :=
 fun _ _ _ H _ I h=>Nj I hg hm ⟨v,H,I,r,h⟩ hd
theorem Up(hg:Gl X x)(hm:X.mg x=none)(hv:bootBuiltins x=some u)(r:RelV v u)(hn:x≠"__name__":=by decide)(hd:(x == ("__debug__":Str))=false:=by decide):PE X (.Name x pos) (tC v) :=
 fun _ _ _ H _ I h=>Qf I hg hm hv ⟨v,H,I,r,h⟩ hn hd
variable{a b:Expr}{ta tb:TE}{pos:Pos}
def PC(X:Cx)(op:CmpOp)(a b:Expr)(t:TE):Prop :=
 ∀ (pins:List (Addr×Obj)) (s:Shared) (σ:St) (H:Hp) (Q:VK),Inv X pins σ H s->t σ H Q ->
   wpAny (model X.prog X.w) X.A (eval a X.env) (fun v s₁=>wpAny (model X.prog X.w) X.A (eval b X.env) (fun u s₂=>wpAny (model X.prog X.w) X.A (compareOp op v u) (EP X pins σ Q) X.xe s₂) X.xe s₁) X.xe s
inductive tBI(Q:Bool->Hp->Prop)(x:V)(H1:Hp):Prop where
 | mk(c)(_:x=.bl c)(_:Q c H1)
def tB(t:TE):TT:=fun σ H Q=>t σ H fun x H1=>tBI Q x H1
theorem Td(h:PC X op a b t)(h1:behindInMarks op b=false:=by first|exact nobehind _ (by decide) (by decide)|rfl):PT X (.Compare a [op] [b] pos) (tB t):=by
 intro pins s σ H Q I hw;refine wpAny_isTrue_Compare1 (thn (h pins s σ H _ I hw) fun v s1 h1=>thn h1 fun u s2 h2=>thn h2 fun c s3 ⟨x,H1,I1,r1,q1⟩=>?_) h1
 obtain⟨d,rfl,q⟩:=q1;cases r1;exact wpAny_truthy_bool ⟨H1,I1,q⟩
theorem Xh(h:PE X e t)(he:∀ whole,isTrue e X.env whole=(do let v <- whole;standAt e.pos;holding [v] (truthy v)):=by intro _;rfl):PT X e (tB t):=by
 intro pins s σ H Q I hw;refine isTrue_plain (thn (h pins s σ H _ I hw) fun v s1 ⟨x,H1,I1,r1,q1⟩=>?_) (he _)
 obtain⟨d,rfl,q⟩:=q1;cases r1;exact wpAny_truthy_bool ⟨H1,I1,q⟩
variable{tA tB':TT}{rest:List Expr}
def zdf(t u:TT):TT:=fun σ H Q=>t σ H fun c H1=>if c=true then u σ H1 Q else Q false H1
def tOr(t u:TT):TT:=fun σ H Q=>t σ H fun c H1=>if c=true then Q true H1 else u σ H1 Q
def zg7(t:TT):TT:=fun σ H Q=>t σ H fun c H1=>Q (!c) H1
theorem Uq(ha:PT X a tA):PW X (.BoolOp .And [a] pos) tA:=by
 intro wh pins s σ H Q I h;refine isTrue_and (thn (ha pins s σ H Q I h) fun c s1 e=>?_)
 cases c with
 | true=>exact isTrue_and_nil e
 | false=>exact e
theorem X9(ha:PT X a tA):PW X (.BoolOp .Or [a] pos) tA:=by
 intro wh pins s σ H Q I h;refine isTrue_or (thn (ha pins s σ H Q I h) fun c s1 e=>?_)
 cases c with
 | false=>exact isTrue_or_nil e
 | true=>exact e
theorem Sd(ha:PT X a tA)(hb:PW X (.BoolOp .And (b :: rest) pos) tB'):PW X (.BoolOp .And (a :: b :: rest) pos) (zdf tA tB'):=by
 intro wh pins s σ H Q I h;refine isTrue_and (thn (ha pins s σ H _ I h) fun c s1 ⟨H1,I1,q1⟩=>?_)
 cases c with
 | true=>exact hb wh pins s1 σ H1 Q I1 q1
 | false=>exact⟨H1,I1,q1⟩
theorem W4(ha:PT X a tA)(hb:PW X (.BoolOp .Or (b :: rest) pos) tB'):PW X (.BoolOp .Or (a :: b :: rest) pos) (tOr tA tB'):=by
 intro wh pins s σ H Q I h;refine isTrue_or (thn (ha pins s σ H _ I h) fun c s1 ⟨H1,I1,q1⟩=>?_)
 cases c with
 | true=>exact⟨H1,I1,q1⟩
 | false=>exact hb wh pins s1 σ H1 Q I1 q1
theorem Xl(ha:PT X a tA):PT X (.UnaryOp .Not a pos) (zg7 tA):=by
 intro pins s σ H Q I h;exact isTrue_not (ha pins s σ H (fun c H1=>Q (!c) H1) I h)
inductive zg8(tb:TE)(σ:L2.St)(Q:VK)(x:V)(H1:Hp):Prop where
 | mk(c)(_:x=.bl c)(_:if c=true then tb σ H1 Q else Q (.bl false) H1)
def zin(ta tb:TE):TE:=fun σ H Q=>ta σ H fun x H1=>zg8 tb σ Q x H1
inductive zg9(Q:VK)(x:V)(H1:Hp):Prop where
 | mk(c)(_:x=.bl c)(_:Q (.bl (!c)) H1)
def zio(ta:TE):TE:=fun σ H Q=>ta σ H fun x H1=>zg9 Q x H1
theorem El{op}(h:PE X a t):PE X (.BoolOp op [a] pos) t:=fun pins s σ H Q I hw=>BoolOp_one (h pins s σ H Q I hw)
theorem Em(ha:PE X a ta)(hb:PE X (.BoolOp .And (b :: rest) pos) tb):PE X (.BoolOp .And (a :: b :: rest) pos) (zin ta tb):=by
 intro pins s σ H Q I h;refine BoolOp_and (thn (ha pins s σ H _ I h) fun v s1 ⟨x,H1,I1,r1,q1⟩=>?_)
 obtain⟨c,rfl,q1⟩:=q1;cases r1;refine wpAny_truthy_bool ?_;cases c with
 | true=>exact hb pins s1 σ H1 Q I1 q1
 | false=>exact⟨.bl false,H1,I1,rfl,q1⟩
theorem zha(ha:PE X a ta):PE X (.UnaryOp .Not a pos) (zio ta):=by
 intro pins s σ H Q I h;refine UnaryOp_ (thn (ha pins s σ H _ I h) fun v s1 ⟨x,H1,I1,r1,q1⟩=>?_)
 obtain⟨c,rfl,q1⟩:=q1;cases r1;exact not_of (wpAny_truthy_bool ⟨.bl (!c),H1,I1,rfl,q1⟩)
def tIf(t:TT)(ta tb:TE):TE:=fun σ H Q=>t σ H fun c H1=>if c=true then ta σ H1 Q else tb σ H1 Q
theorem D4(hc:PT X c tA)(ha:PE X a ta)(hb:PE X b tb):PE X (.IfExp c a b pos) (tIf tA ta tb):=by
 intro pins s σ H Q I h;refine wpAny_IfExp (thn (hc pins s σ H _ I h) fun d s1 ⟨H1,I1,q1⟩=>?_)
 cases d with
 | true=>exact ha pins s1 σ H1 Q I1 q1
 | false=>exact hb pins s1 σ H1 Q I1 q1
end
def SqL(K:PySem.W.Frag)(H:Hp)(a:Addr)(xs:List V):Prop :=
 Rd H a (.lst xs) \/
  ∃ (o:Obj) (its:Array Value) (n:Nat),K.lookup a=some o/\o.cls=.type "list"/\o.dict=none/\o.data=.seq its n/\its.size<=sizeLine/\Vals xs its.toList
def SqT(K:PySem.W.Frag)(H:Hp)(a:Addr)(xs:List V):Prop :=
 Rd H a (.tup xs) \/
  ∃ (o:Obj) (its:Array Value) (n:Nat),K.lookup a=some o/\o.cls=.type "tuple"/\o.data=.seq its n/\its.size<=sizeLine/\Vals xs its.toList
def zjx:Value->Option V
 | .none=>some .non
 | .bool b=>some (.bl b)
 | .int i _=>some (.int i)
 | .str x _=>some (.str x)
 | .bytes b _=>some (.byt b)
 | .float b _=>some (.flt b)
 | .ref a=>some (.ref a)
 | .type n=>some (.ty n)
 | _=>none
theorem RelV.abs(r:RelV x u):zjx u=some x:=by
 cases x with
 | non=>cases r;rfl
 | bl _=>cases r;rfl
 | int _=>obtain⟨t,rfl⟩:=r;rfl
 | str _=>obtain⟨t,rfl⟩:=r;rfl
 | byt _=>obtain⟨t,rfl⟩:=r;rfl
 | flt _=>obtain⟨t,rfl⟩:=r;rfl
 | ref _=>cases r;rfl
 | ty _=>cases r;rfl
theorem RelV.inj(r:RelV x u)(q:RelV y u):x=y:=Option.some.inj (r.abs.symm.trans q.abs)
theorem Vals.inj:∀ {xs ys:List V} {us:List Value},Vals xs us->Vals ys us->xs=ys
 | _,_,_,.nil,.nil=>rfl
 | _,_,_,.cons r t,.cons r' t'=>by rw[r.inj r',Vals.inj t t']
section
variable{X:Cx}{pins:List (Addr×Obj)}{σ:St}{H:Hp}{s:Shared}{a:Addr}{xs ys:List V}
theorem SqL.of{K:PySem.W.Frag}(h:H a=some (.lst xs)):SqL K H a xs:=.inl (.inl h)
theorem SqT.of{K:PySem.W.Frag}(h:H a=some (.tup xs)):SqT K H a xs:=.inl (.inl h)
theorem Inv.list(I:Inv X pins σ H s)(h:SqL X.K H a xs):∃ its:List Value,Vals xs its/\PlainL s.heap a its.toArray/\xs.length<=sizeLine:=by
 rcases h with h|⟨o,its,n,hk,hc,hd,hs,hz,r⟩
 ·obtain⟨z,its,n,r,e⟩:=h.ok I.hok
  exact⟨its,r,⟨_,n,e,rfl,rfl,rfl⟩,z⟩
 ·refine⟨its.toList,r,⟨o,n,I.kIn a o hk,hc,hd,by simpa using hs⟩,?_⟩
  have e:=r.length;simp only[Array.length_toList] at e
  omega
theorem Inv.tuple(I:Inv X pins σ H s)(h:SqT X.K H a xs):∃ its:List Value,Vals xs its/\IsTup s.heap a its.toArray/\xs.length<=sizeLine:=by
 rcases h with h|⟨o,its,n,hk,hc,hs,hz,r⟩
 ·obtain⟨z,its,r,p⟩:=h.ok I.hok
  exact⟨its,r,p,z⟩
 ·refine⟨its.toList,r,⟨o,I.kIn a o hk,hc,n,by simpa using hs⟩,?_⟩
  have e:=r.length;simp only[Array.length_toList] at e
  omega
theorem Inv.list_inj(I:Inv X pins σ H s)(h:SqL X.K H a xs)(h':SqL X.K H a ys):xs=ys:=by
 obtain⟨its,r,⟨o,n,e,_,_,d⟩,_⟩:=I.list h;obtain⟨its',r',⟨o',n',e',_,_,d'⟩,_⟩:=I.list h';rw[e] at e';cases e'
 rw[d] at d'
 injection d' with d1 _
 have:its=its':=by simpa using congrArg Array.toList d1
 subst this;exact r.inj r'
theorem Inv.tuple_inj(I:Inv X pins σ H s)(h:SqT X.K H a xs)(h':SqT X.K H a ys):xs=ys:=by
 obtain⟨its,r,⟨o,e,_,n,d⟩,_⟩:=I.tuple h;obtain⟨its',r',⟨o',e',_,n',d'⟩,_⟩:=I.tuple h';rw[e] at e';cases e'
 rw[d] at d'
 injection d' with d1 _
 have:its=its':=by simpa using congrArg Array.toList d1
 subst this;exact r.inj r'
end
section
variable{X:Cx}{pins:List (Addr×Obj)}{σ:St}{H:Hp}{s:Shared}{E:Value->Shared->Prop}
end
section
variable{X:Cx}{st:Stmt}{rest:List Stmt}{t u:TS}{e:Expr}{te:TE}{pos:Pos}
def D5:TS:=fun D σ H=>D.nx σ H
def Zx(t u:TS):TS:=fun D σ H=>t { D with nx:=u D } σ H
theorem Zp:PSs X [] D5:=fun _ _ σ H _ I h=>wpAny_execs_nil ⟨σ,H,I,h⟩
theorem Zb(h1:PS X st t)(h2:PSs X rest u):PSs X (st :: rest) (Zx t u):=by
 intro pins s σ H D I h;refine wpAny_execs_cons (thn (h1 pins s σ H { D with nx:=u D } I h) fun f s1 q=>?_)
 cases f with
 | next =>
   obtain⟨σ',H',I',q⟩:=q;exact h2 pins s1 σ' H' D I' q
 | ret v=>exact q
 | brk=>exact q
 | cont=>exact q
theorem Ze(h1:PS X st t):PSs X [st] t:=by
 intro pins s σ H D I h;refine wpAny_execs_cons (thn (h1 pins s σ H D I h) fun f s1 q=>?_)
 cases f with
 | next=>exact wpAny_execs_nil q
 | ret v=>exact q
 | brk=>exact q
 | cont=>exact q
def zhb:TS:=fun D σ H=>D.bk σ H
theorem zdg:PS X (.Break pos) zhb:=fun _ _ σ H _ I h=>wpAny_Break ⟨σ,H,I,h⟩
theorem Inv.quiet(I:Inv X pins σ H s):interactive X.env=false:=by simp[interactive,I.ok.kind]
def ziq(te:TE):TS:=fun D σ H=>te σ H fun _ H1=>D.nx σ H1
theorem Z8(he:PE X e te)(hs:swapsWith e none pos.line X.env=pure false:=by rfl):PS X (.Expr e pos) (ziq te):=by
 intro pins s σ H D I h;exact wpAny_Expr_any (thn (he pins s σ H _ I h) fun v s1 ⟨x,H1,I1,r1,q1⟩=>⟨σ,H1,I1,q1⟩) I.quiet hs
def zdh(te:TE):TS:=fun D σ H=>te σ H D.rt
theorem Zm(he:PE X e te):PS X (.Return (some e) pos) (zdh te):=by
 intro pins s σ H D I h;exact wpAny_Return_some (thn (he pins s σ H _ I h) fun v s1 ⟨x,H1,I1,r1,q1⟩=>⟨x,σ,H1,I1,r1,q1⟩)
def D6(c:TT)(t u:TS):TS:=fun D σ H=>c σ H fun b H1=>if b=true then t D σ H1 else u D σ H1
theorem Zz(hc:PT X c tc)(ha:PSs X a t)(hb:PSs X b u):PS X (.If c a b pos) (D6 tc t u):=by
 intro pins s σ H D I h;refine wpAny_If (thn (hc pins s σ H _ I h) fun d s1 ⟨H1,I1,q1⟩=>?_)
 cases d with
 | true=>exact ha pins s1 σ H1 D I1 q1
 | false=>exact hb pins s1 σ H1 D I1 q1
end
abbrev TG:=V->St->Hp->(St->Hp->Prop)->Prop
abbrev TGs:=List V->St->Hp->(St->Hp->Prop)->Prop
def PG(X:Cx)(target:Expr)(t:TG):Prop :=
 ∀ (pins:List (Addr×Obj)) (s:Shared) (σ:St) (H:Hp) (v:V) (u:Value) (Q:St->Hp->Prop),Inv X pins σ H s->RelV v u->t v σ H Q ->
   wpAny (model X.prog X.w) X.A (assign target X.env u) (fun _ s'=>∃ σ' H',Inv X pins σ' H' s'/\Q σ' H') X.xe s
def PGs(X:Cx)(ts:List Expr)(t:TGs):Prop :=
 ∀ (pins:List (Addr×Obj)) (s:Shared) (σ:St) (H:Hp) (vs:List V) (us:List Value) (Q:St->Hp->Prop),Inv X pins σ H s->Vals vs us->t vs σ H Q ->
   wpAny (model X.prog X.w) X.A (assignInOrder ((assignEach ts X.env).map (·.2)) us) (fun _ s'=>∃ σ' H',Inv X pins σ' H' s'/\Q σ' H') X.xe s
abbrev zir:=V->V->V->Hp->(Hp->Prop)->Prop
def zis(X:Cx)(t:zir):Prop :=
 ∀ (pins:List (Addr×Obj)) (s:Shared) (σ:St) (H:Hp) (o i v:V) (ov iv u:Value) (Q:Hp->Prop),Inv X pins σ H s->RelV o ov->RelV i iv->RelV v u->t o i v H Q ->
   wpAny (model X.prog X.w) X.A (setItem ov iv u) (fun _ s'=>∃ H',Inv X pins σ H' s'/\Q H') X.xe s
section
variable{X:Cx}{pos:Pos}
def Vn(i:Nat):TG:=fun v σ H Q=>Q (σ.set i (some v)) H
theorem Ri(hN:X.N.Nodup)(hi:X.N[i]?=some x)(hx:Loc X.env.scope x)(hf:B9 X i x:=by first|exact⟨.inl rfl,Wv⟩|exact⟨.inr rfl,Wv⟩|assumption|exact⟨.inl rfl,by assumption⟩|exact⟨.inr rfl,by assumption⟩):PG X (.Name x pos) (Vn i):=by
 intro pins s σ H v u Q I r h;exact wpAny_assign_Name (D3 I hN hi hx r (fun s' I'=>⟨_,H,I',h⟩) hf)
def zjy:TGs:=fun vs σ H Q=>vs=[]/\Q σ H
def zit(t:TG)(u:TGs):TGs:=fun vs σ H Q=>∃ v r,vs=v :: r/\t v σ H fun σ' H'=>u r σ' H' Q
theorem Ws:PGs X [] zjy:=by
 intro pins s σ H vs us Q I r h;obtain⟨e,h⟩:=h;subst e;cases r;exact assignInOrder_nil ⟨σ,H,I,h⟩
theorem Z0(h1:PG X e t)(h2:PGs X es u)
  (hs:(assignEach (e :: es) X.env).map (·.2)=assign e X.env :: (assignEach es X.env).map (·.2):=by rfl):PGs X (e :: es) (zit t u):=by
 intro pins s σ H vs us Q I r h;obtain⟨v,vr,e1,h⟩:=h;subst e1;cases r with
 | cons r rr =>
   rw[hs];refine assignInOrder_cons (thn (h1 pins s σ H _ _ _ I r h) fun _ s1 ⟨σ1,H1,I1,q1⟩=>?_)
   exact h2 pins s1 σ1 H1 _ _ Q I1 rr q1
def ziu(K:PySem.W.Frag)(n:Nat)(t:TGs):TG:=fun v σ H Q=>∃ a xs,v=.ref a/\SqT K H a xs/\xs.length=n/\t xs σ H Q
theorem zhc(hc:X.calm=true)(h:PGs X es t)
  (hn:(assignEach es X.env).length=n:=by rfl) (hst:(assignEach es X.env).findIdx? (·.1)=none:=by rfl):PG X (.Tuple es k pos) (ziu X.K n t):=by
 intro pins s σ H v u Q I r hw;obtain⟨a,xs,e1,hq,hl,hw⟩:=hw;subst e1;cases r;obtain⟨its,rv,ht,hz⟩:=I.tuple hq;refine assign_Tuple_tuple (I.ok.hd hc) ht (by simp[hn,<- hl,rv.length]) hst fun h' hx=>?_
 have I1:Inv X pins σ H { s with heap:=h' }:=I.kept (t':=s.toks) fun b o e=>hx b o (ztk (Heap.lt_size e)) e
 exact h pins _ σ H xs _ Q I1 (by simpa using rv) hw
def zjz(to ti:TE)(t:zir):TG:=fun v σ H Q=>to σ H fun o H1=>ti σ H1 fun i H2=>t o i v H2 fun H3=>Q σ H3
theorem Aa(ho:PE X o to)(hi:PE X i ti)(hs:zis X t)
  (ha:∀ v,assign (.Subscript o i pos) X.env v=(do
   let ov <- holding [v] (eval o X.env)
   let iv <- holding [v,ov] (eval i X.env)
   standAt pos
   holding [v,ov,iv] (setItem ov iv v)
   release [v,ov,iv] []):=by intro _;rfl):PG X (.Subscript o i pos) (zjz to ti t):=by
 intro pins s σ H v u Q I r h;rw[ha];refine wpAny_bind (wpAny_holding (thn (ho pins s σ H _ I h) fun ov s1 ⟨x,H1,I1,r1,q1⟩=>?_))
 refine wpAny_bind (wpAny_holding (thn (hi pins s1 σ H1 _ I1 q1) fun iv s2 ⟨y,H2,I2,r2,q2⟩=>?_))
 refine wpAny_bind (wpAny_standAt (wpAny_bind (wpAny_holding (thn (hs pins s2 σ H2 x y v ov iv u _ I2 r1 r2 r q2) fun _ s3 ⟨H3,I3,q3⟩=>?_))))
 exact wpAny_release ⟨σ,H3,I3,q3⟩
def zbs(te:TE)(g:TG):TS:=fun D σ H=>te σ H fun x H1=>g x σ H1 D.nx
theorem Qg(he:PE X e te)(hg:PG X tg g)(hs:swapsWithSole [tg] e pos.line X.env=pure false:=by rfl)(hw:swappedStores [tg] e X.env=pure none:=by rfl)
  (h1:(assignEach [tg] X.env).map (·.2)=[assign tg X.env]:=by rfl):PS X (.Assign [tg] e pos) (zbs te g):=by
 intro pins s σ H D I h;refine wpAny_Assign_stores (thn (he pins s σ H _ I h) fun v s1 ⟨x,H1,I1,r1,q1⟩=>?_) hs hw
 rw[h1];exact thn (hg pins s1 σ H1 x v _ I1 r1 q1) fun _ s2 q=>q
theorem zhd(hN:X.N.Nodup)(hi:X.N[i]?=some x)(hx:Loc X.env.scope x)(he:PE X e te)(hs:swapsWith e (some (.Name x pos')) pos.line X.env=pure false:=by rfl)(hf:B9 X i x:=by first|exact⟨.inl rfl,Wv⟩|exact⟨.inr rfl,Wv⟩|assumption|exact⟨.inl rfl,by assumption⟩|exact⟨.inr rfl,by assumption⟩) :
  PS X (.Assign [.Name x pos'] e pos) (zbs te (Vn i)):=by
 intro pins s σ H D I h;refine wpAny_Assign_Name (thn (he pins s σ H _ I h) fun v s1 ⟨y,H1,I1,r1,q1⟩=>?_) hs
 exact D3 I1 hN hi hx r1 (fun s2 I2=>⟨_,H1,I2,q1⟩) hf
end
section
variable{X:Cx}{pos:Pos}
def Ab(c:TT)(tb:TS):TS:=fun D σ H=>∃ W:Nat->St->Hp->Prop,(∃ m,W m σ H)/\∀ m σ H,W m σ H ->
 c σ H fun b H1=>if b=true then ∃ N:St->Hp->Prop,(∀ σ' H',N σ' H'->∃ m',m' < m/\W m' σ' H')/\tb { D with nx:=N,ct:=N,bk:=D.nx } σ H1 else D.nx σ H1
theorem Jj(hp:PassesOwn (model X.prog X.w) X.A X.env X.xe)(hc:PT X c tc)(hb:PSs X body tb):PS X (.While c body [] pos) (Ab tc tb):=by
 intro pins s σ H D I h;obtain⟨W,⟨m0,w0⟩,turn⟩:=h;refine wpAny_While (codeAny_whileLoop (fun n s'=>∃ σ' H',Inv X pins σ' H' s'/\W n σ' H') ?_ m0 ⟨σ,H,I,w0⟩)
 rintro n s1 ⟨σ1,H1,I1,w1⟩;refine wpAny_passesOwn hp (thn (hc pins s1 σ1 H1 _ I1 (turn n σ1 H1 w1)) fun b s2 ⟨H2,I2,q2⟩=>?_)
 cases b with
 | true =>
   obtain⟨N,hN,q2⟩:=q2;rw[if_pos rfl];refine wpAny_passesOwn hp (thn (hb pins s2 σ1 H2 _ I2 q2) fun f s3 q3=>?_)
   cases f with
   | next =>
     obtain⟨σ3,H3,I3,n3⟩:=q3;obtain⟨m',hm,w3⟩:=hN σ3 H3 n3;exact⟨m',hm,σ3,H3,I3,w3⟩
   | cont =>
     obtain⟨σ3,H3,I3,n3⟩:=q3;obtain⟨m',hm,w3⟩:=hN σ3 H3 n3;exact⟨m',hm,σ3,H3,I3,w3⟩
   | brk=>exact q3
   | ret v=>exact q3
 | false =>
   rw[if_neg ztd];exact wpAny_execs_nil ⟨σ1,H2,I2,q2⟩
end
structure It where
 go:Nat->Hp->Prop
 yld:Nat->Hp->V->Hp->Prop
 stop:Nat->Hp->Prop
def FpOk(X:Cx)(pins:List (Addr×Obj))(H:Hp)(b:Addr):Prop :=
 H b=none/\b≠X.env.locals/\b∉X.fs/\(b∈X.ex\/X.s₀.heap.objs.size<=b)/\(∀ x c,X.env.cells.lookup x=some c->c≠b)/\∀ p∈X.pn++pins,p.1≠b
theorem Inv.fpOk(I:Inv X pins σ H s)(hb:s.heap.objs.size<=b)(hn:H' b=none):FpOk X pins H' b:=by
 refine⟨hn,Nat.ne_of_gt (ztg I.lt hb),I.nofs hb,.inr (ztb I.sz hb),fun x c e z=>?_,fun p hp z=>?_⟩
 ·obtain⟨v,q⟩:=I.cell x c e
  exact absurd (ztg q.lt (by rw[z];exact hb)) (zug _)
 ·exact absurd (ztg (Heap.lt_size (I.pin p hp).1) (by rw[z];exact hb)) (zug _)
structure D7(P:Program)(w:World)(K:PySem.W.Frag)(tg:Expr)(J:It)(fp:List Addr)(it:Addr)(tn:Nat->Heap->Prop):Prop where
 mem:it∈fp
 obj:∀ i h,tn i h->∀ b∈fp,∃ o,h.get? b=some o/\∀ v,o.data≠.cell v
 keep:∀ i h h',tn i h->(∀ b∈fp,∀ o,h.get? b=some o->h'.get? b=some o)->tn i h'
 item:∀ (X:Cx),X.prog=P->X.w=w->X.K=K->X.calm=true->∀ (i:Nat) (pins:List (Addr×Obj)) (s:Shared) (σ:St) (H:Hp) (E:Value->Shared->Prop),Inv X pins σ H s->(∀ b∈fp,FpOk X pins H b)->tn i s.heap->J.go i H ->
  wpAny (model P w) X.A (pyNext (.ref it)) (fun r s1=>∃ u,r=some u /\
   wpAny (model P w) X.A (letOwnedTupleGo tg (.ref it) u) (fun _ s2=>∃ x H',Inv X pins σ H' s2/\RelV x u/\J.yld i H x H'/\tn (i+1) s2.heap/\∀ b∈fp,H' b=none) E s1) E s
 done:∀ (X:Cx),X.prog=P->X.w=w->X.K=K->X.calm=true->∀ (i:Nat) (pins:List (Addr×Obj)) (s:Shared) (σ:St) (H:Hp) (E:Value->Shared->Prop),Inv X pins σ H s->(∀ b∈fp,FpOk X pins H b)->tn i s.heap->J.stop i H ->
  wpAny (model P w) X.A (pyNext (.ref it)) (fun r s1=>r=none/\Inv X pins σ H s1) E s
 self:∀ (A:Around) (i:Nat) (s:Shared) (Q:Value->Shared->Prop) (E:Value->Shared->Prop),tn i s.heap->Q (.ref it) s->wpAny (model P w) A (pyIter (.ref it)) Q E s
abbrev TI:=St->Hp->(It->Hp->Prop)->Prop
def PIE(X:Cx)(pins:List (Addr×Obj))(σ:St)(tg:Expr)(R:It->Hp->Prop)(itv:Value)(s2:Shared):Prop :=
 ∃ (it:Addr) (fp:List Addr) (tn:Nat->Heap->Prop) (J:It) (H':Hp),itv=.ref it/\Inv X pins σ H' s2/\D7 X.prog X.w X.K tg J fp it tn/\tn 0 s2.heap/\(∀ b∈fp,FpOk X pins H' b)/\R J H'
def PI(X:Cx)(tg iter:Expr)(wi:TI):Prop :=
 ∀ (pins:List (Addr×Obj)) (s:Shared) (σ:St) (H:Hp) (R:It->Hp->Prop),Inv X pins σ H s->wi σ H R ->
   wpAny (model X.prog X.w) X.A (eval iter X.env) (fun v s1=>wpAny (model X.prog X.w) X.A (pyIter v) (PIE X pins σ tg R) X.xe s1) X.xe s
theorem zdi(ho:s.heap.get? it=some o)(hc:o.cls=.type n)(hd:o.data=.fields vs)
  (hn:["enumerate","zip","dict_itemiterator","dict_reverseitemiterator","odict_iterator","itertools.zip_longest","itertools.pairwise"].contains n=false) (hQ:Q () s):wpAny M A (letOwnedTupleGo tg (.ref it) u) Q E s:=by
 unfold letOwnedTupleGo;cases tg<;>first
  | exact wpAny_pure hQ
  | (cases u<;>first
    | exact wpAny_pure hQ
    | (refine wpAny_bind (wpAny_load ho ?_)
       rw[hc,hd];show wpAny M A (if (["enumerate","zip","dict_itemiterator","dict_reverseitemiterator","odict_iterator","itertools.zip_longest","itertools.pairwise"].contains n&&vs[0]? == some (rawInt _))=true then _ else _) Q E s
       rw[if_neg (by intro h;rw[hn,Bool.false_and] at h;cases h)]
       exact wpAny_pure hQ))
def Itl(K:PySem.W.Frag)(a:Addr):It :=
 ⟨fun i H=>∃ xs x,SqL K H a xs/\xs[i]?=some x,fun i H x H'=>H'=H/\∀ xs,SqL K H a xs->xs[i]?=some x,fun i H=>∃ xs,SqL K H a xs/\xs.length<=i⟩
def Itr(lo:Int)(n:Nat):It:=⟨fun i _=>i<n,fun i H x H'=>H'=H/\x=.int (lo+i),fun i _=>n<=i⟩
theorem zbt{P:Program}{w:World}{K:PySem.W.Frag}{tg:Expr}(a it:Addr):D7 P w K tg (Itl K a) [it] it (fun i h=>h.IsListIter it a i) where
 mem:=by simp
 obj:=fun i h st b hb=>by
  have e:b=it:=by simpa using hb
  subst e;obtain⟨o,e,c,d⟩:=st;exact⟨o,e,fun v z=>by rw[d] at z;cases z⟩
 keep:=fun i h h' st k=>st.at fun o e=>k it (by simp) o e
 item:=by
  intro X hP hw hK hc i pins s σ H E I hf st hg;subst hP hw hK;obtain⟨xs,x,hq,hx⟩:=hg;obtain⟨its,rv,p,hz⟩:=I.list hq;obtain⟨u,hu,ru⟩:=rv.get hx;obtain⟨f0,f1,f2,f3,f4,f5⟩:=hf it (by simp)
  refine wpAny_pyNext_list_item st p.isList (x:=u) (by simpa using hu) fun h' st' sb=>?_
  have I1:Inv X pins σ H { s with heap:=h' }:=I.turned (t':=s.toks) (fun b o hb e=>(sb.2 b hb).trans e) f0 f1 f3 f4 f5
  obtain⟨o,e,c,d⟩:=id st';exact⟨u,rfl,zdi (s:={ s with heap:=h' }) e c d (by decide) ⟨x,H,I1,ru,⟨rfl,fun ys hy=>by rw[I.list_inj hy hq];exact hx⟩,st',fun b hb=>(hf b hb).1⟩⟩
 done:=by
  intro X hP hw hK hc i pins s σ H E I hf st hg;subst hP hw hK;obtain⟨xs,hq,hx⟩:=hg;obtain⟨its,rv,p,hz⟩:=I.list hq;obtain⟨f0,f1,f2,f3,f4,f5⟩:=hf it (by simp)
  have hl:=rv.length;exact wpAny_pyNext_list_end (I.ok.hd hc) st p.isList (by simp;omega) fun h' eb=>⟨rfl,I.turned (t':=s.toks) (fun b o hb e=>eb b o hb e) f0 f1 f3 f4 f5⟩
 self:=fun _ _ _ _ _ st h=>wpAny_pyIter_listiter st h
theorem Ac{P:Program}{w:World}{K:PySem.W.Frag}{tg:Expr}(it:Addr)(lo:Int)(n:Nat):D7 P w K tg (Itr lo n) [it] it (fun i h=>IsRangeIter h it (lo+(i:Nat)*1) ((n:Int)-(i:Nat)) 1) where
 mem:=by simp
 obj:=fun i h st b hb=>by
  have e:b=it:=by simpa using hb
  subst e;exact⟨_,st,fun v z=>by
   have z':Data.fields _=Data.cell v:=z;cases z'⟩
 keep:=fun i h h' st k=>k it (by simp) _ st
 item:=by
  intro X hP hw hK hc i pins s σ H E I hf st hg;subst hP hw hK;obtain⟨f0,f1,f2,f3,f4,f5⟩:=hf it (by simp)
  have W:=Walks.range (prog:=X.prog) (w:=X.w) (I.ok.hd hc) it lo 1 n;refine W.item i s _ _ hg st fun v h' tk hv st' kk=>?_
  obtain⟨t,rfl⟩:=hv;have I1:Inv X pins σ H { s with heap:=h',toks:=tk }:=I.turned (fun b o hb e=>kk b o (by simpa using hb) e) f0 f1 f3 f4 f5
  refine⟨_,rfl,zdi (s:={ s with heap:=h',toks:=tk }) (n:="range_iterator") st' rfl rfl (by decide) ⟨.int (lo+i),H,I1,⟨t,?_⟩,⟨rfl,rfl⟩,st',fun b hb=>(hf b hb).1⟩⟩
  rw[Int.mul_one]
 done:=by
  intro X hP hw hK hc i pins s σ H E I hf st hg;subst hP hw hK;obtain⟨f0,f1,f2,f3,f4,f5⟩:=hf it (by simp)
  exact wpAny_pyNext_range_end (I.ok.hd hc) st (by have:n<=i:=hg;omega) fun h' eb=>⟨rfl,I.turned (t':=s.toks) (fun b o hb e=>eb b o hb e) f0 f1 f3 f4 f5⟩
 self:=fun _ _ _ _ _ st h=>wpAny_pyIter_rangeiter st h
section
variable{X:Cx}{tg:Expr}
inductive zhe(K:PySem.W.Frag)(R:It->Hp->Prop)(x:V)(H1:Hp):Prop where
 | mk(a)(_:x=.ref a)(_:(∃ xs,SqL K H1 a xs))(_:R (Itl K a) H1)
def zgs(K:PySem.W.Frag)(tl:TE):TI:=fun σ H R=>tl σ H fun x H1=>zhe K R x H1
theorem zfi{l:Expr}{tl:TE}(hl:PE X l tl):PI X tg l (zgs X.K tl):=by
 intro pins s σ H R I h;refine thn (hl pins s σ H _ I h) fun v s1 ⟨x,H1,I1,r1,q1⟩=>?_
 obtain⟨a,e,⟨xs,hq⟩,q⟩:=q1;subst e;cases r1;obtain⟨its,rv,p,hz⟩:=I1.list hq;refine wpAny_pyIter_list p.isList ?_;refine⟨s1.heap.objs.size,[s1.heap.objs.size],_,_,H1,rfl,I1.kept (t':=s1.toks) fun b o e=>Heap.get?_push_of_some _ e,zbt a _,⟨_,Heap.get?_push_size _ rfl,rfl,rfl⟩,fun b hb=>?_,q⟩
 have e:b=s1.heap.objs.size:=by simpa using hb
 subst e;exact I1.fpOk (zs3 _) (I1.hok.fresh (zs3 _))
theorem D8{pins:List (Addr×Obj)}{σ:St}{H:Hp}{s:Shared}{R:It->Hp->Prop}{E:Value->Shared->Prop}{lo hi:Int}{t u v:Tok}{tk:Nat}(I:Inv X pins σ H s)(h1:-(2 ^ 62)<=lo)(h2:lo<2 ^ 62)(h3:-(2 ^ 62)<=hi)(h4:hi<2 ^ 62)
  (q:R (Itr lo (hi-lo).toNat) H):wpAny (model X.prog X.w) X.A (pyIter (.ref s.heap.objs.size)) (PIE X pins σ tg R) E { s with heap:=s.heap.push { cls:=.type "range",data:=.fields #[.int lo t,.int hi u,.int 1 v] },toks:=tk }:=by
 refine wpAny_pyIter_range (IsRange.new ..) (small_one h1 h2 h3 h4) ?_;have I1:Inv X pins σ H { s with heap:=s.heap.push { cls:=.type "range",data:=.fields #[.int lo t,.int hi u,.int 1 v] },toks:=tk }:=I.kept fun b o e=>Heap.get?_push_of_some _ e
 refine⟨(s.heap.push { cls:=.type "range",data:=.fields #[.int lo t,.int hi u,.int 1 v] }).objs.size,[(s.heap.push { cls:=.type "range",data:=.fields #[.int lo t,.int hi u,.int 1 v] }).objs.size],_,_,H,rfl,
  I1.kept (t':=tk) fun b o e=>Heap.get?_push_of_some _ e,Ac _ lo (hi-lo).toNat,?_,fun b hb=>?_,q⟩
 ·have e1:lo+((0:Nat):Int)*1=lo:=by simp
  have e2:(((hi-lo).toNat:Nat):Int)-((0:Nat):Int)=Builtin.Range.rangeSize lo hi 1:=by rw[rangeSize_one];split<;>omega
  show IsRangeIter _ _ (lo+((0:Nat):Int)*1) ((((hi-lo).toNat:Nat):Int)-((0:Nat):Int)) 1;rw[e1,e2];exact Heap.get?_push_size _ rfl
 ·have e:b=(s.heap.push { cls:=.type "range",data:=.fields #[.int lo t,.int hi u,.int 1 v] }).objs.size:=by simpa using hb
  subst e;exact I1.fpOk (zs3 _) (I1.hok.fresh (zs3 _))
def ziv(ta:TA):TI:=fun σ H R=>ta σ H fun vs H1=>∃ j:Int,vs=[.int j]/\-(2 ^ 62)<=j/\j<2 ^ 62/\R (Itr 0 j.toNat) H1
def ziw(ta:TA):TI:=fun σ H R=>ta σ H fun vs H1=>∃ i j:Int,vs=[.int i,.int j]/\(-(2 ^ 62)<=i/\i<2 ^ 62/\-(2 ^ 62)<=j/\j<2 ^ 62)/\R (Itr i (j-i).toNat) H1
theorem Xk{a:Expr}{ta:TA}{p pos:Pos}(hg:Gl X "range")(hm:X.mg "range"=none)(ha:PA X [a] ta)(hs:starEach [a] X.env=[(false,eval a X.env)]:=by rfl):PI X tg (.Call (.Name "range" p) [a] [] pos) (ziv ta):=by
 intro pins s σ H R I h;refine Call_ (Qf I hg hm boot_range (PyProof.Rows.callWith_type1 (thn (ha pos pins s σ H _ I h) fun us s1 ⟨vs,H1,I1,r1,q1⟩=>?_) hs rfl))
 obtain⟨j,e,q1,q2,q⟩:=q1;subst e;cases r1 with
 | cons r rr =>
   cases rr;obtain⟨t,rfl⟩:=r;exact call_range_1 (D8 I1 (by omega) (by omega) q1 q2 (by simpa using q))
theorem zbu(hg:Gl X "range")(hm:X.mg "range"=none)(ha:PA X [a,b] ta)(hs:starEach [a,b] X.env=[(false,eval a X.env),(false,eval b X.env)]:=by rfl)(hs2:starEach [b] X.env=[(false,eval b X.env)]:=by rfl) :
  PI X tg (.Call (.Name "range" p) [a,b] [] pos) (ziw ta):=by
 intro pins s σ H R I h;refine Call_ (Qf I hg hm boot_range (PyProof.Rows.callWith_type1 (thn (ha pos pins s σ H _ I h) fun us s1 ⟨vs,H1,I1,r1,q1⟩=>?_) (by rw[hs,hs2]) (by rw[hs2];rfl)))
 obtain⟨i,j,e,⟨q1,q2,q3,q4⟩,q⟩:=q1;subst e;cases r1 with
 | cons r rr =>
   cases rr with
   | cons r' rr =>
     cases rr;obtain⟨t,rfl⟩:=r;obtain⟨t',rfl⟩:=r';exact call_range_2 (D8 I1 q1 q2 q3 q4 q)
def zfj(wi:TI)(g:TG)(tb:TS):TS:=fun D σ H=>wi σ H fun J H1=>∃ W:Nat->Nat->St->Hp->Prop,(∃ m,W 0 m σ H1)/\∀ i m σ H,W i m σ H ->
 (J.stop i H/\D.nx σ H)\/(J.go i H/\∃ N:St->Hp->Prop,(∀ σ' H',N σ' H'->∃ m',m' < m/\W (i+1) m' σ' H')/\∀ x H',J.yld i H x H'->g x σ H' fun σ2 H2=>tb { D with nx:=N,ct:=N,bk:=D.nx } σ2 H2)
def Mh(fp:List Addr)(h:Heap):List (Addr×Obj):=fp.filterMap fun b=>(h.get? b).map fun o=>(b,o)
theorem Rj(hb:b∈fp)(e:h.get? b=some o):(b,o)∈Mh fp h:=zu1.mpr ⟨b,hb,by rw[e];rfl⟩
theorem zbv(hp:p∈Mh fp h):p.1∈fp/\h.get? p.1=some p.2:=by
 obtain⟨b,hb,e⟩:=zu1.mp hp;cases q:h.get? b with
 | none=>rw[q] at e;cases e
 | some o =>
   rw[q] at e
   have e':(b,o)=p:=Option.some.inj e;subst e';exact⟨hb,q⟩
theorem Inv.pinned(I:Inv X pins σ H s)(hf:∀ b∈fp,FpOk X pins H b)(ho:∀ b∈fp,∃ o,s.heap.get? b=some o/\∀ v,o.data≠.cell v):Inv X (pins++Mh fp s.heap) σ H s :=
 I.pins_of fun p hp=>(zs6.mp hp).elim (fun z=>I.pin p (zs9 _ z)) fun z=>by
  obtain⟨hb,e⟩:=zbv z;obtain⟨f0,f1,f2,_⟩:=hf p.1 hb;obtain⟨o,e',d⟩:=ho p.1 hb;rw[e] at e';cases e'
  exact⟨e,f0,f1,f2,d⟩
theorem Inv.unpinned(I:Inv X (pins++pl) σ H s):Inv X pins σ H s:=I.pins_of fun p hp=>I.pin p (zs9 _ (ztf _ hp))
theorem Y5(hp:PassesOwn (model X.prog X.w) X.A X.env X.xe)(hc:X.calm=true)(hi:PI X tg iter wi)(hg:PG X tg g)(hb:PSs X body tb)
  (hs:∀ x,foldedSetIterable iter X.env x=pure x:=by intro _;rfl):PS X (.For tg iter body [] pos) (zfj wi g tb):=by
 intro pins s σ H D I h;refine wpAny_For (thn (hi pins s σ H _ I h) fun v s1 h1=>thn h1 fun itv s2 h2=>?_) hs
 obtain⟨it,fp,tn,J,H2,e,I2,T,st2,f2,W,⟨m0,w0⟩,turn⟩:=h2;subst e;have stat:∀ {H':Hp},(∀ b∈fp,H' b=none)->∀ b∈fp,FpOk X pins H' b:=fun hn b hb=>⟨hn b hb,(f2 b hb).2⟩
 refine codeAny_forLoop_any (fun n s'=>∃ i σ' H',Inv X pins σ' H' s'/\tn i s'.heap/\(∀ b∈fp,H' b=none)/\W i n σ' H') ?_ m0 ⟨0,σ,H2,I2,st2,fun b hb=>(f2 b hb).1,w0⟩
 rintro n s3 ⟨i,σ3,H3,I3,st3,fr3,w3⟩;rcases turn i n σ3 H3 w3 with ⟨stop,qn⟩|⟨go,N,hN,step⟩
 ·refine wpAny_passesOwn hp (thn (T.done X rfl rfl rfl hc i pins s3 σ3 H3 X.xe I3 (stat fr3) st3 stop) fun r s4 ⟨hr,I4⟩=>?_)
  subst hr;exact wpAny_execs_nil ⟨σ3,H3,I4,qn⟩
 ·refine wpAny_passesOwn hp (thn (T.item X rfl rfl rfl hc i pins s3 σ3 H3 X.xe I3 (stat fr3) st3 go) fun r s4 ⟨u,hr,h4⟩=>?_)
  subst hr;refine wpAny_passesOwn hp (thn h4 fun _ s5 ⟨x,H5,I5,r5,y5,st5,fr5⟩=>?_)
  have I5':=I5.pinned (stat fr5) (T.obj _ _ st5);refine wpAny_passesOwn hp (thn (hg _ s5 σ3 H5 x u _ I5' r5 (step x H5 y5)) fun _ s6 ⟨σ6,H6,I6,q6⟩=>?_)
  refine wpAny_passesOwn hp (thn (hb _ s6 σ6 H6 _ I6 q6) fun f s7 q7=>?_)
  have again:∀ {σ7:St} {H7:Hp},Inv X (pins++Mh fp s5.heap) σ7 H7 s7->N σ7 H7->∃ m,m<n/\∃ i σ' H',Inv X pins σ' H' s7/\tn i s7.heap/\(∀ b∈fp,H' b=none)/\W i m σ' H':=fun {σ7 H7} I7 n7=>by
   obtain⟨m',hm,w7⟩:=hN σ7 H7 n7;refine⟨m',hm,i+1,σ7,H7,I7.unpinned,T.keep _ _ _ st5 fun b hb o e=>(I7.pin (b,o) (zs9 _ (zs9 _ (Rj hb e)))).1,fun b hb=>?_,w7⟩
   obtain⟨o,e,d⟩:=T.obj _ _ st5 b hb;exact(I7.pin (b,o) (zs9 _ (zs9 _ (Rj hb e)))).2.1
  cases f with
  | next=>obtain⟨σ7,H7,I7,n7⟩:=q7;exact again I7 n7
  | cont=>obtain⟨σ7,H7,I7,n7⟩:=q7;exact again I7 n7
  | brk=>obtain⟨σ7,H7,I7,q7⟩:=q7;exact⟨σ7,H7,I7.unpinned,q7⟩
  | ret v=>obtain⟨x7,σ7,H7,I7,r7,q7⟩:=q7;exact⟨x7,σ7,H7,I7.unpinned,r7,q7⟩
end
theorem Wa{K:PySem.W.Frag}{a:Addr}{xs:List V}{g:TG}{tb:TS}{D:Pp}{σ:St}{H:Hp}(Pv:Nat->St->Hp->Prop)(h0:Pv 0 σ H)(hl:∀ i σ H,i<=xs.length->Pv i σ H->SqL K H a xs)
  (hs:∀ i x σ H,xs[i]?=some x->Pv i σ H->g x σ H fun σ2 H2=>tb { D with nx:=Pv (i+1),ct:=Pv (i+1),bk:=D.nx } σ2 H2) (hd:∀ σ H,Pv xs.length σ H->D.nx σ H) :
  ∃ W:Nat->Nat->St->Hp->Prop,(∃ m,W 0 m σ H)/\∀ i m σ H,W i m σ H ->
    ((Itl K a).stop i H/\D.nx σ H)\/((Itl K a).go i H/\∃ N:St->Hp->Prop,(∀ σ' H',N σ' H'->∃ m',m' < m/\W (i+1) m' σ' H')/\∀ x H',(Itl K a).yld i H x H'->g x σ H' fun σ2 H2=>tb { D with nx:=N,ct:=N,bk:=D.nx } σ2 H2):=by
 refine⟨fun i m σ H=>m=xs.length-i/\i<=xs.length/\Pv i σ H,⟨xs.length,by simp,ztm _,h0⟩,?_⟩
 rintro i m σ H ⟨rfl,hi,p⟩;have q:=hl i σ H hi p;by_cases hlt:i<xs.length
 ·refine .inr ⟨⟨xs,xs[i],q,by simp[hlt]⟩,Pv (i+1),fun σ' H' p'=>⟨xs.length-(i+1),by omega,rfl,hlt,p'⟩,fun x H' y=>?_⟩
  obtain⟨e,y⟩:=y;subst e;exact hs i x σ _ (y xs q) p
 ·have e:i=xs.length:=by omega
  subst e;exact .inl ⟨⟨xs,q,zs3 _⟩,hd σ H p⟩
theorem Xu{lo:Int}{n:Nat}{g:TG}{tb:TS}{D:Pp}{σ:St}{H:Hp}(Pv:Nat->St->Hp->Prop)(h0:Pv 0 σ H)
  (hs:∀ i σ H,i<n->Pv i σ H->g (.int (lo+i)) σ H fun σ2 H2=>tb { D with nx:=Pv (i+1),ct:=Pv (i+1),bk:=D.nx } σ2 H2) (hd:∀ σ H,Pv n σ H->D.nx σ H) :
  ∃ W:Nat->Nat->St->Hp->Prop,(∃ m,W 0 m σ H)/\∀ i m σ H,W i m σ H ->
    ((Itr lo n).stop i H/\D.nx σ H)\/((Itr lo n).go i H/\∃ N:St->Hp->Prop,(∀ σ' H',N σ' H'->∃ m',m' < m/\W (i+1) m' σ' H')/\∀ x H',(Itr lo n).yld i H x H'->g x σ H' fun σ2 H2=>tb { D with nx:=N,ct:=N,bk:=D.nx } σ2 H2):=by
 refine⟨fun i m σ H=>m=n-i/\i<=n/\Pv i σ H,⟨n,by simp,ztm _,h0⟩,?_⟩
 rintro i m σ H ⟨rfl,hi,p⟩;by_cases hlt:i<n
 ·refine .inr ⟨hlt,Pv (i+1),fun σ' H' p'=>⟨n-(i+1),by omega,rfl,hlt,p'⟩,fun x H' y=>?_⟩
  obtain⟨e,y⟩:=y;subst e y;exact hs i σ _ hlt p
 ·have e:i=n:=by omega
  subst e;exact .inl ⟨zs3 _,hd σ H p⟩
abbrev R2:=V->V->Hp->VK->Prop
def OpR(X:Cx)(f:Value->Value->Sem Value)(r:R2):Prop :=
 ∀ (pins:List (Addr×Obj)) (s:Shared) (σ:St) (H:Hp) (x y:V) (v u:Value) (Q:VK),Inv X pins σ H s->RelV x v->RelV y u->r x y H Q ->
   wpAny (model X.prog X.w) X.A (f v u) (EP X pins σ Q) X.xe s
def UnR(X:Cx)(f:Value->Sem Value)(r:V->Hp->VK->Prop):Prop :=
 ∀ (pins:List (Addr×Obj)) (s:Shared) (σ:St) (H:Hp) (x:V) (v:Value) (Q:VK),Inv X pins σ H s->RelV x v->r x H Q ->
   wpAny (model X.prog X.w) X.A (f v) (EP X pins σ Q) X.xe s
def Vo(X:Cx)(f:Value)(r:List V->Hp->VK->Prop):Prop :=
 ∀ (pins:List (Addr×Obj)) (s:Shared) (σ:St) (H:Hp) (xs:List V) (us:List Value) (Q:VK),Inv X pins σ H s->Vals xs us->r xs H Q ->
   wpAny (model X.prog X.w) X.A (call f us) (EP X pins σ Q) X.xe s
def zj0(X:Cx)(r:V->Hp->(Bool->Hp->Prop)->Prop):Prop :=
 ∀ (pins:List (Addr×Obj)) (s:Shared) (σ:St) (H:Hp) (x:V) (v:Value) (Q:Bool->Hp->Prop),Inv X pins σ H s->RelV x v->r x H Q ->
   wpAny (model X.prog X.w) X.A (truthy v) (TP X pins σ Q) X.xe s
def tOp(r:R2)(ta tb:TE):TE:=fun σ H Q=>ta σ H fun x H1=>tb σ H1 fun y H2=>r x y H2 Q
def tUn(r:V->Hp->VK->Prop)(ta:TE):TE:=fun σ H Q=>ta σ H fun x H1=>r x H1 Q
inductive rI(C:Int->Int->Prop)(g:Int->Int->V)(x:V)(y:V)(H:Hp)(Q:VK):Prop where
 | mk(i)(j)(_:x=.int i)(_:y=.int j)(_:C i j/\Q (g i j) H)
inductive rI0(g:Int->Int->V)(x:V)(y:V)(H:Hp)(Q:VK):Prop where
 | mk(i)(j)(_:x=.int i)(_:y=.int j)(_:Q (g i j) H)
inductive rU(g:Int->V)(x:V)(H:Hp)(Q:VK):Prop where
 | mk(i)(_:x=.int i)(_:Q (g i) H)
section
variable{X:Cx}{a b c:Expr}{ta tb tc:TE}{pos:Pos}
theorem binT(ha:PE X a ta)(hb:PE X b tb){pins:List (Addr×Obj)}{s:Shared}{σ:St}{H:Hp}{R:V->V->Hp->Prop}(I:Inv X pins σ H s)
  (h:ta σ H fun x H1=>tb σ H1 fun y H2=>R x y H2) {Q:Value->Shared->Prop} {f:Value->Value->Sem Value}
  (hf:∀ v u s2 x y H2,Inv X pins σ H2 s2->RelV x v->RelV y u->R x y H2->wpAny (model X.prog X.w) X.A (f v u) Q X.xe s2) :
  wpAny (model X.prog X.w) X.A (eval a X.env) (fun v s₁=>wpAny (model X.prog X.w) X.A (eval b X.env) (fun u s₂=>wpAny (model X.prog X.w) X.A (f v u) Q X.xe s₂) X.xe s₁) X.xe s:=by
 refine thn (ha pins s σ H _ I h) fun v s1 ⟨x,H1,I1,r1,q1⟩=>?_
 refine thn (hb pins s1 σ H1 _ I1 q1) fun u s2 ⟨y,H2,I2,r2,q2⟩=>?_
 exact hf v u s2 x y H2 I2 r1 r2 q2
theorem Zs{op:Operator}{r:R2}(ho:OpR X (binaryOp op) r)(ha:PE X a ta)(hb:PE X b tb):PE X (.BinOp a op b pos) (tOp r ta tb):=by
 intro pins s σ H Q I h;exact wpAny_BinOp (binT ha hb I h fun v u s2 x y H2 I2 rx ry q=>ho pins s2 σ H2 x y v u Q I2 rx ry q)
theorem Qh(ho:UnR X (unaryOp op) r)(ha:PE X a ta):PE X (.UnaryOp op a pos) (tUn r ta):=by
 intro pins s σ H Q I h;exact UnaryOp_ (thn (ha pins s σ H _ I h) fun v s1 ⟨x,H1,I1,r1,q1⟩=>ho pins s1 σ H1 x v Q I1 r1 q1)
theorem opI{f:Value->Value->Sem Value}{C:Int->Int->Prop}{g:Int->Int->Int}
  (rule:∀ (i j:Int) (t u:Tok) (s:Shared) (Q:Value->Shared->Prop) (E:Value->Shared->Prop),C i j->Q (.int (g i j) s.toks) { s with toks:=s.toks+1 }->wpAny (model X.prog X.w) X.A (f (.int i t) (.int j u)) Q E s) :
  OpR X f (rI C fun i j=>.int (g i j)):=by
 intro pins s σ H x y v u Q I rx ry h;obtain⟨i,j,rfl,rfl,hc,q⟩:=h;obtain⟨t,rfl⟩:=rx;obtain⟨t',rfl⟩:=ry;exact rule i j t t' s _ _ hc ⟨.int (g i j),H,I.tok _,⟨_,rfl⟩,q⟩
theorem zix{f:Value->Value->Sem Value}{g:Int->Int->Int}
  (rule:∀ (i j:Int) (t u:Tok) (s:Shared) (Q:Value->Shared->Prop) (E:Value->Shared->Prop),Q (.int (g i j) s.toks) { s with toks:=s.toks+1 }->wpAny (model X.prog X.w) X.A (f (.int i t) (.int j u)) Q E s) :
  OpR X f (rI0 fun i j=>.int (g i j)):=by
 intro pins s σ H x y v u Q I rx ry h;obtain⟨i,j,rfl,rfl,q⟩:=h;obtain⟨t,rfl⟩:=rx;obtain⟨t',rfl⟩:=ry;exact rule i j t t' s _ _ ⟨.int (g i j),H,I.tok _,⟨_,rfl⟩,q⟩
theorem zfk{f:Value->Value->Sem Value}{g:Int->Int->Bool}
  (rule:∀ (i j:Int) (t u:Tok) (s:Shared) (Q:Value->Shared->Prop) (E:Value->Shared->Prop),Q (.bool (g i j)) s->wpAny (model X.prog X.w) X.A (f (.int i t) (.int j u)) Q E s) :
  OpR X f (rI0 fun i j=>.bl (g i j)):=by
 intro pins s σ H x y v u Q I rx ry h;obtain⟨i,j,rfl,rfl,q⟩:=h;obtain⟨t,rfl⟩:=rx;obtain⟨t',rfl⟩:=ry;exact rule i j t t' s _ _ ⟨.bl (g i j),H,I,rfl,q⟩
def CDiv(i j:Int):Prop:=0<j/\j<1073741824
def CMul(i j:Int):Prop:=(-(2 ^ 64)<i/\i<2 ^ 64)\/(-(2 ^ 64)<j/\j<2 ^ 64)
theorem CMul.ok(h:CMul i j):IntMulOk i j:=by
 rcases h with ⟨h1,h2⟩|⟨h1,h2⟩
 ·exact .of_left (intBits_le_64 h1 h2)
 ·exact .of_right (intBits_le_64 h1 h2)
theorem Yu:OpR X (binaryOp .Add) (rI0 fun i j=>.int (i+j)):=zix fun _ _ _ _ _ _ _ q=>add_int q
theorem Oe:OpR X (binaryOp .Sub) (rI0 fun i j=>.int (i-j)):=zix fun _ _ _ _ _ _ _ q=>sub_int q
theorem Qi:OpR X (binaryOp .Mult) (rI CMul fun i j=>.int (i*j)):=opI fun _ _ _ _ _ _ _ hc q=>mul_int q hc.ok
theorem Xa:OpR X (binaryOp .FloorDiv) (rI CDiv fun i j=>.int (i/j)):=opI fun i j _ _ _ _ _ hc q=>by
 have h1:(0:Int)<j:=hc.1;have h2:j<1073741824:=hc.2;exact floordiv_int (by omega) (by rw[Int.fdiv_eq_ediv_of_nonneg i (by omega)];exact q) (.inl (PyProof.noPylong_small (by omega)))
theorem Yq:OpR X (binaryOp .Mod) (rI (fun _ j=>0<j) fun i j=>.int (i%j)):=opI fun i j _ _ _ _ _ hc q=>by
 have h1:(0:Int)<j:=hc;exact mod_int' (by omega) (by rw[Int.fmod_eq_emod_of_nonneg i (by omega)];exact q)
theorem unI{f:Value->Sem Value}{g:Int->Int}
  (rule:∀ (i:Int) (t:Tok) (s:Shared) (Q:Value->Shared->Prop) (E:Value->Shared->Prop),Q (.int (g i) s.toks) { s with toks:=s.toks+1 }->wpAny (model X.prog X.w) X.A (f (.int i t)) Q E s) :
  UnR X f (rU fun i=>.int (g i)):=by
 intro pins s σ H x v Q I rx h;obtain⟨i,rfl,q⟩:=h;obtain⟨t,rfl⟩:=rx;exact rule i t s _ _ ⟨.int (g i),H,I.tok _,⟨_,rfl⟩,q⟩
theorem Te:UnR X (unaryOp .USub) (rU fun i=>.int (-i)):=unI fun _ _ _ _ _ q=>neg_int q
end
def ziy:V->V->Bool
 | .non,.non=>true|.non,.int _=>true|.int _,.non=>true|.non,.bl _=>true|.bl _,.non=>true|.non,.str _=>true|.str _,.non=>true
 | .int _,.int _=>true|.bl _,.bl _=>true|.str _,.str _=>true|.byt _,.byt _=>true
 | .int _,.str _=>true|.str _,.int _=>true|.bl _,.str _=>true|.str _,.bl _=>true
 | _,_=>false
inductive rEq(x:V)(y:V)(H:Hp)(Q:VK):Prop where
 | mk(_:ziy x y=true)(_:Q (.bl (decide (x=y))) H)
inductive rNe(x:V)(y:V)(H:Hp)(Q:VK):Prop where
 | mk(_:ziy x y=true)(_:Q (.bl (!decide (x=y))) H)
theorem zar:decide (V.int i=V.int j)=(i == j):=by
 rw[zu2];simp
theorem zdj:decide (V.bl i=V.bl j)=(i == j):=by
 rw[zu2];simp
theorem zas:decide (V.str i=V.str j)=(i == j):=by
 rw[zu2];simp
theorem zat:decide (V.byt i=V.byt j)=(i.toList == j.toList):=by
 rw[zu2];cases i;cases j;simp
section
variable{X:Cx}{a b c:Expr}{ta tb tc:TE}{pos:Pos}
theorem Ym(I:Inv X pins σ H s)(q:Q (.bl k) H)(e:k=k'):EP X pins σ Q (.bool k') s:=by
 subst e;exact⟨.bl k,H,I,rfl,q⟩
theorem Xt:OpR X (compareOp .Eq) rEq:=by
 intro pins s σ H x y v u Q I rx ry h;obtain⟨hs,q⟩:=h;cases x with
 | non =>
   cases rx;cases y with
   | non=>cases ry;exact PySem.EqNone.eq_none_none (Ym I q (by simp))
   | bl j=>cases ry;exact PySem.EqNone.eq_none_bool (Ym I q (by simp))
   | int j=>obtain⟨t',rfl⟩:=ry;exact PySem.EqNone.eq_none_int (Ym I q (by simp))
   | str j=>obtain⟨t',rfl⟩:=ry;exact PySem.EqNone.eq_none_str (Ym I q (by simp))
   | _=>exact absurd (show false=true from hs) ztd
 | bl i =>
   cases rx;cases y with
   | non=>cases ry;exact PySem.EqNone.eq_bool_none (Ym I q (by simp))
   | bl j=>cases ry;exact eq_bool (Ym I q zdj)
   | str j=>obtain⟨t',rfl⟩:=ry;exact PySem.EqMixed.eq_bool_str (Ym I q (by simp))
   | _=>exact absurd (show false=true from hs) ztd
 | int i =>
   obtain⟨t,rfl⟩:=rx;cases y with
   | non=>cases ry;exact PySem.EqNone.eq_int_none (Ym I q (by simp))
   | int j=>obtain⟨t',rfl⟩:=ry;exact eq_int (Ym I q zar)
   | str j=>obtain⟨t',rfl⟩:=ry;exact PySem.EqMixed.eq_int_str (Ym I q (by simp))
   | _=>exact absurd (show false=true from hs) ztd
 | str i =>
   obtain⟨t,rfl⟩:=rx;cases y with
   | non=>cases ry;exact PySem.EqNone.eq_str_none (Ym I q (by simp))
   | bl j=>cases ry;exact PySem.EqMixed.eq_str_bool (Ym I q (by simp))
   | int j=>obtain⟨t',rfl⟩:=ry;exact PySem.EqMixed.eq_str_int (Ym I q (by simp))
   | str j=>obtain⟨t',rfl⟩:=ry;exact eq_str (Ym I q zas)
   | _=>exact absurd (show false=true from hs) ztd
 | byt i =>
   obtain⟨t,rfl⟩:=rx;cases y with
   | byt j=>obtain⟨t',rfl⟩:=ry;exact PySem.W.eq_bytes (Ym I q zat)
   | _=>exact absurd (show false=true from hs) ztd
 | _=>cases y<;>exact absurd (show false=true from hs) ztd
theorem Nk:OpR X (compareOp .NotEq) rNe:=by
 intro pins s σ H x y v u Q I rx ry h;obtain⟨hs,q⟩:=h;cases x with
 | non =>
   cases rx;cases y with
   | non=>cases ry;exact PySem.EqNone.ne_none_none (Ym I q (by simp))
   | bl j=>cases ry;exact PySem.EqNone.ne_none_bool (Ym I q (by simp))
   | int j=>obtain⟨t',rfl⟩:=ry;exact PySem.EqNone.ne_none_int (Ym I q (by simp))
   | str j=>obtain⟨t',rfl⟩:=ry;exact PySem.EqNone.ne_none_str (Ym I q (by simp))
   | _=>exact absurd (show false=true from hs) ztd
 | bl i =>
   cases rx;cases y with
   | non=>cases ry;exact PySem.EqNone.ne_bool_none (Ym I q (by simp))
   | bl j=>cases ry;exact ne_bool (Ym I q (congrArg not zdj))
   | str j=>obtain⟨t',rfl⟩:=ry;exact PySem.EqMixed.ne_bool_str (Ym I q (by simp))
   | _=>exact absurd (show false=true from hs) ztd
 | int i =>
   obtain⟨t,rfl⟩:=rx;cases y with
   | non=>cases ry;exact PySem.EqNone.ne_int_none (Ym I q (by simp))
   | int j=>obtain⟨t',rfl⟩:=ry;exact ne_int (Ym I q (congrArg not zar))
   | str j=>obtain⟨t',rfl⟩:=ry;exact PySem.EqMixed.ne_int_str (Ym I q (by simp))
   | _=>exact absurd (show false=true from hs) ztd
 | str i =>
   obtain⟨t,rfl⟩:=rx;cases y with
   | non=>cases ry;exact PySem.EqNone.ne_str_none (Ym I q (by simp))
   | bl j=>cases ry;exact PySem.EqMixed.ne_str_bool (Ym I q (by simp))
   | int j=>obtain⟨t',rfl⟩:=ry;exact PySem.EqMixed.ne_str_int (Ym I q (by simp))
   | str j=>obtain⟨t',rfl⟩:=ry;exact ne_str (Ym I q (congrArg not zas))
   | _=>exact absurd (show false=true from hs) ztd
 | byt i =>
   obtain⟨t,rfl⟩:=rx;cases y with
   | byt j=>obtain⟨t',rfl⟩:=ry;exact PySem.W.ne_bytes (Ym I q (congrArg not zat))
   | _=>exact absurd (show false=true from hs) ztd
 | _=>cases y<;>exact absurd (show false=true from hs) ztd
theorem zau:OpR X (compareOp .Lt) (rI0 fun i j=>.bl (decide (i<j))):=zfk fun _ _ _ _ _ _ _ q=>lt_int q
theorem zgt:OpR X (compareOp .LtE) (rI0 fun i j=>.bl (decide (i<=j))):=zfk fun _ _ _ _ _ _ _ q=>le_int q
theorem Sy:OpR X (compareOp .Gt) (rI0 fun i j=>.bl (decide (j<i))):=zfk fun _ _ _ _ _ _ _ q=>gt_int q
theorem zgu:OpR X (compareOp .GtE) (rI0 fun i j=>.bl (decide (j<=i))):=zfk fun _ _ _ _ _ _ _ q=>ge_int q
theorem Of:OpR X (compareOp .Is) (fun x y H Q=>y=.non/\Q (.bl (decide (x=.non))) H):=by
 intro pins s σ H x y v u Q I rx ry h;obtain⟨rfl,q⟩:=h;cases ry;refine is_none_gen (Ym I q ?_);cases x<;>first
  | (cases rx;rfl)
  | (obtain⟨t,rfl⟩:=rx;rfl)
theorem W9:OpR X (compareOp .IsNot) (fun x y H Q=>y=.non/\Q (.bl (!decide (x=.non))) H):=by
 intro pins s σ H x y v u Q I rx ry h;obtain⟨rfl,q⟩:=h;cases ry;refine isnot_none_gen (Ym I q ?_);cases x<;>first
  | (cases rx;rfl)
  | (obtain⟨t,rfl⟩:=rx;rfl)
theorem Zr(b:Expr)(h:op≠.In:=by decide)(h2:op≠.NotIn:=by decide):behindInMarks op b=false:=by
 have e1:(op == CmpOp.In)=false:=by cases op<;>first|rfl|exact absurd rfl h
 have e2:(op == CmpOp.NotIn)=false:=by cases op<;>first|rfl|exact absurd rfl h2
 cases b<;>simp[behindInMarks,e1,e2]
theorem W3{op:CmpOp}{r:R2}(ho:OpR X (compareOp op) r)(ha:PE X a ta)(hb:PE X b tb)(hm:behindInMarks op b=false):PE X (.Compare a [op] [b] pos) (tOp r ta tb):=by
 intro pins s σ H Q I h;exact wpAny_Compare1 (binT ha hb I h fun v u s2 x y H2 I2 rx ry q=>ho pins s2 σ H2 x y v u Q I2 rx ry q) hm
def D9(t:TE):TT:=fun σ H Q=>t σ H fun x H'=>∃ k,x=.bl k/\Q k H'
theorem Zn(ho:OpR X (compareOp op) r)(ha:PE X a ta)(hb:PE X b tb)(hm:behindInMarks op b=false):PT X (.Compare a [op] [b] pos) (D9 (tOp r ta tb)):=by
 intro pins s σ H Q I h;refine wpAny_isTrue_Compare1 (thn (ha pins s σ H _ I h) fun v s1 ⟨x,H1,I1,r1,q1⟩=>thn (hb pins s1 σ H1 _ I1 q1) fun u s2 ⟨y,H2,I2,r2,q2⟩ =>
  thn (ho pins s2 σ H2 x y v u _ I2 r1 r2 q2) fun c s3 ⟨z,H3,I3,r3,k,e,q3⟩=>?_) hm
 subst e;cases r3;exact wpAny_truthy_bool ⟨H3,I3,q3⟩
def TruV(K:PySem.W.Frag)(x:V)(H:Hp)(k:Bool):Prop :=
 match x with
 | .non=>k=false
 | .bl b=>k=b
 | .int i=>k=(i != 0)
 | .str y=>y.length<=sizeLine/\k=((y.length:Int) != 0)
 | .byt y=>y.size<=sizeLine/\k=((y.size:Int) != 0)
 | .ref p=>(∃ xs,SqL K H p xs/\k=!xs.isEmpty)\/(∃ xs,SqT K H p xs/\k=!xs.isEmpty)\/∃ kvs,H p=some (.dK kvs)/\k=!kvs.isEmpty
 | _=>False
theorem Ae(r:KV kvs vs):(!vs.isEmpty)=!kvs.isEmpty:=by
 cases r<;>rfl
theorem Jk(r:Vals xs its):(!its.toArray.isEmpty)=!xs.isEmpty:=by
 cases r<;>simp
theorem Og:(sizeLine:Nat)<2 ^ 63:=by rw[sizeLine_eq];decide
theorem zhf:zj0 X (fun x H Q=>∃ k,TruV X.K x H k/\Q k H):=by
 intro pins s σ H x v Q I rx h;obtain⟨k,e,q⟩:=h;have hl:=Og;have hs:sizeLine=16777216:=sizeLine_eq;cases x with
 | non =>
   cases rx;have e':k=false:=e;subst e';exact truthy_none ⟨H,I,q⟩
 | bl b =>
   cases rx;have e':k=b:=e;subst e';exact wpAny_truthy_bool ⟨H,I,q⟩
 | int i =>
   obtain⟨t,rfl⟩:=rx;have e':k=(i != 0):=e;subst e';exact PySem.P.truthy_int ⟨H,I,q⟩
 | str y =>
   obtain⟨t,rfl⟩:=rx;obtain⟨hy,e'⟩:y.length<=sizeLine/\k=((y.length:Int) != 0):=e;subst e';exact PySem.P.truthy_str (by omega) ⟨H,I.tok _,q⟩
 | byt y =>
   obtain⟨t,rfl⟩:=rx;obtain⟨hy,e'⟩:y.size<=sizeLine/\k=((y.size:Int) != 0):=e;subst e';exact PySem.W.truthy_bytes (by omega) ⟨H,I.tok _,q⟩
 | ref p =>
   cases rx;have e':(∃ xs,SqL X.K H p xs/\k=!xs.isEmpty)\/(∃ xs,SqT X.K H p xs/\k=!xs.isEmpty)\/∃ kvs,H p=some (.dK kvs)/\k=!kvs.isEmpty:=e
   rcases e' with ⟨xs,hx,e'⟩|⟨xs,hx,e'⟩|⟨kvs,hx,e'⟩
   ·subst e'
    obtain⟨its,r,pl,hz⟩:=I.list hx;have hlen:=r.length;exact wpAny_truthy_list pl.isList (by simp only[zs7];omega) ⟨H,I.tok _,by rw[Jk r];exact q⟩
   ·subst e'
    obtain⟨its,r,pl,hz⟩:=I.tuple hx;have hlen:=r.length;exact truthy_tuple pl (by simp only[zs7];omega) ⟨H,I.tok _,by rw[Jk r];exact q⟩
   ·subst e'
    obtain⟨hz,hS,vs,r,m⟩:kvs.length<=sizeLine/\(p == sysModules)=false/\∃ vs,KV kvs vs/\s.heap.DictOf (Yp X.prog X.w) p vs:=I.hok p _ hx
    have hlen:kvs.length=vs.length:=Paired.length r;exact wpAny_truthy_dict hS m (by omega) ⟨H,I.tok _,by rw[Ae r];exact q⟩
 | _=>exact(show False from e).elim
theorem zdk(ha:PE X a ta)(he:∀ whole,isTrue a X.env whole=(do let v <- whole;standAt a.pos;holding [v] (truthy v))) :
  PT X a (fun σ H Q=>ta σ H fun x H'=>∃ k,TruV X.K x H' k/\Q k H'):=by
 intro pins s σ H Q I h;exact isTrue_plain (thn (ha pins s σ H _ I h) fun v s1 ⟨x,H1,I1,r1,q1⟩=>zhf pins s1 σ H1 x v Q I1 r1 q1) (he _)
theorem T1(r:Vals [x] us):∃ u,us=[u]/\RelV x u:=by
 cases r with
 | cons r1 r2=>cases r2;exact⟨_,rfl,r1⟩
theorem zdl(r:Vals [x,y] us):∃ u w',us=[u,w']/\RelV x u/\RelV y w':=by
 cases r with
 | cons r1 r2 =>
   cases r2 with
   | cons r3 r4=>cases r4;exact⟨_,_,rfl,r1,r3⟩
theorem Fe(hc:X.calm=true):Vo X (.builtin "max") (fun xs H Q=>∃ i j,xs=[.int i,.int j]/\Q (.int (if j>i then j else i)) H):=by
 intro pins s σ H xs us Q I r h;obtain⟨i,j,rfl,q⟩:=h;obtain⟨u,w',rfl,⟨t,rfl⟩,⟨t',rfl⟩⟩:=zdl r;refine max_two_ints (I.ok.hd hc) fun h' tk k=>⟨_,H,I.kept k,?_,q⟩
 by_cases hj:j>i
 ·rw[if_pos hj,if_pos hj];exact⟨_,rfl⟩
 ·rw[if_neg hj,if_neg hj];exact⟨_,rfl⟩
theorem Ff(hc:X.calm=true):Vo X (.builtin "min") (fun xs H Q=>∃ i j,xs=[.int i,.int j]/\Q (.int (if j<i then j else i)) H):=by
 intro pins s σ H xs us Q I r h;obtain⟨i,j,rfl,q⟩:=h;obtain⟨u,w',rfl,⟨t,rfl⟩,⟨t',rfl⟩⟩:=zdl r;refine min_two_ints (I.ok.hd hc) fun h' tk k=>⟨_,H,I.kept k,?_,q⟩
 by_cases hj:j<i
 ·rw[if_pos hj,if_pos hj];exact⟨_,rfl⟩
 ·rw[if_neg hj,if_neg hj];exact⟨_,rfl⟩
theorem Fg:Vo X (.type "int") (fun xs H Q=>(∃ i,xs=[.int i]/\Q (.int i) H)\/∃ k,xs=[.bl k]/\Q (.int (if k then 1 else 0)) H):=by
 intro pins s σ H xs us Q I r h;rcases h with ⟨i,rfl,q⟩|⟨k,rfl,q⟩
 ·obtain⟨u,rfl,t,rfl⟩:=T1 r
  exact call_int_int ⟨.int i,H,I,⟨_,rfl⟩,q⟩
 ·obtain⟨u,rfl,r1⟩:=T1 r
  cases r1;exact call_int_bool ⟨.int (if k then 1 else 0),H,I.tok _,⟨_,rfl⟩,q⟩
end
structure ObjM(h:Heap)(x dx C:Addr)(mA:Str->Option Value):Prop where
 obj:h.get? x=some (PySem.W.instObj C dx)
 ns:h.Ns1 dx mA
 ne:dx≠x
theorem zbw{h:Heap}{dx:Addr}{mA:Str->Option Value}(n:h.Ns1 dx mA):∃ od,h.get? dx=some od/\∀ name,PySem.W.lookIn name od=some (mA name):=by
 obtain⟨o,es,ep,ho,hd,hk,_,hm⟩:=n;refine⟨o,ho,fun name=>?_⟩
 have e:=hm name;unfold nsFind findBy at e
 rw[<- Array.find?_toList] at e
 unfold PySem.W.lookIn;rw[hd];dsimp only;split
 ·rename_i y q
  rw[q] at e
  exact congrArg some e
 ·rename_i q
  rw[q] at e
  have a:es.toList.any (·.refKey)=false:=by
   rw[List.any_eq_false];intro y hy;obtain⟨z,t,hkey⟩:=hk y (Array.mem_toList_iff.mp hy);simp[DictEntry.refKey,hkey]
  have a':¬ es.toList.any (·.refKey)=true:=by rw[a];exact ztd
  rw[if_neg a'];exact congrArg some e
theorem ObjM.look(I:ObjM h x dx C mA):∃ od,PySem.W.InstAt h x (PySem.W.instObj C dx) C (some od)/\∀ name,PySem.W.lookIn name od=some (mA name) :=
 let ⟨od,ho,hl⟩:=zbw I.ns
 ⟨od,⟨I.obj,rfl,rfl,ho⟩,hl⟩
section
variable{prog:Program}{w:World}{A:Around}{E:Value->Shared->Prop}{s:Shared}{K:PySem.W.Frag}{x dx C f:Addr}{mA:Str->Option Value}{name:Str}{v:Value}
theorem zfl(X:K.In s.heap)(I:ObjM s.heap x dx C mA)(hg:PySem.W.plainGet K C name=true)(hh:PySem.W.hasDictIn K C=true)
  (ha:PySem.W.findIn K (.ref C) name=some none) (hv:mA name=some v) (hv':PySem.W.handedIn v=true) (h:Q v { s with toks:=s.toks+1 }) :
  wpAny (model prog w) A (getAttr (.ref x) name expr) Q E s:=by
 obtain⟨od,J,hl⟩:=I.look;exact PySem.W.get_value X J (PySem.W.plainGet_of hg).1 (PySem.W.findObj_own hh ha rfl (by rw[hl,hv])) hv' h
theorem zdm(X:K.In s.heap)(I:ObjM s.heap x dx C mA)(hg:PySem.W.plainGet K C name=true)
  (hf:PySem.W.findIn K (.ref C) name=some (some (.ref f))) (ht:PySem.W.isFn K (.ref f)=true) (hv:mA name=none) (h:Q (.ref f,[.ref x]) s) :
  wpAny (model prog w) A (getMethod (.ref x) name pl) Q E s:=by
 obtain⟨od,J,hl⟩:=I.look;exact PySem.W.method_fn X J (PySem.W.plainGet_of hg).1 (PySem.W.plainGet_of hg).2 hf (beq_iff_eq.mp ht) (by show (PySem.W.lookIn name od).map (·.isSome)=some false;rw[hl,hv];rfl) h
theorem zfm(X:K.In s.heap)(I:ObjM s.heap x dx C mA)
  (hs:PySem.W.findIn K (.ref C) "__setattr__"=some (some (.builtin "object.__setattr__"))) (hp:PySem.W.plainOver K C=true) (ht:PySem.W.takerIn K C name=some none) (hh:PySem.W.hasDictIn K C=true)
  (hw:PySem.Within mA ns) (hsz:ns.length<=sizeLine)
  (h:∀ h',ObjM h' x dx C (fun y=>if y=name then some v else mA y)->Heap.SameBut dx s.heap h'->Q () { s with heap:=h',toks:=s.toks+2 }) :
  wpAny (model prog w) A (setAttr (.ref x) name v) Q E s:=by
 obtain⟨od,J,hl⟩:=I.look;refine PySem.W.set_plain X J hs (PySem.W.osa_open (s:={ s with toks:=s.toks+1 }) (r:=none) X J hp ht fun b=>?_)
 obtain⟨cd,hc,hd'⟩:=PySem.W.any_some hh;have hx:s.heap.get? x=some ⟨.ref C,some dx,.plain,#[]⟩:=I.obj;refine wpAny_bind (wpAny_pure (wpAny_bind (wpAny_bind (wpAny_loadPart hx (wpAny_bind (PySem.W.Looks.here (s:={ s with toks:=s.toks+1 }) (PySem.W.looks_clsIn X hc) ?_))))))
 rw[hd'];refine wpAny_pure (a:=some dx) (wpAny_bind (wpAny_pure (wpAny_bind ?_)));refine wpAny_nsSet1 (s:={ s with toks:=s.toks+1 }) I.ns fun h' hn2 hs2=>?_
 obtain⟨oD,esD,epD,hoD,hdD,hcD⟩:=hn2.count (PySem.Within.cons name v hw);refine wpAny_bind (wpAny_lookBehind hoD (by rw[hdD];exact pastItsLine_dict (ztb hcD (by rw[zti];omega))) ?_)
 exact wpAny_pure (h _ ⟨(hs2.2 _ (Ne.symm I.ne)).trans I.obj,hn2,I.ne⟩ hs2)
theorem zdn(X:K.In s.heap)(hm:PySem.W.makesIn K C=true)
  (hi:PySem.W.findIn K (.ref C) "__init__"=some (some (.ref f))) (hf:PySem.W.typeIn K (.ref f)=some (.type "function"))
  (h:codeAny (model prog w) (A.under (.builtin "type.__call__" ⟨.ref C :: vs,kw⟩)) (.call (.ref f) ⟨.ref (s.heap.objs.size+1) :: vs,kw⟩) (PySem.W.InitBack (s.heap.objs.size+1) R)
   { s with heap:=(s.heap.push PySem.W.emptyDict).push (PySem.W.instObj C s.heap.objs.size) }) :
  codeAny (model prog w) A (.call (.ref C) ⟨vs,kw⟩) R s:=by
 obtain⟨hh,g,d,t,os⟩:=s;exact PySem.W.make_core (PySem.W.makes_of X hm) (PySem.W.looks_findIn X hi) (fun self=>PySem.W.bind_fn X self hf) (.inl rfl) h
end
def putF(f:Str)(v:V):List (Str×V)->List (Str×V)
 | []=>[(f,v)]
 | (g,x) :: r=>if g=f then (g,v) :: r else (g,x) :: putF f v r
theorem Lw(f g:Str)(v:V):∀ fs:List (Str×V),(putF f v fs).lookup g=if g=f then some v else fs.lookup g
 | []=>by
   show List.lookup g [(f,v)]=_;by_cases h:g=f
   ·have hb:(g == f)=true:=beq_iff_eq.mpr h
    simp only[List.lookup,hb,if_pos h]
   ·have hb:(g == f)=false:=zth.mpr h
    simp only[List.lookup,hb,if_neg h]
 | (k,x) :: r=>by
   have ih:=Lw f g v r;rw[show putF f v ((k,x) :: r)=(if k=f then (k,v) :: r else (k,x) :: putF f v r) from rfl]
   by_cases hk:k=f
   ·rw[if_pos hk]
    by_cases h:g=k
    ·have hb:(g == k)=true:=beq_iff_eq.mpr h
     simp only[List.lookup,hb,if_pos (h.trans hk)]
    ·have hb:(g == k)=false:=zth.mpr h
     simp only[List.lookup,hb,if_neg (fun e:g=f=>h (e.trans hk.symm))]
   ·rw[if_neg hk]
    by_cases h:g=k
    ·have hb:(g == k)=true:=beq_iff_eq.mpr h
     simp only[List.lookup,hb,if_neg (fun e:g=f=>hk (h.symm.trans e))]
    ·have hb:(g == k)=false:=zth.mpr h
     simp only[List.lookup,hb];exact ih
theorem Mi(f:Str)(v:V):∀ fs:List (Str×V),f∈(putF f v fs).map (·.1)/\∀ g,g∈fs.map (·.1)->g∈(putF f v fs).map (·.1)
 | []=>⟨by simp[putF],fun g h=>by simp at h⟩
 | (k,x) :: r=>by
   obtain⟨i1,i2⟩:=Mi f v r;rw[show putF f v ((k,x) :: r)=(if k=f then (k,v) :: r else (k,x) :: putF f v r) from rfl]
   by_cases hk:k=f
   ·rw[if_pos hk]
    subst hk;exact⟨by simp,fun g h=>by simpa using h⟩
   ·rw[if_neg hk]
    refine⟨?_,fun g h=>?_⟩
    ·rw[zs4]
     exact ztc _ i1
    ·rw[zs4] at h ⊢
     rcases zsz.mp h with e|e
     ·exact zsz.mpr (.inl e)
     ·exact ztc _ (i2 g e)
theorem Ly(f:Str)(v:V):∀ fs:List (Str×V),(putF f v fs).length<=fs.length+1
 | []=>by simp[putF]
 | (k,x) :: r=>by
   have ih:=Ly f v r;rw[show putF f v ((k,x) :: r)=(if k=f then (k,v) :: r else (k,x) :: putF f v r) from rfl]
   by_cases hk:k=f
   ·rw[if_pos hk,zti,zti];omega
   ·rw[if_neg hk,zti,zti];omega
theorem RelO.some_of(r:RelO (some v) o):∃ u,o=some u/\RelV v u:=by
 cases o with
 | none=>exact(show False from r).elim
 | some u=>exact⟨u,rfl,r⟩
theorem RelO.none_of(r:RelO none o):o=none:=by
 cases o with
 | none=>rfl
 | some u=>exact(show False from r).elim
theorem zbx(r:RelV v u):PySem.W.handedIn u=true:=by
 cases v with
 | non=>cases (show u=Value.none from r);rfl
 | bl b=>cases (show u=Value.bool b from r);rfl
 | int i=>obtain⟨t,e⟩:=(show ∃ t,u=Value.int i t from r);cases e;rfl
 | str x=>obtain⟨t,e⟩:=(show ∃ t,u=Value.str x t from r);cases e;rfl
 | byt b=>obtain⟨t,e⟩:=(show ∃ t,u=Value.bytes b t from r);cases e;rfl
 | flt b=>obtain⟨t,e⟩:=(show ∃ t,u=Value.float b t from r);cases e;rfl
 | ref a=>cases (show u=Value.ref a from r);rfl
 | ty n=>cases (show u=Value.type n from r);rfl
section
variable{P:Program}{w:World}{H H':Hp}{h h':Heap}{a C dx:Addr}{fs fs':List (Str×V)}
theorem Jc(hok:HOk P w H h)(e:H a=some (.ins C dx fs)):∃ mA,ObjM h a dx C mA/\(∀ f,RelO (fs.lookup f) (mA f))/\PySem.Within mA (fs.map (·.1))/\fs.length<=1000/\H dx=some (.own a):=by
 obtain⟨d,z,ne,ob,mA,n,r,q⟩:=(show Y9 P w H h a (.ins C dx fs) from hok a _ e)
 exact⟨mA,⟨ob,n,ne⟩,r,q,z,d⟩
end
structure Cls(K:PySem.W.Frag)(C:Addr):Prop where
 pg:PySem.W.plainGet K C Str.empty=true
 hd:PySem.W.hasDictIn K C=true
 po:PySem.W.plainOver K C=true
 sa:PySem.W.findIn K (.ref C) "__setattr__"=some (some (.builtin "object.__setattr__"))
theorem Cls.get{K:PySem.W.Frag}{C:Addr}(c:Cls K C)(f:Str):PySem.W.plainGet K C f=true:=c.pg
def X0(K:PySem.W.Frag)(C:Addr)(f:Str):Prop:=PySem.W.findIn K (.ref C) f=some none
theorem X0.taker{K:PySem.W.Frag}{C:Addr}{f:Str}(n:X0 K C f):PySem.W.takerIn K C f=some none:=by
 unfold PySem.W.takerIn;rw[show PySem.W.findIn K (.ref C) f=some none from n]
 rfl
structure Con(K:PySem.W.Frag)(C:Addr)(f:Str)(v:V)(u:Value):Prop where
 at_:PySem.W.findIn K (.ref C) f=some (some u)
 rel:RelV v u
 get:PySem.W.specialIn K u "__get__"=some none
 cp:PySem.W.copiedNames.contains f=false
structure zdo(K:PySem.W.Frag)(C:Addr)(m:Str)(f:Addr):Prop where
 at_:PySem.W.findIn K (.ref C) m=some (some (.ref f))
 fn:PySem.W.isFn K (.ref f)=true
 kp:PySem.W.keepIn K (.ref f)=true
section
variable{X:Cx}{pins:List (Addr×Obj)}{σ:St}{H:Hp}{s:Shared}{a C dx:Addr}{fs:List (Str×V)}{f:Str}{v:V}{A:Around}{E:Value->Shared->Prop}
theorem Af(I:Inv X pins σ H s)(e:H a=some (.ins C dx fs))(c:Cls X.K C)(n:X0 X.K C f)(l:fs.lookup f=some v)
  (h:∀ u s',Inv X pins σ H s'->RelV v u->Q u s'):wpAny (model X.prog X.w) A (getAttr (.ref a) f b) Q E s:=by
 obtain⟨mA,O,r,_,_,_⟩:=Jc I.hok e;obtain⟨u,hu,ru⟩:=RelO.some_of (v:=v) (o:=mA f) (by rw[<- l];exact r f)
 exact zfl I.kIn O (c.get f) c.hd n hu (zbx ru) (h u _ (I.tok _) ru)
theorem Jl(I:Inv X pins σ H s)(e:H a=some (.ins C dx fs))(c:Cls X.K C)(k:zdo X.K C m g)(l:fs.lookup m=none)
  (h:Q (.ref g,[.ref a]) s):wpAny (model X.prog X.w) A (getMethod (.ref a) m pl) Q E s:=by
 obtain⟨mA,O,r,_,_,_⟩:=Jc I.hok e;have hn:mA m=none:=RelO.none_of (by rw[<- l];exact r m)
 exact zdm I.kIn O (c.get m) k.at_ k.fn hn h
theorem Ag(I:Inv X pins σ H s)(e:H a=some (.ins C dx fs))(c:Cls X.K C)(n:X0 X.K C f)(hl:fs.length<1000)(ry:RelV y u)
  (h:∀ s',Inv X pins σ (upd H a (.ins C dx (putF f y fs))) s'->Q () s'):wpAny (model X.prog X.w) A (setAttr (.ref a) f u) Q E s:=by
 obtain⟨mA,O,r,wi,_,ho⟩:=Jc I.hok e;have hz:(fs.map (·.1)).length<=sizeLine:=by rw[zst,sizeLine_eq];omega
 refine zfm I.kIn O c.sa c.po n.taker c.hd wi hz fun h' O' sb=>h _ ?_
 have hd:∃ o,h'.get? dx=some o:=let ⟨o,_,_,e',_⟩:=O'.ns;⟨o,e'⟩
 refine I.write (x:=a) (e:=dx) (by rw[e];exact True.intro) (.inr ho) (fun b q hb z=>(sb.2 b hb).trans z) hd ?_
 refine⟨by rw[Zi O.ne];exact ho,?_,O.ne,O'.obj,_,O'.ns,fun g=>?_,fun g hg=>?_⟩
 ·have:=Ly f y fs;omega
 ·show RelO ((putF f y fs).lookup g) (if g=f then some u else mA g)
  rw[Lw];by_cases q:g=f
  ·rw[if_pos q,if_pos q];exact ry
  ·rw[if_neg q,if_neg q];exact r g
 ·by_cases q:g=f
  ·rw[q];exact(Mi f y fs).1
  ·refine(Mi f y fs).2 g (wi g fun z=>hg ?_)
   show (if g=f then some u else mA g)=none
   rw[if_neg q];exact z
theorem Inv.made(I:Inv X pins σ H s):Inv X pins σ (upd (upd H s.heap.objs.size (.own (s.heap.objs.size+1))) (s.heap.objs.size+1) (.ins C s.heap.objs.size []))
  { s with heap:=(s.heap.push PySem.W.emptyDict).push (PySem.W.instObj C s.heap.objs.size) }:=by
 have e1:(s.heap.push PySem.W.emptyDict).get? s.heap.objs.size=some PySem.W.emptyDict:=Heap.get?_push_size s.heap rfl;have e2:((s.heap.push PySem.W.emptyDict).push (PySem.W.instObj C s.heap.objs.size)).get? (s.heap.objs.size+1)=some (PySem.W.instObj C s.heap.objs.size):=by
  have:=Heap.get?_push_size (s.heap.push PySem.W.emptyDict) (o:=PySem.W.instObj C s.heap.objs.size) rfl
  rwa [Heap.size_push] at this
 have e3:(s.heap.push PySem.W.emptyDict).Ns s.heap.objs.size (fun _=>none):=⟨PySem.W.emptyDict,#[],_,e1,rfl,(fun e he=>absurd he (by simp)),fun _=>rfl⟩
 have I1:=I.laid (a:=s.heap.objs.size) (o:=.own (s.heap.objs.size+1)) (h':=s.heap.push PySem.W.emptyDict) (t':=s.toks) (fun b u q=>Heap.get?_push_of_some _ q) (zs3 _) ⟨_,e1⟩
 refine I1.laid (a:=s.heap.objs.size+1) (o:=.ins C s.heap.objs.size []) (t':=s.toks) (fun b u q=>Heap.get?_push_of_some _ q) (Nat.le_of_eq (Heap.size_push _ _)) ?_
 have ne:s.heap.objs.size≠s.heap.objs.size+1:=ztk (zux _);refine⟨by rw[Zi ne,Zc],ztm _,ne,e2,fun _=>none,(Heap.Ns1.of_empty e3).at fun o q=>Heap.get?_push_of_some _ q,fun _=>True.intro,fun y hy=>absurd rfl hy⟩
theorem zfn(hb:attributeBase e f env (eval e env)=eval e env)
  (h:wpAny (model prog w) A (eval e env) (fun o s₁=>wpAny (model prog w) A (getAttr o f true) Q E s₁) E s):wpAny (model prog w) A (eval (.Attribute e f pos) env) Q E s :=
 Attribute_any_ h (by rw[arm_eval_Attribute,hb])
end
inductive ziz(K:PySem.W.Frag)(f:Str)(Q:VK)(x:V)(H1:Hp):Prop where
 | mk(a)(C)(dx)(fs)(v)(_:x=.ref a)(_:H1 a=some (.ins C dx fs))(_:Cls K C)(_:X0 K C f)(_:fs.lookup f=some v)(_:Q v H1)
def zi0(K:PySem.W.Frag)(ta:TE)(f:Str):TE:=fun σ H Q=>ta σ H fun x H1=>ziz K f Q x H1
inductive zi1(K:PySem.W.Frag)(f:Str)(D:Pp)(σ:L2.St)(y:V)(x:V)(H2:Hp):Prop where
 | mk(a)(C)(dx)(fs)(_:x=.ref a)(_:H2 a=some (.ins C dx fs))(_:Cls K C)(_:X0 K C f)(_:fs.length<1000)(_:D.nx σ (upd H2 a (.ins C dx (putF f y fs))))
def zi2(K:PySem.W.Frag)(ta tv:TE)(f:Str):TS:=fun D σ H=>tv σ H fun y H1=>ta σ H1 fun x H2=>zi1 K f D σ y x H2
section
variable{X:Cx}{o e value:Expr}{f:Str}{pos pos' tpos:Pos}{ta tv:TE}
theorem zhg(he:PE X e ta)(hb:attributeBase e f X.env (eval e X.env)=eval e X.env):PE X (.Attribute e f pos) (zi0 X.K ta f):=by
 intro pins s σ H Q I h;refine zfn hb (thn (he pins s σ H _ I h) fun u s1 ⟨x,H1,I1,rx,a,C,dx,fs,v,ex,ea,c,n,l,q⟩=>?_)
 subst ex;obtain rfl:u=Value.ref a:=rx;exact Af I1 ea c n l fun u' s2 I2 ru=>⟨v,H1,I2,ru,q⟩
theorem zhh(ha:PE X o ta)(hv:PE X value tv)(hs:swapsWith value (some (.Attribute o f pos')) pos.line X.env=pure false):PS X (.Assign [.Attribute o f pos'] value pos) (zi2 X.K ta tv f):=by
 intro pins s σ H D I h;refine plainObj_wpAny_Assign_Attribute (thn (hv pins s σ H _ I h) fun u s1 ⟨y,H1,I1,ry,q⟩=>thn (ha pins s1 σ H1 _ I1 q) fun ov s2 ⟨x,H2,I2,rx,a,C,dx,fs,ex,ea,c,n,l,q2⟩=>?_) hs
 subst ex;obtain rfl:ov=Value.ref a:=rx;exact Ag I2 ea c n l ry fun s3 I3=>⟨σ,_,I3,q2⟩
end
section
variable{X:Cx}{pins:List (Addr×Obj)}{σ:St}{H:Hp}{s:Shared}{A:Around}{E:Value->Shared->Prop}{Q:Value->Shared->Prop}{c:Value}{b:Bool}
inductive Mj(K:PySem.W.Frag)(H:Hp):V->Value->Prop where
 | non:Mj K H .non (.type "NoneType")
 | bl (x:Bool):Mj K H (.bl x) (.type "bool")
 | int (i:Int):Mj K H (.int i) (.type "int")
 | str (x:Str):Mj K H (.str x) (.type "str")
 | flt (x:UInt64):Mj K H (.flt x) (.type "float")
 | lst {a:Addr} {xs:List V} (e:H a=some (.lst xs)):Mj K H (.ref a) (.type "list")
 | frz {a:Addr} {o:Obj} {xs:List V} (e:H a=some (.frz o (.lst xs))):Mj K H (.ref a) (.type "list")
 | tup {a:Addr} {xs:List V} (e:H a=some (.tup xs)):Mj K H (.ref a) (.type "tuple")
 | dK {a:Addr} {kvs:List (Key×V)} (e:H a=some (.dK kvs)):Mj K H (.ref a) (.type "dict")
 | dT {a:Addr} {kvs:List (List Key×V)} (e:H a=some (.dT kvs)):Mj K H (.ref a) (.type "dict")
 | ins {a C dx:Addr} {fs:List (Str×V)} (e:H a=some (.ins C dx fs)) (cl:Cls K C) (ha:PySem.W.findIn K (.ref C) "__class__"=some (some (.builtin "object.__class__")))
   (hn:PySem.W.specialIn K (.builtin "object.__class__") "__get__"=some (some (.builtin "getset_descriptor.__get__"))) (htk:PySem.W.takesIn K (.builtin "object.__class__")=some true)
   (hm:PySem.W.mroIn K C (.type "object")=some true):Mj K H (.ref a) (.ref C)
theorem zby(I:Inv X pins σ H s)(rx:RelV x u)(ty:Mj X.K H x t)(e:PySem.W.kitOne X.K t c=some b)(h:∀ tk,Q (.bool b) { s with toks:=tk }) :
  wpAny (model X.prog X.w) A (call (.builtin "isinstance") [u,c]) Q E s:=by
 cases ty with
 | non=>cases (show u=Value.none from rx);exact PySem.W.kia_one PySem.W.kitx_none I.kIn True.intro e (fun z=>nomatch z) h
 | bl y=>cases (show u=Value.bool y from rx);exact PySem.W.kia_one PySem.W.kitx_bool I.kIn True.intro e (fun z=>nomatch z) h
 | int i=>obtain⟨t,q⟩:=(show ∃ t,u=Value.int i t from rx);cases q;exact PySem.W.kia_one PySem.W.kitx_int I.kIn True.intro e (fun z=>nomatch z) h
 | str y=>obtain⟨t,q⟩:=(show ∃ t,u=Value.str y t from rx);cases q;exact PySem.W.kia_one PySem.W.kitx_str I.kIn True.intro e (fun z=>nomatch z) h
 | flt y=>obtain⟨t,q⟩:=(show ∃ t,u=Value.float y t from rx);cases q;exact PySem.W.kia_one PySem.W.kitx_float I.kIn True.intro e (fun z=>nomatch z) h
 | @lst a xs ea =>
   cases (show u=Value.ref a from rx)
   obtain⟨_,_,n,_,h1⟩:=(show Y9 X.prog X.w H s.heap a (.lst xs) from I.hok a _ ea)
   exact PySem.W.kia_one PySem.W.kitx_list I.kIn ⟨_,h1,rfl⟩ e (fun z=>nomatch z) h
 | @frz a ob xs ea =>
   cases (show u=Value.ref a from rx)
   obtain⟨_,_,_,n,_,h1⟩:=(show Y9 X.prog X.w H s.heap a (.frz ob (.lst xs)) from I.hok a _ ea)
   exact PySem.W.kia_one PySem.W.kitx_list I.kIn ⟨_,h1,rfl⟩ e (fun z=>nomatch z) h
 | @tup a xs ea =>
   cases (show u=Value.ref a from rx)
   obtain⟨_,_,_,p⟩:=(show Y9 X.prog X.w H s.heap a (.tup xs) from I.hok a _ ea)
   obtain⟨o,h1,h2,_⟩:=p;exact PySem.W.kia_one PySem.W.kitx_tuple I.kIn ⟨o,h1,h2⟩ e (fun z=>nomatch z) h
 | @dK a kvs ea =>
   cases (show u=Value.ref a from rx)
   obtain⟨_,_,vs,_,p⟩:=(show Y9 X.prog X.w H s.heap a (.dK kvs) from I.hok a _ ea)
   obtain⟨o,es,ep,h1,h2,_⟩:=p;exact PySem.W.kia_one PySem.W.kitx_dict I.kIn ⟨o,h1,h2.1⟩ e (fun z=>nomatch z) h
 | @dT a kvs ea =>
   cases (show u=Value.ref a from rx)
   obtain⟨_,_,xs,_,o,es,ep,h1,h2,_⟩:=(show Y9 X.prog X.w H s.heap a (.dT kvs) from I.hok a _ ea)
   exact PySem.W.kia_one PySem.W.kitx_dict I.kIn ⟨o,h1,h2.1⟩ e (fun z=>nomatch z) h
 | @ins a C dx fs ea cl ha hn htk hm =>
   cases (show u=Value.ref a from rx)
   obtain⟨mA,O,_⟩:=Jc I.hok ea;obtain⟨od,J,_⟩:=O.look;exact PySem.W.kia_one (PySem.W.kitx_own (cl.get _) cl.hd ha hn htk hm) I.kIn J e (fun z=>nomatch z) h
end
structure W7(k:Nat)(A:Around):Prop where
 hd:A.handled=none
 dp:A.depth+3*k+5<recursionLimit
 un:A.units+16*k+200<cLine
theorem W7.mono(r:W7 k A)(h:j<=k):W7 j A:=⟨r.hd,by have:=r.dp;omega,by have:=r.un;omega⟩
theorem W7.deeper(r:W7 (k+1) A)(env:Env):W7 k (A.deeper env) :=
 ⟨r.hd,by have:=r.dp;show A.depth+1+3*k+5<_;omega,by have:=r.un;show A.units+3+16*k+200<_;omega⟩
theorem Ah{A:Around}{C:Addr}{us:List Value}{kw:List (Str×Value)}:(A.under (.builtin "type.__call__" ⟨.ref C :: us,kw⟩)).depth=A.depth+1:=by
 first|rfl|simp[Around.under,Code.weight,Code.isCreation,Code.isGuard,Code.isCaller,Code.frames,Code.isFrame,guardIds]
theorem Ai{A:Around}{C:Addr}{us:List Value}{kw:List (Str×Value)}:(A.under (.builtin "type.__call__" ⟨.ref C :: us,kw⟩)).units=A.units+1:=by
 first|rfl|simp[Around.under,Code.cUnits,Code.frames,Code.isFrame]
theorem W7.make(r:W7 (k+1) A)(C:Addr)(us:List Value)(kw:List (Str×Value)):W7 k (A.under (.builtin "type.__call__" ⟨.ref C :: us,kw⟩)) :=
 ⟨r.hd,by have:=r.dp;rw[Ah];omega,by have:=r.un;rw[Ai];omega⟩
theorem W7.depth(r:W7 k A):A.depth<recursionLimit:=by have:=r.dp;omega
theorem W7.units(r:W7 k A):A.units+64<cLine:=by have:=r.un;omega
def tNil:TA:=fun _ H Q=>Q [] H
def P8(ta:TE)(tr:TA):TA:=fun σ H Q=>ta σ H fun x H1=>tr σ H1 fun xs H2=>Q (x :: xs) H2
section
variable{X:Cx}{e:Expr}{es:List Expr}{te:TE}{t:TA}{pos:Pos}
theorem Zd:PA X [] tNil:=fun _ _ _ _ H Q I h=>Calls.spliced_nil ⟨[],H,I,.nil,h⟩
theorem Za(ha:PE X e te)(hr:PA X es t)(hs:starEach (e :: es) X.env=(false,eval e X.env) :: starEach es X.env:=by rfl):PA X (e :: es) (P8 te t):=by
 intro pos pins s σ H Q I h;rw[hs];show wpAny _ _ (spliced ((false,eval e X.env) :: backTo pos (starEach es X.env))) _ _ s;refine Calls.spliced_cons (thn (ha pins s σ H _ I h) fun u s1 ⟨x,H1,I1,r1,q1⟩=>?_)
 exact thn (hr pos pins s1 σ H1 _ I1 q1) fun us s2 ⟨xs,H2,I2,r2,q2⟩=>⟨x :: xs,H2,I2,.cons r1 r2,q2⟩
inductive zi3(Q:VK)(xs:List V)(H1:Hp):Prop where
 | mk(_:xs.length<=sizeLine)(_:∀ p,H1 p=none->Q (.ref p) (upd H1 p (.tup xs)))
def zj1(t:TA):TE:=fun σ H Q=>t σ H fun xs H1=>zi3 Q xs H1
inductive zi4(Q:VK)(xs:List V)(H1:Hp):Prop where
 | mk(_:xs.length<=sizeLine)(_:∀ p,H1 p=none->Q (.ref p) (upd H1 p (.lst xs)))
def tLst(t:TA):TE:=fun σ H Q=>t σ H fun xs H1=>zi4 Q xs H1
theorem Ya{x1}(h:PA X es t):PE X (.Tuple es x1 pos) (zj1 t):=by
 intro pins s σ H Q I hq;refine wpAny_Tuple_spliced (thn (h pos pins s σ H _ I hq) fun us s1 ⟨xs,H1,I1,r,z,q⟩=>⟨by rw[<- r.length];exact z,?_⟩)
 have hf:H1 s1.heap.objs.size=none:=I1.hok.fresh (zs3 _);refine⟨.ref s1.heap.objs.size,upd H1 s1.heap.objs.size (.tup xs),I1.laid (t':=s1.toks) (fun b u e=>Heap.get?_push_of_some _ e) (zs3 _) ?_,rfl,q _ hf⟩
 exact⟨z,us,r,⟨_,Heap.get?_push_size _ rfl,rfl,_,rfl⟩⟩
theorem Z5(h:PA X es t):PE X (.List es pos) (tLst t):=by
 intro pins s σ H Q I hq;refine wpAny_List_spliced (thn (h pos pins s σ H _ I hq) fun us s1 ⟨xs,H1,I1,r,z,q⟩=>⟨by rw[<- r.length];exact z,?_⟩)
 have hf:H1 s1.heap.objs.size=none:=I1.hok.fresh (zs3 _);refine⟨.ref s1.heap.objs.size,upd H1 s1.heap.objs.size (.lst xs),I1.laid (t':=s1.toks) (fun b u e=>Heap.get?_push_of_some _ e) (zs3 _) ?_,rfl,q _ hf⟩
 exact⟨z,us,0,r,Heap.get?_push_size _ rfl⟩
end
abbrev Sp:=List V->Hp->VK->XK->Prop
abbrev CXT:=List Env->Hp->Shared->XK->Value->Shared->Prop
structure Aj(P:Program)(w:World)(K:PySem.W.Frag)(mg:Str->Option Value)(base:Heap)(A:Around)(outer:List Env)(s:Shared)(H:Hp):Prop where
 frames:A.frames=some outer
 mod:Mod K mg base
 bs:∀ b o,base.get? b=some o->s.heap.get? b=some o/\H b=none
 bsz:base.objs.size<=s.heap.objs.size
 funs:s.heap.FunFrames base outer
 frf:∀ b∈frs outer,H b=none
 hok:HOk P w H s.heap
 bare:AllBare s.gens
def CE(outer:List Env)(P:Program)(w:World)(H:Hp)(s:Shared)(Q:VK)(u:Value)(s':Shared):Prop :=
 ∃ v H',s'.os=s.os/\AllBare s'.gens/\Un (frs outer) [] H H' s.heap s'.heap/\HOk P w H' s'.heap/\RelV v u/\Q v H'
def CR(CX:CXT)(outer:List Env)(P:Program)(w:World)(H:Hp)(s:Shared)(Q:VK)(E:XK)(r:Result)(s':Shared):Prop :=
 match r with
 | .ok (.ret u)=>CE outer P w H s Q u s'
 | .ok _=>False
 | .error e=>CX outer H s E e s'
structure FnOk(P:Program)(w:World)(K:PySem.W.Frag)(mg:Str->Option Value)(base:Heap)(CX:CXT)(k:Nat)(f:Addr)(fd:FuncData)(ps:List Str)(sp:Sp):Prop where
 len:∀ vs H Q E,sp vs H Q E->vs.length=ps.length
 run:∀ (A:Around) (outer:List Env) (s:Shared) (H:Hp) (args:Args) (us:List Value) (vs:List V) (Q:VK) (E:XK),W7 k A->Aj P w K mg base A outer s H->BindsTo s fd args (ps.zip us)->Vals vs us->sp vs H Q E ->
  codeAny (model P w) A (.call (.ref f) args) (CR CX outer P w H s Q E) s
theorem Aj.make{P:Program}{w:World}{K:PySem.W.Frag}{mg:Str->Option Value}{base:Heap}{A:Around}{outer:List Env}{s:Shared}{H:Hp}(e:Aj P w K mg base A outer s H)(C:Addr)(us:List Value)(kw:List (Str×Value)) :
  Aj P w K mg base (A.under (.builtin "type.__call__" ⟨.ref C :: us,kw⟩)) outer s H:=⟨by first|exact e.frames|(simpa [Around.under,Code.envs,Code.isFrame,pushEnvs] using e.frames),e.mod,e.bs,e.bsz,e.funs,e.frf,e.hok,e.bare⟩
section
variable{X:Cx}{pins:List (Addr×Obj)}{σ:St}{H:Hp}{s s':Shared}
theorem Inv.env0(I:Inv X pins σ H s):Aj X.prog X.w X.K X.mg X.base X.A X.stack s H :=
 ⟨I.ok.frames,I.ok.mod,I.bs,ztb I.ok.bsz I.sz,I.stack,I.stkFree,I.hok,I.bare⟩
theorem Inv.after(I:Inv X pins σ H s)(h:CE X.stack X.prog X.w H s Q u s'):EP X pins σ Q u s':=by
 obtain⟨v,H',os,bare,un,hok,r,q⟩:=h;obtain⟨hh,g,d,t,os'⟩:=s';obtain rfl:os'=s.os:=os;exact⟨v,H',I.call (h':=hh) (g':=g) (d':=d) (t':=t) (ch:=[]) un hok bare (fun b z=>absurd z (by simp)),r,q⟩
end
def Ca(sp:Sp)(dvs:List V)(E:XK)(t:TA):TE:=fun σ H Q=>t σ H fun vs H1=>sp (vs++dvs) H1 Q E
inductive zhi(C:Addr)(m:Str)(sp:Sp)(dvs:List V)(E:XK)(t:TA)(σ:L2.St)(Q:VK)(x:V)(H1:Hp):Prop where
 | mk(a)(dx)(fs)(_:x=.ref a)(_:H1 a=some (.ins C dx fs))(_:fs.lookup m=none)(_:t σ H1 fun vs H2=>sp (x :: (vs++dvs)) H2 Q E)
def Fh(C:Addr)(m:Str)(sp:Sp)(dvs:List V)(E:XK)(ta:TE)(t:TA):TE:=fun σ H Q=>ta σ H fun x H1=>zhi C m sp dvs E t σ Q x H1
def zav(C:Addr)(sp:Sp)(dvs:List V)(E:XK)(t:TA):TE:=fun σ H Q=>t σ H fun vs H1=>∀ x dx,H1 x=none->H1 dx=none->dx≠x ->
 sp (.ref x :: (vs++dvs)) (upd (upd H1 dx (.own x)) x (.ins C dx [])) (fun v H2=>v=.non/\Q (.ref x) H2) E
def Sz(K:PySem.W.Frag)(fd:FuncData)(ps:List Str)(ds:List Value):Prop :=
 ∀ (s:Shared) (us:List Value),K.In s.heap->(us++ds).length=ps.length->BindsTo s fd ⟨us,[]⟩ (ps.zip (us++ds))
theorem Sz.all{K:PySem.W.Frag}{fd:FuncData}{ps:List Str}(h:∀ us:List Value,us.length=ps.length->bindArgs fd ⟨us,[]⟩=pure (ps.zip us)):Sz K fd ps []:=fun s us _ hl=>by
 rw[zt4] at hl ⊢
 exact .of_eq (h us hl)
def Vc(CX:CXT)(X:Cx)(E:XK):Prop:=∀ (pins:List (Addr×Obj)) (σ:St) (H:Hp) (s:Shared) (e:Value) (s':Shared),Inv X pins σ H s->CX X.stack H s E e s'->X.xe e s'
section
variable{X:Cx}{CX:CXT}{k:Nat}{f C:Addr}{fd:FuncData}{ps:List Str}{sp:Sp}{dvs:List V}{ds:List Value}{E:XK}{x m:Str}{p pos apos:Pos}{e o:Expr}{es:List Expr}{ta:TE}{t:TA}
theorem Ak(F:FnOk X.prog X.w X.K X.mg X.base CX k f fd ps sp)(hr:W7 k X.A)(hb:Sz X.K fd ps ds)(hd:Vals dvs ds)(hx:Vc CX X E)
  (I:Inv X pins σ H s) (r:Vals vs us) (h:sp (vs++dvs) H Q E):wpAny (model X.prog X.w) X.A (call (.ref f) us) (EP X pins σ Q) X.xe s:=by
 have r2:Vals (vs++dvs) (us++ds):=r.append hd;have hl:(us++ds).length=ps.length:=by rw[<- r2.length];exact F.len _ _ _ _ h
 refine wpAny_call (codeAny_mono (F.run X.A X.stack s H ⟨us,[]⟩ (us++ds) (vs++dvs) Q E hr I.env0 (hb s us I.kIn hl) r2 h) fun r s' hq=>?_)
 cases r with
 | error e=>exact hx pins σ H s e s' I hq
 | ok fl =>
   cases fl with
   | ret u=>exact I.after hq
   | next=>exact False.elim hq
   | brk=>exact False.elim hq
   | cont=>exact False.elim hq
theorem zfo(F:FnOk X.prog X.w X.K X.mg X.base CX k f fd ps sp)(hr:W7 k X.A)(hg:Gl X x)(hm:X.mg x=some (.ref f))(hk:PySem.W.keepIn X.K (.ref f)=true)(hb:Sz X.K fd ps ds)(hd:Vals dvs ds)(hx:Vc CX X E)
  (ha:PA X (e :: es) t) (hdb:(x == ("__debug__":Str))=false:=by decide) (he:starEach (e :: es) X.env=(false,eval e X.env) :: starEach es X.env:=by rfl) (hpl:(backTo pos (starEach es X.env)).any (·.1)=false:=by rfl) :
  PE X (.Call (.Name x p) (e :: es) [] pos) (Ca sp dvs E t):=by
 intro pins s σ H Q I h;refine wpAny_Call_Name_kw (Nj I hg hm ?_ hdb);refine PySem.W.callWith_K (h₀:=X.base) I.ok.mod.kin hk (thn (ha pos pins s σ H _ I h) fun us s1 ⟨vs,H1,I1,r,q⟩=>⟨I1.kIn,?_⟩) he hpl
 exact Ak F hr hb hd hx I1 r q
theorem zfp(he:PE X o ta)(c:Cls X.K C)(hm:zdo X.K C m f)(F:FnOk X.prog X.w X.K X.mg X.base CX k f fd ps sp)(hr:W7 k X.A)(hb:Sz X.K fd ps ds)(hd:Vals dvs ds)(hx:Vc CX X E)(ha:PA X (e :: es) t)
  (hst:starEach (e :: es) X.env=(false,eval e X.env) :: starEach es X.env:=by rfl) (hpl:(backTo pos (starEach es X.env)).any (·.1)=false:=by rfl)
  (ht:eval (.Call (.Attribute o m apos) (e :: es) [] pos) X.env=(do
   let ov <- eval o X.env
   standAt apos.atName
   let (f,first) <- holding [ov] (getMethod ov m pl)
   callWith pos f first (backTo pos (starEach (e :: es) X.env)) (backToKw pos (keywordEach [] X.env))):=by rfl) :
  PE X (.Call (.Attribute o m apos) (e :: es) [] pos) (Fh C m sp dvs E ta t):=by
 intro pins s σ H Q I h;refine PySem.W.methodCall_KW (pl:=pl) (thn (he pins s σ H _ I h) fun u s1 ⟨x,H1,I1,rx,a,dx,fs,ex,ea,l,q⟩=>?_) ht
 subst ex;obtain rfl:u=Value.ref a:=rx;refine Jl I1 ea c hm l ?_;refine PySem.W.callWith_K (first:=[.ref a]) (h₀:=X.base) I.ok.mod.kin hm.kp (thn (ha pos pins s1 σ H1 _ I1 q) fun us s2 ⟨vs,H2,I2,r,q2⟩=>⟨I2.kIn,?_⟩) hst hpl
 exact Ak (us:=.ref a :: us) (vs:=.ref a :: vs) F hr hb hd hx I2 (.cons rfl r) q2
theorem zdp(he:PE X o ta)(c:Cls X.K C)(hm:zdo X.K C m f)(F:FnOk X.prog X.w X.K X.mg X.base CX k f fd ps sp)(hr:W7 k X.A)(hb:Sz X.K fd ps ds)(hd:Vals dvs ds)(hx:Vc CX X E)
  (ht:eval (.Call (.Attribute o m apos) [] [] pos) X.env=(do
   let ov <- eval o X.env
   standAt apos.atName
   let (f,first) <- holding [ov] (getMethod ov m pl)
   callWith pos f first (backTo pos (starEach [] X.env)) (backToKw pos (keywordEach [] X.env))):=by rfl) :
  PE X (.Call (.Attribute o m apos) [] [] pos) (Fh C m sp dvs E ta tNil):=by
 intro pins s σ H Q I h;refine PySem.W.methodCall_KW (pl:=pl) (thn (he pins s σ H _ I h) fun u s1 ⟨x,H1,I1,rx,a,dx,fs,ex,ea,l,q⟩=>?_) ht
 subst ex;obtain rfl:u=Value.ref a:=rx;refine Jl I1 ea c hm l ?_;exact PySem.W.callWith_K0 (first:=[.ref a]) I1.kIn hm.kp (Ak (us:=[.ref a]) (vs:=[.ref a]) F hr hb hd hx I1 (.cons rfl .nil) q)
structure Mk(K:PySem.W.Frag)(C f:Addr):Prop where
 makes:PySem.W.makesIn K C=true
 init:PySem.W.findIn K (.ref C) "__init__"=some (some (.ref f))
 fn:PySem.W.isFn K (.ref f)=true
 kp:PySem.W.keepIn K (.ref C)=true
theorem Cb(M:Mk X.K C f)(F:FnOk X.prog X.w X.K X.mg X.base CX k f fd ps sp)(hr:W7 (k+1) X.A)(hb:Sz X.K fd ps ds)(hd:Vals dvs ds)
  (hx:Vc CX X E) (I:Inv X pins σ H s) (r:Vals vs us)
  (h:∀ x dx,H x=none->H dx=none->dx≠x->sp (.ref x :: (vs++dvs)) (upd (upd H dx (.own x)) x (.ins C dx [])) (fun v H2=>v=.non/\Q (.ref x) H2) E) :
  wpAny (model X.prog X.w) X.A (call (.ref C) us) (EP X pins σ Q) X.xe s:=by
 have hq:=h (s.heap.objs.size+1) s.heap.objs.size (I.hok.fresh (Nat.le_succ _)) (I.hok.fresh (zs3 _)) (ztk (zux _));have I2:=Inv.made (C:=C) I;have r2:Vals (V.ref (s.heap.objs.size+1) :: (vs++dvs)) (Value.ref (s.heap.objs.size+1) :: (us++ds)):=.cons rfl (r.append hd);have hl:(Value.ref (s.heap.objs.size+1) :: us++ds).length=ps.length:=by
  have e:=r2.length;rw[F.len _ _ _ _ hq] at e
  exact e.symm
 refine wpAny_call (zdn (f:=f) I.kIn M.makes M.init (beq_iff_eq.mp M.fn) (codeAny_mono (F.run _ X.stack _ _ ⟨Value.ref (s.heap.objs.size+1) :: us,[]⟩ (Value.ref (s.heap.objs.size+1) :: (us++ds)) _ _ E (hr.make C us [])
  (I2.env0.make C us []) (hb _ (Value.ref (s.heap.objs.size+1) :: us) I2.kIn hl) r2 hq) fun r s' hq'=>?_))
 cases r with
 | error e=>exact hx pins σ _ _ e s' I2 hq'
 | ok fl =>
   cases fl with
   | ret u =>
     obtain⟨v,H',I3,rv,ev,q3⟩:=I2.after hq';subst ev;exact⟨rv,⟨V.ref (s.heap.objs.size+1),H',I3,rfl,q3⟩⟩
   | next=>exact False.elim hq'
   | brk=>exact False.elim hq'
   | cont=>exact False.elim hq'
theorem zfq(M:Mk X.K C f)(F:FnOk X.prog X.w X.K X.mg X.base CX k f fd ps sp)(hr:W7 (k+1) X.A)(hg:Gl X x)(hm:X.mg x=some (.ref C))(hb:Sz X.K fd ps ds)(hd:Vals dvs ds)(hx:Vc CX X E)
  (ha:PA X (e :: es) t) (hdb:(x == ("__debug__":Str))=false:=by decide) (he:starEach (e :: es) X.env=(false,eval e X.env) :: starEach es X.env:=by rfl) (hpl:(backTo pos (starEach es X.env)).any (·.1)=false:=by rfl) :
  PE X (.Call (.Name x p) (e :: es) [] pos) (zav C sp dvs E t):=by
 intro pins s σ H Q I h;refine wpAny_Call_Name_kw (Nj I hg hm ?_ hdb);refine PySem.W.callWith_K (h₀:=X.base) I.ok.mod.kin M.kp (thn (ha pos pins s σ H _ I h) fun us s1 ⟨vs,H1,I1,r,q⟩=>⟨I1.kIn,?_⟩) he hpl
 exact Cb M F hr hb hd hx I1 r q
theorem zdq(M:Mk X.K C f)(F:FnOk X.prog X.w X.K X.mg X.base CX k f fd ps sp)(hr:W7 (k+1) X.A)(hg:Gl X x)(hm:X.mg x=some (.ref C))(hb:Sz X.K fd ps ds)(hd:Vals dvs ds)(hx:Vc CX X E)
  (hdb:(x == ("__debug__":Str))=false:=by decide):PE X (.Call (.Name x p) [] [] pos) (zav C sp dvs E tNil):=by
 intro pins s σ H Q I h;refine wpAny_Call_Name_kw (Nj I hg hm ?_ hdb);exact PySem.W.callWith_K0 I.kIn M.kp (Cb (us:=[]) M F hr hb hd hx I .nil h)
end
def PK(X:Cx)(kws:List Keyword)(t:TA):Prop :=
 ∀ (pos:Pos) (pins:List (Addr×Obj)) (s:Shared) (σ:St) (H:Hp) (Q:List V->Hp->Prop),Inv X pins σ H s->t σ H Q->wpAny (model X.prog X.w) X.A (evalAll ((backToKw pos (keywordEach kws X.env)).map (·.2))) (AP X pins σ Q) X.xe s
section
variable{X:Cx}{CX:CXT}{k:Nat}{f C:Addr}{fd:FuncData}{ps ks:List Str}{sp:Sp}{E:XK}{x m:Str}{p pos apos kpos:Pos}{e o:Expr}{es:List Expr}{kws:List Keyword}{te ta:TE}{t tk:TA}{nm:Option Str}
theorem zhj:PK X [] tNil:=fun _ _ _ _ H Q I h=>wpAny_evalAll_nil ⟨[],H,I,.nil,h⟩
theorem zfr(ha:PE X e te)(hr:PK X kws t):PK X (⟨nm,e,kpos⟩ :: kws) (P8 te t):=by
 intro pos pins s σ H Q I h;show wpAny _ _ (evalAll ((do let v <- eval e X.env;standAt pos;pure v) :: (backToKw pos (keywordEach kws X.env)).map (·.2))) _ _ s
 refine wpAny_evalAll_cons (wpAny_bind (thn (ha pins s σ H _ I h) fun u s1 ⟨x,H1,I1,r1,q1⟩=>wpAny_bind (wpAny_standAt (wpAny_pure ?_))))
 exact thn (hr pos pins s1 σ H1 _ I1 q1) fun us s2 ⟨xs,H2,I2,r2,q2⟩=>⟨x :: xs,H2,I2,.cons r1 r2,q2⟩
structure zj2(K:PySem.W.Frag)(fd:FuncData)(ps ks:List Str)(g:List Value->List Value->List Value)(gV:List V->List V->List V):Prop where
 to:∀ (s:Shared) (us ws:List Value),K.In s.heap->(g us ws).length=ps.length->BindsTo s fd ⟨us,ks.zip ws⟩ (ps.zip (g us ws))
 rel:∀ {vs:List V} {us:List Value} {zs:List V} {ws:List Value},Vals vs us->Vals zs ws->Vals (gV vs zs) (g us ws)
variable{g:List Value->List Value->List Value}{gV:List V->List V->List V}
end
structure Zl(N P:List Str)(sc:Scope):Prop where
 kind:sc.kind=.function
 co:sc.isCoroutine=false
 gen:sc.isGenerator=false
 nd:N.Nodup
 pre:N.take P.length=P
 par:∀ x∈P,sc.names.lookup x=some .local\/sc.names.lookup x=some .cell
 nofree:∀ y∈sc.names,y.2≠.free
theorem Fi{kindOf:Str->Option NameKind}{x:Str}:∀ {binds:List (Str×Value)} {m:Str->Option Value},(∀ v,(x,v)∉binds)->bindL kindOf binds m x=m x
 | [],_,_=>rfl
 | (n,v) :: r,m,h=>by
   unfold bindL;rw[Fi fun w hw=>h w (ztc _ hw)]
   split
   ·have:x≠n:=by rintro rfl;exact h v zto
    simp[this]
   ·rfl
theorem Fj{kindOf:Str->Option NameKind}{x:Str}:∀ {binds:List (Str×Value)} {m:Str->Option Value},(∀ v,(x,v)∉binds)->bindC kindOf binds m x=m x
 | [],_,_=>rfl
 | (n,v) :: r,m,h=>by
   unfold bindC;rw[Fj fun w hw=>h w (ztc _ hw)]
   split
   ·rfl
   ·have:x≠n:=by rintro rfl;exact h v zto
    simp[this]
theorem Fl{kindOf:Str->Option NameKind}{x:Str}{v:Value}:∀ {P:List Str} {vs:List Value} {i:Nat} {m:Str->Option Value},P.Nodup->P[i]?=some x->vs[i]?=some v->kindOf x=some .local ->
  bindL kindOf (P.zip vs) m x=some v
 | [],_,_,_,_,h,_,_=>by simp at h
 | _ :: _,[],_,_,_,_,h,_=>by simp at h
 | p :: P,w :: vs,0,m,nd,h1,h2,hk=>by
   simp at h1 h2;subst h1;subst h2
   show bindL kindOf ((p,w) :: P.zip vs) m p=_;unfold bindL;rw[Fi fun v hv=>(ztn.mp nd).1 (List.of_mem_zip hv).1,if_pos hk]
   simp
 | p :: P,w :: vs,i+1,m,nd,h1,h2,hk=>by
   show bindL kindOf ((p,w) :: P.zip vs) m x=_;unfold bindL;exact Fl (i:=i) (ztn.mp nd).2 (by simpa using h1) (by simpa using h2) hk
theorem Fm{kindOf:Str->Option NameKind}{x:Str}{v:Value}:∀ {P:List Str} {vs:List Value} {i:Nat} {m:Str->Option Value},P.Nodup->P[i]?=some x->vs[i]?=some v->kindOf x≠some .local ->
  bindC kindOf (P.zip vs) m x=some v
 | [],_,_,_,_,h,_,_=>by simp at h
 | _ :: _,[],_,_,_,_,h,_=>by simp at h
 | p :: P,w :: vs,0,m,nd,h1,h2,hk=>by
   simp at h1 h2;subst h1;subst h2
   show bindC kindOf ((p,w) :: P.zip vs) m p=_;unfold bindC;rw[Fj fun v hv=>(ztn.mp nd).1 (List.of_mem_zip hv).1,if_neg hk]
   simp
 | p :: P,w :: vs,i+1,m,nd,h1,h2,hk=>by
   show bindC kindOf ((p,w) :: P.zip vs) m x=_;unfold bindC;exact Fm (i:=i) (ztn.mp nd).2 (by simpa using h1) (by simpa using h2) hk
def Nl(N:List Str)(vs:List V):St:=vs.map some++List.replicate (N.length-vs.length) none
def cxOf(CX:CXT)(P:Program)(w:World)(K:PySem.W.Frag)(mg:Str->Option Value)(base:Heap)(N:List Str)(qual:Str)(scope:Scope)(f:Addr)(cd:Value)(A:Around)(outer:List Env)(s:Shared)(H:Hp)(E:XK):Cx where
 prog:=P
 w:=w
 K:=K
 mg:=mg
 base:=base
 A:=A.deeper (envOfC qual scope s.heap.objs.size f cd)
 N:=N
 s₀:=s
 H₀:=H
 env:=envOfC qual scope s.heap.objs.size f cd
 outer:=outer
 stack:=envOfC qual scope s.heap.objs.size f cd :: outer
 ex:=[]
 calm:=true
 fn:=fun _=>true
 pn:=[]
 xe:=fun e s'=>wpAny (model P w) (A.deeper (envOfC qual scope s.heap.objs.size f cd)) (leaving (envOfC qual scope s.heap.objs.size f cd) e) (fun _ s''=>CX outer H s E e s'') (fun e' s''=>CX outer H s E e' s'') s'
theorem Cc{sc:Scope}{n:Nat}{x:Str}(h:sc.names.lookup x=some .cell):∃ c,(cellsFrom n sc.names []).lookup x=some c:=by
 have q:=PySem.W.cellsFrom_some sc.names n [] (.inl h);exact zuc.mp q
theorem zbz{CX:CXT}{P:Program}{w:World}{K:PySem.W.Frag}{mg:Str->Option Value}{base:Heap}{N ps:List Str}{qual:Str}{scope:Scope}{f:Addr}{cd:Value}{A:Around}{outer:List Env}{s s1:Shared}{H:Hp}{E:XK}{us:List Value}{vs:List V}
  (S:Zl N ps scope) (hd:A.handled=none) (e0:Aj P w K mg base A outer s H) (hl:vs.length=ps.length) (r:Vals vs us)
  (x:InCallC s s.heap.objs.size (bindL (envOfC qual scope s.heap.objs.size f cd).kindOf (ps.zip us) fun _=>none) (cellsFrom (s.heap.objs.size+1) scope.names []) (bindC (envOfC qual scope s.heap.objs.size f cd).kindOf (ps.zip us) fun _=>none) s1) :
  Inv (cxOf CX P w K mg base N qual scope f cd A outer s H E) [] (Nl N vs) H s1:=by
 have hpl:ps.length<=N.length:=by have:=congrArg List.length S.pre;rw[zuy] at this;omega
 obtain⟨h1,tk,rfl,hk⟩:=x.done;have noA:∀ b:Addr,b∉(cxOf CX P w K mg base N qual scope f cd A outer s H E).ex:=fun b z=>absurd (show b∈([]:List Addr) from z) (by simp)
 refine⟨⟨e0.mod,S.kind,rfl,rfl,zs3 _,fun y z c h1 h2=>?_,fun y hy=>?_,fun y c _ h=>?_,fun _=>hd,Around.frames_deeper e0.frames,.inr ⟨rfl,rfl⟩,fun b z=>absurd z (noA b),e0.bs,e0.bsz,fun b _ _=>noA b,fun b z=>absurd z (noA b),e0.funs,e0.frf⟩,
  rfl,e0.bare,Un.kept hk,⟨_,x.toInCall.ns,fun i y v h1 h2 h3=>?_⟩,fun y c h=>⟨_,x.cell y c h⟩,e0.hok.fresh (zs3 _),fun y c h=>?_,fun p hp=>absurd (show p∈([]:List (Addr×Obj)) from hp) (by simp),e0.hok.kept hk,?_⟩
 ·exact name_of_addr x.apart (PySem.mem_of_lookup h1) (PySem.mem_of_lookup h2)
 ·have hy:scope.names.lookup y=some .cell\/scope.names.lookup y=some .free:=hy
  rcases hy with hy|hy
  ·exact Cc hy
  ·exact absurd rfl (S.nofree _ (PySem.mem_of_lookup hy))
 ·exact Nat.le_of_lt (x.above y c (PySem.mem_of_lookup h))
 ·have h2:=h2.resolve_right (Wv _)
  have hi:i<vs.length:=by
   unfold Nl at h2
   by_cases hi:i<vs.length
   ·exact hi
   ·rw[zts (by simpa using hi)] at h2
    rw[List.getElem?_replicate] at h2
    split at h2<;>cases h2
  have ha:vs[i]?=some v:=by
   unfold Nl at h2
   rw[ztt (by simpa using hi),zs0] at h2
   cases e:vs[i]? with
   | none=>rw[e] at h2;cases h2
   | some a=>rw[e] at h2;cases h2;rfl
  obtain⟨u,hu,rv⟩:=r.get ha;have hp:ps[i]?=some y:=by
   rw[<- S.pre,List.getElem?_take_of_lt (by omega)];exact h1
  have ndP:ps.Nodup:=by rw[<- S.pre];exact S.nd.sublist (List.take_sublist _ _)
  refine⟨u,rv,?_⟩;rcases S.par y (zs5 hp) with k|k
  ·exact .inl ⟨k,Fl ndP hp hu k⟩
  ·obtain⟨c,e⟩:=Cc (n:=s.heap.objs.size+1) k
   refine .inr ⟨.inl k,c,e,?_⟩;have q:=x.cell y c e;rw[Fm ndP hp hu (by show scope.names.lookup y≠_;rw[k];decide)] at q
   exact q
 ·exact e0.hok.fresh (Nat.le_of_lt (x.above y c (PySem.mem_of_lookup h)))
 ·unfold Nl
  show _=N.length;rw[zsw,zst,List.length_replicate];omega
theorem zi5{CX:CXT}{P:Program}{w:World}{K:PySem.W.Frag}{mg:Str->Option Value}{base:Heap}{k:Nat}{f:Addr}{name qual:Str}{params:Arguments}{body:List Stmt}{scope:Scope}{dV kV doc pm cdv ct oc:Value}{an od:Option Addr}
  {osl:Array (Option Value)} {N ps:List Str} {sp:Sp} (lk:K.lookup f=some ⟨oc,od,.func (PySem.W.fnOf name qual params body scope dV kV doc pm an cdv ct),osl⟩) (hcd:PySem.W.codeIn K cdv qual=true) (S:Zl N ps scope)
  (len:∀ vs H Q E,sp vs H Q E->vs.length=ps.length)
  (hbody:∀ (A:Around) (outer:List Env) (s:Shared) (H:Hp) (vs:List V) (Q:VK) (E:XK),W7 k (A.deeper (envOfC qual scope s.heap.objs.size f cdv))->sp vs H Q E ->
   ∃ t,PSs (cxOf CX P w K mg base N qual scope f cdv A outer s H E) body t/\t { nx:=fun _ H'=>Q .non H',rt:=Q } (Nl N vs) H) :
  FnOk P w K mg base CX (k+1) f (PySem.W.fnOf name qual params body scope dV kV doc pm an cdv ct) ps sp:=by
 refine⟨len,fun A outer s H args us vs Q E hr e0 hb r hsp=>?_⟩
 have hl:=len _ _ _ _ hsp;have KX:K.In s.heap:=e0.mod.kin.keeps fun b o e=>(e0.bs b o e).1
 have lim:s.heap.NoLimit:=e0.mod.nolimit.keeps fun b o e=>(e0.bs b o e).1
 have hkind:∀ y∈ps.zip us,scope.names.lookup y.1=some .local\/(scope.names.lookup y.1=some .cell/\((cellsFrom (s.heap.objs.size+1) scope.names []).lookup y.1).isSome=true):=fun ⟨n,v⟩ hy=>by
  rcases S.par n (List.of_mem_zip hy).1 with q|q
  ·exact .inl q
  ·exact .inr ⟨q,PySem.W.cellsFrom_some _ _ _ (.inl q)⟩
 refine codeAny_call_function hr.depth (KX _ _ lk) rfl S.co S.gen rfl (PySem.W.codeRec_of KX hcd) (hb _ _ _ _ ?_);refine wpAny_newFunctionEnv_cells S.kind hkind fun env he s1 x=>?_
 subst he;refine⟨lim.keeps x.toInCall.keep,codeAny_func ?_⟩;obtain⟨t,ht,hq⟩:=hbody A outer s H vs Q E (hr.deeper _) hsp;have I:Inv (cxOf CX P w K mg base N qual scope f cdv A outer s H E) [] (Nl N vs) H s1:=zbz S hr.hd e0 hl r x;refine wpAny_mono (ht [] s1 (Nl N vs) H _ I hq) (fun fl s' hs=>?_) fun e s' hs=>hs
 have fin:∀ {σ':St} {H':Hp} {v:V} {u:Value},Inv (cxOf CX P w K mg base N qual scope f cdv A outer s H E) [] σ' H' s'->RelV v u->Q v H'->CE outer P w H s Q u s' :=
  fun {σ' H' v u} J rv q=>⟨v,H',J.os,J.bare,J.base,J.hok,rv,q⟩
 cases fl with
 | ret u =>
   obtain⟨v,σ',H',J,rv,q⟩:=hs;exact fin J rv q
 | next =>
   obtain⟨σ',H',J,q⟩:=hs;exact fin (v:=V.non) (u:=Value.none) J rfl q
 | brk =>
   obtain⟨_,_,_,q⟩:=hs;exact False.elim q
 | cont =>
   obtain⟨_,_,_,q⟩:=hs;exact False.elim q
section
variable{X:Cx}{x:Str}{p pos:Pos}{e:Expr}{es:List Expr}{t:TA}{id T:String}{r:List V->Hp->VK->Prop}
def tCB(r:List V->Hp->VK->Prop)(t:TA):TE:=fun σ H Q=>t σ H fun vs H1=>r vs H1 Q
theorem Zo(hc:Vo X (.builtin id) r)(hg:Gl X x)(hm:X.mg x=none)(hv:bootBuiltins x=some (.builtin id))(ha:PA X (e :: es) t)(hn:x≠"__name__":=by decide)(hdb:(x == ("__debug__":Str))=false:=by decide)
  (he:starEach (e :: es) X.env=(false,eval e X.env) :: starEach es X.env:=by rfl) (hpl:(backTo pos (starEach es X.env)).any (·.1)=false:=by rfl):PE X (.Call (.Name x p) (e :: es) [] pos) (tCB r t):=by
 intro pins s σ H Q I h;refine wpAny_Call_Name_kw (Qf I hg hm hv ?_ hn hdb);exact PyProof.Rows.callWith_builtin1 (thn (ha pos pins s σ H _ I h) fun us s1 ⟨vs,H1,I1,r1,q1⟩=>hc pins s1 σ H1 vs us Q I1 r1 q1) he hpl
theorem Ys(hc:Vo X (.type T) r)(hg:Gl X x)(hm:X.mg x=none)(hv:bootBuiltins x=some (.type T))(ha:PA X (e :: es) t)(hn:x≠"__name__":=by decide)(hdb:(x == ("__debug__":Str))=false:=by decide)
  (he:starEach (e :: es) X.env=(false,eval e X.env) :: starEach es X.env:=by rfl) (hpl:(backTo pos (starEach es X.env)).any (·.1)=false:=by rfl):PE X (.Call (.Name x p) (e :: es) [] pos) (tCB r t):=by
 intro pins s σ H Q I h;refine wpAny_Call_Name_kw (Qf I hg hm hv ?_ hn hdb);exact PyProof.Rows.callWith_type1 (thn (ha pos pins s σ H _ I h) fun us s1 ⟨vs,H1,I1,r1,q1⟩=>hc pins s1 σ H1 vs us Q I1 r1 q1) he hpl
end
section
variable{κ:Type}[DecidableEq κ]
def valV(kvs:List (κ×V))(k:κ):Option V:=(kvs.find? fun kv=>decide (kv.1=k)).map (·.2)
def putK(kvs:List (κ×V))(k:κ)(v:V):List (κ×V) :=
 if (kvs.any fun kv=>decide (kv.1=k))=true then kvs.map (fun kv=>if kv.1=k then (kv.1,v) else kv) else kvs++[(k,v)]
def Wb(kvs:List (κ×V))(k:κ):List (κ×V):=kvs.filter fun kv=>decide (kv.1≠k)
theorem zdr:valV ([]:List (κ×V)) k=none:=rfl
theorem Xc{p:κ×V}{r:List (κ×V)}{k:κ}(e:p.1=k):valV (p :: r) k=some p.2:=by simp[valV,zut,e]
theorem Yy{p:κ×V}{r:List (κ×V)}{k:κ}(e:¬ p.1=k):valV (p :: r) k=valV r k:=by simp[valV,zut,e]
theorem S4(k:κ):∀ kvs:List (κ×V),(kvs.any fun kv=>decide (kv.1=k))=(valV kvs k).isSome
 | []=>rfl
 | p :: r=>by
   rw[zuv];by_cases e:p.1=k
   ·simp only[Xc e,zsy e,Bool.true_or,Option.isSome_some]
   ·rw[Yy e,zs8 e,Bool.false_or];exact S4 k r
theorem Cd(k j:κ)(y:V):∀ kvs:List (κ×V),valV (kvs.map fun kv=>if kv.1=k then (kv.1,y) else kv) j=(valV kvs j).map fun x=>if j=k then y else x
 | []=>rfl
 | p :: r=>by
   have ih:=Cd k j y r;rw[zs4];by_cases h:p.1=k
   ·rw[if_pos h]
    by_cases e:p.1=j
    ·rw[Xc (p:=(p.1,y)) e,Xc e,zt5,if_pos (e.symm.trans h)]
    ·rw[Yy (p:=(p.1,y)) e,Yy e,ih]
   ·rw[if_neg h]
    by_cases e:p.1=j
    ·rw[Xc (p:=p) e,Xc e,zt5,if_neg (fun z=>h (e.trans z))]
    ·rw[Yy (p:=p) e,Yy e,ih]
theorem Fn(k j:κ)(y:V):∀ kvs:List (κ×V),valV kvs k=none->valV (kvs++[(k,y)]) j=if j=k then some y else valV kvs j
 | [],_=>by
   by_cases e:k=j
   ·rw[if_pos e.symm];exact Xc (p:=(k,y)) e
   ·rw[if_neg (fun z=>e z.symm)];exact Yy (p:=(k,y)) e
 | p :: r,hn=>by
   rw[List.cons_append];have hk:¬ p.1=k:=fun z=>by rw[Xc z] at hn;cases hn
   rw[Yy hk] at hn
   have ih:=Fn k j y r hn;by_cases e:p.1=j
   ·rw[Xc e,Xc e,if_neg (fun z=>hk (e.trans z))]
   ·rw[Yy e,Yy e,ih]
theorem Vp(kvs:List (κ×V))(k j:κ)(y:V):valV (putK kvs k y) j=if j=k then some y else valV kvs j:=by
 unfold putK;by_cases a:(kvs.any fun kv=>decide (kv.1=k))=true
 ·rw[if_pos a,Cd]
  rw[S4] at a
  by_cases e:j=k
  ·obtain⟨x,hx⟩:=zuc.mp a
   rw[if_pos e,e,hx,zt5,if_pos rfl]
  ·rw[if_neg e]
   cases valV kvs j with
   | none=>rfl
   | some x=>rw[zt5,if_neg e]
 ·rw[if_neg a]
  refine Fn k j y kvs ?_;rw[S4] at a
  cases q:valV kvs k with
  | none=>rfl
  | some x=>rw[q] at a;exact(a rfl).elim
theorem Xi(kvs:List (κ×V))(k:κ)(v:V):(putK kvs k v).length<=kvs.length+1:=by
 unfold putK;split
 ·rw[zst];omega
 ·rw[zsw,zti,List.length_nil];omega
theorem Ce{kvs:List (κ×V)}{k:κ}(v:V)(h:valV kvs k=none):putK kvs k v=kvs++[(k,v)]:=by
 unfold putK;rw[S4,h];exact if_neg (by decide)
theorem RelO.isSome_eq(r:RelO o u):o.isSome=u.isSome:=by
 cases o with
 | none=>cases u with
   | none=>rfl
   | some _=>exact(show False from r).elim
 | some _=>cases u with
   | none=>exact(show False from r).elim
   | some _=>rfl
theorem RelO.getD(r:RelO o u)(rd:RelV d d'):RelV (o.getD d) (u.getD d'):=by
 cases o with
 | none=>cases u with
   | none=>exact rd
   | some _=>exact(show False from r).elim
 | some _=>cases u with
   | none=>exact(show False from r).elim
   | some _=>exact r
theorem KV.val{kvs:List (κ×V)}{vs:List (κ×Value)}(r:KV kvs vs)(k:κ):RelO (valV kvs k) (valueAt vs k):=by
 unfold KV at r
 induction r with
 | nil=>exact True.intro
 | @cons p q ps qs h t ih =>
   obtain⟨h1,h2⟩:=h;by_cases e:p.1=k
   ·have e':q.1=k:=h1.symm.trans e
    have b:valueAt (q :: qs) k=some q.2:=by simp[valueAt,zut,e']
    rw[Xc e,b];exact h2
   ·have e':¬ q.1=k:=fun z=>e (h1.trans z)
    have b:valueAt (q :: qs) k=valueAt qs k:=by simp[valueAt,zut,e']
    rw[Yy e,b];exact ih
theorem KV.any(r:KV kvs vs)(k:κ):(kvs.any fun kv=>decide (kv.1=k))=vs.any fun kv=>decide (kv.1=k):=by
 unfold KV at r
 induction r with
 | nil=>rfl
 | cons h t ih=>rw[zuv,zuv,ih,h.1]
theorem KV.repl(r:KV kvs vs)(k:κ)(ry:RelV y u) :
  KV (kvs.map fun kv=>if kv.1=k then (kv.1,y) else kv) (vs.map fun kv=>if kv.1=k then (kv.1,u) else kv):=by
 unfold KV at r ⊢
 induction r with
 | nil=>exact .nil
 | @cons p q ps qs h t ih =>
   rw[zs4,zs4];refine .cons ?_ ih;obtain⟨h1,h2⟩:=h;by_cases e:p.1=k
   ·rw[if_pos e,if_pos (h1.symm.trans e)];exact⟨h1,ry⟩
   ·rw[if_neg e,if_neg (fun z=>e (h1.trans z))];exact⟨h1,h2⟩
theorem KV.put(r:KV kvs vs)(k:κ)(ry:RelV y u):KV (putK kvs k y) (stored vs k u):=by
 unfold putK stored;rw[r.any k];by_cases e:(vs.any fun kv=>decide (kv.1=k))=true
 ·rw[if_pos e,if_pos e];exact r.repl k ry
 ·rw[if_neg e,if_neg e];exact Paired.snoc r ⟨rfl,ry⟩
theorem KV.drop(r:KV kvs vs)(k:κ):KV (Wb kvs k) (without vs k):=by
 unfold KV at r ⊢
 unfold Wb without
 induction r with
 | nil=>exact .nil
 | @cons p q ps qs h t ih =>
   obtain⟨h1,h2⟩:=h;rw[zue,zue];by_cases e:p.1=k
   ·have a:¬ decide (p.1≠k)=true:=by simp[e]
    have b:¬ decide (q.1≠k)=true:=by simp[h1.symm.trans e]
    rw[if_neg a,if_neg b];exact ih
   ·have e':¬ q.1=k:=fun z=>e (h1.trans z)
    have a:decide (p.1≠k)=true:=by simp[e]
    have b:decide (q.1≠k)=true:=by simp[e']
    rw[if_pos a,if_pos b];exact .cons ⟨h1,h2⟩ ih
theorem KV.keys{kvs:List (κ×V)}{vs:List (κ×Value)}(r:KV kvs vs):kvs.map (·.1)=vs.map (·.1):=by
 unfold KV at r
 induction r with
 | nil=>rfl
 | cons h t ih=>rw[zs4,zs4,ih,h.1]
theorem KV.length(r:KV kvs vs):kvs.length=vs.length:=Paired.length r
theorem Cf(kvs:List (κ×V))(k:κ):(Wb kvs k).length<=kvs.length:=ztw _ _
end
theorem Lz(r:RelV (kV k) u):(Yp P w).is k u=true:=by
 cases k with
 | inl i=>obtain⟨t,e⟩:=(show ∃ t,u=Value.int i t from r);subst e;exact Dz P w i t
 | inr x=>obtain⟨t,e⟩:=(show ∃ t,u=Value.str x t from r);subst e;exact D1 P w x t
theorem Fo:∀ {ks:List Key} {us:List Value},Vals (ks.map kV) us->ItemsAre (Yp P w) ks us
 | [],_,r=>by rw[List.map_nil] at r;cases r;exact .nil
 | k :: ks,_,r=>by
   rw[zs4] at r
   cases r with
   | cons h t=>exact .cons (Lz h) (Fo t)
abbrev KT(H:Hp):List (List Key×V)->List (List Key×Addr×Value)->Prop:=Paired fun p q=>p.1=q.1/\H q.2.1=some (.tup (p.1.map kV))/\RelV p.2 q.2.2
theorem KT.val{H:Hp}{kvs:List (List Key×V)}{xs:List (List Key×Addr×Value)}(r:KT H kvs xs)(k:List Key):RelO (valV kvs k) ((atKey xs k).map (·.2)):=by
 induction r with
 | nil=>exact True.intro
 | @cons p q ps qs h t ih =>
   obtain⟨h1,_,h2⟩:=h;by_cases e:p.1=k
   ·have e':q.1=k:=h1.symm.trans e
    have b:atKey (q :: qs) k=some q.2:=by simp[atKey,zut,e']
    rw[Xc e,b];exact h2
   ·have e':¬ q.1=k:=fun z=>e (h1.trans z)
    have b:atKey (q :: qs) k=atKey qs k:=by simp[atKey,zut,e']
    rw[Yy e,b];exact ih
theorem KT.repl(r:KT H kvs xs)(k:List Key)(ry:RelV y u) :
  KT H (kvs.map fun kv=>if kv.1=k then (kv.1,y) else kv) (xs.map (putAt k u)):=by
 induction r with
 | nil=>exact .nil
 | @cons p q ps qs h t ih =>
   rw[zs4,zs4];refine .cons ?_ ih;obtain⟨h1,h2,h3⟩:=h;unfold putAt;by_cases e:p.1=k
   ·rw[if_pos e,if_pos (h1.symm.trans e)];exact⟨h1,h2,ry⟩
   ·rw[if_neg e,if_neg (fun z=>e (h1.trans z))];exact⟨h1,h2,h3⟩
theorem KT.put(r:KT H kvs xs)(k:List Key)(hb:H b=some (.tup (k.map kV)))(ry:RelV y u) :
  KT H (putK kvs k y) (storedH xs k b u):=by
 have e:(kvs.any fun kv=>decide (kv.1=k))=(atKey xs k).isSome:=by
  rw[S4,(r.val k).isSome_eq,Option.isSome_map]
 unfold putK storedH;rw[e];by_cases q:(atKey xs k).isSome=true
 ·rw[if_pos q,if_pos q];exact r.repl k ry
 ·rw[if_neg q,if_neg q];exact Paired.snoc r ⟨rfl,hb,ry⟩
theorem KT.keeps(r:KT H kvs xs)(ht:∀ b ys,H b=some (.tup ys)->H' b=some (.tup ys)):KT H' kvs xs :=
 Paired.mapP r fun _ _ z=>⟨z.1,ht _ _ z.2.1,z.2.2⟩
section
variable{P:Program}{w:World}{H:Hp}{h:Heap}{a:Addr}
theorem zgv(ok:HOk P w H h)(e:Rd H a u):Y9 P w H h a u:=e.ok ok
theorem Qj(ok:HOk P w H h)(e:Rd H a (.dK kvs)):kvs.length<=sizeLine/\(a == sysModules)=false/\∃ vs,KV kvs vs/\h.DictOf (Yp P w) a vs :=
 show Y9 P w H h a (.dK kvs) from zgv ok e
theorem zds(ok:HOk P w H h)(e:H a=some (.dK kvs)):kvs.length<=sizeLine/\(a == sysModules)=false/\∃ vs,KV kvs vs/\h.DictOf (Yp P w) a vs:=Qj ok (.inl e)
theorem Oh(ok:HOk P w H h)(e:H a=some (.tup (ks.map kV))):(tupleKind (Yp P w)).is h ks a:=by
 obtain⟨_,its,r,o,h1,h2,n,h3⟩:=(show Y9 P w H h a (.tup (ks.map kV)) from ok a _ e)
 exact⟨o,its.toArray,n,h1,h2,h3,by simpa using Fo r⟩
theorem Jm(ok:HOk P w H h)(e:Rd H a (.dT kvs)):kvs.length<=sizeLine/\(a == sysModules)=false /\
  ∃ xs,KT H kvs xs/\h.DictOfH (tupleKind (Yp P w)) a xs:=by
 obtain⟨z,y,xs,r,o,es,ep,h1,h2,h3,h4,h5⟩:=(show Y9 P w H h a (.dT kvs) from zgv ok e)
 refine⟨z,y,xs,r,o,es,ep,h1,h2,h3,h4,fun x hx=>?_,h5⟩
 have all:∀ {l:List (List Key×V)} {m:List (List Key×Addr×Value)},KT H l m->∀ x∈m,(tupleKind (Yp P w)).is h x.1 x.2.1:=by
  intro l m q
  induction q with
  | nil=>intro x hx;exact nomatch hx
  | @cons p q ps qs hq t ih =>
    intro x hx;rcases zsz.mp hx with e|hx
    ·subst e
     exact Oh ok (by rw[<- hq.1];exact hq.2.1)
    ·exact ih x hx
 exact all r x hx
theorem zgw(ok:HOk P w H h)(e:H a=some (.dT kvs)):kvs.length<=sizeLine/\(a == sysModules)=false /\
  ∃ xs,KT H kvs xs/\h.DictOfH (tupleKind (Yp P w)) a xs:=Jm ok (.inl e)
end
def DGet(H:Hp)(a:Addr)(y:V)(r:Option V):Prop :=
 (∃ kvs k,Rd H a (.dK kvs)/\y=kV k/\r=valV kvs k)\/∃ kvs k b,Rd H a (.dT kvs)/\y=.ref b/\H b=some (.tup (k.map kV))/\r=valV kvs k
def DPut(H:Hp)(a:Addr)(y v:V)(H':Hp):Prop :=
 (∃ kvs k,H a=some (.dK kvs)/\y=kV k/\kvs.length<sizeLine/\H'=upd H a (.dK (putK kvs k v))) \/
 ∃ kvs k b,H a=some (.dT kvs)/\y=.ref b/\H b=some (.tup (k.map kV))/\kvs.length<sizeLine/\H'=upd H a (.dT (putK kvs k v))
theorem DGet.k{H:Hp}{a:Addr}{kvs:List (Key×V)}{k:Key}(e:H a=some (.dK kvs)):DGet H a (kV k) (valV kvs k):=.inl ⟨kvs,k,.inl e,rfl,rfl⟩
theorem DGet.t{H:Hp}{a b:Addr}{kvs:List (List Key×V)}{k:List Key}(e:H a=some (.dT kvs))(eb:H b=some (.tup (k.map kV))):DGet H a (.ref b) (valV kvs k):=.inr ⟨kvs,k,b,.inl e,rfl,eb,rfl⟩
theorem DPut.k{H:Hp}{a:Addr}{kvs:List (Key×V)}{k:Key}{v:V}(e:H a=some (.dK kvs))(hl:kvs.length<sizeLine):DPut H a (kV k) v (upd H a (.dK (putK kvs k v))):=.inl ⟨kvs,k,e,rfl,hl,rfl⟩
theorem DPut.t{H:Hp}{a b:Addr}{kvs:List (List Key×V)}{k:List Key}{v:V}(e:H a=some (.dT kvs))(eb:H b=some (.tup (k.map kV)))(hl:kvs.length<sizeLine) :
  DPut H a (.ref b) v (upd H a (.dT (putK kvs k v))):=.inr ⟨kvs,k,b,e,rfl,eb,hl,rfl⟩
section
variable{X:Cx}{pins:List (Addr×Obj)}{σ:St}{H:Hp}{s:Shared}{a:Addr}{y v:V}{u r:Value}{o:Option V}{A:Around}{E:Value->Shared->Prop}
theorem Inv.big(I:Inv X pins σ H s):sysModules<s.heap.objs.size:=by
 have h:mainGlobals<s.heap.objs.size:=(I.mod.glob.keeps I.bk).lt;exact Nat.lt_trans (by decide) h
theorem zb0(hu:A.units+1<cLine)(I:Inv X pins σ H s)(g:DGet H a y (some v))(ry:RelV y u)(h:∀ w' s',Inv X pins σ H s'->RelV v w'->Q w' s') :
  wpAny (model X.prog X.w) A (getItem (.ref a) u) Q E s:=by
 rcases g with ⟨kvs,k,e,ey,l⟩|⟨kvs,k,b,e,ey,eb,l⟩
 ·subst ey
  obtain⟨z,hd,vs,rel,dd⟩:=Qj I.hok e;obtain⟨w',hw,rw'⟩:=RelO.some_of (v:=v) (o:=valueAt vs k) (by rw[l];exact rel.val k)
  exact wpAny_getItem_of (Lz ry) dd.mapOf hw (h w' _ (I.tok _) rw')
 ·subst ey
  cases (show u=Value.ref b from ry)
  obtain⟨z,hd,xs,rel,dd⟩:=Jm I.hok e;obtain⟨w',hw,rw'⟩:=RelO.some_of (v:=v) (o:=(atKey xs k).map (·.2)) (by rw[l];exact rel.val k)
  obtain⟨p,hp,hp2⟩:=zur.mp hw;refine wpAny_getItem_heap (tupleKind_room_in1 hu) (Oh I.hok eb) dd hp ?_;rw[hp2];exact h w' _ (I.tok _) rw'
theorem zj3(hu:A.units+1<cLine)(I:Inv X pins σ H s)(g:DGet H a y o)(ry:RelV y u)(h:∀ s',Inv X pins σ H s'->Q (.bool o.isSome) s') :
  wpAny (model X.prog X.w) A (compareOp .In u (.ref a)) Q E s:=by
 rcases g with ⟨kvs,k,e,ey,l⟩|⟨kvs,k,b,e,ey,eb,l⟩
 ·subst ey
  obtain⟨z,hd,vs,rel,dd⟩:=Qj I.hok e;refine wpAny_in_of (Lz ry) hd dd.mapOf ?_;rw[<- (rel.val k).isSome_eq,<- l];exact h _ (I.tok _)
 ·subst ey
  cases (show u=Value.ref b from ry)
  obtain⟨z,hd,xs,rel,dd⟩:=Jm I.hok e;refine wpAny_in_heap (tupleKind_room_in1 hu) (Oh I.hok eb) hd dd ?_;have q:=(rel.val k).isSome_eq;rw[Option.isSome_map] at q
  rw[<- q,<- l];exact h _ (I.tok _)
theorem zfs(hu:A.units+1<cLine)(I:Inv X pins σ H s)(g:DGet H a y o)(ry:RelV y u)(h:∀ s',Inv X pins σ H s'->Q (.bool (!o.isSome)) s') :
  wpAny (model X.prog X.w) A (compareOp .NotIn u (.ref a)) Q E s:=by
 rcases g with ⟨kvs,k,e,ey,l⟩|⟨kvs,k,b,e,ey,eb,l⟩
 ·subst ey
  obtain⟨z,hd,vs,rel,dd⟩:=Qj I.hok e;refine wpAny_notIn_of (Lz ry) hd dd.mapOf ?_;rw[<- (rel.val k).isSome_eq,<- l];exact h _ (I.tok _)
 ·subst ey
  cases (show u=Value.ref b from ry)
  obtain⟨z,hd,xs,rel,dd⟩:=Jm I.hok e;refine wpAny_notIn_heap (tupleKind_room_in1 hu) (Oh I.hok eb) hd dd ?_;have q:=(rel.val k).isSome_eq;rw[Option.isSome_map] at q
  rw[<- q,<- l];exact h _ (I.tok _)
theorem Nm(I:Inv X pins σ H s)(mu:Mut (H a))(hs:Heap.SameBut a s.heap h')(he:∃ q,h'.get? a=some q)(new:Y9 X.prog X.w (upd H a ob) h' a ob) :
  Inv X pins σ (upd H a ob) { s with heap:=h',toks:=t' } :=
 I.write (x:=a) (e:=a) mu (.inl rfl) (fun b q hb z=>(hs.2 b hb).trans z) he new
theorem En(z:kvs.length<=sizeLine)(hd:(a == sysModules)=false)(rel:KV kvs vs)(dd:h'.DictOf (Yp P w) a vs) :
  Y9 P w H' h' a (.dK kvs):=⟨z,hd,vs,rel,dd⟩
theorem zb1(hu:A.units+1<cLine)(I:Inv X pins σ H s)(g:DPut H a y v H')(ry:RelV y u)(rv:RelV v r)(h:∀ s',Inv X pins σ H' s'->Q () s') :
  wpAny (model X.prog X.w) A (setItem (.ref a) u r) Q E s:=by
 rcases g with ⟨kvs,k,e,ey,l,eH⟩|⟨kvs,k,b,e,ey,eb,l,eH⟩
 ·subst ey eH
  obtain⟨z,hd,vs,rel,dd⟩:=zds I.hok e;have hz:vs.length<=sizeLine:=by rw[<- rel.length];exact z
  have hl:(putK kvs k v).length<=sizeLine:=by have:=Xi kvs k v;omega
  refine wpAny_setItem_pairs (hsz:=hz) (Lz ry) dd fun h' dd' hs=>h _ ?_
  have he:∃ q,h'.get? a=some q:=let ⟨q,_,_,hq,_⟩:=dd';⟨q,hq⟩
  exact Nm I (by rw[e];exact True.intro) hs he (En hl hd (rel.put k rv) dd')
 ·subst ey eH
  cases (show u=Value.ref b from ry)
  obtain⟨z,hd,xs,rel,dd⟩:=zgw I.hok e;have hz:xs.length<=sizeLine:=by rw[<- Paired.length rel];exact z
  have hl:(putK kvs k v).length<=sizeLine:=by have:=Xi kvs k v;omega
  refine wpAny_setItem_heap (hsz:=hz) (tupleKind_room_in1 hu) (Oh I.hok eb) dd fun h' dd' hs=>h _ ?_
  obtain⟨q,es,ep,hq,h2,h3,h4,_,h5⟩:=dd';refine Nm I (by rw[e];exact True.intro) hs ⟨q,hq⟩ ⟨hl,hd,_,(rel.put k eb rv).keeps fun c ys ec=>?_,q,es,ep,hq,h2,h3,h4,h5⟩
  rw[Zi (Yx ec e (fun z=>nomatch z))]
  exact ec
end
section
variable{X:Cx}{pins:List (Addr×Obj)}{σ:St}{H:Hp}{s:Shared}{a:Addr}{kvs:List (Key×V)}{k:Key}{u:Value}{A:Around}{E:Value->Shared->Prop}
theorem zi6(I:Inv X pins σ H s)(e:H a=some (.dK kvs))(ry:RelV (kV k) u)(l:valV kvs k=some v)(hm:more=[]\/∃ x,more=[x])
  (h:∀ w' s',Inv X pins σ (upd H a (.dK (Wb kvs k))) s'->RelV v w'->Q w' s'):wpAny (model X.prog X.w) A (call (.builtin "dict.pop") (.ref a :: u :: more)) Q E s:=by
 obtain⟨z,hd,vs,rel,dd⟩:=zds I.hok e;obtain⟨w',hw,rw'⟩:=RelO.some_of (v:=v) (o:=valueAt vs k) (by rw[<- l];exact rel.val k)
 have hp:(keyPart u).isSome=true:=by
  cases k with
  | inl i=>obtain⟨t,q⟩:=(show ∃ t,u=Value.int i t from ry);subst q;rfl
  | inr x=>obtain⟨t,q⟩:=(show ∃ t,u=Value.str x t from ry);subst q;rfl
 have ha:argsOk "dict.pop" ⟨.ref a :: u :: more,[]⟩:=by
  rcases hm with q|⟨x,q⟩
  ·subst q;exact PySem.F.args_dict_pop_2 _ _
  ·subst q;exact PySem.F.args_dict_pop_3 _ _ _
 refine call_meetsIn PySem.F.slot_dict_pop dd.typeIs PySem.F.entry_dict_pop ha (meets_dict_pop_there (Yp X.prog X.w) a (Lz ry) more hm hp)
  ⟨vs,w',dd,by rw[<- rel.length];exact z,hw,fun h' dd' hs=>h w' _ ?_ rw'⟩
 have he:∃ q,h'.get? a=some q:=let ⟨q,_,_,hq,_⟩:=dd';⟨q,hq⟩
 exact Nm I (by rw[e];exact True.intro) hs he (En (ztb (Cf kvs k) z) hd (rel.drop k) dd')
theorem zi7(I:Inv X pins σ H s)(e:Rd H a (.dK kvs))(h:∀ t s',Inv X pins σ H s'->Q (.int kvs.length t) s'):wpAny (model X.prog X.w) A (call (.builtin "len") [.ref a]) Q E s:=by
 obtain⟨z,hd,vs,rel,dd⟩:=Qj I.hok e;refine call_len_dict hd dd (by rw[<- rel.length];rw[sizeLine_eq] at z;omega) ?_
 rw[<- rel.length];exact h _ _ (I.tok _)
end
def zhk(i:Expr):Prop:=∀ ov iv,subscripted i false ov iv=operate [ov,iv] (getItem ov iv)
theorem zft{prog:Program}{w:World}{A:Around}{E:Value->Shared->Prop}{s:Shared}{env:Env}{value slice:Expr}{pos:Pos}{T id:String}{Q:Value->Shared->Prop}
  (hl:typeLookup (.type T) "__getitem__"=pure (some (.builtin id))) (hs:zhk slice)
  (h:wpAny (model prog w) A (eval value env) (fun o s₁=>wpAny (model prog w) A (eval slice env) (fun i s₂=>s₂.TypeIs o T/\wpAny (model prog w) A (getItem o i) Q E s₂) E s₁) E s) :
  wpAny (model prog w) A (eval (.Subscript value slice pos) env) Q E s:=by
 refine Subscript_ (wpAny_mono h (fun o s₁ h₁=>wpAny_mono h₁ (fun i s₂ h₂=>?_) fun _ _ x=>x) fun _ _ x=>x)
 obtain⟨hT,h₂⟩:=h₂;unfold subscriptTail;refine wpAny_bind ?_;rw[getitemInPython_of_ne hT.not_modules];refine wpAny_bind (wpAny_specialOf hT hl ?_);have fin:wpAny (model prog w) A (subscripted slice false o i) (fun r s₃=>wpAny (model prog w) A (letTemporaryGo value o r >>= fun _=>pure r) Q E s₃) E s₂:=by
  rw[hs o i];exact wpAny_operating (wpAny_mono h₂ (fun r s₃ h₃=>wpAny_bind (wpAny_letTemporaryGo (wpAny_pure h₃))) fun _ _ x=>x)
 first
  | exact wpAny_pure (wpAny_bind fin)
  | exact wpAny_bind (wpAny_pure (wpAny_bind fin))
  | exact wpAny_bind fin
theorem Cg(I:Inv X pins σ H s)(g:DGet H a y o):s.TypeIs (.ref a) "dict":=by
 rcases g with ⟨kvs,k,e,_,_⟩|⟨kvs,k,b,e,_,_,_⟩
 ·obtain⟨_,_,vs,_,dd⟩:=Qj I.hok e
  exact dd.typeIs
 ·obtain⟨_,_,xs,_,dd⟩:=Jm I.hok e
  exact dd.typeIs
inductive zhl(Q:VK)(x:V)(y:V)(H2:Hp):Prop where
 | mk(a)(v)(_:x=.ref a)(_:DGet H2 a y (some v))(_:Q v H2)
def Jn(td ty:TE):TE:=fun σ H Q=>td σ H fun x H1=>ty σ H1 fun y H2=>zhl Q x y H2
inductive zi8(Q:VK)(y:V)(x:V)(H2:Hp):Prop where
 | mk(a)(o)(_:x=.ref a)(_:DGet H2 a y o)(_:Q (.bl o.isSome) H2)
def zj4(ty td:TE):TE:=fun σ H Q=>ty σ H fun y H1=>td σ H1 fun x H2=>zi8 Q y x H2
inductive zdt(Q:VK)(y:V)(x:V)(H2:Hp):Prop where
 | mk(a)(o)(_:x=.ref a)(_:DGet H2 a y o)(_:Q (.bl (!o.isSome)) H2)
def zfu(ty td:TE):TE:=fun σ H Q=>ty σ H fun y H1=>td σ H1 fun x H2=>zdt Q y x H2
inductive zhm(D:Pp)(σ:L2.St)(v:V)(x:V)(y:V)(H3:Hp):Prop where
 | mk(a)(H4)(_:x=.ref a)(_:DPut H3 a y v H4)(_:D.nx σ H4)
def zi9(td ty tv:TE):TS:=fun D σ H=>tv σ H fun v H1=>td σ H1 fun x H2=>ty σ H2 fun y H3=>zhm D σ v x y H3
section
variable{X:Cx}{o i e value:Expr}{pos pos' tpos:Pos}{td ty tv:TE}
theorem zfv(hu:X.A.units+1<cLine)(ho:PE X o td)(hi:PE X i ty)(hs:zhk i):PE X (.Subscript o i pos) (Jn td ty):=by
 intro pins s σ H Q I h;refine zft PySem.F.slot_dict_getitem.lookup hs (thn (ho pins s σ H _ I h) fun u s1 ⟨x,H1,I1,rx,q1⟩=>thn (hi pins s1 σ H1 _ I1 q1) fun iv s2 ⟨y,H2,I2,ry,a,v,ex,g,q2⟩=>?_)
 subst ex;obtain rfl:u=Value.ref a:=rx;exact⟨Cg I2 g,zb0 hu I2 g ry fun w' s3 I3 rw'=>⟨v,H2,I3,rw',q2⟩⟩
theorem Oi(hu:X.A.units+1<cLine)(hi:PE X i ty)(ho:PE X o td):PC X .In i o (zj4 ty td):=by
 intro pins s σ H Q I h;refine thn (hi pins s σ H _ I h) fun iv s1 ⟨y,H1,I1,ry,q1⟩=>thn (ho pins s1 σ H1 _ I1 q1) fun u s2 ⟨x,H2,I2,rx,a,ov,ex,g,q2⟩=>?_
 subst ex;obtain rfl:u=Value.ref a:=rx;exact zj3 hu I2 g ry fun s3 I3=>⟨.bl ov.isSome,H2,I3,rfl,q2⟩
theorem Pc(hu:X.A.units+1<cLine)(hi:PE X i ty)(ho:PE X o td):PC X .NotIn i o (zfu ty td):=by
 intro pins s σ H Q I h;refine thn (hi pins s σ H _ I h) fun iv s1 ⟨y,H1,I1,ry,q1⟩=>thn (ho pins s1 σ H1 _ I1 q1) fun u s2 ⟨x,H2,I2,rx,a,ov,ex,g,q2⟩=>?_
 subst ex;obtain rfl:u=Value.ref a:=rx;exact zfs hu I2 g ry fun s3 I3=>⟨.bl (!ov.isSome),H2,I3,rfl,q2⟩
theorem Yj(hu:X.A.units+1<cLine)(ho:PE X o td)(hi:PE X i ty)(hv:PE X value tv)(hs:swapsWith value (some (.Subscript o i pos')) pos.line X.env=pure false) :
  PS X (.Assign [.Subscript o i pos'] value pos) (zi9 td ty tv):=by
 intro pins s σ H D I h;refine wpAny_Assign_Subscript (thn (hv pins s σ H _ I h) fun r s1 ⟨v,H1,I1,rv,q1⟩=>thn (ho pins s1 σ H1 _ I1 q1) fun u s2 ⟨x,H2,I2,rx,q2⟩=>thn (hi pins s2 σ H2 _ I2 q2) fun iv s3 ⟨y,H3,I3,ry,a,H4,ex,g,q3⟩=>?_) hs
 subst ex;obtain rfl:u=Value.ref a:=rx;exact zb1 hu I3 g ry rv fun s4 I4=>⟨σ,H4,I4,q3⟩
end
theorem Ci(h:Heap)(hb:sysModules<h.objs.size):Y9 P w H (h.push { cls:=.type "dict",data:=.dict #[] }) h.objs.size (.dK []) :=
 ⟨ztm _,zth.mpr (Ne.symm (ztk hb)),[],.nil,Heap.DictOf.new h⟩
theorem zdu(h:Heap)(hb:sysModules<h.objs.size):Y9 P w H (h.push { cls:=.type "dict",data:=.dict #[] }) h.objs.size (.dT []) :=
 ⟨ztm _,zth.mpr (Ne.symm (ztk hb)),[],.nil,_,#[],0,Heap.get?_push_size _ rfl,⟨rfl,rfl,rfl⟩,rfl,rfl,List.nodup_nil⟩
def zhn:TE:=fun _ H Q=>∀ p,H p=none->Q (.ref p) (upd H p (.dK []))
def zho:TE:=fun _ H Q=>∀ p,H p=none->Q (.ref p) (upd H p (.dT []))
section
variable{X:Cx}{pos:Pos}
theorem Jo:PE X (.Dict [] [] pos) zhn:=fun pins s σ H Q I h =>
 wpAny_Dict_empty ⟨.ref s.heap.objs.size,_,I.laid (a:=s.heap.objs.size) (o:=.dK []) (t':=s.toks) (fun _ _ q=>Heap.get?_push_of_some _ q) (zs3 _) (Ci s.heap I.big),rfl,h _ (I.hok.fresh (zs3 _))⟩
theorem Jp:PE X (.Dict [] [] pos) zho:=fun pins s σ H Q I h =>
 wpAny_Dict_empty ⟨.ref s.heap.objs.size,_,I.laid (a:=s.heap.objs.size) (o:=.dT []) (t':=s.toks) (fun _ _ q=>Heap.get?_push_of_some _ q) (zs3 _) (zdu s.heap I.big),rfl,h _ (I.hok.fresh (zs3 _))⟩
end
def Al:List (TE×TE)->St->Hp->(List (V×V)->Hp->Prop)->Prop
 | [],_,H,Q=>Q [] H
 | (tk,tv) :: r,σ,H,Q=>tk σ H fun x H1=>tv σ H1 fun y H2=>Al r σ H2 fun ps H3=>Q ((x,y) :: ps) H3
abbrev VV:List (V×V)->List (Value×Value)->Prop:=Paired fun p q=>RelV p.1 q.1/\RelV p.2 q.2
def PPs(X:Cx)(pos:Pos)(keys:List (Option Expr))(values:List Expr)(trs:List (TE×TE)):Prop :=
 ∀ (pins:List (Addr×Obj)) (s:Shared) (σ:St) (H:Hp) (Q:List (V×V)->Hp->Prop),Inv X pins σ H s->Al trs σ H Q ->
   wpAny (model X.prog X.w) X.A (evalPairs (pairTrees keys values X.env pos)) (fun vs s'=>∃ ps H',Inv X pins σ H' s'/\VV ps vs/\Q ps H') X.xe s
theorem Eo:PPs X pos [] [] []:=fun pins s σ H Q I h=>pairTrees_nil_walk ⟨[],H,I,.nil,h⟩
theorem Us(hk:PE X k tk)(hv:PE X v tv)(hr:PPs X pos ks vs trs) :
  PPs X pos (some k :: ks) (v :: vs) ((tk,tv) :: trs):=fun pins s σ H Q I h =>
 pairTrees_cons_walk (thn (hk pins s σ H _ I h) fun u s1 ⟨x,H1,I1,rx,q1⟩=>thn (hv pins s1 σ H1 _ I1 q1) fun w2 s2 ⟨y,H2,I2,ry,q2⟩ =>
  thn (hr pins s2 σ H2 _ I2 q2) fun ws s3 ⟨ps,H3,I3,rel,q3⟩=>⟨(x,y) :: ps,H3,I3,.cons ⟨rx,ry⟩ rel,q3⟩)
def Ux(kvs more:List (Key×V)):List (Key×V):=more.foldl (fun acc kv=>putK acc kv.1 kv.2) kvs
theorem KV.merge:∀ {more:List (Key×V)} {rs:List (Key×Value)} {kvs:List (Key×V)} {vs:List (Key×Value)},KV more rs->KV kvs vs->KV (Ux kvs more) (merged vs rs):=by
 intro more rs kvs vs r;unfold KV at r
 induction r generalizing kvs vs with
 | nil=>intro q;exact q
 | @cons p q ps qs h t ih =>
   intro r0;have e:KV (putK kvs p.1 p.2) (stored vs q.1 q.2):=by
    have:=r0.put p.1 h.2;rw[<- h.1];exact this
   exact ih e
theorem P9:∀ (more kvs:List (Key×V)),(Ux kvs more).length<=kvs.length+more.length
 | [],kvs=>by show kvs.length<=kvs.length+0;omega
 | p :: r,kvs=>by
   have h1:=P9 r (putK kvs p.1 p.2);have h2:=Xi kvs p.1 p.2;show (Ux (putK kvs p.1 p.2) r).length<=_;rw[zti];omega
theorem Jq:∀ {kvs:List (Key×V)} {ws:List (Value×Value)},VV (kvs.map fun kv=>(kV kv.1,kv.2)) ws->∃ rs,Carries (Yp P w) ws rs/\KV kvs rs
 | [],_,r=>by rw[List.map_nil] at r;cases r;exact⟨[],True.intro,.nil⟩
 | p :: kvs,_,r=>by
   rw[zs4] at r
   cases r with
   | @cons a b as bs h t =>
     obtain⟨rs,c,q⟩:=Jq (P:=P) (w:=w) t;obtain⟨b1,b2⟩:=b;exact⟨(p.1,b2) :: rs,⟨Lz h.1,rfl,c⟩,.cons ⟨rfl,h.2⟩ q⟩
def zja(trs:List (TE×TE)):TE:=fun σ H Q=>∀ p,H p=none->Al trs σ (upd H p (.dK [])) fun ps H2=>H2 p=some (.dK [])/\∃ kvs:List (Key×V),ps=kvs.map (fun kv=>(kV kv.1,kv.2))/\kvs.length<=15/\Q (.ref p) (upd H2 p (.dK (Ux [] kvs)))
theorem Ep(h:PPs X pos keys values trs)(hall:keys.all (·.isSome)=true)(hl:keys.length=values.length)(h0:keys≠[])
  (h15:keys.length<=15):PE X (.Dict keys values pos) (zja trs):=by
 intro pins s σ H Q I q;have hn:=I.hok.fresh (zs3 s.heap.objs.size);have I1:=I.laid (a:=s.heap.objs.size) (o:=.dK []) (h':=s.heap.push { cls:=.type "dict",data:=.dict #[] }) (t':=s.toks) (fun _ _ q=>Heap.get?_push_of_some _ q) (zs3 _) (Ci s.heap I.big)
 refine wpAny_Dict_walk (knd:=Yp X.prog X.w) hall hl h0 h15 (thn (h pins _ σ _ _ I1 (q _ hn)) fun ws s2 ⟨ps,H2,I2,rel,e,kvs,ep,lk,q2⟩=>?_)
 subst ep;obtain⟨rs,c,rk⟩:=Jq (P:=X.prog) (w:=X.w) rel;obtain⟨z,hd,vs0,r0,dd⟩:=zds I2.hok e;cases r0;refine⟨rs,c,dd,fun h' dd' hs=>⟨.ref s.heap.objs.size,_,?_,rfl,q2⟩⟩
 have hz:(Ux [] kvs).length<=sizeLine:=by
  have h1:=P9 kvs [];rw[List.length_nil] at h1
  rw[sizeLine_eq];omega
 have he:∃ q,h'.get? s.heap.objs.size=some q:=let ⟨q,_,_,hq,_⟩:=dd';⟨q,hq⟩
 exact Nm I2 (by rw[e];exact True.intro) hs he (En hz hd (rk.merge .nil) dd')
structure M1(X:Cx)(o:Expr)(m:Str)(apos:Pos)(e:Expr)(cpos:Pos):Prop where
 base:attributeBase o m X.env (eval o X.env)=eval o X.env
 few:((backTo cpos (starEach [e] X.env)).all (fun x=>!x.1)&&(backToKw cpos (keywordEach [] X.env)).all (fun x=>x.1.isSome)
  && decide (([e]:List Expr).length+([]:List Keyword).length+(if ([]:List Keyword).isEmpty then 0 else 1)<30))=true
 line:(apos.endLine == cpos.line)=true
 trees:backTo cpos (starEach [e] X.env)=[(false,eval e X.env)]
structure M2(X:Cx)(o:Expr)(m:Str)(apos:Pos)(e f:Expr)(cpos:Pos):Prop where
 base:attributeBase o m X.env (eval o X.env)=eval o X.env
 few:((backTo cpos (starEach [e,f] X.env)).all (fun x=>!x.1)&&(backToKw cpos (keywordEach [] X.env)).all (fun x=>x.1.isSome)
  && decide (([e,f]:List Expr).length+([]:List Keyword).length+(if ([]:List Keyword).isEmpty then 0 else 1)<30))=true
 line:(apos.endLine == cpos.line)=true
 trees:backTo cpos (starEach [e,f] X.env)=[(false,eval e X.env),(false,eval f X.env)]
def IsD(H:Hp)(a:Addr):Prop:=(∃ kvs,Rd H a (.dK kvs))\/∃ kvs,Rd H a (.dT kvs)
theorem Am(I:Inv X pins σ H s)(d:IsD H a) :
  s.TypeIs (.ref a) "dict"/\(∀ b,Value.ref a=.ref b->∃ ob,s.heap.get? b=some ob/\ob.dict=none)/\(a == sysModules)=false:=by
 rcases d with ⟨kvs,e⟩|⟨kvs,e⟩
 ·obtain⟨_,hd,vs,_,dd⟩:=Qj I.hok e
  refine⟨dd.typeIs,fun b q=>?_,hd⟩
  cases q;obtain⟨ob,_,_,h1,h2,_⟩:=dd;exact⟨ob,h1,h2.2.1⟩
 ·obtain⟨_,hd,xs,_,dd⟩:=Jm I.hok e
  refine⟨dd.typeIs,fun b q=>?_,hd⟩
  cases q;obtain⟨ob,_,_,h1,h2,_⟩:=dd;exact⟨ob,h1,h2.2.1⟩
section
variable{X:Cx}{pins:List (Addr×Obj)}{σ:St}{H:Hp}{s:Shared}{a:Addr}{y d:V}{u r:Value}{o:Option V}{A:Around}{E:Value->Shared->Prop}
theorem zhp(hu:A.units+1<cLine)(I:Inv X pins σ H s)(g:DGet H a y o)(ry:RelV y u)(rd:RelV d r)(h:∀ w' s',Inv X pins σ H s'->RelV (o.getD d) w'->Q w' s') :
  wpAny (model X.prog X.w) A (call (.builtin "dict.get") [.ref a,u,r]) Q E s:=by
 rcases g with ⟨kvs,k,e,ey,l⟩|⟨kvs,k,b,e,ey,eb,l⟩
 ·subst ey
  obtain⟨z,hd,vs,rel,dd⟩:=Qj I.hok e;refine call_meetsIn PySem.F.slot_dict_get dd.typeIs PySem.F.entry_dict_get (PySem.F.args_dict_get_3 _ _ _) (meets_dict_get_default (Yp X.prog X.w) a (Lz ry) hd r) ⟨_,dd.mapOf,h _ _ (I.tok _) ?_⟩;rw[l];exact(rel.val k).getD rd
 ·subst ey
  cases (show u=Value.ref b from ry)
  obtain⟨z,hd,xs,rel,dd⟩:=Jm I.hok e;refine call_meetsIn PySem.F.slot_dict_get dd.typeIs PySem.F.entry_dict_get (PySem.F.args_dict_get_3 _ _ _) (meetsH_dict_get_default (tupleKind (Yp X.prog X.w)) a b hd r) ⟨tupleKind_room_in1 hu,k,xs,Oh I.hok eb,dd,h _ _ (I.tok _) ?_⟩;rw[l];exact(rel.val k).getD rd
end
inductive zfw(ty:TE)(tx:TE)(σ:L2.St)(Q:VK)(x:V)(H1:Hp):Prop where
 | mk(a)(_:x=.ref a)(_:IsD H1 a)(_:ty σ H1 fun y H2=>tx σ H2 fun z H3=>∃ o,DGet H3 a y o/\Q (o.getD z) H3)
def zhq(td ty tx:TE):TE:=fun σ H Q=>td σ H fun x H1=>zfw ty tx σ Q x H1
inductive zfx(ty:TE)(σ:L2.St)(Q:VK)(x:V)(H1:Hp):Prop where
 | mk(a)(_:x=.ref a)(_:IsD H1 a)(_:ty σ H1 fun y H2=>∃ kvs k v,H2 a=some (.dK kvs)/\y=kV k/\valV kvs k=some v/\Q v (upd H2 a (.dK (Wb kvs k))))
def zhr(td ty:TE):TE:=fun σ H Q=>td σ H fun x H1=>zfx ty σ Q x H1
section
variable{X:Cx}{o e f:Expr}{apos cpos:Pos}{td ty tx:TE}
theorem zdv(hu:X.A.units+1<cLine)(ho:PE X o td)(he:PE X e ty)(hf:PE X f tx)(m:M2 X o "get" apos e f cpos):PE X (.Call (.Attribute o "get" apos) [e,f] [] cpos) (zhq td ty tx):=by
 intro pins s σ H Q I h;refine wpAny_Call_method m.base m.few m.line PySem.F.plainAttrs_dict PySem.F.slot_dict_get PySem.F.type_dict_get (thn (ho pins s σ H _ I h) fun u s1 ⟨x,H1,I1,rx,a,ex,d,q1⟩=>?_)
 subst ex;obtain rfl:u=Value.ref a:=rx;obtain⟨t1,t2,_⟩:=Am I1 d;refine⟨t1,t2,?_⟩;rw[m.trees];refine Calls.callWith_builtin rfl (Calls.evalArgs_plain (Calls.spliced_cons (thn (he pins s1 σ H1 _ I1 q1) fun iv s2 ⟨y,H2,I2,ry,q2⟩ =>
  Calls.spliced_cons (thn (hf pins s2 σ H2 _ I2 q2) fun fv s3 ⟨z,H3,I3,rz,ov,g,q3⟩=>Calls.spliced_nil ?_))))
 exact zhp hu I3 g ry rz fun w' s4 I4 rw'=>⟨_,H3,I4,rw',q3⟩
theorem zdw(ho:PE X o td)(he:PE X e ty)(m:M1 X o "pop" apos e cpos):PE X (.Call (.Attribute o "pop" apos) [e] [] cpos) (zhr td ty):=by
 intro pins s σ H Q I h;refine wpAny_Call_method m.base m.few m.line PySem.F.plainAttrs_dict PySem.F.slot_dict_pop PySem.F.type_dict_pop (thn (ho pins s σ H _ I h) fun u s1 ⟨x,H1,I1,rx,a,ex,d,q1⟩=>?_)
 subst ex;obtain rfl:u=Value.ref a:=rx;obtain⟨t1,t2,_⟩:=Am I1 d;refine⟨t1,t2,?_⟩;rw[m.trees];refine Calls.callWith_builtin rfl (Calls.evalArgs_plain (Calls.spliced_cons (thn (he pins s1 σ H1 _ I1 q1) fun iv s2 ⟨y,H2,I2,ry,kvs,k,v,ea,ey,l,q2⟩=>Calls.spliced_nil ?_)))
 subst ey;exact zi6 I2 ea ry l (.inl rfl) fun w' s3 I3 rw'=>⟨v,_,I3,rw',q2⟩
end
section
variable{X:Cx}{pins:List (Addr×Obj)}{σ:St}{H:Hp}{s:Shared}{a:Addr}{kvs:List (Key×V)}{A:Around}{E:Value->Shared->Prop}
theorem zdx(I:Inv X pins σ H s)(e:Rd H a (.dK kvs))(h:∀ p s',H p=none->Inv X pins σ (upd H p (.dK kvs)) s'->Q (.ref p) s'):wpAny (model X.prog X.w) A (call (.type "dict") [.ref a]) Q E s:=by
 obtain⟨z,hd,vs,rel,dd⟩:=Qj I.hok e;refine kt_call_dict hd dd (by rw[<- rel.length];exact z) fun h' dd' hs=>?_
 refine h _ _ (I.hok.fresh (zs3 _)) (I.laid (a:=s.heap.objs.size) (o:=.dK kvs) (t':=s.toks) (fun b q hq=>?_) (zs3 _) (En z (zth.mpr (Ne.symm (ztk I.big))) rel dd'))
 exact(hs.2 b (ztk (Heap.lt_size hq))).trans (Heap.get?_push_of_some _ hq)
end
section
variable{X:Cx}{pins:List (Addr×Obj)}{σ:St}{H:Hp}{s:Shared}{a:Addr}{y:V}{u:Value}{A:Around}{E:Value->Shared->Prop}
end
end L2
namespace HT
open PySem PyProof.Rows
section
open PySem.SeqAt
open PySem.AutoSeq1 (wpAny_loadPart')
open PySem.MeetsSeq PySem.MeetsSeq2 PySem.MeetsSeq3
end
section
variable{prog:Program}{w:World}{A:Around}{E:Value->Shared->Prop}{s:Shared}
theorem cat_tup(ht:IsTup s.heap t vs.toArray)(hb:IsTup s.heap b ws.toArray)(hv:vs≠[])
  (h1:ws=[]->Q (.ref t) s) (h2:ws≠[]->Q (.ref s.heap.objs.size) { s with heap:=s.heap.push { cls:=.type "tuple",data:=.seq (vs++ws).toArray } })
  (hsz:vs.length+ws.length<=sizeLine):wpAny (model prog w) A (binaryOp .Add (.ref t) (.ref b)) Q E s:=by
 obtain⟨⟨cls,dd,data,sl⟩,ho,hc,n,hd⟩:=id ht;obtain⟨⟨cls2,dd2,data2,sl2⟩,ho2,hc2,n2,hd2⟩:=id hb;simp only at hc hd hc2 hd2
 subst hc hd hc2 hd2;have e:vs.toArray++ws.toArray=(vs++ws).toArray:=by simp
 by_cases hw:ws=[]
 ·exact concat_meets ⟨_,ho,rfl⟩ ⟨_,ho2,rfl⟩ noFill_tuple_add seq_tuple_add PySem.F.slot_tuple_add PySem.F.entry_tuple_add (PySem.F.args_tuple_add_2 _ _)
   (tuple_addW1 t b vs.toArray ws.toArray n n2 dd dd2 sl sl2 (by simpa using hv) (by simp[hw])) ⟨ho,ho2,h1 hw⟩
 ·refine concat_meets ⟨_,ho,rfl⟩ ⟨_,ho2,rfl⟩ noFill_tuple_add seq_tuple_add PySem.F.slot_tuple_add PySem.F.entry_tuple_add (PySem.F.args_tuple_add_2 _ _)
   (tuple_addW2 t b vs.toArray ws.toArray n n2 dd dd2 sl sl2 (by simpa using hv) (by simpa using hw) (by rw[zs7,zs7];exact hsz)) ⟨ho,ho2,?_⟩
  rw[e];exact h2 hw
def sIx(n d:Nat):Option Int->Nat
 | none=>d
 | some v=>if v<0 then (v+(n:Int)).toNat else min v.toNat n
theorem sIx_none(n d:Nat):sIx n d none=d:=rfl
theorem sIx_nat(n d k:Nat):sIx n d (some (k:Int))=min k n:=by
 show (if (k:Int)<0 then ((k:Int)+(n:Int)).toNat else min (k:Int).toNat n)=min k n
 rw[if_neg (by omega),zta]
end
end HT
namespace L2
open PySem PySem.Spec PyProof.Rows
abbrev TO:=St->Hp->(Option Int->Hp->Prop)->Prop
def PO(X:Cx)(e:Option Expr)(t:TO):Prop :=
 ∀ (pins:List (Addr×Obj)) (s:Shared) (σ:St) (H:Hp) (Q:Option Int->Hp->Prop),Inv X pins σ H s->t σ H Q ->
   wpAny (model X.prog X.w) X.A (evalPart e X.env) (fun u s'=>∃ o H',Inv X pins σ H' s'/\IsPart u o/\Q o H') X.xe s
def zfy:TO:=fun _ H Q=>Q none H
inductive zhs(Q:Option Int->Hp->Prop)(x:V)(H1:Hp):Prop where
 | mk(i)(_:x=.int i)(_:Q (some i) H1)
def zjb(t:TE):TO:=fun σ H Q=>t σ H fun x H1=>zhs Q x H1
section
variable{X:Cx}{e:Expr}{te:TE}{lo hi:Option Expr}{tl th:TO}{pos p2:Pos}
theorem zaw:PO X none zfy:=by
 intro pins s σ H Q I h;rw[evalPart_none];exact wpAny_pure ⟨none,H,I,.none,h⟩
theorem zax(h:PE X e te):PO X (some e) (zjb te):=by
 intro pins s σ H Q I hw;rw[evalPart_some];refine thn (h pins s σ H _ I hw) fun u s1 ⟨x,H1,I1,r1,q1⟩=>?_
 obtain⟨i,rfl,q⟩:=q1;obtain⟨t,rfl⟩:=r1;exact⟨some i,H1,I1,.int i t,q⟩
def SlR(X:Cx)(r:V->Option Int->Option Int->Hp->VK->Prop):Prop :=
 ∀ (pins:List (Addr×Obj)) (s:Shared) (σ:St) (H:Hp) (x:V) (v vl vu:Value) (lo hi:Option Int) (sl:Addr) (Q:VK),Inv X pins σ H s->RelV x v->s.heap.IsSliceOf sl vl vu .none->IsPart vl lo->IsPart vu hi->r x lo hi H Q ->
   ∃ T id,typeLookup (.type T) "__getitem__"=pure (some (.builtin id))/\s.TypeIs v T/\wpAny (model X.prog X.w) X.A (getItem v (.ref sl)) (EP X pins σ Q) X.xe s
def tSl(r:V->Option Int->Option Int->Hp->VK->Prop)(te:TE)(tl th:TO):TE:=fun σ H Q=>te σ H fun x H1=>tl σ H1 fun l H2=>th σ H2 fun u H3=>r x l u H3 Q
theorem Cj(hr:SlR X r)(he:PE X e te)(hl:PO X lo tl)(hu:PO X hi th):PE X (.Subscript e (.Slice lo hi none p2) pos) (tSl r te tl th):=by
 intro pins s σ H Q I h;refine Subscript_ (thn (he pins s σ H _ I h) fun v s1 ⟨x,H1,I1,r1,q1⟩=>?_)
 refine wpAny_Slice (thn (hl pins s1 σ H1 _ I1 q1) fun vl s2 ⟨l,H2,I2,pl,q2⟩=>thn (hu pins s2 σ H2 _ I2 q2) fun vu s3 ⟨u,H3,I3,pu,q3⟩=>?_)
 rw[evalPart_none];refine wpAny_pure ?_;have I4:Inv X pins σ H3 { s3 with heap:=s3.heap.push { cls:=.type "slice",data:=.fields #[vl,vu,.none] } }:=I3.kept (t':=s3.toks) fun b ob q=>Heap.get?_push_of_some _ q
 obtain⟨T,id,hT,ht,hg⟩:=hr pins { s3 with heap:=s3.heap.push { cls:=.type "slice",data:=.fields #[vl,vu,.none] } } σ H3 x v vl vu l u s3.heap.objs.size Q I4 r1 (Heap.IsSliceOf.new ..) pl pu q3
 show wpAny (model X.prog X.w) X.A (subscriptTail e (.Slice lo hi none p2) v (.ref s3.heap.objs.size)) (EP X pins σ Q) X.xe { s3 with heap:=s3.heap.push { cls:=.type "slice",data:=.fields #[vl,vu,.none] } }
 exact tail_any (ops:=[.ref s3.heap.objs.size,v]) ht hT hg (by with_unfolding_all rfl)
def Ga(xs:List V)(lo hi:Option Int):List V:=(xs.drop (HT.sIx xs.length 0 lo)).take (HT.sIx xs.length xs.length hi-HT.sIx xs.length 0 lo)
theorem Ck(xs:List V)(lo hi:Option Int):(Ga xs lo hi).length<=xs.length:=by
 unfold Ga;rw[zuy,List.length_drop];omega
inductive zgx(K:PySem.W.Frag)(x:V)(y:V)(H:Hp)(Q:VK):Prop where
 | mk(a)(b)(xs)(ys)(_:x=.ref a)(_:y=.ref b)(_:SqT K H a xs)(_:SqT K H b ys)(_:xs≠[])(_:xs.length+ys.length<=sizeLine)(_:(ys=[]->Q (.ref a) H))(_:(ys≠[]->∀ p,H p=none->Q (.ref p) (upd H p (.tup (xs++ys)))))
theorem Vals.nil_iff(r:Vals xs us):us=[]↔xs=[]:=by
 cases r with
 | nil=>simp
 | cons _ _=>simp
theorem zfz:OpR X (binaryOp .Add) (zgx X.K):=by
 intro pins s σ H x y v u Q I rx ry h;obtain⟨a,b,xs,ys,rfl,rfl,ha,hb,hx,hz,q1,q2⟩:=h;cases rx;cases ry;obtain⟨its,r1,p1,_⟩:=I.tuple ha;obtain⟨its2,r2,p2,_⟩:=I.tuple hb;refine HT.cat_tup p1 p2 (fun z=>hx (r1.nil_iff.mp z)) (fun z=>⟨.ref a,H,I,rfl,q1 (r2.nil_iff.mp z)⟩) (fun z=>?_) (by rw[<- r1.length,<- r2.length];exact hz)
 refine⟨.ref s.heap.objs.size,_,I.laid (t':=s.toks) (o:=.tup (xs++ys)) (fun b ob q=>Heap.get?_push_of_some _ q) (zs3 _) ?_,rfl,q2 (fun w=>z (r2.nil_iff.mpr w)) _ (I.hok.fresh (zs3 _))⟩
 exact⟨by rw[zsw];exact hz,_,r1.append r2,IsTup.new _ _⟩
end
def ixN(n:Nat)(i:Int):Option Nat:=if 0<=i then (if i<n then some i.toNat else none) else if -(n:Int)<=i then some (i+n).toNat else none
def atI{α:Type}(xs:List α)(i:Int):Option α:=(ixN xs.length i).bind fun j=>xs[j]?
theorem zay(h:ixN n i=some j):seqIndex? i n=some j/\j<n/\-(n:Int)<=i/\i<n:=by
 unfold ixN at h
 by_cases h0:0<=i
 ·rw[if_pos h0] at h
  by_cases h1:i<n
  ·rw[if_pos h1] at h
   have e:i.toNat=j:=Option.some.inj h;exact⟨by rw[seqIndex_of h0 h1,e],by omega,by omega,h1⟩
  ·rw[if_neg h1] at h;cases h
 ·rw[if_neg h0] at h
  by_cases h1:-(n:Int)<=i
  ·rw[if_pos h1] at h
   have e:(i+n).toNat=j:=Option.some.inj h;exact⟨by rw[seqIndex_neg (by omega) h1,e],by omega,h1,by omega⟩
  ·rw[if_neg h1] at h;cases h
theorem zaz(h:atI xs i=some v):∃ j,seqIndex? i xs.length=some j/\xs[j]?=some v/\j<xs.length/\-(xs.length:Int)<=i/\i<xs.length:=by
 unfold atI at h
 cases e:ixN xs.length i with
 | none=>rw[e] at h;cases h
 | some j =>
   rw[e] at h
   obtain⟨h1,h2,h3,h4⟩:=zay e;exact⟨j,h1,h,h2,h3,h4⟩
theorem Z4{α:Type}{xs:List α}{j:Nat}{v:α}(h:xs[j]?=some v):atI xs (j:Int)=some v:=by
 have hj:j<xs.length:=(zsv.mp h).1;have e:ixN xs.length (j:Int)=some j:=by
  unfold ixN;rw[if_pos (by omega),if_pos (by omega)];simp
 unfold atI;rw[e];exact h
theorem atI_last(xs:List α)(v:α):atI (xs++[v]) (-1)=some v:=by
 have hl:(xs++[v]).length=xs.length+1:=by simp
 have e:ixN (xs++[v]).length (-1)=some xs.length:=by
  unfold ixN;rw[hl,if_neg (by decide),if_pos (by omega)]
  congr 1
  omega
 unfold atI;rw[e];show (xs++[v])[xs.length]?=some v;simp
def za0(b:Expr):Prop:=∀ o i,subscripted b false o i=operate [o,i] (getItem o i)
def IxR(X:Cx)(r:R2):Prop :=
 ∀ (value slice:Expr) (pins:List (Addr×Obj)) (s:Shared) (σ:St) (H:Hp) (x y:V) (v u:Value) (Q:VK),Inv X pins σ H s->RelV x v->RelV y u->r x y H Q ->
   subscripted slice false v u=operate [v,u] (getItem v u)->wpAny (model X.prog X.w) X.A (subscriptTail value slice v u) (EP X pins σ Q) X.xe s
def MtR(X:Cx)(id:String)(r:V->List V->Hp->VK->Prop):Prop :=
 ∀ (pins:List (Addr×Obj)) (s:Shared) (σ:St) (H:Hp) (x:V) (xs:List V) (v:Value) (us:List Value) (Q:VK),Inv X pins σ H s->RelV x v->Vals xs us->r x xs H Q ->
   wpAny (model X.prog X.w) X.A (call (.builtin id) (v :: us)) (EP X pins σ Q) X.xe s
section
variable{X:Cx}{a b:Expr}{ta tb:TE}{pos:Pos}
theorem zjc(hr:IxR X r)(ha:PE X a ta)(hb:PE X b tb)(hs:za0 b):PE X (.Subscript a b pos) (tOp r ta tb):=by
 intro pins s σ H Q I h;exact Subscript_ (binT ha hb I h fun v u s2 x y H2 I2 rx ry q=>hr a b pins s2 σ H2 x y v u Q I2 rx ry q (hs _ _))
inductive Gb(K:PySem.W.Frag)(x:V)(y:V)(H:Hp)(Q:VK):Prop where
 | mk(p)(xs)(i)(v)(_:x=.ref p)(_:y=.int i)(_:SqL K H p xs)(_:atI xs i=some v)(_:Q v H)
inductive zht(K:PySem.W.Frag)(x:V)(y:V)(H:Hp)(Q:VK):Prop where
 | mk(p)(xs)(i)(v)(_:x=.ref p)(_:y=.int i)(_:SqT K H p xs)(_:atI xs i=some v)(_:Q v H)
theorem zf0:IxR X (Gb X.K):=by
 intro value slice pins s σ H x y v u Q I rx ry h hs;obtain⟨p,xs,i,z,rfl,rfl,hq,he,q⟩:=h;cases rx;obtain⟨t,rfl⟩:=ry;obtain⟨its,r,pl,hz⟩:=I.list hq;obtain⟨j,h1,h2,h3,h4,h5⟩:=zaz he;obtain⟨w,ew,rw'⟩:=r.get h2;have hl:=r.length;have hn:=Og;have fin:EP X pins σ Q w s:=⟨z,H,I,rw',q⟩;by_cases h0:0<=i
 ·have hj:i.toNat=j:=by
   rw[seqIndex_of h0 h5] at h1
   exact Option.some.inj h1
  exact item_listR pl.isList h0 (by omega) (by rw[hj];simpa using ew) fin hs
 ·have hj:(i+(its.toArray.size:Int)).toNat=j:=by
   rw[seqIndex_neg (by omega) h4] at h1
   rw[zs7,<- hl];exact Option.some.inj h1
  exact subscriptTail_builtinR (x:=w) pl.isList.typeIs slot_list_getitem.lookup
   (wpAny_getItem_list_neg (Q:=fun r s'=>r=w/\EP X pins σ Q r s') pl.isList (by omega) (by rw[zs7]<;>omega) (by omega) (by rw[hj];simpa using ew) ⟨rfl,fin⟩) hs
theorem zhu:IxR X (zht X.K):=by
 intro value slice pins s σ H x y v u Q I rx ry h hs;obtain⟨p,xs,i,z,rfl,rfl,hq,he,q⟩:=h;cases rx;obtain⟨t,rfl⟩:=ry;obtain⟨its,r,pl,hz⟩:=I.tuple hq;obtain⟨j,h1,h2,h3,h4,h5⟩:=zaz he;obtain⟨w,ew,rw'⟩:=r.get h2;have hl:=r.length;have hn:=Og;have fin:EP X pins σ Q w s:=⟨z,H,I,rw',q⟩;exact subscriptTail_builtinR (x:=w) pl.typeIs slot_tuple_getitem.lookup
  (getItem_tuple (j:=j) (Q:=fun r s'=>r=w/\EP X pins σ Q r s') pl (by omega) (by omega) (by rw[zs7,<- hl];exact h1) (by simpa using ew) ⟨rfl,fin⟩) hs
theorem An(its:List Value)(n j:Nat)(u:Value):Obj.mapSeq (·.setIfInBounds j u) { cls:=.type "list",data:=.seq its.toArray n }={ cls:=.type "list",data:=.seq (its.set j u).toArray n }:=by
 simp[Obj.mapSeq]
theorem Inv.lst(I:Inv X pins σ H s)(h:H p=some (.lst xs)) :
  ∃ (its:List Value) (n:Nat),Vals xs its/\s.heap.get? p=some { cls:=.type "list",data:=.seq its.toArray n }/\xs.length<=sizeLine:=by
 obtain⟨z,its,n,r,e⟩:=I.hok p _ h;exact⟨its,n,r,e,z⟩
theorem Inv.lstUpd{pins:List (Addr×Obj)}{σ:St}{H:Hp}{s:Shared}{p:Addr}{xs ys:List V}{its its':List Value}{n n':Nat}{f:Obj->Obj}(I:Inv X pins σ H s)(h:H p=some (.lst xs))
  (ho:s.heap.get? p=some { cls:=.type "list",data:=.seq its.toArray n }) (hf:f { cls:=.type "list",data:=.seq its.toArray n }={ cls:=.type "list",data:=.seq its'.toArray n' }) (r:Vals ys its') (hz:ys.length<=sizeLine) (t:Nat) :
  Inv X pins σ (upd H p (.lst ys)) { s with heap:=s.heap.update p f,toks:=t }:=by
 have e:(s.heap.update p f).get? p=some { cls:=.type "list",data:=.seq its'.toArray n' }:=by
  rw[Heap.get?_update_self f ho (by rw[hf]<;>rfl),hf]
 refine I.write (x:=p) (e:=p) (by rw[h];trivial) (.inl rfl) (fun b u hb q=>(Heap.get?_update_other _ _ (Ne.symm hb)).trans q) ⟨_,e⟩ ?_
 exact⟨hz,its',n',r,e⟩
def zjd:V->V->V->Hp->(Hp->Prop)->Prop:=fun o i v H Q=>∃ p xs k j,o=.ref p/\i=.int k/\H p=some (.lst xs)/\ixN xs.length k=some j/\Q (upd H p (.lst (xs.set j v)))
theorem Jr:zis X zjd:=by
 intro pins s σ H o i v ov iv u Q I ro ri rv h;obtain⟨p,xs,k,j,rfl,rfl,hp,hj,q⟩:=h;cases ro;obtain⟨t,rfl⟩:=ri;obtain⟨its,n,r,ho,hz⟩:=I.lst hp;obtain⟨h1,h2,h3,h4⟩:=zay hj;have hl:=r.length;have hn:=Og;have I':Inv X pins σ (upd H p (.lst (xs.set j v))) { s with heap:=s.heap.update p (Obj.mapSeq (·.setIfInBounds j u)) } :=
  I.lstUpd hp ho (An its n j u) (r.set rv j) (by rw[zuk];exact hz) s.toks
 by_cases h0:0<=k
 ·have hk:k.toNat=j:=by
   rw[seqIndex_of h0 h4] at h1
   exact Option.some.inj h1
  exact PySem.W.ki_setAt ho h0 (by omega) (by rw[zs7,<- hl];exact h4) (by rw[hk];exact⟨_,I',q⟩)
 ·have hk:(k+(its.toArray.size:Int)).toNat=j:=by
   rw[seqIndex_neg (by omega) h3] at h1
   rw[zs7,<- hl];exact Option.some.inj h1
  exact PySem.W.ki_setBack ho (by omega) (by rw[zs7,<- hl];exact h3) (by omega) (by rw[hk];exact⟨_,I',q⟩)
theorem Er(lo hi:Option Int)(n:Nat):(sliceBounds lo hi none n).1=((HT.sIx n 0 lo:Nat):Int)/\(sliceBounds lo hi none n).2.1=((HT.sIx n n hi:Nat):Int)/\(sliceBounds lo hi none n).2.2=1:=by
 refine⟨?_,?_,rfl⟩
 ·cases lo with
  | none=>simp[sliceBounds,HT.sIx]
  | some i =>
    simp only[sliceBounds,HT.sIx,Option.getD_none,show (1:Int)>0 by decide,if_true]
    by_cases h:i<0
    ·simp only[h,if_true]<;>omega
    ·simp only[h,if_false]<;>omega
 ·cases hi with
  | none=>simp[sliceBounds,HT.sIx]
  | some i =>
    simp only[sliceBounds,HT.sIx,Option.getD_none,show (1:Int)>0 by decide,if_true]
    by_cases h:i<0
    ·simp only[h,if_true]<;>omega
    ·simp only[h,if_false]<;>omega
theorem Gd(its:List Value)(lo hi:Option Int):slicePick its.toArray lo hi none=((its.drop (HT.sIx its.length 0 lo)).take (HT.sIx its.length its.length hi-HT.sIx its.length 0 lo)).toArray:=by
 obtain⟨h1,h2,h3⟩:=Er lo hi its.toArray.size;unfold slicePick;rw[h1,h2,h3];simp only[sliceRange_one,pick_run,zs7]<;>rfl
def zje(K:PySem.W.Frag):V->Option Int->Option Int->Hp->VK->Prop:=fun x lo hi H Q=>∃ a xs,x=.ref a/\SqL K H a xs/\∀ p,H p=none->Q (.ref p) (upd H p (.lst (Ga xs lo hi)))
theorem zf1:SlR X (zje X.K):=by
 intro pins s σ H x v vl vu lo hi sl Q I rx hs pl pu h;obtain⟨a,xs,rfl,hx,q⟩:=h;cases rx;obtain⟨its,r,ht,hz⟩:=I.list hx;have hlen:=r.length;refine⟨"list",_,slot_list_getitem.lookup,ht.isList.typeIs,?_⟩;refine wpAny_getItem_list_slice ht.isList hs pl pu .none (by simp) ?_ (by rw[zs7]<;>omega)
 rw[Gd,<- hlen];refine⟨.ref s.heap.objs.size,_,I.laid (t':=s.toks) (o:=.lst (Ga xs lo hi)) (fun b ob q=>Heap.get?_push_of_some _ q) (zs3 _) ?_,rfl,q _ (I.hok.fresh (zs3 _))⟩
 exact⟨ztb (Ck xs lo hi) hz,_,0,(r.drop (HT.sIx xs.length 0 lo)).take (HT.sIx xs.length xs.length hi-HT.sIx xs.length 0 lo),Heap.get?_push_size _ rfl⟩
def U6:V->Bool
 | .non=>true
 | .bl _=>true
 | .int _=>true
 | .str _=>true
 | _=>false
def eqV:V->V->Bool
 | .non,.non=>true
 | .bl a,.bl b=>a == b
 | .bl a,.int b=>(if a then 1 else 0) == b
 | .int a,.bl b=>a == (if b then 1 else 0)
 | .int a,.int b=>a == b
 | .str a,.str b=>a == b
 | _,_=>false
theorem zhv(ry:RelV y u)(rx:RelV x v)(fy:U6 y=true)(fx:U6 x=true):SeqAt.EqAt A s u v (eqV y x):=by
 cases y with
 | non =>
   cases ry;cases x with
   | non=>cases rx;exact SeqAt.EqAt.same _
   | bl b=>cases rx;exact SeqAt.EqAt.none_bool b
   | int b=>obtain⟨t,rfl⟩:=rx;exact SeqAt.EqAt.none_int b t
   | str b=>obtain⟨t,rfl⟩:=rx;exact SeqAt.EqAt.none_str b t
   | _=>exact absurd (show false=true from fx) ztd
 | bl a =>
   cases ry;cases x with
   | non=>cases rx;exact SeqAt.EqAt.bool_none a
   | bl b=>cases rx;exact SeqAt.EqAt.bool_bool a b
   | int b=>obtain⟨t,rfl⟩:=rx;exact SeqAt.EqAt.bool_int a b t
   | str b=>obtain⟨t,rfl⟩:=rx;exact SeqAt.EqAt.bool_str a b t
   | _=>exact absurd (show false=true from fx) ztd
 | int a =>
   obtain⟨t',rfl⟩:=ry;cases x with
   | non=>cases rx;exact SeqAt.EqAt.int_none a t'
   | bl b=>cases rx;exact SeqAt.EqAt.int_bool a t' b
   | int b=>obtain⟨t,rfl⟩:=rx;exact SeqAt.EqAt.int_int a t' b t
   | str b=>obtain⟨t,rfl⟩:=rx;exact SeqAt.EqAt.int_str a t' b t
   | _=>exact absurd (show false=true from fx) ztd
 | str a =>
   obtain⟨t',rfl⟩:=ry;cases x with
   | non=>cases rx;exact SeqAt.EqAt.str_none a t'
   | bl b=>cases rx;exact SeqAt.EqAt.str_bool a t' b
   | int b=>obtain⟨t,rfl⟩:=rx;exact SeqAt.EqAt.str_int a t' b t
   | str b=>obtain⟨t,rfl⟩:=rx;exact SeqAt.EqAt.str_str a t' b t
   | _=>exact absurd (show false=true from fx) ztd
 | _=>exact absurd (show false=true from fy) ztd
def eqU(x:V)(u:Value):Bool:=match u with
 | .none=>eqV .non x
 | .bool b=>eqV (.bl b) x
 | .int i _=>eqV (.int i) x
 | .str z _=>eqV (.str z) x
 | _=>false
theorem Ao(r:RelV y u)(f:U6 y=true):eqU x u=eqV y x:=by
 cases y with
 | non=>cases r;rfl
 | bl b=>cases r;rfl
 | int i=>obtain⟨t,rfl⟩:=r;rfl
 | str z=>obtain⟨t,rfl⟩:=r;rfl
 | _=>exact absurd (show false=true from f) ztd
theorem Nn:∀ {xs:List V} {us:List Value},Vals xs us->xs.all U6=true->us.any (eqU x)=xs.any fun y=>eqV y x
 | _,_,.nil,_=>rfl
 | y :: xs,u :: us,.cons r t,f=>by
   rw[List.all_cons,zt6] at f
   rw[zuv,zuv,Ao r f.1,Nn t f.2]
theorem S5(rx:RelV x v)(fx:U6 x=true):∀ {xs:List V} {us:List Value},Vals xs us->xs.all U6=true->∀ u∈us,SeqAt.EqAt A s u v (eqU x u)
 | _,_,.nil,_=>fun u hu=>by cases hu
 | y :: xs,u :: us,.cons r t,f=>fun u' hu=>by
   rw[List.all_cons,zt6] at f
   rcases zsz.mp hu with rfl|hu
   ·rw[Ao r f.1];exact zhv r rx f.1 fx
   ·exact S5 rx fx t f.2 u' hu
def inV(x:V)(xs:List V):Bool:=xs.any fun y=>eqV y x
inductive rIn(K:PySem.W.Frag)(neg:Bool)(x:V)(y:V)(H:Hp)(Q:VK):Prop where
 | mk(p)(xs)(_:y=.ref p)(_:(SqL K H p xs\/SqT K H p xs))(_:U6 x=true)(_:xs.all U6=true)(_:Q (.bl (if neg then !inV x xs else inV x xs)) H)
theorem zb2:OpR X (compareOp .In) (rIn X.K false):=by
 intro pins s σ H x y v u Q I rx ry h;obtain⟨p,xs,rfl,hq,fx,fs,q⟩:=h;cases ry;rcases hq with hq|hq
 ·obtain⟨its,r,pl,hz⟩:=I.list hq
  refine SeqAt.in_listAt (eqU x) pl.isList (fun w hw=>S5 rx fx r fs w (by simpa using hw)) ⟨.bl _,H,I,rfl,?_⟩
  rw[show its.toArray.any (eqU x)=its.any (eqU x) by simp,Nn r fs]
  exact q
 ·obtain⟨its,r,pl,hz⟩:=I.tuple hq
  refine SeqAt.in_tupleAt (eqU x) pl (fun w hw=>S5 rx fx r fs w (by simpa using hw)) ⟨.bl _,H,I,rfl,?_⟩
  rw[show its.toArray.any (eqU x)=its.any (eqU x) by simp,Nn r fs]
  exact q
theorem Es:OpR X (compareOp .NotIn) (rIn X.K true):=by
 intro pins s σ H x y v u Q I rx ry h;obtain⟨p,xs,rfl,hq,fx,fs,q⟩:=h;cases ry;rcases hq with hq|hq
 ·obtain⟨its,r,pl,hz⟩:=I.list hq
  refine SeqAt.notIn_listAt (eqU x) pl.isList (fun w hw=>S5 rx fx r fs w (by simpa using hw)) ⟨.bl _,H,I,rfl,?_⟩
  rw[show its.toArray.any (eqU x)=its.any (eqU x) by simp,Nn r fs]
  exact q
 ·obtain⟨its,r,pl,hz⟩:=I.tuple hq
  refine SeqAt.notIn_tupleAt (eqU x) pl (fun w hw=>S5 rx fx r fs w (by simpa using hw)) ⟨.bl _,H,I,rfl,?_⟩
  rw[show its.toArray.any (eqU x)=its.any (eqU x) by simp,Nn r fs]
  exact q
theorem Et:Vo X (.builtin "len") (fun xs H Q=>∃ p ys,xs=[.ref p]/\(SqL X.K H p ys\/SqT X.K H p ys)/\Q (.int ys.length) H):=by
 intro pins s σ H xs us Q I r h;obtain⟨p,ys,rfl,hq,q⟩:=h;obtain⟨u,rfl,rx⟩:=T1 r;cases rx;have hn:=Og;rcases hq with hq|hq
 ·obtain⟨its,r',pl,hz⟩:=I.list hq
  have hlen:=r'.length;exact Calls.call_len_list pl.isList (by simp only[zs7]<;>omega) ⟨.int ys.length,H,I.tok _,⟨s.toks+1,by rw[zs7,hlen]⟩,q⟩
 ·obtain⟨its,r',pl,hz⟩:=I.tuple hq
  have hlen:=r'.length;exact len_tuple pl (by simp only[zs7]<;>omega) ⟨.int ys.length,H,I.tok _,⟨s.toks+1,by rw[zs7,hlen]⟩,q⟩
theorem Eu:Vo X (.type "list") (fun xs H Q=>∃ p ys,xs=[.ref p]/\(SqL X.K H p ys\/SqT X.K H p ys)/\∀ l,H l=none->Q (.ref l) (upd H l (.lst ys))):=by
 intro pins s σ H xs us Q I r h;obtain⟨p,ys,rfl,hq,q⟩:=h;obtain⟨u,rfl,rx⟩:=T1 r;cases rx;have fin:∀ (its:List Value),Vals ys its->ys.length<=sizeLine->∀ (h':Heap) (c':Nat),(∀ b o',s.heap.get? b=some o'->h'.get? b=some o') ->
   h'.get? s.heap.objs.size=some { cls:=.type "list",dict:=none,data:=.seq its.toArray c',slots:=#[] }->EP X pins σ Q (.ref s.heap.objs.size) { s with heap:=h' }:=fun its r' hz h' c' kp e =>
  ⟨.ref s.heap.objs.size,_,I.laid (t':=s.toks) kp (zs3 _) (show Y9 X.prog X.w _ h' _ (.lst ys) from⟨hz,its,c',r',e⟩),rfl,q _ (I.hok.fresh (zs3 _))⟩
 rcases hq with hq|hq
 ·obtain⟨its,r',pl,hz⟩:=I.list hq
  have hlen:=r'.length;obtain⟨o,ho,hc,n,hd⟩:=pl.isList;exact call_list_seq p (.inl rfl) ho hc hd (fun h' c' kp e=>fin its r' hz h' c' kp e) (by simp only[zs7]<;>omega)
 ·obtain⟨its,r',pl,hz⟩:=I.tuple hq
  have hlen:=r'.length;obtain⟨o,ho,hc,n,hd⟩:=pl;exact call_list_seq p (.inr rfl) ho hc hd (fun h' c' kp e=>fin its r' hz h' c' kp e) (by simp only[zs7]<;>omega)
theorem Ge:Vo X (.type "tuple") (fun xs H Q=>∃ p ys,xs=[.ref p]/\((SqL X.K H p ys/\∀ l,H l=none->Q (.ref l) (upd H l (.tup ys)))\/(SqT X.K H p ys/\Q (.ref p) H))):=by
 intro pins s σ H xs us Q I r h;obtain⟨p,ys,rfl,h⟩:=h;obtain⟨u,rfl,rx⟩:=T1 r;cases rx;rcases h with ⟨hq,q⟩|⟨hq,q⟩
 ·obtain⟨its,r',pl,hz⟩:=I.list hq
  have hlen:=r'.length;refine call_tuple_list pl.isList (fun h' kp=>?_) (by simp only[zs7]<;>omega)
  have I1:Inv X pins σ H { s with heap:=h' }:=I.kept (t':=s.toks) kp
  have I2:Inv X pins σ (upd H h'.objs.size (.tup ys)) { s with heap:=h'.push { cls:=.type "tuple",data:=.seq its.toArray } } :=
   I1.laid (t':=s.toks) (fun b o e=>Heap.get?_push_of_some _ e) (zs3 _) (show Y9 X.prog X.w _ _ _ (.tup ys) from⟨hz,its,r',IsTup.new _ _⟩)
  exact⟨.ref h'.objs.size,_,I2,rfl,q _ (I1.hok.fresh (zs3 _))⟩
 ·obtain⟨its,r',pl,hz⟩:=I.tuple hq
  exact call_tuple_same pl ⟨.ref p,H,I,rfl,q⟩
def tyV(K:PySem.W.Frag)(T:String)(x:V)(H:Hp):Prop:=match x with
 | .str _=>T="str"
 | .int _=>T="int"
 | .ref p=>(T="list"/\∃ xs,SqL K H p xs)\/(T="tuple"/\∃ o,K.lookup p=some o/\o.cls=.type "tuple"/\o.dict=none) \/
   (T="dict"/\((∃ kvs,H p=some (.dK kvs))\/∃ kvs,H p=some (.dT kvs)))\/(T="set"/\∃ S n,H p=some (.set S n))
 | _=>False
theorem Ap(I:Inv X pins σ H s)(r:RelV x v)(ty:tyV X.K T x H) :
  s.TypeIs v T/\∀ a,v=.ref a->∃ ob,s.heap.get? a=some ob/\ob.dict=none:=by
 cases x with
 | str z =>
   obtain⟨t,rfl⟩:=r;cases (show T="str" from ty)
   exact⟨typeIs_str s z t,fun _ e=>nomatch e⟩
 | int i =>
   obtain⟨t,rfl⟩:=r;cases (show T="int" from ty)
   exact⟨typeIs_int s i t,fun _ e=>nomatch e⟩
 | ref p =>
   cases r;rcases ty with ⟨rfl,xs,hq⟩|⟨rfl,o,hk,hc,hd⟩|⟨rfl,hk⟩|⟨rfl,S,n,hk⟩
   ·obtain⟨its,_,pl,_⟩:=I.list hq
    refine⟨pl.isList.typeIs,fun a e=>?_⟩
    cases e;obtain⟨o,n,e,c,hd,_⟩:=pl;exact⟨o,e,hd⟩
   ·refine⟨⟨o,I.kIn p o hk,hc⟩,fun a e=>?_⟩
    cases e;exact⟨o,I.kIn _ o hk,hd⟩
   ·have z:∃ o,s.heap.get? p=some o/\o.ExactDict:=by
     rcases hk with ⟨kvs,hk⟩|⟨kvs,hk⟩
     ·obtain⟨_,_,_,_,o,_,_,e,ex,_⟩:=I.hok p _ hk
      exact⟨o,e,ex⟩
     ·obtain⟨_,_,_,_,o,_,_,e,ex,_⟩:=I.hok p _ hk
      exact⟨o,e,ex⟩
    obtain⟨o,e,ex⟩:=z;refine⟨⟨o,e,ex.1⟩,fun a e2=>?_⟩
    cases e2;exact⟨o,e,ex.2.1⟩
   ·obtain⟨o,_,_,_,e,ex,_⟩:=I.hok p _ hk
    refine⟨⟨o,e,ex.1⟩,fun a e2=>?_⟩
    cases e2;exact⟨o,e,ex.2.1⟩
 | _=>exact False.elim ty
inductive zjf(K:PySem.W.Frag)(T:String)(r:V->List V->Hp->VK->Prop)(Q:VK)(x:V)(H1:Hp):Prop where
 | mk(_:tyV K T x H1)(_:r x [] H1 Q)
def zj5(K:PySem.W.Frag)(T:String)(r:V->List V->Hp->VK->Prop)(to:TE):TE:=fun σ H Q=>to σ H fun x H1=>zjf K T r Q x H1
inductive zj6(K:PySem.W.Frag)(T:String)(r:V->List V->Hp->VK->Prop)(t:TA)(σ:L2.St)(Q:VK)(x:V)(H1:Hp):Prop where
 | mk(_:tyV K T x H1)(_:t σ H1 fun xs H2=>r x xs H2 Q)
def tBM(K:PySem.W.Frag)(T:String)(r:V->List V->Hp->VK->Prop)(to:TE)(t:TA):TE:=fun σ H Q=>to σ H fun x H1=>zj6 K T r t σ Q x H1
variable{o e:Expr}{es:List Expr}{to:TE}{t:TA}{name:Str}{apos cpos:Pos}{T id:String}{r:V->List V->Hp->VK->Prop}
theorem zdy(pa:PlainAttrs T)(slot:Slot T name id)(hty:typeOf (.builtin id)=pure (.type "method_descriptor"))(hm:MtR X id r)(ho:PE X o to)
  (hbase:attributeBase o name X.env (eval o X.env)=eval o X.env:=by rfl) (hline:(apos.endLine == cpos.line)=true:=by rfl):PE X (.Call (.Attribute o name apos) [] [] cpos) (zj5 X.K T r to):=by
 intro pins s σ H Q I h;refine wpAny_Call_method0_late hbase hline (thn (ho pins s σ H _ I h) fun v s1 ⟨x,H1,I1,r1,ty,q1⟩=>?_)
 obtain⟨h1,h2⟩:=Ap I1 r1 ty;exact⟨T,id,pa,slot,hty,h1,h2,Calls.callWith_builtin rfl (PySem.evalArgs_none (hm pins s1 σ H1 x [] v [] Q I1 r1 .nil q1))⟩
theorem zdz(pa:PlainAttrs T)(slot:Slot T name id)(hty:typeOf (.builtin id)=pure (.type "method_descriptor"))(hm:MtR X id r)(ho:PE X o to)(ha:PA X (e :: es) t)
  (hbase:attributeBase o name X.env (eval o X.env)=eval o X.env:=by rfl)
  (hfew:((backTo cpos (starEach (e :: es) X.env)).all (fun x=>!x.1)&&(backToKw cpos (keywordEach [] X.env)).all (fun x=>x.1.isSome)
   && decide ((e :: es).length+([]:List Keyword).length+(if ([]:List Keyword).isEmpty then 0 else 1)<30))=true:=by rfl)
  (hline:(apos.endLine == cpos.line)=true:=by rfl) (hs:starEach (e :: es) X.env=(false,eval e X.env) :: starEach es X.env:=by rfl) (hplain:(backTo cpos (starEach es X.env)).any (·.1)=false:=by rfl) :
  PE X (.Call (.Attribute o name apos) (e :: es) [] cpos) (tBM X.K T r to t):=by
 intro pins s σ H Q I h;refine wpAny_Call_method_late hbase hfew hline rfl (thn (ho pins s σ H _ I h) fun v s1 ⟨x,H1,I1,r1,ty,q1⟩=>?_)
 obtain⟨h1,h2⟩:=Ap I1 r1 ty;refine⟨T,id,pa,slot,hty,h1,h2,?_⟩;have hA:=ha cpos pins s1 σ H1 _ I1 q1;rw[hs] at hA ⊢
 refine Calls.callWith_builtin (by show (false||(backTo cpos (starEach es X.env)).any (·.1))=false;rw[hplain]<;>rfl) (Calls.evalArgs_plain ?_)
 exact thn hA fun us s2 ⟨vs,H2,I2,r2,q2⟩=>hm pins s2 σ H2 x vs v us Q I2 r1 r2 q2
end
def MtM(X:Cx)(id:String)(r:V->List V->Hp->VK->Prop):Prop :=
 ∀ (pins:List (Addr×Obj)) (s:Shared) (σ:St) (H:Hp) (x:V) (xs:List V) (v:Value) (us:List Value) (Q:VK),Inv X pins σ H s->RelV x v->Vals xs us->r x xs H Q ->
   wpAny (model X.prog X.w) X.A (call (.builtin id) (v :: us)) (EP X pins σ Q) X.xe s
theorem Vals.one:∀ {x:V} {us:List Value},Vals [x] us->∃ u,us=[u]/\RelV x u
 | _,_,.cons r .nil=>⟨_,rfl,r⟩
theorem Vals.zero:∀ {us:List Value},Vals [] us->us=[]
 | _,.nil=>rfl
theorem Vals.dropLast(h:Vals xs us):Vals xs.dropLast us.dropLast:=by
 induction h with
 | nil=>exact .nil
 | cons r t ih =>
   cases t with
   | nil=>exact .nil
   | cons q t'=>exact .cons r ih
theorem Vals.reverse(h:Vals xs us):Vals xs.reverse us.reverse:=by
 induction h with
 | nil=>exact .nil
 | cons r t ih=>rw[zuw,zuw];exact Vals.append ih (.cons r .nil)
theorem Aq(l:List α):l.eraseIdx (l.length-1)=l.dropLast:=by
 induction l with
 | nil=>rfl
 | cons a r ih =>
   cases r with
   | nil=>rfl
   | cons b r =>
     have e:(a :: b :: r).length-1=((b :: r).length-1)+1:=by
      have h1:(a :: b :: r).length=r.length+2:=rfl;have h2:(b :: r).length=r.length+1:=rfl;omega
     rw[e,List.eraseIdx_cons_succ,ih]
     all_goals rfl
section
variable{X:Cx}{pins:List (Addr×Obj)}{σ:St}{H:Hp}{s:Shared}{l b:Addr}{xs ys zs:List V}
theorem Inv.lset{its its':List Value}{n:Nat}{f:Array Value->Array Value}{t':Nat}(I:Inv X pins σ H s)(hH:H l=some (.lst xs))
  (e:s.heap.get? l=some { cls:=.type "list",data:=.seq its.toArray n }) (hf:f its.toArray=its'.toArray) (hv:Vals ys its') (hz:ys.length<=sizeLine) :
  Inv X pins σ (upd H l (.lst ys)) { s with heap:=s.heap.update l (Obj.mapSeq f),toks:=t' }:=by
 have q:=PySem.IsL.update e f;rw[hf] at q
 refine I.write (x:=l) (e:=l) (by rw[hH];exact trivial) (.inl rfl) (fun b' u hb hu=>(Heap.get?_update_other s.heap (Obj.mapSeq f) (Ne.symm hb)).trans hu) ⟨_,q⟩ ?_
 exact⟨hz,its',_,hv,q⟩
theorem Inv.lnew(I:Inv X pins σ H s)(hv:Vals ys its)(hz:ys.length<=sizeLine) :
  Inv X pins σ (upd H s.heap.objs.size (.lst ys)) { s with heap:=s.heap.push { cls:=.type "list",data:=.seq its.toArray },toks:=t' } :=
 I.laid (fun _ _ q=>Heap.get?_push_of_some _ q) (zs3 _) ⟨hz,its,0,hv,Heap.get?_push_size _ rfl⟩
theorem Inv.fresh(I:Inv X pins σ H s):H s.heap.objs.size=none:=I.hok.fresh (zs3 _)
theorem Inv.lstM(I:Inv X pins σ H s)(hH:H l=some (.lst xs)):xs.length<=sizeLine/\∃ (its:List Value) (n:Nat),Vals xs its/\xs.length=its.length/\s.heap.get? l=some { cls:=.type "list",data:=.seq its.toArray n }:=by
 obtain⟨z,its,n,r,e⟩:=I.hok l _ hH;exact⟨z,its,n,r,r.length,e⟩
end
section
variable{X:Cx}
inductive zf2(x:V)(vs:List V)(H:Hp)(Q:VK):Prop where
 | mk(l)(xs)(y)(_:x=.ref l)(_:vs=[y])(_:H l=some (.lst xs))(_:xs.length<sizeLine)(_:Q .non (upd H l (.lst (xs++[y]))))
theorem zb3:MtM X "list.append" zf2:=by
 intro pins s σ H x vs v us Q I rx rv h;obtain⟨l,xs,y,rfl,rfl,hH,hz,q⟩:=h;cases rx;obtain⟨u,rfl,ru⟩:=rv.one;obtain⟨z,its,n,r,hl,e⟩:=I.lstM hH;refine call_meets F.slot_list_append ⟨_,e,rfl⟩ F.entry_list_append (F.args_list_append_2 _ _) (PySem.list_append l its.toArray n u (by rw[zs7];omega)) ⟨e,?_⟩
 refine⟨.non,_,I.lset (its':=its++[u]) hH e (by simp) (r.append (.cons ru .nil)) ?_,rfl,q⟩
 rw[zsw,List.length_singleton];omega
inductive zj7(x:V)(vs:List V)(H:Hp)(Q:VK):Prop where
 | mk(l)(xs)(y)(_:x=.ref l)(_:vs=[])(_:H l=some (.lst xs))(_:xs[xs.length-1]?=some y)(_:Q y (upd H l (.lst xs.dropLast)))
theorem zhw:MtM X "list.pop" zj7:=by
 intro pins s σ H x vs v us Q I rx rv h;obtain⟨l,xs,y,rfl,rfl,hH,hy,q⟩:=h;cases rx;have hus:=rv.zero;subst hus;obtain⟨z,its,n,r,hl,e⟩:=I.lstM hH;obtain⟨u,hu,ru⟩:=r.get hy;have hy':its.toArray[its.toArray.size-1]?=some u:=by
  show its.toArray[its.length-1]?=some u;rw[<- Array.getElem?_toList,<- hl];exact hu
 refine call_meets F.slot_list_pop ⟨_,e,rfl⟩ F.entry_list_pop (F.args_list_pop_1 _) (MeetsSeq.list_pop_last l its.toArray n u hy' (by rw[zs7];omega)) ⟨e,?_⟩
 refine⟨y,_,I.lset (its':=its.dropLast) hH e ?_ r.dropLast ?_,ru,q⟩
 ·show its.toArray.eraseIdxIfInBounds (its.toArray.size-1)=its.dropLast.toArray
  rw[zs7,List.eraseIdxIfInBounds_toArray,Aq]
 ·rw[List.length_dropLast]
  omega
inductive zd0(x:V)(vs:List V)(H:Hp)(Q:VK):Prop where
 | mk(l)(xs)(_:x=.ref l)(_:vs=[])(_:H l=some (.lst xs))(_:Q .non (upd H l (.lst xs.reverse)))
theorem Ar:MtM X "list.reverse" zd0:=by
 intro pins s σ H x vs v us Q I rx rv h;obtain⟨l,xs,rfl,rfl,hH,q⟩:=h;cases rx;have hus:=rv.zero;subst hus;obtain⟨z,its,n,r,hl,e⟩:=I.lstM hH;refine call_meets F.slot_list_reverse ⟨_,e,rfl⟩ F.entry_list_reverse (F.args_list_reverse_1 _) (AutoSeq1.list_reverse_list_0 l its.toArray n (by rw[zs7];omega)) ⟨e,?_⟩
 refine⟨.non,_,I.lset (its':=its.reverse) hH e (by simp) r.reverse ?_,rfl,q⟩
 rw[List.length_reverse];omega
inductive zj8(x:V)(y:V)(H:Hp)(Q:VK):Prop where
 | mk(l)(b)(xs)(zs)(_:x=.ref l)(_:y=.ref b)(_:H l=some (.lst xs))(_:H b=some (.lst zs))(_:xs.length+zs.length<=sizeLine)(_:∀ p,H p=none->Q (.ref p) (upd H p (.lst (xs++zs))))
theorem Ml:OpR X (binaryOp .Add) zj8:=by
 intro pins s σ H x y v u Q I rx ry h;obtain⟨l,b,xs,zs,rfl,rfl,hH,hB,hz,q⟩:=h;cases rx;cases ry;obtain⟨z,its,n,r,hl,e⟩:=I.lstM hH;obtain⟨z2,its2,n2,r2,hl2,e2⟩:=I.lstM hB;refine PySem.P.add_list e e2 ?_ (by rw[zs7,zs7];omega)
 have ea:its.toArray++its2.toArray=(its++its2).toArray:=by simp
 rw[ea];exact⟨.ref _,_,I.lnew (t':=s.toks) (r.append r2) (by rw[zsw];omega),rfl,q _ I.fresh⟩
end
section
variable{prog:Program}{w:World}{A:Around}{E:Value->Shared->Prop}{s:Shared}
end
section
variable{X:Cx}
end
end L2
namespace Att
open PySem PySem.W PySem.Calls PyProof.Rows
theorem Kp:∀ (ns:List Int) (vs:List Value),WellAll P h vs (ns.map WData.int)->IntsAre vs ns:=by
 intro ns
 induction ns with
 | nil =>
   intro vs w;rw[List.map_nil] at w
   cases w;exact .nil
 | cons n ns ih =>
   intro vs w;rw[zs4] at w
   cases w with
   | cons a b =>
     cases a;exact .cons _ _ (ih _ b)
theorem zb4{l:OpenLaw}{n:Nat}(hn:l.most=some n){P:Params}{h:Heap}{args:List WData}{vals:List Value}
  (hpre:l.row.toRowW.claim.pre args=true) (hwl:WellAll P h vals args) :
  ∃ a vs ns,vals=[Value.ref a]/\args=[WData.list (ns.map WData.int)]/\h.get? a=some { cls:=.type "list",data:=.seq vs.toArray }/\IntsAre vs ns/\ns.length<=n:=by
 have hsh:WShape.hasAll [] args [.list .int]=true:=(pre_splitW hpre).1;have hc:l.pre.holds [] { args:=args }=true:=(pre_splitW hpre).2;obtain⟨d,r,rfl,h1,h2⟩:=hasAllW_cons hsh;obtain rfl:=hasAllW_nil h2;obtain⟨xs,rfl,h3⟩:=hasW_list h1;obtain⟨ns,rfl⟩:=items_int h3;have hlen:ns.length<=n:=by
  unfold OpenLaw.pre at hc
  have h4:(WTm.not (.lt (.lit (.int (n:Int))) (.len (.arg 0)))).holds [] { args:=[.list (ns.map .int)] }=true:=by
   have h4:=(holds_andW hc).1;rw[hn] at h4
   exact h4
  have h5:=condW_of h4 (w_not (w_lt w_lit (w_len_list (w_arg rfl))));rw[zst] at h5
  refine Nat.le_of_not_lt fun q=>?_
  have q':(n:Int)<((ns.length:Nat):Int):=by omega
  first
   | (rw[zsy q'] at h5;exact absurd h5 (by decide))
   | (simp at h5;omega)
 cases hwl with
 | cons w1 w2 =>
   cases w2;cases w1 with
   | list ho hall=>exact⟨_,_,ns,rfl,rfl,ho,Kp ns _ hall,hlen⟩
theorem zb5(l:OpenLaw)(args:List WData):l.row.toRowW.claim.post args (.bool true) args=true :=
 postW_of (r:=l.row.toRowW) (X:=(true == true))
  (show WShape.has [] (.bool true) .bool=true by first|rfl|decide|simp[WShape.has,WShape.arms,WShape.armsAll])
  (show (WTm.eq .res (.lit (.bool true))).value [] { args:=args,res:=some (.bool true),after:=args }=some (.bool (true == true)) from w_eq_bool (w_res rfl) w_lit) rfl
theorem attach_call{l:OpenLaw}{n:Nat}{q:Program}{loose:List Str}{XP:(Str->Option Value)->Heap->Prop}{YP:World->Heap->Prop}{d:DefRec}
  (hn:l.most=some n) (hdf:d.params.defaults=[])
  (call:∀ (w:World) (s₀ s₁:Shared) (mg mb:Str->Option Value) (fa:Addr) (o:Obj) (pm cd doc:Value) (a:Addr) (vs:List Value) (ns:List Int),
   Ground q loose [] XP w s₀ mg mb s₁.heap->YP w s₁.heap ->
   s₁.heap.get? fa=some o->o.data=.func (docDef d.name d.params d.body d.scope pm cd doc)->s₁.heap.CodeRec cd d.name->mg d.name=some (.ref fa) ->
   s₁.heap.get? a=some { cls:=.type "list",data:=.seq vs.toArray }->IntsAre vs ns->ns.length<=n->s₁.gens=#[] ->
   codeAny (model l.prog w) callerA (.call (.ref fa) ⟨[.ref a],[]⟩) (fun r s'=>r=.ok (.ret (.bool true))/\OldK s₁.heap s'.heap/\s'.os=s₁.os/\AllBare s'.gens) s₁) :
  WalkO q loose XP YP l.row.toRowW d [] (fun f vs=>PySem.call f vs):=by
 intro w s₀ s₁ mg mb G Y fa o pm cd doc dV kV ho hd hcd hD hmg hg args vals as hpre hlay hrd hwl hlo;obtain rfl:dV=.none:=Dflts.none hD hdf;obtain rfl:kV=.none:=Dflts.noKw hD;obtain⟨a,vs,ns,rfl,rfl,hobj,hints,hlen⟩:=zb4 hn hpre hwl;refine enter_call (codeAny_mono (call w s₀ s₁ mg mb fa o pm cd doc a vs ns G Y ho (fd_plain hd) hcd hmg hobj hints hlen hg) fun r s' hq=>?_)
 obtain⟨rfl,h2,h3,h4⟩:=hq;exact⟨.inl ⟨.bool true,.bool true,[],rfl,fun _=>rfl,.bool true,zb5 l _,fun _=>⟨List.Pairwise.nil,fun _ hm=>(nomatch hm)⟩⟩,h2,h3,h4⟩
section
variable{prog:Program}{w:World}{A:Around}{E:Value->Shared->Prop}{s:Shared}{K:Frag}
end
end Att
namespace L2
open PySem PySem.Spec PyProof.Rows
theorem Fp:∀ {vs:List Value} {ns:List Int},IntsAre vs ns->Vals (ns.map V.int) vs
 | _,_,.nil=>.nil
 | _,_,.cons n t h=>.cons ⟨t,rfl⟩ (Fp h)
def zhx(H:Hp):Prop:=∀ b,H b=none\/∃ o xs,H b=some (.frz o (.lst xs))
theorem zd1{P:Program}{w:World}{K:PySem.W.Frag}{mg mb:Str->Option Value}{CX:CXT}{k:Nat}{fa a:Addr}{fd:FuncData}{x:Str}{sp:Sp}{s₁:Shared}{vs:List Value}{ns:List Int}
  (KX:K.In s₁.heap) (hns:s₁.heap.Ns mainGlobals mg) (hb:s₁.heap.Ns builtinsNs mb) (hbb:∀ x:Str,x≠"__name__"->mb x=bootBuiltins x) (hlim:s₁.heap.NoLimit) (hg:s₁.gens=#[])
  (ha:s₁.heap.get? a=some { cls:=.type "list",data:=.seq vs.toArray }) (hi:IntsAre vs ns) (hl:ns.length<=sizeLine) (hr:W7 k callerA)
  (F:∀ base:Heap,K.In base->base.Ns mainGlobals mg->FnOk P w K mg base CX k fa fd [x] sp) (hbind:∀ (s:Shared) (u:Value),BindsTo s fd ⟨[u],[]⟩ [(x,u)])
  (hsp:∀ H:Hp,zhx H->SqL K H a (ns.map V.int)->sp [.ref a] H (fun v _=>v=.bl true) fun _ _ _=>False)
  (hCX:∀ H e s',CX [] H s₁ (fun _ _ _=>False) e s'->False) :
  codeAny (model P w) callerA (.call (.ref fa) ⟨[.ref a],[]⟩) (fun r s'=>r=.ok (.ret (.bool true))/\OldK s₁.heap s'.heap/\s'.os=s₁.os/\AllBare s'.gens) s₁:=by
 have rv:=Fp hi;have lenV:=hi.length;have core:∀ H:Hp,zhx H->SqL K H a (ns.map V.int)->HOk P w H s₁.heap->(∀ b,H b≠none->b=a)->(H a≠none->K.lookup a=none) ->
   codeAny (model P w) callerA (.call (.ref fa) ⟨[.ref a],[]⟩) (fun r s'=>r=.ok (.ret (.bool true))/\OldK s₁.heap s'.heap/\s'.os=s₁.os/\AllBare s'.gens) s₁:=by
  intro H hO hS hok hA hK;have base_of:∀ {b:Addr} {o:Obj},s₁.heap.get? b=some o->H b=none->(Ek s₁.heap H).get? b=some o:=fun e n=>zde e n
  have noA:∀ {b:Addr} {o:Obj} {es:Array DictEntry} {ep:Nat},s₁.heap.get? b=some o->o.data=.dict es ep->H b=none:=fun {b o es ep} e d=>by
   cases q:H b with
   | none=>rfl
   | some u =>
     have e':b=a:=hA b (by rw[q];simp)
     subst e';rw[ha] at e;cases e
     have d':Data.seq vs.toArray _=Data.dict es ep:=d;cases d'
  have nsK:∀ {b:Addr} {m:Str->Option Value},s₁.heap.Ns b m->(Ek s₁.heap H).Ns b m:=fun {b m} ⟨o,es,ep,e,d,r⟩=>⟨o,es,ep,base_of e (noA e d),d,r⟩
  have hKb:K.In (Ek s₁.heap H):=fun b o e=>base_of (KX b o e) (by
   cases q:H b with
   | none=>rfl
   | some u =>
     have e':b=a:=hA b (by rw[q];simp)
     subst e';rw[hK (by rw[q];simp)] at e;cases e)
  have hM:Mod K mg (Ek s₁.heap H):=⟨hKb,nsK hns,⟨mb,nsK hb,hbb⟩,let ⟨mc,h1,h2⟩:=hlim;⟨mc,nsK h1,h2⟩⟩;have e0:Aj P w K mg (Ek s₁.heap H) callerA [] s₁ H:=⟨rfl,hM,fun b o e=>zfg e,Nat.le_of_eq (zbr _ _),trivial,fun b hb=>absurd (show b∈([]:List Addr) from hb) (by simp),hok,.of_eq hg⟩
  refine codeAny_mono ((F _ hKb (nsK hns)).run callerA [] s₁ H ⟨[.ref a],[]⟩ [.ref a] [.ref a] _ _ hr e0 (hbind s₁ (.ref a)) (.cons rfl .nil) (hsp H hO hS)) fun r s' h=>?_
  cases r with
  | error e=>exact(hCX H e s' h).elim
  | ok fl =>
    cases fl with
    | next=>exact False.elim h
    | brk=>exact False.elim h
    | cont=>exact False.elim h
    | ret u =>
      obtain⟨v,H',os,bare,un,hok',r',q⟩:=h;have q':v=.bl true:=q;subst q';obtain rfl:u=Value.bool true:=r';refine⟨rfl,OldK.of_keep fun b o e=>?_,os,bare⟩
      cases q:H b with
      | none=>exact un.keep b o e q (by intro z;exact absurd (show b∈([]:List Addr) from z) (by simp)) (by simp)
      | some u =>
        rcases hO b with z|⟨ob,xs,z⟩
        ·rw[q] at z;cases z
        ·have z2:=un.frzs b ob _ z
         obtain⟨e1,_⟩:=hok b _ z;obtain⟨e2,_⟩:=hok' b _ z2;rw[e] at e1;cases e1
         exact e2
 cases hk:K.lookup a with
 | some o =>
   have e:=KX a o hk;rw[ha] at e
   cases e;refine core (fun _=>none) (fun _=>.inl rfl) (.inr ⟨_,vs.toArray,_,hk,rfl,rfl,rfl,by rw[zs7,lenV];exact hl,by simpa using rv⟩) (fun b u z=>by have z':(none:Option HO)=some u:=z;cases z') (fun b z=>absurd rfl z) fun z=>absurd rfl z
 | none =>
   refine core (fun b=>if b=a then some (.frz { cls:=.type "list",data:=.seq vs.toArray } (.lst (ns.map V.int))) else none) (fun b=>?_) (.inl (.inr ⟨{ cls:=.type "list",data:=.seq vs.toArray },if_pos rfl⟩)) (fun b u z=>?_) (fun b z=>?_) fun _=>hk
   ·by_cases hb:b=a
    ·exact .inr ⟨_,_,if_pos hb⟩
    ·exact .inl (if_neg hb)
   ·by_cases hb:b=a
    ·have z':=(if_pos hb).symm.trans z
     cases z';subst hb;exact⟨ha,by rw[zst];exact hl,vs,_,rv,ha⟩
    ·have z':=(if_neg hb).symm.trans z
     cases z'
   ·by_cases hb:b=a
    ·exact hb
    ·exact absurd (if_neg hb) z
theorem zf3{l:PySem.W.OpenLaw}{n k:Nat}{q:Program}{loose:List Str}{XP:(Str->Option Value)->Heap->Prop}{YP:World->Heap->Prop}{d:DefRec}{K:Params->PySem.W.Frag}{CX:World->CXT}{sp:World->Sp}{x:Str}
  (hn:l.most=some n) (hn2:n<=sizeLine) (hdf:d.params.defaults=[]) (hr:W7 k callerA)
  (hY:∀ (w:World) (h:Heap),YP w h->(K w.params).In h)
  (F:∀ (w:World) (mg:Str->Option Value) (fa:Addr) (h:Heap),(K w.params).In h->h.Ns mainGlobals mg->mg d.name=some (.ref fa) ->
   ∃ fd:FuncData,(∀ (s:Shared) (u:Value),BindsTo s fd ⟨[u],[]⟩ [(x,u)]) /\
     ∀ base:Heap,(K w.params).In base->base.Ns mainGlobals mg->FnOk l.prog w (K w.params) mg base (CX w) k fa fd [x] (sp w))
  (hsp:∀ (w:World) (H:Hp) (a:Addr) (ns:List Int),ns.length<=n->zhx H->SqL (K w.params) H a (ns.map V.int)->sp w [.ref a] H (fun v _=>v=.bl true) fun _ _ _=>False)
  (hCX:∀ (w:World) (H:Hp) (s:Shared) (e:Value) (s':Shared),CX w [] H s (fun _ _ _=>False) e s'->False) :
  PySem.W.WalkO q loose XP YP l.row.toRowW d [] (fun f vs=>PySem.call f vs):=by
 refine Att.attach_call hn hdf fun w s₀ s₁ mg mb fa o pm cd doc a vs ns G Y ho hd hcd hmg hobj hints hlen hg=>?_
 have KX:=hY w _ Y;obtain⟨fd,hb,hF⟩:=F w mg fa _ KX G.T.g hmg;exact zd1 KX G.T.g G.T.b G.T.builtins G.T.nolimit hg hobj hints (ztb hlen hn2) hr hF hb (fun H hO hS=>hsp w H a ns hlen hO hS) fun H e s'=>hCX w H s₁ e s'
def Z7(s:Stmt)(j:Nat):Stmt:=match s with
 | .ClassDef _ _ _ body _ _ _ _ _ _ _=>body.getD j (.Pass ⟨0,0,0,0⟩)
 | _=>.Pass ⟨0,0,0,0⟩
def T2(s:Stmt):Arguments:=match s with
 | .FunctionDef _ a _ _ _ _ _ _ _ _=>a
 | _=>{ posonlyargs:=[],args:=[],vararg:=none,kwonlyargs:=[],kw_defaults:=[],kwarg:=none,defaults:=[] }
def Zv(s:Stmt):List Stmt:=match s with
 | .FunctionDef _ _ b _ _ _ _ _ _ _=>b
 | _=>[]
def Zj(s:Stmt):Scope:=match s with
 | .FunctionDef _ _ _ _ _ _ sc _ _ _=>sc
 | _=>{ kind:=.function,names:=[],isGenerator:=false,isCoroutine:=false }
abbrev E0:XK:=fun _ _ _=>False
structure Fun(K:PySem.W.Frag)(x qual:Str)(st:Stmt)(f:Addr)(fd:FuncData):Prop where
 ex:∃ (oc:Value) (od:Option Addr) (kV doc pm:Value) (an:Option Addr) (cdv ct:Value) (osl:Array (Option Value)),
  fd=PySem.W.fnOf x qual (T2 st) (Zv st) (Zj st) .none kV doc pm an cdv ct/\K.lookup f=some ⟨oc,od,.func fd,osl⟩/\PySem.W.codeIn K cdv qual=true
 kp:PySem.W.keepIn K (.ref f)=true
section
variable{P:Program}{w:World}{K:PySem.W.Frag}{mg:Str->Option Value}{base:Heap}
theorem Fun.binds{x qual:Str}{st:Stmt}{f:Addr}{fd:FuncData}{ps:List Str}(F:Fun K x qual st f fd)
  (h:∀ (kV doc pm:Value) (an:Option Addr) (cdv ct:Value) (us:List Value),us.length=ps.length->bindArgs (PySem.W.fnOf x qual (T2 st) (Zv st) (Zj st) .none kV doc pm an cdv ct) ⟨us,[]⟩=pure (ps.zip us)):Sz K fd ps []:=by
 obtain⟨oc,od,kV,doc,pm,an,cdv,ct,osl,rfl,lk,hcd⟩:=F.ex;exact .all (h kV doc pm an cdv ct)
theorem Oj{x qual:Str}{st:Stmt}{f:Addr}{oc:Value}{od an:Option Addr}{osl:Array (Option Value)}{kV doc pm cdv ct:Value}(l:K.lookup f=some ⟨oc,od,.func (PySem.W.fnOf x qual (T2 st) (Zv st) (Zj st) .none kV doc pm an cdv ct),osl⟩)
  (c:PySem.W.codeIn K cdv qual=true) (k:PySem.W.keepIn K (.ref f)=true):Fun K x qual st f (PySem.W.fnOf x qual (T2 st) (Zv st) (Zj st) .none kV doc pm an cdv ct):=⟨⟨oc,od,kV,doc,pm,an,cdv,ct,osl,rfl,l,c⟩,k⟩
end
theorem Wl(hr:W7 k A):A.units+1<cLine:=zud (Nat.add_le_add_left (by decide:1<=64) _) hr.units
theorem Ub(h:n<=1000):n<sizeLine:=zud h (by decide)
section
variable{X:Cx}
theorem pv(i:Nat)(hN:X.N[i]?=some x:=by rfl)(hv:Vis X.env.scope x:=by first|exact Or.inl rfl|exact Or.inr (Or.inl rfl)|exact Or.inr (Or.inr rfl))(hd:(x == ("__debug__":Str))=false:=by decide)
  (hcd:(x == ("__classdict__":Str))=false:=by decide):PE X (.Name x pos) (tVar i):=zg6 hN hv hd hcd
theorem zb6:Vo X (.builtin "len") (fun xs H Q=>∃ a kvs,xs=[V.ref a]/\H a=some (.dK kvs)/\Q (.int kvs.length) H):=by
 intro pins s σ H xs us Q I r h;obtain⟨a,kvs,rfl,ha,q⟩:=h;obtain⟨u,rfl,ru⟩:=T1 r;cases ru;exact zi7 I (.inl ha) fun t s' I'=>⟨.int kvs.length,H,I',⟨t,rfl⟩,q⟩
end
theorem iteF{A B:Prop}(h:B):if false=true then A else B:=by
 rw[if_neg ztd];exact h
theorem iteT{A B:Prop}(h:A):if true=true then A else B:=by
 rw[if_pos rfl];exact h
theorem Cm{c A B:Prop}[Decidable c](h1:c->A)(h2:¬ c->B):if c then A else B:=by
 by_cases h:c
 ·rw[if_pos h]
  exact h1 h
 ·rw[if_neg h]
  exact h2 h
def Same(H H':Hp):Prop:=∀ b o,H b=some o->H' b=some o
theorem Same.refl(H:Hp):Same H H:=fun _ _ h=>h
theorem Same.trans(a:Same H H1)(b:Same H1 H2):Same H H2:=fun c o h=>b c o (a c o h)
theorem Same.free(e:Same H H')(h:H' l=Option.none):H l=Option.none:=by
 cases q:H l with
 | none=>rfl
 | some o =>
   rw[e l o q] at h
   cases h
theorem Same.seq{K:PySem.W.Frag}{H H':Hp}{a:Addr}{xs:List V}(e:Same H H')(h:SqL K H a xs):SqL K H' a xs:=by
 rcases h with (h|⟨o,h⟩)|h
 ·exact .inl (.inl (e _ _ h))
 ·exact .inl (.inr ⟨o,e _ _ h⟩)
 ·exact .inr h
section
variable{κ:Type}[DecidableEq κ]
theorem Ew:∀ {l:List κ} {k:κ},l.Nodup->¬ k∈l->(l++[k]).Nodup
 | [],k,_,_=>by simp
 | a :: r,k,h,hk=>by
   obtain⟨h1,h2⟩:=ztn.mp h;show (a :: (r++[k])).Nodup;refine ztn.mpr ⟨fun m=>?_,Ew h2 fun m=>hk (zsz.mpr (Or.inr m))⟩
   rcases zs6.mp m with q|q
   ·exact h1 q
   ·exact hk (zsz.mpr (Or.inl (zsx.mp q).symm))
theorem zb7{p:κ×V}{r:List (κ×V)}{k:κ}(e:p.1=k):Wb (p :: r) k=Wb r k:=by
 unfold Wb;rw[zue,if_neg (by simp[e])]
theorem zb8{p:κ×V}{r:List (κ×V)}{k:κ}(e:¬ p.1=k):Wb (p :: r) k=p :: Wb r k:=by
 unfold Wb;rw[zue,if_pos (by simp[e])]
end
section
variable{X:Cx}{pins:List (Addr×Obj)}{σ:List (Option V)}{H H':Hp}{s:Shared}{h':Heap}
end
section
variable{P:Program}{w:World}{H H':Hp}{h h' g:Heap}{a:Addr}{o:HO}
theorem Y9.there(x:Y9 P w H h a o):∃ ob,h.get? a=some ob:=by
 cases o with
 | lst xs=>obtain⟨_,_,_,_,e⟩:=x;exact⟨_,e⟩
 | tup xs=>obtain⟨_,_,_,ob,e,_⟩:=x;exact⟨_,e⟩
 | dK kvs=>obtain⟨_,_,_,_,o,_,_,e,_⟩:=x;exact⟨_,e⟩
 | dT kvs=>obtain⟨_,_,_,_,o,_,_,e,_⟩:=x;exact⟨_,e⟩
 | set S n=>obtain⟨o,_,_,_,e,_⟩:=x;exact⟨_,e⟩
 | ins C dx fs=>obtain⟨_,_,_,e,_⟩:=x;exact⟨_,e⟩
 | own y=>obtain⟨_,e⟩:=x;exact⟨_,e⟩
 | xd fs=>obtain⟨_,⟨_,_,_,e,_⟩,_⟩:=x;exact⟨_,e⟩
 | rng lo hi=>obtain⟨_,_,_,e⟩:=x;exact⟨_,e⟩
 | frz ob u=>obtain⟨e,_⟩:=x;exact⟨_,e⟩
 | tbl ps=>exact⟨_,(show h.get? a=some _ from x)⟩
 | met f y=>exact⟨_,(show h.get? a=some _ from x)⟩
 | ext φ=>obtain⟨_,⟨_,e⟩,_⟩:=x;exact⟨_,e⟩
theorem HOk.none_of(x:HOk P w H h)(e:h.get? a=none):H a=none:=by
 cases q:H a with
 | none=>rfl
 | some u =>
   obtain⟨_,z⟩:=(x a u q).there;rw[e] at z;cases z
theorem Cn(e:(PySem.W.hideAll h as).get? a=none):h.get? a=none\/a∈as:=by
 by_cases m:a∈as
 ·exact .inr m
 ·cases q:h.get? a with
  | none=>exact .inl rfl
  | some o=>rw[PySem.W.hideAll_get as q m] at e;cases e
end
structure Fly(g:Heap)(H:Hp)(h:Heap)(e T:Addr)(cls:Value):Prop where
 ex:∃ oe vs oT ts,h.get? e=some oe/\oe.cls=cls/\oe.data=.fields vs/\vs[1]?=some (.ref T)/\T≠e/\h.get? T=some oT/\oT.data=.fields ts/\ts[3]?=some .none
 newE:g.get? e=none
 newT:g.get? T=none
 freeE:H e=none
 freeT:H T=none
def CX1(P:Program)(w:World):CXT:=fun outer H s E e s'=>∃ a T cls H',e=.ref a/\s'.os=s.os/\AllBare s'.gens/\Un (frs outer) [] H H' s.heap s'.heap/\HOk P w H' s'.heap/\Fly s.heap H' s'.heap a T cls/\E cls none H'
section
variable{X:Cx}{pins:List (Addr×Obj)}{σ:St}{H H':Hp}{s s':Shared}{h':Heap}{e T:Addr}{cls:Value}
structure Ol(X:Cx)(ch:List Addr)(h h':Heap):Prop where
 keep:∀ b o,h.get? b=some o->b∉ch->b∉frs X.stack->h'.get? b=some o
 slot:∀ b o,h.get? b=some o->b∉ch->b∈frs X.stack->∃ sl,h'.get? b=some { o with slots:=sl }
theorem Ol.of(I:Inv X pins σ H s)(st:(PySem.W.hideAll s.heap (as++frs X.stack)).StaysIn h')(up:s.heap.UpToSlots h'):Ol X as s.heap h' where
 keep:=fun b o q n1 n2=>st b o (PySem.W.hideAll_get _ q (by simp[n1,n2]))
 slot:=fun b o q _ m=>by
  obtain⟨_,o',ho,nf⟩:=I.stack.mem m;rw[q] at ho;cases ho
  exact up b o q nf
theorem Ol.hok(I:Inv X pins σ H s)(t:Ol X ch s.heap h')(hch:∀ b∈ch,H b=none):HOk X.prog X.w H h':=fun b u q=>by
 have tr:∀ c v,H c=some v->c∉ch/\c∉frs X.stack:=fun c v z=>⟨(fun m=>by rw[hch c m] at z;cases z),(fun m=>by rw[I.stkFree c m] at z;cases z)⟩
 refine(I.hok b u q).stay (fun c v hc r=>?_) (fun _ z=>z) fun _ _ z=>z
 rcases hc with z|z
 ·subst z;exact t.keep c v r (tr c u q).1 (tr c u q).2
 ·exact t.keep c v r (tr c _ z).1 (tr c _ z).2
theorem Inv.raised(I:Inv X pins σ H s)(ho:s'.os=s.os)(hg:AllBare s'.gens)(u:Un (frs X.stack) [] H H' s.heap s'.heap)(hok:HOk X.prog X.w H' s'.heap):Inv X pins σ H' s' :=
 I.call' ho u hok hg (fun _ z=>nomatch z)
theorem Fly.flying(J:Inv X pins σ H s)(hl:s.heap.FunFrames X.base l)(hsub:∀ b∈frs l,b∈frs X.stack)(F:Fly g H s.heap e T cls) :
  ∃ a0,Heap.FlyingW (PySem.W.hideAll s.heap ([e,T]++frs X.stack)) l e cls a0 s.heap:=by
 obtain⟨oe,vs,oT,ts,e1,e2,e3,e4,e5,e6,e7,e8⟩:=F.ex;have sz:0<vs.size:=zud (ztm _) (Array.getElem?_eq_some_iff.mp e4).1;refine⟨vs[0],fun b o q=>PySem.W.of_hideAll _ q,PySem.W.hideAll_none _ (by simp),PySem.W.funFrames_hide hl fun env he a ha=>?_,oe,vs,T,oT,ts,e1,⟨e2,?_⟩,e3,e4,PySem.W.hideAll_none _ (by simp),e5,e6,e7,e8⟩
 ·have:a∈frs l:=zu1.mpr ⟨env,he,ha⟩
  simp[hsub a this]
 ·exact Array.getElem?_eq_getElem sz
theorem Fly.again(J:Inv X pins σ H s)(F:Fly g H s.heap e T cls)(hg:∀ b,s.heap.get? b=none->g.get? b=none)
  (up:s.heap.UpToSlots h') (st:(PySem.W.hideAll s.heap ([e,T]++frs X.stack)).StaysIn h') (tr:h'.TracedW (PySem.W.hideAll s.heap ([e,T]++frs X.stack)) e cls a0):∃ T',Fly g H h' e T' cls:=by
 obtain⟨oe,vs,T',oT,ts,f1,⟨f2,_⟩,f3,f4,f5,f6,f7,f8,f9⟩:=tr;refine⟨T',⟨oe,vs,oT,ts,f1,f2,f3,f4,f6,f7,f8,f9⟩,F.newE,?_,F.freeE,?_⟩
 all_goals
  rcases Cn f5 with z|z
  ·first
    | exact hg _ z
    | exact J.hok.none_of z
  ·simp only[zs6,zsz,zt2,or_false] at z
   rcases z with (z|z)|z
   ·exact absurd z f6
   ·subst z
    first
     | exact F.newT
     | exact F.freeT
   ·obtain⟨_,o,ho,nf⟩:=J.stack.mem z
    obtain⟨sl,q⟩:=up T' o ho nf;rw[f7] at q
    cases q;exact absurd f8 (nf _)
end
section
variable{P:Program}{w:World}{K:PySem.W.Frag}{mg:Str->Option Value}{base:Heap}{N:List Str}{qual:Str}{scope:Scope}{f:Addr}{cd:Value}{A:Around}{outer:List Env}{s0:Shared}{H0:Hp}{E:XK}
 {pins:List (Addr×Obj)} {σ:St} {H H':Hp} {s s':Shared} {h':Heap} {e T:Addr} {cls:Value}
theorem Co(hx:X.ex=[])(J:Inv X pins σ H s)(hst:X.stack=X.env :: X.outer)(hf:X.env.frame=some X.env.locals)(t:Ol X ch s.heap h')(hch:∀ b∈ch,X.s₀.heap.get? b=none) :
  Un X.fs [] X.H₀ H X.s₀.heap h':=by
 have nb:∀ b o,X.s₀.heap.get? b=some o->b∉ch:=fun b o q m=>by rw[hch b m] at q;cases q
 have mem:∀ b,b∈frs X.stack↔b=X.env.locals\/b∈X.fs:=fun b=>by
  unfold Cx.fs frs;rw[hst,zuz,hf];exact zsz
 have neL:∀ b o,X.s₀.heap.get? b=some o->b≠X.env.locals:=fun b o q=>ztk (ztg (Heap.lt_size q) J.ok.above)
 have nx:∀ b:Addr,b∉X.ex:=fun b=>by rw[hx];simp
 refine⟨fun b o q n hb _=>?_,fun b o q n hb _=>?_,fun b o q n _=>J.base.free b o q n (nx b),fun b o q _=>?_,J.base.tups,J.base.frzs,J.base.tbls⟩
 ·refine t.keep b o (J.base.keep b o q n hb (nx b)) (nb b o q) fun m=>?_
  exact((mem b).mp m).elim (neL b o q) hb
 ·obtain⟨sl,z⟩:=J.base.slot b o q n hb (nx b)
  obtain⟨sl',z'⟩:=t.slot b _ z (nb b o q) ((mem b).mpr (.inr hb));exact⟨sl',z'⟩
 ·obtain⟨o',z⟩:=J.base.there b o q (nx b)
  by_cases m:b∈frs X.stack
  ·obtain⟨_,z'⟩:=t.slot b o' z (nb b o q) m;exact⟨_,z'⟩
  ·exact⟨o',t.keep b o' z (nb b o q) m⟩
theorem Zk:Vc (CX1 P w) (cxOf (CX1 P w) P w K mg base N qual scope f cd A outer s0 H0 E) E:=by
 intro pins σ H s ev s' I h;obtain⟨a,T,cls,H',q0,ho,hg,u,hok,F,hE⟩:=h;subst q0;have J:=I.raised ho hg u hok;obtain⟨a0,hfl⟩:=F.flying J J.stack (fun _ z=>z)
 refine wpAny_leaves_onW (base:=PySem.W.hideAll s'.heap ([a,T]++frs _)) J.ok.frames rfl hfl fun h2 hfl2 up=>?_
 have old:∀ b,s.heap.get? b=none->s0.heap.get? b=none:=fun b n=>by
  cases q:s0.heap.get? b with
  | none=>rfl
  | some o =>
    obtain⟨_,z⟩:=I.base.there b o q (by show b∉([]:List Addr);simp)
    rw[n] at z;cases z
 have old2:∀ b,s'.heap.get? b=none->s0.heap.get? b=none:=fun b n=>by
  cases q:s0.heap.get? b with
  | none=>rfl
  | some o =>
    obtain⟨_,z⟩:=J.base.there b o q (by show b∉([]:List Addr);simp)
    rw[n] at z;cases z
 have t:=Ol.of (as:=[a,T]) J hfl2.1 up;have F0:Fly s0.heap H' s'.heap a T cls:=⟨F.ex,old _ F.newE,old _ F.newT,F.freeE,F.freeT⟩;obtain⟨T',F'⟩:=F0.again J old2 up hfl2.1 hfl2.2.2.2;refine⟨a,T',cls,H',rfl,J.os,J.bare,Co rfl J rfl rfl t ?_,t.hok J ?_,F',hE⟩
 ·intro b hb
  rcases zsz.mp hb with rfl|hb
  ·exact F0.newE
  ·rcases zsz.mp hb with rfl|hb
   ·exact F0.newT
   ·cases hb
 ·intro b hb
  rcases zsz.mp hb with rfl|hb
  ·exact F.freeE
  ·rcases zsz.mp hb with rfl|hb
   ·exact F.freeT
   ·cases hb
def zgy(X:Cx)(E:XK):Prop:=∀ (pins:List (Addr×Obj)) (σ:St) (H:Hp) (s:Shared) (h':Heap) (e C:Addr) (args:List Value),Inv X pins σ H s->Heap.MadeExcOf s.heap h' e (.ref C) args->E (.ref C) none H->X.xe (.ref e) { s with heap:=h' }
theorem Xm:zgy (cxOf (CX1 P w) P w K mg base N qual scope f cd A outer s0 H0 E) E:=by
 intro pins σ H s h1 e C args I hm hE;refine wpAny_leaves_madeW (base:=PySem.W.hideAll s.heap ([]++frs _)) (h:=s.heap) I.ok.frames rfl (fun b o q=>PySem.W.of_hideAll _ q)
  (PySem.W.funFrames_hide I.stack fun env he a ha=>by
   have:a∈frs _:=zu1.mpr ⟨env,he,ha⟩
   simpa using this) hm fun h2 t hfl _ _ up=>?_
 have up2:s.heap.UpToSlots h2:=(Heap.UpToSlots.of_keeps hm.keeps).trans up;have tt:=Ol.of (as:=[]) I hfl.1 up2;have old2:∀ b,s.heap.get? b=none->s0.heap.get? b=none:=fun b n=>by
  cases q:s0.heap.get? b with
  | none=>rfl
  | some o =>
    obtain⟨_,z⟩:=I.base.there b o q (by show b∉([]:List Addr);simp)
    rw[n] at z;cases z
 obtain⟨oe,vs,T',oT,ts,f1,⟨f2,_⟩,f3,f4,f5,f6,f7,f8,f9⟩:=hfl.2.2.2;have nT:s.heap.get? T'=none:=by
  rcases Cn f5 with z|z
  ·exact z
  ·have z':T'∈frs (cxOf (CX1 P w) P w K mg base N qual scope f cd A outer s0 H0 E).stack:=(zs6.mp z).resolve_left (by simp)
   obtain⟨_,o,ho,nf⟩:=I.stack.mem z';obtain⟨sl,q⟩:=up2 T' o ho nf;rw[f7] at q
   cases q;exact absurd f8 (nf _)
 refine⟨e,T',.ref C,H,rfl,I.os,I.bare,Co rfl I rfl rfl tt (fun _ z=>nomatch z),tt.hok I (fun _ z=>nomatch z),⟨⟨oe,vs,oT,ts,f1,f2,f3,f4,f6,f7,f8,f9⟩,old2 _ hm.new,old2 _ nT,I.hok.none_of hm.new,I.hok.none_of nT⟩,hE⟩
end
structure Qk(K:PySem.W.Frag)(mg:Str->Option Value)(x:Str)(C:Addr):Prop where
 nm:mg x=some (.ref C)
 ex:PySem.W.excIn K C [.type "ValueError",.type "Exception",.type "BaseException",.type "object"] "ValueError.__new__"=true
theorem Qk.own{K:PySem.W.Frag}{mg:Str->Option Value}{x:Str}{C:Addr}{h:Heap}(c:Qk K mg x C)(X:K.In h):OwnCls x C [.type "ValueError",.type "Exception",.type "BaseException",.type "object"] "ValueError.__new__" mg h:=by
 refine⟨c.nm,?_⟩;have q:=c.ex;unfold PySem.W.excIn at q
 split at q
 ·rename_i dd cd sl ho
  split at q
  ·rename_i C' bm k0 k1 k2 k3 n k5 hm hs
   simp only[zt6,beq_iff_eq,Bool.not_eq_true'] at q
   obtain⟨⟨⟨⟨⟨rfl,rfl⟩,hdel⟩,ht⟩,hok⟩,hni⟩:=q;obtain⟨nm,bs,mro,ns,qn,hd,sn,sub,ab,col,del⟩:=cd;dsimp only at hm hdel hok hni
   subst hm hdel;have hsl:sl=#[k0,k1,k2,k3,some (.builtin "ValueError.__new__"),k5]:=by
    obtain⟨l⟩:=sl;simp only at hs
    rw[hs]
   subst hsl;exact⟨bm,ns,nm,qn,bs,hd,sn,sub,ab,col,dd,k0,k1,k2,k3,k5,_,X _ _ ho,.of_isNs (PySem.W.isNs_of_in X hok),PySem.W.nsMap_none_of_in X hok hni,PySem.W.tail_of_in X ht⟩
  ·cases q
 ·cases q
inductive zf4(C:Addr)(E:XK)(vs:List V)(H1:Hp):Prop where
 | mk(_:vs.length<=sizeLine)(_:E (.ref C) none H1)
def zhy(C:Addr)(E:XK)(t:TA):TS:=fun _ σ H=>t σ H fun vs H1=>zf4 C E vs H1
theorem Xn{X:Cx}{x:Str}{C:Addr}{E:XK}{e₀:Expr}{rest:List Expr}{t:TA}{np cpos pos:Pos}(hl:zgy X E)(hc:X.calm=true)(c:Qk X.K X.mg x C)(hg:Gl X x)(ha:PA X (e₀ :: rest) t)
  (he:starEach (e₀ :: rest) X.env=(false,eval e₀ X.env) :: starEach rest X.env:=by rfl) (hplain:(backTo cpos (starEach rest X.env)).any (·.1)=false:=by rfl) (hd:(x == ("__debug__":Str))=false:=by decide) :
  PS X (.Raise (some (.Call (.Name x np) (e₀ :: rest) [] cpos)) none pos) (zhy C E t):=by
 intro pins s σ H D I h;have O:=c.own I.mod.kin;obtain⟨tl,N,nm,q,bs,hdct,sn,sub,ab,col,dd,k0,k1,k2,k3,k5,mN,hC,hN,hni,T⟩:=O.obj;refine wpAny_Raise_call_subT (C:=C) (nm:=nm) (q:=q) (N:=N) (bs:=bs) (bm:=tl) (hdct:=hdct) (sn:=sn) (sub:=sub) (ab:=ab) (col:=col) (dd:=dd) (k0:=k0) (k1:=k1) (k2:=k2) (k3:=k3) (k5:=k5)
  PySem.F.excBase_ValueError (mN:=mN) (T.hasType (by rfl)) (I.ok.hd hc) (by rw[he];show (false||(backTo cpos (starEach rest X.env)).any (·.1))=false;rw[hplain];rfl) hni (Nj I hg c.nm ⟨rfl,?_⟩ hd)
 have hp:=ha cpos pins s σ H _ I h;rw[he] at hp ⊢
 refine Calls.evalArgs_plain (wpAny_mono hp (fun us s2 h2=>?_) fun _ _ y=>y)
 obtain⟨vs,H1,I1,r,hlen,hE⟩:=h2;exact⟨rfl,by rw[<- r.length];exact hlen,I1.bk _ _ hC,hN.keeps I1.bk,T.keeps I1.bk,fun h' e hm=>hl _ _ _ _ _ _ _ _ I1 hm hE⟩
structure zkh(K:PySem.W.Frag)(CB:Addr):Prop where
 ty:PySem.W.typeIn K (.ref CB)=some (.type "type")
 cl:(PySem.W.clsIn K CB).isSome=true
 bx:PySem.W.mroIn K CB (.type "BaseException")=some true
end L2
namespace L2
open PySem PySem.Spec PyProof.Rows PySem.W PySem.Calls PySem.Builtin PySem.Builtin.ObjectAttr PySem.Builtin.Getset_descriptor
def zjg(a:Addr)(cls:Value):HO:=.ext fun h=>∃ o vs,h.get? a=some o/\o.cls=cls/\o.data=.fields vs
structure zb9(K:Frag)(D:Addr):Prop where
 ga:findIn K (.ref D) "__getattribute__"=some (some (.builtin "BaseException.__getattribute__"))
 gk:findIn K (.ref D) "__getattr__"=some none
 cl:(clsIn K D).isSome=true
 at_:findIn K (.ref D) "__class__"=some (some (.builtin "object.__class__"))
 gt:specialIn K (.builtin "object.__class__") "__get__"=some (some (.builtin "getset_descriptor.__get__"))
 tk:takesIn K (.builtin "object.__class__")=some true
 mo:mroIn K D (.type "object")=some true
 mx:mroIn K D (.type "BaseException")=some true
section
variable{prog:Program}{w:World}{A:Around}{E:Value->Shared->Prop}{s:Shared}{K:Frag}{x D:Addr}
theorem zd2(X:K.In h)(c:zb9 K D):Looks M h (find (.ref x) (.ref D) "__class__") (.bind (.builtin "getset_descriptor.__get__") (.builtin "object.__class__")):=by
 have L1:=looks_findIn (M:=M) X c.at_;have L2:Looks M h (getOf (some (.builtin "object.__class__"))) (some (.builtin "getset_descriptor.__get__")):=looks_specialIn X c.gt;have L3:=looks_takesIn (M:=M) X c.tk;exact L1.andThen (L2.andThen ((show Looks M h (dataDescriptor? (some (.builtin "object.__class__")) (some (.builtin "getset_descriptor.__get__"))) (some (.builtin "getset_descriptor.__get__",.builtin "object.__class__")) from L3.andThen .now).andThen (Looks.tag .now)))
theorem As(X:K.In s.heap)(hx:s.heap.get? x=some o)(hc:o.cls=.ref D)(c:zb9 K D)(q:R (.ok (.ret (.ref D))) s) :
  codeAny (model prog w) A (.call (.builtin "getset_descriptor.__get__") ⟨[.builtin "object.__class__",.ref x,.ref D],[]⟩) R s:=by
 obtain⟨hh,g,d,t,os⟩:=s;have L0:Looks (model prog w) hh (typeOf (.ref x)) (.ref D):=hc▸(Looks.ld hx).andThen .now;have Lm:=looks_mroIn (M:=model prog w) X c.mo;refine codeAny_call_builtin KF.slot_gs.plain KF.entry_gs (KF.slot_gs.check _ _ _ _ _ _ _ _ KF.type_class (KF.args_gs _ _ _) ?_);unfold Builtin.«getset_descriptor.__get__» descrGet;rw[dga_obj];refine wpAny_bind (wpAny_pure ?_);unfold descrGetter descrCheckInstance descrNameAndClass isInstance;simp only[KF.owner_class]
 repeat lk
 refine⟨Code.quiet_builtin _ (by decide +kernel),codeAny_builtin KF.entry_class ?_⟩
 unfold Builtin.«object.__class__» shownTypeOf
 repeat lk
 exact q
theorem zhz(X:K.In s.heap)(hx:s.heap.get? x=some o)(hc:o.cls=.ref D)(c:zb9 K D)(q:Q (.done (.ret (.ref D))) s) :
  wpAny (model prog w) A (Builtin.«object.__getattribute__» ⟨[.ref x,.str "__class__" tk],[]⟩) Q E s:=by
 have L0:Looks (model prog w) s.heap (typeOf (.ref x)) (.ref D):=hc▸(Looks.ld hx).andThen .now;have Lf:=zd2 (x:=x) (M:=model prog w) X c;have e1:slotArgs "__getattribute__" 1 ⟨[.ref x,.str "__class__" tk],[]⟩=pure (.ref x,[.str "__class__" tk]):=rfl;unfold Builtin.«object.__getattribute__»;rw[e1];refine wpAny_bind (wpAny_pure ?_);refine wpAny_bind (show wpAny _ _ (attrName (.str "__class__" tk)) _ _ _ from wpAny_pure ?_)
 obtain⟨hh,g,d,t,os⟩:=s;refine wpAny_bind (L0.at (wpAny_bind (Lf.at ?_)))
 show wpAny _ _ (bindTo _ _ _ _) _ _ _;unfold bindTo;dsimp only;refine wpAny_bind (wpAny_holding (wpAny_call (As X hx hc c ?_)));exact wpAny_pure q
theorem Gf(X:K.In s.heap)(hx:s.heap.get? x=some o)(hc:o.cls=.ref D)(c:zb9 K D)(q:Q (some (.ref D)) { s with toks:=s.toks+1 }) :
  wpAny (model prog w) A (getAttr? (.ref x) "__class__") Q E s:=by
 obtain⟨hh,g,d,t,os⟩:=s;have L0:Looks (model prog w) hh (typeOf (.ref x)) (.ref D):=hc▸(Looks.ld hx).andThen .now;have La:=looks_findIn (M:=model prog w) X c.ga;have Lk:=looks_findIn (M:=model prog w) X c.gk;have Lx:=looks_mroIn (M:=model prog w) X c.mx;have hb:=PySem.F.attr_ValueError.ga.bind (.ref x);have hne0:(Value.builtin "BaseException.__getattribute__" == Value.builtin "object.__getattribute__")=false:=by decide +kernel
 have hne:(onTheHeap (Value.ref D)&&Value.builtin "BaseException.__getattribute__" == Value.builtin "object.__getattribute__")=false:=by rw[hne0];rfl
 unfold getAttr? getAttrBy? getAttrBy;refine wpAny_bind (wpAny_mkText (wpAny_bind (wpAny_attempt (wpAny_holding (wpAny_bind (L0.at (wpAny_bind (La.at ?_))))))))
 dsimp only;rw[if_neg (by rw[hne];decide)]
 unfold getAttrByItsOwn;refine wpAny_bind (show wpAny _ _ (typeLookup (.ref D) "__getattr__") _ _ _ from Lk.at ?_)
 refine wpAny_bind (wpAny_attempt (wpAny_holding ?_));show wpAny _ _ (boundAndCalled _ _ _) _ _ _;unfold boundAndCalled;rw[hb];refine wpAny_bind (wpAny_pure (wpAny_call ?_));refine codeAny_call_builtin PySem.F.attr_ValueError.ga.plain PySem.F.entry_bexc_ga ?_;have hk:builtinKind "BaseException.__getattribute__"=some .slot:=by decide +kernel
 have hsplit:splitId "BaseException.__getattribute__"=some ("BaseException","__getattribute__"):=by decide +kernel
 have ha:=PySem.F.args_bexc_ga (.ref x) (.str "__class__" t);simp only[checkBuiltinCall,hk,hsplit,List.cons_append,List.nil_append];unfold isInstance
 repeat (first|with_reducible refine zhz X hx hc c ?_|lk)
 exact q
theorem zd3(c:zb9 K D):KitX K (.ref x) (.ref D) (fun h=>∃ o,h.get? x=some o/\o.cls=.ref D) where
 ty:=fun M h _ p=>by obtain⟨o,hx,hc⟩:=p;exact hc▸(Looks.ld hx).andThen .now
 it:=fun _ _ X _=>by
  have z:=c.cl;unfold clsIn at z
  split at z
  ·rename_i ho
   intro A' Q' E' s' k q;unfold isType loadHead;exact wpAny_bind (wpAny_loadPart (k _ _ (X _ _ ho)) (wpAny_pure q))
  ·cases z
 ne:=fun h tp dd its n sl X htp=>by
  refine Bool.eq_false_iff.mpr fun q=>?_
  have e:D=tp:=Value.ref.inj (beq_iff_eq.mp q);subst e;have z:=c.cl;unfold clsIn at z
  split at z
  ·rename_i ho
   have z:=(X _ _ ho).symm.trans htp;cases z
  ·cases z
 ca:=fun X p q=>by obtain⟨o,hx,hc⟩:=p;exact Gf X hx hc c q
end
inductive TyX(K:Frag)(H:Hp)(x:V)(t:Value):Prop where
 | of (h:Mj K H x t):TyX K H x t
 | exc {a D:Addr} (ex:x=.ref a) (et:t=.ref D) (h:H a=some (zjg a (.ref D))) (c:zb9 K D):TyX K H x t
def zjh:V->Value
 | .ty n=>.type n
 | .ref a=>.ref a
 | _=>.none
inductive zji(K:Frag)(xs:List V)(H:Hp)(Q:VK):Prop where
 | mk(x)(c)(t)(b)(_:xs=[x,c])(_:TyX K H x t)(_:((∃ n,c=.ty n)\/∃ a,c=.ref a))(_:kitOne K t (zjh c)=some b)(_:Q (.bl b) H)
theorem zd4:Vo X (.builtin "isinstance") (zji X.K):=by
 intro pins s σ H xs us Q I r h;obtain⟨x,c,t,b,rfl,ty,hc,hk,q⟩:=h;obtain⟨u,w',rfl,r1,r2⟩:=zdl r;have e:w'=zjh c:=by
  rcases hc with ⟨n,rfl⟩|⟨a,rfl⟩
  ·exact r2
  ·exact r2
 subst e;cases ty with
 | of ty=>exact zby I r1 ty hk fun tk=>⟨.bl b,H,I.tok tk,rfl,q⟩
 | @exc a D ex et ha cl =>
   subst ex et;cases (show u=Value.ref a from r1)
   obtain⟨⟨o,vs,ho,hcl,_⟩,_⟩:=(show Y9 X.prog X.w H s.heap a (zjg a (.ref D)) from I.hok a _ ha)
   exact kia_one (zd3 cl) I.kIn ⟨o,ho,hcl⟩ hk (fun z=>nomatch z) fun tk=>⟨.bl b,H,I.tok tk,rfl,q⟩
section
variable{X:Cx}{pins:List (Addr×Obj)}{σ:St}{H:Hp}{s:Shared}
end
section
variable{X:Cx}{pins pins':List (Addr×Obj)}{σ σ' lk:St}{H:Hp}{s:Shared}{E:Value->Shared->Prop}{e:Addr}
end
structure zkj(X:Cx):Prop where
 ex:X.ex=[]
 lk:X.lk=[]
 st:X.stack=X.env :: X.outer
 fr:X.env.frame=some X.env.locals
section
variable{X:Cx}{pins:List (Addr×Obj)}{σ:St}{H:Hp}{s:Shared}{E:Value->Shared->Prop}
end
section
variable{X:Cx}{as:List Nat}{i:Nat}{CB:Addr}{tb:XK->TS}{th:TS}{body suite:List Stmt}{b₀:Stmt}{n cx:Str}{p hpos pos:Pos}
end
section
variable{P:Program}{w:World}{K:PySem.W.Frag}{mg:Str->Option Value}{base:Heap}
theorem Fun.okX{x qual:Str}{st:Stmt}{f:Addr}{fd:FuncData}{N ps:List Str}{k:Nat}{sp:Sp}(F:Fun K x qual st f fd)(S:Zl N ps (Zj st))(len:∀ vs H Q E,sp vs H Q E->vs.length=ps.length)
  (hbody:∀ (cdv:Value) (A:Around) (outer:List Env) (s:Shared) (H:Hp) (vs:List V) (Q:VK) (E:XK),W7 k (A.deeper (envOfC qual (Zj st) s.heap.objs.size f cdv))->sp vs H Q E ->
   ∃ t,PSs (cxOf (CX1 P w) P w K mg base N qual (Zj st) f cdv A outer s H E) (Zv st) t/\t { nx:=fun _ H'=>Q .non H',rt:=Q } (Nl N vs) H):FnOk P w K mg base (CX1 P w) (k+1) f fd ps sp:=by
 obtain⟨oc,od,kV,doc,pm,an,cdv,ct,osl,rfl,lk,hcd⟩:=F.ex;exact zi5 lk hcd S len fun A outer s H vs Q E hr hsp=>hbody cdv A outer s H vs Q E hr hsp
end
def Gg{α:Type}(p:α->Prop):List α->Prop
 | []=>True
 | a :: r=>p a/\Gg p r
theorem Gg.get:∀ {l:List α} {a:α},Gg p l->a∈l->p a
 | _ :: _,_,h,.head _=>h.1
 | _ :: _,_,h,.tail _ m=>Gg.get h.2 m
def Yz(X:Cx)(pn:List (Addr×Obj))(Nc:List Str)(scope:Scope)(cl:List (Str×Addr))(s₀:Shared)(H₀:Hp)(fp:List Addr)(C:Addr):Cx :=
 { X with N:=Nc,s₀:=s₀,H₀:=H₀,env:=compEnvC scope cl C X.env,outer:=X.stack,stack:=X.stack,ex:=fp,fn:=fun _=>false,pn:=pn,xe:=fun _ _=>False,lk:=[] }
def cs(js:List Nat)(σ:St)(x:V):St:=some x :: js.map fun j=>(σ[j]?).getD none
def PTs(X:Cx)(ifs:List Expr)(t:TT):Prop :=
 ∀ (pins:List (Addr×Obj)) (s:Shared) (σ:St) (H:Hp) (Q:Bool->Hp->Prop),Inv X pins σ H s->t σ H Q ->
   wpAny (model X.prog X.w) X.A (forIn ifs true fun c r=>if r=true then do let ok <- isTrue c X.env (eval c X.env);pure (ForInStep.yield ok) else pure (ForInStep.yield r)) (TP X pins σ Q) X.xe s
def tYes:TT:=fun _ H Q=>Q true H
theorem U7:PTs X [] tYes:=fun _ _ _ H _ I h=>wpAny_tests_nil ⟨H,I,h⟩
theorem Np(h:PT X c t):PTs X [c] t:=fun pins s σ H Q I q=>wpAny_tests_one (h pins s σ H Q I q)
def za1(J:It)(js:List Nat)(tt:TT)(te:TE)(σ:St)(H:Hp)(Q:VK):Prop:=∃ W:Nat->Nat->List V->Hp->Prop,(∃ m,W 0 m [] H)/\∀ i m ys H,W i m ys H ->
 (J.stop i H/\ys.length<=sizeLine/\∀ p,H p=none->Q (.ref p) (upd H p (.lst ys))) \/
 (J.go i H/\ys.length<sizeLine/\∃ N:List V->Hp->Prop,(∀ ys' H',N ys' H'->∃ m',m' < m/\W (i+1) m' ys' H')/\∀ x H',J.yld i H x H'->tt (cs js σ x) H' fun b H2=>if b=true then te (cs js σ x) H2 fun y H3=>N (ys++[y]) H3 else N ys H2)
def zgz(wi:TI)(js:List Nat)(tt:TT)(te:TE):TE:=fun σ H Q=>wi σ H fun J H1=>za1 J js tt te σ H1 Q
section
variable{X:Cx}{elt iter:Expr}{x:Str}{px pos:Pos}{ifs:List Expr}{scope:Scope}{cl:List (Str×Addr)}{ys:List Str}{js:List Nat}
structure za2(X:Cx)(x:Str)(scope:Scope)(cl:List (Str×Addr))(ys:List Str)(js:List Nat):Prop where
 clos:closureFor scope X.env=pure cl
 kind:scope.kind=.function
 names:∀ y∈scope.names,y.2=.local->scope.names.lookup y.1=some .local
 nocell:∀ y∈scope.names,y.2≠.cell
 own:scope.names.lookup x=some .local
 nd:(x :: ys).Nodup
 at_:js.map (X.N[·]?)=ys.map some
 free:Gg (fun y=>X.env.kindOf y=some .cell/\(relabel scope X.env).names.lookup y=some .cell/\cl.lookup y=X.env.cells.lookup y) ys
 only:Gg (fun p=>X.env.cells.lookup p.1=some p.2) cl
 vis:∀ y∈scope.names,y.2=.free->y.1∈ys
theorem Nq{env:Env}:∀ {names:List (Str×NameKind)} {y:Str},(names.map fun (n,k)=>if (k == NameKind.free&&env.scope.kind == .function&&env.kindOf n == some .cell) then (n,NameKind.cell) else (n,k)).lookup y=some .cell \/
  (names.map fun (n,k)=>if (k == NameKind.free&&env.scope.kind == .function&&env.kindOf n == some .cell) then (n,NameKind.cell) else (n,k)).lookup y=some .free->∃ k,(y,k)∈names/\(k=.cell\/k=.free)
 | [],_,h=>by rcases h with h|h<;>simp at h
 | (n,k) :: r,y,h=>by
   by_cases hx:y=n
   ·subst hx
    refine⟨k,zto,?_⟩;rw[zs4] at h
    dsimp only at h
    by_cases hc:(k == NameKind.free&&env.scope.kind == .function&&env.kindOf y == some .cell)=true
    ·simp only[zt6,beq_iff_eq] at hc
     exact .inr hc.1.1
    ·rw[if_neg hc] at h
     simp only[ztu,beq_self_eq_true] at h
     rcases h with h|h
     ·exact .inl (Option.some.inj h)
     ·exact .inr (Option.some.inj h)
   ·have hb:(y == n)=false:=zth.mpr hx
    have ih:=@Nq env r y;rw[zs4] at h
    have key:∀ z:Str×NameKind,z.1=n->List.lookup y (z :: (r.map fun (n,k)=>if (k == NameKind.free&&env.scope.kind == .function&&env.kindOf n == some .cell) then (n,NameKind.cell) else (n,k))) =
      List.lookup y (r.map fun (n,k)=>if (k == NameKind.free&&env.scope.kind == .function&&env.kindOf n == some .cell) then (n,NameKind.cell) else (n,k)):=fun z hz=>by
     obtain⟨z1,z2⟩:=z;cases hz;simp only[ztu,hb]
    rw[key _ (by dsimp only;split<;>rfl)] at h
    obtain⟨k',m,q⟩:=ih h;exact⟨k',ztc _ m,q⟩
variable{wi:TI}{tt:TT}{te:TE}
end
theorem Wn{K:PySem.W.Frag}{js:List Nat}{tt:TT}{te:TE}{a:Addr}{xs:List V}{σ:St}{H:Hp}{Q:VK}(Pv:Nat->List V->Hp->Prop)(h0:Pv 0 [] H)(hl:∀ i ys H,i<=xs.length->Pv i ys H->SqL K H a xs)(hz:xs.length<=sizeLine)
  (hy:∀ i ys H,Pv i ys H->ys.length<=i)
  (hs:∀ i x ys H,xs[i]?=some x->Pv i ys H->tt (cs js σ x) H fun b H2=>if b=true then te (cs js σ x) H2 fun y H3=>Pv (i+1) (ys++[y]) H3 else Pv (i+1) ys H2)
  (hd:∀ ys H,Pv xs.length ys H->∀ p,H p=none->Q (.ref p) (upd H p (.lst ys))):za1 (Itl K a) js tt te σ H Q:=by
 refine⟨fun i m ys H=>m=xs.length-i/\i<=xs.length/\Pv i ys H,⟨xs.length,by simp,ztm _,h0⟩,?_⟩
 rintro i m ys H ⟨rfl,hi,p⟩;have q:=hl i ys H hi p;have ly:=hy i ys H p;by_cases hlt:i<xs.length
 ·refine .inr ⟨⟨xs,xs[i],q,by simp[hlt]⟩,by omega,Pv (i+1),fun ys' H' p'=>⟨xs.length-(i+1),by omega,rfl,hlt,p'⟩,fun x H' y=>?_⟩
  obtain⟨e,y⟩:=y;subst e;exact hs i x ys _ (y xs q) p
 ·have e:i=xs.length:=by omega
  subst e;exact .inl ⟨⟨xs,q,zs3 _⟩,by omega,hd ys H p⟩
theorem Au{js:List Nat}{tt:TT}{te:TE}{lo:Int}{n:Nat}{σ:St}{H:Hp}{Q:VK}(Pv:Nat->List V->Hp->Prop)(h0:Pv 0 [] H)(hz:n<=sizeLine)(hy:∀ i ys H,Pv i ys H->ys.length<=i)
  (hs:∀ i ys H,i<n->Pv i ys H->tt (cs js σ (.int (lo+i))) H fun b H2=>if b=true then te (cs js σ (.int (lo+i))) H2 fun y H3=>Pv (i+1) (ys++[y]) H3 else Pv (i+1) ys H2)
  (hd:∀ ys H,Pv n ys H->∀ p,H p=none->Q (.ref p) (upd H p (.lst ys))):za1 (Itr lo n) js tt te σ H Q:=by
 refine⟨fun i m ys H=>m=n-i/\i<=n/\Pv i ys H,⟨n,by simp,ztm _,h0⟩,?_⟩
 rintro i m ys H ⟨rfl,hi,p⟩;have ly:=hy i ys H p;by_cases hlt:i<n
 ·refine .inr ⟨hlt,by omega,Pv (i+1),fun ys' H' p'=>⟨n-(i+1),by omega,rfl,hlt,p'⟩,fun x H' y=>?_⟩
  obtain⟨e,y⟩:=y;subst e y;exact hs i ys _ hlt p
 ·have e:i=n:=by omega
  subst e;exact .inl ⟨zs3 _,by omega,hd ys H p⟩
theorem Fq{js:List Nat}{te:TE}{lo:Int}{n:Nat}{σ:St}{H:Hp}{Q:VK}(f:Nat->V)(hz:n<=sizeLine)
  (hs:∀ i (R:VK),i<n->R (f i) H->te (cs js σ (.int (lo+i))) H R) (hd:∀ p,H p=none->Q (.ref p) (upd H p (.lst ((List.range n).map f)))):za1 (Itr lo n) js tYes te σ H Q:=by
 refine Au (fun i ys H'=>H'=H/\ys=(List.range i).map f) ⟨rfl,rfl⟩ hz (fun i ys H' ⟨_,e⟩=>by rw[e,zst,zt3];exact zs3 _) (fun i ys H' hi ⟨e1,e2⟩=>?_) fun ys H' ⟨e1,e2⟩ p hp=>?_
 ·subst e1
  unfold tYes;dsimp only;rw[if_pos rfl];refine hs i _ hi ⟨rfl,?_⟩;rw[e2,List.range_succ,zs1];rfl
 ·subst e1
  rw[e2];exact hd p hp
theorem L4:∀ {xs:List V} {us:List Value},xs.length=us.length->(∀ (j:Nat) x u,xs[j]?=some x->us[j]?=some u->RelV x u)->Vals xs us
 | [],[],_,_=>.nil
 | x :: xs,u :: us,hl,h=>.cons (h 0 x u rfl rfl) (L4 (by simpa using hl) fun j x' u' h1 h2=>h (j+1) x' u' (by simpa using h1) (by simpa using h2))
abbrev TF:=St->Hp->(Hp->Prop)->Prop
def PF(X:Cx)(e:Expr)(t:TF):Prop :=
 ∀ (pins:List (Addr×Obj)) (s:Shared) (σ:St) (H:Hp) (k:Hp->Prop),Inv X pins σ H s->t σ H k ->
   wpAny (model X.prog X.w) X.A (eval e X.env) (fun u s'=>∃ y tk H',u=.str y tk/\y.length<=10000/\Inv X pins σ H' s'/\k H') X.xe s
def PFs(X:Cx)(es:List Expr)(t:TF):Prop :=
 ∀ (pins:List (Addr×Obj)) (s:Shared) (σ:St) (H:Hp) (k:Hp->Prop) (acc:Str),Inv X pins σ H s->acc.length+10000*es.length<=sizeLine->t σ H k ->
   Joins (model X.prog X.w) X.A X.xe (evalEach es X.env) acc (fun out s'=>out.length<=sizeLine/\∃ H',Inv X pins σ H' s'/\k H') s
def zjj:TF:=fun _ H k=>k H
def zjk(t u:TF):TF:=fun σ H k=>t σ H fun H1=>u σ H1 k
def okF(v:V):Prop:=(∃ i,v=.int i/\i.natAbs.log2<1920)\/∃ y,v=.str y/\y.length<=10000
def zj9(te:TE):TF:=fun σ H k=>te σ H fun v H1=>okF v/\k H1
def zjl(t:TF):TE:=fun σ H Q=>t σ H fun H1=>∀ z,Q (.str z) H1
section
variable{X:Cx}{e:Expr}{es:List Expr}{te:TE}{t u:TF}{pos:Pos}
theorem Wc{j}(h:x.length<=10000):PF X (.Constant (.str x) j pos) zjj:=fun _ _ _ H _ I hk=>Calls.Constant_str ⟨x,_,H,rfl,h,I.tok _,hk⟩
theorem Vd(he:PE X e te):PF X (.FormattedValue e (-1) none pos) (zj9 te):=by
 intro pins s σ H k I h;refine FormattedValue_plain (thn (he pins s σ H _ I h) fun v s1 ⟨x,H1,I1,r1,ok,hk⟩=>?_)
 rcases ok with ⟨i,rfl,hi⟩|⟨y,rfl,hy⟩
 ·obtain⟨t,rfl⟩:=r1
  refine formatField_int_small hi ⟨_,_,H1,rfl,?_,I1.tok _,hk⟩;have:=int_text_length_le (k:=1920) (by decide) hi
  show (Str.ofString (toString i)).length<=10000;rw[PySem.ofString_length];omega
 ·obtain⟨t,rfl⟩:=r1
  exact formatField_str (fun t' tk=>⟨y,t',H1,rfl,hy,I1.tok tk,hk⟩) (by rw[sizeLine_eq];omega)
theorem Vq:PFs X [] zjj:=fun _ _ _ H _ _ I hz hk=>⟨by simpa using hz,H,I,hk⟩
theorem Z2(h1:PF X e t)(h2:PFs X es u)(hs:evalEach (e :: es) X.env=eval e X.env :: evalEach es X.env:=by rfl):PFs X (e :: es) (zjk t u):=by
 intro pins s σ H k acc I hz h;rw[hs];refine thn (h1 pins s σ H _ I h) fun v s1 ⟨y,tk,H1,e1,hy,I1,hk⟩=>⟨y,tk,e1,?_,?_⟩
 ·rw[strLen_append];rw[zti] at hz;omega
 ·exact h2 pins s1 σ H1 k _ I1 (by rw[strLen_append];rw[zti] at hz;omega) hk
theorem Vr(h:PFs X (e :: e' :: es) t)(hl:es.length<=100):PE X (.JoinedStr (e :: e' :: es) pos) (zjl t):=by
 intro pins s σ H Q I h';refine wpAny_JoinedStr ?_;have q:=h pins s σ H _ Str.empty I (by rw[sizeLine_eq];simp only[zti];have:Str.empty.length=0:=rfl;omega) h'
 have mono:∀ (ps:List (Sem Value)) (acc:Str) (Q1 Q2:Str->Shared->Prop) (s:Shared),(∀ o s,Q1 o s->Q2 o s)->Joins (model X.prog X.w) X.A X.xe ps acc Q1 s->Joins (model X.prog X.w) X.A X.xe ps acc Q2 s:=by
  intro ps
  induction ps with
  | nil=>intro acc Q1 Q2 s m z;exact m _ _ z
  | cons p r ih=>intro acc Q1 Q2 s m z;exact thn z fun v s1 ⟨y,tk,e1,hz,z1⟩=>⟨y,tk,e1,hz,ih _ _ _ _ m z1⟩
 refine mono _ _ _ _ _ (fun out s1 ⟨hz,H1,I1,hk⟩=>⟨hz,.str out,H1,I1.tok _,⟨_,rfl⟩,hk out⟩) q
end
section
variable{X:Cx}
theorem Om(hc:X.calm=true):Vo X (.type "list") (fun xs H Q=>∃ a kvs,xs=[.ref a]/\Rd H a (.dK kvs)/\∀ l,H l=none->Q (.ref l) (upd H l (.lst (kvs.map fun kv=>kV kv.1)))):=by
 intro pins s σ H xs us Q I r h;obtain⟨a,kvs,rfl,ha,q⟩:=h;obtain⟨u,rfl,ru⟩:=T1 r;cases (show u=Value.ref a from ru)
 obtain⟨hz,lo,vs,kv,o,es,ep,e1,e2⟩:=Qj I.hok ha;have hl:kvs.length=vs.length:=KV.length kv;refine PySem.W.kdl_call (PySem.W.kdl_dict (knd:=Yp X.prog X.w) (kvs:=vs) (ep:=ep) lo) (I.ok.hd hc) ⟨o,es,e1,e2⟩ (by rw[<- hl];exact hz) fun h' tk acc c hk hS hacc=>?_
 have hf:H s.heap.objs.size=none:=I.hok.fresh (zs3 _);refine⟨.ref s.heap.objs.size,upd H s.heap.objs.size (.lst (kvs.map fun kv=>kV kv.1)),I.laid (t':=tk) hk (zs3 _) ?_,rfl,q _ hf⟩
 obtain⟨accl⟩:=acc;refine⟨by rw[zst];exact hz,accl,c,?_,hS⟩
 have hlen:accl.length=vs.length:=by have:=hacc.1;simpa using this
 refine L4 (by rw[zst,hl,hlen]) fun j x u hx hu=>?_
 obtain⟨k,y,hk1,hk2⟩:=hacc.2 j u (by simpa using hu)
 have ek:=congrArg (·[j]?) (KV.keys kv)
 simp only[zs0,hk1,zt5] at ek
 rw[zs0] at hx
 cases hkv:kvs[j]? with
 | none=>rw[hkv] at hx;cases hx
 | some p =>
   rw[hkv] at hx ek
   have e1:kV p.1=x:=Option.some.inj hx;have e2:p.1=k:=Option.some.inj ek;rw[<- e1,e2];rcases Y1 hk2 with ⟨i,t,rfl,rfl⟩|⟨z,t,rfl,rfl⟩
   ·exact⟨t,rfl⟩
   ·exact⟨t,rfl⟩
end
inductive Dt where
 | non|bl (b:Bool)|int (i:Int)|str (x:Str)|lst (xs:List Dt)|tup (xs:List Dt)
mutual
inductive Is(K:PySem.W.Frag)(H:Hp):V->Dt->Prop where
 | non:Is K H .non .non
 | bl (b:Bool):Is K H (.bl b) (.bl b)
 | int (i:Int):Is K H (.int i) (.int i)
 | str (x:Str):Is K H (.str x) (.str x)
 | lst {a:Addr} {xs:List V} {ds:List Dt} (h:SqL K H a xs) (hs:Wd K H xs ds):Is K H (.ref a) (.lst ds)
 | tup {a:Addr} {xs:List V} {ds:List Dt} (h:SqT K H a xs) (hs:Wd K H xs ds):Is K H (.ref a) (.tup ds)
inductive Wd(K:PySem.W.Frag)(H:Hp):List V->List Dt->Prop where
 | nil:Wd K H [] []
 | cons {x:V} {xs:List V} {d:Dt} {ds:List Dt} (h:Is K H x d) (t:Wd K H xs ds):Wd K H (x :: xs) (d :: ds)
end
mutual
def eqD:Dt->Dt->Bool
 | .non,.non=>true
 | .bl a,.bl b=>a == b
 | .bl a,.int b=>(if a then 1 else 0) == b
 | .int a,.bl b=>a == (if b then 1 else 0)
 | .int a,.int b=>a == b
 | .str a,.str b=>a == b
 | .lst xs,.lst ys=>Pq xs ys
 | .tup xs,.tup ys=>Pq xs ys
 | _,_=>false
def Pq:List Dt->List Dt->Bool
 | [],[]=>true
 | x :: xs,y :: ys=>eqD x y&&Pq xs ys
 | _,_=>false
end
mutual
theorem Nr:∀ d:Dt,eqD d d=true
 | .non=>by simp[eqD]
 | .bl _=>by simp[eqD]
 | .int _=>by simp[eqD]
 | .str _=>by simp[eqD]
 | .lst xs=>by rw[eqD];exact Mm xs
 | .tup xs=>by rw[eqD];exact Mm xs
theorem Mm:∀ ds:List Dt,Pq ds ds=true
 | []=>by simp[Pq]
 | d :: ds=>by rw[Pq,Nr d,Mm ds];rfl
end
mutual
def zka:Dt->Nat
 | .lst xs=>zd5 xs+1
 | .tup xs=>zd5 xs+1
 | _=>0
def zd5:List Dt->Nat
 | []=>0
 | d :: ds=>max (zka d) (zd5 ds)
end
section
variable{X:Cx}{pins:List (Addr×Obj)}{σ:St}{H:Hp}{s:Shared}
theorem Ql(I:Inv X pins σ H s)(h1:SqL X.K H a xs)(h2:SqT X.K H a ys):False:=by
 obtain⟨_,_,⟨o,n,e1,e2,_⟩,_⟩:=I.list h1;obtain⟨_,_,⟨o',e1',e2',_⟩,_⟩:=I.tuple h2;rw[e1] at e1';cases e1'
 exact absurd (Value.type.inj (e2.symm.trans e2')) (by decide)
mutual
theorem Is.inj(I:Inv X pins σ H s):∀ {x:V} {d d':Dt},Is X.K H x d->Is X.K H x d'->d=d'
 | _,_,_,.non,.non=>rfl
 | _,_,_,.bl _,.bl _=>rfl
 | _,_,_,.int _,.int _=>rfl
 | _,_,_,.str _,.str _=>rfl
 | _,_,_,.lst h hs,.lst h' hs'=>by
   have e:=I.list_inj h h';subst e;rw[Wd.inj I hs hs']
 | _,_,_,.tup h hs,.tup h' hs'=>by
   have e:=I.tuple_inj h h';subst e;rw[Wd.inj I hs hs']
 | _,_,_,.lst h _,.tup h' _=>(Ql I h h').elim
 | _,_,_,.tup h _,.lst h' _=>(Ql I h' h).elim
theorem Wd.inj(I:Inv X pins σ H s):∀ {xs:List V} {ds ds':List Dt},Wd X.K H xs ds->Wd X.K H xs ds'->ds=ds'
 | _,_,_,.nil,.nil=>rfl
 | _,_,_,.cons h t,.cons h' t'=>by rw[Is.inj I h h',Wd.inj I t t']
end
mutual
def toPy:Dt->PyData
 | .non=>.none
 | .bl b=>.bool b
 | .int i=>.int i
 | .str x=>.str x
 | .lst xs=>.list (Xe xs)
 | .tup xs=>.tuple (Xe xs)
def Xe:List Dt->List PyData
 | []=>[]
 | d :: ds=>toPy d :: Xe ds
end
mutual
theorem Nt:∀ d e:Dt,PyData.eqv (toPy d) (toPy e)=eqD d e
 | .non,e=>by cases e<;>simp[toPy,eqD,PyData.eqv]
 | .bl _,e=>by cases e<;>simp[toPy,eqD,PyData.eqv]
 | .int _,e=>by cases e<;>simp[toPy,eqD,PyData.eqv]
 | .str _,e=>by cases e<;>simp[toPy,eqD,PyData.eqv]
 | .lst xs,.lst ys=>by rw[toPy,toPy,PyData.eqv,eqD];exact Mn xs ys
 | .tup xs,.tup ys=>by rw[toPy,toPy,PyData.eqv,eqD];exact Mn xs ys
 | .lst _,.non=>by simp[toPy,eqD,PyData.eqv]
 | .lst _,.bl _=>by simp[toPy,eqD,PyData.eqv]
 | .lst _,.int _=>by simp[toPy,eqD,PyData.eqv]
 | .lst _,.str _=>by simp[toPy,eqD,PyData.eqv]
 | .lst _,.tup _=>by simp[toPy,eqD,PyData.eqv]
 | .tup _,.non=>by simp[toPy,eqD,PyData.eqv]
 | .tup _,.bl _=>by simp[toPy,eqD,PyData.eqv]
 | .tup _,.int _=>by simp[toPy,eqD,PyData.eqv]
 | .tup _,.str _=>by simp[toPy,eqD,PyData.eqv]
 | .tup _,.lst _=>by simp[toPy,eqD,PyData.eqv]
theorem Mn:∀ ds es:List Dt,PyData.eqvAll (Xe ds) (Xe es)=Pq ds es
 | [],[]=>by simp[Xe,Pq,PyData.eqvAll]
 | [],_ :: _=>by simp[Xe,Pq,PyData.eqvAll]
 | _ :: _,[]=>by simp[Xe,Pq,PyData.eqvAll]
 | d :: ds,e :: es=>by rw[Xe,Xe,PyData.eqvAll,Pq,Nt d e,Mn ds es]
end
mutual
theorem Is.reads(I:Inv X pins σ H s):∀ {d:Dt} {x:V} {u:Value},Is X.K H x d->RelV x u->∃ as,Reads s.heap u (toPy d) as
 | _,_,_,.non,r=>by cases r;exact⟨_,.none⟩
 | _,_,_,.bl b,r=>by cases r;exact⟨_,.bool b⟩
 | _,_,_,.int i,r=>by obtain⟨t,rfl⟩:=r;exact⟨_,.int i t⟩
 | _,_,_,.str i,r=>by obtain⟨t,rfl⟩:=r;exact⟨_,.str i t⟩
 | _,_,_,.lst h hs,r=>by
   cases r;obtain⟨its,r1,⟨o,n',e1,e2,e3,e4⟩,_⟩:=I.list h;obtain⟨as,q⟩:=Wd.reads I hs r1;rw[toPy];exact⟨_,.list e1 e2 e4 (by simpa using q)⟩
 | _,_,_,.tup h hs,r=>by
   cases r;obtain⟨its,r1,⟨o,e1,e2,n',e4⟩,_⟩:=I.tuple h;obtain⟨as,q⟩:=Wd.reads I hs r1;rw[toPy];exact⟨_,.tuple e1 e2 e4 (by simpa using q)⟩
theorem Wd.reads(I:Inv X pins σ H s):∀ {ds:List Dt} {xs:List V} {us:List Value},Wd X.K H xs ds->Vals xs us->∃ as,ReadsAll s.heap us (Xe ds) as
 | _,_,_,.nil,r=>by cases r;exact⟨_,.nil⟩
 | _,_,_,.cons h t,r=>by
   cases r with
   | cons r1 r2 =>
     obtain⟨as,q1⟩:=Is.reads I h r1;obtain⟨bs,q2⟩:=Wd.reads I t r2;exact⟨_,.cons q1 q2⟩
end
def shD(d:Dt):Prop:=SeqAt.shaped (toPy d)=true
inductive rEqD(K:PySem.W.Frag)(neg:Bool)(x:V)(y:V)(H:Hp)(Q:VK):Prop where
 | mk(d)(e)(_:Is K H x d)(_:Is K H y e)(_:shD d)(_:shD e)(_:Q (.bl (if neg then !eqD d e else eqD d e)) H)
theorem zh0(hu:X.A.units+64<cLine):OpR X (compareOp .Eq) (rEqD X.K false):=by
 intro pins s σ H x y v u Q I rx ry h;obtain⟨d,e,h1,h2,s1,s2,q⟩:=h;obtain⟨as,r1⟩:=h1.reads I rx;obtain⟨bs,r2⟩:=h2.reads I ry;exact eq_dataH r1 r2 s1 s2 hu (by rw[Nt];exact⟨.bl _,H,I,rfl,q⟩)
theorem zh1(hu:X.A.units+64<cLine):OpR X (compareOp .NotEq) (rEqD X.K true):=by
 intro pins s σ H x y v u Q I rx ry h;obtain⟨d,e,h1,h2,s1,s2,q⟩:=h;obtain⟨as,r1⟩:=h1.reads I rx;obtain⟨bs,r2⟩:=h2.reads I ry;exact ne_dataH r1 r2 s1 s2 hu (by rw[Nt];exact⟨.bl _,H,I,rfl,q⟩)
end
mutual
theorem Is.same{K:PySem.W.Frag}{H H':Hp}(e:Same H H'):∀ {d:Dt} {x:V},Is K H x d->Is K H' x d
 | _,_,.non=>.non
 | _,_,.bl b=>.bl b
 | _,_,.int i=>.int i
 | _,_,.str i=>.str i
 | _,_,.lst h hs=>.lst (e.seq h) (Wd.same e hs)
 | _,_,.tup h hs=>.tup (by
   rcases h with (h|⟨o,h⟩)|h
   ·exact .inl (.inl (e _ _ h))
   ·exact .inl (.inr ⟨o,e _ _ h⟩)
   ·exact .inr h) (Wd.same e hs)
theorem Wd.same{K:PySem.W.Frag}{H H':Hp}(e:Same H H'):∀ {ds:List Dt} {xs:List V},Wd K H xs ds->Wd K H' xs ds
 | _,_,.nil=>.nil
 | _,_,.cons h t=>.cons (Is.same e h) (Wd.same e t)
end
section
variable{P:Program}{w:World}{K:PySem.W.Frag}{mg:Str->Option Value}{base:Heap}{x m:Str}{k j:Nat}{ps:List Str}{sp:Sp}{C:Addr}
def Z1(P:Program)(w:World)(K:PySem.W.Frag)(mg:Str->Option Value)(base:Heap)(x:Str)(k:Nat)(ps:List Str)(sp:Sp):Prop :=
 ∃ (f:Addr) (fd:FuncData),FnOk P w K mg base (CX1 P w) k f fd ps sp/\mg x=some (.ref f)/\PySem.W.keepIn K (.ref f)=true/\Sz K fd ps []
def Zw(P:Program)(w:World)(K:PySem.W.Frag)(mg:Str->Option Value)(base:Heap)(C:Addr)(m:Str)(k:Nat)(ps:List Str)(sp:Sp):Prop :=
 ∃ (f:Addr) (fd:FuncData),FnOk P w K mg base (CX1 P w) k f fd ps sp/\zdo K C m f/\Sz K fd ps []
def Se(P:Program)(w:World)(K:PySem.W.Frag)(mg:Str->Option Value)(base:Heap)(x:Str)(C:Addr)(k:Nat)(ps:List Str)(sp:Sp):Prop :=
 ∃ (f:Addr) (fd:FuncData),FnOk P w K mg base (CX1 P w) k f fd ps sp/\Mk K C f/\mg x=some (.ref C)/\Sz K fd ps []
theorem za3:Vc (CX1 P w) X E0:=fun _ _ _ _ _ _ _ h=>by obtain⟨_,_,_,_,_,_,_,_,_,_,z⟩:=h;exact z.elim
structure zki(K:PySem.W.Frag)(mg:Str->Option Value)(x:Str)(st:Stmt)(f:Addr)(fd:FuncData):Prop where
 fn:Fun K x x st f fd
 nm:mg x=some (.ref f)
end
section
variable{X:Cx}{k:Nat}{C:Addr}{ps:List Str}{sp:Sp}{E:XK}{x m:Str}{p pos apos:Pos}{e o:Expr}{es:List Expr}{ta:TE}{t:TA}
theorem za4(D:Z1 X.prog X.w X.K X.mg X.base x k ps sp)(hr:W7 k X.A)(hx:Vc (CX1 X.prog X.w) X E)(hg:Gl X x)(ha:PA X (e :: es) t)(hdb:(x == ("__debug__":Str))=false:=by decide)
  (he:starEach (e :: es) X.env=(false,eval e X.env) :: starEach es X.env:=by rfl) (hpl:(backTo pos (starEach es X.env)).any (·.1)=false:=by rfl):PE X (.Call (.Name x p) (e :: es) [] pos) (Ca sp [] E t):=by
 obtain⟨f,fd,F,hm,kp,b⟩:=D;exact zfo F hr hg hm kp b .nil hx ha hdb he hpl
theorem Xx(he:PE X o ta)(c:Cls X.K C)(M:Zw X.prog X.w X.K X.mg X.base C m k ps sp)(hr:W7 k X.A)(hx:Vc (CX1 X.prog X.w) X E)(ha:PA X (e :: es) t)
  (hst:starEach (e :: es) X.env=(false,eval e X.env) :: starEach es X.env:=by rfl) (hpl:(backTo pos (starEach es X.env)).any (·.1)=false:=by rfl)
  (ht:eval (.Call (.Attribute o m apos) (e :: es) [] pos) X.env=(do
   let ov <- eval o X.env
   standAt apos.atName
   let (f,first) <- holding [ov] (getMethod ov m pl)
   callWith pos f first (backTo pos (starEach (e :: es) X.env)) (backToKw pos (keywordEach [] X.env))):=by rfl):PE X (.Call (.Attribute o m apos) (e :: es) [] pos) (Fh C m sp [] E ta t):=by
 obtain⟨f,fd,F,hm,b⟩:=M;exact zfp he c hm F hr b .nil hx ha hst hpl ht
theorem Yr(he:PE X o ta)(c:Cls X.K C)(M:Zw X.prog X.w X.K X.mg X.base C m k ps sp)(hr:W7 k X.A)(hx:Vc (CX1 X.prog X.w) X E)
  (ht:eval (.Call (.Attribute o m apos) [] [] pos) X.env=(do
   let ov <- eval o X.env
   standAt apos.atName
   let (f,first) <- holding [ov] (getMethod ov m pl)
   callWith pos f first (backTo pos (starEach [] X.env)) (backToKw pos (keywordEach [] X.env))):=by rfl):PE X (.Call (.Attribute o m apos) [] [] pos) (Fh C m sp [] E ta tNil):=by
 obtain⟨f,fd,F,hm,b⟩:=M;exact zdp he c hm F hr b .nil hx ht
theorem Ex(M:Se X.prog X.w X.K X.mg X.base x C k ps sp)(hr:W7 (k+1) X.A)(hx:Vc (CX1 X.prog X.w) X E)(hg:Gl X x)(ha:PA X (e :: es) t)(hdb:(x == ("__debug__":Str))=false:=by decide)
  (he:starEach (e :: es) X.env=(false,eval e X.env) :: starEach es X.env:=by rfl) (hpl:(backTo pos (starEach es X.env)).any (·.1)=false:=by rfl):PE X (.Call (.Name x p) (e :: es) [] pos) (zav C sp [] E t):=by
 obtain⟨f,fd,F,mk,hm,b⟩:=M;exact zfq mk F hr hg hm b .nil hx ha hdb he hpl
theorem za5(M:Se X.prog X.w X.K X.mg X.base x C k ps sp)(hr:W7 (k+1) X.A)(hx:Vc (CX1 X.prog X.w) X E)(hg:Gl X x)(hdb:(x == ("__debug__":Str))=false:=by decide):PE X (.Call (.Name x p) [] [] pos) (zav C sp [] E tNil):=by
 obtain⟨f,fd,F,mk,hm,b⟩:=M;exact zdq mk F hr hg hm b .nil hx hdb
theorem Wt(hg:Gl X x)(hm:∃ t,X.mg x=some (.int i t))(hd:(x == ("__debug__":Str))=false:=by decide):PE X (.Name x pos) (tC (.int i)):=by
 obtain⟨t,hm⟩:=hm;exact zfh hg hm ⟨t,rfl⟩ hd
end
inductive zjm(te:TE)(D:Pp)(σ:L2.St)(x:V)(H1:Hp):Prop where
 | mk(l)(xs)(_:x=.ref l)(_:H1 l=some (.lst xs))(_:te σ H1 fun y H2=>∃ ys,H2 l=some (.lst ys)/\ys.length<sizeLine/\D.nx σ (upd H2 l (.lst (ys++[y]))))
def zjn(to te:TE):TS:=fun D σ H=>to σ H fun x H1=>zjm te D σ x H1
theorem Yk(ho:PE X o to)(he:PE X e te)(hbase:attributeBase o "append" X.env (eval o X.env)=eval o X.env:=by rfl)
  (hst:starEach [e] X.env=[(false,eval e X.env)]:=by rfl)
  (hline:(apos.endLine == cpos.line)=true:=by rfl) (hs:swapsWith (.Call (.Attribute o "append" apos) [e] [] cpos) none pos.line X.env=pure false:=by rfl):PS X (.Expr (.Call (.Attribute o "append" apos) [e] [] cpos) pos) (zjn to te):=by
 intro pins s σ H D I h;refine wpAny_Expr ?_ I.quiet;refine wpAny_Call_method_late hbase (by rw[hst];rfl) hline rfl (thn (ho pins s σ H _ I h) fun v s1 ⟨x,H1,I1,r1,l,xs,e1,hl,q1⟩=>?_)
 subst e1;obtain⟨h1,h2⟩:=Ap (T:="list") I1 r1 (.inl ⟨rfl,_,SqL.of hl⟩);refine⟨"list","list.append",PySem.F.plainAttrs_list,PySem.F.slot_list_append,PySem.F.type_list_append,h1,h2,?_⟩;rw[hst];refine Calls.callWith_builtin rfl (Calls.evalArgs_plain ?_);refine Calls.spliced_cons (thn (he pins s1 σ H1 _ I1 q1) fun u s2 ⟨y,H2,I2,r2,ys,hl2,hz,q2⟩=>Calls.spliced_nil ?_)
 refine thn (zb3 pins s2 σ H2 (.ref l) [y] v [u] (fun v H3=>v=.non/\D.nx σ H3) I2 r1 (.cons r2 .nil) ⟨l,ys,y,rfl,rfl,hl2,hz,rfl,q2⟩) fun z s3 ⟨zv,H3,I3,rz,ez,q3⟩=>?_
 subst ez;cases rz;exact⟨σ,H3,I3,q3⟩
section
variable{X:Cx}{K:PySem.W.Frag}
theorem zd6(hK:X.K=K):IxR X (Gb K):=hK▸zf0
theorem zf5(hK:X.K=K):IxR X (zht K):=hK▸zhu
theorem Gh(hK:X.K=K):Vo X (.builtin "len") (fun xs H Q=>∃ p ys,xs=[.ref p]/\(SqL K H p ys\/SqT K H p ys)/\Q (.int ys.length) H):=hK▸Et
theorem Yv(hK:X.K=K):Vo X (.type "list") (fun xs H Q=>∃ p ys,xs=[.ref p]/\(SqL K H p ys\/SqT K H p ys)/\∀ l,H l=none->Q (.ref l) (upd H l (.lst ys))):=hK▸Eu
theorem Wo(hK:X.K=K):Vo X (.builtin "isinstance") (zji K):=hK▸zd4
theorem Oo(hK:X.K=K):OpR X (compareOp .In) (rIn K false):=hK▸zb2
theorem Wq(hK:X.K=K):OpR X (compareOp .NotIn) (rIn K true):=hK▸Es
theorem Ey(hK:X.K=K)(hu:X.A.units+64<cLine):OpR X (compareOp .Eq) (rEqD K false):=hK▸zh0 hu
theorem Jd(hK:X.K=K)(hu:X.A.units+64<cLine):OpR X (compareOp .NotEq) (rEqD K true):=hK▸zh1 hu
theorem Cp(hK:X.K=K):SlR X (zje K):=hK▸zf1
variable{o e l tg value a:Expr}{f:Str}{pos pos':Pos}{ta tv tl:TE}{es:List Expr}{k n:Nat}{t:TGs}
theorem Zt(hK:X.K=K)(he:PE X e ta)(hb:attributeBase e f X.env (eval e X.env)=eval e X.env):PE X (.Attribute e f pos) (zi0 K ta f):=hK▸zhg he hb
theorem Xb(hK:X.K=K)(ha:PE X o ta)(hv:PE X value tv)(hs:swapsWith value (some (.Attribute o f pos')) pos.line X.env=pure false):PS X (.Assign [.Attribute o f pos'] value pos) (zi2 K ta tv f):=hK▸zhh ha hv hs
theorem Ye(hK:X.K=K)(hl:PE X l tl):PI X tg l (zgs K tl):=hK▸zfi hl
theorem Wu(hK:X.K=K)(hc:X.calm=true)(h:PGs X es t)(hn:(assignEach es X.env).length=n:=by rfl)(hst:(assignEach es X.env).findIdx? (·.1)=none:=by rfl):PG X (.Tuple es k pos) (ziu K n t):=hK▸zhc hc h hn hst
theorem Fs(hK:X.K=K)(ha:PE X a ta)(he:∀ whole,isTrue a X.env whole=(do let v <- whole;standAt a.pos;holding [v] (truthy v))):PT X a (fun σ H Q=>ta σ H fun x H'=>∃ k,TruV K x H' k/\Q k H'):=hK▸zdk ha he
end
section
variable{X:Cx}{K:PySem.W.Frag}
theorem Js(hK:X.K=K):Vo X (.type "tuple") (fun xs H Q=>∃ p ys,xs=[.ref p]/\((SqL K H p ys/\∀ l,H l=none->Q (.ref l) (upd H l (.tup ys)))\/(SqT K H p ys/\Q (.ref p) H))):=hK▸Ge
end
end L2
namespace G
open PySem PySem.Spec PyProof.Rows L2
theorem sz1:1<=sizeLine:=by decide
theorem sz2:2<=sizeLine:=by decide
theorem sz3:3<=sizeLine:=by decide
theorem sz4:4<=sizeLine:=by decide
theorem szN(h:n<=1000):n<=sizeLine:=Nat.le_of_lt (Ub h)
theorem itD{p:Prop}[Decidable p]{A B:Prop}(h1:p->A)(h2:¬ p->B):if decide p=true then A else B:=by
 by_cases h:p
 ·rw[zsy h,if_pos rfl];exact h1 h
 ·rw[zs8 h,if_neg (by decide)];exact h2 h
theorem itB{b:Bool}{A B:Prop}(h1:b=true->A)(h2:b=false->B):if b=true then A else B:=by
 cases b
 ·exact iteF (h2 rfl)
 ·exact iteT (h1 rfl)
theorem Qm:decide (V.int i=V.int j)=decide (i=j):=by
 by_cases h:i=j
 ·subst h;simp
 ·rw[zs8 h,zs8 (fun z=>h (V.int.inj z))]
theorem itV{i j:Int}{A B:Prop}(h1:i=j->A)(h2:¬ i=j->B):if decide (V.int i=V.int j)=true then A else B:=by
 rw[Qm];exact itD h1 h2
theorem Zf(h:H p=none):Same H (upd H p o):=fun b u e=>by rw[Zi (Zh e h)];exact e
def Y6(i:Int):Prop:=i.natAbs.log2<1920
theorem Yg(h:i.natAbs<=10 ^ 60):Y6 i:=by
 unfold Y6;by_cases h0:i.natAbs=0
 ·rw[h0];decide
 ·exact(Nat.log2_lt h0).mpr (zud h (by decide +kernel))
theorem Y2(h:-1000<=i)(h':i<=1000):Y6 i:=Yg (ztb (show i.natAbs<=1000 by omega) (by decide))
theorem Wm{xs:List Int}{i:Int}(h0:0<=i)(h1:i<xs.length):atI (xs.map V.int) i=some (.int (xs.getD i.toNat 0)):=by
 obtain⟨k,rfl⟩:∃ k:Nat,i=k:=⟨i.toNat,by omega⟩
 refine Z4 ?_;have hk:k<xs.length:=by omega
 rw[zs0,zsu hk,zt5,zta,ztj,zsu hk];rfl
theorem W8(h1:∀ Q:Bool->Hp->Prop,Q b H->t σ H Q)(h2:∀ Q:Bool->Hp->Prop,Q c H->u σ H Q)(Q:Bool->Hp->Prop)(h:Q (b||c) H):tOr t u σ H Q:=by
 refine h1 _ ?_;cases b with
 | true=>exact h
 | false=>exact h2 _ h
theorem Xq(h1:∀ Q:Bool->Hp->Prop,Q b H->t σ H Q)(h:if b=true then A D σ H else B D σ H):D6 t A B D σ H:=h1 _ h
theorem Y7(h:A { D with nx:=B D } σ H):Zx A B D σ H:=h
theorem Cq(J:L2.St->Hp->Prop)(hc:∀ Q:Bool->Hp->Prop,Q b H->c σ H Q)(h1:b=true->∀ N:L2.St->Hp->Prop,(∀ σ' H',J σ' H'->N σ' H')->t { D with nx:=N } σ H)
  (h2:b=false->∀ N:L2.St->Hp->Prop,(∀ σ' H',J σ' H'->N σ' H')->e { D with nx:=N } σ H) (h3:∀ σ' H',J σ' H'->u D σ' H'):Zx (D6 c t e) u D σ H:=by
 refine hc _ ?_;cases b with
 | true=>rw[if_pos rfl];exact h1 rfl _ h3
 | false=>rw[if_neg (by decide)];exact h2 rfl _ h3
theorem Zu(h:D.nx σ H):D5 D σ H:=h
theorem zh2(K:PySem.W.Frag):PySem.W.kitOne K (.type "int") (.type "int")=some true:=rfl
theorem zh3(K:PySem.W.Frag):PySem.W.kitOne K (.type "int") (.type "bool")=some false:=by with_unfolding_all rfl
theorem Jt(K:PySem.W.Frag):PySem.W.kitOne K (.type "list") (.type "list")=some true:=rfl
theorem Av(K:PySem.W.Frag):PySem.W.kitOne K (.type "tuple") (.type "tuple")=some true:=rfl
inductive Z9(H:Hp):List V->List (List V)->Prop where
 | nil:Z9 H [] []
 | cons {t:Addr} {r:List V} {ts:List V} {R:List (List V)} (h:H t=some (.tup r)) (q:Z9 H ts R):Z9 H (.ref t :: ts) (r :: R)
theorem Z9.mono(k:∀ t xs,H t=some (.tup xs)->H' t=some (.tup xs)):∀ {ts:List V} {R:List (List V)},Z9 H ts R->Z9 H' ts R
 | _,_,.nil=>.nil
 | _,_,.cons h r=>.cons (k _ _ h) (Z9.mono k r)
theorem Z9.same(e:Same H H')(h:Z9 H ts R):Z9 H' ts R:=h.mono fun t xs q=>e _ _ q
theorem Z9.length:∀ {ts:List V} {R:List (List V)},Z9 H ts R->ts.length=R.length
 | _,_,.nil=>rfl
 | _,_,.cons _ r=>by simp[Z9.length r]
theorem Z9.snoc(h:H t=some (.tup x)):∀ {ts:List V} {R:List (List V)},Z9 H ts R->Z9 H (ts++[.ref t]) (R++[x])
 | _,_,.nil=>.cons h .nil
 | _,_,.cons h' r=>.cons h' (Z9.snoc h r)
theorem Z9.get:∀ {ts:List V} {R:List (List V)} {i:Nat} {x:V},Z9 H ts R->ts[i]?=some x->∃ t r,x=.ref t/\R[i]?=some r/\H t=some (.tup r)
 | _,_,_,_,.nil,e=>by simp at e
 | _,_,0,_,.cons h _,e=>by simp at e;subst e;exact⟨_,_,rfl,rfl,h⟩
 | _,_,i+1,x,.cons _ r,e=>by
   obtain⟨t,n,h1,h2,h3⟩:=Z9.get (i:=i) (x:=x) r (by simpa using e)
   exact⟨t,n,h1,by simpa using h2,h3⟩
theorem Z9.getR:∀ {ts:List V} {R:List (List V)} {i:Nat} {r:List V},Z9 H ts R->R[i]?=some r->∃ t,ts[i]?=some (.ref t)/\H t=some (.tup r)
 | _,_,_,_,.nil,e=>by simp at e
 | _,_,0,_,.cons h _,e=>by simp at e;subst e;exact⟨_,rfl,h⟩
 | _,_,i+1,x,.cons _ r,e=>by
   obtain⟨t,h1,h2⟩:=Z9.getR (i:=i) (r:=x) r (by simpa using e)
   exact⟨t,by simpa using h1,h2⟩
inductive Je(vs:List V)(H:Hp)(Q:VK)(_:XK):Prop where
 | mk(i)(_:vs=[.int i])(_:Q (.bl true) H)
def Y4(ns:List Int)(k:Nat):Int:=(ns[k]?).getD 0
inductive Aw(K:PySem.W.Frag)(vs:List V)(H:Hp)(Q:VK)(_:XK):Prop where
 | mk(b:Addr)(ns:List Int)(k:Nat)(_:vs=[.ref b,.int k])(_:SqL K H b (ns.map V.int))(_:Q (.int (Y4 ns k)) H)
def zh4(c k:Int):Int:=(c*48271+k)%2147483647
def zjo(c k:Int):Int:=(zh4 c k*69621+7*k)%2147483629
def zkb(c k:Int):Int:=(zjo c k*39373+zh4 c k)%2147483587
def Ax(c k:Int):Int:=(zh4 c k*2147483647+zjo c k)*2147483647+zkb c k
inductive za6(vs:List V)(H:Hp)(Q:VK)(_:XK):Prop where
 | mk(c)(k)(_:vs=[.int c,.int k])(_:Q (.int (Ax c k)) H)
def stp(c:Int):Int:=([1,2,5,10,100,500,998]:List Int).getD (c%7).toNat 0
def zca(c:Int)(j:Nat):Int:=1+(c/7+stp c*(j:Int))%999
def L6(c:Int)(many:Nat):List Int:=(List.range many).map (zca c)
inductive Ju(vs:List V)(H:Hp)(Q:VK)(_:XK):Prop where
 | mk(c:Int)(many:Nat)(_:vs=[.int c,.int many])(_:many<=1000)(_:∀ l H',H' l=some (.lst ((L6 c many).map V.int))->Same H H'->H l=none->Q (.ref l) H')
def Ez(c:Int):Int:=([1,2,5,10,50,97,98]:List Int).getD (c%7).toNat 0
def Ft(c:Int)(j:Nat):Int:=1+(c/7+Ez c*(j:Int))%99
def Qn(c:Int)(many:Nat):List Int:=(List.range many).map (Ft c)
inductive za7(vs:List V)(H:Hp)(Q:VK)(_:XK):Prop where
 | mk(c:Int)(many:Nat)(_:vs=[.int c,.int many])(_:many<=1000)(_:∀ l H',H' l=some (.lst ((Qn c many).map V.int))->Same H H'->H l=none->Q (.ref l) H')
def oneV(x:V):Prop:=x=.non\/∃ i,x=.int i
inductive Nu(vs:List V)(H:Hp)(Q:VK)(_:XK):Prop where
 | mk(x)(_:vs=[x,x])(_:oneV x)(_:Q (.bl true) H)
inductive Jv(K:PySem.W.Frag)(vs:List V)(H:Hp)(Q:VK)(_:XK):Prop where
 | mk(b c:Addr)(xs:List V)(_:vs=[.ref b,.ref c])(_:H b=some (.lst xs))(_:SqL K H c xs)(_:(∀ x∈xs,oneV x))(_:xs.length<=1000)(_:Q (.bl true) H)
inductive Fu(K:PySem.W.Frag)(vs:List V)(H:Hp)(Q:VK)(_:XK):Prop where
 | mk(b c:Addr)(xs:List V)(_:vs=[.ref b,.ref c])(_:H b=some (.tup xs))(_:SqT K H c xs)(_:(∀ x∈xs,oneV x))(_:xs.length<=1000)(_:Q (.bl true) H)
inductive Fv(K:PySem.W.Frag)(vs:List V)(H:Hp)(Q:VK)(_:XK):Prop where
 | mk(b c:Addr)(ts us:List V)(R:List (List V))(_:vs=[.ref b,.ref c])(_:H b=some (.lst ts))(_:SqL K H c us)(_:Z9 H ts R)(_:Z9 H us R)(_:(∀ r∈R,r.length<=1000/\∀ x∈r,oneV x))(_:R.length<=1000)(_:Q (.bl true) H)
inductive za8(K:PySem.W.Frag)(vs:List V)(H:Hp)(Q:VK)(_:XK):Prop where
 | mk(b:Addr)(ns:List Int)(_:vs=[.ref b])(_:SqL K H b (ns.map V.int))(_:ns.length<=63)(_:∀ H',Q (.bl true) H')
structure Row where
 h:Int
 g:Int
 d:Int
 w:Option Int
def oV:Option Int->V
 | none=>.non
 | some n=>.int n
def E1(r:Row):List V:=[.int r.h,.int r.g,.int r.d,oV r.w]
theorem zh5(o:Option Int):oneV (oV o):=by
 cases o with
 | none=>exact .inl rfl
 | some n=>exact .inr ⟨n,rfl⟩
theorem zh6{H:Hp}{ts:List V}{rs:List Row}{i:Nat}{x:V}(h:Z9 H ts (rs.map E1))(e:ts[i]?=some x):∃ t r,x=.ref t/\rs[i]?=some r/\H t=some (.tup (E1 r)):=by
 obtain⟨t,r,h1,h2,h3⟩:=h.get e;rw[zs0] at h2
 cases q:rs[i]? with
 | none=>rw[q] at h2;cases h2
 | some m=>rw[q] at h2;cases h2;exact⟨t,m,h1,rfl,h3⟩
def hit(n c:Int)(r:Row):Bool:=decide (r.w=some n)&&(decide (r.h=c)||decide (r.g=c))
def E2(n c:Int)(Rs:List (List Row)):Nat×Nat:=Rs.foldl (fun p rs=>(p.1+1,if rs.any (hit n c) then p.1+1 else p.2)) (0,0)
def metS(Rs:List (List Row))(n c:Int):Nat:=(E2 n c Rs).2
theorem zd7(n c:Int)(Rs:List (List Row)):(E2 n c Rs).1=Rs.length:=by
 have h:∀ (Rs:List (List Row)) (p:Nat×Nat),(Rs.foldl (fun p rs=>(p.1+1,if rs.any (hit n c) then p.1+1 else p.2)) p).1=p.1+Rs.length:=fun Rs=>by
  induction Rs with
  | nil=>intro p;rfl
  | cons r Rs ih=>intro p;rw[List.foldl_cons,ih,zti];simp only;omega
 have:=h Rs (0,0);unfold E2;rw[this];simp
theorem zcb(Rs:List (List Row))(rs:List Row)(n c:Int):metS (Rs++[rs]) n c=if rs.any (hit n c) then Rs.length+1 else metS Rs n c:=by
 unfold metS;have e:E2 n c (Rs++[rs])=((E2 n c Rs).1+1,if rs.any (hit n c) then (E2 n c Rs).1+1 else (E2 n c Rs).2):=by
  unfold E2;rw[List.foldl_append];rfl
 rw[e,zd7]
def Cr(kvs:List (List Key×V))(f:Int->Int->Nat):Prop:=∀ n c:Int,valV kvs [Sum.inl n,Sum.inl c]=if f n c=0 then none else some (.int (f n c))
inductive Pr(H:Hp):List V->List (List Row)->Prop where
 | nil:Pr H [] []
 | cons {t:Addr} {ts rs:List V} {r:List Row} {R:List (List Row)} (h:H t=some (.tup ts)) (q:Z9 H ts (r.map E1)) (n:Pr H rs R):Pr H (.ref t :: rs) (r :: R)
theorem Pr.mono(k:∀ t xs,H t=some (.tup xs)->H' t=some (.tup xs)):∀ {ts:List V} {R:List (List Row)},Pr H ts R->Pr H' ts R
 | _,_,.nil=>.nil
 | _,_,.cons h q r=>.cons (k _ _ h) (q.mono k) (Pr.mono k r)
theorem Pr.length:∀ {ts:List V} {R:List (List Row)},Pr H ts R->ts.length=R.length
 | _,_,.nil=>rfl
 | _,_,.cons _ _ r=>by simp[Pr.length r]
theorem Pr.snoc(h:H t=some (.tup xs))(q:Z9 H xs (x.map E1)):∀ {ts:List V} {R:List (List Row)},Pr H ts R->Pr H (ts++[.ref t]) (R++[x])
 | _,_,.nil=>.cons h q .nil
 | _,_,.cons h' q' r=>.cons h' q' (Pr.snoc h q r)
def tot(Rs:List (List Row)):Nat:=(Rs.map List.length).sum
theorem zd8(Rs:List (List Row))(rs:List Row):tot (Rs++[rs])=tot Rs+rs.length:=by unfold tot;rw[zs1,List.sum_append];simp
structure Ut(C:Addr)(H:Hp)(p lr ld:Addr)(Rs:List (List Row)):Prop where
 at_:∃ dx,H p=some (.ins C dx [("rounds",.ref lr),("meetings",.ref ld)])
 rd:∃ rs,H lr=some (.lst rs)/\Pr H rs Rs
 mt:∃ kvs,H ld=some (.dT kvs)/\Cr kvs (metS Rs)/\kvs.length<=2*tot Rs
theorem Ut.same{C:Addr}{H H':Hp}{p lr ld:Addr}{Rs:List (List Row)}(h:Ut C H p lr ld Rs)(e:Same H H'):Ut C H' p lr ld Rs:=by
 obtain⟨⟨dx,h1⟩,⟨rs,h2,h3⟩,⟨kvs,h4,h5⟩⟩:=h;exact⟨⟨dx,e _ _ h1⟩,⟨rs,e _ _ h2,h3.mono fun t xs q=>e _ _ q⟩,⟨kvs,e _ _ h4,h5⟩⟩
theorem Ut.keep{C:Addr}{H H':Hp}{p lr ld:Addr}{Rs:List (List Row)}(h:Ut C H p lr ld Rs)(ep:∀ o,H p=some o->H' p=some o)(er:∀ o,H lr=some o->H' lr=some o)(ed:∀ o,H ld=some o->H' ld=some o)(et:∀ t xs,H t=some (.tup xs)->H' t=some (.tup xs)):Ut C H' p lr ld Rs:=by
 obtain⟨⟨dx,h1⟩,⟨rs,h2,h3⟩,⟨kvs,h4,h5⟩⟩:=h;exact⟨⟨dx,ep _ h1⟩,⟨rs,er _ h2,h3.mono et⟩,⟨kvs,ed _ h4,h5⟩⟩
theorem Mo:List.lookup ("rounds":Str) ([("rounds",V.ref x),("meetings",V.ref y)]:List (Str×V))=some (.ref x):=by simp only[ztu,beq_self_eq_true]
theorem Qo:List.lookup ("meetings":Str) ([("rounds",V.ref x),("meetings",V.ref y)]:List (Str×V))=some (.ref y):=by
 have e:(("meetings":Str) == "rounds")=false:=by decide +kernel
 simp only[ztu,e,beq_self_eq_true]
theorem Jw{x y:Addr}{m:Str}(h:¬ m="rounds")(h':¬ m="meetings"):List.lookup m ([("rounds",V.ref x),("meetings",V.ref y)]:List (Str×V))=none:=by
 have e:(m == "rounds")=false:=zth.mpr h;have e':(m == "meetings")=false:=zth.mpr h';simp only[ztu,e,e',List.lookup_nil]
inductive za9(C:Addr)(vs:List V)(H:Hp)(Q:VK)(_:XK):Prop where
 | mk(p)(dx)(_:vs=[.ref p])(_:H p=some (.ins C dx []))(_:∀ lr ld H',Ut C H' p lr ld []->(∀ b o,H b=some o->b≠p->H' b=some o)->H lr=none->H ld=none->lr≠ld->Q .non H')
inductive Mp(C:Addr)(vs:List V)(H:Hp)(Q:VK)(_:XK):Prop where
 | mk(p)(lr)(ld)(Rs)(_:vs=[.ref p])(_:Ut C H p lr ld Rs)(_:Q (.int (Rs.length:Nat)) H)
inductive zg0(C:Addr)(vs:List V)(H:Hp)(Q:VK)(_:XK):Prop where
 | mk(p)(lr)(ld)(Rs)(n)(c)(_:vs=[.ref p,.int n,.int c])(_:Ut C H p lr ld Rs)(_:∀ H',Same H H'->Q (.int (metS Rs n c:Nat)) H')
theorem Pd:([Sum.inl n,Sum.inl c]:List Key)=[Sum.inl n',Sum.inl c']↔n=n'/\c=c':=by
 constructor
 ·intro h;injection h with h1 h2;injection h2 with h2 _;exact⟨Sum.inl.inj h1,Sum.inl.inj h2⟩
 ·rintro⟨rfl,rfl⟩;rfl
theorem Cr.put(h:Cr kvs f)(n c:Int)(t:Nat)(ht:0<t):Cr (putK kvs [Sum.inl n,Sum.inl c] (.int t)) (fun n' c'=>if n'=n/\c'=c then t else f n' c'):=fun n' c'=>by
 rw[Vp];show _=if (if n'=n/\c'=c then t else f n' c')=0 then none else some (V.int ((if n'=n/\c'=c then t else f n' c':Nat):Int))
 by_cases e:n'=n/\c'=c
 ·rw[if_pos e,if_pos (Pd.mpr e),if_neg (by omega)]
 ·rw[if_neg (fun z=>e (Pd.mp z)),if_neg e];exact h n' c'
def Mq(Rs:List (List Row))(rs:List Row)(i:Nat)(n c:Int):Nat:=if (rs.take i).any (hit n c) then Rs.length+1 else metS Rs n c
theorem zcc(Rs:List (List Row))(rs:List Row):Mq Rs rs 0=metS Rs:=by funext n c;unfold Mq;simp
theorem zd9(Rs:List (List Row))(rs:List Row):Mq Rs rs rs.length=metS (Rs++[rs]):=by funext n c;unfold Mq;rw[zte,zcb]
theorem Fw(e:rs[i]?=some r)(n c:Int):Mq Rs rs (i+1) n c=if hit n c r then Rs.length+1 else Mq Rs rs i n c:=by
 unfold Mq;rw[zt8,e,List.any_append];cases h1:(rs.take i).any (hit n c)<;>cases h2:hit n c r<;>simp[h2]
theorem zcd(e:rs[i]?=some r)(h:r.w=none):Mq Rs rs (i+1)=Mq Rs rs i:=by
 funext n c
 rw[Fw e];have:hit n c r=false:=by unfold hit;rw[h];simp
 rw[this];simp
theorem zce(e:rs[i]?=some r)(h:r.w=some w) :
  (fun n c=>if n=w/\c=r.g then Rs.length+1 else (fun n c=>if n=w/\c=r.h then Rs.length+1 else Mq Rs rs i n c) n c)=Mq Rs rs (i+1):=by
 funext n c
 rw[Fw e];unfold hit;rw[h];show (if n=w/\c=r.g then Rs.length+1 else if n=w/\c=r.h then Rs.length+1 else Mq Rs rs i n c)=_
 by_cases h1:n=w
 ·subst h1
  by_cases h2:r.g=c
  ·rw[if_pos ⟨rfl,h2.symm⟩,if_pos (by simp[h2])]
  ·rw[if_neg (fun z=>h2 z.2.symm)]
   by_cases h3:r.h=c
   ·rw[if_pos ⟨rfl,h3.symm⟩,if_pos (by simp[h3])]
   ·rw[if_neg (fun z=>h3 z.2.symm),if_neg (by simp[h2,h3])]
 ·rw[if_neg (fun z=>h1 z.1),if_neg (fun z=>h1 z.1),if_neg (by simp;intro z;exact absurd z.symm h1)]
theorem zea{C:Addr}{H1 H':Hp}{x dx lr ld:Addr}(hx:H1 x=none)(hdx:H1 dx=none)(ne:dx≠x)(k:∀ b o,upd (upd H1 dx (.own x)) x (.ins C dx []) b=some o->b≠x->H' b=some o)
  (h1:upd (upd H1 dx (.own x)) x (.ins C dx []) lr=none) (h2:upd (upd H1 dx (.own x)) x (.ins C dx []) ld=none):Same H1 H'/\H1 lr=none/\H1 ld=none:=by
 have fr:∀ {l:Addr},upd (upd H1 dx (.own x)) x (.ins C dx []) l=none->H1 l=none:=fun {l} q=>by
  have n1:l≠x:=fun z=>by rw[z,Zc] at q;cases q
  have n2:l≠dx:=fun z=>by rw[z,Zi ne,Zc] at q;cases q
  rw[Zi n1,Zi n2] at q;exact q
 refine⟨fun b o e=>k b o ?_ (Zh e hx),fr h1,fr h2⟩
 rw[Zi (Zh e hx),Zi (Zh e hdx)];exact e
theorem zjp{lr ld:Addr}:putF "meetings" (V.ref ld) [(("rounds":Str),V.ref lr)]=[(("rounds":Str),V.ref lr),(("meetings":Str),V.ref ld)]:=by
 show (if ("rounds":Str)="meetings" then _ else _)=_
 rw[if_neg (by decide +kernel)];rfl
theorem Z6(h:H l=none)(s:Same H H'):Same H (upd H' l o):=fun b u e=>by
 rw[Zi (Zh e h)];exact s b u e
theorem Nv(h:oneV x):U6 x=true:=by rcases h with rfl|⟨i,rfl⟩<;>rfl
inductive RLs(H:Hp):List Addr->List (List Row)->Prop where
 | nil:RLs H [] []
 | cons {l:Addr} {ts:List V} {ls:List Addr} {r:List Row} {R:List (List Row)} (h:H l=some (.lst ts)) (q:Z9 H ts (r.map E1)) (n:RLs H ls R):RLs H (l :: ls) (r :: R)
theorem Gi(c:Int)(m:Nat):(Qn c m).length=m:=by unfold Qn;rw[zst,zt3]
theorem Nw(c:Int)(m:Nat):(L6 c m).length=m:=by unfold L6;rw[zst,zt3]
structure L1(C:Addr)(H0:Hp)(p lr ld kR:Addr)(ls:List Addr)(R S:List (List Row))(H:Hp):Prop where
 base:Same H0 H
 led:Ut C H p lr ld R
 krs:H kR=some (.lst (ls.map V.ref))
 rls:RLs H ls S
 sep:∀ l∈ls,l≠lr/\l≠kR
structure C1(H0:Hp)(lr ld kR:Addr):Prop where
 fr:H0 lr=none
 fd:H0 ld=none
 fk:H0 kR=none
 rk:lr≠kR
section
variable{C:Addr}{H0 H H':Hp}{p lr ld kR:Addr}{ls:List Addr}{R S:List (List Row)}
end
theorem Mr(h1:∀ Q:Bool->Hp->Prop,Q b H->t σ H Q)(h2:∀ Q:Bool->Hp->Prop,Q c H->u σ H Q)(Q:Bool->Hp->Prop)(h:Q (b&&c) H):zdf t u σ H Q:=by
 refine h1 _ ?_;cases b with
 | true=>exact h2 _ h
 | false=>exact h
def R1(Rs:List (List Row))(n c rest:Int):Bool:=decide ((if (0:Int)>(Rs.length:Nat)-rest then 0 else ((Rs.length:Nat):Int)-rest)<(metS Rs n c:Nat))
inductive Cs(C:Addr)(vs:List V)(H:Hp)(Q:VK)(_:XK):Prop where
 | mk(p)(lr)(ld)(Rs)(n)(c)(rest)(_:vs=[.int n,.int c,.ref p,.int rest])(_:Ut C H p lr ld Rs)(_:∀ H',Same H H'->Q (.bl (R1 Rs n c rest)) H')
def bw(b:Bool)(w:Str):List Str:=if b then [w] else []
def whyS(Rs:List (List Row))(n g c h gu d:Int)(o:Bool)(rest:Int):List Str :=
 bw o "away"++(bw (decide (g<d)) "grade"++(bw (decide (c=h)||decide (c=gu)) "club"++bw (R1 Rs n h rest||R1 Rs n gu rest) "met"))
inductive Fx(K:PySem.W.Frag)(C:Addr)(vs:List V)(H:Hp)(Q:VK)(_:XK):Prop where
 | mk(t1 t2 p lr ld:Addr)(Rs:List (List Row))(n g c h gu d rest:Int)(o:Bool)(_:vs=[.ref t1,.ref t2,.bl o,.ref p,.int rest])(_:H t1=some (.tup [.int n,.int g,.int c]))(_:H t2=some (.tup [.int h,.int gu,.int d]))(_:Ut C H p lr ld Rs)(_:∀ l H',H' l=some (.lst ((whyS Rs n g c h gu d o rest).map V.str))->Same H H'->H l=none->Q (.ref l) H')
def Gr(c:TT)(σ:L2.St)(H:Hp)(b:Bool):Prop:=∀ Q:Bool->Hp->Prop,(∀ H1,Same H H1->Q b H1)->c σ H Q
theorem Ct(h1:Gr t σ H b)(h2:∀ H1,Same H H1->Gr u σ H1 c):Gr (tOr t u) σ H (b||c):=fun Q h=>by
 refine h1 _ fun H1 s1=>?_
 cases b with
 | true=>exact h H1 s1
 | false=>exact h2 H1 s1 _ fun H2 s2=>h H2 (s1.trans s2)
theorem Rk(h:∀ Q:Bool->Hp->Prop,Q b H->c σ H Q):Gr c σ H b:=fun Q q=>h Q (q H (Same.refl H))
theorem T3(hc:Gr c σ H b)(h0:H0 l=none)(s:Same H0 H)(hl:H l=some (.lst (xs.map V.str)))(hx:xs.length<=100)(hv:σ[i]?=some (some (.ref l)))
  (h3:∀ H',Same H0 H'->H' l=some (.lst ((xs++bw b w).map V.str))->(∀ b o,H b=some o->b≠l->H' b=some o)->u D σ H'):Zx (D6 c (zjn (tVar i) (tC (.str w))) D5) u D σ H:=by
 refine hc _ fun H1 s1=>?_
 have hl1:=s1 _ _ hl;cases b with
 | true =>
   rw[if_pos rfl];refine⟨_,hv,l,_,rfl,hl1,_,hl1,Ub (by rw[zst];omega),?_⟩
   refine h3 _ (Z6 h0 (s.trans s1)) ?_ fun b o e n=>by rw[Zi n];exact s1 _ _ e
   rw[Zc,zs1];rfl
 | false =>
   rw[if_neg (by decide)]
   exact h3 _ (s.trans s1) (by rw[show bw false w=[] from rfl,zt4];exact hl1) fun b o e _=>s1 _ _ e
theorem Mt(b:Bool)(w:Str):(bw b w).length<=1:=by cases b<;>simp[bw]
theorem zf6:x<metS Rs n c↔∃ (j:Nat) (r:List Row),Rs[j]?=some r/\r.any (hit n c)=true/\x<j+1:=by
 have gen:∀ (Rs:List (List Row)) (p:Nat×Nat),p.2<=p.1->(x<(Rs.foldl (fun p rs=>(p.1+1,if rs.any (hit n c) then p.1+1 else p.2)) p).2↔(∃ (j:Nat) (r:List Row),Rs[j]?=some r/\r.any (hit n c)=true/\x<p.1+j+1)\/x<p.2):=fun Rs=>by
  induction Rs with
  | nil=>intro p hp;simp
  | cons r Rs ih =>
    intro p hp;rw[List.foldl_cons,ih _ (by show (if r.any (hit n c) then p.1+1 else p.2)<=p.1+1;split<;>omega)]
    show ((∃ (j:Nat) (r':List Row),Rs[j]?=some r'/\r'.any (hit n c)=true/\x<p.1+1+j+1)\/x<(if r.any (hit n c) then p.1+1 else p.2))↔_
    constructor
    ·rintro(⟨j,r',h1,h2,h3⟩|h)
     ·exact .inl ⟨j+1,r',by simpa using h1,h2,by omega⟩
     ·by_cases hr:r.any (hit n c)=true
      ·rw[if_pos hr] at h
       exact .inl ⟨0,r,rfl,hr,by omega⟩
      ·rw[if_neg hr] at h
       exact .inr h
    ·rintro(⟨j,r',h1,h2,h3⟩|h)
     ·cases j with
      | zero =>
        have e:r=r':=by simpa using h1
        subst e;exact .inr (by rw[if_pos h2];omega)
      | succ j=>exact .inl ⟨j,r',by simpa using h1,h2,by omega⟩
     ·right
      split<;>omega
 have:=gen Rs (0,0) (zs3 _);unfold metS E2;rw[this];simp
theorem zcf{Rs:List (List Row)}{n c rest:Int}:R1 Rs n c rest=true↔∃ (j:Nat) (r:List Row),Rs[j]?=some r/\r.any (hit n c)=true/\(Rs.length:Int)-rest<=j:=by
 unfold R1;rw[decide_eq_true_eq];have e:(if (0:Int)>(Rs.length:Nat)-rest then 0 else ((Rs.length:Nat):Int)-rest)<(metS Rs n c:Nat)↔(((Rs.length:Nat):Int)-rest).toNat<metS Rs n c:=by
  split<;>omega
 rw[e,zf6];constructor
 ·rintro⟨j,r,h1,h2,h3⟩;exact⟨j,r,h1,h2,by omega⟩
 ·rintro⟨j,r,h1,h2,h3⟩;exact⟨j,r,h1,h2,by omega⟩
theorem zeb(c:Int)(hi:i<40)(hj:j<40)(h:zca c i=zca c j):i=j:=by
 unfold zca at h
 have hs:stp c=1\/stp c=2\/stp c=5\/stp c=10\/stp c=100\/stp c=500\/stp c=998:=by
  unfold stp;have h0:0<=c%7:=by omega
  have h1:c%7<7:=by omega
  generalize c%7=r at h0 h1
  obtain⟨k,rfl⟩:∃ k:Nat,r=k:=⟨r.toNat,by omega⟩
  rw[zta];have hk:k<7:=by omega
  match k,hk with
  | 0,_=>simp
  | 1,_=>simp
  | 2,_=>simp
  | 3,_=>simp
  | 4,_=>simp
  | 5,_=>simp
  | 6,_=>simp
 generalize c/7=x at h
 rcases hs with e|e|e|e|e|e|e<;>rw[e] at h<;>omega
end G

namespace L2
open PySem PySem.Spec PyProof.Rows
end L2
namespace G
open PySem PySem.Spec PyProof.Rows L2
abbrev P3:=Int×Int×Int
def pV(m:P3):List V:=[.int m.1,.int m.2.1,.int m.2.2]
theorem Jx{H:Hp}{ts:List V}{Ms:List P3}{i:Nat}{x:V}(h:Z9 H ts (Ms.map pV))(e:ts[i]?=some x):∃ t m,x=.ref t/\Ms[i]?=some m/\H t=some (.tup (pV m)):=by
 obtain⟨t,r,h1,h2,h3⟩:=h.get e;rw[zs0] at h2
 cases q:Ms[i]? with
 | none=>rw[q] at h2;cases h2
 | some m=>rw[q] at h2;cases h2;exact⟨t,m,h1,rfl,h3⟩
theorem Z9.reverse:∀ {ts:List V} {R:List (List V)},Z9 H ts R->Z9 H ts.reverse R.reverse
 | _,_,.nil=>.nil
 | _,_,.cons h q=>by rw[zuw,zuw];exact(Z9.reverse q).snoc h
def Qp(Rs:List (List Row))(h gu d:Int)(os:List V)(rest:Int)(m:P3):Bool:=(whyS Rs m.1 m.2.1 m.2.2 h gu d (inV (.int m.1) os) rest).isEmpty
inductive Cu(K:PySem.W.Frag)(C:Addr)(vs:List V)(H:Hp)(Q:VK)(_:XK):Prop where
 | mk(lp lo tm p lr ld:Addr)(Rs:List (List Row))(ts:List V)(Ms:List P3)(os:List V)(h gu d rest:Int)(_:vs=[.ref lp,.ref tm,.ref lo,.ref p,.int rest])(_:H lp=some (.lst ts))(_:Z9 H ts (Ms.map pV))(_:H lo=some (.lst os))(_:(∀ x∈os,oneV x))(_:H tm=some (.tup [.int h,.int gu,.int d]))(_:Ut C H p lr ld Rs)(_:Ms.length<=1000)(_:∀ l H',H' l=some (.lst ((Ms.filter (Qp Rs h gu d os rest)).map fun m=>V.int m.1))->Same H H'->H l=none->Q (.ref l) H')
theorem zcg{Rs:List (List Row)}{n c rest:Int}(hr:0<=rest):R1 Rs n c rest=true↔∃ rs∈Rs.drop ((Rs.length:Int)-rest).toNat,∃ r∈rs,hit n c r=true:=by
 rw[zcf];constructor
 ·rintro⟨j,rs,h1,h2,h3⟩
  obtain⟨r,hr1,hr2⟩:=List.any_eq_true.mp h2;refine⟨rs,?_,r,hr1,hr2⟩;have hk:((Rs.length:Int)-rest).toNat<=j:=by omega
  refine zs5 (i:=j-((Rs.length:Int)-rest).toNat) ?_;rw[List.getElem?_drop,Nat.add_sub_cancel' hk];exact h1
 ·rintro⟨rs,h1,r,h2,h3⟩
  obtain⟨i,hi,e⟩:=ztr h1;refine⟨((Rs.length:Int)-rest).toNat+i,rs,?_,List.any_eq_true.mpr ⟨r,h2,h3⟩,by omega⟩
  rw[<- List.getElem?_drop,zsu hi,e]
def zg1(xs:List V):List Nat:=(List.range xs.length).filter fun i=>decide (xs[i]?=some .non)
def X1(xs:List V)(n:Int):Option Nat:=(List.range xs.length).find? fun i=>decide (xs[i]?=some (.int n))
def oN:Option Nat->V
 | none=>.non
 | some i=>.int i
inductive Fy(K:PySem.W.Frag)(vs:List V)(H:Hp)(Q:VK)(_:XK):Prop where
 | mk(b:Addr)(xs:List V)(n:Int)(_:vs=[.ref b,.int n])(_:H b=some (.lst xs))(_:(∀ x∈xs,oneV x))(_:xs.length<=100)(_:∀ H',Same H H'->Q (oN (X1 xs n)) H')
def Yf:List (Nat×Option Int)->List V->List V
 | [],xs=>xs
 | (p,w) :: r,xs=>Yf r (xs.set p (oV w))
def We(s:Nat×Option Int):List V:=[.int (s.1:Nat),oV s.2]
inductive S6(K:PySem.W.Frag)(vs:List V)(H:Hp)(Q:VK)(_:XK):Prop where
 | mk(b c:Addr)(xs ts:List V)(st:List (Nat×Option Int))(_:vs=[.ref b,.ref c])(_:H b=some (.lst xs))(_:H c=some (.lst ts))(_:Z9 H ts (st.map We))(_:(∀ s∈st,s.1<xs.length))(_:(∀ x∈xs,oneV x))(_:xs.length<=100)(_:st.length<=100)(_:∀ l H',H' l=some (.lst (Yf st xs))->Same H H'->H l=none->Q (.ref l) H')
theorem Xy:∀ (st:List (Nat×Option Int)) (xs:List V),(Yf st xs).length=xs.length
 | [],_=>rfl
 | (p,w) :: r,xs=>by rw[Yf,Xy r,zuk]
theorem L7(xs:List V)(n:Int):(X1 xs n=none/\∀ i:Nat,xs[i]?≠some (V.int n))\/∃ i:Nat,X1 xs n=some i/\xs[i]?=some (V.int n):=by
 unfold X1;cases h:(List.range xs.length).find? fun i=>decide (xs[i]?=some (.int n)) with
 | none =>
   refine .inl ⟨rfl,fun i e=>?_⟩
   have hi:i<xs.length:=(zsv.mp e).1;have:=List.find?_eq_none.mp h i (zt1.mpr hi);exact this (zsy e)
 | some i =>
   have:=List.find?_some h;exact .inr ⟨i,rfl,of_decide_eq_true this⟩
theorem zch(xs:List V)(k:Nat):Ga xs (some (k:Int)) none=xs.drop k:=by
 unfold Ga;rw[HT.sIx_nat,HT.sIx_none];by_cases h:k<=xs.length
 ·rw[Nat.min_eq_left h,<- List.length_drop,zte]
 ·rw[Nat.min_eq_right (by omega),List.drop_length,List.take_nil,List.drop_eq_nil_of_le (by omega)]
inductive ILs(H:Hp):List Addr->List (List Int)->Prop where
 | nil:ILs H [] []
 | cons {l:Addr} {ls:List Addr} {r:List Int} {R:List (List Int)} (h:H l=some (.lst (r.map V.int))) (n:ILs H ls R):ILs H (l :: ls) (r :: R)
theorem ILs.keep:∀ {ls:List Addr} {R:List (List Int)},(∀ l∈ls,∀ o,H l=some o->H' l=some o)->ILs H ls R->ILs H' ls R
 | _,_,_,.nil=>.nil
 | _,_,k,.cons h r=>.cons (k _ zto _ h) (ILs.keep (fun l hl=>k l (ztc _ hl)) r)
theorem ILs.same(e:Same H H')(h:ILs H ls R):ILs H' ls R:=h.keep fun l _ o q=>e _ _ q
theorem ILs.length:∀ {ls:List Addr} {R:List (List Int)},ILs H ls R->ls.length=R.length
 | _,_,.nil=>rfl
 | _,_,.cons _ r=>by simp[ILs.length r]
theorem ILs.snoc(h:H l=some (.lst (x.map V.int))):∀ {ls:List Addr} {R:List (List Int)},ILs H ls R->ILs H (ls++[l]) (R++[x])
 | _,_,.nil=>.cons h .nil
 | _,_,.cons h' r=>.cons h' (ILs.snoc h r)
theorem ILs.has:∀ {ls:List Addr} {R:List (List Int)} {l:Addr},ILs H ls R->l∈ls->∃ xs,H l=some (.lst xs)
 | _,_,_,.nil,e=>by simp at e
 | _,_,_,.cons h r,e=>by
   rcases zsz.mp e with rfl|e
   ·exact⟨_,h⟩
   ·exact ILs.has r e
theorem ILs.getR:∀ {ls:List Addr} {R:List (List Int)} {i:Nat} {r:List Int},ILs H ls R->R[i]?=some r->∃ l,ls[i]?=some l/\H l=some (.lst (r.map V.int))
 | _,_,_,_,.nil,e=>by simp at e
 | _,_,0,_,.cons h _,e=>by simp at e;subst e;exact⟨_,rfl,h⟩
 | _,_,i+1,x,.cons _ r,e=>by
   obtain⟨t,h1,h2⟩:=ILs.getR (i:=i) (r:=x) r (by simpa using e)
   exact⟨t,by simpa using h1,h2⟩
structure R4(rows:List (List Int))(nu:List Int):Prop where
 few:rows.length<=20
 crowd:nu.length<=30
 inj:nu.Nodup
 rng:∀ n∈nu,1<=n/\n<=999
 sub:∀ r∈rows,r.Nodup/\∀ n∈r,n∈nu
theorem R4.len(h:R4 rows nu)(hr:r∈rows):r.length<=30 :=
 ztb ((h.sub r hr).1.length_le_of_subset (fun x hx=>(h.sub r hr).2 x hx)) h.crowd
structure Yn(rows:List (List Int))(gs:List V):Prop where
 len:gs.length=rows.length
 one:∀ x∈gs,oneV x
 may:∀ (k:Nat) (n:Int),gs[k]?=some (.int n)->∃ r,rows[k]?=some r/\n∈r
 inj:∀ (j k:Nat) (n:Int),gs[j]?=some (.int n)->gs[k]?=some (.int n)->j=k
def Pf(rows:List (List Int))(gs:List V)(p:Nat):Prop:=∃ S:Nat->Prop,S p/\∀ q,S q->q<rows.length/\∀ r,rows[q]?=some r->∀ n∈r,∃ q',q' < p/\gs[q']?=some (.int n)/\S q'
def Uy(rows:List (List Int))(gs:List V):Prop:=∀ p,gs[p]?=some .non->Pf rows gs p
inductive zec(K:PySem.W.Frag)(vs:List V)(H:Hp)(Q:VK)(_:XK):Prop where
 | mk(l:Addr)(ls:List Addr)(rows:List (List Int))(nu:List Int)(_:vs=[.ref l])(_:H l=some (.lst (ls.map V.ref)))(_:ILs H ls rows)(_:R4 rows nu)(_:∀ l' gs H',H' l'=some (.lst gs)->Yn rows gs->Uy rows gs->Same H H'->H l'=none->Q (.ref l') H')
inductive L8(K:PySem.W.Frag)(vs:List V)(H:Hp)(Q:VK)(_:XK):Prop where
 | mk(l lg:Addr)(ls:List Addr)(rows:List (List Int))(gs:List V)(_:vs=[.ref l,.ref lg])(_:H l=some (.lst (ls.map V.ref)))(_:ILs H ls rows)(_:rows.length<=100)(_:H lg=some (.lst gs))(_:Yn rows gs)(_:∀ H',Same H H'->Q (.bl true) H')
theorem Ph{n:Int}{r:List Int}:inV (.int n) (r.map V.int)=decide (n∈r):=by
 induction r with
 | nil=>rfl
 | cons x r ih =>
   unfold inV at ih ⊢
   rw[zs4,zuv,ih];have e:eqV (.int x) (.int n)=decide (n=x):=by
    show (x == n)=_;by_cases h:n=x
    ·subst h;simp
    ·rw[zs8 h];exact zth.mpr (Ne.symm h)
   rw[e];by_cases h:n=x
   ·subst h;simp
   ·by_cases h2:n∈r<;>simp[h,h2]
theorem Mu(r:List Int):(r.map V.int).all U6=true:=by
 rw[List.all_map];exact zuf.mpr fun _ _=>rfl
end G

namespace G
open PySem PySem.Spec PyProof.Rows L2
def newS(st:List (Nat×Option Int))(k:Nat):List V:=(st.filter fun s=>decide (s.1=k)).map fun s=>oV s.2
theorem Fz:∀ (st:List (Nat×Option Int)) (xs:List V) (k:Nat),(st.map (·.1)).Nodup->k<xs.length->(Yf st xs)[k]?=some ((newS st k++[xs.getD k .non]).getD 0 .non)
 | [],xs,k,_,hk=>by
   rw[Yf,zsu hk];show _=some (xs.getD k .non);rw[ztj,zsu hk];rfl
 | (p,w) :: r,xs,k,nd,hk=>by
   rw[zs4,ztn] at nd
   rw[Yf,Fz r _ k nd.2 (by rw[zuk];exact hk)]
   by_cases h:p=k
   ·subst h
    have e:newS r p=[]:=by
     unfold newS;rw[List.map_eq_nil_iff,List.filter_eq_nil_iff];intro s hs z;exact nd.1 (zs2.mpr ⟨s,hs,of_decide_eq_true z⟩)
    have e2:newS ((p,w) :: r) p=oV w :: newS r p:=by
     unfold newS;rw[zue,if_pos (zsy rfl),zs4]
    rw[e2,e];show some ((xs.set p (oV w)).getD p .non)=some (oV w);rw[ztj,ztz hk];rfl
   ·have e2:newS ((p,w) :: r) k=newS r k:=by
     unfold newS;rw[zue,if_neg (by rw[zs8 h];decide)]
    rw[e2];have e3:(xs.set p (oV w)).getD k .non=xs.getD k .non:=by
     rw[ztj,ztj,zty h]
    rw[e3]
section
variable{rows:List (List Int)}{gs:List V}
def adjN(rows:List (List Int))(gs:List V)(q:Nat)(n:Int)(q':Nat):Prop:=(∃ r,rows[q]?=some r/\n∈r)/\gs[q']?=some (.int n)
def Qq(rows:List (List Int))(gs:List V)(q:Nat)(n:Int):Prop:=(∃ r,rows[q]?=some r/\n∈r)/\∀ j:Nat,gs[j]?≠some (V.int n)
def Xz(rows:List (List Int))(gs:List V)(q:Nat):Prop:=∃ n,Qq rows gs q n
inductive Walk(rows:List (List Int))(gs:List V)(p:Nat):Nat->Nat->Prop where
 | nil:Walk rows gs p p 0
 | snoc {q q' k:Nat} {n:Int} (h:Walk rows gs p q k) (a:adjN rows gs q n q'):Walk rows gs p q' (k+1)
theorem Walk.cons(a:adjN rows gs p n p')(h:Walk rows gs p' q k):Walk rows gs p q (k+1):=by
 induction h with
 | nil=>exact .snoc .nil a
 | snoc _ a' ih=>exact .snoc ih a'
inductive Ch(rows:List (List Int))(gs:List V):Nat->List (Nat×Option Int)->Nat->Option Int->Prop where
 | one (q:Nat) (w:Option Int):Ch rows gs q [(q,w)] q w
 | step {q q' e:Nat} {n:Int} {st:List (Nat×Option Int)} {w:Option Int} (a:adjN rows gs q n q') (h:Ch rows gs q' st e w):Ch rows gs q ((q,some n) :: st) e w
theorem Ch.pos{q e:Nat}{st:List (Nat×Option Int)}{w:Option Int}(h:Ch rows gs q st e w):0<st.length:=by cases h<;>simp
theorem Ch.walk{q e:Nat}{st:List (Nat×Option Int)}{w:Option Int}(h:Ch rows gs q st e w):Walk rows gs q e (st.length-1):=by
 induction h with
 | one q w=>exact .nil
 | step a h ih =>
   have:=h.pos;have e:=Walk.cons a ih;rw[zti,Nat.add_sub_cancel];rw[Nat.sub_add_cancel this] at e
   exact e
theorem Ch.drop{q e:Nat}{st:List (Nat×Option Int)}{w:Option Int}(h:Ch rows gs q st e w):∀ x∈st.map (·.1),∃ st',Ch rows gs x st' e w/\st'.length<=st.length:=by
 induction h with
 | one q w=>intro x hx;simp at hx;subst hx;exact⟨_,.one _ _,zs3 _⟩
 | @step q q' e n st w a h ih =>
   intro x hx;rw[zs4] at hx
   rcases zsz.mp hx with z|z
   ·subst z;exact⟨_,.step a h,zs3 _⟩
   ·obtain⟨st',h1,h2⟩:=ih x z
    exact⟨st',h1,by rw[zti];omega⟩
theorem Ch.hd{q e:Nat}{st:List (Nat×Option Int)}{w:Option Int}(h:Ch rows gs q st e w):∃ x r,st=(q,x) :: r:=by cases h<;>exact⟨_,_,rfl⟩
theorem Ch.last{q e:Nat}{st:List (Nat×Option Int)}{w:Option Int}(h:Ch rows gs q st e w):e∈st.map (·.1):=by
 induction h with
 | one q w=>simp
 | step a h ih=>rw[zs4];exact ztc _ ih
theorem Ch.nodup{q e:Nat}{st:List (Nat×Option Int)}{w:Option Int}(h:Ch rows gs q st e w)(hm:∀ k,Walk rows gs q e k->st.length<=k+1):(st.map (·.1)).Nodup:=by
 induction h with
 | one q w=>simp
 | @step q q' e n st w a h ih =>
   rw[zs4,ztn];refine⟨fun hq=>?_,ih fun k hk=>?_⟩
   ·obtain⟨st',h1,h2⟩:=h.drop q hq
    have:=hm _ h1.walk;have:=h1.pos;rw[zti] at *
    omega
   ·have:=hm _ (Walk.cons a hk)
    rw[zti] at this
    omega
theorem Ch.mem{q e:Nat}{st:List (Nat×Option Int)}{w:Option Int}(h:Ch rows gs q st e w):∀ (k:Nat) (n:Int),(k,some n)∈st->(adjN rows gs k n k\/True)/\(((∃ r,rows[k]?=some r/\n∈r)/\∃ k',gs[k']?=some (V.int n)/\k'∈st.tail.map (·.1))\/(w=some n/\k=e)):=by
 induction h with
 | one q w =>
   intro k n hk;simp at hk
   exact⟨.inr trivial,.inr ⟨hk.2.symm,hk.1⟩⟩
 | @step q q' e n' st w a h ih =>
   intro k n hk;refine⟨.inr trivial,?_⟩;rcases zsz.mp hk with z|z
   ·cases z
    refine .inl ⟨a.1,q',a.2,?_⟩;obtain⟨x,r,e⟩:=h.hd;rw[e];simp
   ·rcases(ih k n z).2 with ⟨h1,k',h2,h3⟩|h1
    ·refine .inl ⟨h1,k',h2,?_⟩
     show k'∈st.map (·.1)
     obtain⟨x,r,e⟩:=h.hd;rw[e] at h3 ⊢
     exact ztc _ h3
    ·exact .inr h1
theorem Ch.inj{q e:Nat}{st:List (Nat×Option Int)}{w:Option Int}(FP:Yn rows gs)(h:Ch rows gs q st e w)(hw:∀ n,w=some n->∀ j:Nat,gs[j]?≠some (V.int n))(nd:(st.map (·.1)).Nodup):∀ (j k:Nat) (n:Int),(j,some n)∈st->(k,some n)∈st->j=k:=by
 induction h with
 | one q w=>intro j k n h1 h2;simp at h1 h2;rw[h1.1,h2.1]
 | @step q q' e n' st w a h ih =>
   intro j k n h1 h2;rw[zs4,ztn] at nd
   have key:∀ k,(k,some n')∈st->False:=fun k hk=>by
    rcases(h.mem k n' hk).2 with ⟨_,k',h2,h3⟩|⟨h1,_⟩
    ·have e:k'=q':=FP.inj k' q' n' h2 a.2
     subst e;obtain⟨x,r,e⟩:=h.hd;have nd2:=nd.2;rw[e] at nd2 h3
     rw[zs4,ztn] at nd2
     exact nd2.1 h3
    ·exact hw n' h1 q' a.2
   rcases zsz.mp h1 with z1|z1<;>rcases zsz.mp h2 with z2|z2
   ·cases z1;cases z2;rfl
   ·cases z1;exact(key k z2).elim
   ·cases z2;exact(key j z1).elim
   ·exact ih hw nd.2 j k n z1 z2
theorem zed{st:List (Nat×Option Int)}{k:Nat}(nd:(st.map (·.1)).Nodup):(k∉st.map (·.1)/\newS st k=[])\/∃ w,(k,w)∈st/\newS st k=[oV w]:=by
 induction st with
 | nil=>exact .inl ⟨by simp,rfl⟩
 | cons s r ih =>
   obtain⟨p,w⟩:=s;rw[zs4,ztn] at nd
   by_cases h:p=k
   ·subst h
    refine .inr ⟨w,zto,?_⟩;rcases ih nd.2 with ⟨_,e⟩|⟨w',h1,_⟩
    ·have e2:newS ((p,w) :: r) p=oV w :: newS r p:=by
      unfold newS;rw[zue,if_pos (zsy rfl),zs4]
     rw[e2,e]
    ·exact absurd (zs2.mpr ⟨_,h1,rfl⟩) nd.1
   ·have e2:newS ((p,w) :: r) k=newS r k:=by
     unfold newS;rw[zue,if_neg (by rw[zs8 h];decide)]
    rw[e2];rcases ih nd.2 with ⟨h1,e⟩|⟨w',h1,e⟩
    ·exact .inl ⟨fun z=>by rcases zsz.mp z with q|q;exact h q.symm;exact h1 q,e⟩
    ·exact .inr ⟨w',ztc _ h1,e⟩
theorem Ww{st:List (Nat×Option Int)}{xs:List V}{k:Nat}(nd:(st.map (·.1)).Nodup)(hk:k<xs.length):(k∉st.map (·.1)/\(Yf st xs)[k]?=xs[k]?)\/∃ w,(k,w)∈st/\(Yf st xs)[k]?=some (oV w):=by
 rw[Fz st xs k nd hk];rcases zed (k:=k) nd with ⟨h,e⟩|⟨w,h,e⟩
 ·refine .inl ⟨h,?_⟩
  rw[e];show some (xs.getD k .non)=_;rw[ztj,zsu hk];rfl
 ·exact .inr ⟨w,h,by rw[e];rfl⟩
theorem Ch.lt{q e:Nat}{st:List (Nat×Option Int)}{w:Option Int}(FP:Yn rows gs)(h:Ch rows gs q st e w)(hq:q<rows.length):∀ s∈st,s.1<rows.length:=by
 induction h with
 | one q w=>intro s hs;simp at hs;subst hs;exact hq
 | @step q q' e n st w a h ih =>
   intro s hs;rcases zsz.mp hs with z|z
   ·subst z;exact hq
   ·refine ih ?_ s z
    have:=(zsv.mp a.2).1;rw[FP.len] at this;exact this
theorem Ch.fill{q e:Nat}{st:List (Nat×Option Int)}{w:Option Int}(FP:Yn rows gs)(h:Ch rows gs q st e w)(hq:q<rows.length)(hw:∀ n,w=some n->Qq rows gs e n)(nd:(st.map (·.1)).Nodup):Yn rows (Yf st gs):=by
 have hlt:=h.lt FP hq;have hinj:=h.inj FP (fun n hn=>(hw n hn).2) nd
 have src:∀ (k:Nat) (n:Int),(k,some n)∈st->(∃ r,rows[k]?=some r/\n∈r)/\∀ j:Nat,gs[j]?=some (V.int n)->j∈st.map (·.1):=fun k n hk=>by
  rcases(h.mem k n hk).2 with ⟨h1,k',h2,h3⟩|⟨h1,rfl⟩
  ·refine⟨h1,fun j hj=>?_⟩
   rw[FP.inj j k' n hj h2];obtain⟨x,r,e⟩:=h.hd;rw[e] at h3 ⊢
   exact ztc _ h3
  ·exact⟨(hw n h1).1,fun j hj=>absurd hj ((hw n h1).2 j)⟩
 have cs:∀ k,k<gs.length->(k∉st.map (·.1)/\(Yf st gs)[k]?=gs[k]?)\/∃ w,(k,w)∈st/\(Yf st gs)[k]?=some (oV w):=fun k hk=>Ww nd hk
 have at_:∀ (k:Nat) (n:Int),(Yf st gs)[k]?=some (V.int n)->(k∉st.map (·.1)/\gs[k]?=some (V.int n))\/(k,some n)∈st:=fun k n hk=>by
  have hkl:k<gs.length:=by
   have:=(zsv.mp hk).1;rw[Xy] at this;exact this
  rcases cs k hkl with ⟨h1,e⟩|⟨w',h1,e⟩
  ·exact .inl ⟨h1,by rw[<- e];exact hk⟩
  ·rw[e] at hk
   cases w' with
   | none=>cases hk
   | some m=>cases hk;exact .inr h1
 refine⟨by rw[Xy];exact FP.len,fun x hx=>?_,fun k n hk=>?_,fun j k n hj hk=>?_⟩
 ·obtain⟨k,hk,rfl⟩:=ztr hx
  have hkl:k<gs.length:=by rw[Xy] at hk;exact hk
  have e0:=zsu hk;rcases cs k hkl with ⟨_,e⟩|⟨w',_,e⟩
  ·rw[e,zsu hkl] at e0
   rw[<- Option.some.inj e0];exact FP.one _ (ztp hkl)
  ·rw[e] at e0
   rw[<- Option.some.inj e0];exact zh5 w'
 ·rcases at_ k n hk with ⟨_,h1⟩|h1
  ·exact FP.may k n h1
  ·exact(src k n h1).1
 ·rcases at_ j n hj with ⟨a1,a2⟩|a1<;>rcases at_ k n hk with ⟨b1,b2⟩|b1
  ·exact FP.inj j k n a2 b2
  ·exact absurd ((src k n b1).2 j a2) a1
  ·exact absurd ((src j n a1).2 k b2) b1
  ·exact hinj j k n a1 b1
theorem Ch.out{p0 q e:Nat}{n0:Int}{w:Option Int}{st:List (Nat×Option Int)}{S:Nat->Prop}(FP:Yn rows gs)(hS:∀ q,S q->q<rows.length/\∀ r,rows[q]?=some r->∀ n∈r,∃ q',q' < p0/\gs[q']?=some (.int n)/\S q')(h:Ch rows gs q st e w):w=some n0->Qq rows gs e n0->¬ S q:=by
 induction h with
 | one q w =>
   intro hw hf hs;obtain⟨r,h1,h2⟩:=hf.1;obtain⟨q',_,h3,_⟩:=(hS _ hs).2 r h1 n0 h2;exact hf.2 q' h3
 | @step q q' e n st w a h ih =>
   intro hw hf hs;obtain⟨r,h1,h2⟩:=a.1;obtain⟨q'',_,h3,h4⟩:=(hS q hs).2 r h1 n h2;have:q''=q':=FP.inj q'' q' n h3 a.2;subst this;exact ih hw hf h4
theorem Pf.behind{p0 q e:Nat}{n0:Int}{st:List (Nat×Option Int)}(FP:Yn rows gs)(S0:Pf rows gs p0)(h:Ch rows gs q st e (some n0))(hf:Qq rows gs e n0)(hq:q<rows.length)(nd:(st.map (·.1)).Nodup):Pf rows (Yf st gs) p0:=by
 obtain⟨S,hp,hS⟩:=S0;have outAll:∀ x∈st.map (·.1),¬ S x:=fun x hx=>by
  obtain⟨st',h1,_⟩:=h.drop x hx;exact h1.out FP hS rfl hf
 refine⟨S,hp,fun q1 h1=>⟨(hS q1 h1).1,fun r hr n hn=>?_⟩⟩
 obtain⟨q',h2,h3,h4⟩:=(hS q1 h1).2 r hr n hn;refine⟨q',h2,?_,h4⟩;have hkl:q' < gs.length:=(zsv.mp h3).1;rcases Ww nd hkl with ⟨_,e⟩|⟨w,h5,_⟩
 ·rw[e];exact h3
 ·exact absurd h4 (outAll q' (zs2.mpr ⟨_,h5,rfl⟩))
structure Yt(rows:List (List Int))(gs:List V)(p:Nat)(st:List (Nat×Option Int))(e:Nat)(w:Option Int):Prop where
 ch:Ch rows gs p st e w
 free:∀ n,w=some n->Qq rows gs e n/\∀ q k,Walk rows gs p q k->Xz rows gs q->st.length<=k+1
 none:w=none->(∀ q k,Walk rows gs p q k->¬ Xz rows gs q)/\(∀ q k,Walk rows gs p q k->q<=e)/\∀ k,Walk rows gs p e k->st.length<=k+1
theorem Yt.nodup{p e:Nat}{st:List (Nat×Option Int)}{w:Option Int}(c:Yt rows gs p st e w):(st.map (·.1)).Nodup:=by
 refine c.ch.nodup fun k hk=>?_
 cases h:w with
 | none=>exact(c.none h).2.2 k hk
 | some n=>exact(c.free n h).2 e k hk ⟨n,(c.free n h).1⟩
theorem Yt.fill{p e:Nat}{st:List (Nat×Option Int)}{w:Option Int}(FP:Yn rows gs)(c:Yt rows gs p st e w)(hp:p<rows.length):Yn rows (Yf st gs):=c.ch.fill FP hp (fun n hn=>(c.free n hn).1) c.nodup
theorem zee(FP:Yn rows gs)(hp:p<rows.length)(ha:∀ q n,gs[q]?=some (V.int n)->q<p)(hn:∀ q k,Walk rows gs p q k->¬ Xz rows gs q):Pf rows gs p:=by
 refine⟨fun q=>∃ k,Walk rows gs p q k,⟨0,.nil⟩,fun q ⟨k,hk⟩=>⟨?_,fun r hr n hnr=>?_⟩⟩
 ·cases hk with
  | nil=>exact hp
  | snoc _ a =>
    have:=(zsv.mp a.2).1;rw[FP.len] at this;exact this
 ·by_cases hx:∃ j:Nat,gs[j]?=some (V.int n)
  ·obtain⟨j,hj⟩:=hx
   exact⟨j,ha j n hj,hj,k+1,.snoc hk ⟨⟨r,hr,hnr⟩,hj⟩⟩
  ·exact absurd ⟨n,⟨r,hr,hnr⟩,fun j hj=>hx ⟨j,hj⟩⟩ (hn q k hk)
end
section
variable{rows:List (List Int)}{gs:List V}{p:Nat}
structure Bfs(rows:List (List Int))(gs:List V)(p:Nat)(line:List Nat)(dep:Nat->Nat):Prop where
 nodup:line.Nodup
 memp:p∈line
 d0:dep p=0
 walk:∀ q∈line,Walk rows gs p q (dep q)
 sorted:∀ (i j q q':Nat),i<=j->line[i]?=some q->line[j]?=some q'->dep q<=dep q'
def Done(rows:List (List Int))(gs:List V)(line:List Nat)(dep:Nat->Nat)(dn:Nat):Prop:=∀ (i q:Nat),i<dn->line[i]?=some q->∀ n q',adjN rows gs q n q'->q'∈line/\dep q'<=dep q+1
theorem F3(rows:List (List Int))(gs:List V)(p:Nat):Bfs rows gs p [p] (fun _=>0):=by
 refine⟨by simp,by simp,rfl,fun q hq=>?_,fun i j q q' _ _ _=>zs3 _⟩
 simp at hq;subst hq;exact .nil
variable{line:List Nat}{dep:Nat->Nat}{dn:Nat}
theorem Bfs.reach(B:Bfs rows gs p line dep)(D:Done rows gs line dep dn)(h:Walk rows gs p q k):(q∈line/\dep q<=k)\/∃ j q',dn<=j/\line[j]?=some q'/\dep q' < k:=by
 induction h with
 | nil=>exact .inl ⟨B.memp,by rw[B.d0];exact zs3 _⟩
 | @snoc q q' k n h a ih =>
   rcases ih with ⟨h1,h2⟩|⟨j,x,h1,h2,h3⟩
   ·obtain⟨i,hi,e⟩:=ztr h1
    have e':line[i]?=some q:=by rw[zsu hi,e]
    by_cases hd:i<dn
    ·obtain⟨a1,a2⟩:=D i q hd e' n q' a
     exact .inl ⟨a1,by omega⟩
    ·exact .inr ⟨i,q,by omega,e',by omega⟩
   ·exact .inr ⟨j,x,h1,h2,by omega⟩
theorem Bfs.full(B:Bfs rows gs p line dep)(D:Done rows gs line dep line.length)(h:Walk rows gs p q k):q∈line/\dep q<=k:=by
 rcases B.reach D h with z|⟨j,x,h1,h2,_⟩
 ·exact z
 ·have:=(zsv.mp h2).1;omega
theorem Bfs.early(B:Bfs rows gs p line dep)(D:Done rows gs line dep dn)(hh:line[dn]?=some here)(h:Walk rows gs p q k)(hk:k<dep here):∃ i,i<dn/\line[i]?=some q:=by
 rcases B.reach D h with ⟨h1,h2⟩|⟨j,x,h1,h2,h3⟩
 ·obtain⟨i,hi,e⟩:=ztr h1
  have e':line[i]?=some q:=by rw[zsu hi,e]
  refine⟨i,?_,e'⟩;by_cases hd:i<dn
  ·exact hd
  ·have:=B.sorted dn i here q (by omega) hh e'
   omega
 ·have:=B.sorted dn j here x h1 hh h2
  omega
theorem Bfs.fewest(B:Bfs rows gs p line dep)(D:Done rows gs line dep dn)(hh:line[dn]?=some here)(hno:∀ (i q:Nat),i<dn->line[i]?=some q->¬ Xz rows gs q)(h:Walk rows gs p q k)(hf:Xz rows gs q):dep here+1<=k+1:=by
 by_cases hk:k<dep here
 ·obtain⟨i,hi,e⟩:=B.early D hh h hk
  exact absurd hf (hno i q hi e)
 ·omega
def X2(dep:Nat->Nat)(q d:Nat):Nat->Nat:=fun x=>if x=q then d else dep x
theorem Bfs.app(B:Bfs rows gs p line dep)(hh:line[dn]?=some here)(near:∀ x∈line,dep x<=dep here+1)(a:adjN rows gs here n q')(hn:q'∉line) :
  Bfs rows gs p (line++[q']) (X2 dep q' (dep here+1))/\(∀ x∈line,X2 dep q' (dep here+1) x=dep x)/\∀ x∈line++[q'],X2 dep q' (dep here+1) x<=dep here+1:=by
 have old:∀ x∈line,X2 dep q' (dep here+1) x=dep x:=fun x hx=>by
  unfold X2;rw[if_neg (fun (z:x=q')=>hn (by rw[<- z];exact hx))]
 have new:X2 dep q' (dep here+1) q'=dep here+1:=by unfold X2;rw[if_pos rfl]
 have hhm:=zs5 hh;have all:∀ x∈line++[q'],X2 dep q' (dep here+1) x<=dep here+1:=fun x hx=>by
  rcases zs6.mp hx with z|z
  ·rw[old x z];exact near x z
  ·rw[zsx.mp z,new];exact zs3 _
 refine⟨⟨Ew B.nodup hn,ztf _ B.memp,by rw[old p B.memp];exact B.d0,fun q hq=>?_,fun i j x y hij hx hy=>?_⟩,old,all⟩
 ·rcases zs6.mp hq with z|z
  ·rw[old q z];exact B.walk q z
  ·rw[zsx.mp z,new];exact .snoc (B.walk here hhm) a
 ·by_cases hj:j<line.length
  ·rw[ztt hj] at hy
   rw[ztt (by omega)] at hx
   rw[old x (zs5 hx),old y (zs5 hy)];exact B.sorted i j x y hij hx hy
  ·rw[zts (by omega)] at hy
   have:y=q':=by
    cases e:j-line.length with
    | zero=>rw[e] at hy;simpa using hy.symm
    | succ m=>rw[e] at hy;simp at hy
   subst this;rw[new];exact all x (zs5 hx)
theorem Done.app(D:Done rows gs line dep dn)(hd:dn<=line.length)(hl:∃ r,line'=line++r)(he:∀ x∈line,dep' x=dep x):Done rows gs line' dep' dn:=fun i q hi e n q' a=>by
 obtain⟨r,rfl⟩:=hl;rw[ztt (by omega)] at e
 obtain⟨h1,h2⟩:=D i q hi e n q' a;exact⟨ztf _ h1,by rw[he q' h1,he q (zs5 e)];exact h2⟩
def Tf(rows:List (List Int))(gs:List V)(p:Nat)(line:List Nat)(dep:Nat->Nat)(fr:Nat->Option (Nat×Int)):Prop:=fr p=none/\∀ q∈line,q≠p->∃ par n,fr q=some (par,n)/\par∈line/\adjN rows gs par n q/\dep q=dep par+1
theorem Tf.back(d0:dep p=0)(F:Tf rows gs p line dep fr):∀ (d q e:Nat) (w:Option Int) (st:List (Nat×Option Int)),dep q=d->q∈line->Ch rows gs q st e w->∃ pre,Ch rows gs p (pre++st) e w/\pre.length=d:=fun d=>by
 induction d with
 | zero =>
   intro q e w st hd hq h;by_cases hp:q=p
   ·subst hp;exact⟨[],h,rfl⟩
   ·obtain⟨par,n,_,_,_,h4⟩:=F.2 q hq hp
    omega
 | succ d ih =>
   intro q e w st hd hq h;by_cases hp:q=p
   ·subst hp;rw[d0] at hd;cases hd
   ·obtain⟨par,n,h1,h2,h3,h4⟩:=F.2 q hq hp
    obtain⟨pre,h5,h6⟩:=ih par e w _ (by omega) h2 (.step h3 h)
    exact⟨pre++[(par,some n)],by rw[ztv];exact h5,by rw[zsw,h6];rfl⟩
theorem Ay{here:Nat}{n:Int}{st:List (Nat×Option Int)}(B:Bfs rows gs p line dep)(D:Done rows gs line dep dn)(hh:line[dn]?=some here)(hno:∀ (i q:Nat),i<dn->line[i]?=some q->¬ Xz rows gs q)(hf:Qq rows gs here n)(c:Ch rows gs p st here (some n))(hl:st.length=dep here+1):Yt rows gs p st here (some n) :=
 ⟨c,fun m e=>by cases e;exact⟨hf,fun q k hk hq=>by rw[hl];exact B.fewest D hh hno hk hq⟩,(fun z=>nomatch z)⟩
theorem Az{e:Nat}{st:List (Nat×Option Int)}(B:Bfs rows gs p line dep)(D:Done rows gs line dep line.length)(hno:∀ q∈line,¬ Xz rows gs q)(he:∀ q∈line,q<=e)(c:Ch rows gs p st e none)(hl:st.length=dep e+1):Yt rows gs p st e none :=
 ⟨c,(fun m z=>nomatch z),fun _=>⟨fun q k hk=>hno q (B.full D hk).1,fun q k hk=>he q (B.full D hk).1,fun k hk=>by rw[hl];have:=(B.full D hk).2;omega⟩⟩
end
end G

namespace L2
open PySem PySem.Spec PyProof.Rows
inductive zh7(x:V)(vs:List V)(H:Hp)(Q:VK):Prop where
 | mk(l:Addr)(xs:List V)(y:V)(j:Nat)(_:x=.ref l)(_:vs=[y])(_:H l=some (.lst xs))(_:U6 y=true)(_:xs.all U6=true)(_:(∃ z,xs[j]?=some z/\eqV z y=true))(_:(∀ m z,m<j->xs[m]?=some z->eqV z y=false))(_:Q (.int (j:Nat)) H)
theorem Jy:MtM X "list.index" zh7:=by
 intro pins s σ H x vs v us Q I rx rv h;obtain⟨l,xs,y,j,rfl,rfl,hH,fy,fs,⟨zj,hzj,hej⟩,hno,q⟩:=h;cases rx;obtain⟨u,rfl,ru⟩:=rv.one;obtain⟨z,its,n,r,hl,e⟩:=I.lstM hH;have hjx:j<xs.length:=(zsv.mp hzj).1;have hj:j<its.toArray.size:=by rw[zs7];omega
 have hline:=Og;have ev:∀ (m:Nat) (hm:m<its.toArray.size) (w:V),xs[m]?=some w->eqU y (its.toArray[m]'hm)=eqV w y:=fun m hm w hw=>by
  obtain⟨uu,hu,ruu⟩:=r.get hw;have:its.toArray[m]'hm=uu:=by
   have h1:its[m]?=some (its.toArray[m]'hm):=by simp
   rw[h1] at hu;exact Option.some.inj hu
  rw[this];refine Ao ruu ?_;exact zuf.mp fs w (zs5 hw)
 refine call_meets PySem.F.slot_list_index ⟨_,e,rfl⟩ PySem.F.entry_list_index (PySem.F.args_list_index_2 _ _) (SeqAt.list_indexAt l its.toArray n none #[] u (eqU y) j hj (by omega) (by rw[ev j hj zj hzj];exact hej) (fun m hm hmj=>?_)) ⟨e,fun w hw=>S5 ru fy r fs w (by simpa using hw),?_⟩
 ·have hmx:m<xs.length:=by rw[zs7] at hm;omega
  have hw:xs[m]?=some (xs[m]'hmx):=zsu hmx;rw[ev m hm _ hw];exact hno m _ hmj hw
 ·exact⟨.int (j:Nat),H,I.tok _,⟨_,rfl⟩,q⟩
end L2
namespace G
open PySem PySem.Spec PyProof.Rows L2
inductive F5(K:PySem.W.Frag)(vs:List V)(H:Hp)(Q:VK)(_:XK):Prop where
 | mk(l lg lt:Addr)(ls:List Addr)(rows:List (List Int))(gs ts:List V)(p e:Nat)(st:List (Nat×Option Int))(w:Option Int)(_:vs=[.ref l,.ref lg,.int p,.ref lt])(_:H l=some (.lst (ls.map V.ref)))(_:ILs H ls rows)(_:rows.length<=100)(_:H lg=some (.lst gs))(_:Yn rows gs)(_:p<rows.length)(_:H lt=some (.lst ts))(_:Z9 H ts (st.map We))(_:st.length<=100)(_:Ch rows gs p st e w)(_:(∀ n,w=some n->Qq rows gs e n))(_:Q (.bl true) H)
theorem zba{H:Hp}{ts:List V}{st:List (Nat×Option Int)}{i:Nat}{s:Nat×Option Int}(h:Z9 H ts (st.map We))(e:st[i]?=some s):∃ t,ts[i]?=some (.ref t)/\H t=some (.tup (We s)):=by
 have e':(st.map We)[i]?=some (We s):=by rw[zs0,e];rfl
 exact h.getR e'
theorem Rl(ho:oneV z):eqV z (.int n)=true↔z=.int n:=by
 rcases ho with rfl|⟨i,rfl⟩
 ·constructor
  ·intro h;cases h
  ·intro h;cases h
 ·show (i == n)=true↔_
  constructor
  ·intro h;rw[beq_iff_eq.mp h]
  ·intro h;cases h;simp
theorem S7(ho:∀ x∈gs,oneV x):inV (.int n) gs=true↔∃ j:Nat,gs[j]?=some (V.int n):=by
 unfold inV;rw[List.any_eq_true];constructor
 ·rintro⟨z,hz,e⟩
  obtain⟨j,hj,rfl⟩:=ztr hz;exact⟨j,by rw[zsu hj,(Rl (ho _ hz)).mp e]⟩
 ·rintro⟨j,hj⟩
  have:=zs5 hj;exact⟨_,this,(Rl (ho _ this)).mpr rfl⟩
theorem zf7(r:List Int):PyData.canLayAll0 (Xe (r.map Dt.int))=true/\PyData.depthAll (Xe (r.map Dt.int))<=1:=by
 induction r with
 | nil=>exact⟨rfl,by decide⟩
 | cons x r ih =>
   obtain⟨h1,h2⟩:=ih;refine⟨by rw[zs4,Xe,PyData.canLayAll0,h1];rfl,?_⟩
   rw[zs4,Xe,PyData.depthAll];have:PyData.depth (toPy (Dt.int x))<=1:=by simp[toPy,PyData.depth]
   omega
theorem E3(r:List Int):shD (.lst (r.map Dt.int)):=by
 obtain⟨a1,a2⟩:=zf7 r;unfold shD SeqAt.shaped;rw[toPy,PyData.canLay0,a1,Bool.true_and];refine zsy ?_;rw[PyData.depth];omega
theorem T4:shD (.lst []):=E3 []
theorem Jf(f:α->Dt)(xs:List α):eqD (.lst (xs.map f)) (.lst [])=xs.isEmpty:=by
 cases xs with
 | nil=>simp[eqD,Pq]
 | cons x xs=>simp[eqD,Pq]
structure zkk(rows:List (List Int))(gs:List V)(i:Nat):Prop where
 len:gs.length=i
 one:∀ x∈gs,oneV x
 may:∀ (k:Nat) (n:Int),gs[k]?=some (.int n)->∃ r,rows[k]?=some r/\n∈r
 inj:∀ (j k:Nat) (n:Int),gs[j]?=some (.int n)->gs[k]?=some (.int n)->j=k
theorem Yn.drop(F:Yn rows gs)(p:Nat):Yn rows (gs.set p .non):=by
 have cs:∀ (k:Nat) (n:Int),(gs.set p .non)[k]?=some (.int n)->k≠p/\gs[k]?=some (.int n):=fun k n h=>by
  by_cases e:k=p
  ·subst e
   by_cases hk:k<gs.length
   ·rw[ztz hk] at h;cases h
   ·rw[List.getElem?_eq_none (by rw[zuk];omega)] at h;cases h
  ·rw[zty (Ne.symm e)] at h;exact⟨e,h⟩
 refine⟨by rw[zuk];exact F.len,fun x hx=>?_,fun k n h=>F.may k n (cs k n h).2,fun j k n h1 h2=>F.inj j k n (cs j n h1).2 (cs k n h2).2⟩
 rcases List.mem_or_eq_of_mem_set hx with z|z
 ·exact F.one x z
 ·exact .inl z
theorem Yn.without(F:Yn rows gs)(hx:gs[p]?=some x)(f:Int->Bool)(hf:∀ n,f n=false->x=.int n):Yn (rows.map fun r=>r.filter f) (gs.set p .non):=by
 have D:=F.drop p;refine⟨by rw[zst];exact D.len,D.one,fun k n h=>?_,D.inj⟩
 obtain⟨r,h1,h2⟩:=D.may k n h;refine⟨r.filter f,by rw[zs0,h1];rfl,zt0.mpr ⟨h2,?_⟩⟩
 cases e:f n with
 | true=>rfl
 | false =>
   have hx':=hf n e;subst hx';have hk:k≠p:=fun z=>by
    subst z;rw[ztz (zsv.mp hx).1] at h;cases h
   rw[zty (Ne.symm hk)] at h
   exact absurd (F.inj k p n h hx) hk
theorem Cv(h1:Gr t σ H b)(h:∀ H1,Same H H1->if b=true then A D σ H1 else B D σ H1):D6 t A B D σ H:=h1 _ fun H1 s1=>h H1 s1
def Y8(line:List Nat)(dep:Nat->Nat):List (Key×V):=line.map fun (q:Nat)=>(Sum.inl ((q:Nat):Int),V.int ((dep q+1:Nat):Int))
theorem Ny{line:List Nat}{dep:Nat->Nat}{q:Nat}(h:q∈line):valV (Y8 line dep) (Sum.inl (q:Int):Key)=some (.int ((dep q+1:Nat):Int)):=by
 unfold Y8
 induction line with
 | nil=>simp at h
 | cons x xs ih =>
   rw[zs4];by_cases e:x=q
   ·subst e;exact Xc rfl
   ·rw[Yy (fun z=>e (by have:=Sum.inl.inj z;omega))]
    exact ih ((zsz.mp h).resolve_left (fun z=>e z.symm))
theorem F7{line:List Nat}{dep:Nat->Nat}{q:Nat}(h:q∉line):valV (Y8 line dep) (Sum.inl (q:Int):Key)=none:=by
 unfold Y8
 induction line with
 | nil=>rfl
 | cons x xs ih =>
   have hx:x≠q:=fun z=>h (by rw[z];exact zto)
   rw[zs4,Yy (fun z=>hx (by have:=Sum.inl.inj z;omega))]
   exact ih fun z=>h (ztc _ z)
theorem zci{line:List Nat}{dep:Nat->Nat}{q d:Nat}(h:q∉line):putK (Y8 line dep) (Sum.inl (q:Int)) (.int ((d+1:Nat):Int))=Y8 (line++[q]) (X2 dep q d):=by
 rw[Ce _ (F7 h)];unfold Y8;rw[zs1]
 congr 1
 ·refine zuo fun x hx=>?_
  unfold X2;rw[if_neg (fun z=>h (by rw[<- z];exact hx))]
 ·unfold X2
  simp
theorem zcj(line:List Nat)(dep:Nat->Nat):(Y8 line dep).length=line.length:=by unfold Y8;rw[zst]
inductive zbb(K:PySem.W.Frag)(vs:List V)(H:Hp)(Q:VK)(_:XK):Prop where
 | mk(l lg:Addr)(ls:List Addr)(rows:List (List Int))(gs:List V)(p:Nat)(_:vs=[.ref l,.ref lg,.int p])(_:H l=some (.lst (ls.map V.ref)))(_:ILs H ls rows)(_:rows.length<=100)(_:H lg=some (.lst gs))(_:Yn rows gs)(_:p<rows.length)(_:∀ ld line dep H',H' ld=some (.dK (Y8 line dep))->Bfs rows gs p line dep->Done rows gs line dep line.length->(∀ q∈line,q<rows.length)->Same H H'->H ld=none->Q (.ref ld) H')
def Yh(xs:List Nat):List V:=xs.map fun k=>V.int (k:Nat)
theorem zbc{K:PySem.W.Frag}{H:Hp}:∀ (r:List Nat),Wd K H (Yh r) ((r.map fun (k:Nat)=>((k:Nat):Int)).map Dt.int)
 | []=>.nil
 | x :: r=>.cons (.int _) (zbc r)
end G

namespace L2
open PySem PySem.Spec PyProof.Rows
theorem Qr:∀ {ns:List Int} {its:List Value} {i:Nat} {v:Value},Vals (ns.map V.int) its->its[i]?=some v->∃ t,v=.int (ns.getD i 0) t
 | [],_,_,_,.nil,e=>by simp at e
 | n :: ns,_,0,v,.cons r t,e=>by
   obtain⟨tk,rfl⟩:=r;exact⟨tk,(Option.some.inj e).symm⟩
 | n :: ns,_,i+1,v,.cons r t,e=>Qr (i:=i) t e
theorem zck{X:Cx}{K:PySem.W.Frag}(hK:X.K=K)(hc:X.calm=true):Vo X (.builtin "max") (fun xs H Q=>∃ (l:Addr) (ns:List Int),xs=[.ref l]/\SqL K H l (ns.map V.int)/\0<ns.length/\∀ M,M∈ns->(∀ a∈ns,a<=M)->Q (.int M) H):=by
 subst hK;intro pins s σ H xs us Q I r h;obtain⟨l,ns,rfl,hl,hpos,q⟩:=h;obtain⟨u,rfl,ru⟩:=T1 r;cases ru;obtain⟨its,r',pl,hz⟩:=I.list hl;have hlen:its.length=ns.length:=by have:=r'.length;rw[zst] at this;exact this.symm
 have hil:=pl.isList;have hlt:l<s.heap.objs.size:=by obtain⟨_,e,_⟩:=hil;exact Heap.lt_size e
 refine call_max_walk (wpAny_pyIter_list hil ?_);refine⟨s.heap.objs.size,[s.heap.objs.size,l],[s.heap.objs.size],its.toArray.size,_,_,_,rfl,Walks.list (A:=X.A.in1) (I.ok.hd hc) _ l (ztk hlt) its.toArray,
  ⟨⟨_,Heap.get?_push_size _ rfl,rfl,rfl⟩,hil.push _⟩,fun b hb=>?_,by rw[zs7];omega,CmpOf.ints_gt (fun i=>ns.getD i 0) (fun i v hv=>Qr r' (by simpa using hv)),fun v h' tk hP hk=>?_⟩
 ·show b<(s.heap.push _).objs.size
  rw[Heap.size_push];rcases zsz.mp hb with rfl|hb
  ·exact zux _
  ·rcases zsz.mp hb with rfl|hb
   ·exact zuj hlt
   ·cases hb
 ·obtain⟨h1,h2⟩:=argBest_gt (fun i=>ns.getD i 0) (its.toArray.size-1)
  obtain⟨t,rfl⟩:=Qr r' (show its[argBest (fun i j=>decide ((fun i=>ns.getD i 0) i>(fun i=>ns.getD i 0) j)) (its.toArray.size-1)]?=some v by simpa using hP)
  have hsz:its.toArray.size=ns.length:=by rw[zs7,hlen]
  rw[hsz] at h1 h2 ⊢
  generalize argBest (fun i j=>decide ((fun i=>ns.getD i 0) i>(fun i=>ns.getD i 0) j)) (ns.length-1)=b at h1 h2 ⊢
  have hb:b<ns.length:=by omega
  have eg:∀ (k:Nat) (hk:k<ns.length),ns.getD k 0=ns[k]'hk:=fun k hk=>by rw[ztj,zsu hk];rfl
  refine⟨.int (ns.getD b 0),H,I.kept fun c o e=>?_,⟨_,rfl⟩,q _ (by rw[eg b hb];exact ztp hb) fun x hx=>?_⟩
  ·refine hk c o (fun hm=>?_) (Heap.get?_push_of_some _ e)
   rw[zsx.mp hm] at e;exact zug _ (Heap.lt_size e)
  ·obtain⟨k,hk',rfl⟩:=ztr hx
   have:=h2 k (by omega)
   show ns[k]<=_;rw[<- eg k hk'];exact this
end L2
namespace G
open PySem PySem.Spec PyProof.Rows L2
inductive E4(K:PySem.W.Frag)(vs:List V)(H:Hp)(Q:VK)(_:XK):Prop where
 | mk(l lg:Addr)(ls:List Addr)(rows:List (List Int))(nu:List Int)(gs:List V)(p:Nat)(_:vs=[.ref l,.ref lg,.int p])(_:H l=some (.lst (ls.map V.ref)))(_:ILs H ls rows)(_:R4 rows nu)(_:H lg=some (.lst gs))(_:Yn rows gs)(_:p<rows.length)(_:gs[p]?=some .non)(_:∀ lt ts st e w H',H' lt=some (.lst ts)->Z9 H' ts (st.map We)->Yt rows gs p st e w->Same H H'->H lt=none->Q (.ref lt) H')
theorem Yt.len{rows:List (List Int)}{gs:List V}{p e:Nat}{st:List (Nat×Option Int)}{w:Option Int}(FP:Yn rows gs)(hp:p<rows.length)(c:Yt rows gs p st e w):st.length<=rows.length:=by
 have hlt:=c.ch.lt FP hp;have:=c.nodup.length_le_of_subset (l₂:=List.range rows.length) fun x hx=>by
  obtain⟨s,hs,rfl⟩:=zs2.mp hx;exact zt1.mpr (hlt s hs)
 rw[zst,zt3] at this;exact this
theorem Ch.lastStep{rows:List (List Int)}{gs:List V}{q e:Nat}{st:List (Nat×Option Int)}{w:Option Int}(h:Ch rows gs q st e w):st.getLast?=some (e,w):=by
 induction h with
 | one q w=>rfl
 | @step q q' e n st w a h ih =>
   obtain⟨x,r,e'⟩:=h.hd;rw[e'] at ih ⊢
   rw[List.getLast?_cons_cons];exact ih
end G

namespace L2
open PySem PySem.Spec PyProof.Rows
section
variable{X:Cx}{pins:List (Addr×Obj)}{σ:List (Option V)}{H H':Hp}{s:Shared}{h':Heap}
theorem Inv.turnedL{t':Nat}{fp:List Addr}(I:Inv X pins σ H s)(hf:∀ b∈fp,FpOk X pins H b)(k:∀ b o,b∉fp->s.heap.get? b=some o->h'.get? b=some o):Inv X pins σ H { s with heap:=h',toks:=t' }:=by
 have nit:∀ b u,H b=some u->b∉fp:=fun b u e z=>by rw[(hf b z).1] at e;cases e
 refine I.step (g':=s.gens) (d':=s.drawn) (ch:=fp) (fun b hb=>?_) (fun b o _ _ hc e _=>k b o hc e) (fun b o _ _ hc e _=>⟨o.slots,k b o hc e⟩) (fun _ _ _ _ n=>n)
  (fun b o hc e=>⟨o,k b o hc e⟩) (fun _ _ e=>e) (fun _ _ _ e=>e) (fun b ps e=>⟨#[],by rw[e];simp⟩) (fun m hm=>?_) (fun b u e=>?_) I.bare
 ·obtain⟨f0,f1,f2,f3,f4,f5⟩:=hf b hb
  exact⟨f3,f1,f4,f5⟩
 ·obtain⟨o,es,ep,ho,r⟩:=hm
  exact⟨o,es,ep,k _ o (fun z=>(hf _ z).2.1 rfl) ho,r⟩
 ·refine(I.hok b u e).stay (fun c v hc q=>k c v ?_ q) (fun _ q=>q) fun _ _ q=>q
  rcases hc with z|z
  ·rw[z];exact nit b u e
  ·exact nit c _ z
theorem Inv.turnLay{t':Nat}{fp:List Addr}{a:Addr}{o:HO}(I:Inv X pins σ H s)(hf:∀ b∈fp,FpOk X pins H b)(k:∀ b o,b∉fp->s.heap.get? b=some o->h'.get? b=some o)(hp:s.heap.objs.size<=a)(new:Y9 X.prog X.w (upd H a o) h' a o):Inv X pins σ (upd H a o) { s with heap:=h',toks:=t' }:=by
 have nit:∀ b u,H b=some u->b∉fp:=fun b u e z=>by rw[(hf b z).1] at e;cases e
 have hn:H a=none:=I.hok.fresh hp;have ne:∀ b u,s.heap.get? b=some u->b≠a:=fun b u e=>ztk (ztg (Heap.lt_size e) hp)
 refine I.step (g':=s.gens) (d':=s.drawn) (ch:=fp) (fun b hb=>?_) (fun b o _ _ hc e _=>k b o hc e) (fun b o _ _ hc e _=>⟨o.slots,k b o hc e⟩) (fun b u _ e n=>by rw[Zi (ne b u e)];exact n)
  (fun b o hc e=>⟨o,k b o hc e⟩) (fun b _ e=>by rw[Zi (Zh e hn)];exact e) (fun b _ _ e=>by rw[Zi (Zh e hn)];exact e) (fun b ps e=>⟨#[],by rw[Zi (Zh e hn),e];simp⟩) (fun m hm=>?_) (fun b u e=>?_) I.bare
 ·obtain⟨f0,f1,f2,f3,f4,f5⟩:=hf b hb
  exact⟨f3,f1,f4,f5⟩
 ·obtain⟨o,es,ep,ho,r⟩:=hm
  exact⟨o,es,ep,k _ o (fun z=>(hf _ z).2.1 rfl) ho,r⟩
 ·by_cases hb:b=a
  ·subst hb
   rw[Zc] at e;cases e
   exact new
  ·rw[Zi hb] at e
   refine(I.hok b u e).stay (fun c v hc q=>k c v ?_ q) (fun c q=>by rw[Zi (Zh q hn)];exact q) fun c _ q=>by rw[Zi (Zh q hn)];exact q
   rcases hc with z|z
   ·rw[z];exact nit b u e
   ·exact nit c _ z
end
def Ite(K:PySem.W.Frag)(a:Addr):It :=
 ⟨fun i H=>∃ xs x,SqL K H a xs/\xs[i]?=some x,fun i H x H'=>∃ p y,H p=none/\(∀ xs,SqL K H a xs->xs[i]?=some y)/\x=.ref p/\H'=upd H p (.tup [.int (i:Nat),y]),fun i H=>∃ xs,SqL K H a xs/\xs.length<=i⟩
theorem zcl{P:Program}{w:World}{K:PySem.W.Frag}{elts:List Expr}{k:Nat}{tp:Pos}(a e it:Addr)(hne:e≠it):D7 P w K (.Tuple elts k tp) (Ite K a) [e,it] e (fun i h=>(∃ old,IsEnum h e it (i:Nat) old)/\h.IsListIter it a i) where
 mem:=by simp
 obj:=fun i h st b hb=>by
  obtain⟨⟨old,h1⟩,h2⟩:=st;have e:b=e\/b=it:=by simpa using hb
  rcases e with rfl|rfl
  ·exact⟨_,h1,fun v z=>by cases z⟩
  ·obtain⟨o,e,c,d⟩:=h2
   exact⟨o,e,fun v z=>by rw[d] at z;cases z⟩
 keep:=fun i h h' st k=>⟨let ⟨old,h1⟩:=st.1;⟨old,k e (by simp) _ h1⟩,st.2.at fun o q=>k it (by simp) o q⟩
 item:=by
  intro X hP hw hK hc i pins s σ H E I hf st hg;subst hP hw hK;obtain⟨xs,x,hq,hx⟩:=hg;obtain⟨its,rv,p,hz⟩:=I.list hq;obtain⟨u,hu,ru⟩:=rv.get hx;obtain⟨⟨old,h1⟩,h2⟩:=st;refine wpAny_pyNext_enum_item h1 h2 p.isList (x:=u) (by simpa using hu) hne fun h' o1 o2 o3 o4 o5=>?_
  refine⟨_,rfl,wpAny_letOwnedTupleGo_enum o1 fun h'' e1 sb=>?_⟩
  have hes:e≠s.heap.objs.size:=fun z=>by
   exact zug _ (z▸Heap.lt_size h1)
  have kk:∀ b o,b∉[e,it]->s.heap.get? b=some o->h''.get? b=some o:=fun b o hb q=>by
   have hb':b≠e/\b≠it:=by simpa using hb
   exact(sb.2 b hb'.1).trans (o5 b o hb'.1 hb'.2 q)
  have new:h''.get? s.heap.objs.size=some { cls:=Value.type "tuple",data:=Data.seq #[Value.int (i:Nat) s.toks,u] }:=(sb.2 _ (Ne.symm hes)).trans o3;have line:=Og;refine⟨.ref s.heap.objs.size,_,I.turnLay (t':=s.toks+1) (o:=.tup [.int (i:Nat),x]) hf kk (zs3 _) ⟨?_,_,.cons ⟨s.toks,rfl⟩ (.cons ru .nil),⟨_,new,rfl,_,rfl⟩⟩,rfl,⟨_,x,I.hok.fresh (zs3 _),fun ys hy=>by rw[I.list_inj hy hq];exact hx,rfl,rfl⟩,⟨⟨u,e1⟩,o2.at fun o q=>(sb.2 it (Ne.symm hne)).trans q⟩,fun b hb=>?_⟩
  ·show 2<=sizeLine
   rw[sizeLine_eq];decide
  ·have hb':b=e\/b=it:=by simpa using hb
   have hlt:b<s.heap.objs.size:=by
    rcases hb' with rfl|rfl
    ·exact Heap.lt_size h1
    ·obtain⟨o,q,_⟩:=h2
     exact Heap.lt_size q
   rw[Zi (ztk hlt)];exact(hf b hb).1
 done:=by
  intro X hP hw hK hc i pins s σ H E I hf st hg;subst hP hw hK;obtain⟨xs,hq,hx⟩:=hg;obtain⟨its,rv,p,hz⟩:=I.list hq;obtain⟨⟨old,h1⟩,h2⟩:=st;have hl:=rv.length;exact wpAny_pyNext_enum_end (I.ok.hd hc) h1 h2 p.isList (by simp;omega) fun h' eb=>⟨rfl,I.turnedL (t':=s.toks) hf fun b o hb q=>eb b o (fun z=>hb (by simp[z])) q⟩
 self:=fun _ _ _ _ _ st h=>by
  obtain⟨⟨old,h1⟩,h2⟩:=st;exact wpAny_pyIter_enum h1 h
inductive zh8(K:PySem.W.Frag)(R:It->Hp->Prop)(vs:List V)(H1:Hp):Prop where
 | mk(a)(_:vs=[.ref a])(_:(∃ xs,SqL K H1 a xs))(_:R (Ite K a) H1)
def zjq(K:PySem.W.Frag)(ta:TA):TI:=fun σ H R=>ta σ H fun vs H1=>zh8 K R vs H1
theorem zf8{X:Cx}{K:PySem.W.Frag}{elts:List Expr}{k:Nat}{tp:Pos}{a:Expr}{ta:TA}{p pos:Pos}(hK:X.K=K)(hg:Gl X "enumerate")(hm:X.mg "enumerate"=none)(ha:PA X [a] ta)(hs:starEach [a] X.env=[(false,eval a X.env)]:=by rfl):PI X (.Tuple elts k tp) (.Call (.Name "enumerate" p) [a] [] pos) (zjq K ta):=by
 subst hK;intro pins s σ H R I h;refine Call_ (Qf I hg hm boot_enumerate (PyProof.Rows.callWith_type1 (thn (ha pos pins s σ H _ I h) fun us s1 ⟨vs,H1,I1,r1,q1⟩=>?_) hs rfl))
 obtain⟨a,e,⟨xs,hq⟩,q⟩:=q1;subst e;obtain⟨u,rfl,ru⟩:=T1 r1;cases ru;obtain⟨its,rv,pl,hz⟩:=I1.list hq;refine call_enumerate_list pl.isList fun h' e1 e2 e3 e4=>?_
 refine wpAny_pyIter_enum e1 ?_;refine⟨_,[s1.heap.objs.size+1,s1.heap.objs.size],_,_,H1,rfl,I1.kept (t':=s1.toks) e4,zcl a _ _ (Nat.succ_ne_self _),⟨⟨_,e1⟩,e2⟩,fun b hb=>?_,q⟩
 have e:b=s1.heap.objs.size+1\/b=s1.heap.objs.size:=by simpa using hb
 rcases e with rfl|rfl
 ·exact I1.fpOk (Nat.le_succ _) (I1.hok.fresh (Nat.le_succ _))
 ·exact I1.fpOk (zs3 _) (I1.hok.fresh (zs3 _))
theorem zef{K:PySem.W.Frag}{a:Addr}{xs:List V}{g:TG}{tb:TS}{D:Pp}{σ:St}{H:Hp}(Pv:Nat->St->Hp->Prop)(h0:Pv 0 σ H)(hl:∀ i σ H,i<=xs.length->Pv i σ H->SqL K H a xs)
  (hs:∀ i x p σ H,xs[i]?=some x->Pv i σ H->H p=none->g (.ref p) σ (upd H p (.tup [.int (i:Nat),x])) fun σ2 H2=>tb { D with nx:=Pv (i+1),ct:=Pv (i+1),bk:=D.nx } σ2 H2) (hd:∀ σ H,Pv xs.length σ H->D.nx σ H) :
  ∃ W:Nat->Nat->St->Hp->Prop,(∃ m,W 0 m σ H)/\∀ i m σ H,W i m σ H ->
    ((Ite K a).stop i H/\D.nx σ H)\/((Ite K a).go i H/\∃ N:St->Hp->Prop,(∀ σ' H',N σ' H'->∃ m',m' < m/\W (i+1) m' σ' H')/\∀ x H',(Ite K a).yld i H x H'->g x σ H' fun σ2 H2=>tb { D with nx:=N,ct:=N,bk:=D.nx } σ2 H2):=by
 refine⟨fun i m σ H=>m=xs.length-i/\i<=xs.length/\Pv i σ H,⟨xs.length,by simp,ztm _,h0⟩,?_⟩
 rintro i m σ H ⟨rfl,hi,p⟩;have q:=hl i σ H hi p;by_cases hlt:i<xs.length
 ·refine .inr ⟨⟨xs,xs[i],q,by simp[hlt]⟩,Pv (i+1),fun σ' H' p'=>⟨xs.length-(i+1),by omega,rfl,hlt,p'⟩,fun x H' y=>?_⟩
  obtain⟨t,y,h1,h2,rfl,rfl⟩:=y;exact hs i y t σ _ (h2 xs q) p h1
 ·have e:i=xs.length:=by omega
  subst e;exact .inl ⟨⟨xs,q,zs3 _⟩,hd σ H p⟩
def Itz(K:PySem.W.Frag)(a b:Addr):It :=
 ⟨fun i H=>∃ xs ys x y,SqL K H a xs/\SqL K H b ys/\xs[i]?=some x/\ys[i]?=some y,fun i H x H'=>∃ p y z,H p=none/\(∀ xs,SqL K H a xs->xs[i]?=some y)/\(∀ ys,SqL K H b ys->ys[i]?=some z)/\x=.ref p/\H'=upd H p (.tup [y,z]),
  fun i H=>∃ xs ys,SqL K H a xs/\SqL K H b ys/\(xs.length<=i\/ys.length<=i)⟩
theorem zeg{P:Program}{w:World}{K:PySem.W.Frag}{elts:List Expr}{k:Nat}{tp:Pos}(l1 l2 z TI TO i1 i2:Addr)(hz:ZipApart z TI TO i1 i2 l1 l2):D7 P w K (.Tuple elts k tp) (Itz K l1 l2) [z,TO,i1,i2,TI] z
  (fun i h=>IsZip h z TI TO Value.none/\IsPair h TI (Value.ref i1) (Value.ref i2)/\(∃ a b,IsPair h TO a b)/\h.IsListIter i1 l1 i/\h.IsListIter i2 l2 i) where
 mem:=by simp
 obj:=fun i h st b hb=>by
  obtain⟨h1,h2,⟨a,b',h3⟩,h4,h5⟩:=st;have e:b=z\/b=TO\/b=i1\/b=i2\/b=TI:=by simpa using hb
  rcases e with rfl|rfl|rfl|rfl|rfl
  ·exact⟨_,h1,fun v z=>by cases z⟩
  ·exact⟨_,h3,fun v z=>by cases z⟩
  ·obtain⟨o,e,c,d⟩:=h4
   exact⟨o,e,fun v z=>by rw[d] at z;cases z⟩
  ·obtain⟨o,e,c,d⟩:=h5
   exact⟨o,e,fun v z=>by rw[d] at z;cases z⟩
  ·exact⟨_,h2,fun v z=>by cases z⟩
 keep:=fun i h h' st k=>by
  obtain⟨h1,h2,⟨a,b',h3⟩,h4,h5⟩:=st;exact⟨k z (by simp) _ h1,k TI (by simp) _ h2,⟨a,b',k TO (by simp) _ h3⟩,h4.at fun o q=>k i1 (by simp) o q,h5.at fun o q=>k i2 (by simp) o q⟩
 item:=by
  intro X hP hw hK hc i pins s σ H E I hf st hg;subst hP hw hK;obtain⟨xs,ys,x,y,hq,hq2,hx,hy⟩:=hg;obtain⟨its,rv,p,_⟩:=I.list hq;obtain⟨its2,rv2,p2,_⟩:=I.list hq2;obtain⟨u,hu,ru⟩:=rv.get hx;obtain⟨u2,hu2,ru2⟩:=rv2.get hy;obtain⟨h1,h2,⟨a,b',h3⟩,h4,h5⟩:=id st;refine wpAny_pyNext_zip_item hz h1 h2 h3 h4 h5 p.isList p2.isList (x:=u) (y:=u2) (by simpa using hu) (by simpa using hu2) fun h' o1 o2 o3 o4 o5 o6 o7=>?_
  refine⟨_,rfl,wpAny_letOwnedTupleGo_zip o1 fun h'' e1 sb=>?_⟩
  have lt:∀ b o,s.heap.get? b=some o->b≠s.heap.objs.size:=fun b o q=>ztk (Heap.lt_size q)
  have kk:∀ b o,b∉[z,TO,i1,i2,TI]->s.heap.get? b=some o->h''.get? b=some o:=fun b o hb q=>by
   have hb':b≠z/\b≠TO/\b≠i1/\b≠i2/\b≠TI:=by simpa using hb
   exact(sb.2 b hb'.1).trans (o7 b o hb'.1 hb'.2.1 hb'.2.2.1 hb'.2.2.2.1 q)
  have new:h''.get? s.heap.objs.size=some { cls:=Value.type "tuple",data:=Data.seq #[u,u2] }:=(sb.2 _ (Ne.symm (lt _ _ h1))).trans o5;refine⟨.ref s.heap.objs.size,_,I.turnLay (t':=s.toks) (o:=.tup [x,y]) hf kk (zs3 _) ⟨?_,_,.cons ru (.cons ru2 .nil),⟨_,new,rfl,_,rfl⟩⟩,rfl,⟨_,x,y,I.hok.fresh (zs3 _),fun zs hy'=>by rw[I.list_inj hy' hq];exact hx,fun zs hy'=>by rw[I.list_inj hy' hq2];exact hy,rfl,rfl⟩,
   ⟨e1,(sb.2 _ hz.TIz).trans (o7 _ _ hz.TIz hz.TITO hz.TIi1 hz.TIi2 h2),⟨_,_,(sb.2 _ hz.TOz).trans o2⟩,o3.at fun o q=>(sb.2 _ hz.i1z).trans q,o4.at fun o q=>(sb.2 _ hz.i2z).trans q⟩,fun b hb=>?_⟩
  ·show 2<=sizeLine
   rw[sizeLine_eq];decide
  ·have hne:b≠s.heap.objs.size:=by
    have e:b=z\/b=TO\/b=i1\/b=i2\/b=TI:=by simpa using hb
    rcases e with rfl|rfl|rfl|rfl|rfl
    ·exact lt _ _ h1
    ·exact lt _ _ h3
    ·obtain⟨o,q,_⟩:=h4;exact lt _ _ q
    ·obtain⟨o,q,_⟩:=h5;exact lt _ _ q
    ·exact lt _ _ h2
   rw[Zi hne];exact(hf b hb).1
 done:=by
  intro X hP hw hK hc i pins s σ H E I hf st hg;subst hP hw hK;obtain⟨xs,ys,hq,hq2,hx⟩:=hg;obtain⟨its,rv,p,_⟩:=I.list hq;obtain⟨its2,rv2,p2,_⟩:=I.list hq2;obtain⟨h1,h2,⟨a,b',h3⟩,h4,h5⟩:=st;have hl:=rv.length;have hl2:=rv2.length;exact wpAny_pyNext_zip_end (I.ok.hd hc) hz h1 h2 h3 h4 h5 p.isList p2.isList (hx.imp (fun z=>by simp;omega) fun z=>by simp;omega) fun h' eb=>⟨rfl,I.turnedL (t':=s.toks) hf fun b o hb q=>by
   have hb':b≠z/\b≠TO/\b≠i1/\b≠i2/\b≠TI:=by simpa using hb
   exact eb b o hb'.1 hb'.2.1 hb'.2.2.1 hb'.2.2.2.1 q⟩
 self:=fun _ _ _ _ _ st h=>wpAny_pyIter_zip st.1 h
inductive zjr(K:PySem.W.Frag)(R:It->Hp->Prop)(vs:List V)(H1:Hp):Prop where
 | mk(a)(b)(_:vs=[.ref a,.ref b])(_:(∃ xs,SqL K H1 a xs))(_:(∃ ys,SqL K H1 b ys))(_:R (Itz K a b) H1)
def zkc(K:PySem.W.Frag)(ta:TA):TI:=fun σ H R=>ta σ H fun vs H1=>zjr K R vs H1
theorem zh9{X:Cx}{K:PySem.W.Frag}{elts:List Expr}{k:Nat}{tp:Pos}{a b:Expr}{ta:TA}{p pos:Pos}(hK:X.K=K)(hg:Gl X "zip")(hm:X.mg "zip"=none)(ha:PA X [a,b] ta)(hs:starEach [a,b] X.env=[(false,eval a X.env),(false,eval b X.env)]:=by rfl)(hs2:starEach [b] X.env=[(false,eval b X.env)]:=by rfl):PI X (.Tuple elts k tp) (.Call (.Name "zip" p) [a,b] [] pos) (zkc K ta):=by
 subst hK;intro pins s σ H R I h;refine Call_ (Qf I hg hm boot_zip (PyProof.Rows.callWith_type1 (thn (ha pos pins s σ H _ I h) fun us s1 ⟨vs,H1,I1,r1,q1⟩=>?_) (by rw[hs,hs2]) (by rw[hs2];rfl)))
 obtain⟨a,b,e,⟨xs,hq⟩,⟨ys,hq2⟩,q⟩:=q1;subst e;cases r1 with
 | cons r rr =>
   obtain⟨u,rfl,ru⟩:=T1 rr;cases r;cases ru;obtain⟨its,rv,pl,hz⟩:=I1.list hq;obtain⟨its2,rv2,pl2,hz2⟩:=I1.list hq2;have lt1:@LT.lt Nat _ a s1.heap.objs.size:=by obtain⟨_,e,_⟩:=pl.isList;exact Heap.lt_size e
   have lt2:@LT.lt Nat _ b s1.heap.objs.size:=by obtain⟨_,e,_⟩:=pl2.isList;exact Heap.lt_size e
   refine call_zip_2 pl.isList pl2.isList fun h' e1 e2 e3 e4 e5 e6 e7=>?_
   refine wpAny_pyIter_zip e1 ?_;refine⟨_,[s1.heap.objs.size+4,s1.heap.objs.size+3,s1.heap.objs.size,s1.heap.objs.size+1,s1.heap.objs.size+2],_,_,H1,rfl,I1.kept (t':=s1.toks) e7,zeg a b _ _ _ _ _ ?_,⟨e1,e2,⟨_,_,e3⟩,e4,e5⟩,fun c hb=>?_,q⟩
   ·refine⟨?_,?_,?_,?_,?_,?_,?_,?_,?_,?_,?_,?_,?_,?_,?_,?_,?_,?_⟩<;>(show @Ne Nat _ _;omega)
   have e:c=s1.heap.objs.size+4\/c=s1.heap.objs.size+3\/c=s1.heap.objs.size\/c=s1.heap.objs.size+1\/c=s1.heap.objs.size+2:=by simpa using hb
   have hle:s1.heap.objs.size<=c:=by rcases e with rfl|rfl|rfl|rfl|rfl<;>omega
   exact I1.fpOk hle (I1.hok.fresh hle)
section
variable{X:Cx}{pins:List (Addr×Obj)}{σ:List (Option V)}{H H':Hp}{s:Shared}{h':Heap}
theorem Inv.freeze(I:Inv X pins σ H s)(e:H a=some (.dK kvs))(ho:s.heap.get? a=some o):Inv X pins σ (upd H a (.frz o (.dK kvs))) s:=by
 have na:∀ b u,H b=some u->u≠.dK kvs->b≠a:=fun b u q n z=>by subst z;rw[q] at e;exact n (Option.some.inj e)
 refine I.un (h':=s.heap) (t':=s.toks) ⟨fun b o q _ _ _=>q,fun b o q _ _ _=>⟨o.slots,q⟩,fun b o q n _=>?_,fun b o q _=>⟨o,q⟩,fun b ys q=>?_,fun b o v q=>?_,fun b ps q=>⟨#[],?_⟩⟩ fun b u q=>?_
 ·rw[Zi (fun z=>by subst z;rw[n] at e;cases e)];exact n
 ·rw[Zi (na b _ q fun z=>nomatch z)];exact q
 ·rw[Zi (na b _ q fun z=>nomatch z)];exact q
 ·rw[Zi (na b _ q fun z=>nomatch z),q];simp
 ·have stay:∀ {b u},Y9 X.prog X.w H s.heap b u->Y9 X.prog X.w (upd H a (.frz o (.dK kvs))) s.heap b u:=fun {b u} k=>k.stay (fun _ _ _ q=>q) (fun c q=>by rw[Zi (na c _ q fun z=>nomatch z)];exact q) fun c _ q=>by rw[Zi (na c _ q fun z=>nomatch z)];exact q
  by_cases hb:b=a
  ·subst hb
   rw[Zc] at q;cases q
   exact⟨ho,stay (I.hok b _ e)⟩
  ·rw[Zi hb] at q
   exact stay (I.hok b u q)
end
def Itk(a:Addr)(o:Obj)(kvs:List (Key×V)):It :=
 ⟨fun i H=>H a=some (.frz o (.dK kvs))/\i<kvs.length,fun i H x H'=>H'=H/\∃ p,kvs[i]?=some p/\x=kV p.1,fun i H=>H a=some (.frz o (.dK kvs))/\kvs.length<=i⟩
theorem zeh(I:Inv X pins σ H s)(e:H a=some (.frz o (.dK kvs))):∃ vs,KV kvs vs/\∃ es ep,o.data=.dict es ep/\s.heap.DictAt (Yp X.prog X.w) a vs ep:=by
 obtain⟨h1,hz,hm,vs,kv,o',es,ep,h2,h3,h4,h5⟩:=(show Y9 X.prog X.w H s.heap a (.frz o (.dK kvs)) from I.hok a _ e)
 rw[h1] at h2;cases h2
 exact⟨vs,kv,es,ep,h4,o,es,h1,h3,h4,h5⟩
theorem zcm{P:Program}{w:World}{K:PySem.W.Frag}{tg:Expr}(a it:Addr)(o:Obj)(kvs:List (Key×V))(es:Array DictEntry)(ep:Nat)(ho:o.data=.dict es ep):D7 P w K tg (Itk a o kvs) [it] it (fun i h=>h.IsKeyIter it a i kvs.length ep) where
 mem:=by simp
 obj:=fun i h st b hb=>by
  have e:b=it:=by simpa using hb
  subst e;obtain⟨o,e,c,d⟩:=st;exact⟨o,e,fun v z=>by rw[d] at z;cases z⟩
 keep:=fun i h h' st k=>by
  obtain⟨o,e,c,d⟩:=st;exact⟨o,k it (by simp) o e,c,d⟩
 item:=by
  intro X hP hw hK hc i pins s σ H E I hf st hg;subst hP hw hK;obtain⟨hq,hi⟩:=hg;obtain⟨vs,kv,es',ep',h1,h2⟩:=zeh I hq;rw[ho] at h1;cases h1
  obtain⟨f0,f1,f2,f3,f4,f5⟩:=hf it (by simp)
  have hl:kvs.length=vs.length:=KV.length kv;have hv:i<vs.length:=by omega
  obtain⟨⟨k,v⟩,hkv⟩:∃ kv,vs[i]'hv=kv:=⟨_,rfl⟩
  rw[hl] at st
  refine wpAny_pyNext_dict_item st h2 (k:=k) (v:=v) (by rw[zsu hv,hkv]) fun key h' hk st' sb=>?_
  have I1:Inv X pins σ H { s with heap:=h' }:=I.turned (t':=s.toks) (fun b o hb e=>(sb.2 b hb).trans e) f0 f1 f3 f4 f5
  obtain⟨o2,e2,c2,d2⟩:=id st';have ek:=congrArg (·[i]?) (KV.keys kv)
  simp only[zs0,zsu hv,zsu hi,hkv,zt5] at ek
  refine⟨key,rfl,zdi (s:={ s with heap:=h' }) e2 c2 d2 (by decide) ⟨kV (kvs[i]'hi).1,H,I1,?_,⟨rfl,_,zsu hi,rfl⟩,by rw[hl];exact st',fun b hb=>(hf b hb).1⟩⟩
  have e3:(kvs[i]'hi).1=k:=Option.some.inj ek;rw[e3];rcases Y1 hk with ⟨j,t,rfl,rfl⟩|⟨z,t,rfl,rfl⟩
  ·exact⟨t,rfl⟩
  ·exact⟨t,rfl⟩
 done:=by
  intro X hP hw hK hc i pins s σ H E I hf st hg;subst hP hw hK;obtain⟨hq,hi⟩:=hg;obtain⟨vs,kv,es',ep',h1,h2⟩:=zeh I hq;rw[ho] at h1;cases h1
  obtain⟨f0,f1,f2,f3,f4,f5⟩:=hf it (by simp)
  have hl:kvs.length=vs.length:=KV.length kv;rw[hl] at st
  exact wpAny_pyNext_dict_end (I.ok.hd hc) st h2 (List.getElem?_eq_none (by omega)) fun h' eb=>⟨rfl,I.turned (t':=s.toks) (fun b o hb e=>eb b o hb e) f0 f1 f3 f4 f5⟩
 self:=fun _ _ _ _ _ st h=>wpAny_pyIter_keyiter st h
inductive zia(R:It->Hp->Prop)(x:V)(H1:Hp):Prop where
 | mk(a)(kvs)(_:x=.ref a)(_:H1 a=some (.dK kvs))(_:∀ o,R (Itk a o kvs) (upd H1 a (.frz o (.dK kvs))))
def zjs(tl:TE):TI:=fun σ H R=>tl σ H fun x H1=>zia R x H1
theorem zf9{X:Cx}{tg:Expr}{l:Expr}{tl:TE}(hl:PE X l tl):PI X tg l (zjs tl):=by
 intro pins s σ H R I h;refine thn (hl pins s σ H _ I h) fun v s1 ⟨x,H1,I1,r1,q1⟩=>?_
 obtain⟨a,kvs,e,hq,q⟩:=q1;subst e;cases r1;obtain⟨hz,hm,vs,kv,o,es,ep,h2,h3,h4,h5⟩:=(show Y9 X.prog X.w H1 s1.heap a (.dK kvs) from I1.hok a _ hq)
 have hl:kvs.length=vs.length:=KV.length kv;have I2:=I1.freeze hq h2;refine wpAny_pyIter_dict hm ⟨o,es,h2,h3,h4,h5⟩ ?_;refine⟨s1.heap.objs.size,[s1.heap.objs.size],_,_,_,rfl,I2.kept (t':=s1.toks) fun b o e=>Heap.get?_push_of_some _ e,zcm a _ o kvs es ep h4,⟨_,Heap.get?_push_size _ rfl,rfl,by rw[hl];rfl⟩,fun b hb=>?_,q o⟩
 have e:b=s1.heap.objs.size:=by simpa using hb
 subst e;exact I2.fpOk (zs3 _) (I2.hok.fresh (zs3 _))
theorem zei{a:Addr}{o:Obj}{kvs:List (Key×V)}{g:TG}{tb:TS}{D:Pp}{σ:St}{H:Hp}(Pv:Nat->St->Hp->Prop)(h0:Pv 0 σ H)(hl:∀ i σ H,i<=kvs.length->Pv i σ H->H a=some (.frz o (.dK kvs)))
  (hs:∀ i k v σ H,kvs[i]?=some (k,v)->Pv i σ H->g (kV k) σ H fun σ2 H2=>tb { D with nx:=Pv (i+1),ct:=Pv (i+1),bk:=D.nx } σ2 H2) (hd:∀ σ H,Pv kvs.length σ H->D.nx σ H) :
  ∃ W:Nat->Nat->St->Hp->Prop,(∃ m,W 0 m σ H)/\∀ i m σ H,W i m σ H ->
    ((Itk a o kvs).stop i H/\D.nx σ H)\/((Itk a o kvs).go i H/\∃ N:St->Hp->Prop,(∀ σ' H',N σ' H'->∃ m',m' < m/\W (i+1) m' σ' H')/\∀ x H',(Itk a o kvs).yld i H x H'->g x σ H' fun σ2 H2=>tb { D with nx:=N,ct:=N,bk:=D.nx } σ2 H2):=by
 refine⟨fun i m σ H=>m=kvs.length-i/\i<=kvs.length/\Pv i σ H,⟨kvs.length,by simp,ztm _,h0⟩,?_⟩
 rintro i m σ H ⟨rfl,hi,p⟩;have q:=hl i σ H hi p;by_cases hlt:i<kvs.length
 ·refine .inr ⟨⟨q,hlt⟩,Pv (i+1),fun σ' H' p'=>⟨kvs.length-(i+1),by omega,rfl,hlt,p'⟩,fun x H' y=>?_⟩
  obtain⟨e,⟨k,v⟩,y,rfl⟩:=y;subst e;exact hs i k v σ _ y p
 ·have e:i=kvs.length:=by omega
  subst e;exact .inl ⟨⟨q,zs3 _⟩,hd σ H p⟩
theorem zcn(hc:X.calm=true):Vo X (.builtin "max") (fun xs H Q=>∃ (l:Addr) (kvs:List (Key×V)) (ns:List Int),xs=[.ref l]/\Rd H l (.dK kvs)/\kvs.map (·.1)=ns.map Sum.inl/\0<ns.length/\∀ M,M∈ns->(∀ a∈ns,a<=M)->Q (.int M) H):=by
 intro pins s σ H xs us Q I r h;obtain⟨l,kvs,ns,rfl,hl,hns,hpos,q⟩:=h;obtain⟨u,rfl,ru⟩:=T1 r;cases ru;obtain⟨hz,hm,vs,kv,o,es,ep,h2,h3,h4,h5⟩:=Qj I.hok hl;have hlen:vs.length=ns.length:=by
  have e1:=KV.length kv;have e2:=congrArg List.length hns;rw[zst,zst] at e2
  omega
 have hlt:l<s.heap.objs.size:=Heap.lt_size h2;have da:s.heap.DictAt (Yp X.prog X.w) l vs ep:=⟨o,es,h2,h3,h4,h5⟩;have val:∀ (i:Nat) (v:Value),(∃ k y,vs[i]?=some (k,y)/\(Yp X.prog X.w).is k v=true)->∃ t,v=.int (ns.getD i 0) t:=fun i v ⟨k,y,hk,hv⟩=>by
  have e1:=congrArg (·[i]?) (KV.keys kv)
  have e2:=congrArg (·[i]?) hns
  simp only[zs0,hk,zt5] at e1 e2
  rw[e1] at e2
  have hi:i<ns.length:=by
   rw[<- hlen];exact(zsv.mp hk).1
  rw[zsu hi] at e2
  have e3:k=Sum.inl (ns[i]'hi):=Option.some.inj e2;have e4:ns.getD i 0=ns[i]'hi:=by rw[ztj,zsu hi];rfl
  rw[e4];rcases Y1 hv with ⟨j,t,rfl,rfl⟩|⟨z,t,rfl,rfl⟩
  ·cases e3;exact⟨t,rfl⟩
  ·cases e3
 refine call_max_walk (wpAny_pyIter_dict hm da ?_);refine⟨s.heap.objs.size,[s.heap.objs.size,l],[s.heap.objs.size],vs.length,_,_,_,rfl,Walks.dictKeys (knd:=Yp X.prog X.w) (A:=X.A.in1) (I.ok.hd hc) _ l (ztk hlt) vs ep,⟨⟨_,Heap.get?_push_size _ rfl,rfl,rfl⟩,da.push _⟩,fun b hb=>?_,by omega,CmpOf.ints_gt (fun i=>ns.getD i 0) (fun i v hv=>val i v hv),fun v h' tk hP hk=>?_⟩
 ·show b<(s.heap.push _).objs.size
  rw[Heap.size_push];rcases zsz.mp hb with rfl|hb
  ·exact zux _
  ·rcases zsz.mp hb with rfl|hb
   ·exact zuj hlt
   ·cases hb
 ·obtain⟨h1,h2⟩:=argBest_gt (fun i=>ns.getD i 0) (vs.length-1)
  obtain⟨t,rfl⟩:=val _ v hP;rw[hlen] at h1 h2 ⊢
  generalize argBest (fun i j=>decide ((fun i=>ns.getD i 0) i>(fun i=>ns.getD i 0) j)) (ns.length-1)=b at h1 h2 ⊢
  have hb:b<ns.length:=by omega
  have eg:∀ (k:Nat) (hk:k<ns.length),ns.getD k 0=ns[k]'hk:=fun k hk=>by rw[ztj,zsu hk];rfl
  refine⟨.int (ns.getD b 0),H,I.kept fun c o e=>?_,⟨_,rfl⟩,q _ (by rw[eg b hb];exact ztp hb) fun x hx=>?_⟩
  ·refine hk c o (fun hm=>?_) (Heap.get?_push_of_some _ e)
   rw[zsx.mp hm] at e;exact zug _ (Heap.lt_size e)
  ·obtain⟨k,hk',rfl⟩:=ztr hx
   have:=h2 k (by omega)
   show ns[k]<=_;rw[<- eg k hk'];exact this
theorem Oq(I:Nat->Shared->Prop)
  (turn:∀ (n:Nat) (s:Shared),I n s->wpAny (model prog w) A (pyNext it) (fun r s₁=>match r with
   | none=>R (.ok .next) s₁
   | some v=>wpAny (model prog w) A (letOwnedTupleGo target it v) (fun _ s₁'=>wpAny (model prog w) A (assign target env v) (fun _ s₂=>wpAny (model prog w) A (forIn ifs true fun c r=>if r=true then do let ok <- isTrue c env (eval c env);pure (ForInStep.yield ok) else pure (ForInStep.yield r)) (fun ok s₃=>if ok=true then wpAny (model prog w) A (eval elt env) (fun x s₄=>wpAny (model prog w) A (call (.builtin "list.append") [acc,x]) (fun _ s₅=>∃ m,m<n/\I m s₅) (notedBy (model prog w) A env fun e s'=>R (.error e) s') s₄) (notedBy (model prog w) A env fun e s'=>R (.error e) s') s₃ else ∃ m,m<n/\I m s₃) (notedBy (model prog w) A env fun e s'=>R (.error e) s') s₂) (notedBy (model prog w) A env fun e s'=>R (.error e) s') s₁') (notedBy (model prog w) A env fun e s'=>R (.error e) s') s₁) (notedBy (model prog w) A env fun e s'=>R (.error e) s') s)
  (n:Nat) (h:I n s):codeAny (model prog w) A (.compLoop (.ListComp elt [⟨target,iter,ifs,0⟩] scope pos) 0 it acc env) R s:=by
 refine codeAny_loop rfl I (fun n s hI=>?_) n h
 refine wpAny_noted ?_;rw[compTurn_list];refine wpAny_bind (wpAny_standAt (wpAny_bind (wpAny_mono (turn n s hI) (fun r s₁ h₁=>?_) fun _ _ z=>z)))
 cases r with
 | none=>exact wpAny_pure h₁
 | some v =>
   refine wpAny_bind (wpAny_mono h₁ (fun _ s₁' h₂=>wpAny_bind (wpAny_mono h₂ (fun _ s₂ h₃=>wpAny_bind (wpAny_mono h₃ (fun ok s₃ h₄=>?_) fun _ _ z=>z)) fun _ _ z=>z)) fun _ _ z=>z)
   cases ok with
   | false =>
     simp only[zum,if_false] at h₄ ⊢
     exact wpAny_pure ⟨rfl,h₄⟩
   | true =>
     simp only[if_true] at h₄ ⊢
     refine wpAny_bind (wpAny_bind (wpAny_mono h₄ (fun x s₄ h₅=>wpAny_bind (wpAny_mono h₅ (fun _ s₅ h₆=>wpAny_pure (wpAny_pure ⟨rfl,h₆⟩)) fun _ _ z=>z)) fun _ _ z=>z))
def cs0(xo:List Str)(js:List Nat)(σ:St):St:=(xo.map fun _=>none)++js.map fun j=>(σ[j]?).getD none
def Pj(xo:List Str)(js:List Nat)(σ σ2:St):Prop:=∃ os:St,os.length=xo.length/\σ2=os++js.map fun j=>(σ[j]?).getD none
theorem Pj.weak(o:Pj xo js σ σ2)(I:Inv X pins σ2 H s):Inv X pins (cs0 xo js σ) H s:=by
 obtain⟨os,hl,rfl⟩:=o;refine I.weak (by unfold cs0;simp[hl]) fun i v e=>?_
 unfold cs0 at e
 by_cases hi:i<xo.length
 ·rw[ztt (by rw[zst];exact hi),zs0,zsu hi] at e
  cases e
 ·rw[zts (by rw[zst];omega),zst] at e
  rw[zts (by omega),hl]
  exact e
def A0(J:It)(xo:List Str)(js:List Nat)(g:TG)(tt:TT)(te:TE)(σ:St)(H:Hp)(Q:VK):Prop:=∃ W:Nat->Nat->List V->Hp->Prop,(∃ m,W 0 m [] H)/\∀ i m ys H,W i m ys H ->
 (J.stop i H/\ys.length<=sizeLine/\∀ p,H p=none->Q (.ref p) (upd H p (.lst ys))) \/
 (J.go i H/\ys.length<sizeLine/\∃ N:List V->Hp->Prop,(∀ ys' H',N ys' H'->∃ m',m' < m/\W (i+1) m' ys' H')/\∀ x H',J.yld i H x H'->g x (cs0 xo js σ) H' fun σ2 H1=>Pj xo js σ σ2/\tt σ2 H1 fun b H2=>if b=true then te σ2 H2 fun y H3=>N (ys++[y]) H3 else N ys H2)
def zib(wi:TI)(xo:List Str)(js:List Nat)(g:TG)(tt:TT)(te:TE):TE:=fun σ H Q=>wi σ H fun J H1=>A0 J xo js g tt te σ H1 Q
section
variable{X:Cx}{elt iter tg:Expr}{xo:List Str}{pos:Pos}{ifs:List Expr}{scope:Scope}{cl:List (Str×Addr)}{ys:List Str}{js:List Nat}{g:TG}
structure L9(X:Cx)(xo:List Str)(scope:Scope)(cl:List (Str×Addr))(ys:List Str)(js:List Nat):Prop where
 clos:closureFor scope X.env=pure cl
 kind:scope.kind=.function
 names:∀ y∈scope.names,y.2=.local->scope.names.lookup y.1=some .local
 nocell:∀ y∈scope.names,y.2≠.cell
 at_:js.map (X.N[·]?)=ys.map some
 free:Gg (fun y=>X.env.kindOf y=some .cell/\(relabel scope X.env).names.lookup y=some .cell/\cl.lookup y=X.env.cells.lookup y) ys
 only:Gg (fun p=>X.env.cells.lookup p.1=some p.2) cl
 vis:∀ y∈scope.names,y.2=.free->y.1∈ys
theorem L9.same(c:L9 X xo scope cl ys js)(h:cl.lookup y=some a):X.env.cells.lookup y=some a:=c.only.get (PySem.mem_of_lookup h)
theorem zej(c:L9 X xo scope cl ys js)(I:Inv X pins σ H s)(hf:∀ b∈fp,FpOk X pins H b)(hex:∀ b∈fp,b<s.heap.objs.size)(hC:s.heap.objs.size<=C) :
  (Yz X pn Nc scope cl s H fp C).Ok where
 mod:=I.ok.mod
 kind:=c.kind
 glob:=I.ok.glob
 blt:=I.ok.blt
 above:=hC
 inj:=fun y z a h1 h2=>I.ok.inj y z a (c.same h1) (c.same h2)
 has:=fun y h=>by
  obtain⟨k,m,q⟩:=Nq h;rcases q with rfl|rfl
  ·exact absurd rfl (c.nocell _ m)
  ·obtain⟨a1,a2,a3⟩:=c.free.get (c.vis _ m rfl)
   obtain⟨a,ha⟩:=I.ok.has y (.inl a1);exact⟨a,a3.trans ha⟩
 cab:=fun _ _ h=>by cases h
 hd:=I.ok.hd
 frames:=I.ok.frames
 stk:=.inl rfl
 exf:=fun b hb=>by
  obtain⟨f0,f1,f2,f3,f4,f5⟩:=hf b hb;exact⟨ztk (ztg (hex b hb) hC),fun y a h=>f4 y a (c.same h)⟩
 bs:=I.bs
 bsz:=ztb I.ok.bsz I.sz
 noex:=fun b o q hb=>by
  obtain⟨f0,f1,f2,f3,f4,f5⟩:=hf b hb;rcases f3 with z|z
  ·exact I.ok.noex b o q z
  ·exact absurd (ztg (Heap.lt_size (I.ok.bs b o q).1) z) (zug _)
 exfs:=fun b hb m=>by
  obtain⟨f0,f1,f2,f3,f4,f5⟩:=hf b hb;exact(zsz.mp (I.stkSub b m)).elim f1 f2
 funs:=I.stack
 frf:=I.stkFree
theorem zco(c:L9 X xo scope cl ys js)(I:Inv X pins σ H s)(hf:∀ b∈fp,FpOk X pins H b)(hex:∀ b∈fp,b<s.heap.objs.size)(hC:s.heap.objs.size<=C)
  (hns:h1.Ns C m1) (old:∀ b o,s.heap.get? b=some o->h1.get? b=some o) :
  Inv (Yz X (X.pn++pins) (xo++ys) scope cl s H fp C) [] (cs0 xo js σ) H { s with heap:=h1,toks:=t1 }:=by
 obtain⟨m,hn,hl⟩:=I.loc;have jl:js.length=ys.length:=by have:=congrArg List.length c.at_;simpa using this
 refine⟨zej c I hf hex hC,rfl,I.bare,Un.kept old,⟨m1,hns,fun i y v e1 e2 e3=>?_⟩,fun y a h=>?_,I.hok.fresh hC,fun y a h=>I.freeC y a (c.same h),fun p hp=>?_,I.hok.kept old,by simp[jl,Yz,cs0]⟩
 ·have e2:=e2.resolve_right (Wv _)
  unfold cs0 at e2
  by_cases hi:i<xo.length
  ·rw[ztt (by rw[zst];exact hi),zs0,zsu hi] at e2
   cases e2
  ·rw[zts (by rw[zst];omega),zst] at e2
   have e1:ys[i-xo.length]?=some y:=by
    have e1:(xo++ys)[i]?=some y:=e1;rw[zts (by omega)] at e1;exact e1
   generalize i-xo.length=k at e1 e2
   rw[zs0] at e2
   cases hj:js[k]? with
   | none=>rw[hj] at e2;cases e2
   | some j =>
     rw[hj] at e2
     have ej:X.N[j]?=some y:=by
      have q:=congrArg (·[k]?) c.at_
      simp only[zs0,hj,e1,zt5] at q
      exact Option.some.inj q
     have ev:σ[j]?=some (some v):=by
      simp only[zt5,Option.some.injEq] at e2
      cases hσ:σ[j]? with
      | none=>rw[hσ] at e2;cases e2
      | some o=>rw[hσ] at e2;rw[show o=some v from e2]
     obtain⟨a1,a2,a3⟩:=c.free.get (zs5 e1);obtain⟨u,r,l⟩:=hl j y v ej (.inl ev) (.inr (.inl a1));refine⟨u,r,.inr ⟨.inl a2,?_⟩⟩;rcases l with ⟨k1,_⟩|⟨_,b,e,z⟩
     ·rw[a1] at k1;cases k1
     ·obtain⟨o,ho,hd⟩:=z
      exact⟨b,a3.trans e,o,old _ _ ho,hd⟩
 ·obtain⟨v,o,ho,hd⟩:=I.cell y a (c.same h)
  exact⟨v,o,old _ _ ho,hd⟩
 ·obtain⟨e,n,ne,nf,d⟩:=I.pin p (by simpa [Yz] using hp)
  refine⟨old _ _ e,n,ztk (ztg (Heap.lt_size e) hC),fun m=>?_,d⟩
  exact(zsz.mp (I.stkSub _ m)).elim ne nf
theorem Jz{pins:List (Addr×Obj)}{σ:St}{H:Hp}{s:Shared}{tt:TT}{te:TE}{it:Addr}{fp:List Addr}{tn:Nat->Heap->Prop}{J:It}{W:Nat->Nat->List V->Hp->Prop}{m0:Nat}{Q:VK}{E:Value->Shared->Prop}{RR:Value->Addr->Result->Shared->Prop}
  (hcm:X.calm=true) (c:L9 X xo scope cl ys js) (ht:∀ pn s₀ H₀ fp C,PTs (Yz X pn (xo++ys) scope cl s₀ H₀ fp C) ifs tt) (hgt:∀ pn s₀ H₀ fp C,PG (Yz X pn (xo++ys) scope cl s₀ H₀ fp C) tg g) (he:∀ pn s₀ H₀ fp C,PE (Yz X pn (xo++ys) scope cl s₀ H₀ fp C) elt te)
  (I:Inv X pins σ H s) (T:D7 X.prog X.w X.K tg J fp it tn) (st0:tn 0 s.heap) (hf:∀ b∈fp,FpOk X pins H b) (w0:W 0 m0 [] H)
  (turn:∀ i m ys H,W i m ys H->(J.stop i H/\ys.length<=sizeLine/\∀ p,H p=none->Q (.ref p) (upd H p (.lst ys))) \/
   (J.go i H/\ys.length<sizeLine/\∃ N:List V->Hp->Prop,(∀ ys' H',N ys' H'->∃ m',m' < m/\W (i+1) m' ys' H')/\∀ x H',J.yld i H x H'->g x (cs0 xo js σ) H' fun σ2 H1=>Pj xo js σ σ2/\tt σ2 H1 fun b H2=>if b=true then te σ2 H2 fun y H3=>N (ys++[y]) H3 else N ys H2))
  (hRR:∀ D C s' m,s'.heap.Ns C m->(∀ h',Heap.SameBut C s'.heap h'->∃ H',Inv X pins σ H' { s' with heap:=h' }/\Q (.ref D) H')->(∃ H',Inv X pins σ H' s'/\Q (.ref D) H'/\H' C=none)->s.heap.objs.size<=C->RR (.ref D) C (.ok .next) s') :
  wpAny (model X.prog X.w) X.A (newList []) (fun acc s₃=>wpAny (model X.prog X.w) X.A (newFunctionEnv scope X.env.globals cl [] X.env.qual none .none (some X.env)) (fun cenv s₄ =>
   codeAny (model X.prog X.w) X.A (.compStart (.ListComp elt [⟨tg,iter,ifs,0⟩] scope pos) 0 (.ref it) acc { cenv with scope:=relabel scope X.env }) (RR acc cenv.locals) s₄) E s₃) E s:=by
 refine wpAny_newObj_type (wpAny_newFunctionEnv c.nocell (by intro y hy;simp at hy) (fun h₁ hns₁ hsb₁=>?_) c.kind)
 dsimp only at hns₁ hsb₁ ⊢
 generalize hH2:s.heap.push { cls:=.type "list",dict:=none,data:=.seq ([]:List Value).toArray }=G at hns₁ hsb₁ ⊢
 generalize hD:s.heap.objs.size=D;have hC:G.objs.size=D+1:=by rw[<- hH2,Heap.size_push,hD]
 generalize hCe:G.objs.size=C at hns₁ hsb₁ ⊢
 have hCD:C=D+1:=hCe.symm.trans hC;have hDC:D≠C:=by omega
 have below:∀ b o,s.heap.get? b=some o->b<D:=fun b o e=>by rw[<- hD];exact Heap.lt_size e
 have ltC:∀ b:Addr,b<D->b≠C:=fun b h=>ztk (hCD▸zuj h)
 have ltD:∀ b:Addr,b<D->b≠D:=fun b h=>ztk h
 have old:∀ b o,s.heap.get? b=some o->h₁.get? b=some o:=fun b o e=>hsb₁.extBut b o (ltC b (below b o e)) (Heap.get?_push_of_some _ (hH2▸Heap.get?_push_of_some _ e))
 have hacc:h₁.PlainList D #[]:=⟨_,hsb₁.extBut _ _ hDC (Heap.get?_push_of_some _ (by rw[<- hH2,<- hD];exact Heap.get?_push_size _ rfl))⟩
 have hex:∀ b∈fp,b<s.heap.objs.size:=fun b hb=>by
  obtain⟨o,e,_⟩:=T.obj _ _ st0 b hb;exact Heap.lt_size e
 have lt0:∀ b∈fp,b<D:=fun b hb=>by rw[<- hD];exact hex b hb
 have freshD:s.heap.get? D=none:=Heap.get?_none_of_le (by omega)
 have freshC:s.heap.get? C=none:=Heap.get?_none_of_le (by omega)
 have frE:∀ {H':Hp},(∀ b∈fp,H' b=none)->∀ {o:Obj} {b:Addr},b∈fp->FpOk (Yz X (X.pn++pins) (xo++ys) scope cl s H fp C) [(D,o)] H' b:=fun {H'} hn {o b} hb=>by
  obtain⟨f0,f1,f2,f3,f4,f5⟩:=hf b hb;refine⟨hn b hb,?_,?_,.inl hb,fun y a h=>f4 y a (c.same h),fun p hp=>?_⟩
  ·exact ltC b (lt0 b hb)
  ·exact fun m=>(zsz.mp (I.stkSub b m)).elim f1 f2
  ·rcases zs6.mp hp with z|z
   ·exact f5 p z
   ·rw[zsx.mp z]
    exact Ne.symm (ltD b (lt0 b hb))
 have pinD:∀ {σ':St} {H':Hp} {s':Shared} {o:Obj},Inv (Yz X (X.pn++pins) (xo++ys) scope cl s H fp C) [] σ' H' s'->s'.heap.get? D=some o->(∀ v,o.data≠.cell v)->H' D=none->Inv (Yz X (X.pn++pins) (xo++ys) scope cl s H fp C) [(D,o)] σ' H' s':=fun {σ' H' s' o} Ic e nc n =>
  Ic.pins_of fun p hp=>by
   rw[zsx.mp hp];refine⟨e,n,hDC,fun m=>?_,nc⟩
   obtain⟨_,ob,hob,_⟩:=I.stack.mem m;exact absurd (below D ob hob) (zug _)
 have loop:∀ s₃:Shared,s₃={ s with heap:=h₁,toks:=s.toks+([]:List (Str×Value)).length } ->
   codeAny (model X.prog X.w) X.A (.compLoop (.ListComp elt [⟨tg,iter,ifs,0⟩] scope pos) 0 (.ref it) (.ref D) (compEnvC scope cl C X.env)) (RR (.ref D) C) s₃:=by
  rintro s₃ rfl;have I0:=zco (t1:=s.toks+([]:List (Str×Value)).length) c I hf hex (by omega:s.heap.objs.size<=C) hns₁ old
  refine Oq (fun n s'=>∃ i H' zs its,Inv (Yz X (X.pn++pins) (xo++ys) scope cl s H fp C) [] (cs0 xo js σ) H' s'/\tn i s'.heap/\(∀ b∈fp,H' b=none)/\s'.heap.PlainList D (its:List Value).toArray/\Vals zs its/\H' D=none/\W i n zs H') ?_ m0
   ⟨0,H,[],[],I0,T.keep _ _ _ st0 fun b hb o e=>old b o e,fun b hb=>(hf b hb).1,hacc,.nil,I.hok.fresh (by omega),w0⟩
  rintro n s3 ⟨i,H3,zs,its,I3,st3,fr3,⟨n3,pl3⟩,rv3,fD3,w3⟩;have I3':=pinD I3 pl3 (by intro v z;cases z) fD3
  rcases turn i n zs H3 w3 with ⟨stop,hsz,fin⟩|⟨go,hsz,Nx,hNx,step⟩
  ·refine wpAny_mono (T.done (Yz X (X.pn++pins) (xo++ys) scope cl s H fp C) rfl rfl rfl hcm i _ s3 _ H3 (fun _ _=>False) I3' (fun b hb=>frE fr3 hb) st3 stop) (fun r s4 ⟨hr,I4⟩=>?_) fun _ _ z=>z.elim
   subst hr;have plD:s4.heap.get? D=some _:=(I4.pin (D,{ cls:=Value.type "list",data:=.seq its.toArray n3 }) (zs9 _ zto)).1;obtain⟨m4,hn4,_⟩:=I4.loc;have okU:∀ h',(∀ b o,b≠C->s4.heap.get? b=some o->h'.get? b=some o)->Inv X pins σ (upd H3 D (.lst zs)) { s4 with heap:=h' }:=fun h' k1=>by
    have u4:Un (frs X.stack) fp H H3 s.heap s4.heap:=I4.base;have neC:∀ b o,s.heap.get? b=some o->b≠C:=fun b o e=>ltC b (below b o e)
    have neD:∀ b o,s.heap.get? b=some o->b≠D:=fun b o e=>ltD b (below b o e)
    have trD:∀ b u,H3 b=some u->b≠D:=fun b u e z=>by rw[z,fD3] at e;cases e
    have trC:∀ b u,H3 b=some u->b≠C:=fun b u e z=>by rw[z,show H3 C=none from I4.free] at e;cases e
    have un:Un (frs X.stack) fp H (upd H3 D (.lst zs)) s.heap h':=by
     refine⟨fun b o e n hb hx=>k1 b o (neC b o e) (u4.keep b o e n hb hx),fun b o e n hb hx=>?_,fun b o e n hx=>?_,fun b o e hx=>?_,fun b xs e=>?_,fun b ob u e=>?_,fun b ps e=>?_⟩
     ·obtain⟨sl,z⟩:=u4.slot b o e n hb hx
      exact⟨sl,k1 b _ (neC b o e) z⟩
     ·rw[Zi (neD b o e)];exact u4.free b o e n hx
     ·obtain⟨o',z⟩:=u4.there b o e hx
      exact⟨o',k1 b o' (neC b o e) z⟩
     ·have z:=u4.tups b xs e
      rw[Zi (trD b _ z)];exact z
     ·have z:=u4.frzs b ob u e
      rw[Zi (trD b _ z)];exact z
     ·obtain⟨more,z⟩:=u4.tbls b ps e
      exact⟨more,by rw[Zi (trD b _ z)];exact z⟩
    refine I.call' (s':={ s4 with heap:=h' }) (ch:=fp) (show s4.os=s.os from I4.os) un (fun b u e=>?_) I4.bare fun b hb=>?_
    ·by_cases hb:b=D
     ·subst hb
      rw[Zc] at e;cases e
      exact⟨hsz,its,n3,rv3,k1 _ _ hDC plD⟩
     ·rw[Zi hb] at e
      refine(I4.hok b u e).stay (fun d v hd q=>?_) (fun d q=>by rw[Zi (trD d _ q)];exact q) fun d xs q=>by rw[Zi (trD d _ q)];exact q
      rcases hd with z|z
      ·exact k1 d v (by rw[z];exact trC b u e) q
      ·exact k1 d v (trC d _ z) q
    ·obtain⟨f0,f1,f2,f3,f4,f5⟩:=hf b hb
     exact⟨f3,f1,f4,f5⟩
   refine hRR D C s4 m4 hn4 (fun h' hs'=>⟨_,okU h' (fun b o hb e=>hs'.extBut b o hb e),fin D fD3⟩) ⟨_,okU s4.heap (fun _ _ _ e=>e),fin D fD3,?_⟩ (by omega)
   ·rw[Zi (Ne.symm hDC)];exact I4.free
  ·refine wpAny_mono (T.item (Yz X (X.pn++pins) (xo++ys) scope cl s H fp C) rfl rfl rfl hcm i _ s3 _ H3 (fun _ _=>False) I3' (fun b hb=>frE fr3 hb) st3 go) (fun r s4 ⟨u,hr,h4⟩=>?_) fun _ _ z=>z.elim
   subst hr;refine wpAny_mono h4 (fun _ s5 h5=>?_) fun _ _ z=>z.elim
   obtain⟨xv,H5,I5,r5,y5,st5,fr5⟩:=h5;have I5':=I5.pinned (fun b hb=>frE fr5 hb) (T.obj _ _ st5)
   refine wpAny_mono (hgt _ _ _ _ _ _ s5 _ H5 xv u _ I5' r5 (step xv H5 y5)) (fun _ s6 ⟨σ6,H6,I6,own6,q6⟩=>?_) fun _ _ z=>z.elim
   refine wpAny_mono (ht _ _ _ _ _ _ s6 _ H6 _ I6 q6) (fun ok s7 ⟨H7,I7,q7⟩=>?_) fun _ _ z=>z.elim
   have keepF:∀ {σ8:St} {H8:Hp} {s8:Shared},Inv (Yz X (X.pn++pins) (xo++ys) scope cl s H fp C) ([(D,{ cls:=Value.type "list",data:=.seq its.toArray n3 })]++Mh fp s5.heap) σ8 H8 s8->tn (i+1) s8.heap/\(∀ b∈fp,H8 b=none)/\s8.heap.PlainList D its.toArray/\H8 D=none:=fun {σ8 H8 s8} I8=>by
    refine⟨T.keep _ _ _ st5 fun b hb o e=>(I8.pin (b,o) (zs9 _ (zs9 _ (Rj hb e)))).1,fun b hb=>?_,⟨n3,(I8.pin (D,_) (zs9 _ zto)).1⟩,(I8.pin (D,_) (zs9 _ zto)).2.1⟩
    obtain⟨o,e,d⟩:=T.obj _ _ st5 b hb;exact(I8.pin (b,o) (zs9 _ (zs9 _ (Rj hb e)))).2.1
   have bare:∀ {σ8:St} {H8:Hp} {s8:Shared},Inv (Yz X (X.pn++pins) (xo++ys) scope cl s H fp C) ([(D,{ cls:=Value.type "list",data:=.seq its.toArray n3 })]++Mh fp s5.heap) σ8 H8 s8->Inv (Yz X (X.pn++pins) (xo++ys) scope cl s H fp C) [] σ8 H8 s8:=fun I8=>I8.pins_of fun _ z=>(nomatch z)
   cases ok with
   | false =>
     simp only[zum,if_false] at q7 ⊢
     obtain⟨m',hm',w7⟩:=hNx _ _ q7;obtain⟨a1,a2,a3,a4⟩:=keepF I7;exact⟨m',hm',i+1,H7,zs,its,own6.weak (bare I7),a1,a2,a3,rv3,a4,w7⟩
   | true =>
     simp only[if_true] at q7 ⊢
     refine wpAny_mono (he _ _ _ _ _ _ s7 _ H7 _ I7 q7) (fun y s8 ⟨yv,H8,I8,r8,q8⟩=>?_) fun _ _ z=>z.elim
     obtain⟨m',hm',w8⟩:=hNx _ _ q8;obtain⟨a1,a2,a3,a4⟩:=keepF I8;have szI:its.toArray.size<=sizeLine:=by rw[zs7,<- rv3.length];omega
     refine wpAny_list_append_plain (hsz:=szI) a3 fun h9 pl9 sb9=>?_
     have I8b:=own6.weak (bare I8);refine⟨m',hm',i+1,H8,zs++[yv],its++[y],?_,T.keep _ _ _ a1 fun b hb o e=>(sb9.2 b (ltD b (lt0 b hb))).trans e,a2,by rw[List.push_toArray] at pl9;exact pl9,rv3.append (.cons r8 .nil),a4,w8⟩
     refine I8b.turned (t':=s8.toks) (it:=D) (fun b o hb e=>(sb9.2 b hb).trans e) a4 hDC (.inr (show s.heap.objs.size<=D by omega)) (fun y' a h=>?_) fun p hp=>?_
     ·obtain⟨v,o,ho,_⟩:=I.cell y' a (c.same h)
      exact ltD a (below a o ho)
     ·obtain⟨e,_⟩:=I.pin p (by simpa [Yz] using hp)
      exact ltD _ (below _ _ e)
 exact codeAny_compStart_list (loop _ rfl) (T.self _ 0 _ _ _ (T.keep _ _ _ st0 fun b hb o e=>old b o e) (loop _ rfl))
variable{wi:TI}{tt:TT}{te:TE}
theorem Cw(hcm:X.calm=true)(c:L9 X xo scope cl ys js)(hi:PI X tg iter wi)(ht:∀ pn s₀ H₀ fp C,PTs (Yz X pn (xo++ys) scope cl s₀ H₀ fp C) ifs tt)(hgt:∀ pn s₀ H₀ fp C,PG (Yz X pn (xo++ys) scope cl s₀ H₀ fp C) tg g)(he:∀ pn s₀ H₀ fp C,PE (Yz X pn (xo++ys) scope cl s₀ H₀ fp C) elt te)
  (hs:∀ x,foldedSetIterable iter X.env x=pure x:=by intro _;rfl):PE X (.ListComp elt [⟨tg,iter,ifs,0⟩] scope pos) (zib wi xo js g tt te):=by
 intro pins s σ H Q I h;rw[eval_ListComp];refine wpAny_comprehension_free (use:=none) rfl hs c.clos c.kind c.names (thn (hi pins s σ H _ I h) fun v s1 h1=>thn h1 fun itv s2 h2=>?_)
 obtain⟨it,fp,tn,J,H2,e,I2,T,st2,f2,W,⟨m0,w0⟩,turn⟩:=h2;subst e;exact Jz (RR:=fun acc C=>compPost (model X.prog X.w) X.A X.xe none (EP X pins σ Q) acc C) hcm c ht hgt he I2 T st2 f2 w0 turn fun D C s' m hn hS _ _=>⟨m,hn,fun h' hs'=>let ⟨H',I',q⟩:=hS h' hs';⟨.ref D,H',I',rfl,q⟩⟩
end
end L2

namespace G
open PySem PySem.Spec PyProof.Rows L2
theorem Mv:∀ (a b:List (Nat×Option Int)) (xs:List V),Yf (a++b) xs=Yf b (Yf a xs)
 | [],_,_=>rfl
 | (p,w) :: r,b,xs=>by rw[List.cons_append,Yf,Yf,Mv r b]
structure Jg(kvs:List (Key×V))(gs:List V):Prop where
 has:∀ (n:Int) (j:Nat),gs[j]?=some (.int n)->valV kvs (Sum.inl n:Key)=some (.int (j:Nat))
 not:∀ n:Int,(∀ j:Nat,gs[j]?≠some (.int n))->valV kvs (Sum.inl n:Key)=none
theorem Jg.iff(t:Jg kvs gs)(n:Int):(∃ j:Nat,gs[j]?=some (.int n)/\valV kvs (Sum.inl n:Key)=some (.int (j:Nat)))\/((∀ j:Nat,gs[j]?≠some (.int n))/\valV kvs (Sum.inl n:Key)=none):=by
 by_cases h:∃ j:Nat,gs[j]?=some (.int n)
 ·obtain⟨j,hj⟩:=h
  exact .inl ⟨j,hj,t.has n j hj⟩
 ·have h':∀ j:Nat,gs[j]?≠some (.int n):=fun j hj=>h ⟨j,hj⟩
  exact .inr ⟨h',t.not n h'⟩
inductive zbd(K:PySem.W.Frag)(vs:List V)(H:Hp)(Q:VK)(_:XK):Prop where
 | mk(b:Addr)(gs:List V)(_:vs=[.ref b])(_:H b=some (.lst gs))(_:(∀ x∈gs,oneV x))(_:(∀ (j k:Nat) (n:Int),gs[j]?=some (.int n)->gs[k]?=some (.int n)->j=k))(_:gs.length<=100)(_:∀ d kvs H',H' d=some (.dK kvs)->Jg kvs gs->Same H H'->H d=none->Q (.ref d) H')
structure X3(H:Hp)(into:List (Key×V))(line:List Nat)(fr:Nat->Option (Nat×Int)):Prop where
 keys:into.map (·.1)=line.map fun q:Nat=>(Sum.inl (q:Int):Key)
 none:∀ q∈line,fr q=Option.none->valV into (Sum.inl (q:Int):Key)=some .non
 some:∀ q∈line,∀ par n,fr q=Option.some (par,n)->∃ t,valV into (Sum.inl (q:Int):Key)=Option.some (.ref t)/\H t=Option.some (.tup [.int (par:Nat),.int n])
theorem X3.same(e:Same H H')(h:X3 H into line fr):X3 H' into line fr :=
 ⟨h.keys,h.none,fun q hq par n hf=>let ⟨t,a,b⟩:=h.some q hq par n hf;⟨t,a,e _ _ b⟩⟩
theorem X3.len(h:X3 H into line fr):into.length=line.length:=by
 have:=congrArg List.length h.keys;rw[zst,zst] at this;exact this
theorem zek{into:List (Key×V)}{k:Key}:(valV into k).isSome=true↔k∈into.map Prod.fst:=by
 unfold valV;rw[Option.isSome_map,List.find?_isSome];constructor
 ·rintro⟨p,hp,e⟩
  exact zs2.mpr ⟨p,hp,of_decide_eq_true e⟩
 ·intro h
  obtain⟨p,hp,rfl⟩:=zs2.mp h;exact⟨p,hp,zsy rfl⟩
theorem X3.has{H:Hp}{into:List (Key×V)}{line:List Nat}{fr:Nat->Option (Nat×Int)}(h:X3 H into line fr)(q:Nat):(valV into (Sum.inl (q:Int):Key)).isSome=true↔q∈line:=by
 rw[zek,h.keys];constructor
 ·intro z
  obtain⟨q',h1,h2⟩:=zs2.mp z;have:(q':Int)=q:=Sum.inl.inj h2;have:q'=q:=by omega
  rw[<- this];exact h1
 ·intro hq
  exact zs2.mpr ⟨q,hq,rfl⟩
inductive zel(K:PySem.W.Frag)(vs:List V)(H:Hp)(Q:VK)(_:XK):Prop where
 | mk(l d:Addr)(ls:List Addr)(rows:List (List Int))(kvs:List (Key×V))(gs:List V)(p:Nat)(_:vs=[.ref l,.ref d,.int p])(_:H l=some (.lst (ls.map V.ref)))(_:ILs H ls rows)(_:rows.length<=100)(_:H d=some (.dK kvs))(_:Jg kvs gs)(_:Yn rows gs)(_:p<rows.length)(_:∀ t into line dep fr H',H' t=some (.dK into)->X3 H' into line fr->Bfs rows gs p line dep->Done rows gs line dep line.length->Tf rows gs p line dep fr->(∀ q∈line,q<rows.length)->Same H H'->H t=none->Q (.ref t) H')
inductive F8(K:PySem.W.Frag)(vs:List V)(H:Hp)(Q:VK)(_:XK):Prop where
 | mk(l d:Addr)(r:List Int)(kvs:List (Key×V))(_:vs=[.ref l,.ref d])(_:H l=some (.lst (r.map V.int)))(_:H d=some (.dK kvs))(_:∀ w:Option Int,(∀ n,w=some n->n∈r/\valV kvs (Sum.inl n:Key)=none)->(w=none->∀ n∈r,(valV kvs (Sum.inl n:Key)).isSome=true)->Q (oV w) H)
inductive Cy(K:PySem.W.Frag)(vs:List V)(H:Hp)(Q:VK)(_:XK):Prop where
 | mk(t:Addr)(q p:Nat)(w:Option Int)(rows:List (List Int))(gs:List V)(into:List (Key×V))(line:List Nat)(dep:Nat->Nat)(fr:Nat->Option (Nat×Int))(_:vs=[.ref t,.int q,oV w])(_:Rd H t (.dK into))(_:X3 H into line fr)(_:Tf rows gs p line dep fr)(_:dep p=0)(_:p∈line)(_:q∈line)(_:dep q<=100)(_:∀ lt ts st H',H' lt=some (.lst ts)->Z9 H' ts (st.map We)->Ch rows gs p st q w->st.length=dep q+1->Same H H'->H lt=none->Q (.ref lt) H')
section
variable{rows:List (List Int)}{gs:List V}{p:Nat}{line:List Nat}{dep:Nat->Nat}{fr:Nat->Option (Nat×Int)}{H H':Hp}{into:List (Key×V)}
def Ka(fr:Nat->Option (Nat×Int))(q:Nat)(x:Nat×Int):Nat->Option (Nat×Int):=fun y=>if y=q then some x else fr y
theorem Ot:Ka fr q x q=some x:=by unfold Ka;rw[if_pos rfl]
theorem Nz(h:y≠q):Ka fr q x y=fr y:=by unfold Ka;rw[if_neg h]
theorem Tf.app(F:Tf rows gs p line dep fr)(hn:q'∉line)(hp:p∈line)(hh:here∈line)(a:adjN rows gs here n q'):Tf rows gs p (line++[q']) (X2 dep q' (dep here+1)) (Ka fr q' (here,n)):=by
 have ne:∀ x∈line,x≠q':=fun x hx z=>hn (by rw[<- z];exact hx)
 have old:∀ x∈line,X2 dep q' (dep here+1) x=dep x:=fun x hx=>by unfold X2;rw[if_neg (ne x hx)]
 have new:X2 dep q' (dep here+1) q'=dep here+1:=by unfold X2;rw[if_pos rfl]
 refine⟨by rw[Nz (ne p hp)];exact F.1,fun q hq hqp=>?_⟩
 rcases zs6.mp hq with z|z
 ·obtain⟨par,m,h1,h2,h3,h4⟩:=F.2 q z hqp
  exact⟨par,m,by rw[Nz (ne q z)];exact h1,ztf _ h2,h3,by rw[old q z,old par h2];exact h4⟩
 ·rw[zsx.mp z]
  exact⟨here,n,Ot,ztf _ hh,a,by rw[new,old here hh]⟩
theorem X3.mono(e:∀ t xs,H t=Option.some (.tup xs)->H' t=Option.some (.tup xs))(h:X3 H into line fr):X3 H' into line fr :=
 ⟨h.keys,h.none,fun q hq par n hf=>let ⟨t,a,b⟩:=h.some q hq par n hf;⟨t,a,e _ _ b⟩⟩
theorem X3.app(I:X3 H into line fr)(hn:q'∉line)(ht:H t=Option.some (.tup [.int (here:Nat),.int n])):X3 H (putK into (Sum.inl (q':Int)) (.ref t)) (line++[q']) (Ka fr q' (here,n)):=by
 have ne:∀ x∈line,x≠q':=fun x hx z=>hn (by rw[<- z];exact hx)
 have hv:valV into (Sum.inl (q':Int):Key)=Option.none:=by
  cases e:valV into (Sum.inl (q':Int):Key) with
  | none=>rfl
  | some y=>exact absurd ((I.has q').mp (by rw[e];rfl)) hn
 have val:∀ x∈line,valV (putK into (Sum.inl (q':Int)) (.ref t)) (Sum.inl (x:Int):Key)=valV into (Sum.inl (x:Int):Key):=fun x hx=>by
  rw[Vp,if_neg (fun z=>ne x hx (by have:=Sum.inl.inj z;omega))]
 have valn:valV (putK into (Sum.inl (q':Int)) (.ref t)) (Sum.inl (q':Int):Key)=Option.some (.ref t):=by rw[Vp,if_pos rfl]
 refine⟨?_,fun q hq hf=>?_,fun q hq par m hf=>?_⟩
 ·rw[Ce _ hv,zs1,zs1,I.keys];rfl
 ·rcases zs6.mp hq with z|z
  ·rw[Nz (ne q z)] at hf
   rw[val q z];exact I.none q z hf
  ·rw[zsx.mp z,Ot] at hf;cases hf
 ·rcases zs6.mp hq with z|z
  ·rw[Nz (ne q z)] at hf
   rw[val q z];exact I.some q z par m hf
  ·rw[zsx.mp z,Ot] at hf
   cases hf;rw[zsx.mp z];exact⟨t,valn,ht⟩
theorem A4(H:Hp)(p:Nat):X3 H [((Sum.inl (p:Int):Key),V.non)] [p] (fun _=>none) :=
 ⟨rfl,fun q hq _=>by rw[zsx.mp hq];exact Xc rfl,fun q _ par n hf=>nomatch hf⟩
theorem A5:Tf rows gs p [p] (fun _=>0) (fun _=>none):=⟨rfl,fun q hq hne=>absurd (zsx.mp hq) hne⟩
end
section
variable{rows:List (List Int)}{gs:List V}
theorem Ch.somes{q e:Nat}{st:List (Nat×Option Int)}{w:Option Int}(h:Ch rows gs q st e w):w≠none->∀ s∈st,s.2≠none:=by
 induction h with
 | one q w=>intro hw s hs;simp at hs;subst hs;exact hw
 | step a h ih =>
   intro hw s hs;rcases zsz.mp hs with rfl|z
   ·exact fun z=>nomatch z
   ·exact ih hw s z
theorem Ch.near{q e:Nat}{st:List (Nat×Option Int)}{w:Option Int}(h:Ch rows gs q st e w):∀ s∈st,s.1=q\/∃ m,gs[s.1]?=some (V.int m):=by
 induction h with
 | one q w=>intro s hs;simp at hs;subst hs;exact .inl rfl
 | @step q q' e n st w a h ih =>
   intro s hs;rcases zsz.mp hs with rfl|z
   ·exact .inl rfl
   ·rcases ih s z with z|z
    ·exact .inr ⟨n,by rw[z];exact a.2⟩
    ·exact .inr z
theorem Ch.single{q e:Nat}{st:List (Nat×Option Int)}{w:Option Int}(h:Ch rows gs q st e w)(hl:st.length<=1):st=[(q,w)]/\e=q:=by
 cases h with
 | one=>exact⟨rfl,rfl⟩
 | step a h=>have:=h.pos;rw[zti] at hl;omega
structure U8(rows:List (List Int))(gs:List V)(i:Nat):Prop where
 fill:Yn rows gs
 ahead:∀ q n,gs[q]?=some (V.int n)->q<i
 stuck:∀ p,p<i->gs[p]?=some .non->Pf rows gs p
theorem U8.non(F:U8 rows gs i)(hk:i<=k)(hr:k<rows.length):gs[k]?=some .non:=by
 have hl:k<gs.length:=by rw[F.fill.len];exact hr
 have e:=zsu hl;rcases F.fill.one _ (ztp hl) with z|⟨n,z⟩
 ·rw[e,z]
 ·rw[z] at e
  have:=F.ahead k n e;omega
theorem U8.step{i e:Nat}{st:List (Nat×Option Int)}{w:Option Int}(F:U8 rows gs i)(hi:i<rows.length)(c:Yt rows gs i st e w):U8 rows (Yf st gs) (i+1):=by
 have hnon:=F.non (zs3 i) hi;cases w with
 | none =>
   obtain⟨h1,h2,h3⟩:=c.none rfl;have hei:e=i:=by
    have hge:=h2 i 0 .nil;rcases(show e=i\/∃ m,gs[e]?=some (V.int m) by
     obtain⟨s,hs,rfl⟩:=zs2.mp c.ch.last;exact c.ch.near s hs) with z|⟨m,z⟩
    ·exact z
    ·have:=F.ahead e m z;omega
   have hst:st=[(i,none)]:=(c.ch.single (by have:=h3 0 (hei▸.nil);omega)).1
   have hl:i<gs.length:=by rw[F.fill.len];exact hi
   have same:Yf st gs=gs:=by
    rw[hst];show gs.set i .non=gs;refine List.ext_getElem? fun k=>?_
    by_cases hk:i=k
    ·subst hk;rw[ztz hl,hnon]
    ·rw[zty hk]
   rw[same];refine⟨F.fill,fun q n hq=>zuj (F.ahead q n hq),fun p hp hpn=>?_⟩
   by_cases hpi:p=i
   ·subst hpi;exact zee F.fill hi F.ahead h1
   ·exact F.stuck p (by omega) hpn
 | some n0 =>
   obtain⟨hf,_⟩:=c.free n0 rfl;have nd:=c.nodup;have FP':=c.fill F.fill hi;have at_:∀ k,k<gs.length->(k∉st.map (·.1)/\(Yf st gs)[k]?=gs[k]?)\/∃ w,(k,w)∈st/\(Yf st gs)[k]?=some (oV w):=fun k hk=>Ww nd hk
   have lt:∀ {k:Nat} {v:V},(Yf st gs)[k]?=some v->k<gs.length:=fun {k v} hk=>by
    have:=(zsv.mp hk).1;rw[Xy] at this;exact this
   refine⟨FP',fun q n hq=>?_,fun p hp hpn=>?_⟩
   ·rcases at_ q (lt hq) with ⟨_,h2⟩|⟨w',h1,_⟩
    ·rw[h2] at hq
     exact zuj (F.ahead q n hq)
    ·rcases c.ch.near _ h1 with z|⟨m,z⟩
     ·have:q=i:=z
      omega
     ·exact zuj (F.ahead q m z)
   ·rcases at_ p (lt hpn) with ⟨h1,h2⟩|⟨w',h1,h2⟩
    ·rw[h2] at hpn
     have hpi:p≠i:=fun z=>by
      obtain⟨x,r,e⟩:=c.ch.hd;exact h1 (by rw[z,e];simp)
     exact(F.stuck p (by omega) hpn).behind F.fill c.ch hf hi nd
    ·have:=c.ch.somes (by simp) _ h1
     rw[h2] at hpn
     cases w' with
     | none=>exact absurd rfl this
     | some m=>cases hpn
theorem Gj(rows:List (List Int)):U8 rows (rows.map fun _=>V.non) 0:=by
 have h0:∀ (k:Nat) (n:Int),(rows.map fun _=>V.non)[k]?≠some (V.int n):=fun k n h=>by
  rw[zs0] at h
  cases e:rows[k]? with
  | none=>rw[e] at h;cases h
  | some r=>rw[e] at h;cases h
 exact⟨⟨by rw[zst],fun x hx=>by obtain⟨_,_,rfl⟩:=zs2.mp hx;exact .inl rfl,fun k n h=>absurd h (h0 k n),fun j k n h=>absurd h (h0 j n)⟩,fun q n h=>absurd h (h0 q n),fun p hp=>absurd hp (zun _)⟩
theorem U8.last(F:U8 rows gs rows.length):Uy rows gs:=fun p hp=>F.stuck p (by have:=(zsv.mp hp).1;rw[F.fill.len] at this;exact this) hp
end
end G

namespace L2
open PySem PySem.Spec PyProof.Rows
section
variable{prog:Program}{w:World}{A:Around}{R:Result->Shared->Prop}{I:Addr}{fp wr:List Addr}{n:Nat}{P:Nat->Value->Prop}{St:Nat->Heap->Prop}
theorem zem(a d:Value):checkBuiltinCall "min" { pos:=[a],kw:=[("default",d)] }=pure ():=by rfl
theorem zcp(W:Walks prog w A.in1 I fp wr n P St)(bt:Nat->Nat->Bool)(C:CmpOf prog w A.in1 CmpOp.Lt P bt)(S:Addr)(hS:S∉fp)(kw:List (Str×Value)):∀ (k j:Nat) (s:Shared) (vb:Value) (c:Nat),n-(j+1)=k->j+1<=n->St (j+1) s.heap->P (argBest bt j) vb ->
  s.heap.get? S=some { cls:=Value.type "list",data:=Data.seq #[vb,vb] c } ->
  (∀ (v:Value) (h':Heap) (tk:Nat),P (argBest bt (n-1)) v->(∀ (b:Addr) (o:Obj),¬b∈wr->b≠S->s.heap.get? b=some o->h'.get? b=some o)->R (Except.ok (Flow.ret v)) { heap:=h',gens:=s.gens,drawn:=s.drawn,toks:=tk,os:=s.os }) ->
  codeAny (model prog w) A (Code.builtin "min.loop" { pos:=[Value.ref I,Value.none,Value.ref S],kw:=kw }) R s:=by
 have hSw:S∉wr:=fun z=>hS (W.sub S z)
 have line:16<sizeLine:=by rw[sizeLine_eq];decide
 intro k
 induction k with
 | zero =>
   intro j s vb c hk hj st hp hs hR;have e:j+1=n:=by omega
   refine codeAny_builtin F.entry_min_loop ?_;rw[Around.under_plainId F.plain_min_loop];refine wpAny_bind (wpAny_seqItems hs rfl ?_);refine wpAny_bind (wpAny_tryCatch (W.done s _ _ (e▸st) fun h' tk hk'=>?_))
   have hs':h'.get? S=some { cls:=Value.type "list",data:=Data.seq #[vb,vb] c }:=hk' S _ hSw hs;refine wpAny_bind (wpAny_updateSeq hs' rfl ?_ (by show 2<=_;omega) (by show 0<=_;omega))
   refine wpAny_bind (wpAny_letGo ?_);refine wpAny_pure ?_;have e2:n-1=j:=by omega
   refine hR vb _ tk (by rw[e2];exact hp) fun b o hb hbs q=>?_
   rw[Heap.get?_update_other _ _ (Ne.symm hbs)];exact hk' b o hb q
 | succ k ih =>
   intro j s vb c hk hj st hp hs hR;have hlt:j+1<n:=by omega
   refine codeAny_builtin F.entry_min_loop ?_;rw[Around.under_plainId F.plain_min_loop];refine wpAny_bind (wpAny_seqItems hs rfl ?_);refine wpAny_bind (wpAny_tryCatch (W.item (j+1) s _ _ hlt st fun v h' tk hv st' hk'=>?_))
   have hs':h'.get? S=some { cls:=Value.type "list",data:=Data.seq #[vb,vb] c }:=hk' S _ hSw hs;refine wpAny_bind (wpAny_pure ?_);refine wpAny_bind (wpAny_tryCatch (wpAny_holding (wpAny_bind (C (j+1) (argBest bt j) v vb _ _ _ hv hp (wpAny_bind (wpAny_holding (wpAny_truthy_bool (wpAny_bind (wpAny_letGo (wpAny_pure ?_))))))))));have hb:argBest bt (j+1)=if bt (j+1) (argBest bt j)=true then j+1 else argBest bt j:=rfl
   cases hbt:bt (j+1) (argBest bt j) with
   | false =>
     rw[hbt] at hb
     simp only[zum,if_false] at hb ⊢
     refine wpAny_bind (wpAny_letGo (wpAny_pure ⟨plainId_quiet F.plain_min_loop _,?_⟩));refine ih (j+1) _ vb c (by omega) hlt st' (by rw[hb];exact hp) hs' fun v2 h2 tk2 hp2 hk2=>?_
     exact hR v2 h2 tk2 hp2 fun b o hb hbs q=>hk2 b o hb hbs (hk' b o hb q)
   | true =>
     rw[hbt] at hb
     simp only[if_true] at hb ⊢
     refine wpAny_bind (wpAny_updateSeq hs' rfl ?_ (by show 2<=_;omega) (by show 2<=_;omega))
     refine wpAny_bind (wpAny_letGo (wpAny_pure ⟨plainId_quiet F.plain_min_loop _,?_⟩));have hs2:(h'.update S (Obj.mapSeq fun _=>#[v,v])).get? S=some { cls:=Value.type "list",data:=Data.seq #[v,v] c }:=Heap.get?_update_self _ hs' rfl
     refine ih (j+1) _ v c (by omega) hlt (W.frame _ _ _ st' fun b hb o q=>(Heap.get?_update_other _ _ (fun z=>hS (by rw[z];exact hb))).trans q) (by rw[hb];exact hv) hs2 fun v2 h2 tk2 hp2 hk2=>?_
     exact hR v2 h2 tk2 hp2 fun b o hb hbs q=>hk2 b o hb hbs ((Heap.get?_update_other _ _ (Ne.symm hbs)).trans (hk' b o hb q))
end
inductive zic(K:PySem.W.Frag)(Q:VK)(vs:List V)(ks:List V)(H2:Hp):Prop where
 | mk(l:Addr)(ns:List Int)(y:V)(_:vs=[.ref l])(_:ks=[y])(_:SqL K H2 l (ns.map V.int))(_:(ns=[]->Q y H2))(_:∀ M,M∈ns->(∀ a∈ns,M<=a)->Q (.int M) H2)
def zjt(K:PySem.W.Frag)(ta tk:TA):TE:=fun σ H Q=>ta σ H fun vs H1=>tk σ H1 fun ks H2=>zic K Q vs ks H2
theorem zga{X:Cx}{K:PySem.W.Frag}{e de:Expr}{ta tk:TA}{p kp pos:Pos}(hK:X.K=K)(hcm:X.calm=true)(hg:Gl X "min")(hm:X.mg "min"=none)(ha:PA X [e] ta)(hk:PK X [⟨some "default",de,kp⟩] tk)
  (hs:starEach [e] X.env=[(false,eval e X.env)]:=by rfl):PE X (.Call (.Name "min" p) [e] [⟨some "default",de,kp⟩] pos) (zjt K ta tk):=by
 subst hK;intro pins s σ H Q I h;refine wpAny_Call_Name_kw (Qf I hg hm PyProof.Rows.boot_min ?_);refine PyProof.Rows.callWith_builtin_kwB (by rw[hs];rfl) rfl (PyProof.Rows.evalArgs_kw2 rfl (thn (ha pos pins s σ H _ I h) fun us s1 ⟨vs,H1,I1,r1,q1⟩=>thn (hk pos pins s1 σ H1 _ I1 q1) fun ws s2 ⟨ks,H2,I2,r2,q2⟩=>?_) hs)
 obtain⟨l,ns,y,rfl,rfl,hl,qe,qm⟩:=q2;obtain⟨u,rfl,ru⟩:=T1 r1;obtain⟨d,rfl,rd⟩:=T1 r2;cases ru;obtain⟨its,r',pl,hz⟩:=I2.list hl;have hlen:its.length=ns.length:=by have:=r'.length;rw[zst] at this;exact this.symm
 have hil:=pl.isList;have hlt:l<s2.heap.objs.size:=by obtain⟨_,e,_⟩:=hil;exact Heap.lt_size e
 refine wpAny_call (codeAny_call_builtin F.plain_min F.entry_min (wpAny_of_eq (zem _ _) ?_));refine wpAny_bind (wpAny_of_eq rfl ?_);refine wpAny_bind (wpAny_pure ?_);refine wpAny_bind (wpAny_pyIter_list hil ?_);refine wpAny_bind (wpAny_newObj_type (wpAny_pure ⟨plainId_quiet F.plain_min_loop _,?_⟩));generalize hh3:s2.heap.push { cls:=.type "list_iterator",data:=.fields #[Value.ref l,Value.int 0 0] }=h3;have hJ:h3.get? s2.heap.objs.size=some { cls:=.type "list_iterator",data:=.fields #[Value.ref l,Value.int 0 0] }:=by rw[<- hh3];exact Heap.get?_push_size _ rfl
 have k3:∀ b o,s2.heap.get? b=some o->h3.get? b=some o:=fun b o e=>by rw[<- hh3];exact Heap.get?_push_of_some _ e
 have sz3:h3.objs.size=s2.heap.objs.size+1:=by rw[<- hh3,Heap.size_push]
 have hi3:h3.IsList l its.toArray:=by rw[<- hh3];exact hil.push _
 show codeAny (model X.prog X.w) X.A (Code.builtin "min.loop" { pos:=[Value.ref s2.heap.objs.size,Value.none,Value.ref h3.objs.size],kw:=[("default",d)] }) _ { s2 with heap:=h3.push { cls:=.type "list",data:=.seq #[] } }
 generalize hh4:h3.push { cls:=.type "list",dict:=none,data:=.seq #[] }=h4;have hS:h4.get? h3.objs.size=some { cls:=.type "list",data:=.seq #[] 0 }:=by rw[<- hh4];exact Heap.get?_push_size _ rfl
 have k4:∀ b o,h3.get? b=some o->h4.get? b=some o:=fun b o e=>by rw[<- hh4];exact Heap.get?_push_of_some _ e
 have hJ4:=k4 _ _ hJ;have hi4:h4.IsList l its.toArray:=by rw[<- hh4];exact hi3.push _
 have W:=Walks.list (prog:=X.prog) (w:=X.w) (A:=X.A.in1) (I.ok.hd hcm) s2.heap.objs.size l (ztk hlt) its.toArray;have hSf:h3.objs.size∉[s2.heap.objs.size,l]:=fun z=>by
  have z':h3.objs.size=s2.heap.objs.size\/h3.objs.size=l:=by simpa using z
  have hl2:@LT.lt Nat _ l s2.heap.objs.size:=hlt;rcases z' with z|z
  ·have:(h3.objs.size:Nat)=s2.heap.objs.size:=z
   omega
  ·have:(h3.objs.size:Nat)=l:=z
   omega
 have st0:h4.IsListIter s2.heap.objs.size l 0/\h4.IsList l its.toArray:=⟨⟨_,hJ4,rfl,rfl⟩,hi4⟩;have keepA:∀ {h':Heap} {tk:Nat},(∀ b o,b∉[s2.heap.objs.size]->b≠h3.objs.size->h4.get? b=some o->h'.get? b=some o)->Inv X pins σ H2 { s2 with heap:=h',toks:=tk }:=fun {h' tk} k=>I2.kept fun b o e=>by
  have hb:@LT.lt Nat _ b s2.heap.objs.size:=Heap.lt_size e;refine k b o (fun z=>?_) (fun z=>?_) (k4 b o (k3 b o e))
  ·exact ztk hb (zsx.mp z)
  ·rw[sz3] at z
   exact ztk (zuj hb) z
 have line:16<sizeLine:=by rw[sizeLine_eq];decide
 have hsz:its.toArray.size=ns.length:=by rw[zs7,hlen]
 refine codeAny_builtin F.entry_min_loop ?_;rw[Around.under_plainId F.plain_min_loop];refine wpAny_bind (wpAny_seqItems hS rfl ?_);cases hn:ns with
 | nil =>
   have hn0:its.toArray.size=0:=by rw[hsz,hn];rfl
   refine wpAny_bind (wpAny_tryCatch (W.done _ _ _ (hn0▸st0) fun h' tk hk'=>?_))
   refine wpAny_bind (wpAny_rule ?_);exact wpAny_pure ⟨y,H2,keepA (tk:=tk) (fun b o h1 _ e=>hk' b o h1 e),rd,qe hn⟩
 | cons n0 nr =>
   have hpos:0<its.toArray.size:=by rw[hsz,hn];simp
   refine wpAny_bind (wpAny_tryCatch (W.item 0 _ _ _ hpos st0 fun v h' tk hv st' hk'=>?_))
   have hS':h'.get? h3.objs.size=some { cls:=Value.type "list",data:=Data.seq #[] 0 }:=hk' _ _ (fun z=>hSf (zsz.mpr (.inl (zsx.mp z)))) hS
   refine wpAny_bind (wpAny_pure ?_);refine wpAny_bind (wpAny_updateSeq hS' rfl ?_ (by show 0<=_;omega) (by show 2<=_;omega))
   refine wpAny_pure ⟨plainId_quiet F.plain_min_loop _,?_⟩;obtain⟨c,hS2⟩:∃ c,(h'.update h3.objs.size (Obj.mapSeq fun _=>#[v,v])).get? h3.objs.size=some { cls:=Value.type "list",data:=Data.seq #[v,v] c }:=⟨_,Heap.get?_update_self _ hS' rfl⟩
   refine zcp W (fun i j=>decide ((fun i=>ns.getD i 0) i<(fun i=>ns.getD i 0) j)) (CmpOf.ints_lt (fun i=>ns.getD i 0) (fun i v hv=>Qr r' (by simpa using hv))) h3.objs.size hSf _ _ 0 _ v c rfl hpos (W.frame _ _ _ st' fun b hb o q=>(Heap.get?_update_other _ _ (fun z=>hSf (by rw[z];exact hb))).trans q) hv hS2 fun v2 h2 tk2 hP hk2=>?_
   obtain⟨h1,h2'⟩:=argBest_lt (fun i=>ns.getD i 0) (its.toArray.size-1)
   obtain⟨t,rfl⟩:=Qr r' (show its[argBest (fun i j=>decide ((fun i=>ns.getD i 0) i<(fun i=>ns.getD i 0) j)) (its.toArray.size-1)]?=some v2 by simpa using hP)
   rw[hsz] at h1 h2' ⊢
   generalize argBest (fun i j=>decide ((fun i=>ns.getD i 0) i<(fun i=>ns.getD i 0) j)) (ns.length-1)=b at h1 h2' ⊢
   have hnp:0<ns.length:=by rw[hn];simp
   have hb:b<ns.length:=by omega
   have eg:∀ (k:Nat) (hk:k<ns.length),ns.getD k 0=ns[k]'hk:=fun k hk=>by rw[ztj,zsu hk];rfl
   refine⟨.int (ns.getD b 0),H2,keepA (tk:=tk2) (fun c o h1 h2 e=>hk2 c o h1 h2 ((Heap.get?_update_other _ _ (Ne.symm h2)).trans (hk' c o h1 e))),⟨_,rfl⟩,qm _ (by rw[eg b hb];exact ztp hb) fun x hx=>?_⟩
   obtain⟨k,hk',rfl⟩:=ztr hx;have:=h2' k (by omega)
   rw[<- eg k hk'];exact this
end L2

namespace G
open PySem PySem.Spec PyProof.Rows L2
def Mw(rows:List (List Int))(gs:List V)(line:List Nat)(dep:Nat->Nat)(c:Nat):Prop :=
 (c=0/\∀ q∈line,¬ Xz rows gs q)\/(0<c/\(∃ q∈line,Xz rows gs q/\c=dep q+1)/\∀ q∈line,Xz rows gs q->c<=dep q+1)
inductive Cz(K:PySem.W.Frag)(vs:List V)(H:Hp)(Q:VK)(_:XK):Prop where
 | mk(l lg lk:Addr)(ls:List Addr)(rows:List (List Int))(gs:List V)(line:List Nat)(dep:Nat->Nat)(_:vs=[.ref l,.ref lg,.ref lk])(_:H l=some (.lst (ls.map V.ref)))(_:ILs H ls rows)(_:rows.length<=100)(_:(∀ r∈rows,r.length<=1000))(_:H lg=some (.lst gs))(_:(∀ x∈gs,oneV x))(_:H lk=some (.dK (Y8 line dep)))(_:line.Nodup)(_:(∀ q∈line,q<rows.length))(_:∀ c H',Mw rows gs line dep c->Same H H'->Q (.int ((c:Nat):Int)) H')
theorem A6(line:List Nat)(dep:Nat->Nat):((Y8 line dep).map fun kv=>kV kv.1)=Yh line:=by
 unfold Y8 Yh;rw[zua];rfl
theorem zen{ts:List V}{H:Hp}{st:List (Nat×Option Int)}{s:Nat×Option Int}(tl:Z9 H ts (st.map We))(h:st.getLast?=some s):∃ t,atI ts (-1)=some (.ref t)/\H t=some (.tup (We s)):=by
 have hne:st≠[]:=fun z=>by rw[z] at h;cases h
 have hl:ts.length=st.length:=by rw[tl.length,zst]
 have hpos:0<st.length:=List.length_pos_iff.mpr hne;rw[List.getLast?_eq_getElem?] at h
 obtain⟨t,h1,h2⟩:=zba tl h;refine⟨t,?_,h2⟩;unfold atI ixN;rw[if_neg (by decide),if_pos (by omega)]
 show ts[((-1:Int)+ts.length).toNat]?=_;rw[show ((-1:Int)+ts.length).toNat=st.length-1 by omega]
 exact h1
theorem Mw.chain{rows:List (List Int)}{gs:List V}{p e c:Nat}{line:List Nat}{dep:Nat->Nat}{st:List (Nat×Option Int)}{w:Option Int}(B:Bfs rows gs p line dep)(D:Done rows gs line dep line.length)(C:Yt rows gs p st e w)(F:Mw rows gs line dep c):(c=0/\w=none)\/(0<c/\w≠none/\st.length=c):=by
 cases w with
 | none =>
   refine .inl ⟨?_,rfl⟩;rcases F with ⟨h,_⟩|⟨_,⟨q,hq,hf,_⟩,_⟩
   ·exact h
   ·exact absurd hf ((C.none rfl).1 q _ (B.walk q hq))
 | some n =>
   obtain⟨hf,hm⟩:=C.free n rfl;have cw:=C.ch.walk;have cp:=C.ch.pos;obtain⟨el,ed⟩:=B.full D cw;rcases F with ⟨_,h⟩|⟨h0,⟨q,hq,hqf,hc⟩,hmin⟩
   ·exact absurd ⟨n,hf⟩ (h e el)
   ·refine .inr ⟨h0,(fun z=>nomatch z),?_⟩
    have h1:=hm q _ (B.walk q hq) hqf;have h2:=hmin e el ⟨n,hf⟩;omega
section
variable{rows:List (List Int)}{gs:List V}
theorem Ch.pred{q e:Nat}{st:List (Nat×Option Int)}{w:Option Int}(h:Ch rows gs q st e w):∀ q'∈st.map (·.1),q'=q\/∃ q0 n,(q0,some n)∈st/\gs[q']?=some (V.int n):=by
 induction h with
 | one q w=>intro q' hq;simp at hq;exact .inl hq
 | @step q q1 e n st w a h ih =>
   intro q' hq;rw[zs4] at hq
   rcases zsz.mp hq with z|z
   ·exact .inl z
   ·rcases ih q' z with z|⟨q0,m,h1,h2⟩
    ·exact .inr ⟨q,n,zto,by rw[z];exact a.2⟩
    ·exact .inr ⟨q0,m,ztc _ h1,h2⟩
theorem Ch.reach{q e:Nat}{st:List (Nat×Option Int)}{w:Option Int}(h:Ch rows gs q st e w):∀ q'∈st.map (·.1),∃ k,Walk rows gs q q' k:=by
 induction h with
 | one q w=>intro q' hq;simp at hq;rw[hq];exact⟨0,.nil⟩
 | @step q q1 e n st w a h ih =>
   intro q' hq;rw[zs4] at hq
   rcases zsz.mp hq with z|z
   ·rw[z];exact⟨0,.nil⟩
   ·obtain⟨k,hk⟩:=ih q' z
    exact⟨k+1,.cons a hk⟩
theorem Ch.noneLast{q e:Nat}{st:List (Nat×Option Int)}{w:Option Int}(h:Ch rows gs q st e w):∀ k,(k,none)∈st->k=e/\w=none:=by
 induction h with
 | one q w=>intro k hk;simp at hk;exact⟨hk.1,hk.2.symm⟩
 | @step q q1 e n st w a h ih =>
   intro k hk;rcases zsz.mp hk with z|z
   ·cases z
   ·exact ih k z
theorem Ch.along{R:Nat->Prop}(hs:∀ q n q',adjN rows gs q n q'->R q->R q'){q e:Nat}{st:List (Nat×Option Int)}{w:Option Int}(h:Ch rows gs q st e w):R q->R e:=by
 induction h with
 | one q w=>exact fun z=>z
 | step a h ih=>exact fun z=>ih (hs _ _ _ a z)
theorem Ch.lastMem{q e:Nat}{st:List (Nat×Option Int)}{w:Option Int}(h:Ch rows gs q st e w):(e,w)∈st:=by
 induction h with
 | one q w=>simp
 | step a h ih=>exact ztc _ ih
theorem zeo{st:List (Nat×Option Int)}(nd:(st.map (·.1)).Nodup){k:Nat}{w w':Option Int}(h:(k,w)∈st)(h':(k,w')∈st):w=w':=by
 induction st with
 | nil=>cases h
 | cons s r ih =>
   rw[zs4,ztn] at nd
   rcases zsz.mp h with z|z<;>rcases zsz.mp h' with z'|z'
   ·rw[<- z] at z';exact(Prod.mk.inj z').2.symm
   ·exact absurd (zs2.mpr ⟨_,z',by rw[<- z]⟩) nd.1
   ·exact absurd (zs2.mpr ⟨_,z,by rw[<- z']⟩) nd.1
   ·exact ih nd.2 z z'
theorem zgb{st:List (Nat×Option Int)}{xs:List V}(nd:(st.map (·.1)).Nodup){k:Nat}{w:Option Int}(h:(k,w)∈st)(hk:k<xs.length):(Yf st xs)[k]?=some (oV w):=by
 rcases Ww nd hk with ⟨h1,_⟩|⟨w',h1,h2⟩
 ·exact absurd (zs2.mpr ⟨_,h,rfl⟩) h1
 ·rw[h2,zeo nd h1 h]
theorem Ch.moved{p e:Nat}{st:List (Nat×Option Int)}{w:Option Int}(FP:Yn rows gs)(h:Ch rows gs p st e w)(hp:p<rows.length)(hn:gs[p]?=some .non)(nd:(st.map (·.1)).Nodup){q':Nat}{n:Int}(hq:gs[q']?=some (V.int n)) :
  (q'∉st.map (·.1)/\(Yf st gs)[q']?=some (V.int n))\/∃ q0,(q0,some n)∈st/\(Yf st gs)[q0]?=some (V.int n):=by
 have hl:q' < gs.length:=(zsv.mp hq).1;by_cases hm:q'∈st.map (·.1)
 ·rcases h.pred q' hm with z|⟨q0,m,h1,h2⟩
  ·rw[z,hn] at hq;cases hq
  ·rw[hq] at h2;cases h2
   refine .inr ⟨q0,h1,?_⟩;have:=h.lt FP hp _ h1;exact zgb nd h1 (by rw[FP.len];exact this)
 ·rcases Ww nd hl with ⟨_,h2⟩|⟨w',h1,_⟩
  ·exact .inl ⟨hm,by rw[h2];exact hq⟩
  ·exact absurd (zs2.mpr ⟨_,h1,rfl⟩) hm
end
section
variable{rows:List (List Int)}{gs:List V}{p e:Nat}{x:Int}{st:List (Nat×Option Int)}{w:Option Int}
def without(rows:List (List Int))(x:Int):List (List Int):=rows.map fun r=>r.filter fun n=>decide (n≠x)
theorem T5{q:Nat}{r':List Int}(h:(without rows x)[q]?=some r'):∃ r,rows[q]?=some r/\∀ n∈r',n∈r/\n≠x:=by
 unfold without at h
 rw[zs0] at h
 cases e:rows[q]? with
 | none=>rw[e] at h;cases h
 | some r =>
   rw[e] at h;cases h
   exact⟨r,rfl,fun n hn=>⟨(zt0.mp hn).1,of_decide_eq_true (zt0.mp hn).2⟩⟩
theorem Vs(FP:Yn rows gs)(hx:gs[p]?=some (.int x)):Yn (without rows x) (gs.set p .non):=FP.without hx _ fun n hn=>by
 have:=of_decide_eq_false hn;rw[Classical.not_not.mp this]
theorem zep(hx:gs[p]?=some (.int x)):(gs.set p V.non)[p]?=some .non:=by rw[ztz (zsv.mp hx).1]
theorem zbe(hx:gs[p]?=some (.int x))(h:(gs.set p V.non)[q]?=some (.int n)):gs[q]?=some (.int n)/\q≠p:=by
 by_cases e:p=q
 ·subst e;rw[zep hx] at h;cases h
 ·rw[zty e] at h;exact⟨h,Ne.symm e⟩
theorem N1{q:Nat}{n:Int}(hx:gs[p]?=some (.int x))(h:gs[q]?=some (.int n))(hn:n≠x):(gs.set p V.non)[q]?=some (.int n):=by
 rw[zty (fun z=>by subst z;rw[hx] at h;cases h;exact hn rfl)];exact h
theorem C0(FP:Yn rows gs)(SP:Uy rows gs)(hx:gs[p]?=some (.int x))(C:Yt (without rows x) (gs.set p .non) p st e w):Uy (without rows x) (Yf st (gs.set p .non)):=by
 have FP0:=Vs FP hx;have hRl:(without rows x).length=rows.length:=by unfold without;rw[zst]
 have hp:p<rows.length:=by have:=(zsv.mp hx).1;rw[FP.len] at this;exact this
 have hp0:p<(without rows x).length:=by rw[hRl];exact hp
 have nd:=C.nodup;have hpm:p∈st.map (·.1):=by obtain⟨y,r,e'⟩:=C.ch.hd;rw[e'];simp
 have moved:=fun {q':Nat} {n:Int} (hq:(gs.set p V.non)[q']?=some (V.int n))=>C.ch.moved FP0 hp0 (zep hx) nd hq
 have closedT:w=none->∀ q,(∃ k,Walk (without rows x) (gs.set p .non) p q k)->q<(without rows x).length/\∀ r,(without rows x)[q]?=some r->∀ n∈r,∃ q2,q2<e/\(Yf st (gs.set p .non))[q2]?=some (.int n)/\∃ k,Walk (without rows x) (gs.set p .non) p q2 k:=by
  rintro hw q ⟨k,hk⟩;obtain⟨c1,c2,c3⟩:=C.none hw;refine⟨?_,fun r hr n hn=>?_⟩
  ·cases hk with
   | nil=>exact hp0
   | snoc _ a =>
     have:=(zsv.mp a.2).1;rw[FP0.len] at this;exact this
  ·by_cases hf:∃ j:Nat,(gs.set p V.non)[j]?=some (V.int n)
   ·obtain⟨q1,hq1⟩:=hf
    have w1:Walk (without rows x) (gs.set p .non) p q1 (k+1):=.snoc hk ⟨⟨r,hr,hn⟩,hq1⟩;rcases moved hq1 with ⟨m1,m2⟩|⟨q0,m1,m2⟩
    ·refine⟨q1,?_,m2,_,w1⟩
     have:=c2 q1 _ w1;have hne:q1≠e:=fun z=>m1 (by rw[z];exact C.ch.last)
     omega
    ·obtain⟨k0,hk0⟩:=C.ch.reach q0 (zs2.mpr ⟨_,m1,rfl⟩)
     refine⟨q0,?_,m2,k0,hk0⟩;have:=c2 q0 _ hk0;have hne:q0≠e:=fun z=>by
      have hl:=C.ch.lastMem;rw[z] at m1
      rw[hw] at hl
      have:=zeo nd m1 hl;cases this
     omega
   ·exact absurd ⟨n,⟨r,hr,hn⟩,fun j hj=>hf ⟨j,hj⟩⟩ (c1 q k hk)
 intro p0 hpn;have hl0:p0<(gs.set p V.non).length:=by have:=(zsv.mp hpn).1;rw[Xy] at this;exact this
 rcases Ww nd hl0 with ⟨a1,a2⟩|⟨w',a1,a2⟩
 ·rw[a2] at hpn
  have hpp:p≠p0:=fun z=>a1 (by rw[<- z];exact hpm)
  rw[zty hpp] at hpn
  obtain⟨S0,hS,cl⟩:=SP p0 hpn;have inS:∀ q k,Walk rows gs p0 q k->S0 q:=fun q k hk=>by
   induction hk with
   | nil=>exact hS
   | @snoc q q' k n h a ih =>
     obtain⟨r,h1,h2⟩:=a.1;obtain⟨q'',_,h3,h4⟩:=(cl q ih).2 r h1 n h2;rw[<- FP.inj q'' q' n h3 a.2];exact h4
  have closed0:∀ q,(∃ k,Walk rows gs p0 q k)->q<rows.length/\∀ r,rows[q]?=some r->∀ n∈r,∃ q',q' < p0/\gs[q']?=some (.int n)/\∃ k,Walk rows gs p0 q' k:=by
   rintro q ⟨k,hk⟩;refine⟨(cl q (inS q k hk)).1,fun r hr n hn=>?_⟩
   obtain⟨q',h1,h2,_⟩:=(cl q (inS q k hk)).2 r hr n hn;exact⟨q',h1,h2,k+1,.snoc hk ⟨⟨r,hr,hn⟩,h2⟩⟩
  have lt0:∀ q,(∃ k,Walk rows gs p0 q k)->q=p0\/q<p0:=by
   rintro q ⟨k,hk⟩;cases hk with
   | nil=>exact .inl rfl
   | @snoc q1 _ k n h a =>
     obtain⟨r,h1,h2⟩:=a.1;obtain⟨q',h3,h4,_⟩:=(closed0 q1 ⟨k,h⟩).2 r h1 n h2;rw[<- FP.inj q' q n h4 a.2];exact .inr h3
  have along:∀ {q:Nat} {st':List (Nat×Option Int)} {w':Option Int},Ch (without rows x) (gs.set p .non) q st' e w'->(∃ k,Walk rows gs p0 q k)->∃ k,Walk rows gs p0 e k:=fun {q st' w'} hc =>
   hc.along (R:=fun q=>∃ k,Walk rows gs p0 q k) fun q n q' a ⟨k,hk⟩=>by
    obtain⟨r',h1,h2⟩:=a.1;obtain⟨r,h3,h4⟩:=T5 h1;exact⟨k+1,.snoc hk ⟨⟨r,h3,(h4 n h2).1⟩,(zbe hx a.2).1⟩⟩
  by_cases hpath:∃ q∈st.map (·.1),∃ k,Walk rows gs p0 q k
  ·obtain⟨q1,hq1,hk1⟩:=hpath
   obtain⟨st',c1,_⟩:=C.ch.drop q1 hq1;have hRe:=along c1 hk1;cases hw:w with
   | some n0 =>
     obtain⟨⟨r',f1,f2⟩,f3⟩:=(C.free n0 hw).1;obtain⟨r,g1,g2⟩:=T5 f1;obtain⟨q',_,h2,_⟩:=(closed0 e hRe).2 r g1 n0 (g2 n0 f2).1;exact absurd (N1 hx h2 (g2 n0 f2).2) (f3 q')
   | none =>
     have clT:=closedT hw;obtain⟨_,cmax,_⟩:=C.none hw;have hep:e<p0:=by
      have hfe:∃ m,gs[e]?=some (V.int m):=by
       obtain⟨s,hs,hse⟩:=zs2.mp C.ch.last;rcases C.ch.near s hs with z|⟨m,z⟩
       ·rw[<- hse,z];exact⟨x,hx⟩
       ·rw[hse] at z;exact⟨m,(zbe hx z).1⟩
      obtain⟨m,hm⟩:=hfe;rcases lt0 e hRe with z|z
      ·rw[z,hpn] at hm;cases hm
      ·exact z
     refine⟨fun q=>(∃ k,Walk rows gs p0 q k)\/∃ k,Walk (without rows x) (gs.set p .non) p q k,.inl ⟨0,.nil⟩,fun q hq=>?_⟩
     rcases hq with hq|hq
     ·refine⟨by rw[hRl];exact(closed0 q hq).1,fun r' hr' n hn=>?_⟩
      obtain⟨r,g1,g2⟩:=T5 hr';obtain⟨q',h1,h2,h3⟩:=(closed0 q hq).2 r g1 n (g2 n hn).1;rcases moved (N1 hx h2 (g2 n hn).2) with ⟨_,m2⟩|⟨q0,m1,m2⟩
      ·exact⟨q',h1,m2,.inl h3⟩
      ·obtain⟨k0,hk0⟩:=C.ch.reach q0 (zs2.mpr ⟨_,m1,rfl⟩)
       have:=cmax q0 k0 hk0;exact⟨q0,by omega,m2,.inr ⟨k0,hk0⟩⟩
     ·obtain⟨t1,t2⟩:=clT q hq
      refine⟨t1,fun r hr n hn=>?_⟩
      obtain⟨q2,h1,h2,h3⟩:=t2 r hr n hn;exact⟨q2,by omega,h2,.inr h3⟩
  ·refine⟨fun q=>∃ k,Walk rows gs p0 q k,⟨0,.nil⟩,fun q hq=>⟨by rw[hRl];exact(closed0 q hq).1,fun r' hr' n hn=>?_⟩⟩
   obtain⟨r,g1,g2⟩:=T5 hr';obtain⟨q',h1,h2,h3⟩:=(closed0 q hq).2 r g1 n (g2 n hn).1;rcases moved (N1 hx h2 (g2 n hn).2) with ⟨_,m2⟩|⟨q0,m1,m2⟩
   ·exact⟨q',h1,m2,h3⟩
   ·rcases Ww nd (show q' < (gs.set p V.non).length from(zsv.mp (N1 hx h2 (g2 n hn).2)).1) with ⟨_,b2⟩|⟨w2,b1,_⟩
    ·exact⟨q',h1,by rw[b2];exact N1 hx h2 (g2 n hn).2,h3⟩
    ·exact absurd ⟨q',zs2.mpr ⟨_,b1,rfl⟩,h3⟩ hpath
 ·rw[a2] at hpn
  cases w' with
  | some n=>cases hpn
  | none =>
    obtain⟨b1,b2⟩:=C.ch.noneLast p0 a1;subst b1;exact⟨_,⟨0+(C.ch.reach p0 (zs2.mpr ⟨_,a1,rfl⟩)).choose,by rw[Nat.zero_add];exact(C.ch.reach p0 (zs2.mpr ⟨_,a1,rfl⟩)).choose_spec⟩,closedT b2⟩
end
end G

namespace L2
open PySem PySem.Spec PyProof.Rows
section
variable{prog:Program}{w:World}{A:Around}{E:Value->Shared->Prop}{s:Shared}{T:String}{r d:Addr}{n:Nat}{P:Nat->Value->Prop}{OK:Heap->Prop}
open PySem.W in
end
end L2

namespace G
open PySem PySem.Spec PyProof.Rows L2
section
variable{α:Type}[DecidableEq α]{f:α->Key}
end
section
variable{rows:List (List Int)}{gs:List V}
structure zkd(rows:List (List Int))(gs:List V)(ps:List Nat)(rs:List Int):Prop where
 up:ps.Pairwise (· < ·)
 lt:∀ p∈ps,p<rows.length
 rup:rs.Pairwise (· < ·)
 all:∀ n,n∈rs↔∃ p∈ps,∃ r,rows[p]?=some r/\n∈r
 cnt:ps.length=rs.length+(zg1 gs).length
 nil:zg1 gs=[]->ps=[]
 gap:∀ p,gs[p]?=some .non->p∈ps
 has:∀ n∈rs,∃ p∈ps,gs[p]?=some (.int n)
def zju(x:Option V):Option Int:=match x with|some (.int n)=>some n|_=>none
end
section
variable{rows:List (List Int)}{gs:List V}{p:Nat}{line:List Nat}{dep:Nat->Nat}{fr:Nat->Option (Nat×Int)}
def byV(x:Option (Nat×Int)):V:=match x with|none=>.non|some y=>.int (y.1:Nat)
structure zkl(by_:List (Key×V))(line:List Nat)(fr:Nat->Option (Nat×Int)):Prop where
 keys:by_.map (·.1)=line.map fun q:Nat=>(Sum.inl (q:Int):Key)
 val:∀ q∈line,valV by_ (Sum.inl (q:Int):Key)=some (byV (fr q))
structure zkm(rows:List (List Int))(gs:List V)(dep:Nat->Nat)(q:Nat)(x:Int)(tl:List (Nat×Option Int))(e:Nat)(n:Int):Prop where
 ch:Ch rows gs q ((q,some x) :: tl) e (some n)
 nd:(((q,some x) :: tl).map (·.1)).Nodup
 far:∀ s∈tl,dep q<dep s.1
end
section
variable{rows:List (List Int)}{gs:List V}
def zid(rows:List (List Int))(gs:List V)(p:Nat):Prop:=∀ q k,Walk rows gs p q k->¬ Xz rows gs q
structure zjv(rows:List (List Int))(f k:Nat)(gs:List V):Prop where
 fill:Yn rows gs
 seen:∀ j,j<k->(∃ n,gs[(f+j)%rows.length]?=some (.int n))\/zid rows gs ((f+j)%rows.length)
 later:∀ p,(∀ j,j<k->(f+j)%rows.length≠p)->p<rows.length->gs[p]?=some .non
end
section
variable{rows:List (List Int)}{gs:List V}{M:List Int}
end
end G

namespace PySem
theorem Ea(f:α->β):∀ (l:List α) (j:Nat),(l.map f).eraseIdx j=(l.eraseIdx j).map f
 | [],_=>rfl
 | _ :: _,0=>rfl
 | x :: l,j+1=>by
   show f x :: (l.map f).eraseIdx j=f x :: (l.eraseIdx j).map f;rw[Ea f l j]
section
variable{prog:Program}{w:World}{K:Type}[DecidableEq K]{knd:HeapKind prog w K}{A:Around}{E:Value->Shared->Prop}{s:Shared}
theorem Ou(hu:knd.room A)(hkey:knd.is s.heap k a)(hm:s.heap.DictOfH knd d xs)(hj:xs[j]?=some (k,p))(hsz:xs.length<=sizeLine)
  (hQ:∀ h',h'.DictOfH knd d (xs.eraseIdx j)->Heap.SameBut d s.heap h'->Q (some (entryOfKey knd (k,p))) { s with heap:=h',toks:=s.toks+knd.draws k }) :
  wpAny (model prog w) A (Builtin.Dict.takeOut d (.ref a)) Q E s:=by
 obtain⟨o,es,ep,ho,hc,hd,he,his,hn⟩:=hm;unfold Builtin.Dict.takeOut
 try with_reducible refine wpAny_holding ?_
 refine wpAny_bind (knd.pyHash hu hkey (wpAny_bind (wpAny_dictFind_heap (s:={ s with toks:=s.toks+knd.draws k }) hu hkey ho hd he his hn ?_ ?_)))
 ·intro hno
  exact absurd hj (hno j p)
 ·intro j' p' hj'
  have ej:=idxH_unique hn hj' hj;subst ej;refine wpAny_bind (wpAny_dictEntries (s:={ s with toks:=s.toks+knd.draws k }) ho hd ?_)
  rw[entry_at he j',hj];refine wpAny_bind (wpAny_updateDictKeys (hz:=by have e:=size_of_entries he;omega) (s:={ s with toks:=s.toks+knd.draws k }) ho hd (wpAny_pure (hQ _ ⟨_,_,ep+1,Heap.get?_update_self _ ho (Obj.isFreed_of_dict (Obj.data_mapDictKeys hd _)),
   hc.mapDictKeys _,Obj.data_mapDictKeys hd _,?_,?_,?_⟩ (Heap.SameBut.update ..))))
  ·obtain⟨l⟩:=es
   simp only at he
   simp[he,Ea]
  ·intro x hx
   exact knd.keeps (his x (List.mem_of_mem_eraseIdx hx)) ho hd (Heap.SameBut.update ..)
  ·have:=hn.sublist (List.Sublist.map (·.1) (List.eraseIdx_sublist xs j'))
   exact this
theorem Kq(d a:Addr)(k:K) :
  MeetsIn prog w (Builtin.«dict.pop» ⟨[.ref d,.ref a],[]⟩) (fun A R s=>knd.room A.in1/\knd.is s.heap k a/\∃ xs j p,s.heap.DictOfH knd d xs/\xs.length<=sizeLine/\xs[j]?=some (k,p) /\
   ∀ h' t',h'.DictOfH knd d (xs.eraseIdx j)->Heap.SameBut d s.heap h'->R (.ok (.ret p.2)) { s with heap:=h',toks:=t' }) :=
 .of_wp fun A R s ⟨hu,hkey,xs,j,p,hm,hsz,hj,h⟩=>by
  obtain⟨o,es,ep,ho,hc,hd,he,his,hn⟩:=id hm;unfold Builtin.«dict.pop»;refine wpAny_bind ?_;unfold Builtin.Dict.keyAndDefault;refine wpAny_bind (wpAny_notOrdered_dict hm.typeIs ?_);show wpAny _ _ (pure (d,Value.ref a,none)) _ _ s;refine wpAny_pure ?_;have hp:(keyPart (Value.ref a)).isSome=false:=rfl;simp only[hp,zum,if_false];refine wpAny_bind (wpAny_dictEntries ho hd (wpAny_bind (wpAny_pure ?_)));have hne:es.isEmpty=false:=by
   have h1:=size_of_entries he;have h2:=(zsv.mp hj).1;rw[Array.isEmpty_eq_false_iff_exists_mem];exact⟨es[0]'(by omega),Array.getElem_mem _⟩
  simp only[hne,zum,if_false];refine wpAny_bind (Ou hu hkey hm hj hsz fun h' hm' hs'=>?_)
  simp only[Option.isNone_some,zum,if_false];exact wpAny_bind (wpAny_letGo (wpAny_pure ⟨p.2,rfl,h h' _ hm' hs'⟩))
end
end PySem
namespace L2
open PySem PySem.Spec PyProof.Rows
theorem KT.drop:∀ {kvs:List (List Key×V)} {xs:List (List Key×Addr×Value)},KT H kvs xs->(xs.map (·.1)).Nodup->valV kvs k=some v->∃ j p,xs[j]?=some (k,p)/\RelV v p.2/\KT H (Wb kvs k) (xs.eraseIdx j)
 | [],[],_,_,hv=>by cases hv
 | p :: kvs,q :: xs,r,nd,hv=>by
   cases r with
   | cons h t =>
     rw[zs4,ztn] at nd
     obtain⟨h1,h2,h3⟩:=h;by_cases e:p.1=k
     ·rw[Xc e] at hv
      cases hv;refine⟨0,q.2,by rw[<- e,h1];rfl,h3,?_⟩
      show KT H (Wb (p :: kvs) k) xs;have hd:Wb (p :: kvs) k=kvs:=by
       unfold Wb;rw[zuh (by simp[e])]
       rw[List.filter_eq_self];intro kv hkv;refine zsy fun z=>nd.1 ?_
       have:∀ {l:List (List Key×V)} {m:List (List Key×Addr×Value)},KT H l m->kv∈l->kv.1∈m.map (·.1):=by
        intro l m q
        induction q with
        | nil=>intro hx;cases hx
        | @cons p' q' ps qs hq t ih =>
          intro hx;rcases zsz.mp hx with z|z
          ·rw[z,hq.1];exact zto
          ·exact ztc _ (ih z)
       have h9:=this t hkv;rw[z,<- e,h1] at h9
       exact h9
      rw[hd];exact t
     ·rw[Yy e] at hv
      obtain⟨j,pp,h4,h5,h6⟩:=KT.drop t nd.2 hv;refine⟨j+1,pp,h4,h5,?_⟩;have hd:Wb (p :: kvs) k=p :: Wb kvs k:=by
       unfold Wb;rw[zui (by simp[e])]
      rw[hd];exact .cons ⟨h1,h2,h3⟩ h6
inductive zgc(ty:TE)(σ:L2.St)(Q:VK)(x:V)(H1:Hp):Prop where
 | mk(a)(_:x=.ref a)(_:IsD H1 a)(_:ty σ H1 fun y H2=>∃ (kvs:List (List Key×V)) (k:List Key) (b:Addr) (v:V),H2 a=some (.dT kvs)/\y=.ref b/\H2 b=some (.tup (k.map kV))/\valV kvs k=some v/\Q v (upd H2 a (.dT (Wb kvs k))))
def zie(td ty:TE):TE:=fun σ H Q=>td σ H fun x H1=>zgc ty σ Q x H1
theorem zeq(hu:X.A.units+1<cLine)(ho:PE X o td)(he:PE X e ty)(m:M1 X o "pop" apos e cpos):PE X (.Call (.Attribute o "pop" apos) [e] [] cpos) (zie td ty):=by
 intro pins s σ H Q I h;refine wpAny_Call_method m.base m.few m.line PySem.F.plainAttrs_dict PySem.F.slot_dict_pop PySem.F.type_dict_pop (thn (ho pins s σ H _ I h) fun u s1 ⟨x,H1,I1,rx,a,ex,d,q1⟩=>?_)
 subst ex;obtain rfl:u=Value.ref a:=rx;obtain⟨t1,t2,_⟩:=Am I1 d;refine⟨t1,t2,?_⟩;rw[m.trees];refine Calls.callWith_builtin rfl (Calls.evalArgs_plain (Calls.spliced_cons (thn (he pins s1 σ H1 _ I1 q1) fun iv s2 ⟨y,H2,I2,ry,kvs,k,b,v,ea,ey,eb,l,q2⟩=>Calls.spliced_nil ?_)))
 subst ey;cases (show iv=Value.ref b from ry)
 obtain⟨z,hd,xs,rel,dd⟩:=zgw I2.hok ea;have hz:xs.length<=sizeLine:=by rw[<- Paired.length rel];exact z
 obtain⟨j,p,hj,rv,rel'⟩:=KT.drop rel (by obtain⟨_,_,_,_,_,_,_,_,hn⟩:=dd;exact hn) l
 refine call_meetsIn PySem.F.slot_dict_pop dd.typeIs PySem.F.entry_dict_pop (PySem.F.args_dict_pop_2 _ _) (Kq (knd:=tupleKind (Yp X.prog X.w)) a b k) ⟨tupleKind_room_in1 hu,Oh I2.hok eb,xs,j,p,dd,hz,hj,fun h' t' dd' hs=>⟨v,_,?_,rv,q2⟩⟩
 obtain⟨q,es,ep,hq,h2,h3,h4,_,h5⟩:=dd';refine Nm I2 (by rw[ea];exact True.intro) hs ⟨q,hq⟩ ⟨ztb (Cf kvs k) z,hd,_,rel'.keeps fun c ys ec=>?_,q,es,ep,hq,h2,h3,h4,h5⟩
 rw[Zi (Yx ec ea (fun z=>nomatch z))]
 exact ec
end L2

namespace G
open PySem PySem.Spec PyProof.Rows L2
structure CA where
 season:Addr
 sheet:Addr
 roster:Addr
 ledger:Addr
 out:Addr
 known:Addr
 many:Addr
 unk:Addr
 manyM:Addr
 same:Addr
 noMatch:Addr
 noRound:Addr
 over:Addr
 seaOver:Addr
 away:Addr
 drawn:Addr
 notDrawn:Addr
 nothing:Addr
 manyD:Addr
theorem Tg:1000000<sizeLine:=by rw[sizeLine_eq];decide
abbrev RL:=List (Int×Int×Int)
inductive Ve(H:Hp):RL->List (Key×V)->Prop where
 | nil:Ve H [] []
 | cons {n g c:Int} {t:Addr} {R:RL} {kvs:List (Key×V)} (h:H t=some (.tup [.int g,.int c])) (r:Ve H R kvs):Ve H ((n,g,c) :: R) ((.inl n,.ref t) :: kvs)
theorem Ve.mono(k:∀ t xs,H t=some (.tup xs)->H' t=some (.tup xs)):∀ {R:RL} {kvs:List (Key×V)},Ve H R kvs->Ve H' R kvs
 | _,_,.nil=>.nil
 | _,_,.cons h r=>.cons (k _ _ h) (Ve.mono k r)
theorem Ve.length:∀ {R:RL} {kvs:List (Key×V)},Ve H R kvs->kvs.length=R.length
 | _,_,.nil=>rfl
 | _,_,.cons _ r=>by simp[Ve.length r]
theorem Ve.keys:∀ {R:RL} {kvs:List (Key×V)},Ve H R kvs->(kvs.map fun kv=>kV kv.1)=R.map fun x=>V.int x.1
 | _,_,.nil=>rfl
 | _,_,.cons _ r=>by rw[zs4,zs4,Ve.keys r];rfl
theorem Ve.snoc(h:H t=some (.tup [.int g,.int c])):∀ {R:RL} {kvs:List (Key×V)},Ve H R kvs->Ve H (R++[(n,g,c)]) (kvs++[(.inl n,.ref t)])
 | _,_,.nil=>.cons h .nil
 | _,_,.cons h' r=>.cons h' (Ve.snoc h r)
theorem Ve.val_none:∀ {R:RL} {kvs:List (Key×V)},Ve H R kvs->n∉R.map (·.1)->valV kvs (Sum.inl n:Key)=none
 | _,_,.nil,_=>rfl
 | _,_,.cons (n:=m) _ r,h=>by
   rw[zs4,zsz,not_or] at h
   rw[Yy (fun e=>h.1 (Sum.inl.inj e).symm)]
   exact Ve.val_none r h.2
theorem Ve.val_some:∀ {R:RL} {kvs:List (Key×V)},Ve H R kvs->(R.map (·.1)).Nodup->(n,g,c)∈R->∃ t,valV kvs (Sum.inl n:Key)=some (.ref t)/\H t=some (.tup [.int g,.int c])
 | _,_,.nil,_,h=>by simp at h
 | _,_,.cons (n:=m) (g:=g') (c:=c') (t:=t) ht r,nd,h=>by
   rw[zs4,ztn] at nd
   by_cases e:m=n
   ·subst e
    rcases zsz.mp h with q|q
    ·cases q
     exact⟨t,Xc rfl,ht⟩
    ·exact absurd (zs2.mpr ⟨_,q,rfl⟩) nd.1
   ·rcases zsz.mp h with q|q
    ·cases q;exact absurd rfl e
    ·obtain⟨t',h1,h2⟩:=Ve.val_some r nd.2 q
     exact⟨t',by rw[Yy (fun z=>e (Sum.inl.inj z))];exact h1,h2⟩
theorem Ve.isSome(e:Ve H R kvs)(nd:(R.map (·.1)).Nodup):(valV kvs (Sum.inl n:Key)).isSome=decide (n∈R.map (·.1)):=by
 by_cases h:n∈R.map (·.1)
 ·obtain⟨⟨m,g,c⟩,q,rfl⟩:=zs2.mp h
  obtain⟨t,h1,_⟩:=e.val_some nd q;rw[h1,zsy h];rfl
 ·rw[e.val_none h,zs8 h];rfl
theorem Ve.unsnoc:∀ {R:RL} {kvs:List (Key×V)},Ve H (R++[(n,g,c)]) kvs->n∉R.map (·.1)->Ve H R (Wb kvs (Sum.inl n))
 | [],_,.cons h .nil,_=>by
   unfold Wb;rw[zuh (by simp)];exact .nil
 | (m,g',c') :: R,_,.cons h r,hn=>by
   rw[zs4,zsz,not_or] at hn
   unfold Wb;rw[zui (by
    refine zsy fun z=>hn.1 ?_
    exact(Sum.inl.inj z).symm)]
   exact .cons h (Ve.unsnoc r hn.2)
structure Xo(C:Addr)(H:Hp)(p d:Addr)(R:RL):Prop where
 ex:∃ dx kvs,H p=some (.ins C dx [("entries",.ref d)])/\H d=some (.dK kvs)/\Ve H R kvs
 nd:(R.map (·.1)).Nodup
theorem Vf:List.lookup ("entries":Str) ([("entries",V.ref d)]:List (Str×V))=some (.ref d):=by simp only[ztu,beq_self_eq_true]
theorem Xo.no{d:Addr}{m:Str}(h:¬ m="entries"):List.lookup m ([("entries",V.ref d)]:List (Str×V))=none:=by
 have e:(m == "entries")=false:=zth.mpr h;simp only[ztu,e,List.lookup_nil]
theorem Xo.keep(h:Xo C H p d R)(kp:∀ o,H p=some o->H' p=some o)(kd:∀ o,H d=some o->H' d=some o)(kt:∀ t xs,H t=some (.tup xs)->H' t=some (.tup xs)):Xo C H' p d R:=by
 obtain⟨⟨dx,kvs,h1,h2,h3⟩,nd⟩:=h;exact⟨⟨dx,kvs,kp _ h1,kd _ h2,h3.mono kt⟩,nd⟩
theorem Xo.same(h:Xo C H p d R)(e:Same H H'):Xo C H' p d R:=h.keep (fun _ q=>e _ _ q) (fun _ q=>e _ _ q) fun _ _ q=>e _ _ q
def badI(n g c:Int):Prop:=n<1\/999<n\/g<1\/9<g\/c<1\/99<c
instance {n g c:Int}:Decidable (badI n g c):=by unfold badI;infer_instance
def A7(n g c:Int):Prop:=Y6 n/\Y6 g/\Y6 c
inductive N2(x:Addr)(vs:List V)(H:Hp)(Q:VK)(E:XK):Prop where
 | mk(v)(lo)(m)(_:vs=[.int v,.int lo,.int m])(_:Y6 v)(_:Y6 lo)(_:Y6 m)(_:(if v<lo\/m<v then E (.ref x) none H else Q .non H))
inductive zbf(ca:CA)(vs:List V)(H:Hp)(Q:VK)(_:XK):Prop where
 | mk(p)(dx)(_:vs=[.ref p])(_:H p=some (.ins ca.roster dx []))(_:∀ d,H d=none->Q .non (upd (upd H d (.dK [])) p (.ins ca.roster dx [("entries",.ref d)])))
inductive Ov(ca:CA)(vs:List V)(H:Hp)(Q:VK)(E:XK):Prop where
 | mk(p)(d)(R)(n)(g)(c)(_:vs=[.ref p,.int n,.int g,.int c])(_:Xo ca.roster H p d R)(_:A7 n g c)(_:if badI n g c then E (.ref ca.out) none H else if n∈R.map (·.1) then E (.ref ca.known) none H else if 30<=R.length then E (.ref ca.many) none H else Q .non H)
inductive Rm(ca:CA)(vs:List V)(H:Hp)(Q:VK)(E:XK):Prop where
 | mk(p)(d)(R)(n)(_:vs=[.ref p,.int n])(_:Xo ca.roster H p d R)(_:Y6 n)(_:if n∈R.map (·.1) then Q .non H else E (.ref ca.unk) none H)
inductive zer(ca:CA)(vs:List V)(H:Hp)(Q:VK)(E:XK):Prop where
 | mk(p)(d)(R)(n)(g)(c)(_:vs=[.ref p,.int n,.int g,.int c])(_:Xo ca.roster H p d R)(_:A7 n g c)(_:R.length<=1000)(_:if badI n g c then E (.ref ca.out) none H else if n∈R.map (·.1) then E (.ref ca.known) none H else if 30<=R.length then E (.ref ca.many) none H else ∀ H',Xo ca.roster H' p d (R++[(n,g,c)])->(∀ b o,H b=some o->b≠d->H' b=some o)->Q .non H')
inductive C2(ca:CA)(vs:List V)(H:Hp)(Q:VK)(_:XK):Prop where
 | mk(p)(d)(R)(n)(g)(c)(_:vs=[.ref p,.int n])(_:Xo ca.roster H p d (R++[(n,g,c)]))(_:∀ H',Xo ca.roster H' p d R->(∀ b o,H b=some o->b≠d->H' b=some o)->Q .non H')
inductive J0(ca:CA)(vs:List V)(H:Hp)(Q:VK)(_:XK):Prop where
 | mk(p)(d)(R)(_:vs=[.ref p])(_:Xo ca.roster H p d R)(_:∀ l,H l=none->Q (.ref l) (upd H l (.lst (R.map fun x=>V.int x.1))))
inductive C3(ca:CA)(vs:List V)(H:Hp)(Q:VK)(E:XK):Prop where
 | mk(p)(d)(R)(n)(_:vs=[.ref p,.int n])(_:Xo ca.roster H p d R)(_:Y6 n)(_:(n∉R.map (·.1)->E (.ref ca.unk) none H))(_:∀ g c t,(n,g,c)∈R->H t=some (.tup [.int g,.int c])->Q (.ref t) H)
inductive C4(ca:CA)(vs:List V)(H:Hp)(Q:VK)(E:XK):Prop where
 | mk(p)(d)(R)(n)(_:vs=[.ref p,.int n])(_:Xo ca.roster H p d R)(_:Y6 n)(_:(n∉R.map (·.1)->∀ H',Same H H'->E (.ref ca.unk) none H'))(_:∀ g c t H',(n,g,c)∈R->H' t=some (.tup (pV (n,g,c)))->Same H H'->H t=none->Q (.ref t) H')
structure Z3 where
 ms:List (Int×Int×Int)
 may:List (List Int)
 gv:List V
 gaps:List (Int×List (Nat×Option Int))
inductive X4(ok:Addr->Prop)(H:Hp):List V->List (Int×List (Nat×Option Int))->Prop where
 | nil:X4 ok H [] []
 | cons {t l:Addr} {n:Int} {us:List V} {st:List (Nat×Option Int)} {ts:List V} {G:List (Int×List (Nat×Option Int))} (h:H t=some (.tup [.int n,.ref l])) (hl:H l=some (.lst us)) (tl:Z9 H us (st.map We)) (o:ok l) (r:X4 ok H ts G):X4 ok H (.ref t :: ts) ((n,st) :: G)
theorem X4.keep(k:∀ x o,ok x->H x=some o->H' x=some o)(kt:∀ t xs,H t=some (.tup xs)->H' t=some (.tup xs)):∀ {ts:List V} {G:List (Int×List (Nat×Option Int))},X4 ok H ts G->X4 ok H' ts G
 | _,_,.nil=>.nil
 | _,_,.cons h hl tl o r=>.cons (kt _ _ h) (k _ _ o hl) (tl.mono kt) o (X4.keep k kt r)
theorem X4.imp(k:∀ x,(∃ o,H x=some o)->ok x->ok' x):∀ {ts:List V} {G:List (Int×List (Nat×Option Int))},X4 ok H ts G->X4 ok' H ts G
 | _,_,.nil=>.nil
 | _,_,.cons h hl tl o r=>.cons h hl tl (k _ ⟨_,hl⟩ o) (X4.imp k r)
theorem X4.length:∀ {ts:List V} {G:List (Int×List (Nat×Option Int))},X4 ok H ts G->ts.length=G.length
 | _,_,.nil=>rfl
 | _,_,.cons _ _ _ _ r=>by simp[X4.length r]
theorem X4.snoc{ok:Addr->Prop}{H:Hp}{t l:Addr}{n:Int}{us:List V}{st:List (Nat×Option Int)}(h:H t=some (.tup [.int n,.ref l]))(hl:H l=some (.lst us))(tl:Z9 H us (st.map We))(o:ok l):∀ {ts:List V} {G:List (Int×List (Nat×Option Int))},X4 ok H ts G->X4 ok H (ts++[.ref t]) (G++[(n,st)])
 | _,_,.nil=>.cons h hl tl o .nil
 | _,_,.cons h' hl' tl' o' r=>.cons h' hl' tl' o' (X4.snoc h hl tl o r)
theorem X4.get:∀ {ts:List V} {G:List (Int×List (Nat×Option Int))} {i:Nat} {x:V},X4 ok H ts G->ts[i]?=some x->∃ t l n us st,x=.ref t/\G[i]?=some (n,st)/\H t=some (.tup [.int n,.ref l])/\H l=some (.lst us)/\Z9 H us (st.map We)/\ok l
 | _,_,_,_,.nil,e=>by simp at e
 | _,_,0,_,.cons h hl tl o _,e=>by simp at e;subst e;exact⟨_,_,_,_,_,rfl,rfl,h,hl,tl,o⟩
 | _,_,i+1,x,.cons _ _ _ _ r,e=>by
   obtain⟨t,l,n,us,st,h1,h2,h3⟩:=X4.get (i:=i) (x:=x) r (by simpa using e)
   exact⟨t,l,n,us,st,h1,by simpa using h2,h3⟩
def shF(l1 l2 l3 l4:Addr):List (Str×V):=[("listed",.ref l1),("lists",.ref l2),("given",.ref l3),("gaps",.ref l4)]
structure ShAt(C:Addr)(ok:Addr->Prop)(H:Hp)(q:Addr)(s:Z3):Prop where
 ex:∃ dx l1 l2 l3 l4 ts ls gts,H q=some (.ins C dx (shF l1 l2 l3 l4))/\H l1=some (.lst ts)/\Z9 H ts (s.ms.map pV)/\H l2=some (.lst (ls.map V.ref))/\ILs H ls s.may/\H l3=some (.lst s.gv)/\H l4=some (.lst gts)/\X4 ok H gts s.gaps/\(ok q/\ok l1/\ok l2/\ok l3/\ok l4/\∀ x∈ls,ok x)
theorem ShAt.keep(h:ShAt C ok H q s)(k:∀ x o,ok x->H x=some o->H' x=some o)(kt:∀ t xs,H t=some (.tup xs)->H' t=some (.tup xs)):ShAt C ok H' q s:=by
 obtain⟨dx,l1,l2,l3,l4,ts,ls,gts,a1,a2,a3,a4,a5,a6,a7,a8,o1,o2,o3,o4,o5,o6⟩:=h;exact⟨dx,l1,l2,l3,l4,ts,ls,gts,k _ _ o1 a1,k _ _ o2 a2,a3.mono kt,k _ _ o3 a4,a5.keep fun x hx o q=>k _ _ (o6 x hx) q,k _ _ o4 a6,k _ _ o5 a7,a8.keep k kt,o1,o2,o3,o4,o5,o6⟩
theorem ShAt.imp(h:ShAt C ok H q s)(k:∀ x,(∃ o,H x=some o)->ok x->ok' x):ShAt C ok' H q s:=by
 obtain⟨dx,l1,l2,l3,l4,ts,ls,gts,a1,a2,a3,a4,a5,a6,a7,a8,o1,o2,o3,o4,o5,o6⟩:=h;exact⟨dx,l1,l2,l3,l4,ts,ls,gts,a1,a2,a3,a4,a5,a6,a7,a8.imp k,k _ ⟨_,a1⟩ o1,k _ ⟨_,a2⟩ o2,k _ ⟨_,a4⟩ o3,k _ ⟨_,a6⟩ o4,k _ ⟨_,a7⟩ o5,fun x hx=>k _ (let ⟨_,z⟩:=a5.has hx;⟨_,z⟩) (o6 x hx)⟩
theorem ShAt.same(h:ShAt C ok H q s)(e:Same H H'):ShAt C ok H' q s:=h.keep (fun _ _ _ q=>e _ _ q) fun _ _ q=>e _ _ q
def ShO(C:Addr)(ok:Addr->Prop)(H:Hp)(v:V)(s:Option Z3):Prop:=match s with|none=>v=.non|some s=>∃ q,v=.ref q/\ShAt C ok H q s
theorem ShO.keep(h:ShO C ok H v s)(k:∀ x o,ok x->H x=some o->H' x=some o)(kt:∀ t xs,H t=some (.tup xs)->H' t=some (.tup xs)):ShO C ok H' v s:=by
 cases s with
 | none=>exact h
 | some s=>obtain⟨q,e,h⟩:=h;exact⟨q,e,h.keep k kt⟩
theorem ShO.imp(h:ShO C ok H v s)(k:∀ x,(∃ o,H x=some o)->ok x->ok' x):ShO C ok' H v s:=by
 cases s with
 | none=>exact h
 | some s=>obtain⟨q,e,h⟩:=h;exact⟨q,e,h.imp k⟩
inductive ShL(C:Addr)(ok:Addr->Prop)(H:Hp):List V->List Z3->Prop where
 | nil:ShL C ok H [] []
 | cons {q:Addr} {s:Z3} {vs:List V} {ss:List Z3} (h:ShAt C ok H q s) (r:ShL C ok H vs ss):ShL C ok H (.ref q :: vs) (s :: ss)
theorem ShL.keep(k:∀ x o,ok x->H x=some o->H' x=some o)(kt:∀ t xs,H t=some (.tup xs)->H' t=some (.tup xs)):∀ {vs:List V} {ss:List Z3},ShL C ok H vs ss->ShL C ok H' vs ss
 | _,_,.nil=>.nil
 | _,_,.cons h r=>.cons (h.keep k kt) (ShL.keep k kt r)
theorem ShL.imp(k:∀ x,(∃ o,H x=some o)->ok x->ok' x):∀ {vs:List V} {ss:List Z3},ShL C ok H vs ss->ShL C ok' H vs ss
 | _,_,.nil=>.nil
 | _,_,.cons h r=>.cons (h.imp k) (ShL.imp k r)
theorem ShL.length:∀ {vs:List V} {ss:List Z3},ShL C ok H vs ss->vs.length=ss.length
 | _,_,.nil=>rfl
 | _,_,.cons _ r=>by simp[ShL.length r]
theorem ShL.snoc(h:ShAt C ok H q s):∀ {vs:List V} {ss:List Z3},ShL C ok H vs ss->ShL C ok H (vs++[.ref q]) (ss++[s])
 | _,_,.nil=>.cons h .nil
 | _,_,.cons h' r=>.cons h' (ShL.snoc h r)
theorem ShL.getR:∀ {vs:List V} {ss:List Z3} {i:Nat} {s:Z3},ShL C ok H vs ss->ss[i]?=some s->∃ q,vs[i]?=some (.ref q)/\ShAt C ok H q s
 | _,_,_,_,.nil,e=>by simp at e
 | _,_,0,_,.cons h _,e=>by simp at e;subst e;exact⟨_,rfl,h⟩
 | _,_,i+1,x,.cons _ r,e=>by
   obtain⟨t,h1,h2⟩:=ShL.getR (i:=i) (s:=x) r (by simpa using e)
   exact⟨t,by simpa using h1,h2⟩
abbrev S8:=Str×Int×Int
def Oa(d:S8):List V:=[.str d.1,.int d.2.1,.int d.2.2]
inductive Uz(C:Addr)(ok:Addr->Prop)(H:Hp):List V->List (S8×Option Z3)->Prop where
 | nil:Uz C ok H [] []
 | cons {t u:Addr} {v:V} {d:S8} {s:Option Z3} {vs:List V} {ss:List (S8×Option Z3)} (h:H t=some (.tup [.ref u,v])) (hu:H u=some (.tup (Oa d))) (hs:ShO C ok H v s) (r:Uz C ok H vs ss):Uz C ok H (.ref t :: vs) ((d,s) :: ss)
theorem Uz.keep(k:∀ x o,ok x->H x=some o->H' x=some o)(kt:∀ t xs,H t=some (.tup xs)->H' t=some (.tup xs)):∀ {vs:List V} {ss:List (S8×Option Z3)},Uz C ok H vs ss->Uz C ok H' vs ss
 | _,_,.nil=>.nil
 | _,_,.cons h hu hs r=>.cons (kt _ _ h) (kt _ _ hu) (hs.keep k kt) (Uz.keep k kt r)
theorem Uz.length:∀ {vs:List V} {ss:List (S8×Option Z3)},Uz C ok H vs ss->vs.length=ss.length
 | _,_,.nil=>rfl
 | _,_,.cons _ _ _ r=>by simp[Uz.length r]
theorem Uz.snoc(h:H t=some (.tup [.ref u,v]))(hu:H u=some (.tup (Oa d)))(hs:ShO C ok H v s):∀ {vs:List V} {ss:List (S8×Option Z3)},Uz C ok H vs ss->Uz C ok H (vs++[.ref t]) (ss++[(d,s)])
 | _,_,.nil=>.cons h hu hs .nil
 | _,_,.cons h' hu' hs' r=>.cons h' hu' hs' (Uz.snoc h hu hs r)
theorem Uz.unsnoc:∀ {vs:List V} {ss:List (S8×Option Z3)},Uz C ok H vs (ss++[(d,s)])->∃ vs' t u v,vs=vs'++[.ref t]/\H t=some (.tup [.ref u,v])/\H u=some (.tup (Oa d))/\ShO C ok H v s/\Uz C ok H vs' ss
 | _,[],.cons h hu hs .nil=>⟨[],_,_,_,rfl,h,hu,hs,.nil⟩
 | _,_ :: _,.cons h hu hs r=>by
   obtain⟨vs',t,u,v,e,a1,a2,a3,a4⟩:=Uz.unsnoc r;exact⟨_ :: vs',t,u,v,by rw[e];rfl,a1,a2,a3,.cons h hu hs a4⟩
structure Sea where
 len:Nat
 rest:Nat
 ppl:RL
 led:List (List Row)
 out:List (Int×Int)
 old:List Z3
 cur:Option Z3
 std:List (S8×Option Z3)
structure SAd where
 p:Addr
 pr:Addr
 dr:Addr
 pl:Addr
 lr:Addr
 ld:Addr
 da:Addr
 ls:Addr
 lt:Addr
def SAd.fp(A:SAd):List Addr:=[A.p,A.dr,A.lr,A.ld,A.da,A.ls,A.lt]
def seaF(A:SAd)(len rest:Nat)(v:V):List (Str×V):=[("length",.int len),("rest",.int rest),("roster",.ref A.pr),("ledger",.ref A.pl),("absent",.ref A.da),("sheets",.ref A.ls),("sheet",v),("standing",.ref A.lt)]
def Qs(kvs:List (List Key×V))(out:List (Int×Int)):Prop:=(∀ at_ n:Int,(valV kvs [Sum.inl at_,Sum.inl n]).isSome=decide ((at_,n)∈out))/\kvs.length<=out.length
structure Zy(ca:CA)(H:Hp)(A:SAd)(S:Sea):Prop where
 obj:∃ dx v,H A.p=some (.ins ca.season dx (seaF A S.len S.rest v))/\ShO ca.sheet (·∉A.fp) H v S.cur
 ros:Xo ca.roster H A.pr A.dr S.ppl
 led:Ut ca.ledger H A.pl A.lr A.ld S.led
 out:∃ kvs,H A.da=some (.dT kvs)/\Qs kvs S.out
 old:∃ vs,H A.ls=some (.lst vs)/\ShL ca.sheet (·∉A.fp) H vs S.old
 std:∃ vs,H A.lt=some (.lst vs)/\Uz ca.sheet (·∉A.fp) H vs S.std
 nd:A.fp.Nodup
 np:A.pr∉A.fp/\A.pl∉A.fp
def FrS(A:SAd)(H H':Hp):Prop:=∀ b o,H b=some o->b∉A.fp->H' b=some o
end G

namespace L2
open PySem PySem.Spec PyProof.Rows
theorem C5{X:Cx}{K:PySem.W.Frag}(hK:X.K=K):OpR X (binaryOp .Add) (zgx K):=hK▸zfz
end L2
namespace G
open PySem PySem.Spec PyProof.Rows L2
theorem it2{p:Prop}[Decidable p]{A B A' B':Prop}(h:if p then A else B)(h1:p->A->A')(h2:¬ p->B->B'):if p then A' else B':=by
 by_cases z:p
 ·rw[if_pos z] at h ⊢;exact h1 z h
 ·rw[if_neg z] at h ⊢;exact h2 z h
theorem zcq{κ:Type}[DecidableEq κ]{kvs:List (κ×V)}{k:κ}{v:V}(h:valV kvs k=none):putK kvs k v=kvs++[(k,v)]:=by
 unfold putK;rw[if_neg];intro z;rw[S4,h] at z
 cases z
inductive C6(C:Addr)(vs:List V)(H:Hp)(Q:VK)(_:XK):Prop where
 | mk(p lr ld:Addr)(Rs:List (List Row))(b:Addr)(ts:List V)(rs:List Row)(_:vs=[.ref p,.ref b])(_:Ut C H p lr ld Rs)(_:H b=some (.lst ts))(_:b≠lr)(_:Z9 H ts (rs.map E1))(_:2*(tot Rs+rs.length)<=100000)(_:Rs.length<=1000)(_:∀ H',Ut C H' p lr ld (Rs++[rs])->(∀ b o,H b=some o->b≠lr->b≠ld->H' b=some o)->Q .non H')
def zbg(ok:Addr->Prop)(H:Hp):Prop:=∀ x,H x=none->ok x
inductive N3(ca:CA)(vs:List V)(H:Hp)(Q:VK)(_:XK):Prop where
 | mk(q)(dx)(l1)(l2)(l3)(l4)(_:vs=[.ref q,.ref l1,.ref l2,.ref l3,.ref l4])(_:H q=some (.ins ca.sheet dx []))(_:∀ H',H'=upd H q (.ins ca.sheet dx (shF l1 l2 l3 l4))->Q .non H')
theorem Pk:List.lookup ("listed":Str) (shF l1 l2 l3 l4)=some (.ref l1):=by unfold shF;simp only[ztu,beq_self_eq_true]
theorem Qt:List.lookup ("given":Str) (shF l1 l2 l3 l4)=some (.ref l3):=by
 have e:(("given":Str) == "listed")=false:=by decide +kernel
 have e2:(("given":Str) == "lists")=false:=by decide +kernel
 unfold shF;simp only[ztu,e,e2,beq_self_eq_true]
theorem E5:List.lookup ("gaps":Str) (shF l1 l2 l3 l4)=some (.ref l4):=by
 have e:(("gaps":Str) == "listed")=false:=by decide +kernel
 have e2:(("gaps":Str) == "lists")=false:=by decide +kernel
 have e3:(("gaps":Str) == "given")=false:=by decide +kernel
 unfold shF;simp only[ztu,e,e2,e3,beq_self_eq_true]
theorem Sf{l1 l2 l3 l4:Addr}{m:Str}(h1:¬ m="listed")(h2:¬ m="lists")(h3:¬ m="given")(h4:¬ m="gaps"):List.lookup m (shF l1 l2 l3 l4)=none:=by
 have e1:(m == "listed")=false:=zth.mpr h1;have e2:(m == "lists")=false:=zth.mpr h2;have e3:(m == "given")=false:=zth.mpr h3;have e4:(m == "gaps")=false:=zth.mpr h4;unfold shF;simp only[ztu,e1,e2,e3,e4,List.lookup_nil]
theorem zke:putF "lists" y [(("listed":Str),x)]=([("listed",x),("lists",y)]:List (Str×V)):=by
 have n1:¬ (("listed":Str)="lists"):=by decide +kernel
 simp only[putF,if_neg n1]
theorem zkf:putF "given" z [(("listed":Str),x),("lists",y)]=([("listed",x),("lists",y),("given",z)]:List (Str×V)):=by
 have n1:¬ (("listed":Str)="given"):=by decide +kernel
 have n2:¬ (("lists":Str)="given"):=by decide +kernel
 simp only[putF,if_neg n1,if_neg n2]
theorem zkg:putF "gaps" w [(("listed":Str),x),("lists",y),("given",z)]=([("listed",x),("lists",y),("given",z),("gaps",w)]:List (Str×V)):=by
 have n1:¬ (("listed":Str)="gaps"):=by decide +kernel
 have n2:¬ (("lists":Str)="gaps"):=by decide +kernel
 have n3:¬ (("given":Str)="gaps"):=by decide +kernel
 simp only[putF,if_neg n1,if_neg n2,if_neg n3]
theorem Ow(hq:H1 q=none)(hdx:H1 dx=none)(ne:dx≠q):Same H1 (upd (upd (upd H1 dx (.own q)) q (.ins C dx [])) q (.ins C dx (shF l1 l2 l3 l4)))/\upd (upd (upd H1 dx (.own q)) q (.ins C dx [])) q (.ins C dx (shF l1 l2 l3 l4)) q=some (.ins C dx (shF l1 l2 l3 l4)):=by
 refine⟨fun b o e=>?_,Zc⟩
 rw[Zi (Zh e hq),Zi (Zh e hq),Zi (Zh e hdx)];exact e
inductive C7(ca:CA)(vs:List V)(H:Hp)(Q:VK)(_:XK):Prop where
 | mk(ok:Addr->Prop)(q l2:Addr)(ls:List Addr)(rows:List (List Int))(s:Z3)(_:vs=[.ref q,.ref l2])(_:ShAt ca.sheet ok H q s)(_:H l2=some (.lst (ls.map V.ref)))(_:ILs H ls rows)(_:ok l2)(_:(∀ x∈ls,ok x))(_:zbg ok H)(_:∀ q' H',ShAt ca.sheet ok H' q' { s with may:=rows }->Same H H'->H q'=none->Q (.ref q') H')
inductive C8(ca:CA)(vs:List V)(H:Hp)(Q:VK)(_:XK):Prop where
 | mk(ok:Addr->Prop)(q l2:Addr)(ls:List Addr)(rows:List (List Int))(nu:List Int)(s:Z3)(n:Int)(p:Nat)(_:vs=[.ref q,.int n,.ref l2])(_:ShAt ca.sheet ok H q s)(_:H l2=some (.lst (ls.map V.ref)))(_:ILs H ls rows)(_:ok l2)(_:(∀ x∈ls,ok x))(_:zbg ok H)(_:R4 rows nu)(_:(∀ x∈s.gv,oneV x))(_:s.gv[p]?=some (.int n))(_:(∀ j:Nat,s.gv[j]?=some (.int n)->j=p))(_:Yn rows (s.gv.set p .non))(_:s.gaps.length<=1000)(_:∀ q' st e w H',ShAt ca.sheet ok H' q' ⟨s.ms,rows,Yf st (s.gv.set p .non),s.gaps++[(n,st)]⟩->Yt rows (s.gv.set p .non) p st e w->Same H H'->H q'=none->Q (.ref q') H')
inductive zbh(ca:CA)(vs:List V)(H:Hp)(Q:VK)(_:XK):Prop where
 | mk(ok:Addr->Prop)(l1 l2:Addr)(ts:List V)(ls:List Addr)(ms:List (Int×Int×Int))(rows:List (List Int))(nu:List Int)(_:vs=[.ref l1,.ref l2])(_:H l1=some (.lst ts))(_:Z9 H ts (ms.map pV))(_:H l2=some (.lst (ls.map V.ref)))(_:ILs H ls rows)(_:ok l1)(_:ok l2)(_:(∀ x∈ls,ok x))(_:zbg ok H)(_:R4 rows nu)(_:∀ q gv H',ShAt ca.sheet ok H' q ⟨ms,rows,gv,[]⟩->Yn rows gv->Uy rows gv->Same H H'->H q=none->Q (.ref q) H')
inductive Kb(ca:CA)(vs:List V)(H:Hp)(Q:VK)(_:XK):Prop where
 | mk(ok:Addr->Prop)(q:Addr)(s:Z3)(_:vs=[.ref q])(_:ShAt ca.sheet ok H q s)(_:∀ l ts H',H' l=some (.lst ts)->Z9 H' ts (s.ms.map pV)->Same H H'->H l=none->Q (.ref l) H')
inductive J1(ca:CA)(vs:List V)(H:Hp)(Q:VK)(_:XK):Prop where
 | mk(ok:Addr->Prop)(q:Addr)(s:Z3)(_:vs=[.ref q])(_:ShAt ca.sheet ok H q s)(_:∀ l H',H' l=some (.lst s.gv)->Same H H'->H l=none->Q (.ref l) H')
inductive Mx(ca:CA)(vs:List V)(H:Hp)(Q:VK)(_:XK):Prop where
 | mk(ok:Addr->Prop)(q:Addr)(s:Z3)(n:Int)(_:vs=[.ref q,.int n])(_:ShAt ca.sheet ok H q s)(_:(∀ x∈s.gv,oneV x))(_:s.gv.length<=100)(_:∀ H',Same H H'->Q (oN (X1 s.gv n)) H')
def C9(m:Int×Int×Int)(x:V):Row:=⟨m.1,m.2.1,m.2.2,zju (some x)⟩
def Yb(s:Z3):List Row:=List.zipWith C9 s.ms s.gv
inductive Ba(ca:CA)(vs:List V)(H:Hp)(Q:VK)(_:XK):Prop where
 | mk(ok:Addr->Prop)(q:Addr)(s:Z3)(_:vs=[.ref q])(_:ShAt ca.sheet ok H q s)(_:(∀ x∈s.gv,oneV x))(_:s.gv.length=s.ms.length)(_:s.ms.length<=1000)(_:∀ l ts H',H' l=some (.lst ts)->Z9 H' ts ((Yb s).map E1)->Same H H'->H l=none->Q (.ref l) H')
inductive Ox(ca:CA)(vs:List V)(H:Hp)(Q:VK)(_:XK):Prop where
 | mk(ok:Addr->Prop)(q:Addr)(s:Z3)(_:vs=[.ref q])(_:ShAt ca.sheet ok H q s)(_:s.gaps.length<=1000)(_:∀ l ts H',H' l=some (.lst ts)->X4 (fun x=>H x=none/\x≠l) H' ts s.gaps->Same H H'->H l=none->Q (.ref l) H')
theorem A8{K:PySem.W.Frag}{a:Addr}{xs:List V}{xo:List Str}{js:List Nat}{g:TG}{tt:TT}{te:TE}{σ:L2.St}{H:Hp}{Q:VK}(Pv:Nat->List V->Hp->Prop)(h0:Pv 0 [] H)(hl:∀ i ys H,i<=xs.length->Pv i ys H->SqL K H a xs)(hz:xs.length<=sizeLine)(hy:∀ i ys H,Pv i ys H->ys.length<=i)
  (hs:∀ i x ys H,xs[i]?=some x->Pv i ys H->g x (cs0 xo js σ) H fun σ2 H1=>Pj xo js σ σ2/\tt σ2 H1 fun b H2=>if b=true then te σ2 H2 fun y H3=>Pv (i+1) (ys++[y]) H3 else Pv (i+1) ys H2)
  (hd:∀ ys H,Pv xs.length ys H->∀ p,H p=none->Q (.ref p) (upd H p (.lst ys))):A0 (Itl K a) xo js g tt te σ H Q:=by
 refine⟨fun i m ys H=>m=xs.length-i/\i<=xs.length/\Pv i ys H,⟨xs.length,by simp,ztm _,h0⟩,?_⟩
 rintro i m ys H ⟨rfl,hi,p⟩;have q:=hl i ys H hi p;have ly:=hy i ys H p;by_cases hlt:i<xs.length
 ·refine .inr ⟨⟨xs,xs[i],q,by simp[hlt]⟩,by omega,Pv (i+1),fun ys' H' p'=>⟨xs.length-(i+1),by omega,rfl,hlt,p'⟩,fun x H' y=>?_⟩
  obtain⟨e,y⟩:=y;subst e;exact hs i x ys _ (y xs q) p
 ·have e:i=xs.length:=by omega
  subst e;exact .inl ⟨⟨xs,q,zs3 _⟩,by omega,hd ys H p⟩
theorem zcr{K:PySem.W.Frag}{a b:Addr}{xs zs:List V}{xo:List Str}{js:List Nat}{g:TG}{tt:TT}{te:TE}{σ:L2.St}{H:Hp}{Q:VK}(Pv:Nat->List V->Hp->Prop)(h0:Pv 0 [] H)(he:xs.length=zs.length)(hl:∀ i ys H,i<=xs.length->Pv i ys H->SqL K H a xs/\SqL K H b zs)(hz:xs.length<=sizeLine)(hy:∀ i ys H,Pv i ys H->ys.length<=i)
  (hs:∀ i x z t ys H,xs[i]?=some x->zs[i]?=some z->Pv i ys H->H t=none->g (.ref t) (cs0 xo js σ) (upd H t (.tup [x,z])) fun σ2 H1=>Pj xo js σ σ2/\tt σ2 H1 fun b H2=>if b=true then te σ2 H2 fun y H3=>Pv (i+1) (ys++[y]) H3 else Pv (i+1) ys H2)
  (hd:∀ ys H,Pv xs.length ys H->∀ p,H p=none->Q (.ref p) (upd H p (.lst ys))):A0 (Itz K a b) xo js g tt te σ H Q:=by
 refine⟨fun i m ys H=>m=xs.length-i/\i<=xs.length/\Pv i ys H,⟨xs.length,by simp,ztm _,h0⟩,?_⟩
 rintro i m ys H ⟨rfl,hi,p⟩;obtain⟨q1,q2⟩:=hl i ys H hi p;have ly:=hy i ys H p;by_cases hlt:i<xs.length
 ·refine .inr ⟨⟨xs,zs,xs[i],zs[i]'(by omega),q1,q2,by simp[hlt],by rw[zsu (by omega)]⟩,by omega,Pv (i+1),fun ys' H' p'=>⟨xs.length-(i+1),by omega,rfl,hlt,p'⟩,fun x H' y=>?_⟩
  obtain⟨t,y,z,h1,h2,h3,rfl,rfl⟩:=y;exact hs i y z t ys _ (h2 xs q1) (h3 zs q2) p h1
 ·have e:i=xs.length:=by omega
  subst e;exact .inl ⟨⟨xs,zs,q1,q2,.inl (zs3 _)⟩,by omega,hd ys H p⟩
theorem zif(m:Int×Int×Int)(h:oneV x):E1 (C9 m x)=[V.int m.1,V.int m.2.1,V.int m.2.2,x]:=by
 rcases h with rfl|⟨i,rfl⟩<;>rfl
theorem zcs(hm:s.ms[i]?=some m)(hx:s.gv[i]?=some x):(Yb s).take (i+1)=(Yb s).take i++[C9 m x]:=by
 have:(Yb s)[i]?=some (C9 m x):=by
  unfold Yb;rw[List.getElem?_zipWith,hm,hx]
 rw[zt8,this];rfl
theorem Bb(h:s.gv.length=s.ms.length):(Yb s).length=s.ms.length:=by
 unfold Yb;rw[List.length_zipWith,h,Nat.min_self]
section
variable{ca:CA}{H H':Hp}{A:SAd}{S:Sea}{l:Nat}{r:Nat}{v:V}
theorem Bc(A:SAd)(l r:Nat)(v:V):List.lookup ("length":Str) (seaF A l r v)=some (.int l)/\List.lookup ("rest":Str) (seaF A l r v)=some (.int r)/\List.lookup ("roster":Str) (seaF A l r v)=some (.ref A.pr)/\List.lookup ("ledger":Str) (seaF A l r v)=some (.ref A.pl)/\List.lookup ("absent":Str) (seaF A l r v)=some (.ref A.da)/\List.lookup ("sheets":Str) (seaF A l r v)=some (.ref A.ls)/\List.lookup ("sheet":Str) (seaF A l r v)=some v/\List.lookup ("standing":Str) (seaF A l r v)=some (.ref A.lt):=by
 have d:∀ a b:Str,decide (a=b)=false->(a == b)=false:=fun a b h=>zth.mpr (of_decide_eq_false h)
 have e1:=d "rest" "length" (by decide +kernel)
 have e2:=d "roster" "length" (by decide +kernel)
 have e3:=d "roster" "rest" (by decide +kernel)
 have f1:=d "ledger" "length" (by decide +kernel)
 have f2:=d "ledger" "rest" (by decide +kernel)
 have f3:=d "ledger" "roster" (by decide +kernel)
 have g1:=d "absent" "length" (by decide +kernel)
 have g2:=d "absent" "rest" (by decide +kernel)
 have g3:=d "absent" "roster" (by decide +kernel)
 have g4:=d "absent" "ledger" (by decide +kernel)
 have h1:=d "sheets" "length" (by decide +kernel)
 have h2:=d "sheets" "rest" (by decide +kernel)
 have h3:=d "sheets" "roster" (by decide +kernel)
 have h4:=d "sheets" "ledger" (by decide +kernel)
 have h5:=d "sheets" "absent" (by decide +kernel)
 have i1:=d "sheet" "length" (by decide +kernel)
 have i2:=d "sheet" "rest" (by decide +kernel)
 have i3:=d "sheet" "roster" (by decide +kernel)
 have i4:=d "sheet" "ledger" (by decide +kernel)
 have i5:=d "sheet" "absent" (by decide +kernel)
 have i6:=d "sheet" "sheets" (by decide +kernel)
 have j1:=d "standing" "length" (by decide +kernel)
 have j2:=d "standing" "rest" (by decide +kernel)
 have j3:=d "standing" "roster" (by decide +kernel)
 have j4:=d "standing" "ledger" (by decide +kernel)
 have j5:=d "standing" "absent" (by decide +kernel)
 have j6:=d "standing" "sheets" (by decide +kernel)
 have j7:=d "standing" "sheet" (by decide +kernel)
 unfold seaF;refine⟨?_,?_,?_,?_,?_,?_,?_,?_⟩<;>simp only[ztu,beq_self_eq_true,e1,e2,e3,f1,f2,f3,g1,g2,g3,g4,h1,h2,h3,h4,h5,i1,i2,i3,i4,i5,i6,j1,j2,j3,j4,j5,j6,j7]
theorem Eb:List.lookup ("length":Str) (seaF A l r v)=some (.int l):=(Bc A l r v).1
theorem zgd:List.lookup ("rest":Str) (seaF A l r v)=some (.int r):=(Bc A l r v).2.1
theorem Uc:List.lookup ("roster":Str) (seaF A l r v)=some (.ref A.pr):=(Bc A l r v).2.2.1
theorem Tb:List.lookup ("ledger":Str) (seaF A l r v)=some (.ref A.pl):=(Bc A l r v).2.2.2.1
theorem Pl:List.lookup ("absent":Str) (seaF A l r v)=some (.ref A.da):=(Bc A l r v).2.2.2.2.1
theorem Ec:List.lookup ("sheets":Str) (seaF A l r v)=some (.ref A.ls):=(Bc A l r v).2.2.2.2.2.1
theorem Wx:List.lookup ("sheet":Str) (seaF A l r v)=some v:=(Bc A l r v).2.2.2.2.2.2.1
theorem T6:List.lookup ("standing":Str) (seaF A l r v)=some (.ref A.lt):=(Bc A l r v).2.2.2.2.2.2.2
theorem Yi(h:(["length","rest","roster","ledger","absent","sheets","sheet","standing"]:List Str).all (fun x=>!decide (m=x))=true):List.lookup m (seaF A l r v)=none:=by
 simp only[List.all_cons,List.all_nil,Bool.and_true,zt6,Bool.not_eq_true',decide_eq_false_iff_not] at h
 obtain⟨h1,h2,h3,h4,h5,h6,h7,h8⟩:=h;have e:∀ x:Str,¬ m=x->(m == x)=false:=fun x z=>zth.mpr z
 unfold seaF;simp only[ztu,e _ h1,e _ h2,e _ h3,e _ h4,e _ h5,e _ h6,e _ h7,e _ h8,List.lookup_nil]
theorem Zy.same(h:Zy ca H A S)(e:Same H H'):Zy ca H' A S:=by
 obtain⟨⟨dx,v,a1,a2⟩,b,c,⟨kvs,d1,d2⟩,⟨vs,f1,f2⟩,⟨us,g1,g2⟩,nd,np⟩:=h;have k:∀ x o,x∉A.fp->H x=some o->H' x=some o:=fun _ _ _ q=>e _ _ q
 have kt:∀ t xs,H t=some (.tup xs)->H' t=some (.tup xs):=fun _ _ q=>e _ _ q
 exact⟨⟨dx,v,e _ _ a1,a2.keep k kt⟩,b.same e,c.same e,⟨kvs,e _ _ d1,d2⟩,⟨vs,e _ _ f1,f2.keep k kt⟩,⟨us,e _ _ g1,g2.keep k kt⟩,nd,np⟩
theorem FrS.of(A:SAd)(e:Same H H'):FrS A H H':=fun b o q _=>e b o q
theorem FrS.trans(h1:FrS A H H')(h2:FrS A H' H2):FrS A H H2:=fun b o e n=>h2 b o (h1 b o e n) n
theorem Zy.there(h:Zy ca H A S):∀ x∈A.fp,∃ o,H x=some o:=by
 obtain⟨⟨dx,v,a1,_⟩,⟨⟨_,_,_,b2,_⟩,_⟩,⟨_,⟨rs,c2,_⟩,⟨ks,c3,_⟩⟩,⟨kvs,d1,_⟩,⟨vs,f1,_⟩,⟨us,g1,_⟩,nd,np⟩:=h;intro x hx;simp only[SAd.fp,zsz,zt2,or_false] at hx
 rcases hx with rfl|rfl|rfl|rfl|rfl|rfl|rfl
 ·exact⟨_,a1⟩
 ·exact⟨_,b2⟩
 ·exact⟨_,c2⟩
 ·exact⟨_,c3⟩
 ·exact⟨_,d1⟩
 ·exact⟨_,f1⟩
 ·exact⟨_,g1⟩
theorem Zy.newOk(h:Zy ca H A S):zbg (·∉A.fp) H:=fun x hx hm=>by
 obtain⟨o,e⟩:=h.there x hm;rw[e] at hx;cases hx
theorem Zy.tups(h:Zy ca H A S)(f:FrS A H H'):∀ t xs,H t=some (.tup xs)->H' t=some (.tup xs):=fun t xs e=>f t _ e fun hm=>by
 obtain⟨⟨dx,v,a1,_⟩,⟨⟨_,_,_,b2,_⟩,_⟩,⟨_,⟨rs,c2,_⟩,⟨ks,c3,_⟩⟩,⟨kvs,d1,_⟩,⟨vs,f1,_⟩,⟨us,g1,_⟩,nd,np⟩:=h;simp only[SAd.fp,zsz,zt2,or_false] at hm
 rcases hm with rfl|rfl|rfl|rfl|rfl|rfl|rfl
 ·rw[a1] at e;cases e
 ·rw[b2] at e;cases e
 ·rw[c2] at e;cases e
 ·rw[c3] at e;cases e
 ·rw[d1] at e;cases e
 ·rw[f1] at e;cases e
 ·rw[g1] at e;cases e
end
def atV(S:Sea):Int:=(S.led.length:Int)+1
inductive Uu(ca:CA)(vs:List V)(H:Hp)(Q:VK)(_:XK):Prop where
 | mk(A:SAd)(S:Sea)(_:vs=[.ref A.p])(_:Zy ca H A S)(_:Q (.int (atV S)) H)
inductive My(ca:CA)(vs:List V)(H:Hp)(Q:VK)(E:XK):Prop where
 | mk(A:SAd)(S:Sea)(_:vs=[.ref A.p])(_:Zy ca H A S)(_:if S.len<=S.led.length then E (.ref ca.seaOver) none H else Q .non H)
inductive Mz(ca:CA)(vs:List V)(H:Hp)(Q:VK)(E:XK):Prop where
 | mk(A:SAd)(S:Sea)(_:vs=[.ref A.p])(_:Zy ca H A S)(_:if S.len<=S.led.length then E (.ref ca.seaOver) none H else if S.cur.isSome then E (.ref ca.drawn) none H else Q .non H)
inductive E6(ca:CA)(vs:List V)(H:Hp)(Q:VK)(E:XK):Prop where
 | mk(A:SAd)(S:Sea)(at_:Int)(_:vs=[.ref A.p,.int at_])(_:Zy ca H A S)(_:Y6 at_)(_:if at_<1\/(S.len:Int)<at_ then E (.ref ca.noRound) none H else Q .non H)
inductive E7(ca:CA)(vs:List V)(H:Hp)(Q:VK)(E:XK):Prop where
 | mk(A:SAd)(S:Sea)(_:vs=[.ref A.p])(_:Zy ca H A S)(_:if 100<=S.std.length then E (.ref ca.manyD) none H else Q .non H)
inductive E8(ca:CA)(vs:List V)(H:Hp)(Q:VK)(_:XK):Prop where
 | mk(A:SAd)(S:Sea)(w:Str)(n at_:Int)(_:vs=[.ref A.p,.str w,.int n,.int at_])(_:Zy ca H A S)(_:S.std.length<=1000)(_:∀ H',Zy ca H' A { S with std:=S.std++[((w,n,at_),S.cur)] }->FrS A H H'->Q .non H')
inductive Oy(ca:CA)(vs:List V)(H:Hp)(Q:VK)(E:XK):Prop where
 | mk(A:SAd)(S:Sea)(_:vs=[.ref A.p])(_:Zy ca H A S)(_:(S.cur=none->E (.ref ca.notDrawn) none H))(_:∀ s q,S.cur=some s->ShAt ca.sheet (·∉A.fp) H q s->Q (.ref q) H)
def Vt(S:Sea)(at_:Int):Option Z3:=if at_<=S.led.length then S.old[(at_-1).toNat]? else if (S.led.length:Int)+1<at_ then none else S.cur
inductive M0(ca:CA)(vs:List V)(H:Hp)(Q:VK)(E:XK):Prop where
 | mk(A:SAd)(S:Sea)(at_:Int)(_:vs=[.ref A.p,.int at_])(_:Zy ca H A S)(_:Y6 at_)(_:S.old.length=S.led.length)(_:if at_<1\/(S.len:Int)<at_ then E (.ref ca.noRound) none H else (Vt S at_=none->E (.ref ca.notDrawn) none H)/\∀ s q,Vt S at_=some s->ShAt ca.sheet (·∉A.fp) H q s->Q (.ref q) H)
def pIn(out:List (Int×Int))(at_:Int)(m:P3):Bool:=decide ((at_,m.1)∈out)
def Gk(S:Sea)(m:P3):List Int:=(S.ppl.filter fun x=>(whyS S.led x.1 x.2.1 x.2.2 m.1 m.2.1 m.2.2 (pIn S.out (atV S) x) S.rest).isEmpty).map (·.1)
def mayS(S:Sea)(ms:List P3):List (List Int):=ms.map (Gk S)
inductive Oz(ca:CA)(vs:List V)(H:Hp)(Q:VK)(_:XK):Prop where
 | mk(A:SAd)(S:Sea)(l:Addr)(ts:List V)(ms:List P3)(_:vs=[.ref A.p,.ref l])(_:Zy ca H A S)(_:H l=some (.lst ts))(_:Z9 H ts (ms.map pV))(_:ms.length<=100)(_:S.ppl.length<=100)(_:(∀ x∈S.ppl,Y6 x.1))(_:∀ l' ls H',H' l'=some (.lst (ls.map V.ref))->ILs H' ls (mayS S ms)->Same H H'->H l'=none->(∀ x∈ls,H x=none)->Q (.ref l') H')
def badM(m:P3):Prop:=m.1<1\/99<m.1\/m.2.1<1\/99<m.2.1\/m.2.2<1\/9<m.2.2
def Rn(Ms:List P3):Prop:=∃ m∈Ms,badM m
def Ro(Ms:List P3):Prop:=∃ m∈Ms,m.1=m.2.1
def E9(m:P3):Prop:=Y6 m.1/\Y6 m.2.1/\Y6 m.2.2
theorem Ed{p:P3->Prop}{Ms:List P3}{i:Nat}{m:P3}(e:Ms[i]?=some m)(h:∀ x∈Ms.take i,¬ p x)(hm:¬ p m):∀ x∈Ms.take (i+1),¬ p x:=fun x hx=>by
 rw[zt8,e] at hx
 rcases zs6.mp hx with q|q
 ·exact h x q
 ·simp at q;subst q;exact hm
inductive Bd(K:PySem.W.Frag)(ca:CA)(vs:List V)(H:Hp)(Q:VK)(E:XK):Prop where
 | mk(b)(ts)(_:vs=[.ref b])(_:SqL K H b ts)(_:ts.length<=1000)(_:(20<ts.length->E (.ref ca.manyM) none H))(_:(ts.length<=20->Q .non H))
inductive Ee(K:PySem.W.Frag)(ca:CA)(vs:List V)(H:Hp)(Q:VK)(E:XK):Prop where
 | mk(b:Addr)(ts:List V)(Ms:List P3)(_:vs=[.ref b])(_:SqL K H b ts)(_:Z9 H ts (Ms.map pV))(_:(∀ m∈Ms,E9 m))(_:(Rn Ms->E (.ref ca.out) none H))(_:(¬ Rn Ms->Q .non H))
inductive Be(K:PySem.W.Frag)(ca:CA)(vs:List V)(H:Hp)(Q:VK)(E:XK):Prop where
 | mk(b:Addr)(ts:List V)(Ms:List P3)(_:vs=[.ref b])(_:SqL K H b ts)(_:Z9 H ts (Ms.map pV))(_:(∀ m∈Ms,E9 m))(_:(Ro Ms->E (.ref ca.same) none H))(_:(¬ Ro Ms->Q .non H))
inductive J2(K:PySem.W.Frag)(ca:CA)(vs:List V)(H:Hp)(Q:VK)(E:XK):Prop where
 | mk(b:Addr)(ts:List V)(Ms:List P3)(_:vs=[.ref b])(_:SqL K H b ts)(_:Z9 H ts (Ms.map pV))(_:(∀ m∈Ms,E9 m))(_:Ms.length<=1000)(_:(20<Ms.length->E (.ref ca.manyM) none H))(_:(Ms.length<=20->Rn Ms->E (.ref ca.out) none H))(_:(Ms.length<=20->¬ Rn Ms->Ro Ms->E (.ref ca.same) none H))(_:(Ms.length<=20->¬ Rn Ms->¬ Ro Ms->∀ l,H l=none->Q (.ref l) (upd H l (.lst ts))))
theorem Qs.isSome(h:Qs kvs out)(i n:Int):(valV kvs [Sum.inl i,Sum.inl n]).isSome=decide ((i,n)∈out):=h.1 i n
theorem J3{A:SAd}(nd:A.fp.Nodup):(A.p≠A.dr/\A.p≠A.lr/\A.p≠A.ld/\A.p≠A.da/\A.p≠A.ls/\A.p≠A.lt)/\(A.dr≠A.lr/\A.dr≠A.ld/\A.dr≠A.da/\A.dr≠A.ls/\A.dr≠A.lt)/\(A.lr≠A.ld/\A.lr≠A.da/\A.lr≠A.ls/\A.lr≠A.lt)/\(A.ld≠A.da/\A.ld≠A.ls/\A.ld≠A.lt)/\(A.da≠A.ls/\A.da≠A.lt)/\A.ls≠A.lt:=by
 simp only[SAd.fp,ztn,zsz,zt2,or_false,not_or] at nd
 obtain⟨⟨n1,n2,n3,n4,n5,n6⟩,⟨n7,n8,n9,n10,n11⟩,⟨n12,n13,n14,n15⟩,⟨n16,n17,n18⟩,⟨n19,n20⟩,n21,_⟩:=nd;exact⟨⟨n1,n2,n3,n4,n5,n6⟩,⟨n7,n8,n9,n10,n11⟩,⟨n12,n13,n14,n15⟩,⟨n16,n17,n18⟩,⟨n19,n20⟩,n21⟩
theorem zge{R:RL}(nd:(R.map (·.1)).Nodup){x y:P3}(hx:x∈R)(hy:y∈R)(h:x.1=y.1):x=y:=by
 induction R with
 | nil=>cases hx
 | cons z R ih =>
   rw[zs4,ztn] at nd
   rcases zsz.mp hx with e|e<;>rcases zsz.mp hy with e'|e'
   ·rw[e,e']
   ·exact absurd (zs2.mpr ⟨y,e',by rw[<- h,e]⟩) nd.1
   ·exact absurd (zs2.mpr ⟨x,e,by rw[h,e']⟩) nd.1
   ·exact ih nd.2 e e'
def outV(S:Sea):List V:=(S.ppl.filter (pIn S.out (atV S))).map fun x=>V.int x.1
theorem zes(S:Sea):∀ x∈outV S,oneV x:=fun x hx=>by
 unfold outV at hx
 obtain⟨m,_,rfl⟩:=zs2.mp hx;exact .inr ⟨_,rfl⟩
theorem zgf(hx:x∈S.ppl):inV (.int x.1) (outV S)=pIn S.out (atV S) x:=by
 unfold outV;rw[show ((S.ppl.filter (pIn S.out (atV S))).map fun x=>V.int x.1)=((S.ppl.filter (pIn S.out (atV S))).map (·.1)).map V.int by rw[zua];rfl,Ph]
 unfold pIn;by_cases h:(atV S,x.1)∈S.out
 ·rw[zsy h,zsy]
  exact zs2.mpr ⟨x,zt0.mpr ⟨hx,zsy h⟩,rfl⟩
 ·rw[zs8 h,zs8]
  intro z;obtain⟨y,h1,h2⟩:=zs2.mp z;have:=of_decide_eq_true (zt0.mp h1).2;rw[h2] at this;exact h this
theorem zig(S:Sea)(m:P3):((S.ppl.filter (Qp S.led m.1 m.2.1 m.2.2 (outV S) S.rest)).map fun x=>V.int x.1)=(Gk S m).map V.int:=by
 unfold Gk;rw[zua];have:S.ppl.filter (Qp S.led m.1 m.2.1 m.2.2 (outV S) S.rest)=S.ppl.filter fun x=>(whyS S.led x.1 x.2.1 x.2.2 m.1 m.2.1 m.2.2 (pIn S.out (atV S) x) S.rest).isEmpty:=by
  refine List.filter_congr fun x hx=>?_
  unfold Qp;rw[zgf hx]
 rw[this];rfl
theorem atI_last:atI (xs++[x]) (-1)=some x:=by
 have hl:(xs++[x]).length=xs.length+1:=by rw[zsw];rfl
 unfold atI ixN;rw[if_neg (by decide),if_pos (by omega)]
 show (xs++[x])[((-1:Int)+(xs++[x]).length).toNat]?=_;rw[show ((-1:Int)+(xs++[x]).length).toNat=xs.length by omega,zts (zs3 _),Nat.sub_self];rfl
theorem X4.unsnoc{ok:Addr->Prop}{H:Hp}{n:Int}{st:List (Nat×Option Int)}:∀ {vs:List V} {G:List (Int×List (Nat×Option Int))},X4 ok H vs (G++[(n,st)])->∃ vs' t l us,vs=vs'++[.ref t]/\H t=some (.tup [.int n,.ref l])/\H l=some (.lst us)/\Z9 H us (st.map We)/\ok l
 | _,[],.cons h hl tl o .nil=>⟨[],_,_,_,rfl,h,hl,tl,o⟩
 | _,_ :: _,.cons h hl tl o r=>by
   obtain⟨vs',t,l,us,e,a⟩:=X4.unsnoc r;exact⟨_ :: vs',t,l,us,by rw[e];rfl,a⟩
def Qu(S:Sea):Prop:=(∀ x∈S.ppl,¬ badI x.1 x.2.1 x.2.2)/\S.ppl.length<=30
theorem Qu.small(h:Qu S):∀ x∈S.ppl,Y6 x.1:=fun x hx=>by
 have:=h.1 x hx;unfold badI at this
 exact Y2 (by omega) (by omega)
theorem Qu.may(h:Qu S)(nd:(S.ppl.map (·.1)).Nodup)(hm:ms.length<=20):R4 (mayS S ms) (S.ppl.map (·.1)):=by
 refine⟨by unfold mayS;rw[zst];exact hm,by rw[zst];exact h.2,nd,fun n hn=>?_,fun r hr=>?_⟩
 ·obtain⟨x,hx,rfl⟩:=zs2.mp hn
  have:=h.1 x hx;unfold badI at this
  omega
 ·unfold mayS at hr
  obtain⟨m,_,rfl⟩:=zs2.mp hr;unfold Gk;exact⟨nd.sublist (List.Sublist.map _ List.filter_sublist),fun n hn=>by
   obtain⟨x,hx,rfl⟩:=zs2.mp hn;exact zs2.mpr ⟨x,(zt0.mp hx).1,rfl⟩⟩
section
variable{ca:CA}{H H':Hp}{A:SAd}{S:Sea}
theorem Kc(h:Zy ca H A S)(hx:x∈A.fp):A.pr≠x/\A.pl≠x:=⟨fun z=>h.np.1 (by rw[z];exact hx),fun z=>h.np.2 (by rw[z];exact hx)⟩
theorem FrS.one(hx:x∈A.fp)(k:∀ b o,H b=some o->b≠x->H' b=some o):FrS A H H':=fun b o e hb=>k b o e fun z=>hb (by rw[z];exact hx)
theorem Zy.setRos(h:Zy ca H A S)(r:Xo ca.roster H' A.pr A.dr R)(k:∀ b o,H b=some o->b≠A.dr->H' b=some o):Zy ca H' A { S with ppl:=R }/\FrS A H H':=by
 have f:FrS A H H':=.one (by simp[SAd.fp]) k
 have kt:=h.tups f;have ko:∀ x o,x∉A.fp->H x=some o->H' x=some o:=fun x o hx e=>f x o e hx
 obtain⟨⟨n1,n2,n3,n4,n5,n6⟩,⟨n7,n8,n9,n10,n11⟩,⟨n12,n13,n14,n15⟩,⟨n16,n17,n18⟩,⟨n19,n20⟩,n21⟩:=J3 h.nd;have np:=Kc h (show A.dr∈A.fp by simp[SAd.fp])
 obtain⟨⟨dx,v,a1,a2⟩,b,c,⟨kvs,d1,d2⟩,⟨vs,f1,f2⟩,⟨us,g1,g2⟩,nd,np'⟩:=h;exact⟨⟨⟨dx,v,k _ _ a1 n1,a2.keep ko kt⟩,r,c.keep (fun o e=>k _ o e np.2) (fun o e=>k _ o e (Ne.symm n7)) (fun o e=>k _ o e (Ne.symm n8)) kt,⟨kvs,k _ _ d1 (Ne.symm n9),d2⟩,⟨vs,k _ _ f1 (Ne.symm n10),f2.keep ko kt⟩,⟨us,k _ _ g1 (Ne.symm n11),g2.keep ko kt⟩,nd,np'⟩,f⟩
theorem Zy.setOut{out:List (Int×Int)}{kvs:List (List Key×V)}(h:Zy ca H A S)(hd:H' A.da=some (.dT kvs))(ok:Qs kvs out)(k:∀ b o,H b=some o->b≠A.da->H' b=some o):Zy ca H' A { S with out:=out }/\FrS A H H':=by
 have f:FrS A H H':=.one (by simp[SAd.fp]) k
 have kt:=h.tups f;have ko:∀ x o,x∉A.fp->H x=some o->H' x=some o:=fun x o hx e=>f x o e hx
 obtain⟨⟨n1,n2,n3,n4,n5,n6⟩,⟨n7,n8,n9,n10,n11⟩,⟨n12,n13,n14,n15⟩,⟨n16,n17,n18⟩,⟨n19,n20⟩,n21⟩:=J3 h.nd;have np:=Kc h (show A.da∈A.fp by simp[SAd.fp])
 obtain⟨⟨dx,v,a1,a2⟩,b,c,⟨kvs',d1,d2⟩,⟨vs,f1,f2⟩,⟨us,g1,g2⟩,nd,np'⟩:=h;exact⟨⟨⟨dx,v,k _ _ a1 n4,a2.keep ko kt⟩,b.keep (fun o e=>k _ o e np.1) (fun o e=>k _ o e n9) kt,c.keep (fun o e=>k _ o e np.2) (fun o e=>k _ o e n13) (fun o e=>k _ o e n16) kt,⟨kvs,hd,ok⟩,⟨vs,k _ _ f1 (Ne.symm n19),f2.keep ko kt⟩,⟨us,k _ _ g1 (Ne.symm n20),g2.keep ko kt⟩,nd,np'⟩,f⟩
theorem Zy.setCur(h:Zy ca H A S)(hp:∃ dx,H' A.p=some (.ins ca.season dx (seaF A S.len S.rest v)))(sh:ShO ca.sheet (·∉A.fp) H' v cur)(k:∀ b o,H b=some o->b≠A.p->H' b=some o):Zy ca H' A { S with cur:=cur }/\FrS A H H':=by
 have f:FrS A H H':=.one (by simp[SAd.fp]) k
 have kt:=h.tups f;have ko:∀ x o,x∉A.fp->H x=some o->H' x=some o:=fun x o hx e=>f x o e hx
 obtain⟨⟨n1,n2,n3,n4,n5,n6⟩,⟨n7,n8,n9,n10,n11⟩,⟨n12,n13,n14,n15⟩,⟨n16,n17,n18⟩,⟨n19,n20⟩,n21⟩:=J3 h.nd;have np:=Kc h (show A.p∈A.fp by simp[SAd.fp])
 obtain⟨⟨dx,v',a1,a2⟩,b,c,⟨kvs',d1,d2⟩,⟨vs,f1,f2⟩,⟨us,g1,g2⟩,nd,np'⟩:=h;obtain⟨dx',hp⟩:=hp;exact⟨⟨⟨dx',v,hp,sh⟩,b.keep (fun o e=>k _ o e np.1) (fun o e=>k _ o e (Ne.symm n1)) kt,c.keep (fun o e=>k _ o e np.2) (fun o e=>k _ o e (Ne.symm n2)) (fun o e=>k _ o e (Ne.symm n3)) kt,⟨kvs',k _ _ d1 (Ne.symm n4),d2⟩,⟨vs,k _ _ f1 (Ne.symm n5),f2.keep ko kt⟩,⟨us,k _ _ g1 (Ne.symm n6),g2.keep ko kt⟩,nd,np'⟩,f⟩
theorem Zy.setStd{std:List (S8×Option Z3)}{us:List V}(h:Zy ca H A S)(hd:H' A.lt=some (.lst us))(ok:Uz ca.sheet (·∉A.fp) H' us std)(k:∀ b o,H b=some o->b≠A.lt->H' b=some o):Zy ca H' A { S with std:=std }/\FrS A H H':=by
 have f:FrS A H H':=.one (by simp[SAd.fp]) k
 have kt:=h.tups f;have ko:∀ x o,x∉A.fp->H x=some o->H' x=some o:=fun x o hx e=>f x o e hx
 obtain⟨⟨n1,n2,n3,n4,n5,n6⟩,⟨n7,n8,n9,n10,n11⟩,⟨n12,n13,n14,n15⟩,⟨n16,n17,n18⟩,⟨n19,n20⟩,n21⟩:=J3 h.nd;have np:=Kc h (show A.lt∈A.fp by simp[SAd.fp])
 obtain⟨⟨dx,v,a1,a2⟩,b,c,⟨kvs,d1,d2⟩,⟨vs,f1,f2⟩,⟨us',g1,g2⟩,nd,np'⟩:=h;exact⟨⟨⟨dx,v,k _ _ a1 n6,a2.keep ko kt⟩,b.keep (fun o e=>k _ o e np.1) (fun o e=>k _ o e n11) kt,c.keep (fun o e=>k _ o e np.2) (fun o e=>k _ o e n15) (fun o e=>k _ o e n18) kt,⟨kvs,k _ _ d1 n20,d2⟩,⟨vs,k _ _ f1 n21,f2.keep ko kt⟩,⟨us,hd,ok⟩,nd,np'⟩,f⟩
theorem Zy.setOld{old:List Z3}{us:List V}(h:Zy ca H A S)(hd:H' A.ls=some (.lst us))(ok:ShL ca.sheet (·∉A.fp) H' us old)(k:∀ b o,H b=some o->b≠A.ls->H' b=some o):Zy ca H' A { S with old:=old }/\FrS A H H':=by
 have f:FrS A H H':=.one (by simp[SAd.fp]) k
 have kt:=h.tups f;have ko:∀ x o,x∉A.fp->H x=some o->H' x=some o:=fun x o hx e=>f x o e hx
 obtain⟨⟨n1,n2,n3,n4,n5,n6⟩,⟨n7,n8,n9,n10,n11⟩,⟨n12,n13,n14,n15⟩,⟨n16,n17,n18⟩,⟨n19,n20⟩,n21⟩:=J3 h.nd;have np:=Kc h (show A.ls∈A.fp by simp[SAd.fp])
 obtain⟨⟨dx,v,a1,a2⟩,b,c,⟨kvs,d1,d2⟩,⟨vs,f1,f2⟩,⟨us',g1,g2⟩,nd,np'⟩:=h;exact⟨⟨⟨dx,v,k _ _ a1 n5,a2.keep ko kt⟩,b.keep (fun o e=>k _ o e np.1) (fun o e=>k _ o e n10) kt,c.keep (fun o e=>k _ o e np.2) (fun o e=>k _ o e n14) (fun o e=>k _ o e n17) kt,⟨kvs,k _ _ d1 n19,d2⟩,⟨us,hd,ok⟩,⟨us',k _ _ g1 (Ne.symm n21),g2.keep ko kt⟩,nd,np'⟩,f⟩
theorem Zy.setLed(h:Zy ca H A S)(l:Ut ca.ledger H' A.pl A.lr A.ld Rs)(k:∀ b o,H b=some o->b≠A.lr->b≠A.ld->H' b=some o):Zy ca H' A { S with led:=Rs }/\FrS A H H':=by
 have f:FrS A H H':=fun b o e hb=>k b o e (fun z=>hb (by rw[z];simp[SAd.fp])) (fun z=>hb (by rw[z];simp[SAd.fp]))
 have kt:=h.tups f;have ko:∀ x o,x∉A.fp->H x=some o->H' x=some o:=fun x o hx e=>f x o e hx
 obtain⟨⟨n1,n2,n3,n4,n5,n6⟩,⟨n7,n8,n9,n10,n11⟩,⟨n12,n13,n14,n15⟩,⟨n16,n17,n18⟩,⟨n19,n20⟩,n21⟩:=J3 h.nd;have np:=Kc h (show A.lr∈A.fp by simp[SAd.fp])
 have np2:=Kc h (show A.ld∈A.fp by simp[SAd.fp])
 obtain⟨⟨dx,v,a1,a2⟩,b,c,⟨kvs,d1,d2⟩,⟨vs,f1,f2⟩,⟨us',g1,g2⟩,nd,np'⟩:=h;exact⟨⟨⟨dx,v,k _ _ a1 n2 n3,a2.keep ko kt⟩,b.keep (fun o e=>k _ o e np.1 np2.1) (fun o e=>k _ o e n7 n8) kt,l,⟨kvs,k _ _ d1 (Ne.symm n13) (Ne.symm n16),d2⟩,⟨vs,k _ _ f1 (Ne.symm n14) (Ne.symm n17),f2.keep ko kt⟩,⟨us',k _ _ g1 (Ne.symm n15) (Ne.symm n18),g2.keep ko kt⟩,nd,np'⟩,f⟩
theorem O0:putF "sheet" v' (seaF A l r v)=seaF A l r v':=by
 have n1:¬ (("length":Str)="sheet"):=by decide +kernel
 have n2:¬ (("rest":Str)="sheet"):=by decide +kernel
 have n3:¬ (("roster":Str)="sheet"):=by decide +kernel
 have n4:¬ (("ledger":Str)="sheet"):=by decide +kernel
 have n5:¬ (("absent":Str)="sheet"):=by decide +kernel
 have n6:¬ (("sheets":Str)="sheet"):=by decide +kernel
 simp only[putF,seaF,if_neg n1,if_neg n2,if_neg n3,if_neg n4,if_neg n5,if_neg n6,if_true]
theorem FrS.free(f:FrS A H H')(h:Zy ca H' A S')(hl:H' l=none):H l=none:=by
 cases e:H l with
 | none=>rfl
 | some o =>
   by_cases hm:l∈A.fp
   ·obtain⟨o',e'⟩:=h.there l hm
    rw[e'] at hl;cases hl
   ·rw[f l o e hm] at hl;cases hl
theorem ShAt.ins(h:ShAt ca.sheet (·∉A.fp) H q s):∃ dx l1 l2 l3 l4,H q=some (.ins ca.sheet dx (shF l1 l2 l3 l4)):=by
 obtain⟨dx,l1,l2,l3,l4,_,_,_,a1,_⟩:=h;exact⟨dx,l1,l2,l3,l4,a1⟩
theorem Zy.newSheet(h:Zy ca H A S)(hp:H A.p=some (.ins ca.season dx (seaF A S.len S.rest v)))(sh:ShAt ca.sheet (·∉A.fp) H q s) :
  Zy ca (upd H A.p (.ins ca.season dx (putF "sheet" (.ref q) (seaF A S.len S.rest v)))) A { S with cur:=some s }/\FrS A H (upd H A.p (.ins ca.season dx (putF "sheet" (.ref q) (seaF A S.len S.rest v))))/\ShAt ca.sheet (·∉A.fp) (upd H A.p (.ins ca.season dx (putF "sheet" (.ref q) (seaF A S.len S.rest v)))) q s:=by
 have k:∀ b o,H b=some o->b≠A.p->upd H A.p (.ins ca.season dx (putF "sheet" (.ref q) (seaF A S.len S.rest v))) b=some o:=fun b o e n=>by rw[Zi n];exact e
 have sh':=sh.keep (H':=upd H A.p (.ins ca.season dx (putF "sheet" (.ref q) (seaF A S.len S.rest v)))) (fun x o hx e=>k x o e fun z=>hx (by rw[z];simp[SAd.fp])) (fun t xs e=>k t _ e (Yx e hp (fun z=>nomatch z)))
 obtain⟨h1,h2⟩:=h.setCur (cur:=some s) (v:=.ref q) ⟨dx,by rw[Zc];exact congrArg (fun x=>some (HO.ins ca.season dx x)) O0⟩ ⟨q,rfl,sh'⟩ k
 exact⟨h1,h2,sh'⟩
theorem Gm:putF "standing" (.ref x) (seaF A l r v)=seaF { A with lt:=x } l r v:=by
 have n1:¬ (("length":Str)="standing"):=by decide +kernel
 have n2:¬ (("rest":Str)="standing"):=by decide +kernel
 have n3:¬ (("roster":Str)="standing"):=by decide +kernel
 have n4:¬ (("ledger":Str)="standing"):=by decide +kernel
 have n5:¬ (("absent":Str)="standing"):=by decide +kernel
 have n6:¬ (("sheets":Str)="standing"):=by decide +kernel
 have n7:¬ (("sheet":Str)="standing"):=by decide +kernel
 simp only[putF,seaF,if_neg n1,if_neg n2,if_neg n3,if_neg n4,if_neg n5,if_neg n6,if_neg n7,if_true]
end
def zet(r q:Nat):Sea:=⟨r,q,[],[],[],[],none,[]⟩
inductive zbi(ca:CA)(vs:List V)(H:Hp)(Q:VK)(E:XK):Prop where
 | mk(p dx:Addr)(r q:Int)(_:vs=[.ref p,.int r,.int q])(_:H p=some (.ins ca.season dx []))(_:Y6 r)(_:Y6 q)(_:if r<0\/60<r then E (.ref ca.out) none H else if q<0\/10<q then E (.ref ca.out) none H else ∀ A H',A.p=p->Zy ca H' A (zet r.toNat q.toNat)->(∀ b o,H b=some o->b≠p->H' b=some o)->(∀ x∈A.fp,x≠p->H x=none)->Q .non H')
inductive zbj(ca:CA)(vs:List V)(H:Hp)(Q:VK)(E:XK):Prop where
 | mk(A:SAd)(S:Sea)(n g c:Int)(_:vs=[.ref A.p,.int n,.int g,.int c])(_:Zy ca H A S)(_:A7 n g c)(_:S.std.length<=1000)(_:S.ppl.length<=1000)(_:if S.len<=S.led.length then E (.ref ca.seaOver) none H else if S.cur.isSome then E (.ref ca.drawn) none H else if badI n g c then E (.ref ca.out) none H else if n∈S.ppl.map (·.1) then E (.ref ca.known) none H else if 30<=S.ppl.length then E (.ref ca.many) none H else if 100<=S.std.length then E (.ref ca.manyD) none H else ∀ H',Zy ca H' A { S with ppl:=S.ppl++[(n,g,c)],std:=S.std++[(((("enrol":Str),n,atV S):S8),S.cur)] }->FrS A H H'->Q .non H')
def zeu(S:Sea)(ms:List P3)(gv:List V):Sea:={ S with cur:=some ⟨ms,mayS S ms,gv,[]⟩,std:=S.std++[(((("draw up":Str),(ms.length:Int),atV S):S8),S.cur)] }
inductive Bf(K:PySem.W.Frag)(ca:CA)(vs:List V)(H:Hp)(Q:VK)(E:XK):Prop where
 | mk(A:SAd)(S:Sea)(b:Addr)(ts:List V)(ms:List P3)(_:vs=[.ref A.p,.ref b])(_:Zy ca H A S)(_:SqL K H b ts)(_:Z9 H ts (ms.map pV))(_:(∀ m∈ms,E9 m))(_:ms.length<=1000)(_:S.std.length<=1000)(_:Qu S)(_:if S.len<=S.led.length then E (.ref ca.seaOver) none H else if S.cur.isSome then E (.ref ca.drawn) none H else (20<ms.length->E (.ref ca.manyM) none H)/\(ms.length<=20->Rn ms->E (.ref ca.out) none H)/\(ms.length<=20->¬ Rn ms->Ro ms->E (.ref ca.same) none H)/\(ms.length<=20->¬ Rn ms->¬ Ro ms->(100<=S.std.length->∀ H',Same H H'->E (.ref ca.manyD) none H')/\(S.std.length<100->∀ l gv H',H' l=some (.lst gv)->Zy ca H' A (zeu S ms gv)->Yn (mayS S ms) gv->Uy (mayS S ms) gv->FrS A H H'->H l=none->Q (.ref l) H')))
inductive Bg(ca:CA)(vs:List V)(H:Hp)(Q:VK)(_:XK):Prop where
 | mk(A:SAd)(S:Sea)(n:Int)(s:Z3)(nu:List Int)(_:vs=[.ref A.p,.int n])(_:Zy ca H A S)(_:S.cur=some s)(_:Qu S)(_:s.ms.length<=20)(_:(∀ x∈s.gv,oneV x))(_:s.gv.length<=100)(_:s.gaps.length<=500)(_:R4 (mayS S s.ms) nu)(_:(X1 s.gv n=none->∀ l H',H' l=some (.lst [])->Zy ca H' A { S with cur:=some { s with may:=mayS S s.ms } }->FrS A H H'->H l=none->Q (.ref l) H'))(_:∀ p,X1 s.gv n=some p->s.gv[p]?=some (.int n)/\(∀ j:Nat,s.gv[j]?=some (.int n)->j=p)/\Yn (mayS S s.ms) (s.gv.set p .non)/\∀ l us st e w H',H' l=some (.lst us)->Z9 H' us (st.map We)->Yt (mayS S s.ms) (s.gv.set p .non) p st e w->Zy ca H' A { S with cur:=some ⟨s.ms,mayS S s.ms,Yf st (s.gv.set p .non),s.gaps++[(n,st)]⟩ }->FrS A H H'->H l=none->Q (.ref l) H')
def Xj(S:Sea)(i n:Int):Sea:={ S with out:=S.out++[(i,n)],std:=S.std++[((("away":Str),n,i),S.cur)] }
inductive zew(ca:CA)(vs:List V)(H:Hp)(Q:VK)(E:XK):Prop where
 | mk(A:SAd)(S:Sea)(i n:Int)(_:vs=[.ref A.p,.int i,.int n])(_:Zy ca H A S)(_:Y6 i)(_:Y6 n)(_:S.std.length<=1000)(_:S.out.length<=100000)(_:Qu S)(_:(∀ s,S.cur=some s->s.ms.length<=20/\Yn s.may s.gv/\s.may=mayS S s.ms/\s.gaps.length<=500))(_:if i<1\/(S.len:Int)<i then E (.ref ca.noRound) none H else if i<=S.led.length then E (.ref ca.over) none H else if n∈S.ppl.map (·.1) then (if (i,n)∈S.out then ∀ H',Same H H'->E (.ref ca.away) none H' else if 100<=S.std.length then ∀ H',Same H H'->E (.ref ca.manyD) none H' else (S.cur=none\/atV S<i->∀ l H',H' l=some (.lst [])->Zy ca H' A (Xj S i n)->FrS A H H'->H l=none->Q (.ref l) H')/\(∀ s,i=atV S->S.cur=some s->X1 s.gv n=none->∀ l H',H' l=some (.lst [])->Zy ca H' A { Xj S i n with cur:=some { s with may:=mayS (Xj S i n) s.ms } }->FrS A H H'->H l=none->Q (.ref l) H')/\(∀ s p,i=atV S->S.cur=some s->X1 s.gv n=some p->∀ l us st e w H',H' l=some (.lst us)->Z9 H' us (st.map We)->Yt (mayS (Xj S i n) s.ms) (s.gv.set p .non) p st e w->Zy ca H' A { Xj S i n with cur:=some ⟨s.ms,mayS (Xj S i n) s.ms,Yf st (s.gv.set p .non),s.gaps++[(n,st)]⟩ }->FrS A H H'->H l=none->Q (.ref l) H')) else E (.ref ca.unk) none H)
theorem Qs.put(h:Qs kvs out)(i n:Int):Qs (putK kvs [Sum.inl i,Sum.inl n] (.bl true)) (out++[(i,n)]):=by
 refine⟨fun j m=>?_,?_⟩
 ·rw[Vp]
  by_cases e:j=i/\m=n
  ·rw[if_pos (Pd.mpr e),zsy (by rw[e.1,e.2];simp)];rfl
  ·rw[if_neg (fun z=>e (Pd.mp z)),h.1 j m]
   by_cases hm:(j,m)∈out
   ·rw[zsy hm,zsy (ztf _ hm)]
   ·rw[zs8 hm,zs8]
    intro z;rcases zs6.mp z with q|q
    ·exact hm q
    ·have:=zsx.mp q;exact e (by cases this;exact⟨rfl,rfl⟩)
 ·have:=Xi kvs ([Sum.inl i,Sum.inl n]:List Key) (.bl true)
  have:=h.2;rw[zsw];show _<=out.length+1;omega
theorem Qs.drop(h:Qs kvs (out++[(i,n)]))(hn:(i,n)∉out):Qs (Wb kvs [Sum.inl i,Sum.inl n]) out:=by
 have hv:∀ k:List Key,valV (Wb kvs [Sum.inl i,Sum.inl n]) k=if k=[Sum.inl i,Sum.inl n] then none else valV kvs k:=fun k=>by
  clear h
  induction kvs with
  | nil=>unfold Wb;simp[valV]
  | cons x kvs ih =>
    by_cases ex:x.1=[Sum.inl i,Sum.inl n]
    ·rw[zb7 ex,ih]
     by_cases e:k=[Sum.inl i,Sum.inl n]
     ·rw[if_pos e,if_pos e]
     ·rw[if_neg e,if_neg e,Yy (fun z=>e (z.symm.trans ex))]
    ·rw[zb8 ex]
     by_cases ek:x.1=k
     ·rw[Xc ek,Xc ek,if_neg (fun z=>ex (ek.trans z))]
     ·rw[Yy ek,Yy ek,ih]
 refine⟨fun j m=>?_,?_⟩
 ·rw[hv]
  by_cases e:j=i/\m=n
  ·rw[if_pos (Pd.mpr e),zs8 (by rw[e.1,e.2];exact hn)];rfl
  ·rw[if_neg (fun z=>e (Pd.mp z)),h.1 j m]
   by_cases hm:(j,m)∈out
   ·rw[zsy hm,zsy (ztf _ hm)]
   ·rw[zs8 hm,zs8]
    intro z;rcases zs6.mp z with q|q
    ·exact hm q
    ·have:=zsx.mp q;exact e (by cases this;exact⟨rfl,rfl⟩)
 ·have h1:=h.1 i n
  rw[zsy (show (i,n)∈out++[(i,n)] by simp)] at h1
  have h2:=h.2;rw[zsw] at h2
  have h2:kvs.length<=out.length+1:=h2;have h3:(Wb kvs [Sum.inl i,Sum.inl n]).length<kvs.length:=by
   unfold Wb;rw[List.length_filter_lt_length_iff_exists];obtain⟨v,hv'⟩:=zuc.mp h1;unfold valV at hv'
   obtain⟨x,hx,_⟩:=zur.mp hv';refine⟨x,List.mem_of_find?_eq_some hx,?_⟩;have:=List.find?_some hx;intro z;exact of_decide_eq_true z (of_decide_eq_true this)
  omega
theorem Rp(h:X1 gv n=some p):gv[p]?=some (.int n):=by
 unfold X1 at h
 have h2:decide (gv[p]?=some (V.int n))=true:=List.find?_some (p:=fun i=>decide (gv[i]?=some (V.int n))) h
 exact of_decide_eq_true h2
theorem Vu:mayS (Xj S (atV S) n) ms=without (mayS S ms) n:=by
 unfold mayS without;rw[zua];refine zuo fun m _=>?_
 show Gk (Xj S (atV S) n) m=(Gk S m).filter fun x=>decide (x≠n)
 unfold Gk;rw[List.filter_map,List.filter_filter]
 congr 1
 refine List.filter_congr fun x _=>?_
 show (whyS S.led x.1 x.2.1 x.2.2 m.1 m.2.1 m.2.2 (pIn (S.out++[(atV S,n)]) (atV S) x) S.rest).isEmpty=(decide (x.1≠n)&&(whyS S.led x.1 x.2.1 x.2.2 m.1 m.2.1 m.2.2 (pIn S.out (atV S) x) S.rest).isEmpty);unfold pIn;by_cases e:x.1=n
 ·have h1:decide ((atV S,x.1)∈S.out++[(atV S,n)])=true:=zsy (by rw[e];simp)
  rw[h1,zs8 (fun z=>z e),Bool.false_and]
  unfold whyS bw;simp
 ·have h1:decide ((atV S,x.1)∈S.out++[(atV S,n)])=decide ((atV S,x.1)∈S.out):=by
   by_cases hm:(atV S,x.1)∈S.out
   ·rw[zsy hm,zsy (ztf _ hm)]
   ·rw[zs8 hm,zs8]
    intro z;rcases zs6.mp z with q|q
    ·exact hm q
    ·have:=zsx.mp q;cases this;exact e rfl
  rw[h1,zsy e,Bool.true_and]
def Dc(S:Sea)(s:Z3):Sea:={ S with led:=S.led++[Yb s],old:=S.old++[s],cur:=none,std:=[] }
inductive zbk(ca:CA)(vs:List V)(H:Hp)(Q:VK)(E:XK):Prop where
 | mk(A:SAd)(S:Sea)(_:vs=[.ref A.p])(_:Zy ca H A S)(_:2*(tot S.led+1000)<=100000)(_:S.led.length<=1000)(_:S.old.length<=1000)(_:(∀ s,S.cur=some s->(∀ x∈s.gv,oneV x)/\s.gv.length=s.ms.length/\s.ms.length<=1000))(_:if S.len<=S.led.length then E (.ref ca.seaOver) none H else (S.cur=none->E (.ref ca.notDrawn) none H)/\∀ s x H',S.cur=some s->Zy ca H' { A with lt:=x } (Dc S s)->FrS A H H'->H x=none->Q (.int (atV S)) H')
theorem Zy.freshStd(h:Zy ca H A S)(hx:H x=none)(hp:H A.p=some (.ins ca.season dx (seaF A S.len S.rest v)))(hv:ShO ca.sheet (·∉A.fp) H v S.cur)
  (e:H'=upd (upd H x (.lst [])) A.p (.ins ca.season dx (putF "standing" (.ref x) (seaF A S.len S.rest v)))):Zy ca H' { A with lt:=x } { S with std:=[] }/\FrS A H H':=by
 have hpx:A.p≠x:=Zh hp hx;have k:∀ b o,H b=some o->b≠A.p->H' b=some o:=fun b o q n=>by rw[e,Zi n,Zi (Zh q hx)];exact q
 have f:FrS A H H':=.one (by simp[SAd.fp]) k
 have kt:=h.tups f;have hnx:∀ y,(∃ o,H y=some o)->y≠x:=fun y ⟨o,q⟩=>Zh q hx
 have okk:∀ y,(∃ o,H' y=some o)->y∉A.fp->(∃ o,H y=some o)->y∉({ A with lt:=x }:SAd).fp:=fun y _ hy hH hm=>by
  simp only[SAd.fp,zsz,zt2,or_false] at hm hy
  rcases hm with q|q|q|q|q|q|q
  ·exact hy (.inl q)
  ·exact hy (.inr (.inl q))
  ·exact hy (.inr (.inr (.inl q)))
  ·exact hy (.inr (.inr (.inr (.inl q))))
  ·exact hy (.inr (.inr (.inr (.inr (.inl q)))))
  ·exact hy (.inr (.inr (.inr (.inr (.inr (.inl q))))))
  ·exact hnx y hH q
 have ok2:∀ y,(∃ o,H y=some o)->y∉A.fp->y∉({ A with lt:=x }:SAd).fp:=fun y hH hy hm=>by
  simp only[SAd.fp,zsz,zt2,or_false] at hm hy
  rcases hm with q|q|q|q|q|q|q
  ·exact hy (.inl q)
  ·exact hy (.inr (.inl q))
  ·exact hy (.inr (.inr (.inl q)))
  ·exact hy (.inr (.inr (.inr (.inl q))))
  ·exact hy (.inr (.inr (.inr (.inr (.inl q)))))
  ·exact hy (.inr (.inr (.inr (.inr (.inr (.inl q))))))
  ·exact hnx y hH q
 have ko:∀ y o,y∉({ A with lt:=x }:SAd).fp->H y=some o->H' y=some o:=fun y o hy q=>k y o q fun z=>hy (by rw[z];simp[SAd.fp])
 have there:=h.there;obtain⟨⟨n1,n2,n3,n4,n5,n6⟩,⟨n7,n8,n9,n10,n11⟩,⟨n12,n13,n14,n15⟩,⟨n16,n17,n18⟩,⟨n19,n20⟩,n21⟩:=J3 h.nd;have np:=Kc h (show A.p∈A.fp by simp[SAd.fp])
 have npp:=h.np;obtain⟨⟨dx',v',a1,a2⟩,b,c,⟨kvs',d1,d2⟩,⟨vs,f1,f2⟩,⟨us,g1,g2⟩,nd,np'⟩:=h;have hpr:∃ o,H A.pr=some o:=by obtain⟨⟨_,_,q,_⟩,_⟩:=b;exact⟨_,q⟩
 have hpl:∃ o,H A.pl=some o:=by obtain⟨⟨_,q⟩,_⟩:=c;exact⟨_,q⟩
 refine⟨⟨⟨dx,v,?_,(hv.imp ok2).keep ko kt⟩,b.keep (fun o q=>k _ o q np.1) (fun o q=>k _ o q (Ne.symm n1)) kt,c.keep (fun o q=>k _ o q np.2) (fun o q=>k _ o q (Ne.symm n2)) (fun o q=>k _ o q (Ne.symm n3)) kt,⟨kvs',k _ _ d1 (Ne.symm n4),d2⟩,⟨vs,k _ _ f1 (Ne.symm n5),(f2.imp ok2).keep ko kt⟩,⟨[],?_,?_⟩,?_,⟨ok2 _ hpr npp.1,ok2 _ hpl npp.2⟩⟩,f⟩
 ·rw[e,Zc];exact congrArg (fun z=>some (HO.ins ca.season dx z)) Gm
 ·show H' x=some (.lst [])
  rw[e,Zi (Ne.symm hpx),Zc]
 ·exact .nil
 ·show [A.p,A.dr,A.lr,A.ld,A.da,A.ls,x].Nodup
  have m:∀ y∈A.fp,y≠x:=fun y hy=>hnx y (there y hy)
  simp only[ztn,zsz,zt2,or_false,not_or];exact⟨⟨n1,n2,n3,n4,n5,m _ (by simp[SAd.fp])⟩,⟨n7,n8,n9,n10,m _ (by simp[SAd.fp])⟩,⟨n12,n13,n14,m _ (by simp[SAd.fp])⟩,⟨n16,n17,m _ (by simp[SAd.fp])⟩,⟨n19,m _ (by simp[SAd.fp])⟩,m _ (by simp[SAd.fp]),by simp,List.nodup_nil⟩
def zex(S:Sea)(d:S8)(ppl:RL)(out:List (Int×Int)):Prop:=(d.1="enrol"/\(∃ g c,S.ppl=ppl++[(d.2.1,g,c)])/\out=S.out)\/(d.1="away"/\ppl=S.ppl/\S.out=out++[(d.2.2,d.2.1)]/\(d.2.2,d.2.1)∉out)\/(d.1="draw up"/\ppl=S.ppl/\out=S.out)
inductive J4(ca:CA)(vs:List V)(H:Hp)(Q:VK)(E:XK):Prop where
 | mk(A:SAd)(S:Sea)(_:vs=[.ref A.p])(_:Zy ca H A S)(_:(S.std=[]->E (.ref ca.nothing) none H))(_:∀ std d s,S.std=std++[(d,s)]->∃ ppl out,zex S d ppl out/\∀ t H',H' t=some (.tup (Oa d))->Zy ca H' A { S with ppl:=ppl,out:=out,cur:=s,std:=std }->FrS A H H'->Q (.ref t) H')
def Dd(ca:CA)(H:Hp)(S:Sea)(i:Int)(E:XK)(k:Z3->Prop):Prop:=Y6 i/\S.old.length=S.led.length/\if i<1\/(S.len:Int)<i then E (.ref ca.noRound) none H else (Vt S i=none->E (.ref ca.notDrawn) none H)/\∀ s,Vt S i=some s->k s
inductive A9(ca:CA)(vs:List V)(H:Hp)(Q:VK)(E:XK):Prop where
 | mk(A:SAd)(S:Sea)(i:Int)(_:vs=[.ref A.p,.int i])(_:Zy ca H A S)(_:Dd ca H S i E fun s=>∀ l H',H' l=some (.lst s.gv)->Same H H'->H l=none->Q (.ref l) H')
inductive J5(ca:CA)(vs:List V)(H:Hp)(Q:VK)(E:XK):Prop where
 | mk(A:SAd)(S:Sea)(i:Int)(_:vs=[.ref A.p,.int i])(_:Zy ca H A S)(_:Dd ca H S i E fun s=>s.gaps.length<=1000/\∀ l ts H',H' l=some (.lst ts)->X4 (fun x=>H x=none/\x≠l) H' ts s.gaps->Same H H'->H l=none->Q (.ref l) H')
theorem Th(ks:List Str):∀ {fs:List (Str×V)},fs.map (·.1)=ks->(ks.all fun x=>!decide (x=f))=true->putF f v fs=fs++[(f,v)]:=by
 intro fs hk h;subst hk
 induction fs with
 | nil=>rfl
 | cons x fs ih =>
   rw[zs4,List.all_cons,zt6,Bool.not_eq_true',decide_eq_false_iff_not] at h
   obtain⟨k,y⟩:=x;show (if k=f then _ else _)=_
   rw[if_neg h.1,ih h.2];rfl
def sF1(l:V):List (Str×V):=[("length",l)]
def sF2(l r:V):List (Str×V):=[("length",l),("rest",r)]
def sF3(l r a:V):List (Str×V):=[("length",l),("rest",r),("roster",a)]
def sF4(l r a b:V):List (Str×V):=[("length",l),("rest",r),("roster",a),("ledger",b)]
def sF5(l r a b c:V):List (Str×V):=[("length",l),("rest",r),("roster",a),("ledger",b),("absent",c)]
def sF6(l r a b c d:V):List (Str×V):=[("length",l),("rest",r),("roster",a),("ledger",b),("absent",c),("sheets",d)]
def sF7(l r a b c d e:V):List (Str×V):=[("length",l),("rest",r),("roster",a),("ledger",b),("absent",c),("sheets",d),("sheet",e)]
def sF8(l r a b c d e f:V):List (Str×V):=[("length",l),("rest",r),("roster",a),("ledger",b),("absent",c),("sheets",d),("sheet",e),("standing",f)]
theorem pF1:putF "length" l []=sF1 l:=rfl
theorem pF2:putF "rest" r (sF1 l)=sF2 l r:=Th ["length"] rfl (by decide +kernel)
theorem pF3:putF "roster" a (sF2 l r)=sF3 l r a:=Th ["length","rest"] rfl (by decide +kernel)
theorem pF4:putF "ledger" b (sF3 l r a)=sF4 l r a b:=Th ["length","rest","roster"] rfl (by decide +kernel)
theorem pF5:putF "absent" c (sF4 l r a b)=sF5 l r a b c:=Th ["length","rest","roster","ledger"] rfl (by decide +kernel)
theorem pF6:putF "sheets" d (sF5 l r a b c)=sF6 l r a b c d:=Th ["length","rest","roster","ledger","absent"] rfl (by decide +kernel)
theorem pF7:putF "sheet" e (sF6 l r a b c d)=sF7 l r a b c d e:=Th ["length","rest","roster","ledger","absent","sheets"] rfl (by decide +kernel)
theorem pF8:putF "standing" f (sF7 l r a b c d e)=sF8 l r a b c d e f:=Th ["length","rest","roster","ledger","absent","sheets","sheet"] rfl (by decide +kernel)
theorem Vv.free{p:Addr}{H H':Hp}{x:Addr}(hb:∀ b o,H b=some o->b≠p->H' b=some o)(hp:∃ o,H' p=some o)(hx:H' x=none):H x=none:=by
 cases e:H x with
 | none=>rfl
 | some o =>
   by_cases z:x=p
   ·subst z;obtain⟨o',q⟩:=hp;rw[q] at hx;cases hx
   ·rw[hb x o e z] at hx;cases hx
def Vv(p:Addr)(H H':Hp):Prop:=∀ b o,H b=some o->b≠p->H' b=some o
theorem Vv.trans(a:Vv p H1 H2)(b:Vv p H2 H3):Vv p H1 H3:=fun x o e n=>b x o (a x o e n) n
theorem Vv.of(a:Same H1 H2):Vv p H1 H2:=fun x o e _=>a x o e
theorem Vv.put:Vv p H (upd H p o):=fun x o e n=>by rw[Zi n];exact e
end G

namespace L2
open PySem PySem.Spec PyProof.Rows
theorem zaa:Vo X (.type "dict") (fun xs H Q=>∃ a kvs,xs=[.ref a]/\Rd H a (.dK kvs)/\∀ p,H p=none->Q (.ref p) (upd H p (.dK kvs))):=by
 intro pins s σ H xs us Q I r h;obtain⟨a,kvs,rfl,ha,q⟩:=h;obtain⟨u,rfl,ru⟩:=T1 r;cases (show u=Value.ref a from ru)
 exact zdx I ha fun p s' hp I'=>⟨.ref p,_,I',rfl,q p hp⟩
end L2
namespace G
open PySem PySem.Spec PyProof.Rows L2
def Kd:List Int:=[0,1,2,3,4,5,6,7,8,9,10,0,0,0,1,1,1,2,2,0,1,3]
inductive Bh(K:PySem.W.Frag)(vs:List V)(H:Hp)(Q:VK)(_:XK):Prop where
 | mk(b:Addr)(ns:List Int)(_:vs=[.ref b])(_:SqL K H b (ns.map V.int))(_:∀ (q:Nat) H',q=(Kd.getD (Y4 ns 1%22).toNat 0).toNat->q<=10->Same H H'->Q (.int q) H')
def Qv(ns:List Int):Int:=if Y4 ns 0/2%2=0 then 60 else 1+Y4 ns 1/22%60
inductive J6(K:PySem.W.Frag)(vs:List V)(H:Hp)(Q:VK)(_:XK):Prop where
 | mk(b:Addr)(ns:List Int)(_:vs=[.ref b])(_:SqL K H b (ns.map V.int))(_:∀ (r:Nat) H',r=(Qv ns).toNat->1<=r->r<=60->Same H H'->Q (.int r) H')
inductive Bi(K:PySem.W.Frag)(vs:List V)(H:Hp)(Q:VK)(_:XK):Prop where
 | mk(b:Addr)(ns:List Int)(k:Nat)(_:vs=[.ref b,.int k])(_:SqL K H b (ns.map V.int))(_:k<ns.length)(_:∀ c H',Same H H'->Q (.int c) H')
structure O1(H:Hp)(t lc ln:Addr)(cs nu:List Int):Prop where
 tup:H t=some (.tup [.ref lc,.ref ln])
 clubs:H lc=some (.lst (cs.map V.int))
 nums:H ln=some (.lst (nu.map V.int))
 few:3<=cs.length/\cs.length<=10
 cnd:cs.Nodup
 crng:∀ c∈cs,1<=c/\c<=99
 nfew:1<=nu.length/\nu.length<=30
 nnd:nu.Nodup
 nrng:∀ n∈nu,1<=n/\n<=999
theorem O1.same{H H':Hp}{t lc ln:Addr}{cs nu:List Int}(h:O1 H t lc ln cs nu)(e:Same H H'):O1 H' t lc ln cs nu:=⟨e _ _ h.tup,e _ _ h.clubs,e _ _ h.nums,h.few,h.cnd,h.crng,h.nfew,h.nnd,h.nrng⟩
inductive Bj(K:PySem.W.Frag)(vs:List V)(H:Hp)(Q:VK)(_:XK):Prop where
 | mk(b:Addr)(ns:List Int)(cr:Nat)(_:vs=[.ref b,.int cr])(_:SqL K H b (ns.map V.int))(_:1<=cr)(_:cr<=30)(_:∀ t lc ln cs nu H',O1 H' t lc ln cs nu->nu.length=cr->Same H H'->H t=none->H lc=none->H ln=none->Q (.ref t) H')
theorem Bl(c:Int)(hi:i<10)(hj:j<10)(h:Ft c i=Ft c j):i=j:=by
 unfold Ft at h
 have hs:Ez c=1\/Ez c=2\/Ez c=5\/Ez c=10\/Ez c=50\/Ez c=97\/Ez c=98:=by
  unfold Ez;have h0:0<=c%7:=by omega
  have h1:c%7<7:=by omega
  generalize c%7=r at h0 h1
  obtain⟨k,rfl⟩:∃ k:Nat,r=k:=⟨r.toNat,by omega⟩
  rw[zta];have hk:k<7:=by omega
  match k,hk with
  | 0,_=>simp
  | 1,_=>simp
  | 2,_=>simp
  | 3,_=>simp
  | 4,_=>simp
  | 5,_=>simp
  | 6,_=>simp
 generalize c/7=x at h
 rcases hs with e|e|e|e|e|e|e<;>rw[e] at h<;>omega
theorem Bm(c:Int)(hm:m<=10):(Qn c m).Nodup:=by
 unfold Qn;rw[zul,List.pairwise_map];refine List.Pairwise.imp_of_mem (fun {i j} hi hj (hne:i≠j) z=>?_) (zul.mp List.nodup_range)
 exact hne (Bl c (by have:=zt1.mp hi;omega) (by have:=zt1.mp hj;omega) z)
theorem zct(c:Int)(m:Nat):∀ n∈Qn c m,1<=n/\n<=99:=fun n hn=>by
 unfold Qn at hn
 obtain⟨j,_,rfl⟩:=zs2.mp hn;unfold Ft;omega
theorem Bn(c:Int)(hm:m<=40):(L6 c m).Nodup:=by
 unfold L6;rw[zul,List.pairwise_map];refine List.Pairwise.imp_of_mem (fun {i j} hi hj (hne:i≠j) z=>?_) (zul.mp List.nodup_range)
 exact hne (zeb c (by have:=zt1.mp hi;omega) (by have:=zt1.mp hj;omega) z)
theorem zcu(c:Int)(m:Nat):∀ n∈L6 c m,1<=n/\n<=999:=fun n hn=>by
 unfold L6 at hn
 obtain⟨j,_,rfl⟩:=zs2.mp hn;unfold zca;omega
inductive R6 where
 | enrol (n g c:Int)|away (i n:Int)|draw (ms:List P3)|close|back
def Wy(ok:Addr->Prop)(H:Hp)(t:Addr):R6->Prop
 | .enrol n g c=>H t=some (.tup [.str "enrol",.int n,.int g,.int c])
 | .away i n=>H t=some (.tup [.str "away",.int i,.int n])
 | .draw ms=>∃ l ts,H t=some (.tup [.str "draw up",.ref l])/\H l=some (.lst ts)/\Z9 H ts (ms.map pV)/\ok l
 | .close=>H t=some (.tup [.str "close"])
 | .back=>H t=some (.tup [.str "take back"])
def zey(S:Sea):Prop:=∀ s,S.cur=some s->s.ms.length<=20/\Yn s.may s.gv/\Uy s.may s.gv/\s.may=mayS S s.ms/\s.gaps.length<=S.std.length
def Ke(S S':Sea):Prop:=∃ d:S8,S'.std=S.std++[(d,S.cur)]/\zex S' d S.ppl S.out/\S'.len=S.len/\S'.rest=S.rest/\S'.led=S.led/\S'.old=S.old
def Kf(S:Sea):R6->Prop
 | .enrol n g c=>S.led.length<S.len/\S.cur=none/\¬ badI n g c/\n∉S.ppl.map (·.1)/\S.ppl.length<30
 | .away i n=>(S.led.length:Int)<i/\i<=S.len/\n∈S.ppl.map (·.1)/\(i,n)∉S.out
 | .draw ms=>S.led.length<S.len/\S.cur=none/\ms.length<=20/\(∀ m∈ms,¬ badM m)/\∀ m∈ms,m.1≠m.2.1
 | .close=>S.led.length<S.len/\S.cur≠none
 | .back=>S.std≠[]
inductive S9(H':Hp)(S:Sea):R6->Sea->V->Prop where
 | enrol (n g c:Int):S9 H' S (.enrol n g c) { S with ppl:=S.ppl++[(n,g,c)],std:=S.std++[(((("enrol":Str),n,atV S):S8),S.cur)] } .non
 | awayN {i n:Int} {l:Addr} (h:S.cur=none\/atV S<i) (hl:H' l=some (.lst [])):S9 H' S (.away i n) (Xj S i n) (.ref l)
 | awayF {n:Int} {s:Z3} {l:Addr} (h:S.cur=some s) (hp:X1 s.gv n=none) (hl:H' l=some (.lst [])):S9 H' S (.away (atV S) n) { Xj S (atV S) n with cur:=some { s with may:=mayS (Xj S (atV S) n) s.ms } } (.ref l)
 | awayC {n:Int} {s:Z3} {p e:Nat} {l:Addr} {us:List V} {st:List (Nat×Option Int)} {w:Option Int} (h:S.cur=some s) (hp:X1 s.gv n=some p) (hl:H' l=some (.lst us)) (tl:Z9 H' us (st.map We)) (CR:Yt (mayS (Xj S (atV S) n) s.ms) (s.gv.set p .non) p st e w) :
   S9 H' S (.away (atV S) n) { Xj S (atV S) n with cur:=some ⟨s.ms,mayS (Xj S (atV S) n) s.ms,Yf st (s.gv.set p .non),s.gaps++[(n,st)]⟩ } (.ref l)
 | draw {ms:List P3} {gv:List V} {l:Addr} (hl:H' l=some (.lst gv)) (F:Yn (mayS S ms) gv) (T:Uy (mayS S ms) gv):S9 H' S (.draw ms) (zeu S ms gv) (.ref l)
 | close {s:Z3} (h:S.cur=some s):S9 H' S .close (Dc S s) (.int (atV S))
 | back {S0:Sea} {d:S8} {t:Addr} (h:S.std=S0.std++[(d,S0.cur)]) (ht:H' t=some (.tup (Oa d))) (hs:Ke S0 S):S9 H' S .back S0 (.ref t)
def J7(A A':SAd)(H:Hp):Prop:=∃ x,A'={ A with lt:=x }/\(x=A.lt\/H x=none)
inductive zih(K:PySem.W.Frag)(ca:CA)(vs:List V)(H:Hp)(Q:VK)(_:XK):Prop where
 | mk(A:SAd)(S:Sea)(t:Addr)(d:R6)(_:vs=[.ref A.p,.ref t])(_:Zy ca H A S)(_:Wy (·∉A.fp) H t d)(_:Kf S d)(_:zey S)(_:Qu S)(_:S.std.length<100)(_:S.out.length<=100000)(_:2*(tot S.led+1000)<=100000)(_:S.led.length<=1000)(_:S.old.length<=1000)(_:S.len<=1000)(_:(∀ i n,d=.away i n->Y6 n))(_:(d=.back->∃ S0,Ke S0 S))(_:∀ v A' S' H',S9 H' S d S' v->Zy ca H' A' S'->J7 A A' H->FrS A H H'->(∀ l,v=.ref l->(∃ xs,H' l=some (.lst xs))->H l=none)->Q v H')
abbrev Xr(b:List Stmt)(i:Nat):Stmt:=b.getD i (.Pass ⟨0,0,0,0⟩)
def zgg:Stmt->Expr|.Return (some e) _=>e|_=>.Constant .none 0 ⟨0,0,0,0⟩
def stP:Stmt->Pos|.Return _ p=>p|.Assign _ _ p=>p|_=>⟨0,0,0,0⟩
def zez:Stmt->List Expr|.Assign ts _ _=>ts|_=>[]
def Pt:Stmt->Expr|.Assign _ v _=>v|_=>.Constant .none 0 ⟨0,0,0,0⟩
def Bo:Expr->Expr|.Subscript a _ _=>a|e=>e
def zgh:Expr->Expr|.Subscript _ b _=>b|e=>e
def zgi:Expr->Pos|.Subscript _ _ p=>p|_=>⟨0,0,0,0⟩
def zcv:Expr->List Expr|.List es _=>es|_=>[]
def zcw:Expr->Pos|.List _ p=>p|_=>⟨0,0,0,0⟩
def Kg:List Int->TA
 | []=>tNil
 | x :: xs=>P8 (tC (.int x)) (Kg xs)
theorem Ef:∀ (xs:List Int) (σ:L2.St) (H:Hp) (Q:List V->Hp->Prop),Q (xs.map V.int) H->Kg xs σ H Q
 | [],_,_,_,h=>h
 | x :: xs,σ,H,Q,h=>Ef xs σ H (fun ys H2=>Q (.int x :: ys) H2) h
structure J8(es:List Expr)(xs:List Int):Prop where
 len:es.length=xs.length
 same:List.zipWith (fun i (e:Expr)=>Expr.Constant (.int i) 0 e.pos) xs es=es
theorem Pm(xs:List Int)(h:J8 es xs):PA X es (Kg xs):=by
 obtain⟨h1,h2⟩:=h
 induction xs generalizing es with
 | nil =>
   have:=zup.mp h1;subst this;exact Zd
 | cons x xs ih =>
   cases es with
   | nil=>cases h1
   | cons e es =>
     rw[List.zipWith_cons_cons] at h2
     obtain⟨e1,e2⟩:=List.cons.inj h2;rw[<- e1];exact Za Zg (ih (Nat.succ.inj h1) e2) rfl
theorem Bp(xs:List Int)(hz:xs.length<=1000)(h:∀ l,H l=none->Q (.ref l) (upd H l (.lst (xs.map V.int)))):tLst (Kg xs) σ H Q:=by
 refine Ef xs σ H _ ⟨?_,h⟩;rw[zst];exact szN hz
theorem zbl{K:PySem.W.Frag}(xs:List Int){ti:TE}{σ:L2.St}{H:Hp}{Q:VK}(hz:xs.length<=1000)(h:∀ l H1,H1 l=some (.lst (xs.map V.int))->Same H H1->H l=none->ti σ H1 fun y H2=>Gb K (.ref l) y H2 Q):tOp (Gb K) (tLst (Kg xs)) ti σ H Q :=
 Bp xs hz fun l hl=>h l _ Zc (Zf hl) hl
theorem zii{K:PySem.W.Frag}(xs:List Int){ti:TE}{D:Pp}{σ:L2.St}{H:Hp}(hz:xs.length<=1000)(h:∀ l H1,H1 l=some (.lst (xs.map V.int))->Same H H1->H l=none->ti σ H1 fun y H2=>Gb K (.ref l) y H2 D.rt):zdh (tOp (Gb K) (tLst (Kg xs)) ti) D σ H:=zbl (Q:=D.rt) xs hz h
theorem zij{K:PySem.W.Frag}(xs:List Int){ti:TE}{i:Nat}{u:TS}{D:Pp}{σ:L2.St}{H:Hp}(hz:xs.length<=1000)(h:∀ l H1,H1 l=some (.lst (xs.map V.int))->Same H H1->H l=none->ti σ H1 fun y H2=>Gb K (.ref l) y H2 fun x H3=>u D (σ.set i (some x)) H3):Zx (zbs (tOp (Gb K) (tLst (Kg xs)) ti) (Vn i)) u D σ H:=zbl xs hz h
theorem Bq(xs:List Int)(hz:xs.length<=1000)(h:∀ l H1,H1 l=some (.lst (xs.map V.int))->Same H H1->H l=none->u D (σ.set i (some (.ref l))) H1):Zx (zbs (tLst (Kg xs)) (Vn i)) u D σ H :=
 Bp (σ:=σ) (H:=H) (Q:=fun x H3=>u D (σ.set i (some x)) H3) xs hz fun l hl=>h l _ Zc (Zf hl) hl
theorem Gn:decide (V.str a=V.str a)=true:=zsy rfl
theorem V9(h:decide (a=b)=false):decide (V.str a=V.str b)=false:=zs8 fun z=>of_decide_eq_false h (V.str.inj z)
theorem J7.refl(A:SAd)(H:Hp):J7 A A H:=⟨A.lt,rfl,.inl rfl⟩
abbrev ze0:=List (Int×List (Nat×Option Int))
structure Pg where
 len:Nat
 rest:Nat
 ppl:RL
 out:List (Int×Int)
 over:List Z3
 deed:Option S8
 lis:Option (List P3)
 gv:List V
 mv:ze0
def pgF(len rest:Nat)(lp lo lv:Addr)(dv li:V)(lg lm:Addr):List (Key×V):=[(.inr "rounds",.int len),(.inr "rest",.int rest),(.inr "people",.ref lp),(.inr "out",.ref lo),(.inr "over",.ref lv),(.inr "deed",dv),(.inr "listed",li),(.inr "goes",.ref lg),(.inr "moves",.ref lm)]
def oiV(x:Int×Int):List V:=[.int x.1,.int x.2]
def M3(ok:Addr->Prop)(H:Hp)(v:V):Option (List P3)->Prop
 | none=>v=.non
 | some ms=>∃ l ts,v=.ref l/\H l=some (.lst ts)/\Z9 H ts (ms.map pV)/\ok l
def Br(H:Hp)(v:V):Option S8->Prop
 | none=>v=.non
 | some d=>∃ t,v=.ref t/\H t=some (.tup (Oa d))
inductive Xg(ok:Addr->Prop)(H:Hp):List V->List Z3->Prop where
 | nil:Xg ok H [] []
 | cons {t l g m y:Addr} {ts mts:List V} {ls:List Addr} {s:Z3} {vs:List V} {ss:List Z3} (h:H t=some (.tup [.ref l,.ref g,.ref m,.ref y])) (hl:H l=some (.lst ts)) (tl:Z9 H ts (s.ms.map pV)) (hg:H g=some (.lst s.gv)) (hm:H m=some (.lst mts)) (gm:X4 ok H mts s.gaps)
   (hy:H y=some (.lst (ls.map V.ref))) (iy:ILs H ls s.may) (o:ok l/\ok g/\ok m/\ok y/\∀ x∈ls,ok x) (r:Xg ok H vs ss):Xg ok H (.ref t :: vs) (s :: ss)
theorem M3.keep(h:M3 ok H v x)(k:∀ x o,ok x->H x=some o->H' x=some o)(kt:∀ t xs,H t=some (.tup xs)->H' t=some (.tup xs)):M3 ok H' v x:=by
 cases x with
 | none=>exact h
 | some ms=>obtain⟨l,ts,e,a,b,o⟩:=h;exact⟨l,ts,e,k _ _ o a,b.mono kt,o⟩
theorem M3.imp(h:M3 ok H v x)(k:∀ x,(∃ o,H x=some o)->ok x->ok' x):M3 ok' H v x:=by
 cases x with
 | none=>exact h
 | some ms=>obtain⟨l,ts,e,a,b,o⟩:=h;exact⟨l,ts,e,a,b,k _ ⟨_,a⟩ o⟩
theorem Br.keep(h:Br H v x)(kt:∀ t xs,H t=some (.tup xs)->H' t=some (.tup xs)):Br H' v x:=by
 cases x with
 | none=>exact h
 | some d=>obtain⟨t,e,a⟩:=h;exact⟨t,e,kt _ _ a⟩
theorem Xg.keep(k:∀ x o,ok x->H x=some o->H' x=some o)(kt:∀ t xs,H t=some (.tup xs)->H' t=some (.tup xs)):∀ {vs:List V} {ss:List Z3},Xg ok H vs ss->Xg ok H' vs ss
 | _,_,.nil=>.nil
 | _,_,.cons h hl tl hg hm gm hy iy o r=>.cons (kt _ _ h) (k _ _ o.1 hl) (tl.mono kt) (k _ _ o.2.1 hg) (k _ _ o.2.2.1 hm) (gm.keep k kt) (k _ _ o.2.2.2.1 hy) (iy.keep fun x hx _ q=>k _ _ (o.2.2.2.2 x hx) q) o (Xg.keep k kt r)
theorem Xg.imp(k:∀ x,(∃ o,H x=some o)->ok x->ok' x):∀ {vs:List V} {ss:List Z3},Xg ok H vs ss->Xg ok' H vs ss
 | _,_,.nil=>.nil
 | _,_,.cons h hl tl hg hm gm hy iy o r=>.cons h hl tl hg hm (gm.imp k) hy iy ⟨k _ ⟨_,hl⟩ o.1,k _ ⟨_,hg⟩ o.2.1,k _ ⟨_,hm⟩ o.2.2.1,k _ ⟨_,hy⟩ o.2.2.2.1,fun x hx=>k _ (let ⟨_,z⟩:=iy.has hx;⟨_,z⟩) (o.2.2.2.2 x hx)⟩ (Xg.imp k r)
theorem Xg.length:∀ {vs:List V} {ss:List Z3},Xg ok H vs ss->vs.length=ss.length
 | _,_,.nil=>rfl
 | _,_,.cons _ _ _ _ _ _ _ _ _ r=>by simp[Xg.length r]
theorem Xg.snoc(h:H t=some (.tup [.ref l,.ref g,.ref m,.ref y]))(hl:H l=some (.lst ts))(tl:Z9 H ts (s.ms.map pV))(hg:H g=some (.lst s.gv))(hm:H m=some (.lst mts))(gm:X4 ok H mts s.gaps)
   (hy:H y=some (.lst (ls.map V.ref))) (iy:ILs H ls s.may) (o:ok l/\ok g/\ok m/\ok y/\∀ x∈ls,ok x):∀ {vs:List V} {ss:List Z3},Xg ok H vs ss->Xg ok H (vs++[.ref t]) (ss++[s])
 | _,_,.nil=>.cons h hl tl hg hm gm hy iy o .nil
 | _,_,.cons h' hl' tl' hg' hm' gm' hy' iy' o' r=>.cons h' hl' tl' hg' hm' gm' hy' iy' o' (Xg.snoc h hl tl hg hm gm hy iy o r)
theorem Xg.get:∀ {vs:List V} {ss:List Z3} {i:Nat} {x:V},Xg ok H vs ss->vs[i]?=some x->∃ t l g m y ts s,x=.ref t/\ss[i]?=some s/\H t=some (.tup [.ref l,.ref g,.ref m,.ref y])/\H l=some (.lst ts)/\Z9 H ts (s.ms.map pV)/\H g=some (.lst s.gv)/\ok l/\ok g
 | _,_,_,_,.nil,e=>by simp at e
 | _,_,0,_,.cons h hl tl hg _ _ _ _ o _,e=>by simp at e;subst e;exact⟨_,_,_,_,_,_,_,rfl,rfl,h,hl,tl,hg,o.1,o.2.1⟩
 | _,_,i+1,x,.cons _ _ _ _ _ _ _ _ _ r,e=>by
   obtain⟨t,l,g,m,y,ts,s,h1,h2,h3⟩:=Xg.get (i:=i) (x:=x) r (by simpa using e)
   exact⟨t,l,g,m,y,ts,s,h1,by simpa using h2,h3⟩
structure PgAt(ok:Addr->Prop)(H:Hp)(d:Addr)(P:Pg):Prop where
 ex:∃ lp lo lv dv li lg lm pts ots vts mts,H d=some (.dK (pgF P.len P.rest lp lo lv dv li lg lm))/\H lp=some (.lst pts)/\Z9 H pts (P.ppl.map pV)/\H lo=some (.lst ots)/\Z9 H ots (P.out.map oiV)/\H lv=some (.lst vts)/\Xg ok H vts P.over/\Br H dv P.deed/\M3 ok H li P.lis/\H lg=some (.lst P.gv)/\H lm=some (.lst mts)/\X4 ok H mts P.mv /\
  (ok d/\ok lp/\ok lo/\ok lv/\ok lg/\ok lm)
theorem PgAt.keep(h:PgAt ok H d P)(k:∀ x o,ok x->H x=some o->H' x=some o)(kt:∀ t xs,H t=some (.tup xs)->H' t=some (.tup xs)):PgAt ok H' d P:=by
 obtain⟨lp,lo,lv,dv,li,lg,lm,pts,ots,vts,mts,a1,a2,a3,a4,a5,a6,a7,a8,a9,b1,b2,b3,o1,o2,o3,o4,o5,o6⟩:=h;exact⟨lp,lo,lv,dv,li,lg,lm,pts,ots,vts,mts,k _ _ o1 a1,k _ _ o2 a2,a3.mono kt,k _ _ o3 a4,a5.mono kt,k _ _ o4 a6,a7.keep k kt,a8.keep kt,a9.keep k kt,k _ _ o5 b1,k _ _ o6 b2,b3.keep k kt,o1,o2,o3,o4,o5,o6⟩
theorem PgAt.imp(h:PgAt ok H d P)(k:∀ x,(∃ o,H x=some o)->ok x->ok' x):PgAt ok' H d P:=by
 obtain⟨lp,lo,lv,dv,li,lg,lm,pts,ots,vts,mts,a1,a2,a3,a4,a5,a6,a7,a8,a9,b1,b2,b3,o1,o2,o3,o4,o5,o6⟩:=h;exact⟨lp,lo,lv,dv,li,lg,lm,pts,ots,vts,mts,a1,a2,a3,a4,a5,a6,a7.imp k,a8,a9.imp k,b1,b2,b3.imp k,k _ ⟨_,a1⟩ o1,k _ ⟨_,a2⟩ o2,k _ ⟨_,a4⟩ o3,k _ ⟨_,a6⟩ o4,k _ ⟨_,b1⟩ o5,k _ ⟨_,b2⟩ o6⟩
theorem PgAt.same(h:PgAt ok H d P)(e:Same H H'):PgAt ok H' d P:=h.keep (fun _ _ _ q=>e _ _ q) fun _ _ q=>e _ _ q
section
variable{len rest:Nat}{lp lo lv lg lm:Addr}{dv li:V}
theorem zab:putK (pgF len rest lp lo lv dv li lg lm) (.inr "people") (.ref x)=pgF len rest x lo lv dv li lg lm:=rfl
theorem zgj:putK (pgF len rest lp lo lv dv li lg lm) (.inr "out") (.ref x)=pgF len rest lp x lv dv li lg lm:=rfl
theorem ze1:putK (pgF len rest lp lo lv dv li lg lm) (.inr "over") (.ref x)=pgF len rest lp lo x dv li lg lm:=rfl
theorem J9:putK (pgF len rest lp lo lv dv li lg lm) (.inr "deed") v=pgF len rest lp lo lv v li lg lm:=rfl
theorem Ia:putK (pgF len rest lp lo lv dv li lg lm) (.inr "listed") v=pgF len rest lp lo lv dv v lg lm:=rfl
theorem Bs:putK (pgF len rest lp lo lv dv li lg lm) (.inr "goes") (.ref x)=pgF len rest lp lo lv dv li x lm:=rfl
theorem Eg:putK (pgF len rest lp lo lv dv li lg lm) (.inr "moves") (.ref x)=pgF len rest lp lo lv dv li lg x:=rfl
end
theorem zac{len rest:Nat}{lp lo lv lg lm:Addr}{dv li:V}:(pgF len rest lp lo lv dv li lg lm).length<sizeLine:=by rw[sizeLine_eq];show 9<_;decide
def pg6(len rest:Nat)(lp lo lv:Addr)(dv:V):List (Key×V):=[(.inr "rounds",.int len),(.inr "rest",.int rest),(.inr "people",.ref lp),(.inr "out",.ref lo),(.inr "over",.ref lv),(.inr "deed",dv)]
theorem zcx{len rest:Nat}{lp lo lv:Addr}{dv:V}:Ux [] (pg6 len rest lp lo lv dv)=pg6 len rest lp lo lv dv:=rfl
theorem zgk{len rest:Nat}{lp lo lv:Addr}{dv x y z:V}:putK (putK (putK (pg6 len rest lp lo lv dv) (.inr "listed") x) (.inr "goes") y) (.inr "moves") z=pg6 len rest lp lo lv dv++[(.inr "listed",x),(.inr "goes",y),(.inr "moves",z)]:=rfl
theorem M4{len rest:Nat}{lp lo lv:Addr}{dv x y:V}:(pg6 len rest lp lo lv dv).length<sizeLine/\(putK (pg6 len rest lp lo lv dv) (.inr "listed") x).length<sizeLine/\(putK (putK (pg6 len rest lp lo lv dv) (.inr "listed") x) (.inr "goes") y).length<sizeLine:=by
 rw[sizeLine_eq];exact⟨by show 6<_;decide,by show 7<_;decide,by show 8<_;decide⟩
def zad(r q:Nat):Pg:=⟨r,q,[],[],[],none,none,[],[]⟩
inductive zbm(vs:List V)(H:Hp)(Q:VK)(_:XK):Prop where
 | mk(r q:Nat)(_:vs=[.int r,.int q])(_:∀ d H',PgAt (fun x=>H x=none) H' d (zad r q)->Same H H'->H d=none->Q (.ref d) H')
def M5(P:Pg):Prop:=P.over.length<=100/\P.rest<=100/\∀ s∈P.over,s.ms.length<=20/\s.gv.length=s.ms.length/\∀ x∈s.gv,oneV x
def ze2(kvs:List (List Key×V))(P:Pg):Prop:=∀ n c:Int,(valV kvs [Sum.inl n,Sum.inl c]).isSome=R1 (P.over.map Yb) n c P.rest
inductive zbn(K:PySem.W.Frag)(vs:List V)(H:Hp)(Q:VK)(_:XK):Prop where
 | mk(ok:Addr->Prop)(d:Addr)(P:Pg)(_:vs=[.ref d])(_:PgAt ok H d P)(_:M5 P)(_:∀ m kvs H',H' m=some (.dT kvs)->ze2 kvs P->Same H H'->H m=none->Q (.ref m) H')
theorem ze3(xs:List V)(n r:Nat):Ga xs (some (if ((n:Int)-r)>0 then (n:Int)-r else 0)) none=xs.drop ((n:Int)-r).toNat:=by
 have e:(if ((n:Int)-r)>0 then (n:Int)-r else 0)=((((n:Int)-r).toNat:Nat):Int):=by split<;>omega
 rw[e];exact zch xs _
theorem Xg.drop:∀ (k:Nat) {vs:List V} {ss:List Z3},Xg ok H vs ss->Xg ok H (vs.drop k) (ss.drop k)
 | 0,_,_,h=>h
 | _+1,_,_,.nil=>.nil
 | k+1,_,_,.cons _ _ _ _ _ _ _ _ _ r=>Xg.drop k r
def HitI(ss:List Z3)(i j:Nat)(n c:Int):Prop:=(∃ s∈ss.take i,∃ r∈Yb s,hit n c r=true)\/∃ s,ss[i]?=some s/\∃ r∈(Yb s).take j,hit n c r=true
def O2(kvs:List (List Key×V))(ss:List Z3)(i j:Nat):Prop:=∀ n c:Int,(valV kvs [Sum.inl n,Sum.inl c]).isSome=true↔HitI ss i j n c
theorem Wr{α:Type}{l:List α}{j:Nat}{x:α}(h:l[j]?=some x):l.take (j+1)=l.take j++[x]:=by rw[zt8,h];rfl
theorem O2.zero(ss:List Z3):O2 [] ss 0 0:=fun n c=>by
 unfold HitI;simp[zdr]
theorem O2.next{kvs:List (List Key×V)}{ss:List Z3}{i:Nat}{s:Z3}(h:O2 kvs ss i (Yb s).length)(hs:ss[i]?=some s):O2 kvs ss (i+1) 0:=fun n c=>by
 rw[h n c];unfold HitI;rw[Wr hs,hs];constructor
 ·rintro(⟨s',h1,h2⟩|⟨s',h1,r,h2,h3⟩)
  ·exact .inl ⟨s',ztf _ h1,h2⟩
  ·cases h1
   exact .inl ⟨s,zs9 _ (zuq _),r,List.mem_of_mem_take h2,h3⟩
 ·rintro(⟨s',h1,r,h2,h3⟩|⟨s',h1,r,h2,h3⟩)
  ·rcases zs6.mp h1 with h1|h1
   ·exact .inl ⟨s',h1,r,h2,h3⟩
   ·cases zsx.mp h1
    exact .inr ⟨_,rfl,r,by rw[zte];exact h2,h3⟩
  ·simp at h2
theorem HitI.succ{ss:List Z3}{i j:Nat}{n c:Int}{s:Z3}{r:Row}(hs:ss[i]?=some s)(hr:(Yb s)[j]?=some r):HitI ss i (j+1) n c↔HitI ss i j n c\/hit n c r=true:=by
 unfold HitI;rw[hs];constructor
 ·rintro(z|⟨s',h1,r',h2,h3⟩)
  ·exact .inl (.inl z)
  ·cases h1
   rw[Wr hr] at h2
   rcases zs6.mp h2 with h2|h2
   ·exact .inl (.inr ⟨_,rfl,r',h2,h3⟩)
   ·cases zsx.mp h2;exact .inr h3
 ·rintro((z|⟨s',h1,r',h2,h3⟩)|z)
  ·exact .inl z
  ·cases h1
   exact .inr ⟨_,rfl,r',by rw[Wr hr];exact ztf _ h2,h3⟩
  ·exact .inr ⟨_,rfl,r,by rw[Wr hr];exact zs9 _ (zuq _),z⟩
theorem O2.none(h:O2 kvs ss i j)(hs:ss[i]?=some s)(hr:(Yb s)[j]?=some r)(hw:r.w=none):O2 kvs ss i (j+1):=fun n c=>by
 rw[h n c,HitI.succ hs hr];unfold hit;rw[hw];simp
theorem O2.some(h:O2 kvs ss i j)(hs:ss[i]?=some s)(hr:(Yb s)[j]?=some r)(hw:r.w=some w):O2 (putK (putK kvs [Sum.inl w,Sum.inl r.h] v) [Sum.inl w,Sum.inl r.g] v') ss i (j+1):=fun n c=>by
 rw[HitI.succ hs hr,<- h n c,Vp,Vp];unfold hit;rw[hw];by_cases e1:([Sum.inl n,Sum.inl c]:List Key)=[Sum.inl w,Sum.inl r.g]
 ·rw[if_pos e1]
  have:=e1;simp at this
  obtain⟨rfl,rfl⟩:=this;simp
 ·rw[if_neg e1]
  by_cases e2:([Sum.inl n,Sum.inl c]:List Key)=[Sum.inl w,Sum.inl r.h]
  ·rw[if_pos e2]
   have:=e2;simp at this
   obtain⟨rfl,rfl⟩:=this;simp
  ·rw[if_neg e2]
   constructor
   ·exact .inl
   ·rintro(z|z)
    ·exact z
    ·exfalso
     simp at z e1 e2
     obtain⟨z1,z2|z2⟩:=z
     ·exact e2 z1.symm z2.symm
     ·exact e1 z1.symm z2.symm
theorem O2.all(h:O2 kvs (P.over.drop k) (P.over.drop k).length 0)(hk:k=((P.over.length:Int)-P.rest).toNat):ze2 kvs P:=fun n c=>by
 apply zu2.mpr;rw[h n c,zcg (Int.natCast_nonneg _),zst,<- hk,<- List.map_drop];unfold HitI;rw[zte];constructor
 ·rintro(⟨s,h1,h2⟩|⟨s,h1,r,h2,_⟩)
  ·exact⟨Yb s,zs2.mpr ⟨s,h1,rfl⟩,h2⟩
  ·simp at h2
 ·rintro⟨rs,h1,h2⟩
  obtain⟨s,h3,rfl⟩:=zs2.mp h1;exact .inl ⟨s,h3,h2⟩
end G

namespace L2
open PySem PySem.Spec PyProof.Rows G
def Ua(x:Int×Int):Dt:=.tup [.int x.1,.int x.2]
theorem Ib{K:PySem.W.Frag}{H:Hp}:∀ {ts:List V} {ps:List (Int×Int)},Z9 H ts (ps.map oiV)->Wd K H ts (ps.map Ua)
 | _,[],h=>by cases h;exact .nil
 | _,p :: ps,h=>by
   rw[zs4] at h
   cases h with
   | cons e r=>exact .cons (.tup (SqT.of e) (.cons (.int _) (.cons (.int _) .nil))) (Ib r)
theorem M6:∀ ps:List (Int×Int),PyData.canLayAll0 (Xe (ps.map Ua))=true
 | []=>rfl
 | p :: ps=>by
   rw[zs4,Xe,PyData.canLayAll0,M6 ps];rfl
theorem M7:∀ ps:List (Int×Int),((Xe (ps.map Ua)).any fun y=>PyData.eqv y (toPy (Ua (a,b))))=decide ((a,b)∈ps)
 | []=>by simp[Xe]
 | p :: ps=>by
   rw[zs4,Xe,zuv,M7 ps,Nt];obtain⟨p1,p2⟩:=p;have e:eqD (Ua (p1,p2)) (Ua (a,b))=decide ((a,b)=(p1,p2)):=by
    rw[Ua,Ua,eqD,Pq,Pq,Pq,eqD,eqD];by_cases h1:p1=a
    ·by_cases h2:p2=b
     ·subst h1;subst h2;simp
     ·rw[zs8 (fun z=>h2 (Prod.mk.inj z).2.symm)]
      simp[h2]
    ·rw[zs8 (fun z=>h1 (Prod.mk.inj z).1.symm)]
     simp[h1]
   rw[e,<- Bool.decide_or];exact decide_eq_decide.mpr zsz.symm
inductive zgl(K:PySem.W.Frag)(neg:Bool)(x:V)(y:V)(H:Hp)(Q:VK):Prop where
 | mk(t p:Addr)(ts:List V)(a b:Int)(ps:List (Int×Int))(_:x=.ref t)(_:y=.ref p)(_:SqT K H t [.int a,.int b])(_:SqL K H p ts)(_:Z9 H ts (ps.map oiV))(_:Q (.bl (if neg then !decide ((a,b)∈ps) else decide ((a,b)∈ps))) H)
section
variable{X:Cx}{K:PySem.W.Frag}
theorem Bt(hu:X.A.units+64<cLine):OpR X (compareOp .In) (zgl X.K false):=by
 intro pins s σ H x y v u Q I rx ry h;obtain⟨t,p,ts,a,b,ps,rfl,rfl,ht,hp,tl,q⟩:=h;obtain⟨as,r1⟩:=Is.reads I (Is.tup ht (.cons (.int a) (.cons (.int b) .nil)):Is X.K H (.ref t) (Ua (a,b))) rx;have r1:Reads s.heap v (toPy (Ua (a,b))) as:=r1;obtain⟨bs,r2⟩:=Is.reads I (Is.lst hp (Ib tl)) ry;rw[toPy] at r2
 have hd:(toPy (Ua (a,b))).depth=1:=rfl;refine SeqAt.in_list_reads r2 r1 (M6 ps) rfl ?_ ?_
 ·have:=Nat.min_le_right (PyData.depthAll (Xe (ps.map Ua))) (toPy (Ua (a,b))).depth
  rw[hd] at this ⊢
  omega
 ·rw[M7];exact⟨.bl _,H,I,rfl,q⟩
theorem Ie(hu:X.A.units+64<cLine):OpR X (compareOp .NotIn) (zgl X.K true):=by
 intro pins s σ H x y v u Q I rx ry h;obtain⟨t,p,ts,a,b,ps,rfl,rfl,ht,hp,tl,q⟩:=h;obtain⟨as,r1⟩:=Is.reads I (Is.tup ht (.cons (.int a) (.cons (.int b) .nil)):Is X.K H (.ref t) (Ua (a,b))) rx;have r1:Reads s.heap v (toPy (Ua (a,b))) as:=r1;obtain⟨bs,r2⟩:=Is.reads I (Is.lst hp (Ib tl)) ry;rw[toPy] at r2
 have hd:(toPy (Ua (a,b))).depth=1:=rfl;refine SeqAt.notIn_list_reads r2 r1 (M6 ps) rfl ?_ ?_
 ·have:=Nat.min_le_right (PyData.depthAll (Xe (ps.map Ua))) (toPy (Ua (a,b))).depth
  rw[hd] at this ⊢
  omega
 ·rw[M7];exact⟨.bl _,H,I,rfl,q⟩
theorem De(hK:X.K=K)(hu:X.A.units+64<cLine):OpR X (compareOp .In) (zgl K false):=hK▸Bt hu
theorem Kr(hK:X.K=K)(hu:X.A.units+64<cLine):OpR X (compareOp .NotIn) (zgl K true):=hK▸Ie hu
end
end L2

namespace G
open PySem PySem.Spec PyProof.Rows L2
def Pu(P:Pg)(x m:P3):List Str:=whyS (P.over.map Yb) x.1 x.2.1 x.2.2 m.1 m.2.1 m.2.2 (decide (((P.over.length:Int)+1,x.1)∈P.out)) P.rest
inductive Bu(K:PySem.W.Frag)(vs:List V)(H:Hp)(Q:VK)(_:XK):Prop where
 | mk(ok:Addr->Prop)(d m t1 t2:Addr)(P:Pg)(kvs:List (List Key×V))(x y:P3)(_:vs=[.ref d,.ref m,.ref t1,.ref t2])(_:PgAt ok H d P)(_:H m=some (.dT kvs))(_:ze2 kvs P)(_:H t1=some (.tup (pV x)))(_:H t2=some (.tup (pV y)))(_:∀ l H',H' l=some (.lst ((Pu P x y).map V.str))->Same H H'->H l=none->Q (.ref l) H')
def Sg(P:Pg)(ms:List P3):List (List Int):=ms.map fun m=>(P.ppl.filter fun x=>(Pu P x m).isEmpty).map (·.1)
theorem zcy(h1:P.ppl=S.ppl)(h2:P.over.map Yb=S.led)(h3:P.out=S.out)(h4:P.rest=S.rest)(h5:((P.over.length:Int)+1)=atV S)(ms:List P3):Sg P ms=mayS S ms:=by
 unfold Sg mayS;refine zuo fun m _=>?_
 unfold Gk Pu pIn;rw[h1,h2,h3,h4,h5]
inductive Df(K:PySem.W.Frag)(vs:List V)(H:Hp)(Q:VK)(_:XK):Prop where
 | mk(ok:Addr->Prop)(d:Addr)(P:Pg)(ms:List P3)(_:vs=[.ref d])(_:PgAt ok H d P)(_:M5 P)(_:P.lis=some ms)(_:ms.length<=100)(_:P.ppl.length<=100)(_:∀ l ls H',H' l=some (.lst (ls.map V.ref))->ILs H' ls (Sg P ms)->Same H H'->H l=none->(∀ x∈ls,H x=none)->Q (.ref l) H')
theorem zgm(r:List Str)(ok:∀ w∈r,PyData.strOk w=true):shD (.lst (r.map Dt.str)):=by
 have h:PyData.canLayAll0 (Xe (r.map Dt.str))=true/\PyData.depthAll (Xe (r.map Dt.str))<=1:=by
  induction r with
  | nil=>exact⟨rfl,by decide⟩
  | cons x r ih =>
    obtain⟨h1,h2⟩:=ih fun w hw=>ok w (ztc _ hw)
    have h0:=ok x (zto);refine⟨?_,?_⟩
    ·rw[zs4,Xe,PyData.canLayAll0,h1];simp[toPy,PyData.canLay0,h0]
    ·rw[zs4,Xe,PyData.depthAll]
     have:PyData.depth (toPy (Dt.str x))<=1:=by simp[toPy,PyData.depth]
     omega
 unfold shD SeqAt.shaped;rw[toPy,PyData.canLay0,h.1,Bool.true_and];refine zsy ?_;rw[PyData.depth];have:=h.2;omega
theorem Ig{K:PySem.W.Frag}{H:Hp}:∀ ws:List Str,Wd K H (ws.map V.str) (ws.map Dt.str)
 | []=>.nil
 | w :: ws=>.cons (.str w) (Ig ws)
theorem zik(h:x∈bw b w):x=w:=by
 cases b<;>simp[bw] at h;exact h
theorem zgn{Rs:List (List Row)}{n g c h gu d:Int}{o:Bool}{rest:Int}:∀ w∈whyS Rs n g c h gu d o rest,PyData.strOk w=true:=fun w hw=>by
 unfold whyS at hw
 simp only[zs6] at hw
 rcases hw with z|z|z|z<;>rw[zik z]<;>decide +kernel
def Xf(H H':Hp):Prop:=(∀ x ys,H x=some (.lst ys)->H' x=some (.lst ys))/\∀ x ys,H x=some (.tup ys)->H' x=some (.tup ys)
theorem Xf.dict(h:H d=some (.dK kvs)):Xf H (upd H d (.dK kvs')) :=
 ⟨fun x ys e=>by rw[Zi (Yx e h (by intro z;cases z))];exact e,fun x ys e=>by rw[Zi (Yx e h (by intro z;cases z))];exact e⟩
theorem Xf.trans(a:Xf H H')(b:Xf H' H''):Xf H H'':=⟨fun x ys e=>b.1 _ _ (a.1 _ _ e),fun x ys e=>b.2 _ _ (a.2 _ _ e)⟩
theorem Xf.of(e:Same H H'):Xf H H':=⟨fun x ys z=>e _ _ z,fun x ys z=>e _ _ z⟩
theorem X4.keepL(k:Xf H H'):∀ {ts:List V} {G:ze0},X4 ok H ts G->X4 ok H' ts G
 | _,_,.nil=>.nil
 | _,_,.cons h hl tl o r=>.cons (k.2 _ _ h) (k.1 _ _ hl) (tl.mono k.2) o (X4.keepL k r)
theorem ILs.keepL(k:Xf H H'):∀ {ls:List Addr} {R:List (List Int)},ILs H ls R->ILs H' ls R
 | _,_,.nil=>.nil
 | _,_,.cons h n=>.cons (k.1 _ _ h) (ILs.keepL k n)
theorem M3.keepL(k:Xf H H')(h:M3 ok H v x):M3 ok H' v x:=by
 cases x with
 | none=>exact h
 | some ms=>obtain⟨l,ts,e,a,b,o⟩:=h;exact⟨l,ts,e,k.1 _ _ a,b.mono k.2,o⟩
theorem Xg.keepL(k:Xf H H'):∀ {vs:List V} {ss:List Z3},Xg ok H vs ss->Xg ok H' vs ss
 | _,_,.nil=>.nil
 | _,_,.cons h hl tl hg hm gm hy iy o r=>.cons (k.2 _ _ h) (k.1 _ _ hl) (tl.mono k.2) (k.1 _ _ hg) (k.1 _ _ hm) (gm.keepL k) (k.1 _ _ hy) (ILs.keepL k iy) o (Xg.keepL k r)
structure PgB(ok:Addr->Prop)(H:Hp)(P:Pg)(lp lo lv:Addr)(dv li:V)(lg lm:Addr):Prop where
 pp:∃ pts,H lp=some (.lst pts)/\Z9 H pts (P.ppl.map pV)/\ok lp
 oo:∃ ots,H lo=some (.lst ots)/\Z9 H ots (P.out.map oiV)/\ok lo
 vv:∃ vts,H lv=some (.lst vts)/\Xg ok H vts P.over/\ok lv
 dd:Br H dv P.deed
 li:M3 ok H li P.lis
 gg:H lg=some (.lst P.gv)/\ok lg
 mm:∃ mts,H lm=some (.lst mts)/\X4 ok H mts P.mv/\ok lm
theorem PgB.keepL{ok:Addr->Prop}{H H':Hp}{P:Pg}{lp lo lv:Addr}{dv li:V}{lg lm:Addr}(h:PgB ok H P lp lo lv dv li lg lm)(k:Xf H H'):PgB ok H' P lp lo lv dv li lg lm:=by
 obtain⟨⟨p1,p2,p3,p4⟩,⟨o1,o2,o3,o4⟩,⟨v1,v2,v3,v4⟩,dd,li,⟨g1,g2⟩,m1,m2,m3,m4⟩:=h;exact⟨⟨p1,k.1 _ _ p2,p3.mono k.2,p4⟩,⟨o1,k.1 _ _ o2,o3.mono k.2,o4⟩,⟨v1,k.1 _ _ v2,v3.keepL k,v4⟩,dd.keep k.2,li.keepL k,⟨k.1 _ _ g1,g2⟩,m1,k.1 _ _ m2,m3.keepL k,m4⟩
theorem PgB.imp{ok ok':Addr->Prop}{H:Hp}{P:Pg}{lp lo lv:Addr}{dv li:V}{lg lm:Addr}(h:PgB ok H P lp lo lv dv li lg lm)(k:∀ x,(∃ o,H x=some o)->ok x->ok' x):PgB ok' H P lp lo lv dv li lg lm:=by
 obtain⟨⟨p1,p2,p3,p4⟩,⟨o1,o2,o3,o4⟩,⟨v1,v2,v3,v4⟩,dd,li,⟨g1,g2⟩,m1,m2,m3,m4⟩:=h;exact⟨⟨p1,p2,p3,k _ ⟨_,p2⟩ p4⟩,⟨o1,o2,o3,k _ ⟨_,o2⟩ o4⟩,⟨v1,v2,v3.imp k,k _ ⟨_,v2⟩ v4⟩,dd,li.imp k,⟨g1,k _ ⟨_,g1⟩ g2⟩,m1,m2,m3.imp k,k _ ⟨_,m2⟩ m4⟩
theorem PgAt.split(h:PgAt ok H d P):∃ lp lo lv dv li lg lm,H d=some (.dK (pgF P.len P.rest lp lo lv dv li lg lm))/\PgB ok H P lp lo lv dv li lg lm/\ok d:=by
 obtain⟨lp,lo,lv,dv,li,lg,lm,pts,ots,vts,mts,a1,a2,a3,a4,a5,a6,a7,a8,a9,b1,b2,b3,o1,o2,o3,o4,o5,o6⟩:=h;exact⟨lp,lo,lv,dv,li,lg,lm,a1,⟨⟨_,a2,a3,o2⟩,⟨_,a4,a5,o3⟩,⟨_,a6,a7,o4⟩,a8,a9,⟨b1,o5⟩,_,b2,b3,o6⟩,o1⟩
theorem PgAt.join{ok:Addr->Prop}{H:Hp}{d:Addr}{P:Pg}{lp lo lv:Addr}{dv li:V}{lg lm:Addr}(hd:H d=some (.dK (pgF P.len P.rest lp lo lv dv li lg lm)))(h:PgB ok H P lp lo lv dv li lg lm)(o:ok d):PgAt ok H d P:=by
 obtain⟨⟨p1,p2,p3,p4⟩,⟨o1,o2,o3,o4⟩,⟨v1,v2,v3,v4⟩,dd,li',⟨g1,g2⟩,m1,m2,m3,m4⟩:=h;exact⟨lp,lo,lv,dv,li,lg,lm,p1,o1,v1,m1,hd,p2,p3,o2,o3,v2,v3,dd,li',g1,m2,m3,o,p4,o4,v4,g2,m4⟩
theorem PgAt.other(h:PgAt ok H d P)(n:d≠e)(he:H e=some (.dK kvs)):PgAt ok (upd H e (.dK kvs')) d P:=by
 obtain⟨lp,lo,lv,dv,li,lg,lm,a1,a2,a3⟩:=h.split;exact .join (by rw[Zi n];exact a1) (a2.keepL (.dict he)) a3
theorem PgAt.setGoes(h:PgAt ok H d P)(hl:H l=some (.lst xs))(ol:ok l):∃ kvs,H d=some (.dK kvs)/\kvs.length<sizeLine/\PgAt ok (upd H d (.dK (putK kvs (.inr "goes") (.ref l)))) d { P with gv:=xs }:=by
 obtain⟨lp,lo,lv,dv,li,lg,lm,a1,a2,a3⟩:=h.split;refine⟨_,a1,zac,?_⟩;rw[Bs];have b:=a2.keepL (.dict a1 (kvs':=pgF P.len P.rest lp lo lv dv li l lm));exact .join (P:={ P with gv:=xs }) Zc ⟨b.pp,b.oo,b.vv,b.dd,b.li,⟨(Xf.dict a1).1 _ _ hl,ol⟩,b.mm⟩ a3
def Ud(P:Pg):R6->Pg
 | .enrol n g c=>{ P with ppl:=P.ppl++[(n,g,c)],deed:=some ("enrol",n,(P.over.length:Int)+1) }
 | .away i n=>{ P with out:=P.out++[(i,n)],deed:=some ("away",n,i) }
 | .draw ms=>{ P with lis:=some ms,deed:=some ("draw up",(ms.length:Int),(P.over.length:Int)+1) }
 | .close=>{ P with over:=P.over++[⟨P.lis.getD [],Sg P (P.lis.getD []),P.gv,P.mv⟩],lis:=none,gv:=[],mv:=[] }
 | .back=>P
def zae(ds:List Addr)(d d':Addr):R6->List Addr
 | .back=>ds
 | .close=>[d']
 | _=>ds++[d]++[d']
inductive Dg(K:PySem.W.Frag)(vs:List V)(H:Hp)(Q:VK)(_:XK):Prop where
 | mk(ok:Addr->Prop)(l t:Addr)(ds:List Addr)(d:Addr)(P:Pg)(D:R6)(_:vs=[.ref l,.ref t])(_:H l=some (.lst ((ds++[d]).map V.ref)))(_:PgAt ok H d P)(_:Wy ok H t D)(_:M5 P)(_:P.ppl.length<=100)(_:P.out.length<=900)(_:ds.length<=900)(_:(D=.close->∃ ms,P.lis=some ms/\ms.length<=100))(_:∀ l' d' H',H' l'=some (.lst ((zae ds d d' D).map V.ref))->(D≠.back->PgAt (fun x=>ok x\/H x=none) H' d' (Ud P D))->Same H H'->H l'=none->H d'=none->Q (.ref l') H')
theorem ze4(xs:List V)(x:V):Ga (xs++[x]) none (some (-1))=xs:=by
 unfold Ga HT.sIx;simp;rw[show (-1+((xs.length:Int)+1)).toNat=xs.length by omega,List.take_left]
def zaf(ms:List P3):Prop:=(∀ m∈ms,¬ badM m)/\∀ m∈ms,m.1≠m.2.1
inductive Kh(K:PySem.W.Frag)(vs:List V)(H:Hp)(Q:VK)(_:XK):Prop where
 | mk(b:Addr)(ns:List Int)(cell:Int)(most mixed:Nat)(_:vs=[.int cell,.ref b,.int most,.int mixed])(_:H b=some (.lst (ns.map V.int)))(_:2<=ns.length)(_:ns.length<=100)(_:ns.Nodup)(_:(∀ n∈ns,1<=n/\n<=99))(_:most<=20)(_:mixed<=1)(_:∀ l ts ms H',H' l=some (.lst ts)->Z9 H' ts (ms.map pV)->ms.length<=most->zaf ms->Same H H'->H l=none->Q (.ref l) H')
def enV(x:P3):List V:=[.str "enrol",.int x.1,.int x.2.1,.int x.2.2]
inductive Ih(K:PySem.W.Frag)(vs:List V)(H:Hp)(Q:VK)(_:XK):Prop where
 | mk(b t lc ln:Addr)(ns cs nu:List Int)(_:vs=[.ref b,.ref t])(_:SqL K H b (ns.map V.int))(_:O1 H t lc ln cs nu)(_:∀ l ts (es:List P3) H',H' l=some (.lst ts)->Z9 H' ts (es.map enV)->es.map (·.1)=nu.take es.length->es.length<=nu.length->(∀ x∈es,1<=x.2.1/\x.2.1<=9/\x.2.2∈cs)->Same H H'->H l=none->Q (.ref l) H')
def ze5(P:Pg)(ds:List Addr)(cs nu:List Int)(most:Nat):R6->Prop
 | .enrol n g c=>P.lis=none/\n∈nu/\n∉P.ppl.map (·.1)/\1<=g/\g<=9/\c∈cs
 | .away i n=>(P.over.length:Int)<i/\i<=P.len/\n∈P.ppl.map (·.1)/\(i,n)∉P.out
 | .draw ms=>P.lis=none/\ms.length<=most/\zaf ms
 | .close=>P.lis≠none
 | .back=>ds≠[]
inductive Bv(K:PySem.W.Frag)(vs:List V)(H:Hp)(Q:VK)(_:XK):Prop where
 | mk(ok:Addr->Prop)(l t lc ln:Addr)(ds:List Addr)(d:Addr)(P:Pg)(cell:Int)(cs nu:List Int)(most mixed:Nat)(_:vs=[.ref l,.int cell,.ref t,.int most,.int mixed])(_:H l=some (.lst ((ds++[d]).map V.ref)))(_:PgAt ok H d P)(_:O1 H t lc ln cs nu)(_:most<=20)(_:mixed<=1)(_:P.over.length<P.len)(_:P.ppl.length<=100)(_:∀ t' D H',Wy (fun x=>H x=none) H' t' D->ze5 P ds cs nu most D->Same H H'->H t'=none->Q (.ref t') H')
theorem Eh(h1:Gr t σ H b)(h2:∀ H1,Same H H1->Gr u σ H1 c):Gr (zdf t u) σ H (b&&c):=fun Q h=>by
 refine h1 _ fun H1 s1=>?_
 cases b with
 | true=>exact h2 H1 s1 _ fun H2 s2=>h H2 (s1.trans s2)
 | false=>exact h H1 s1
theorem Ki{K:PySem.W.Frag}{H:Hp}:∀ ns:List Int,Wd K H (ns.map V.int) (ns.map Dt.int)
 | []=>.nil
 | w :: ws=>.cons (.int w) (Ki ws)
theorem Kj{K:PySem.W.Frag}{σ:L2.St}{H:Hp}{i:Nat}{l:Addr}{ns:List Int}(hv:σ[i]?=some (some (.ref l)))(hl:H l=some (.lst (ns.map V.int))):Gr (D9 (tOp (rEqD K true) (tVar i) (tLst tNil))) σ H (!ns.isEmpty):=fun Q q=>by
 refine⟨_,hv,ztm _,fun le hle=>?_⟩
 have s:=Zf (o:=.lst []) hle;refine⟨_,_,.lst (SqL.of (s _ _ hl)) (Ki _),.lst (SqL.of Zc) .nil,E3 _,T4,_,rfl,?_⟩;rw[if_pos rfl,Jf];exact q _ s
theorem M3.some(h:M3 ok H v x):(!decide (v=V.non))=x.isSome:=by
 cases x with
 | none=>cases (show v=V.non from h);rfl
 | some ms=>obtain⟨l,ts,rfl,_⟩:=h;rfl
theorem ze6{h y n:Int}(h0:0<=h)(h1:h<n)(y0:1<=y)(y1:y<=n-1):0<=(h+y)%n/\(h+y)%n<n/\(h+y)%n≠h:=by
 have hn:0<n:=by omega
 refine⟨ztx _ (by omega),ztq _ hn,?_⟩
 by_cases c:h+y<n
 ·rw[Int.emod_eq_of_lt (by omega) c];omega
 ·have e:(h+y)%n=h+y-n:=by
   rw[<- Int.sub_emod_right,Int.emod_eq_of_lt (by omega) (by omega)]
  omega
theorem at2(x y:Int){k:Nat}(h:k<=1):∃ z,atI [V.int x,V.int y] (k:Int)=some (.int z):=by
 match k,h with
 | 0,_=>exact⟨x,rfl⟩
 | 1,_=>exact⟨y,rfl⟩
def Dh:List Int:=[1,2,3,4,5,6,7,8,9,1,1,1,1,2,2,3,3,4]
theorem zag:∀ k,k<18->1<=Dh.getD k 0/\Dh.getD k 0<=9:=by decide
def Dj:List Int:=[1,2,3,4,5,6,7,8,9,9,9,9,9,8,8,7,6,5]
theorem zah:∀ k,k<18->1<=Dj.getD k 0/\Dj.getD k 0<=9:=by decide
theorem Dk{ns:List Int}{i:Nat}(hi:i<ns.length):ns.getD i 0=ns[i]:=by
 rw[ztj,zsu hi];rfl
theorem ze7{ns:List Int}(nd:ns.Nodup){i j:Nat}(hi:i<ns.length)(hj:j<ns.length)(h:ns.getD i 0=ns.getD j 0):i=j:=by
 rw[Dk hi,Dk hj] at h
 exact(List.getElem_inj nd).mp h
theorem Tc{ns:List Int}{i:Nat}(hi:i<ns.length):ns.getD i 0∈ns:=by
 rw[Dk hi];exact ztp hi
def Ra(mb:Bool)(s:Z3):Z3:=if mb then s else { s with gaps:=[] }
theorem zgo(h:Ra mb s=Ra mb s'):s.ms=s'.ms/\s.may=s'.may/\s.gv=s'.gv/\(mb=true->s=s'):=by
 unfold Ra at h
 cases mb with
 | true=>simp at h;subst h;exact⟨rfl,rfl,rfl,fun _=>rfl⟩
 | false=>simp at h;exact⟨h.1,h.2.1,h.2.2,fun z=>nomatch z⟩
theorem zcz(mb:Bool)(s:Z3):Yb (Ra mb s)=Yb s:=by
 unfold Ra;cases mb<;>rfl
structure RelB(mb:Bool)(P:Pg)(S:Sea):Prop where
 len:P.len=S.len
 rest:P.rest=S.rest
 ppl:P.ppl=S.ppl
 out:P.out=S.out
 over:P.over.map (Ra mb)=S.old.map (Ra mb)
 lis:P.lis=S.cur.map (·.ms)
def Kk(S:Sea):ze0:=match S.cur with|some s=>s.gaps|none=>[]
theorem Vg(h:S.cur=some s):Kk S=s.gaps:=by unfold Kk;rw[h]
theorem Ue(h:S.cur=none):Kk S=[]:=by unfold Kk;rw[h]
structure Rel(mb:Bool)(P:Pg)(S:Sea):Prop where
 b:RelB mb P S
 gv:∀ s,S.cur=some s->P.gv=s.gv
 mv:mb=true->P.mv=Kk S
structure SOk(nu:List Int)(n:Nat)(S:Sea):Prop where
 cur:zey S
 nd:(S.ppl.map (·.1)).Nodup
 ppl:∀ x∈S.ppl,x.1∈nu/\¬ badI x.1 x.2.1 x.2.2
 few:S.ppl.length<=30
 led:S.led=S.old.map Yb
 old:∀ s∈S.old,s.ms.length<=20/\s.gv.length=s.ms.length/\∀ x∈s.gv,oneV x
 len:S.led.length<=S.len/\S.len<=60/\S.rest<=10
 lt:S.cur≠none->S.led.length<S.len
 num:S.out.length<=n/\S.std.length<=n
 gp:∀ s,S.cur=some s\/s∈S.old->s.gaps.length<=n/\∀ x∈s.gaps,x.2.length<=100
theorem SOk.mono(h:SOk nu n S)(e:n<=m):SOk nu m S:=⟨h.cur,h.nd,h.ppl,h.few,h.led,h.old,h.len,h.lt,⟨ztb h.num.1 e,ztb h.num.2 e⟩,fun s hs=>⟨ztb (h.gp s hs).1 e,(h.gp s hs).2⟩⟩
theorem SOk.pok(h:SOk nu n S):Qu S:=⟨fun x hx=>(h.ppl x hx).2,h.few⟩
theorem SOk.olen(h:SOk nu n S):S.old.length=S.led.length:=by rw[h.led,zst]
theorem ze8:∀ (Rs:List (List Row)),(∀ rs∈Rs,rs.length<=k)->tot Rs<=k*Rs.length
 | [],_=>by simp[tot]
 | rs :: Rs,h=>by
   have h1:=h rs (zto);have h2:=ze8 Rs fun x hx=>h x (ztc _ hx)
   unfold tot at *
   simp only[zs4,List.sum_cons,zti,Nat.mul_succ];omega
theorem SOk.tot(h:SOk nu n S):G.tot S.led<=1200:=by
 have h1:=ze8 (k:=20) S.led fun rs hrs=>by
  rw[h.led] at hrs
  obtain⟨s,hs,rfl⟩:=zs2.mp hrs;have:=h.old s hs;unfold Yb;rw[List.length_zipWith];omega
 have:=h.len;omega
theorem RelB.rows(r:RelB mb P S):P.over.map Yb=S.old.map Yb:=by
 have e:∀ l:List Z3,l.map Yb=(l.map (Ra mb)).map Yb:=fun l=>by
  rw[zua];exact zuo fun s _=>(zcz mb s).symm
 rw[e,r.over,<- e]
theorem RelB.olen(r:RelB mb P S):P.over.length=S.old.length:=by
 have:=congrArg List.length r.over
 simpa using this
theorem RelB.ovok(r:RelB mb P S)(o:SOk nu n S):M5 P:=by
 have h1:=r.olen;have h2:=o.olen;have h3:=o.len;refine⟨by omega,by rw[r.rest];omega,fun s hs=>?_⟩
 have:Ra mb s∈S.old.map (Ra mb):=by rw[<- r.over];exact zs2.mpr ⟨s,hs,rfl⟩
 obtain⟨s',hs',e⟩:=zs2.mp this;obtain⟨e1,e2,e3,_⟩:=zgo e;rw[<- e1,<- e3];exact o.old s' hs'
theorem RelB.may(r:RelB mb P S)(o:SOk nu n S)(ms:List P3):Sg P ms=mayS S ms :=
 zcy r.ppl (by rw[r.rows,o.led]) r.out r.rest (by unfold atV;rw[r.olen,o.olen]) ms
theorem RelB.at(r:RelB mb P S)(o:SOk nu n S):(P.over.length:Int)+1=atV S:=by unfold atV;rw[r.olen,o.olen]
theorem RelB.undrawn(r:RelB mb P S)(h:P.lis=none):S.cur=none:=by
 have:=r.lis;rw[h] at this
 cases e:S.cur with
 | none=>rfl
 | some s=>rw[e] at this;cases this
theorem RelB.drawn(r:RelB mb P S)(h:P.lis=some ms):∃ s,S.cur=some s/\s.ms=ms:=by
 have:=r.lis;rw[h] at this
 cases e:S.cur with
 | none=>rw[e] at this;cases this
 | some s=>rw[e] at this;exact⟨s,rfl,(Option.some.inj this).symm⟩
theorem Dl{l m:List Int}(nd:l.Nodup)(h:∀ x∈l,x∈m):l.length<=m.length:=by
 induction l generalizing m with
 | nil=>exact ztm _
 | cons x l ih =>
   have hx:=h x (zto);obtain⟨h1,h2⟩:=ztn.mp nd;have:=ih (m:=m.erase x) h2 fun y hy=>(List.mem_erase_of_ne (fun z=>h1 (by rw[<- z];exact hy))).mpr (h y (ztc _ hy))
   rw[List.length_erase_of_mem hx] at this
   have:=List.length_pos_of_mem hx;simp only[zti];omega
theorem zgp{mb:Bool}{P:Pg}{S:Sea}{nu cs:List Int}{n most:Nat}{ds:List Addr}{D:R6}(r:RelB mb P S)(o:SOk nu n S)(g:ze5 P ds cs nu most D)(hlt:P.over.length<P.len)(hm:most<=20)(hnu:nu.length<=30/\∀ n∈nu,1<=n/\n<=999)(hcs:∀ c∈cs,1<=c/\c<=99)(hb:ds≠[]->S.std≠[]):Kf S D:=by
 have h1:=r.olen;have h2:=o.olen;have h3:=r.len;cases D with
 | enrol k gr c =>
   obtain⟨g1,g2,g3,g4,g5,g6⟩:=g;rw[r.ppl] at g3
   refine⟨by omega,r.undrawn g1,?_,g3,?_⟩
   ·have:=hnu.2 k g2
    have:=hcs c g6;unfold badI;omega
   ·have:=Dl (l:=k :: S.ppl.map (·.1)) (m:=nu) (ztn.mpr ⟨g3,o.nd⟩) fun x hx=>by
     rcases zsz.mp hx with rfl|hx
     ·exact g2
     ·obtain⟨y,hy,rfl⟩:=zs2.mp hx
      exact(o.ppl y hy).1
    rw[zti,zst] at this
    omega
 | away i k =>
   obtain⟨g1,g2,g3,g4⟩:=g;rw[r.ppl] at g3
   rw[r.out] at g4
   exact⟨by omega,by omega,g3,g4⟩
 | draw ms =>
   obtain⟨g1,g2,g3⟩:=g;exact⟨by omega,r.undrawn g1,by omega,g3.1,g3.2⟩
 | close =>
   refine⟨by omega,fun z=>g ?_⟩
   rw[r.lis,z];rfl
 | back=>exact hb g
theorem zc0(F:Yn rows gs)(hn:∀ i:Nat,gs[i]?≠some (V.int n)):Yn (without rows n) gs:=by
 refine⟨by unfold without;rw[zst];exact F.len,F.one,fun k m h=>?_,F.inj⟩
 obtain⟨r,h1,h2⟩:=F.may k m h;refine⟨r.filter fun x=>decide (x≠n),by unfold without;rw[zs0,h1];rfl,zt0.mpr ⟨h2,?_⟩⟩
 refine zsy fun z=>hn k ?_
 rw[h,z]
theorem zai(T:Uy rows gs):Uy (without rows n) gs:=fun p hp=>by
 obtain⟨S,h1,h2⟩:=T p hp;refine⟨S,h1,fun q hq=>⟨by unfold without;rw[zst];exact(h2 q hq).1,fun r hr m hm=>?_⟩⟩
 unfold without at hr
 rw[zs0] at hr
 obtain⟨r0,e1,rfl⟩:=zur.mp hr;exact(h2 q hq).2 r0 e1 m (zt0.mp hm).1
theorem zc1(h:atV S<i)(ms:List P3):mayS (Xj S i n) ms=mayS S ms:=by
 unfold mayS;refine zuo fun m _=>?_
 unfold Gk;have:∀ x:P3,pIn (Xj S i n).out (atV (Xj S i n)) x=pIn S.out (atV S) x:=fun x=>by
  show decide ((atV S,x.1)∈S.out++[(i,n)])=decide ((atV S,x.1)∈S.out);have:((atV S,x.1)∈S.out++[(i,n)])↔((atV S,x.1)∈S.out):=by
   simp only[zs6,zsx,Prod.mk.injEq];constructor
   ·rintro(h|⟨h,_⟩)
    ·exact h
    ·omega
   ·exact .inl
  exact decide_eq_decide.mpr this
 simp only[this];rfl
theorem ze9(o:SOk nu n S)(g:Kf S D)(af:S9 H' S D S' v)(hb:D≠.back)(hn:∀ k gr c,D=.enrol k gr c->k∈nu):SOk nu (n+1) S'/\((D=.close/\S'.std=[]/\S'.cur=none)\/(D≠.close/\Ke S S')):=by
 obtain⟨n1,n2⟩:=o.num;cases af with
 | enrol k gr c =>
   obtain⟨g1,g2,g3,g4,g5⟩:=g;refine⟨⟨fun s hs=>?_,?_,fun x hx=>?_,?_,o.led,o.old,o.len,fun _=>g1,⟨?_,?_⟩,fun s hs=>⟨zt7 (o.gp s hs).1,(o.gp s hs).2⟩⟩,.inr ⟨nofun,(("enrol":Str),k,atV S),rfl,.inl ⟨rfl,⟨gr,c,rfl⟩,rfl⟩,rfl,rfl,rfl,rfl⟩⟩
   ·have hs:S.cur=some s:=hs
    rw[g2] at hs;cases hs
   ·show (List.map (·.1) (S.ppl++[(k,gr,c)])).Nodup
    rw[zs1,List.nodup_append];refine⟨o.nd,by simp,fun x hx y hy=>?_⟩
    rw[zs4,List.map_nil,zsx] at hy
    subst hy;rintro rfl;exact g4 hx
   ·rcases zs6.mp hx with hx|hx
    ·exact o.ppl x hx
    ·rw[zsx.mp hx];exact⟨hn k gr c rfl,g3⟩
   ·show (S.ppl++[(k,gr,c)]).length<=30
    rw[zsw];show S.ppl.length+1<=30;omega
   ·show S.out.length<=n+1;omega
   ·show (S.std++[_]).length<=n+1
    rw[zsw];show S.std.length+1<=n+1;omega
 | @awayN i k l h hl =>
   obtain⟨g1,g2,g3,g4⟩:=g;refine⟨⟨fun s hs=>?_,o.nd,o.ppl,o.few,o.led,o.old,o.len,o.lt,⟨?_,?_⟩,fun s hs=>⟨zt7 (o.gp s hs).1,(o.gp s hs).2⟩⟩,.inr ⟨nofun,(("away":Str),k,i),rfl,.inr (.inl ⟨rfl,rfl,rfl,g4⟩),rfl,rfl,rfl,rfl⟩⟩
   ·have hs:S.cur=some s:=hs
    rcases h with h|h
    ·rw[h] at hs;cases hs
    ·obtain⟨c1,c2,c3,c4,c5⟩:=o.cur s hs
     refine⟨c1,c2,c3,by rw[zc1 h];exact c4,?_⟩
     show s.gaps.length<=(S.std++[_]).length;rw[zsw];omega
   ·show (S.out++[_]).length<=n+1
    rw[zsw];show S.out.length+1<=n+1;omega
   ·show (S.std++[_]).length<=n+1
    rw[zsw];show S.std.length+1<=n+1;omega
 | @awayF k s l h hp hl =>
   obtain⟨g1,g2,g3,g4⟩:=g;obtain⟨c1,c2,c3,c4,c5⟩:=o.cur s h;refine⟨⟨fun s' hs=>?_,o.nd,o.ppl,o.few,o.led,o.old,o.len,fun _=>o.lt (by rw[h];exact nofun),⟨?_,?_⟩,fun s' hs=>?_⟩,.inr ⟨nofun,(("away":Str),k,atV S),rfl,.inr (.inl ⟨rfl,rfl,rfl,g4⟩),rfl,rfl,rfl,rfl⟩⟩
   ·have hs:some { s with may:=mayS (Xj S (atV S) k) s.ms }=some s':=hs
    cases hs;have hno:∀ i:Nat,s.gv[i]?≠some (V.int k):=by
     rcases L7 s.gv k with z|⟨i,z,_⟩
     ·exact z.2
     ·rw[hp] at z;cases z
    refine⟨c1,?_,?_,rfl,?_⟩
    ·show Yn (mayS (Xj S (atV S) k) s.ms) s.gv
     rw[Vu,<- c4];exact zc0 c2 hno
    ·show Uy (mayS (Xj S (atV S) k) s.ms) s.gv
     rw[Vu,<- c4];exact zai c3
    ·show s.gaps.length<=(S.std++[_]).length
     rw[zsw];omega
   ·show (S.out++[_]).length<=n+1
    rw[zsw];show S.out.length+1<=n+1;omega
   ·show (S.std++[_]).length<=n+1
    rw[zsw];show S.std.length+1<=n+1;omega
   ·have old:=o.gp s (.inl h)
    rcases hs with hs|hs
    ·have hs:some { s with may:=mayS (Xj S (atV S) k) s.ms }=some s':=hs
     cases hs;exact⟨zt7 old.1,old.2⟩
    ·have:=o.gp s' (.inr hs)
     exact⟨zt7 this.1,this.2⟩
 | @awayC k s p e l us st w h hp hl tl CR =>
   obtain⟨g1,g2,g3,g4⟩:=g;obtain⟨c1,c2,c3,c4,c5⟩:=o.cur s h;refine⟨⟨fun s' hs=>?_,o.nd,o.ppl,o.few,o.led,o.old,o.len,fun _=>o.lt (by rw[h];exact nofun),⟨?_,?_⟩,fun s' hs=>?_⟩,.inr ⟨nofun,(("away":Str),k,atV S),rfl,.inr (.inl ⟨rfl,rfl,rfl,g4⟩),rfl,rfl,rfl,rfl⟩⟩
   ·have hs:some (⟨s.ms,mayS (Xj S (atV S) k) s.ms,Yf st (s.gv.set p .non),s.gaps++[(k,st)]⟩:Z3)=some s':=hs
    cases hs;have hx:=Rp hp;rw[Vu,<- c4] at CR
    have F0:=Vs c2 hx;have hpl:p<(without s.may k).length:=by
     unfold without;rw[zst,<- c2.len];exact(zsv.mp hx).1
    refine⟨c1,?_,?_,rfl,?_⟩
    ·show Yn (mayS (Xj S (atV S) k) s.ms) _
     rw[Vu,<- c4];exact CR.fill F0 hpl
    ·show Uy (mayS (Xj S (atV S) k) s.ms) _
     rw[Vu,<- c4];exact C0 c2 c3 hx CR
    ·show (s.gaps++[_]).length<=(S.std++[_]).length
     rw[zsw,zsw];show s.gaps.length+1<=S.std.length+1;omega
   ·show (S.out++[_]).length<=n+1
    rw[zsw];show S.out.length+1<=n+1;omega
   ·show (S.std++[_]).length<=n+1
    rw[zsw];show S.std.length+1<=n+1;omega
   ·have old:=o.gp s (.inl h)
    rcases hs with hs|hs
    ·have hs:some (⟨s.ms,mayS (Xj S (atV S) k) s.ms,Yf st (s.gv.set p .non),s.gaps++[(k,st)]⟩:Z3)=some s':=hs
     cases hs;have hx:=Rp hp;rw[Vu,<- c4] at CR
     have hpl:p<(without s.may k).length:=by
      unfold without;rw[zst,<- c2.len];exact(zsv.mp hx).1
     have hcl:=CR.len (Vs c2 hx) hpl;have hwl:(without s.may k).length=s.may.length:=by unfold without;rw[zst]
     have hml:s.may.length=s.ms.length:=by rw[c4];unfold mayS;rw[zst]
     refine⟨by show (s.gaps++[_]).length<=n+1;rw[zsw];show s.gaps.length+1<=n+1;omega,fun x hx'=>?_⟩
     rcases zs6.mp hx' with z|z
     ·exact old.2 x z
     ·rw[zsx.mp z];show st.length<=100;omega
    ·have:=o.gp s' (.inr hs)
     exact⟨zt7 this.1,this.2⟩
 | @draw ms gv l hl F T =>
   obtain⟨g1,g2,g3,g4,g5⟩:=g;refine⟨⟨fun s' hs=>?_,o.nd,o.ppl,o.few,o.led,o.old,o.len,fun _=>g1,⟨?_,?_⟩,fun s' hs=>?_⟩,.inr ⟨nofun,(("draw up":Str),(ms.length:Int),atV S),rfl,.inr (.inr ⟨rfl,rfl,rfl⟩),rfl,rfl,rfl,rfl⟩⟩
   ·have hs:some (⟨ms,mayS S ms,gv,[]⟩:Z3)=some s':=hs
    cases hs;exact⟨g3,F,T,rfl,ztm _⟩
   ·show S.out.length<=n+1;omega
   ·show (S.std++[_]).length<=n+1
    rw[zsw];show S.std.length+1<=n+1;omega
   ·rcases hs with hs|hs
    ·have hs:some (⟨ms,mayS S ms,gv,[]⟩:Z3)=some s':=hs
     cases hs;exact⟨ztm _,nofun⟩
    ·have:=o.gp s' (.inr hs)
     exact⟨zt7 this.1,this.2⟩
 | @close s h =>
   obtain⟨g1,g2⟩:=g;obtain⟨c1,c2,c3,c4,c5⟩:=o.cur s h;refine⟨⟨fun s' hs=>(by cases hs),o.nd,o.ppl,o.few,?_,fun x hx=>?_,⟨?_,o.len.2⟩,fun z=>absurd rfl z,⟨?_,ztm _⟩,fun s' hs=>?_⟩,.inl ⟨rfl,rfl,rfl⟩⟩
   ·show S.led++[Yb s]=List.map Yb (S.old++[s])
    rw[zs1,o.led];rfl
   ·rcases zs6.mp hx with hx|hx
    ·exact o.old x hx
    ·rw[zsx.mp hx]
     refine⟨c1,?_,c2.one⟩;rw[c2.len,c4];unfold mayS;rw[zst]
   ·show (S.led++[_]).length<=S.len
    rw[zsw];exact g1
   ·show S.out.length<=n+1;omega
   ·rcases hs with hs|hs
    ·cases hs
    ·have hs:s'∈S.old++[s]:=hs
     rcases zs6.mp hs with z|z
     ·have:=o.gp s' (.inr z)
      exact⟨zt7 this.1,this.2⟩
     ·rw[zsx.mp z]
      have:=o.gp s (.inl h);exact⟨zt7 this.1,this.2⟩
 | back h ht hs=>exact absurd rfl hb
theorem zc2(r:Rel mb P S)(o:SOk nu n S)(g:Kf S D)(af:S9 H' S D S' v)(hb:D≠.back):RelB mb (Ud P D) S':=by
 obtain⟨⟨r1,r2,r3,r4,r5,r6⟩,rg,rm⟩:=id r;cases af with
 | enrol k gr c=>exact⟨r1,r2,by show P.ppl++_=S.ppl++_;rw[r3],r4,r5,r6⟩
 | @awayN i k l h hl=>exact⟨r1,r2,r3,by show P.out++_=S.out++_;rw[r4],r5,r6⟩
 | @awayF k s l h hp hl=>exact⟨r1,r2,r3,by show P.out++_=S.out++_;rw[r4],r5,by show P.lis=_;rw[r6,h];rfl⟩
 | @awayC k s p e l us st w h hp hl tl CR=>exact⟨r1,r2,r3,by show P.out++_=S.out++_;rw[r4],r5,by show P.lis=_;rw[r6,h];rfl⟩
 | @draw ms gv l hl F T=>exact⟨r1,r2,r3,r4,r5,rfl⟩
 | @close s h =>
   have hl:P.lis=some s.ms:=by rw[r6,h];rfl
   refine⟨r1,r2,r3,r4,?_,rfl⟩;show List.map (Ra mb) (P.over++[⟨P.lis.getD [],Sg P (P.lis.getD []),P.gv,P.mv⟩])=List.map (Ra mb) (S.old++[s]);rw[zs1,zs1,r5,hl]
   congr 1
   have e1:=(o.cur s h).2.2.2.1;have e2:=r.b.may o s.ms;have e3:=rg s h;unfold Ra;cases mb with
   | true =>
     have e4:P.mv=s.gaps:=by rw[rm rfl,Vg h]
     show [(⟨s.ms,Sg P s.ms,P.gv,P.mv⟩:Z3)]=[s];rw[e2,e3,e4,<- e1]
   | false =>
     show [(⟨s.ms,Sg P s.ms,P.gv,[]⟩:Z3)]=[(⟨s.ms,s.may,s.gv,[]⟩:Z3)];rw[e2,e3,<- e1]
 | back h ht hs=>exact absurd rfl hb
theorem zc3(h1:Ke S1 S)(h2:Ke S2 S):S1=S2:=by
 obtain⟨d1,a1,a2,a3,a4,a5,a6⟩:=h1;obtain⟨d2,b1,b2,b3,b4,b5,b6⟩:=h2;have e:=a1.symm.trans b1;obtain⟨e1,e2⟩:=List.append_inj' e rfl;have e3:=List.cons.inj e2;obtain⟨e4,e5⟩:=Prod.mk.inj e3.1;subst e4;have w1:("enrol":Str)≠"away":=by decide +kernel
 have w2:("enrol":Str)≠"draw up":=by decide +kernel
 have w3:("away":Str)≠"draw up":=by decide +kernel
 have e6:S1.ppl=S2.ppl/\S1.out=S2.out:=by
  rcases a2 with ⟨x1,⟨g,c,x2⟩,x3⟩|⟨x1,x2,x3,_⟩|⟨x1,x2,x3⟩<;>rcases b2 with ⟨y1,⟨g',c',y2⟩,y3⟩|⟨y1,y2,y3,_⟩|⟨y1,y2,y3⟩
  ·exact⟨(List.append_inj' (x2.symm.trans y2) rfl).1,x3.trans y3.symm⟩
  ·exact absurd (x1.symm.trans y1) w1
  ·exact absurd (x1.symm.trans y1) w2
  ·exact absurd (y1.symm.trans x1) w1
  ·exact⟨x2.trans y2.symm,(List.append_inj' (x3.symm.trans y3) rfl).1⟩
  ·exact absurd (x1.symm.trans y1) w3
  ·exact absurd (y1.symm.trans x1) w2
  ·exact absurd (y1.symm.trans x1) w3
  ·exact⟨x2.trans y2.symm,x3.trans y3.symm⟩
 obtain⟨l1,q1,p1,d1',o1,ol1,c1,s1⟩:=S1;obtain⟨l2,q2,p2,d2',o2,ol2,c2,s2⟩:=S2;simp only at *
 obtain⟨e7,e8⟩:=e6;subst e1 e5 e7 e8;rw[<- a3,<- b3,<- a4,<- b4,<- a5,<- b5,<- a6,<- b6]
structure FrN(A A':SAd)(H H':Hp):Prop where
 p:A'.p=A.p
 k:∀ b o,H b=some o->b∉A.fp->H' b=some o/\b∉A'.fp
 kt:∀ t xs,H t=some (.tup xs)->H' t=some (.tup xs)
theorem FrN.refl(A:SAd)(H:Hp):FrN A A H H:=⟨rfl,fun b o e n=>⟨e,n⟩,fun _ _ e=>e⟩
theorem FrN.of(e:Same H H'):FrN A A H H':=⟨rfl,fun b o z n=>⟨e _ _ z,n⟩,fun _ _ z=>e _ _ z⟩
theorem FrN.trans(h1:FrN A A1 H H1)(h2:FrN A1 A2 H1 H2):FrN A A2 H H2:=⟨h2.p.trans h1.p,fun b o e n=>by
 obtain⟨a1,a2⟩:=h1.k b o e n;exact h2.k b o a1 a2,fun t xs e=>h2.kt _ _ (h1.kt _ _ e)⟩
theorem J7.out(nx:J7 A A' H)(e:H b=some o)(n:b∉A.fp):b∉A'.fp:=by
 obtain⟨x,rfl,hx⟩:=nx;simp only[SAd.fp,zsz,zt2,or_false] at n ⊢
 rcases hx with rfl|hx
 ·exact n
 ·have:b≠x:=Zh e hx
  rintro(z|z|z|z|z|z|z)
  ·exact n (.inl z)
  ·exact n (.inr (.inl z))
  ·exact n (.inr (.inr (.inl z)))
  ·exact n (.inr (.inr (.inr (.inl z))))
  ·exact n (.inr (.inr (.inr (.inr (.inl z)))))
  ·exact n (.inr (.inr (.inr (.inr (.inr (.inl z))))))
  ·exact this z
theorem FrN.next(SA:Zy ca H A S)(nx:J7 A A' H)(f:FrS A H H'):FrN A A' H H':=⟨by obtain⟨x,rfl,_⟩:=nx;rfl,fun b o e n=>⟨f b o e n,nx.out e n⟩,SA.tups f⟩
def T7(K:PySem.W.Frag)(A:SAd)(H:Hp)(b:Addr)(xs:List V):Prop:=(Rd H b (.lst xs)/\b∉A.fp)\/∀ H',SqL K H' b xs
theorem T7.sq{K:PySem.W.Frag}{A:SAd}{H:Hp}{b:Addr}{xs:List V}(h:T7 K A H b xs):SqL K H b xs:=by
 rcases h with h|h
 ·exact .inl h.1
 ·exact h H
theorem T7.fr{K:PySem.W.Frag}{A A':SAd}{H H':Hp}{b:Addr}{xs:List V}(f:FrN A A' H H')(h:T7 K A H b xs):T7 K A' H' b xs:=by
 rcases h with ⟨h,n⟩|h
 ·rcases h with h|⟨o,h⟩
  ·exact .inl ⟨.inl (f.k _ _ h n).1,(f.k _ _ h n).2⟩
  ·exact .inl ⟨.inr ⟨o,(f.k _ _ h n).1⟩,(f.k _ _ h n).2⟩
 ·exact .inr h
theorem T7.make{K:PySem.W.Frag}{H:Hp}{b:Addr}{xs:List V}(h:SqL K H b xs)(A:SAd)(H':Hp)(s:Same H H')(hf:∀ x∈A.fp,H x=none):T7 K A H' b xs:=by
 rcases h with h|h
 ·have hn:b∉A.fp:=fun z=>by
   have:=hf b z;rcases h with h|⟨o,h⟩<;>(rw[this] at h;cases h)
  rcases h with h|⟨o,h⟩
  ·exact .inl ⟨.inl (s _ _ h),hn⟩
  ·exact .inl ⟨.inr ⟨o,s _ _ h⟩,hn⟩
 ·exact .inr fun _=>.inr h
structure Ob(A:SAd)(H:Hp)(t lc ln:Addr)(cs nu:List Int):Prop where
 at_:O1 H t lc ln cs nu
 o:t∉A.fp/\lc∉A.fp/\ln∉A.fp
theorem Ob.fr{A A':SAd}{H H':Hp}{t lc ln:Addr}{cs nu:List Int}(f:FrN A A' H H')(h:Ob A H t lc ln cs nu):Ob A' H' t lc ln cs nu:=by
 obtain⟨⟨a1,a2,a3,a4,a5,a6,a7,a8,a9⟩,o1,o2,o3⟩:=h;exact⟨⟨(f.k _ _ a1 o1).1,(f.k _ _ a2 o2).1,(f.k _ _ a3 o3).1,a4,a5,a6,a7,a8,a9⟩,(f.k _ _ a1 o1).2,(f.k _ _ a2 o2).2,(f.k _ _ a3 o3).2⟩
inductive Bk(mb:Bool)(ok:Addr->Prop)(H:Hp)(nu:List Int)(n:Nat):List Addr->Sea->Prop where
 | one {d:Addr} {P:Pg} {S:Sea} (h:PgAt ok H d P) (r:Rel mb P S) (o:SOk nu n S) (e:S.std=[]):Bk mb ok H nu n [d] S
 | snoc {ds:List Addr} {d:Addr} {P:Pg} {S S':Sea} (b:Bk mb ok H nu n ds S) (nd:d∉ds) (h:PgAt ok H d P) (r:Rel mb P S') (o:SOk nu n S') (st:Ke S S') (hd:∃ x,P.deed=some x/\S'.std=S.std++[(x,S.cur)]):Bk mb ok H nu n (ds++[d]) S'
section
variable{mb:Bool}{ok ok':Addr->Prop}{H H':Hp}{nu:List Int}{n m:Nat}{ds:List Addr}{d:Addr}{P:Pg}{S S':Sea}
theorem Bk.keep(b:Bk mb ok H nu n ds S)(k:∀ x o,ok x->H x=some o->H' x=some o)(kt:∀ t xs,H t=some (.tup xs)->H' t=some (.tup xs)):Bk mb ok H' nu n ds S:=by
 induction b with
 | one h r o e=>exact .one (h.keep k kt) r o e
 | snoc b nd h r o st hd ih=>exact .snoc ih nd (h.keep k kt) r o st hd
theorem Bk.imp(b:Bk mb ok H nu n ds S)(k:∀ x,(∃ o,H x=some o)->ok x->ok' x):Bk mb ok' H nu n ds S:=by
 induction b with
 | one h r o e=>exact .one (h.imp k) r o e
 | snoc b nd h r o st hd ih=>exact .snoc ih nd (h.imp k) r o st hd
theorem Bk.mono(b:Bk mb ok H nu n ds S)(e:n<=m):Bk mb ok H nu m ds S:=by
 induction b with
 | one h r o e'=>exact .one h r (o.mono e) e'
 | snoc b nd h r o st hd ih=>exact .snoc ih nd h r (o.mono e) st hd
theorem Bk.there(b:Bk mb ok H nu n ds S):∀ d∈ds,∃ kvs,H d=some (.dK kvs):=by
 induction b with
 | one h r o e =>
   intro d hd;rw[zsx.mp hd];obtain⟨_,_,_,_,_,_,_,a,_⟩:=h.split;exact⟨_,a⟩
 | snoc b nd h r o st hd ih =>
   intro d' hd';rcases zs6.mp hd' with z|z
   ·exact ih d' z
   ·rw[zsx.mp z]
    obtain⟨_,_,_,_,_,_,_,a,_⟩:=h.split;exact⟨_,a⟩
theorem Bk.other(b:Bk mb ok H nu n ds S)(he:H e=some (.dK kvs))(hn:e∉ds):Bk mb ok (upd H e (.dK kvs')) nu n ds S:=by
 induction b with
 | one h r o e'=>exact .one (h.other (fun z=>hn (by rw[z];exact zuq _)) he) r o e'
 | snoc b nd h r o st hd ih=>exact .snoc (ih fun z=>hn (ztf _ z)) nd (h.other (fun z=>hn (by rw[z];exact zs9 _ (zuq _))) he) r o st hd
structure zfa(mb:Bool)(ok:Addr->Prop)(H:Hp)(nu:List Int)(n:Nat)(ds:List Addr)(d:Addr)(dd:Option S8)(S:Sea):Prop where
 nd:d∉ds
 ex:(ds=[]/\S.std=[])\/∃ S0,Bk mb ok H nu n ds S0/\Ke S0 S/\∃ x,dd=some x/\S.std=S0.std++[(x,S0.cur)]
structure M8(mb:Bool)(ok:Addr->Prop)(H:Hp)(nu:List Int)(n:Nat)(ds:List Addr)(d:Addr)(P:Pg)(S:Sea):Prop where
 pg:PgAt ok H d P
 rb:RelB mb P S
 so:SOk nu n S
 tl:zfa mb ok H nu n ds d P.deed S
structure Ug(mb:Bool)(ok:Addr->Prop)(H:Hp)(nu:List Int)(n:Nat)(ds:List Addr)(d:Addr)(P:Pg)(S:Sea):Prop where
 pg:PgAt ok H d P
 re:Rel mb P S
 so:SOk nu n S
 tl:zfa mb ok H nu n ds d P.deed S
theorem Ug.pend(h:Ug mb ok H nu n ds d P S):M8 mb ok H nu n ds d P S:=⟨h.pg,h.re.b,h.so,h.tl⟩
theorem Ug.bk(h:Ug mb ok H nu n ds d P S):Bk mb ok H nu n (ds++[d]) S:=by
 obtain⟨nd,⟨rfl,e⟩|⟨S0,b,st,hd⟩⟩:=h.tl
 ·exact .one h.pg h.re h.so e
 ·exact .snoc b nd h.pg h.re h.so st hd
theorem Bk.full(b:Bk mb ok H nu n xs S):∃ ds d P,xs=ds++[d]/\Ug mb ok H nu n ds d P S:=by
 cases b with
 | one h r o e=>exact⟨[],_,_,rfl,h,r,o,nofun,.inl ⟨rfl,e⟩⟩
 | snoc b nd h r o st hd=>exact⟨_,_,_,rfl,h,r,o,nd,.inr ⟨_,b,st,hd⟩⟩
theorem zfa.keep(h:zfa mb ok H nu n ds d dd S)(k:∀ x o,ok x->H x=some o->H' x=some o)(kt:∀ t xs,H t=some (.tup xs)->H' t=some (.tup xs)):zfa mb ok H' nu n ds d dd S:=by
 obtain⟨nd,e|⟨S0,b,r⟩⟩:=h
 ·exact⟨nd,.inl e⟩
 ·exact⟨nd,.inr ⟨S0,b.keep k kt,r⟩⟩
theorem M8.same(h:M8 mb ok H nu n ds d P S)(e:Same H H'):M8 mb ok H' nu n ds d P S:=⟨h.pg.same e,h.rb,h.so,h.tl.keep (fun _ _ _ q=>e _ _ q) fun _ _ q=>e _ _ q⟩
theorem Ug.same(h:Ug mb ok H nu n ds d P S)(e:Same H H'):Ug mb ok H' nu n ds d P S:=⟨h.pg.same e,h.re,h.so,h.tl.keep (fun _ _ _ q=>e _ _ q) fun _ _ q=>e _ _ q⟩
theorem M8.full(h:M8 mb ok H nu n ds d P S)(hg:∀ s,S.cur=some s->P.gv=s.gv)(hm:mb=true->P.mv=Kk S):Ug mb ok H nu n ds d P S:=⟨h.pg,⟨h.rb,hg,hm⟩,h.so,h.tl⟩
end
theorem zfb(r:RelB mb P S)(o:SOk nu n S)(af:S9 H' S D S' v)(hb:D≠.back)(hc:D≠.close):∃ x,(Ud P D).deed=some x/\S'.std=S.std++[(x,S.cur)]:=by
 have e:=r.at o
 cases af with
 | enrol k gr c=>exact⟨_,rfl,by rw[e]⟩
 | awayN h hl=>exact⟨_,rfl,rfl⟩
 | awayF h hp hl=>exact⟨_,rfl,rfl⟩
 | awayC h hp hl tl CR=>exact⟨_,rfl,rfl⟩
 | draw hl F T=>exact⟨_,rfl,by rw[e];rfl⟩
 | close h=>exact absurd rfl hc
 | back h ht hs=>exact absurd rfl hb
theorem turn(F:Ug mb (·∉A.fp) H nu n ds d P S)(SA:Zy ca H A S)(af:S9 H1 S D S' v)(SA1:Zy ca H1 A' S')(nx:J7 A A' H)(fr:FrS A H H1)(g:Kf S D)(hn:∀ k gr c,D=.enrol k gr c->k∈nu)
  (pg:D≠.back->PgAt (fun x=>x∉A'.fp\/H1 x=none) H2 d' (Ud P D)) (s2:Same H1 H2) (fd:H1 d'=none) :
  ∃ ds2 d2 P2,zae ds d d' D=ds2++[d2]/\M8 mb (·∉A'.fp) H2 nu (n+1) ds2 d2 P2 S'/\(D≠.back->P2=Ud P D)/\(D=.back\/D=.close->(∀ s,S'.cur=some s->P2.gv=s.gv)/\(mb=true->P2.mv=Kk S')):=by
 have mv:∀ {xs:List Addr} {S0:Sea},Bk mb (·∉A.fp) H nu n xs S0->Bk mb (·∉A'.fp) H2 nu (n+1) xs S0:=fun b=>by
  have b1:=b.imp (ok':=fun x=>x∉A.fp/\x∉A'.fp) fun x ⟨o,e⟩ z=>⟨z,nx.out e z⟩
  have b2:=b1.keep (H':=H2) (fun x o z e=>s2 _ _ (fr x o e z.1)) fun t xs e=>s2 _ _ (SA.tups fr t xs e)
  exact(b2.imp fun x _ z=>z.2).mono (Nat.le_succ n)
 have hd1:∀ x∈ds++[d],x≠d':=fun x hx z=>by
  have b1:=F.bk.imp (ok':=fun x=>x∉A.fp/\x∉A'.fp) fun x ⟨o,e⟩ z=>⟨z,nx.out e z⟩
  have b2:=b1.keep (H':=H1) (fun x o z e=>fr x o e z.1) fun t xs e=>SA.tups fr t xs e
  obtain⟨kvs,e⟩:=b2.there x hx;rw[z,fd] at e;cases e
 by_cases hb:D=.back
 ·subst hb
  cases af with
  | @back S0' dd t h ht hs =>
    obtain⟨nd,⟨_,e⟩|⟨S0,b,st,_⟩⟩:=F.tl
    ·exact absurd e g
    ·have es:=zc3 hs st
     subst es;obtain⟨ds2,d2,P2,e,F2⟩:=(mv b).full;exact⟨ds2,d2,P2,e,F2.pend,fun z=>absurd rfl z,fun _=>⟨F2.re.gv,F2.re.mv⟩⟩
 ·have pg':PgAt (·∉A'.fp) H2 d' (Ud P D):=(pg hb).imp fun x hx z=>by
   rcases z with z|z
   ·exact z
   ·exact SA1.newOk x z
  obtain⟨o',ho⟩:=ze9 F.so g af hb hn;have rb:=zc2 F.re F.so g af hb;rcases ho with ⟨rfl,e1,e2⟩|⟨hc,st⟩
  ·exact⟨[],d',_,rfl,⟨pg',rb,o',nofun,.inl ⟨rfl,e1⟩⟩,fun _=>rfl,fun _=>⟨fun s hs=>(by rw[e2] at hs;cases hs),fun _=>(by rw[Ue e2];rfl)⟩⟩
  ·have hk:zae ds d d' D=(ds++[d])++[d']:=by
    cases D with
    | back=>exact absurd rfl hb
    | close=>exact absurd rfl hc
    | enrol _ _ _=>rfl
    | away _ _=>rfl
    | draw _=>rfl
   refine⟨ds++[d],d',_,hk,⟨pg',rb,o',fun z=>hd1 d' z rfl,.inr ⟨S,mv F.bk,st,zfb F.re.b F.so af hb hc⟩⟩,fun _=>rfl,?_⟩
   rintro(z|z)
   ·exact absurd z hb
   ·exact absurd z hc
section
variable{mb:Bool}{ok ok':Addr->Prop}{A A':SAd}{H H':Hp}{nu:List Int}{n m:Nat}{ds:List Addr}{d:Addr}{P:Pg}{S S':Sea}{D:R6}
theorem PgAt.fr(f:FrN A A' H H')(h:PgAt (·∉A.fp) H d P):PgAt (·∉A'.fp) H' d P:=by
 have b1:=h.imp (ok':=fun x=>x∉A.fp/\x∉A'.fp) fun x ⟨o,e⟩ z=>⟨z,(f.k x o e z).2⟩
 have b2:=b1.keep (H':=H') (fun x o z e=>(f.k x o e z.1).1) f.kt
 exact b2.imp fun x _ z=>z.2
theorem Wy.fr(f:FrN A A' H H')(h:Wy (·∉A.fp) H t D):Wy (·∉A'.fp) H' t D:=by
 cases D with
 | enrol a b c=>exact f.kt _ _ h
 | away a b=>exact f.kt _ _ h
 | draw ms =>
   obtain⟨l,ts,a1,a2,a3,a4⟩:=h;exact⟨l,ts,f.kt _ _ a1,(f.k _ _ a2 a4).1,a3.mono f.kt,(f.k _ _ a2 a4).2⟩
 | close=>exact f.kt _ _ h
 | back=>exact f.kt _ _ h
theorem Wy.same(e:Same H H')(h:Wy ok H t D):Wy ok H' t D:=by
 cases D with
 | enrol a b c=>exact e _ _ h
 | away a b=>exact e _ _ h
 | draw ms =>
   obtain⟨l,ts,a1,a2,a3,a4⟩:=h;exact⟨l,ts,e _ _ a1,e _ _ a2,a3.mono fun _ _ z=>e _ _ z,a4⟩
 | close=>exact e _ _ h
 | back=>exact e _ _ h
theorem Wy.imp(k:∀ x,ok x->ok' x)(h:Wy ok H t D):Wy ok' H t D:=by
 cases D with
 | enrol a b c=>exact h
 | away a b=>exact h
 | draw ms =>
   obtain⟨l,ts,a1,a2,a3,a4⟩:=h;exact⟨l,ts,a1,a2,a3,k _ a4⟩
 | close=>exact h
 | back=>exact h
theorem Bk.len(b:Bk mb ok H nu n ds S):ds.length=S.std.length+1:=by
 induction b with
 | one h r o e=>rw[e];rfl
 | snoc b nd h r o st hd ih =>
   obtain⟨x,_,e⟩:=hd;rw[e,zsw,zsw,ih];rfl
theorem Ug.len(F:Ug mb ok H nu n ds d P S):ds.length=S.std.length:=by
 have:=F.bk.len;rw[zsw] at this
 have h1:[d].length=1:=rfl;omega
theorem Ug.pre(F:Ug mb ok H nu n ds d P S)(g:Kf S D)(hn:n<100):zey S/\Qu S/\S.std.length<100/\S.out.length<=100000/\2*(tot S.led+1000)<=100000/\S.led.length<=1000/\S.old.length<=1000/\S.len<=1000/\(∀ i k,D=.away i k->Y6 k)/\(D=.back->∃ S0,Ke S0 S):=by
 have h1:=F.so.num;have h2:=F.so.len;have h3:=F.so.olen;have h4:=F.so.tot;refine⟨F.so.cur,F.so.pok,by omega,by omega,by omega,by omega,by omega,by omega,?_,?_⟩
 ·rintro i k rfl
  obtain⟨_,_,g3,_⟩:=g;obtain⟨x,hx,rfl⟩:=zs2.mp g3;exact F.so.pok.small x hx
 ·rintro rfl
  obtain⟨nd,⟨_,e⟩|⟨S0,b,st,_⟩⟩:=F.tl
  ·exact absurd e g
  ·exact⟨S0,st⟩
theorem Ug.pre2(F:Ug mb ok H nu n ds d P S)(g:Kf S D)(hn:n<100):M5 P/\P.ppl.length<=100/\P.out.length<=900/\ds.length<=900/\(D=.close->∃ ms,P.lis=some ms/\ms.length<=100):=by
 have h1:=F.so.num;have h2:=F.len;have h3:=F.so.few;refine⟨F.re.b.ovok F.so,by rw[F.re.b.ppl];omega,by rw[F.re.b.out];omega,by omega,?_⟩
 rintro rfl;obtain⟨_,g2⟩:=g;cases e:S.cur with
 | none=>exact absurd e g2
 | some s=>exact⟨s.ms,by rw[F.re.b.lis,e];rfl,ztb (F.so.cur s e).1 (by decide)⟩
theorem Ug.back(F:Ug mb ok H nu n ds d P S)(h:ds≠[]):S.std≠[]:=by
 obtain⟨nd,⟨e,_⟩|⟨S0,b,st,x,_,e⟩⟩:=F.tl
 ·exact absurd e h
 ·rw[e];simp
end
inductive Ii(K:PySem.W.Frag)(ca:CA)(vs:List V)(H:Hp)(Q:VK)(_:XK):Prop where
 | mk(mb:Bool)(A:SAd)(l le:Addr)(ts:List V)(es:List P3)(ds:List Addr)(d:Addr)(P:Pg)(S:Sea)(nu:List Int)(n:Nat)(_:vs=[.ref A.p,.ref l,.ref le])(_:Zy ca H A S)(_:H l=some (.lst ((ds++[d]).map V.ref)))(_:l∉A.fp)(_:Ug mb (·∉A.fp) H nu n ds d P S)(_:H le=some (.lst ts))(_:le∉A.fp)(_:Z9 H ts (es.map enV))(_:(es.map (·.1)).Nodup)(_:(∀ x∈es,x.1∈nu/\¬ badI x.1 x.2.1 x.2.2/\x.1∉S.ppl.map (·.1)))(_:S.ppl.length+es.length<=30)(_:n+es.length<=90)(_:S.cur=none)(_:S.led.length<S.len)(_:∀ A' l' ds' d' P' S' H',Zy ca H' A' S'->H' l'=some (.lst ((ds'++[d']).map V.ref))->l'∉A'.fp->Ug mb (·∉A'.fp) H' nu (n+es.length) ds' d' P' S'->FrN A A' H H'->S'.cur=none->S'.led=S.led->S'.len=S.len->Q (.ref l') H')
theorem zaj(pg:PgAt ok H d (zad r q))(hr:r<=60)(hq:q<=10):Ug mb ok H nu n [] d (zad r q) (zet r q) :=
 ⟨pg,⟨⟨rfl,rfl,rfl,rfl,rfl,rfl⟩,nofun,fun _=>rfl⟩,⟨nofun,.nil,nofun,ztm _,rfl,nofun,⟨ztm _,hr,hq⟩,fun z=>absurd rfl z,⟨ztm _,ztm _⟩,fun s hs=>(by rcases hs with z|z<;>cases z)⟩,nofun,.inl ⟨rfl,rfl⟩⟩
theorem Dm{lo:Int}{n:Nat}{g:TG}{tb:TS}{D:Pp}{σ:L2.St}{H:Hp}(Pv:Nat->L2.St->Hp->Prop)(h0:Pv 0 σ H)
  (hs:∀ N:L2.St->Hp->Prop,(∀ i σ H,Pv i σ H->N σ H)->∀ i σ H,i<n->Pv i σ H->g (.int (lo+i)) σ H fun σ2 H2=>tb { D with nx:=Pv (i+1),ct:=Pv (i+1),bk:=N } σ2 H2) (hd:∀ i σ H,Pv i σ H->D.nx σ H) :
  ∃ W:Nat->Nat->L2.St->Hp->Prop,(∃ m,W 0 m σ H)/\∀ i m σ H,W i m σ H ->
    ((Itr lo n).stop i H/\D.nx σ H)\/((Itr lo n).go i H/\∃ N:L2.St->Hp->Prop,(∀ σ' H',N σ' H'->∃ m',m' < m/\W (i+1) m' σ' H')/\∀ x H',(Itr lo n).yld i H x H'->g x σ H' fun σ2 H2=>tb { D with nx:=N,ct:=N,bk:=D.nx } σ2 H2) :=
 Xu Pv h0 (hs D.nx hd) (fun σ H p=>hd n σ H p)
theorem zc4(S:Sea):Vt S (atV S)=S.cur:=by
 unfold Vt atV;rw[if_neg (by omega),if_neg (by omega)]
theorem zfc(o:SOk nu n S)(h:S.cur=some s)(hk:k s):Dd ca H S (atV S) E k:=by
 have h1:=o.len;have h2:=o.lt (by rw[h];exact nofun)
 have h3:atV S=(S.led.length:Int)+1:=rfl;refine⟨Y2 (by omega) (by omega),o.olen,?_⟩
 rw[if_neg (by omega),zc4]
 exact⟨fun z=>(by rw[h] at z;cases z),fun s' hs=>(by rw[h] at hs;cases hs;exact hk)⟩
theorem zgq(SA:Zy ca H A S)(h:Wy (fun x=>H x=none) H' t D):Wy (·∉A.fp) H' t D:=h.imp fun x hx=>SA.newOk x hx
def Ij(H H':Hp):Prop:=Xf H H'/\∀ x c e f,H x=some (.ins c e f)->H' x=some (.ins c e f)
theorem Ij.dict(h:H d=some (.dK kvs)):Ij H (upd H d (.dK kvs')) :=
 ⟨.dict h,fun x c e f z=>by rw[Zi (Yx z h (by intro z;cases z))];exact z⟩
theorem ShAt.keepI(k:Ij H H')(h:ShAt C ok H q s):ShAt C ok H' q s:=by
 obtain⟨dx,l1,l2,l3,l4,ts,ls,gts,a1,a2,a3,a4,a5,a6,a7,a8,o1,o2,o3,o4,o5,o6⟩:=h;exact⟨dx,l1,l2,l3,l4,ts,ls,gts,k.2 _ _ _ _ a1,k.1.1 _ _ a2,a3.mono k.1.2,k.1.1 _ _ a4,ILs.keepL k.1 a5,k.1.1 _ _ a6,k.1.1 _ _ a7,a8.keepL k.1,o1,o2,o3,o4,o5,o6⟩
theorem ShO.keepI(k:Ij H H')(h:ShO C ok H v s):ShO C ok H' v s:=by
 cases s with
 | none=>exact h
 | some s=>obtain⟨q,e,h⟩:=h;exact⟨q,e,h.keepI k⟩
theorem ShL.keepI(k:Ij H H'):∀ {vs:List V} {ss:List Z3},ShL C ok H vs ss->ShL C ok H' vs ss
 | _,_,.nil=>.nil
 | _,_,.cons h r=>.cons (h.keepI k) (ShL.keepI k r)
theorem Uz.keepI(k:Ij H H'):∀ {vs:List V} {ss:List (S8×Option Z3)},Uz C ok H vs ss->Uz C ok H' vs ss
 | _,_,.nil=>.nil
 | _,_,.cons h hu hs r=>.cons (k.1.2 _ _ h) (k.1.2 _ _ hu) (hs.keepI k) (Uz.keepI k r)
theorem Zy.dictW(h:Zy ca H A S)(hd:H d=some (.dK kvs))(n:d∉A.fp):Zy ca (upd H d (.dK kvs')) A S:=by
 have k:=Ij.dict hd (kvs':=kvs');have hn:∀ x∈A.fp,∀ o,H x=some o->upd H d (.dK kvs') x=some o:=fun x hx o e=>by rw[Zi (fun z=>n (by rw[<- z];exact hx))];exact e
 obtain⟨⟨dx,v,a1,a2⟩,b,c,⟨kvs0,d1,d2⟩,⟨vs,f1,f2⟩,⟨us,g1,g2⟩,nd,np⟩:=h;have hp:A.p∈A.fp:=by simp[SAd.fp]
 have hdr:A.dr∈A.fp:=by simp[SAd.fp]
 have hlr:A.lr∈A.fp:=by simp[SAd.fp]
 have hld:A.ld∈A.fp:=by simp[SAd.fp]
 have hda:A.da∈A.fp:=by simp[SAd.fp]
 have hls:A.ls∈A.fp:=by simp[SAd.fp]
 have hlt:A.lt∈A.fp:=by simp[SAd.fp]
 obtain⟨⟨dxr,kvr,r1,r2,r3⟩,ndr⟩:=b;obtain⟨⟨dxl,l1⟩,l2,l3⟩:=id c;refine⟨⟨dx,v,hn _ hp _ a1,a2.keepI k⟩,⟨⟨dxr,kvr,k.2 _ _ _ _ r1,hn _ hdr _ r2,r3.mono k.1.2⟩,ndr⟩,c.keep (fun o e=>?_) (hn _ hlr) (hn _ hld) k.1.2,⟨kvs0,hn _ hda _ d1,d2⟩,⟨vs,hn _ hls _ f1,f2.keepI k⟩,⟨us,hn _ hlt _ g1,g2.keepI k⟩,nd,np⟩
 rw[l1] at e
 cases e;exact k.2 _ _ _ _ l1
theorem FrN.dictW{A:SAd}{H:Hp}{d:Addr}{kvs kvs':List (Key×V)}(hd:H d=some (.dK kvs)){b:Addr}{o:HO}(e:H b=some o)(h:∀ k,o≠.dK k):upd H d (.dK kvs') b=some o:=by
 rw[Zi (Yx e hd (by intro z;exact h _ z))];exact e
theorem T7.dictW{K:PySem.W.Frag}{A:SAd}{H:Hp}{d b:Addr}{kvs kvs':List (Key×V)}{xs:List V}(h:T7 K A H b xs)(hd:H d=some (.dK kvs)):T7 K A (upd H d (.dK kvs')) b xs:=by
 rcases h with ⟨h|⟨o,h⟩,n⟩|h
 ·exact .inl ⟨.inl (FrN.dictW (A:=A) hd h (by intro k z;cases z)),n⟩
 ·exact .inl ⟨.inr ⟨o,FrN.dictW (A:=A) hd h (by intro k z;cases z)⟩,n⟩
 ·exact .inr h
theorem Ob.dictW{A:SAd}{H:Hp}{d t lc ln:Addr}{cs nu:List Int}{kvs kvs':List (Key×V)}(h:Ob A H t lc ln cs nu)(hd:H d=some (.dK kvs)):Ob A (upd H d (.dK kvs')) t lc ln cs nu:=by
 have k:=Xf.dict hd (kvs':=kvs');obtain⟨⟨a1,a2,a3,a4,a5,a6,a7,a8,a9⟩,o⟩:=h;exact⟨⟨k.2 _ _ a1,k.1 _ _ a2,k.1 _ _ a3,a4,a5,a6,a7,a8,a9⟩,o⟩
end G

namespace G
open PySem PySem.Spec PyProof.Rows L2
end G

namespace L2
open PySem PySem.Spec PyProof.Rows
theorem fnS(a:sc.kind=.function:=by rfl)(b:sc.isCoroutine=false:=by rfl)(c:sc.isGenerator=false:=by rfl)(d:N.Nodup:=by decide +kernel)(e:N.take P.length=P:=by rfl)(f:∀ x∈P,sc.names.lookup x=some .local\/sc.names.lookup x=some .cell:=by decide +kernel)(g:∀ y∈sc.names,y.2≠.free:=by decide +kernel):Zl N P sc:=⟨a,b,c,d,e,f,g⟩
section
variable{X:Cx}{k j:Nat}{C:Addr}{ps:List Str}{sp:Sp}{E:XK}{x m:Str}{p pos pos' apos:Pos}{e o a b:Expr}{es:List Expr}{ta tb te:TE}{t:TA}{r:R2}
theorem pS(i:Nat)(hN:X.N.Nodup)(he:PE X e te)(hi:X.N[i]?=some x:=by rfl)(hx:Loc X.env.scope x:=by first|exact Or.inl rfl|exact Or.inr rfl)(hs:swapsWith e (some (.Name x pos')) pos.line X.env=pure false:=by rfl)(hf:B9 X i x:=by first|exact⟨.inl rfl,Wv⟩|exact⟨.inr rfl,Wv⟩|assumption|exact⟨.inl rfl,by assumption⟩|exact⟨.inr rfl,by assumption⟩) :
  PS X (.Assign [.Name x pos'] e pos) (zbs te (Vn i)):=zhd hN hi hx he hs hf
theorem pN(i:Nat)(hN:X.N.Nodup)(hi:X.N[i]?=some x:=by rfl)(hx:Loc X.env.scope x:=by first|exact Or.inl rfl|exact Or.inr rfl)(hf:B9 X i x:=by first|exact⟨.inl rfl,Wv⟩|exact⟨.inr rfl,Wv⟩|assumption|exact⟨.inl rfl,by assumption⟩|exact⟨.inr rfl,by assumption⟩):PG X (.Name x pos) (Vn i):=Ri hN hi hx hf
theorem pI(hr:IxR X r)(ha:PE X a ta)(hb:PE X b tb)(hs:za0 b:=by exact fun _ _=>rfl):PE X (.Subscript a b pos) (tOp r ta tb):=zjc hr ha hb hs
theorem pD(hu:X.A.units+1<cLine)(ho:PE X a ta)(hi:PE X b tb)(hs:zhk b:=by exact fun _ _=>rfl):PE X (.Subscript a b pos) (Jn ta tb):=zfv hu ho hi hs
theorem pF(D:Z1 X.prog X.w X.K X.mg X.base x k ps sp)(hr:W7 j X.A)(ha:PA X (e :: es) t)(hk:k<=j:=by decide)(hx:Vc (CX1 X.prog X.w) X E:=by exact Zk)(hg:Gl X x:=by rfl)(hdb:(x == ("__debug__":Str))=false:=by decide)
  (he:starEach (e :: es) X.env=(false,eval e X.env) :: starEach es X.env:=by rfl) (hpl:(backTo pos (starEach es X.env)).any (·.1)=false:=by rfl):PE X (.Call (.Name x p) (e :: es) [] pos) (Ca sp [] E t):=za4 D (hr.mono hk) hx hg ha hdb he hpl
theorem iL(K:PySem.W.Frag)(h:X.K=K:=by rfl):IxR X (Gb K):=zd6 h
theorem iU(K:PySem.W.Frag)(h:X.K=K:=by rfl):IxR X (zht K):=zf5 h
theorem cL(K:PySem.W.Frag)(h:X.K=K:=by rfl):Vo X (.builtin "len") (fun xs H Q=>∃ p ys,xs=[.ref p]/\(SqL K H p ys\/SqT K H p ys)/\Q (.int ys.length) H):=Gh h
end
theorem cT(ys:List Str)(js:List Nat)(a:closureFor scope X.env=pure cl:=by rfl)(b:scope.kind=.function:=by rfl)(c:∀ y∈scope.names,y.2=.local->scope.names.lookup y.1=some .local:=by decide +kernel)(d:∀ y∈scope.names,y.2≠.cell:=by decide +kernel)(e:scope.names.lookup x=some .local:=by rfl)(f:(x :: ys).Nodup:=by decide +kernel)(g:js.map (X.N[·]?)=ys.map some:=by rfl)
  (h:Gg (fun y=>X.env.kindOf y=some .cell/\(relabel scope X.env).names.lookup y=some .cell/\cl.lookup y=X.env.cells.lookup y) ys:=by repeat' (first|exact True.intro|apply And.intro|rfl)) (i:Gg (fun p=>X.env.cells.lookup p.1=some p.2) cl:=by repeat' (first|exact True.intro|apply And.intro|rfl)) (j:∀ y∈scope.names,y.2=.free->y.1∈ys:=by decide +kernel):za2 X x scope cl ys js:=⟨a,b,c,d,e,f,g,h,i,j⟩
abbrev LkF(K:PySem.W.Frag)(f:Addr)(x q:Str)(st:Stmt)(oc kV dc pm cd ct:Value)(od an:Option Addr)(sl:Array (Option Value)):Prop:=K.lookup f=some ⟨oc,od,.func (PySem.W.fnOf x q (T2 st) (Zv st) (Zj st) .none kV dc pm an cd ct),sl⟩
abbrev NsB(K:PySem.W.Frag)(x:Str)(f:Addr):Prop:=PySem.W.nsIn K mainGlobals x=some (some (.ref f))
abbrev FdB(K:PySem.W.Frag)(c:Addr)(x:Str)(f:Addr):Prop:=PySem.W.findIn K (.ref c) x=some (some (.ref f))
abbrev BnA(x q:Str)(st:Stmt)(ps:List Str):Prop:=∀ (kV doc pm:Value) (an:Option Addr) (cdv ct:Value) (us:List Value),us.length=ps.length->bindArgs (PySem.W.fnOf x q (T2 st) (Zv st) (Zj st) .none kV doc pm an cdv ct) ⟨us,[]⟩=pure (ps.zip us)
abbrev BnE(x q:Str)(st:Stmt)(ps:List Str)(us:List Value):Prop:=∀ (kV doc pm:Value) (an:Option Addr) (cdv ct:Value),bindArgs (PySem.W.fnOf x q (T2 st) (Zv st) (Zj st) .none kV doc pm an cdv ct) ⟨us,[]⟩=pure (ps.zip us)
section
variable{x q a b c d e g:Str}{st:Stmt}
theorem bn1(h:∀ u,BnE x q st [a] [u]:=by intros _ _ _ _ _ _ _;rfl):BnA x q st [a]:=fun _ _ _ _ _ _ us hl=>match us,hl with|[_],_=>h _ _ _ _ _ _ _
theorem bn2(h:∀ u v,BnE x q st [a,b] [u,v]:=by intros _ _ _ _ _ _ _ _;rfl):BnA x q st [a,b]:=fun _ _ _ _ _ _ us hl=>match us,hl with|[_,_],_=>h _ _ _ _ _ _ _ _
theorem bn3(h:∀ u v w,BnE x q st [a,b,c] [u,v,w]:=by intros _ _ _ _ _ _ _ _ _;rfl):BnA x q st [a,b,c]:=fun _ _ _ _ _ _ us hl=>match us,hl with|[_,_,_],_=>h _ _ _ _ _ _ _ _ _
theorem bn4(h:∀ u v w y,BnE x q st [a,b,c,d] [u,v,w,y]:=by intros _ _ _ _ _ _ _ _ _ _;rfl):BnA x q st [a,b,c,d]:=fun _ _ _ _ _ _ us hl=>match us,hl with|[_,_,_,_],_=>h _ _ _ _ _ _ _ _ _ _
theorem bn5(h:∀ u v w y z,BnE x q st [a,b,c,d,e] [u,v,w,y,z]:=by intros _ _ _ _ _ _ _ _ _ _ _;rfl):BnA x q st [a,b,c,d,e]:=fun _ _ _ _ _ _ us hl=>match us,hl with|[_,_,_,_,_],_=>h _ _ _ _ _ _ _ _ _ _ _
end
section
variable{K:PySem.W.Frag}{mg:Str->Option Value}{x y q m:Str}{k:Nat}{ps:List Str}{sp:Sp}{C:Addr}{st:Stmt}{f:Addr}{fd:FuncData}
theorem dMk(P:Program)(w:World)(base:Heap)(F:Fun K x q st f fd)(ok:FnOk P w K mg base (CX1 P w) k f fd ps sp)(b:mg y=some (.ref f))(hb:BnA x q st ps:=by first|exact bn1|exact bn2|exact bn3|exact bn4|exact bn5):Z1 P w K mg base y k ps sp:=⟨f,fd,ok,b,F.kp,F.binds hb⟩
theorem mMk(P:Program)(w:World)(base:Heap)(F:Fun K x q st f fd)(ok:FnOk P w K mg base (CX1 P w) k f fd ps sp)(b:zdo K C m f)(hb:BnA x q st ps:=by first|exact bn1|exact bn2|exact bn3|exact bn4|exact bn5):Zw P w K mg base C m k ps sp:=⟨f,fd,ok,b,F.binds hb⟩
theorem nMk(P:Program)(w:World)(base:Heap)(F:Fun K x q st f fd)(ok:FnOk P w K mg base (CX1 P w) k f fd ps sp)(b:Mk K C f)(c:mg y=some (.ref C))(hb:BnA x q st ps:=by first|exact bn1|exact bn2|exact bn3|exact bn4|exact bn5):Se P w K mg base y C k ps sp:=⟨f,fd,ok,b,c,F.binds hb⟩
end
structure LN(K:PySem.W.Frag)(x q:Str)(st:Stmt)(f:Addr)(oc kV dc pm cd ct:Value)(od an:Option Addr)(sl:Array (Option Value)):Prop where
 b:NsB K x f
 l:LkF K f x q st oc kV dc pm cd ct od an sl
 c:PySem.W.codeIn K cd q=true
 k:PySem.W.keepIn K (.ref f)=true
structure LM(K:PySem.W.Frag)(C:Addr)(x q:Str)(st:Stmt)(f:Addr)(oc kV dc pm cd ct:Value)(od an:Option Addr)(sl:Array (Option Value)):Prop where
 b:FdB K C x f
 l:LkF K f x q st oc kV dc pm cd ct od an sl
 c:PySem.W.codeIn K cd q=true
 k:PySem.W.keepIn K (.ref f)=true
 i:PySem.W.isFn K (.ref f)=true
abbrev XcB(K:PySem.W.Frag)(c:Addr):Prop:=PySem.W.excIn K c [.type "ValueError",.type "Exception",.type "BaseException",.type "object"] "ValueError.__new__"=true
abbrev NzB(K:PySem.W.Frag)(x:Str):Prop:=PySem.W.nsIn K mainGlobals x=some none
structure XG(P:Program)(w:World)(base:Heap)(K:PySem.W.Frag)(mg:Str->Option Value)(h:Heap):Prop where
 X:K.In h
 G:h.Ns mainGlobals mg
section
variable{P:Program}{w:World}{base h:Heap}{K:PySem.W.Frag}{mg:Str->Option Value}{x y q:Str}{k:Nat}{ps:List Str}{sp:Sp}{C:Addr}{st:Stmt}{f:Addr}{oc kV dc pm cd ct:Value}{od an:Option Addr}{sl:Array (Option Value)}
theorem dN(Z:XG P w base K mg h)(l:LN K x q st f oc kV dc pm cd ct od an sl)(ok:∀ {fd},Fun K x q st f fd->FnOk P w K mg base (CX1 P w) k f fd ps sp)(hb:BnA x q st ps:=by first|exact bn1|exact bn2|exact bn3|exact bn4|exact bn5):Z1 P w K mg base x k ps sp :=
 dMk P w base (Oj l.l l.c l.k) (ok (Oj l.l l.c l.k)) (PySem.W.mg_of Z.X Z.G l.b) hb
theorem mM(_:XG P w base K mg h)(l:LM K C x q st f oc kV dc pm cd ct od an sl)(ok:∀ {fd},Fun K x q st f fd->FnOk P w K mg base (CX1 P w) k f fd ps sp)(hb:BnA x q st ps:=by first|exact bn1|exact bn2|exact bn3|exact bn4|exact bn5):Zw P w K mg base C x k ps sp :=
 mMk P w base (Oj l.l l.c l.k) (ok (Oj l.l l.c l.k)) ⟨l.b,l.i,l.k⟩ hb
theorem nM(Z:XG P w base K mg h)(l:LM K C "__init__" q st f oc kV dc pm cd ct od an sl)(m:PySem.W.makesIn K C=true)(kc:PySem.W.keepIn K (.ref C)=true)(c:PySem.W.nsIn K mainGlobals y=some (some (.ref C)))(ok:∀ {fd},Fun K "__init__" q st f fd->FnOk P w K mg base (CX1 P w) k f fd ps sp)(hb:BnA "__init__" q st ps:=by first|exact bn1|exact bn2|exact bn3|exact bn4|exact bn5):Se P w K mg base y C k ps sp :=
 nMk P w base (Oj l.l l.c l.k) (ok (Oj l.l l.c l.k)) ⟨m,l.b,l.i,kc⟩ (PySem.W.mg_of Z.X Z.G c) hb
end
section
variable{X:Cx}{elt iter:Expr}{x:Str}{px pos:Pos}{ifs:List Expr}{scope:Scope}{cl:List (Str×Addr)}{ys:List Str}{js:List Nat}
theorem Ik{pins:List (Addr×Obj)}{σ:St}{H:Hp}{s:Shared}{tt:TT}{te:TE}{it:Addr}{fp:List Addr}{tn:Nat->Heap->Prop}{J:It}{W:Nat->Nat->List V->Hp->Prop}{m0:Nat}{Q:VK}{E:Value->Shared->Prop}{RR:Value->Addr->Result->Shared->Prop}
  (hcm:X.calm=true) (c:za2 X x scope cl ys js) (ht:∀ pn s₀ H₀ fp C,PTs (Yz X pn (x :: ys) scope cl s₀ H₀ fp C) ifs tt) (hgt:∀ pn s₀ H₀ fp C,PG (Yz X pn (x :: ys) scope cl s₀ H₀ fp C) (.Name x px) (Vn 0)) (he:∀ pn s₀ H₀ fp C,PE (Yz X pn (x :: ys) scope cl s₀ H₀ fp C) elt te)
  (I:Inv X pins σ H s) (T:D7 X.prog X.w X.K (.Name x px) J fp it tn) (st0:tn 0 s.heap) (hf:∀ b∈fp,FpOk X pins H b) (w0:W 0 m0 [] H)
  (turn:∀ i m ys H,W i m ys H->(J.stop i H/\ys.length<=sizeLine/\∀ p,H p=none->Q (.ref p) (upd H p (.lst ys))) \/
   (J.go i H/\ys.length<sizeLine/\∃ N:List V->Hp->Prop,(∀ ys' H',N ys' H'->∃ m',m' < m/\W (i+1) m' ys' H')/\∀ x H',J.yld i H x H'->tt (cs js σ x) H' fun b H2=>if b=true then te (cs js σ x) H2 fun y H3=>N (ys++[y]) H3 else N ys H2))
  (hRR:∀ D C s' m,s'.heap.Ns C m->(∀ h',Heap.SameBut C s'.heap h'->∃ H',Inv X pins σ H' { s' with heap:=h' }/\Q (.ref D) H')->(∃ H',Inv X pins σ H' s'/\Q (.ref D) H'/\H' C=none)->s.heap.objs.size<=C->RR (.ref D) C (.ok .next) s') :
  wpAny (model X.prog X.w) X.A (newList []) (fun acc s₃=>wpAny (model X.prog X.w) X.A (newFunctionEnv scope X.env.globals cl [] X.env.qual none .none (some X.env)) (fun cenv s₄ =>
   codeAny (model X.prog X.w) X.A (.compStart (.ListComp elt [⟨.Name x px,iter,ifs,0⟩] scope pos) 0 (.ref it) acc { cenv with scope:=relabel scope X.env }) (RR acc cenv.locals) s₄) E s₃) E s :=
 Jz (xo:=[x]) (g:=Vn 0) hcm ⟨c.clos,c.kind,c.names,c.nocell,c.at_,c.free,c.only,c.vis⟩ ht hgt he I T st0 hf w0 (fun i m ys H w=>(turn i m ys H w).imp id fun ⟨a,b,N,n1,n2⟩=>⟨a,b,N,n1,fun y H' hy=>⟨⟨[some y],rfl,rfl⟩,n2 y H' hy⟩⟩) hRR
variable{wi:TI}{tt:TT}{te:TE}
theorem Uv(hcm:X.calm=true)(c:za2 X x scope cl ys js)(hi:PI X (.Name x px) iter wi)(ht:∀ pn s₀ H₀ fp C,PTs (Yz X pn (x :: ys) scope cl s₀ H₀ fp C) ifs tt)(he:∀ pn s₀ H₀ fp C,PE (Yz X pn (x :: ys) scope cl s₀ H₀ fp C) elt te)
  (hx:∀ C,(compEnvC scope cl C X.env).scope.names.lookup x=some .local:=by intro _;rfl) (hs:∀ x,foldedSetIterable iter X.env x=pure x:=by intro _;rfl):PE X (.ListComp elt [⟨.Name x px,iter,ifs,0⟩] scope pos) (zgz wi js tt te):=by
 intro pins s σ H Q I h;rw[eval_ListComp];refine wpAny_comprehension_free (use:=none) rfl hs c.clos c.kind c.names (thn (hi pins s σ H _ I h) fun v s1 h1=>thn h1 fun itv s2 h2=>?_)
 obtain⟨it,fp,tn,J,H2,e,I2,T,st2,f2,W,⟨m0,w0⟩,turn⟩:=h2;subst e;exact Ik (RR:=fun acc C=>compPost (model X.prog X.w) X.A X.xe none (EP X pins σ Q) acc C) hcm c ht (fun _ _ _ _ C=>Ri (X:=Yz X _ (x :: ys) scope cl _ _ _ C) c.nd rfl (.inl (hx C)) ⟨.inr (hx C),Wv⟩) he I2 T st2 f2 w0 turn fun D C s' m hn hS _ _=>⟨m,hn,fun h' hs'=>let ⟨H',I',q⟩:=hS h' hs';⟨.ref D,H',I',rfl,q⟩⟩
theorem T8{y:Str}{py spos:Pos}{i:Nat}(hN:X.N.Nodup)(hy:X.N[i]?=some y)(hk:X.env.scope.names.lookup y=some .local)(hcm:X.calm=true)(c:za2 X x scope cl ys js)(hi:PI X (.Name x px) iter wi)(ht:∀ pn s₀ H₀ fp C,PTs (Yz X pn (x :: ys) scope cl s₀ H₀ fp C) ifs tt)
  (he:∀ pn s₀ H₀ fp C,PE (Yz X pn (x :: ys) scope cl s₀ H₀ fp C) elt te)
  (hx:∀ C,(compEnvC scope cl C X.env).scope.names.lookup x=some .local:=by intro _;rfl) (hsw:swapsWith (.ListComp elt [⟨.Name x px,iter,ifs,0⟩] scope pos) (some (.Name y py)) spos.line X.env=pure true:=by rfl) (hs:∀ x,foldedSetIterable iter X.env x=pure x:=by intro _;rfl)
  (hf:B9 X i y:=by first|exact⟨.inr rfl,Wv⟩|assumption|exact⟨.inr rfl,by assumption⟩) :
  PS X (.Assign [.Name y py] (.ListComp elt [⟨.Name x px,iter,ifs,0⟩] scope pos) spos) (zbs (zgz wi js tt te) (Vn i)):=by
 intro pins s σ H D0 I h;rw[exec_Assign_Name_used _ _ _ _ hsw];refine wpAny_bind (wpAny_standAt (wpAny_bind ?_));show wpAny _ X.A (do let _ <- comprehension (.ListComp elt [⟨.Name x px,iter,ifs,0⟩] scope pos) scope X.env _ (newList []) false (eval iter X.env) (some (assign (.Name y py) X.env))) _ _ s
 refine wpAny_bind (wpAny_mono (wpAny_comprehension_free (use:=some (assign (.Name y py) X.env)) (Q:=fun _ s'=>SP X pins D0 .next s') rfl hs c.clos c.kind c.names
  (thn (hi pins s σ H _ I h) fun v s1 h1=>thn h1 fun itv s2 h2=>?_)) (fun _ s' hq=>wpAny_pure (wpAny_pure hq)) fun _ _ e=>e)
 obtain⟨it,fp,tn,J,H2,e,I2,T,st2,f2,W,⟨m0,w0⟩,turn⟩:=h2;subst e;refine Ik (Q:=fun x H1=>D0.nx (σ.set i (some x)) H1) (RR:=fun acc C=>compPost (model X.prog X.w) X.A X.xe (some (assign (.Name y py) X.env)) (fun _ s'=>SP X pins D0 .next s') acc C) hcm c ht (fun _ _ _ _ C=>Ri (X:=Yz X _ (x :: ys) scope cl _ _ _ C) c.nd rfl (.inl (hx C)) ⟨.inr (hx C),Wv⟩) he I2 T st2 f2 w0 turn fun D C s' m hn _ hS hC=>?_
 obtain⟨H',I',q,fC⟩:=hS;show wpAny _ X.A (assign (.Name y py) X.env (.ref D)) _ _ _;have ltC:∀ b o,s2.heap.get? b=some o->b≠C:=fun b o e=>ztk (ztg (Heap.lt_size e) hC)
 have neL:C≠X.env.locals:=by
  obtain⟨_,⟨o,_,_,ho,_⟩,_⟩:=I2.loc;exact Ne.symm (ltC _ o ho)
 have neK:∀ z a,X.env.cells.lookup z=some a->a≠C:=fun z a e=>by
  obtain⟨_,o,ho,_⟩:=I2.cell z a e;exact ltC a o ho
 refine wpAny_assign_Name (Fd I' hN hy (.inl hk) (v:=.ref D) (show RelV (.ref D) (.ref D) from rfl) (fun s4 I4 ⟨a,hs4,ha⟩=>?_) hf)
 have naC:C≠a:=by
  rcases ha with ha|ha
  ·rw[ha];exact neL
  ·exact Ne.symm (neK _ _ ha)
 refine⟨m,hn.sameBut hs4 naC,fun h5 hs5=>⟨_,H',?_,q⟩⟩
 refine I4.turned (t':=s4.toks) (it:=C) (fun b o hb e=>hs5.extBut b o hb e) fC neL (.inr (ztb I2.sz hC)) neK fun p hp=>?_
 obtain⟨e,_⟩:=I2.pin p hp;exact ltC _ _ e
end
end L2

namespace G
open PySem PySem.Spec PyProof.Rows L2
def Il:R6->Str
 | .enrol _ _ _=>"enrol"
 | .away _ _=>"away"
 | .draw _=>"draw up"
 | .close=>"close"
 | .back=>"take back"
theorem Wy.word(h:Wy ok H t D):∃ r,H t=some (.tup (.str (Il D) :: r)):=by
 cases D with
 | enrol a b c=>exact⟨_,h⟩
 | away a b=>exact⟨_,h⟩
 | draw ms=>obtain⟨l,ts,a1,_⟩:=h;exact⟨_,a1⟩
 | close=>exact⟨_,h⟩
 | back=>exact⟨_,h⟩
theorem Ei:decide (V.str (Il D)=V.str "draw up")=match D with|.draw _=>true|_=>false:=by
 cases D with
 | draw ms=>exact Gn
 | enrol a b c=>exact V9 (show decide (("enrol":Str)="draw up")=false by decide +kernel)
 | away a b=>exact V9 (show decide (("away":Str)="draw up")=false by decide +kernel)
 | close=>exact V9 (show decide (("close":Str)="draw up")=false by decide +kernel)
 | back=>exact V9 (show decide (("take back":Str)="draw up")=false by decide +kernel)
theorem Pn:decide (V.str (Il D)=V.str "away")=match D with|.away _ _=>true|_=>false:=by
 cases D with
 | away a b=>exact Gn
 | enrol a b c=>exact V9 (show decide (("enrol":Str)="away")=false by decide +kernel)
 | draw ms=>exact V9 (show decide (("draw up":Str)="away")=false by decide +kernel)
 | close=>exact V9 (show decide (("close":Str)="away")=false by decide +kernel)
 | back=>exact V9 (show decide (("take back":Str)="away")=false by decide +kernel)
theorem zc5(af:S9 H' S (.draw ms) S' v)(hc:S'.cur=some s):∃ l,v=.ref l/\H' l=some (.lst s.gv):=by
 cases af with
 | draw hl F T =>
   have hc:some (⟨ms,mayS S ms,_,[]⟩:Z3)=some s:=hc;cases hc;exact⟨_,rfl,hl⟩
inductive O3(K:PySem.W.Frag)(vs:List V)(H:Hp)(Q:VK)(_:XK):Prop where
 | mk(ok ok':Addr->Prop)(b c:Addr)(ts us:List V)(G0:ze0)(_:vs=[.ref b,.ref c])(_:H b=some (.lst ts))(_:H c=some (.lst us))(_:X4 ok H ts G0)(_:X4 ok' H us G0)(_:G0.length<=1000)(_:(∀ x∈G0,x.2.length<=1000))(_:Q (.bl true) H)
inductive Kl(K:PySem.W.Frag)(vs:List V)(H:Hp)(Q:VK)(_:XK):Prop where
 | mk(ok:Addr->Prop)(d lg t lt:Addr)(P:Pg)(gs us:List V)(i n:Int)(_:vs=[.ref d,.ref lg,.ref t,.ref lt])(_:PgAt ok H d P)(_:M5 P)(_:P.ppl.length<=100)(_:(∀ ms,P.lis=some ms->ms.length<=100))(_:H lg=some (.lst gs))(_:(P.lis≠none->(∀ x∈gs,oneV x)/\gs.length<=100))(_:H t=some (.tup [.str "away",.int i,.int n]))(_:H lt=some (.lst us))(_:((P.lis=none\/i≠(P.over.length:Int)+1\/X1 gs n=none)/\us=[]\/∃ ms nu p e st w,P.lis=some ms/\i=(P.over.length:Int)+1/\X1 gs n=some p/\R4 (Sg P ms) nu/\Yn (Sg P ms) (gs.set p .non)/\p<(Sg P ms).length/\Z9 H us (st.map We)/\Yt (Sg P ms) (gs.set p .non) p st e w))(_:∀ H',Same H H'->Q (.bl true) H')
theorem zc6{rows:List (List Int)}{gs:List V}{p e:Nat}{st:List (Nat×Option Int)}{w:Option Int}(C:Yt rows (gs.set p .non) p st e w):Yf st (gs.set p .non)=Yf st gs/\st≠[]:=by
 obtain⟨x,r,rfl⟩:=C.ch.hd;refine⟨?_,by simp⟩
 unfold Yf;rw[List.set_set]
theorem PgAt.setMoves(h:PgAt ok H d P)(hl:H l=some (.lst ts))(gl:X4 ok H ts G0)(ol:ok l):∃ kvs,H d=some (.dK kvs)/\kvs.length<sizeLine/\PgAt ok (upd H d (.dK (putK kvs (.inr "moves") (.ref l)))) d { P with mv:=G0 }:=by
 obtain⟨lp,lo,lv,dv,li,lg,lm,a1,a2,a3⟩:=h.split;refine⟨_,a1,zac,?_⟩;rw[Eg];have b:=a2.keepL (.dict a1 (kvs':=pgF P.len P.rest lp lo lv dv li lg l));exact .join (P:={ P with mv:=G0 }) Zc ⟨b.pp,b.oo,b.vv,b.dd,b.li,b.gg,_,(Xf.dict a1).1 _ _ hl,gl.keepL (.dict a1),ol⟩ a3
theorem RelB.setGv(h:RelB mb P S)(gv:List V):RelB mb { P with gv:=gv } S:=⟨h.len,h.rest,h.ppl,h.out,h.over,h.lis⟩
theorem RelB.setMv(h:RelB mb P S)(mv:ze0):RelB mb { P with mv:=mv } S:=⟨h.len,h.rest,h.ppl,h.out,h.over,h.lis⟩
theorem M8.setGoes(h:M8 mb ok H nu n ds d P S)(hl:H l=some (.lst xs))(ol:ok l):∃ kvs,H d=some (.dK kvs)/\kvs.length<sizeLine/\M8 mb ok (upd H d (.dK (putK kvs (.inr "goes") (.ref l)))) nu n ds d { P with gv:=xs } S:=by
 obtain⟨kvs,a1,a2,a3⟩:=h.pg.setGoes hl ol;refine⟨kvs,a1,a2,a3,h.rb.setGv xs,h.so,?_⟩;obtain⟨nd,e|⟨S0,b,r⟩⟩:=h.tl
 ·exact⟨nd,.inl e⟩
 ·exact⟨nd,.inr ⟨S0,b.other a1 nd,r⟩⟩
theorem M8.setMoves(h:M8 mb ok H nu n ds d P S)(hl:H l=some (.lst ts))(gl:X4 ok H ts G0)(ol:ok l):∃ kvs,H d=some (.dK kvs)/\kvs.length<sizeLine/\M8 mb ok (upd H d (.dK (putK kvs (.inr "moves") (.ref l)))) nu n ds d { P with mv:=G0 } S:=by
 obtain⟨kvs,a1,a2,a3⟩:=h.pg.setMoves hl gl ol;refine⟨kvs,a1,a2,a3,h.rb.setMv G0,h.so,?_⟩;obtain⟨nd,e|⟨S0,b,r⟩⟩:=h.tl
 ·exact⟨nd,.inl e⟩
 ·exact⟨nd,.inr ⟨S0,b.other a1 nd,r⟩⟩
def stD(s:Nat×Option Int):Dt:=.tup [.int (s.1:Nat),match s.2 with|none=>.non|some n=>.int n]
theorem Bw{K:PySem.W.Frag}{H:Hp}:∀ {us:List V} {st:List (Nat×Option Int)},Z9 H us (st.map We)->Wd K H us (st.map stD)
 | _,[],h=>by cases h;exact .nil
 | _,(p,w) :: st,h=>by
   cases h with
   | cons h1 h2 =>
     refine .cons (.tup (SqT.of h1) (.cons (.int _) (.cons ?_ .nil))) (Bw h2);cases w with
     | none=>exact .non
     | some n=>exact .int n
theorem zfd(st:List (Nat×Option Int)):shD (.lst (st.map stD)):=by
 have h:PyData.canLayAll0 (Xe (st.map stD))=true/\PyData.depthAll (Xe (st.map stD))<=2:=by
  induction st with
  | nil=>exact⟨rfl,by decide⟩
  | cons s r ih =>
    obtain⟨h1,h2⟩:=ih;obtain⟨p,w⟩:=s;refine⟨?_,?_⟩
    ·rw[zs4,Xe,PyData.canLayAll0,h1]
     cases w<;>simp[stD,toPy,Xe,PyData.canLay0,PyData.canLayAll0]
    ·rw[zs4,Xe,PyData.depthAll]
     have:PyData.depth (toPy (stD (p,w)))<=2:=by cases w<;>simp[stD,toPy,Xe,PyData.depth,PyData.depthAll]
     omega
 unfold shD SeqAt.shaped;rw[toPy,PyData.canLay0,h.1,Bool.true_and];refine zsy ?_;rw[PyData.depth];have:=h.2;omega
theorem Jh(h:¬ ∃ i n,D=.away i n):decide (V.str (Il D)=V.str "away")=false:=by
 rw[Pn];cases D with
 | away i n=>exact absurd ⟨_,_,rfl⟩ h
 | enrol _ _ _=>rfl
 | draw _=>rfl
 | close=>rfl
 | back=>rfl
theorem zfe(h:¬ ∃ m0,D=.draw m0):decide (V.str (Il D)=V.str "draw up")=false:=by
 rw[Ei];cases D with
 | draw m0=>exact absurd ⟨_,rfl⟩ h
 | enrol _ _ _=>rfl
 | away _ _=>rfl
 | close=>rfl
 | back=>rfl
end G

namespace G
open PySem PySem.Spec PyProof.Rows L2
end G

namespace L2
open PySem PySem.Spec PyProof.Rows
section
variable{X:Cx}{elt iter tg:Expr}{xo:List Str}{pos:Pos}{ifs:List Expr}{scope:Scope}{cl:List (Str×Addr)}{ys:List Str}{js:List Nat}{g:TG}{wi:TI}{tt:TT}{te:TE}
end
end L2
namespace G
open PySem PySem.Spec PyProof.Rows L2
end G

namespace K33
open PySem PySem.Spec PyProof.Rows L2 G
def top(i:Nat):Stmt:=PySem.Challenge.pw_whistlebook_k33_whole_chains.main.body.getD i (.Pass ⟨0,0,0,0⟩)
structure Ad where
 zoe:Addr
 zk7:Addr
 zlo:Addr
 zla:Addr
 zlf:Addr
 zlg:Addr
 zmo:Addr
 zmn:Addr
 zlu:Addr
 zmg:Addr
 zlz:Addr
 zlt:Addr
 znr:Addr
 zmu:Addr
 zk4:Addr
 zlp:Addr
 zkq:Addr
 zkr:Addr
 zks:Addr
 zkn:Addr
abbrev ca(a:Ad):CA:=⟨a.zkn,a.zks,a.zkr,a.zkq,a.zk7,a.zlo,a.zla,a.zlf,a.zlg,a.zmo,a.zmn,a.zlu,a.zmg,a.zlz,a.zlt,a.znr,a.zmu,a.zk4,a.zlp⟩
structure Tx(K:PySem.W.Frag)(mg:Str->Option Value)(a:Ad):Prop where
 zli:Cls K a.zkq
 zm1:X0 K a.zkq "rounds"
 zl2:X0 K a.zkq "meetings"
 zk8:Cls K a.zkr
 zlm:X0 K a.zkr "entries"
 zk2:Cls K a.zks
 zmm:X0 K a.zks "listed"
 zo6:X0 K a.zks "lists"
 zmx:X0 K a.zks "given"
 zon:X0 K a.zks "gaps"
 zko:Cls K a.zkn
 znm:X0 K a.zkn "length"
 zpm:X0 K a.zkn "rest"
 zlw:X0 K a.zkn "roster"
 zl1:X0 K a.zkn "ledger"
 zml:X0 K a.zkn "absent"
 znp:X0 K a.zkn "sheets"
 zlc:X0 K a.zkn "sheet"
 zln:X0 K a.zkn "standing"
 zqi:Qk K mg "OutOfRange" a.zk7
 zpa:Qk K mg "TooManyMatches" a.zlg
 zqm:Qk K mg "SameClub" a.zmo
 zp6:Qk K mg "KnownReferee" a.zlo
 zo4:Qk K mg "TooManyReferees" a.zla
 zpq:Qk K mg "UnknownReferee" a.zlf
 zqh:Qk K mg "SeasonOver" a.zlz
 zqo:Qk K mg "DrawnUp" a.znr
 zqf:Qk K mg "NoSuchRound" a.zlu
 zpz:Qk K mg "TooManyDeeds" a.zlp
 zp9:Qk K mg "NotDrawn" a.zmu
 zql:Qk K mg "RoundOver" a.zmg
 zqg:Qk K mg "AwayAlready" a.zlt
 zot:Qk K mg "NothingToTakeBack" a.zk4
 zpw:mg "max"=none
 zku:mg "len"=none
 znu:mg "tuple"=none
 zlk:mg "list"=none
 zm2:mg "enumerate"=none
 zlj:mg "range"=none
 zqj:mg "zip"=none
 zky:mg "isinstance"=none
 zp2:mg "int"=none
 zqc:mg "bool"=none
 zqb:mg "min"=none
 zp3:mg "dict"=none
 gc_BookError:mg "BookError"=some (.ref a.zoe)
 gc_OutOfRange:mg "OutOfRange"=some (.ref a.zk7)
 gc_KnownReferee:mg "KnownReferee"=some (.ref a.zlo)
 gc_TooManyReferees:mg "TooManyReferees"=some (.ref a.zla)
 gc_UnknownReferee:mg "UnknownReferee"=some (.ref a.zlf)
 gc_TooManyMatches:mg "TooManyMatches"=some (.ref a.zlg)
 gc_SameClub:mg "SameClub"=some (.ref a.zmo)
 gc_NoSuchMatch:mg "NoSuchMatch"=some (.ref a.zmn)
 gc_NoSuchRound:mg "NoSuchRound"=some (.ref a.zlu)
 gc_RoundOver:mg "RoundOver"=some (.ref a.zmg)
 gc_SeasonOver:mg "SeasonOver"=some (.ref a.zlz)
 gc_AwayAlready:mg "AwayAlready"=some (.ref a.zlt)
 gc_DrawnUp:mg "DrawnUp"=some (.ref a.znr)
 gc_NotDrawn:mg "NotDrawn"=some (.ref a.zmu)
 gc_NothingToTakeBack:mg "NothingToTakeBack"=some (.ref a.zk4)
 gc_TooManyDeeds:mg "TooManyDeeds"=some (.ref a.zlp)
 gc_Ledger:mg "Ledger"=some (.ref a.zkq)
 gc_Roster:mg "Roster"=some (.ref a.zkr)
 gc_Sheet:mg "Sheet"=some (.ref a.zks)
 gc_Season:mg "Season"=some (.ref a.zkn)
 zmc:∃ t,mg "MOST_NUMBER"=some (.int 999 t)
 zl8:∃ t,mg "MOST_GRADE"=some (.int 9 t)
 zl0:∃ t,mg "MOST_CLUB"=some (.int 99 t)
 zll:∃ t,mg "MOST_REFEREES"=some (.int 30 t)
 zlr:∃ t,mg "MOST_MATCHES"=some (.int 20 t)
 zmb:∃ t,mg "MOST_ROUNDS"=some (.int 60 t)
 zm0:∃ t,mg "MOST_REST"=some (.int 10 t)
 zl7:∃ t,mg "MOST_DEEDS"=some (.int 100 t)
end K33

set_option maxHeartbeats 64000000
namespace K33
open PySem PySem.Spec PyProof.Rows L2 G
local macro_rules | `(tactic| walk_at "rd")=>`(tactic| repeat (first|(refine⟨_,rfl,?_⟩)|(refine⟨_,_,rfl,rfl,?_⟩)|(refine And.intro (show CMul _ _ from Or.inr (And.intro (by decide) (by decide))) ?_)|(refine And.intro (show CMul _ _ from Or.inl (And.intro (by decide) (by decide))) ?_)|(refine And.intro (show CDiv _ _ from(And.intro (by decide) (by decide))) ?_)|(refine And.intro (show CPow _ _ from(And.intro (by decide) (And.intro (by decide) (by decide)))) ?_)|(refine And.intro (show (0:Int)<_ from(by decide)) ?_)))
local macro_rules | `(tactic| walk_at "if")=>`(tactic| dsimp only[Vn,List.set])
local macro_rules | `(tactic| walk_at "ar")=>`(tactic| (intro _ _ _ _ h;first|(cases h;subst_vars;rfl)|repeat (first|(obtain⟨h1,_⟩:=h;subst h1;rfl)|(obtain⟨_,h⟩:=h))))
section
variable{P:Program}{w:World}{K:PySem.W.Frag}{mg:Str->Option Value}{base:Heap}{a:Ad}{f:Addr}{fd:FuncData}
abbrev Rq:Stmt:=top 2
theorem Oc:Zl ["number","club","ledger","rest","rested"] ["number","club","ledger","rest"] (Zj Rq):=fnS
theorem Gp(F:Fun K "met_lately" "met_lately" Rq f fd)(T:Tx K mg a)(zkt:Zw P w K mg base a.zkq "over" 1 ["self"] (Mp a.zkq))(zoa:Zw P w K mg base a.zkq "met" 1 ["self","number","club"] (zg0 a.zkq)):FnOk P w K mg base (CX1 P w) 2 f fd ["number","club","ledger","rest"] (Cs a.zkq):=by
 refine F.okX Oc (by walk_at "ar") fun _ _ _ _ H _ Q E hr h=>?_
 obtain⟨p,lr,ld,Rs,n,c,rest,rfl,LA,h⟩:=h;refine⟨_,(Zb (pS 4 Oc.nd (Zo (Fe rfl) (by rfl) T.zpw PyProof.Rows.boot_max (Za (Zs Oe (Yr (pv 2) T.zli zkt (hr.mono (by decide)) Zk) (pv 3)) (Za Zg Zd))))
 (Ze (Zm (W3 Sy (Xx (pv 2) T.zli zoa (hr.mono (by decide)) Zk (Za (pv 0) (Za (pv 1) Zd))) (pv 4) (Zr _))))),?_⟩
 obtain⟨⟨dx,hp⟩,_,_⟩:=id LA;refine⟨_,rfl,p,dx,_,rfl,hp,Jw (by decide +kernel) (by decide +kernel),p,lr,ld,Rs,rfl,LA,_,rfl,_,_,rfl,rfl,_,_,rfl,?_⟩
 refine⟨_,rfl,p,dx,_,rfl,hp,Jw (by decide +kernel) (by decide +kernel),_,rfl,_,rfl,p,lr,ld,Rs,n,c,rfl,LA,fun H' s'=>⟨_,rfl,_,_,rfl,rfl,h H' s'⟩⟩
abbrev M9:Stmt:=top 3
theorem Wz:Zl ["referee","match","out","ledger","rest","number","grade","club","home","guest","asked","told"] ["referee","match","out","ledger","rest"] (Zj M9):=fnS
theorem zak(F:Fun K "reasons" "reasons" M9 f fd)(T:Tx K mg a)(zm8:Z1 P w K mg base "met_lately" 2 ["number","club","ledger","rest"] (Cs a.zkq)):FnOk P w K mg base (CX1 P w) 3 f fd ["referee","match","out","ledger","rest"] (Fx K a.zkq):=by
 refine F.okX Wz (by walk_at "ar") fun _ _ _ _ H _ Q E hr h=>?_
 obtain⟨t1,t2,p,lr,ld,Rs,n,g,c,h,gu,d,rest,o,rfl,h1,h2,LA,hq⟩:=h;refine⟨_,(Zb (pS 5 Wz.nd (pI (iU K) (pv 0) Zg))
 (Zb (pS 6 Wz.nd (pI (iU K) (pv 0) Zg))
 (Zb (pS 7 Wz.nd (pI (iU K) (pv 0) Zg))
 (Zb (pS 8 Wz.nd (pI (iU K) (pv 1) Zg))
 (Zb (pS 9 Wz.nd (pI (iU K) (pv 1) Zg))
 (Zb (pS 10 Wz.nd (pI (iU K) (pv 1) Zg))
 (Zb (pS 11 Wz.nd (Z5 Zd))
 (Zb (Zz (Xh (pv 2))
  (Ze (Yk (pv 11) Zq))
  Zp)
 (Zb (Zz (Zn Sy (pv 10) (pv 6) (Zr _))
  (Ze (Yk (pv 11) Zq))
  Zp)
 (Zb (Zz (PW.pt (W4 (Zn Xt (pv 7) (pv 8) (Zr _)) (X9 (Zn Xt (pv 7) (pv 9) (Zr _)))))
  (Ze (Yk (pv 11) Zq))
  Zp)
 (Zb (Zz (PW.pt (W4 (Xh (pF zm8 hr (Za (pv 5) (Za (pv 8) (Za (pv 3) (Za (pv 4) Zd)))))) (X9 (Xh (pF zm8 hr (Za (pv 5) (Za (pv 9) (Za (pv 3) (Za (pv 4) Zd)))))))))
  (Ze (Yk (pv 11) Zq))
  Zp)
 (Ze (Zm (pv 11)))))))))))))),?_⟩
 show let y1:TS:=_;let y2:TS:=Zx _ y1;let y3:TS:=Zx _ y2;let y4:TS:=Zx _ y3;let y5:TS:=Zx _ y4;let y6:TS:=Zx _ y5;let y7:TS:=Zx _ y6;let y8:TS:=Zx _ y7;let y9:TS:=Zx _ y8;let y10:TS:=Zx _ y9;let y11:TS:=Zx _ y10;Zx _ y11 _ _ _;intro y1 y2 y3 y4 y5 y6 y7 y8 y9 y10 y11;refine⟨_,rfl,t1,_,_,_,rfl,rfl,SqT.of h1,(show atI [V.int n,V.int g,V.int c] 0=some _ from rfl),_,rfl,t1,_,_,_,rfl,rfl,SqT.of h1,(show atI [V.int n,V.int g,V.int c] 1=some _ from rfl),_,rfl,t1,_,_,_,rfl,rfl,SqT.of h1,(show atI [V.int n,V.int g,V.int c] 2=some _ from rfl),?_⟩
 refine⟨_,rfl,t2,_,_,_,rfl,rfl,SqT.of h2,(show atI [V.int h,V.int gu,V.int d] 0=some _ from rfl),_,rfl,t2,_,_,_,rfl,rfl,SqT.of h2,(show atI [V.int h,V.int gu,V.int d] 1=some _ from rfl),_,rfl,t2,_,_,_,rfl,rfl,SqT.of h2,(show atI [V.int h,V.int gu,V.int d] 2=some _ from rfl),?_⟩
 refine⟨by show 0<=sizeLine;decide,fun l hl=>?_⟩
 have s1:=Zf (o:=.lst []) hl;have q1:upd H l (.lst []) l=some (.lst (([]:List Str).map V.str)):=Zc;generalize upd H l (.lst [])=H1 at s1 q1
 walk_at "if";have b1:=Mt o "away";have b2:=Mt (decide (g<d)) "grade";have b3:=Mt (decide (c=h)||decide (c=gu)) "club"
 refine T3 (b:=o) (H0:=H) (Rk fun Q q=>⟨_,rfl,_,rfl,q⟩) hl s1 q1 (by decide) rfl (fun H2 s2 q2 _=>?_)
 rw[List.nil_append] at q2
 refine T3 (b:=decide (g<d)) (H0:=H) (Rk fun Q q=>⟨_,rfl,_,rfl,_,_,rfl,rfl,_,rfl,q⟩) hl s2 q2 (by omega) rfl (fun H3 s3 q3 _=>?_)
 refine T3 (b:=decide (c=h)||decide (c=gu)) (H0:=H) (Rk (W8 (fun Q q=>⟨_,rfl,_,rfl,rfl,_,rfl,Qm▸q⟩) (fun Q q=>⟨_,rfl,_,rfl,rfl,_,rfl,Qm▸q⟩))) hl s3 q3 (by rw[zsw];omega) rfl (fun H4 s4 q4 _=>?_)
 refine T3 (b:=R1 Rs n h rest||R1 Rs n gu rest) (H0:=H) (Ct (fun Q q=>⟨_,rfl,_,rfl,_,rfl,_,rfl,p,lr,ld,Rs,n,h,rest,rfl,LA.same s4,fun H5 s5=>⟨_,rfl,q H5 s5⟩⟩) (fun H5 s5 Q q=>⟨_,rfl,_,rfl,_,rfl,_,rfl,p,lr,ld,Rs,n,gu,rest,rfl,LA.same (s4.trans s5),fun H6 s6=>⟨_,rfl,q H6 s6⟩⟩)) hl s4 q4 (by rw[zsw,zsw];omega) rfl (fun H5 s5 q5 _=>?_)
 refine⟨_,rfl,hq l H5 ?_ s5 hl⟩;unfold whyS;rw[q5,ztv,ztv]
abbrev Vw:Stmt:=Z7 (top 23) 0
theorem O4:Zl ["self"] ["self"] (Zj Vw):=fnS
theorem O5(F:Fun K "__init__" "Ledger.__init__" Vw f fd)(T:Tx K mg a):FnOk P w K mg base (CX1 P w) 1 f fd ["self"] (za9 a.zkq):=by
 refine F.okX O4 (by walk_at "ar") fun _ _ _ _ H _ Q E hr h=>?_
 obtain⟨p,dx,rfl,hp,h⟩:=h;refine⟨_,(Zb (Xb (K:=K) rfl (pv 0) (Z5 Zd) rfl)
 (Ze (Xb (K:=K) rfl (pv 0) Jp rfl))),?_⟩
 refine⟨by show 0<=sizeLine;decide,fun lr hlr=>?_⟩
 have np:p≠lr:=Zh hp hlr;refine⟨_,rfl,p,a.zkq,dx,[],rfl,(by rw[Zi np];exact hp),T.zli,T.zm1,(by decide),?_⟩
 intro ld hld;have n1:ld≠p:=fun z=>by rw[z,Zc] at hld;cases hld
 have n2:ld≠lr:=fun z=>by rw[z,Zi (Ne.symm np),Zc] at hld;cases hld
 have hld0:H ld=none:=by rw[Zi n1,Zi n2] at hld;exact hld
 refine⟨_,rfl,p,a.zkq,dx,[("rounds",.ref lr)],rfl,(by rw[Zi (Ne.symm n1),Zc];rfl),T.zli,T.zl2,(by show 1<1000;decide),?_⟩
 rw[zjp];refine h lr ld _ ⟨⟨dx,Zc⟩,⟨[],?_,.nil⟩,⟨[],?_,fun n c=>rfl,ztm _⟩⟩ (fun b o e hb=>?_) hlr hld0 (Ne.symm n2)
 ·rw[Zi (Ne.symm np),Zi (Ne.symm n2),Zi (Ne.symm np),Zc]
 ·rw[Zi n1,Zc]
 ·rw[Zi hb,Zi (Zh e hld0),Zi hb,Zi (Zh e hlr)];exact e
abbrev Ti:Stmt:=Z7 (top 23) 1
theorem Xv:Zl ["self","rows","at","home","guest","grade","referee"] ["self","rows"] (Zj Ti):=fnS
theorem Ks(F:Fun K "write" "Ledger.write" Ti f fd)(T:Tx K mg a):FnOk P w K mg base (CX1 P w) 1 f fd ["self","rows"] (C6 a.zkq):=by
 refine F.okX Xv (by walk_at "ar") fun _ _ _ _ H _ Q E hr h=>?_
 obtain⟨p,lr,ld,Rs,b,ts,rs,rfl,LA,hb,nb,tl,hl,hl2,h⟩:=h;have hu:=Wl hr;refine⟨_,(Zb (Yk (Zt (K:=K) rfl (pv 0) rfl) (Ys (Js (K:=K) rfl) (by rfl) T.znu PyProof.Rows.boot_tuple (Za (pv 1) Zd)))
 (Zb (pS 2 Xv.nd (Zo (cL K) (by rfl) T.zku PySem.boot_len (Za (Zt (K:=K) rfl (pv 0) rfl) Zd)))
 (Ze (Y5 PassesOwn.leaving rfl (Ye (K:=K) rfl (pv 1)) (Wu (K:=K) (n:=4) rfl rfl (Z0 (pN 3 Xv.nd) (Z0 (pN 4 Xv.nd) (Z0 (pN 5 Xv.nd) (Z0 (pN 6 Xv.nd) Ws)))))
  (Ze (Zz (Zn W9 (pv 6) Yl (Zr _))
   (Zb (Yj hu (Zt (K:=K) rfl (pv 0) rfl) (Ya (Za (pv 6) (Za (pv 3) Zd))) (pv 2) rfl)
   (Ze (Yj hu (Zt (K:=K) rfl (pv 0) rfl) (Ya (Za (pv 6) (Za (pv 4) Zd))) (pv 2) rfl)))
   Zp)))))),?_⟩
 obtain⟨⟨dx,hp⟩,⟨rr,hlr,rl⟩,⟨kvs,hd,mt,kl⟩⟩:=LA;have hlen:ts.length=rs.length:=by rw[tl.length,zst]
 have nrd:lr≠ld:=Yx hlr hd (by intro z;cases z)
 have nrp:p≠lr:=Yx hp hlr (by intro z;cases z)
 have npd:p≠ld:=Yx hp hd (by intro z;cases z)
 have nbd:b≠ld:=Yx hb hd (by intro z;cases z)
 refine⟨_,rfl,p,a.zkq,dx,_,_,rfl,hp,T.zli,T.zm1,Mo,lr,rr,rfl,hlr,_,rfl,b,ts,rfl,.inl ⟨SqL.of hb,fun t ht=>⟨rr,(by rw[Zi (Zh hlr ht)];exact hlr),Ub (by rw[rl.length];omega),?_⟩⟩⟩
 have ntr:t≠lr:=Ne.symm (Zh hlr ht);have k1:∀ x o,H x=some o->x≠lr->upd (upd H t (.tup ts)) lr (.lst (rr++[.ref t])) x=some o:=fun x o e n=>by rw[Zi n,Zi (Zh e ht)];exact e
 have t1:∀ x xs,H x=some (.tup xs)->upd (upd H t (.tup ts)) lr (.lst (rr++[.ref t])) x=some (.tup xs):=fun x xs e=>k1 x _ e (Yx e hlr (by intro z;cases z))
 have r1:upd (upd H t (.tup ts)) lr (.lst (rr++[.ref t])) lr=some (.lst (rr++[.ref t])):=Zc;have rl1:Pr (upd (upd H t (.tup ts)) lr (.lst (rr++[.ref t]))) (rr++[.ref t]) (Rs++[rs]):=(rl.mono t1).snoc (by rw[Zi ntr,Zc]) (tl.mono t1)
 have tl1:=tl.mono t1;generalize upd (upd H t (.tup ts)) lr (.lst (rr++[.ref t]))=H1 at k1 t1 r1 rl1 tl1
 have hp1:=k1 _ _ hp nrp;have hb1:=k1 _ _ hb nb;have hd1:=k1 _ _ hd (Ne.symm nrd);refine⟨_,rfl,p,a.zkq,dx,_,_,rfl,hp1,T.zli,T.zm1,Mo,lr,_,rfl,.inl (SqL.of r1),?_⟩;have hN:(((rr++[V.ref t]).length:Nat):Int)=((Rs.length+1:Nat):Int):=by rw[zsw,rl.length];rfl
 rw[hN];refine⟨_,rfl,b,rfl,⟨_,SqL.of hb1⟩,Wa (K:=K) (a:=b) (xs:=ts) (fun i σ H'=>(∃ v1 v2 v3 v4,σ=[some (.ref p),some (.ref b),some (.int ((Rs.length+1:Nat):Int)),v1,v2,v3,v4])/\(∀ x o,H1 x=some o->x≠ld->H' x=some o) /\
  ∃ kvs',H' ld=some (.dT kvs')/\Cr kvs' (Mq Rs rs i)/\kvs'.length<=2*(tot Rs+i)) ⟨⟨_,_,_,_,rfl⟩,fun _ _ e _=>e,kvs,hd1,by rw[zcc];exact mt,by omega⟩ (fun i σ H' _ ⟨_,k,_⟩=>SqL.of (k _ _ hb1 nbd)) ?_ ?_⟩
 ·rintro i x σ H' hx ⟨⟨v1,v2,v3,v4,rfl⟩,k2,kvs',hd2,mt2,kl2⟩
  obtain⟨tr,r,rfl,hr3,htr⟩:=zh6 tl1 hx;have hi:i<rs.length:=(zsv.mp hr3).1;have htr2:=k2 _ _ htr (Yx htr hd1 (by intro z;cases z))
  refine⟨tr,_,rfl,SqT.of htr2,rfl,_,_,rfl,_,_,rfl,_,_,rfl,_,_,rfl,rfl,?_⟩;refine⟨_,rfl,rfl,_,rfl,?_⟩;cases hw:r.w with
  | none =>
    refine iteF ?_;exact⟨⟨_,_,_,_,rfl⟩,k2,kvs',hd2,by rw[zcd hr3 hw];exact mt2,by omega⟩
  | some w =>
    refine iteT ?_;have hp2:=k2 _ _ hp1 npd;refine⟨_,rfl,_,rfl,p,a.zkq,dx,_,_,rfl,hp2,T.zli,T.zl2,Qo,_,rfl,_,rfl,sz2,fun t2 ht2=>⟨ld,_,rfl,DPut.t (k:=[Sum.inl w,Sum.inl r.h]) (by rw[Zi (Zh hd2 ht2)];exact hd2) Zc ((Nat.lt_trans (zud (show _<=200000 by omega) (by decide)) Tg)),?_⟩⟩
    have k3:∀ x o,H1 x=some o->x≠ld->upd (upd H' t2 (.tup [oV (some w),.int r.h])) ld (.dT (putK kvs' [Sum.inl w,Sum.inl r.h] (.int ((Rs.length+1:Nat):Int)))) x=some o:=fun x o e n=>by
     have:=k2 x o e n;rw[Zi n,Zi (Zh this ht2)];exact this
    have hd3:upd (upd H' t2 (.tup [oV (some w),.int r.h])) ld (.dT (putK kvs' [Sum.inl w,Sum.inl r.h] (.int ((Rs.length+1:Nat):Int)))) ld=some (.dT (putK kvs' [Sum.inl w,Sum.inl r.h] (.int ((Rs.length+1:Nat):Int)))):=Zc;have l3:=Xi kvs' ([Sum.inl w,Sum.inl r.h]:List Key) (.int ((Rs.length+1:Nat):Int));generalize upd (upd H' t2 (.tup [oV (some w),.int r.h])) ld (.dT (putK kvs' [Sum.inl w,Sum.inl r.h] (.int ((Rs.length+1:Nat):Int))))=H3 at k3 hd3
    have hp3:=k3 _ _ hp1 npd;refine⟨_,rfl,_,rfl,p,a.zkq,dx,_,_,rfl,hp3,T.zli,T.zl2,Qo,_,rfl,_,rfl,sz2,fun t4 ht4=>⟨ld,_,rfl,DPut.t (k:=[Sum.inl w,Sum.inl r.g]) (by rw[Zi (Zh hd3 ht4)];exact hd3) Zc ((Nat.lt_trans (zud (show _<=200000 by omega) (by decide)) Tg)),?_⟩⟩
    refine⟨⟨_,_,_,_,rfl⟩,fun x o e n=>?_,_,Zc,?_,?_⟩
    ·have:=k3 x o e n
     rw[Zi n,Zi (Zh this ht4)];exact this
    ·rw[<- zce hr3 hw]
     exact(mt2.put w r.h _ (Nat.succ_pos _)).put w r.g _ (Nat.succ_pos _)
    ·have:=Xi (putK kvs' ([Sum.inl w,Sum.inl r.h]:List Key) (.int ((Rs.length+1:Nat):Int))) ([Sum.inl w,Sum.inl r.g]:List Key) (.int ((Rs.length+1:Nat):Int))
     omega
 ·rintro σ H' ⟨⟨v1,v2,v3,v4,rfl⟩,k2,kvs',hd2,mt2,kl2⟩
  rw[hlen] at mt2 kl2
  rw[zd9] at mt2
  refine h H' ⟨⟨dx,k2 _ _ hp1 npd⟩,⟨_,k2 _ _ r1 nrd,rl1.mono fun x xs e=>k2 _ _ e (Yx e hd1 (by intro z;cases z))⟩,kvs',hd2,mt2,by rw[zd8];exact kl2⟩ fun x o e n1 n2=>k2 x o (k1 x o e n1) n2
abbrev Sh:Stmt:=Z7 (top 23) 2
theorem Im:Zl ["self"] ["self"] (Zj Sh):=fnS
theorem Io(F:Fun K "over" "Ledger.over" Sh f fd)(T:Tx K mg a):FnOk P w K mg base (CX1 P w) 1 f fd ["self"] (Mp a.zkq):=by
 refine F.okX Im (by walk_at "ar") fun _ _ _ _ H _ Q E hr h=>?_
 obtain⟨p,lr,ld,Rs,rfl,LA,h⟩:=h;refine⟨_,(Ze (Zm (Zo (cL K) (by rfl) T.zku PySem.boot_len (Za (Zt (K:=K) rfl (pv 0) rfl) Zd)))),?_⟩
 obtain⟨⟨dx,hp⟩,⟨rr,hlr,rl⟩,_⟩:=LA;refine⟨_,rfl,p,a.zkq,dx,_,_,rfl,hp,T.zli,T.zm1,Mo,lr,_,rfl,.inl (SqL.of hlr),?_⟩;rw[rl.length];exact h
abbrev Rr:Stmt:=Z7 (top 23) 4
theorem Gq:Zl ["self","number","club"] ["self","number","club"] (Zj Rr):=fnS
theorem Gs(F:Fun K "met" "Ledger.met" Rr f fd)(T:Tx K mg a):FnOk P w K mg base (CX1 P w) 1 f fd ["self","number","club"] (zg0 a.zkq):=by
 refine F.okX Gq (by walk_at "ar") fun _ _ _ _ H _ Q E hr h=>?_
 obtain⟨p,lr,ld,Rs,n,c,rfl,LA,h⟩:=h;have hu:=Wl hr;refine⟨_,(Ze (Zm (zdv hu (Zt (K:=K) rfl (pv 0) rfl) (Ya (Za (pv 1) (Za (pv 2) Zd))) Zg ⟨rfl,rfl,rfl,rfl⟩))),?_⟩;obtain⟨⟨dx,hp⟩,_,⟨kvs,hd,mt,kl⟩⟩:=LA;refine⟨_,rfl,p,a.zkq,dx,_,_,rfl,hp,T.zli,T.zl2,Qo,ld,rfl,.inr ⟨kvs,.inl hd⟩,_,rfl,_,rfl,sz2,fun t ht=>⟨_,DGet.t (k:=[Sum.inl n,Sum.inl c]) (by rw[Zi (Zh hd ht)];exact hd) Zc,?_⟩⟩
 have e:((valV kvs ([Sum.inl n,Sum.inl c]:List Key)).getD (.int 0))=.int (metS Rs n c:Nat):=by
  rw[mt n c];split
  ·rename_i z;rw[z];rfl
  ·rfl
 rw[e];exact h _ (Zf ht)
abbrev Si:Stmt:=top 25
theorem Ip:Zl ["value","least","most"] ["value","least","most"] (Zj Si):=fnS
theorem Iq(F:Fun K "check_range" "check_range" Si f fd)(T:Tx K mg a):FnOk P w K mg base (CX1 P w) 1 f fd ["value","least","most"] (N2 a.zk7):=by
 refine F.okX Ip (by walk_at "ar") fun _ _ _ _ H _ Q E hr h=>?_
 obtain⟨v,lo,m,rfl,s1,s2,s3,h⟩:=h;refine⟨_,(Ze (Zz (PW.pt (W4 (Zn zau (pv 0) (pv 1) (Zr _)) (X9 (Zn Sy (pv 0) (pv 2) (Zr _)))))
  (Ze (Xn Xm rfl T.zqi rfl (Za (Vr (Z2 (Vd (pv 0)) (Z2 (Wc (by decide +kernel)) (Z2 (Vd (pv 1)) (Z2 (Wc (by decide +kernel)) (Z2 (Vd (pv 2)) Vq))))) (by decide)) Zd)))
  Zp)),?_⟩
 walk_at "rd";refine itD (fun h1=>?_) (fun h1=>?_)
 ·rw[if_pos (Or.inl h1)] at h
  refine iteT ?_;walk_at "rd";refine⟨.inl ⟨_,rfl,s1⟩,_,rfl,.inl ⟨_,rfl,s2⟩,_,rfl,.inl ⟨_,rfl,s3⟩,fun z=>⟨sz1,h⟩⟩
 ·walk_at "rd"
  refine itD (fun h2=>?_) (fun h2=>?_)
  ·rw[if_pos (Or.inr h2)] at h
   walk_at "rd";refine⟨.inl ⟨_,rfl,s1⟩,_,rfl,.inl ⟨_,rfl,s2⟩,_,rfl,.inl ⟨_,rfl,s3⟩,fun z=>⟨sz1,h⟩⟩
  ·rw[if_neg (fun z=>z.elim h1 h2)] at h
   exact h
abbrev Sj:Stmt:=top 35
theorem Qw:Zl ["matches","count"] ["matches"] (Zj Sj):=fnS
theorem Ir(F:Fun K "check_count" "check_count" Sj f fd)(T:Tx K mg a):FnOk P w K mg base (CX1 P w) 1 f fd ["matches"] (Bd K (ca a)):=by
 refine F.okX Qw (by walk_at "ar") fun _ _ _ _ H _ Q E hr h=>?_
 obtain⟨b,ts,rfl,hs,hl,h1,h2⟩:=h;refine⟨_,(Zb (pS 1 Qw.nd (Zo (cL K) (by rfl) T.zku PySem.boot_len (Za (pv 0) Zd)))
 (Ze (Zz (Zn Sy (pv 1) (Wt rfl T.zlr) (Zr _))
  (Ze (Xn Xm rfl T.zpa rfl (Za (Vr (Z2 (Vd (pv 1)) (Z2 (Wc (by decide +kernel)) (Z2 (Vd (Wt rfl T.zlr)) Vq))) (by decide)) Zd)))
  Zp))),?_⟩
 refine⟨_,rfl,b,_,rfl,.inl hs,?_⟩;walk_at "rd";refine itD (fun hc=>?_) (fun hc=>?_)
 ·walk_at "rd"
  exact⟨.inl ⟨_,rfl,Y2 (by omega) (by omega)⟩,.inl ⟨_,rfl,Yg (by decide)⟩,fun z=>⟨sz1,h1 (by omega)⟩⟩
 ·exact h2 (by omega)
abbrev Tj:Stmt:=top 36
theorem Va:Zl ["matches","home","guest","grade"] ["matches"] (Zj Tj):=fnS
theorem Kt(F:Fun K "check_ranges" "check_ranges" Tj f fd)(T:Tx K mg a)(zkw:Z1 P w K mg base "check_range" 1 ["value","least","most"] (N2 a.zk7)):FnOk P w K mg base (CX1 P w) 2 f fd ["matches"] (Ee K (ca a)):=by
 refine F.okX Va (by walk_at "ar") fun _ _ _ _ H _ Q E hr h=>?_
 obtain⟨b,ts,Ms,rfl,hs,tl,sm,h1,h2⟩:=h;refine⟨_,(Ze (Y5 PassesOwn.leaving rfl (Ye (K:=K) rfl (pv 0)) (Wu (K:=K) (n:=3) rfl rfl (Z0 (pN 1 Va.nd) (Z0 (pN 2 Va.nd) (Z0 (pN 3 Va.nd) Ws))))
  (Zb (Z8 (pF zkw hr (Za (pv 1) (Za Zg (Za (Wt rfl T.zl0) Zd)))))
  (Zb (Z8 (pF zkw hr (Za (pv 2) (Za Zg (Za (Wt rfl T.zl0) Zd)))))
  (Ze (Z8 (pF zkw hr (Za (pv 3) (Za Zg (Za (Wt rfl T.zl8) Zd)))))))))),?_⟩
 have hlen:ts.length=Ms.length:=by rw[tl.length,zst]
 let jv1:Nat->L2.St->Hp->Prop:=fun i σ H'=>H'=H/\(∃ v1 v2 v3,σ=[some (.ref b),v1,v2,v3])/\∀ m∈Ms.take i,¬ badM m
 refine⟨_,rfl,b,rfl,⟨_,hs⟩,Wa (K:=K) (a:=b) (xs:=ts) jv1 ⟨rfl,⟨_,_,_,rfl⟩,by simp⟩ (fun i σ H' _ ⟨e,_⟩=>e▸hs) ?_ ?_⟩
 ·rintro i x σ H' hx ⟨rfl,⟨v1,v2,v3,rfl⟩,hi⟩
  obtain⟨t,m,rfl,hm,ht⟩:=Jx tl hx;have hmem:=zs5 hm;obtain⟨s1,s2,s3⟩:=sm m hmem;have bad:badM m->E (.ref a.zk7) none H':=fun hb=>h1 ⟨m,hmem,hb⟩
  refine⟨t,_,rfl,SqT.of ht,rfl,_,_,rfl,_,_,rfl,_,_,rfl,rfl,?_⟩;refine⟨_,rfl,_,1,99,rfl,s1,Yg (by decide),Yg (by decide),?_⟩
  refine Cm (fun b1=>bad (by unfold badM;omega)) (fun b1=>?_)
  refine⟨_,rfl,_,1,99,rfl,s2,Yg (by decide),Yg (by decide),?_⟩
  refine Cm (fun b2=>bad (by unfold badM;omega)) (fun b2=>?_)
  refine⟨_,rfl,_,1,9,rfl,s3,Yg (by decide),Yg (by decide),?_⟩
  refine Cm (fun b3=>bad (by unfold badM;omega)) (fun b3=>?_)
  exact⟨rfl,⟨_,_,_,rfl⟩,Ed hm hi (by unfold badM;omega)⟩
 ·rintro σ H' ⟨rfl,⟨v1,v2,v3,rfl⟩,hi⟩
  rw[hlen,zte] at hi
  exact h2 fun ⟨m,hm,hb⟩=>hi m hm hb
abbrev Sk:Stmt:=top 37
theorem Vx:Zl ["matches","home","guest","grade"] ["matches"] (Zj Sk):=fnS
theorem Iu(F:Fun K "check_clubs" "check_clubs" Sk f fd)(T:Tx K mg a):FnOk P w K mg base (CX1 P w) 1 f fd ["matches"] (Be K (ca a)):=by
 refine F.okX Vx (by walk_at "ar") fun _ _ _ _ H _ Q E hr h=>?_
 obtain⟨b,ts,Ms,rfl,hs,tl,sm,h1,h2⟩:=h;refine⟨_,(Ze (Y5 PassesOwn.leaving rfl (Ye (K:=K) rfl (pv 0)) (Wu (K:=K) (n:=3) rfl rfl (Z0 (pN 1 Vx.nd) (Z0 (pN 2 Vx.nd) (Z0 (pN 3 Vx.nd) Ws))))
  (Ze (Zz (Zn Xt (pv 1) (pv 2) (Zr _))
   (Ze (Xn Xm rfl T.zqm rfl (Za (Vr (Z2 (Wc (by decide +kernel)) (Z2 (Vd (pv 1)) (Z2 (Wc (by decide +kernel)) Vq))) (by decide)) Zd)))
   Zp)))),?_⟩
 have hlen:ts.length=Ms.length:=by rw[tl.length,zst]
 let jv2:Nat->L2.St->Hp->Prop:=fun i σ H'=>H'=H/\(∃ v1 v2 v3,σ=[some (.ref b),v1,v2,v3])/\∀ m∈Ms.take i,¬ (m.1=m.2.1)
 refine⟨_,rfl,b,rfl,⟨_,hs⟩,Wa (K:=K) (a:=b) (xs:=ts) jv2 ⟨rfl,⟨_,_,_,rfl⟩,by simp⟩ (fun i σ H' _ ⟨e,_⟩=>e▸hs) ?_ ?_⟩
 ·rintro i x σ H' hx ⟨rfl,⟨v1,v2,v3,rfl⟩,hi⟩
  obtain⟨t,m,rfl,hm,ht⟩:=Jx tl hx;have hmem:=zs5 hm;obtain⟨s1,s2,s3⟩:=sm m hmem;refine⟨t,_,rfl,SqT.of ht,rfl,_,_,rfl,_,_,rfl,_,_,rfl,rfl,?_⟩;refine⟨_,rfl,_,rfl,rfl,_,rfl,?_⟩;refine itV (fun he=>?_) (fun he=>?_)
  ·exact⟨_,rfl,.inl ⟨_,rfl,s1⟩,fun z=>⟨sz1,h1 ⟨m,hmem,he⟩⟩⟩
  ·exact⟨rfl,⟨_,_,_,rfl⟩,Ed (p:=fun m=>m.1=m.2.1) hm hi he⟩
 ·rintro σ H' ⟨rfl,⟨v1,v2,v3,rfl⟩,hi⟩
  rw[hlen,zte] at hi
  exact h2 fun ⟨m,hm,hb⟩=>hi m hm hb
abbrev Lb:Stmt:=top 38
theorem zal:Zl ["matches"] ["matches"] (Zj Lb):=fnS
theorem zam(F:Fun K "checked" "checked" Lb f fd)(T:Tx K mg a)(zn3:Z1 P w K mg base "check_count" 1 ["matches"] (Bd K (ca a)))(znq:Z1 P w K mg base "check_ranges" 2 ["matches"] (Ee K (ca a)))(znw:Z1 P w K mg base "check_clubs" 1 ["matches"] (Be K (ca a))):FnOk P w K mg base (CX1 P w) 3 f fd ["matches"] (J2 K (ca a)):=by
 refine F.okX zal (by walk_at "ar") fun _ _ _ _ H _ Q E hr h=>?_
 obtain⟨b,ts,Ms,rfl,hs,tl,sm,hl,h1,h2,h3,h4⟩:=h;refine⟨_,(Zb (Z8 (pF zn3 hr (Za (pv 0) Zd)))
 (Zb (Z8 (pF znq hr (Za (pv 0) Zd)))
 (Zb (Z8 (pF znw hr (Za (pv 0) Zd)))
 (Ze (Zm (Ys (Yv (K:=K) rfl) (by rfl) T.zlk PyProof.Rows.boot_list (Za (pv 0) Zd))))))),?_⟩
 have hlen:ts.length=Ms.length:=by rw[tl.length,zst]
 refine⟨_,rfl,b,ts,rfl,hs,by omega,fun hc=>h1 (by omega),fun hc=>?_⟩
 refine⟨_,rfl,b,ts,Ms,rfl,hs,tl,sm,fun hb=>h2 (by omega) hb,fun hb=>?_⟩
 refine⟨_,rfl,b,ts,Ms,rfl,hs,tl,sm,fun hb2=>h3 (by omega) hb hb2,fun hb2=>?_⟩
 exact⟨_,rfl,b,ts,rfl,.inl hs,h4 (by omega) hb hb2⟩
abbrev Vy:Stmt:=Z7 (top 40) 0
theorem O6:Zl ["self"] ["self"] (Zj Vy):=fnS
theorem O7(F:Fun K "__init__" "Roster.__init__" Vy f fd)(T:Tx K mg a):FnOk P w K mg base (CX1 P w) 1 f fd ["self"] (zbf (ca a)):=by
 refine F.okX O6 (by walk_at "ar") fun _ _ _ _ H _ Q E hr h=>?_
 obtain⟨p,dx,rfl,hp,h⟩:=h;refine⟨_,(Ze (Xb (K:=K) rfl (pv 0) Jo rfl)),?_⟩;intro d hd;exact⟨_,rfl,p,a.zkr,dx,[],rfl,(by rw[Zi (Zh hp hd)];exact hp),T.zk8,T.zlm,(by decide),h d hd⟩
abbrev Vh:Stmt:=Z7 (top 40) 1
theorem Pw:Zl ["self","number","grade","club"] ["self","number","grade","club"] (Zj Vh):=fnS
theorem Px(F:Fun K "check_new" "Roster.check_new" Vh f fd)(T:Tx K mg a)(zkw:Z1 P w K mg base "check_range" 1 ["value","least","most"] (N2 a.zk7)):FnOk P w K mg base (CX1 P w) 2 f fd ["self","number","grade","club"] (Ov (ca a)):=by
 refine F.okX Pw (by walk_at "ar") fun _ _ _ _ H _ Q E hr h=>?_
 obtain⟨p,d,R,n,g,c,rfl,RA,sm,h⟩:=h;have hu:=Wl hr;refine⟨_,(Zb (Z8 (pF zkw hr (Za (pv 1) (Za Zg (Za (Wt rfl T.zmc) Zd)))))
 (Zb (Z8 (pF zkw hr (Za (pv 2) (Za Zg (Za (Wt rfl T.zl8) Zd)))))
 (Zb (Z8 (pF zkw hr (Za (pv 3) (Za Zg (Za (Wt rfl T.zl0) Zd)))))
 (Zb (Zz (Td (Oi hu (pv 1) (Zt (K:=K) rfl (pv 0) rfl)))
  (Ze (Xn Xm rfl T.zp6 rfl (Za (Vr (Z2 (Wc (by decide +kernel)) (Z2 (Vd (pv 1)) (Z2 (Wc (by decide +kernel)) Vq))) (by decide)) Zd)))
  Zp)
 (Ze (Zz (Zn zgu (Zo zb6 (by rfl) T.zku PySem.boot_len (Za (Zt (K:=K) rfl (pv 0) rfl) Zd)) (Wt rfl T.zll) (Zr _))
  (Ze (Xn Xm rfl T.zo4 rfl (Za (Vr (Z2 (Wc (by decide +kernel)) (Z2 (Vd (Wt rfl T.zll)) (Z2 (Wc (by decide +kernel)) Vq))) (by decide)) Zd)))
  Zp)))))),?_⟩
 obtain⟨sn,sg,sc⟩:=sm;obtain⟨⟨dx,kvs,hp,hd,en⟩,nd⟩:=id RA;have bad:∀ {A B:Prop},(badI n g c->(if badI n g c then A else B)->A):=fun hb z=>by rw[if_pos hb] at z;exact z
 refine⟨_,rfl,n,1,999,rfl,sn,Yg (by decide),Yg (by decide),?_⟩
 refine Cm (fun b1=>bad (by unfold badI;omega) h) (fun b1=>?_)
 refine⟨_,rfl,g,1,9,rfl,sg,Yg (by decide),Yg (by decide),?_⟩
 refine Cm (fun b2=>bad (by unfold badI;omega) h) (fun b2=>?_)
 refine⟨_,rfl,c,1,99,rfl,sc,Yg (by decide),Yg (by decide),?_⟩
 refine Cm (fun b3=>bad (by unfold badI;omega) h) (fun b3=>?_)
 rw[if_neg (by unfold badI;omega)] at h
 refine⟨_,rfl,_,rfl,p,a.zkr,dx,_,_,rfl,hp,T.zk8,T.zlm,Vf,d,_,rfl,DGet.k (k:=Sum.inl n) hd,_,rfl,?_⟩;rw[en.isSome nd];refine itD (fun hn=>?_) (fun hn=>?_)
 ·rw[if_pos hn] at h
  exact⟨_,rfl,.inl ⟨_,rfl,sn⟩,fun z=>⟨sz1,h⟩⟩
 rw[if_neg hn] at h
 refine⟨_,rfl,p,a.zkr,dx,_,_,rfl,hp,T.zk8,T.zlm,Vf,d,_,rfl,hd,_,_,rfl,rfl,_,rfl,?_⟩;rw[en.length];refine itD (fun hz=>?_) (fun hz=>?_)
 ·rw[if_pos (by omega)] at h
  exact⟨.inl ⟨_,rfl,Yg (by decide)⟩,fun z=>⟨sz1,h⟩⟩
 rw[if_neg (by omega)] at h
 exact h
abbrev W0:Stmt:=Z7 (top 40) 2
theorem Qb:Zl ["self","number"] ["self","number"] (Zj W0):=fnS
theorem Qc(F:Fun K "check_known" "Roster.check_known" W0 f fd)(T:Tx K mg a):FnOk P w K mg base (CX1 P w) 1 f fd ["self","number"] (Rm (ca a)):=by
 refine F.okX Qb (by walk_at "ar") fun _ _ _ _ H _ Q E hr h=>?_
 obtain⟨p,d,R,n,rfl,RA,sn,h⟩:=h;have hu:=Wl hr;refine⟨_,(Ze (Zz (Td (Pc hu (pv 1) (Zt (K:=K) rfl (pv 0) rfl)))
  (Ze (Xn Xm rfl T.zpq rfl (Za (Vr (Z2 (Wc (by decide +kernel)) (Z2 (Vd (pv 1)) (Z2 (Wc (by decide +kernel)) Vq))) (by decide)) Zd)))
  Zp)),?_⟩
 obtain⟨⟨dx,kvs,hp,hd,en⟩,nd⟩:=id RA;refine⟨_,rfl,_,rfl,p,a.zkr,dx,_,_,rfl,hp,T.zk8,T.zlm,Vf,d,_,rfl,DGet.k (k:=Sum.inl n) hd,_,rfl,?_⟩;rw[en.isSome nd];by_cases hn:n∈R.map (·.1)
 ·rw[zsy hn]
  rw[if_pos hn] at h
  exact iteF h
 ·rw[zs8 hn]
  rw[if_neg hn] at h
  exact iteT ⟨_,rfl,.inl ⟨_,rfl,sn⟩,fun z=>⟨sz1,h⟩⟩
abbrev Rt:Stmt:=Z7 (top 40) 3
theorem Gu:Zl ["self","number","grade","club"] ["self","number","grade","club"] (Zj Rt):=fnS
theorem Gv(F:Fun K "add" "Roster.add" Rt f fd)(T:Tx K mg a)(zk9:Zw P w K mg base a.zkr "check_new" 2 ["self","number","grade","club"] (Ov (ca a))):FnOk P w K mg base (CX1 P w) 3 f fd ["self","number","grade","club"] (zer (ca a)):=by
 refine F.okX Gu (by walk_at "ar") fun _ _ _ _ H _ Q E hr h=>?_
 obtain⟨p,d,R,n,g,c,rfl,RA,sm,hl,h⟩:=h;have hu:=Wl hr;refine⟨_,(Zb (Z8 (Xx (pv 0) T.zk8 zk9 (hr.mono (by decide)) Zk (Za (pv 1) (Za (pv 2) (Za (pv 3) Zd)))))
 (Ze (Yj hu (Zt (K:=K) rfl (pv 0) rfl) (pv 1) (Ya (Za (pv 2) (Za (pv 3) Zd))) rfl))),?_⟩
 obtain⟨⟨dx,kvs,hp,hd,en⟩,nd⟩:=id RA;refine⟨_,rfl,p,dx,_,rfl,hp,Xo.no (by decide +kernel),_,rfl,_,rfl,_,rfl,p,d,R,n,g,c,rfl,RA,sm,?_⟩
 refine it2 h (fun _ z=>z) fun hb h=>it2 h (fun _ z=>z) fun hn h=>it2 h (fun _ z=>z) fun hz h=>?_
 refine⟨_,rfl,_,rfl,sz2,fun t ht=>?_⟩
 have ntp:p≠t:=Zh hp ht;have ntd:d≠t:=Zh hd ht;have npd:p≠d:=Yx hp hd (by intro z;cases z)
 refine⟨_,rfl,p,a.zkr,dx,_,_,rfl,(by rw[Zi ntp];exact hp),T.zk8,T.zlm,Vf,_,rfl,d,_,rfl,DPut.k (k:=Sum.inl n) (by rw[Zi ntd];exact hd) (Ub (by rw[en.length];exact hl)),?_⟩
 rw[zcq (en.val_none hn)];refine h _ ⟨⟨dx,_,(by rw[Zi npd,Zi ntp];exact hp),Zc,?_⟩,?_⟩ fun b o e hb=>(by rw[Zi hb,Zi (Zh e ht)];exact e)
 ·refine Ve.snoc (by rw[Zi (Ne.symm ntd)];exact Zc) (en.mono fun b xs e=>?_)
  rw[Zi (Yx e hd (by intro z;cases z)),Zi (Zh e ht)];exact e
 ·rw[zs1]
  exact Ew nd hn
abbrev U0:Stmt:=Z7 (top 40) 4
theorem Lc:Zl ["self","number"] ["self","number"] (Zj U0):=fnS
theorem Ld(F:Fun K "strike" "Roster.strike" U0 f fd)(T:Tx K mg a):FnOk P w K mg base (CX1 P w) 1 f fd ["self","number"] (C2 (ca a)):=by
 refine F.okX Lc (by walk_at "ar") fun _ _ _ _ H _ Q E hr h=>?_
 obtain⟨p,d,R,n,g,c,rfl,RA,h⟩:=h;refine⟨_,(Ze (Z8 (zdw (Zt (K:=K) rfl (pv 0) rfl) (pv 1) ⟨rfl,rfl,rfl,rfl⟩))),?_⟩;obtain⟨⟨dx,kvs,hp,hd,en⟩,nd⟩:=id RA;have npd:p≠d:=Yx hp hd (by intro z;cases z)
 obtain⟨t,e1,e2⟩:=en.val_some nd (show (n,g,c)∈R++[(n,g,c)] by simp)
 have hn:n∉R.map (·.1):=by
  rw[zs1,List.nodup_append] at nd
  exact fun z=>nd.2.2 n z n (by simp) rfl
 refine⟨_,rfl,p,a.zkr,dx,_,_,rfl,hp,T.zk8,T.zlm,Vf,d,rfl,.inl ⟨kvs,.inl hd⟩,_,rfl,kvs,Sum.inl n,_,hd,rfl,e1,?_⟩;refine h _ ⟨⟨dx,_,(by rw[Zi npd];exact hp),Zc,(en.unsnoc hn).mono fun b xs e=>?_⟩,?_⟩ fun b o e hb=>(by rw[Zi hb];exact e)
 ·rw[Zi (Yx e hd (by intro z;cases z))];exact e
 ·rw[zs1,List.nodup_append] at nd;exact nd.1
abbrev Uh:Stmt:=Z7 (top 40) 6
theorem N4:Zl ["self"] ["self"] (Zj Uh):=fnS
theorem N5(F:Fun K "numbers" "Roster.numbers" Uh f fd)(T:Tx K mg a):FnOk P w K mg base (CX1 P w) 1 f fd ["self"] (J0 (ca a)):=by
 refine F.okX N4 (by walk_at "ar") fun _ _ _ _ H _ Q E hr h=>?_
 obtain⟨p,d,R,rfl,RA,h⟩:=h;refine⟨_,(Ze (Zm (Ys (Om rfl) (by rfl) T.zlk PyProof.Rows.boot_list (Za (Zt (K:=K) rfl (pv 0) rfl) Zd)))),?_⟩
 obtain⟨⟨dx,kvs,hp,hd,en⟩,nd⟩:=id RA;refine⟨_,rfl,p,a.zkr,dx,_,_,rfl,hp,T.zk8,T.zlm,Vf,d,kvs,rfl,.inl hd,fun l hl=>?_⟩
 rw[en.keys];exact h l hl
abbrev Tn:Stmt:=Z7 (top 40) 7
theorem Ku:Zl ["self","number"] ["self","number"] (Zj Tn):=fnS
theorem Kv(F:Fun K "entry" "Roster.entry" Tn f fd)(T:Tx K mg a)(zk6:Zw P w K mg base a.zkr "check_known" 1 ["self","number"] (Rm (ca a))):FnOk P w K mg base (CX1 P w) 2 f fd ["self","number"] (C3 (ca a)):=by
 refine F.okX Ku (by walk_at "ar") fun _ _ _ _ H _ Q E hr h=>?_
 obtain⟨p,d,R,n,rfl,RA,sn,h1,h2⟩:=h;have hu:=Wl hr;refine⟨_,(Zb (Z8 (Xx (pv 0) T.zk8 zk6 (hr.mono (by decide)) Zk (Za (pv 1) Zd)))
 (Ze (Zm (pD hu (Zt (K:=K) rfl (pv 0) rfl) (pv 1))))),?_⟩
 obtain⟨⟨dx,kvs,hp,hd,en⟩,nd⟩:=id RA;refine⟨_,rfl,p,dx,_,rfl,hp,Xo.no (by decide +kernel),_,rfl,p,d,R,n,rfl,RA,sn,?_⟩
 refine Cm (fun hn=>?_) (fun hn=>h1 hn)
 obtain⟨⟨m,g,c⟩,q,rfl⟩:=zs2.mp hn;obtain⟨t,e1,e2⟩:=en.val_some nd q;exact⟨_,rfl,p,a.zkr,dx,_,_,rfl,hp,T.zk8,T.zlm,Vf,_,rfl,d,_,rfl,(by rw[<- e1];exact DGet.k (k:=Sum.inl m) hd),h2 g c t q e2⟩
abbrev U1:Stmt:=Z7 (top 40) 10
theorem Le:Zl ["self","number"] ["self","number"] (Zj U1):=fnS
theorem Lg(F:Fun K "person" "Roster.person" U1 f fd)(T:Tx K mg a)(zne:Zw P w K mg base a.zkr "entry" 2 ["self","number"] (C3 (ca a))):FnOk P w K mg base (CX1 P w) 3 f fd ["self","number"] (C4 (ca a)):=by
 refine F.okX Le (by walk_at "ar") fun _ _ _ _ H _ Q E hr h=>?_
 obtain⟨p,d,R,n,rfl,RA,sn,h1,h2⟩:=h;refine⟨_,(Ze (Zm (Zs (C5 (K:=K) rfl) (Ya (Za (pv 1) Zd)) (Xx (pv 0) T.zk8 zne (hr.mono (by decide)) Zk (Za (pv 1) Zd))))),?_⟩
 obtain⟨⟨dx,kvs,hp,hd,en⟩,nd⟩:=id RA;refine⟨_,rfl,sz1,fun t1 ht1=>?_⟩
 have s1:=Zf (o:=.tup [.int n]) ht1;have q1:upd H t1 (.tup [.int n]) t1=some (.tup [.int n]):=Zc;generalize upd H t1 (.tup [.int n])=H1 at s1 q1
 refine⟨_,rfl,p,dx,_,rfl,s1 _ _ hp,Xo.no (by decide +kernel),_,rfl,p,d,R,n,rfl,RA.same s1,sn,fun hn=>h1 hn H1 s1,fun g c t q ht=>?_⟩
 refine⟨t1,t,_,_,rfl,rfl,SqT.of q1,SqT.of ht,by simp,by show 1+2<=sizeLine;exact sz3,fun z=>absurd z (by simp),fun _ t2 ht2=>?_⟩
 exact h2 g c t2 _ q Zc (s1.trans (Zf ht2)) (s1.free ht2)
abbrev Iv:Stmt:=top 4
theorem zc7:Zl ["people","match","out","ledger","rest"] ["people","match","out","ledger","rest"] (Zj Iv):=fnS
theorem zc8(F:Fun K "takers" "takers" Iv f fd)(T:Tx K mg a)(zpc:Z1 P w K mg base "reasons" 3 ["referee","match","out","ledger","rest"] (Fx K a.zkq)):FnOk P w K mg base (CX1 P w) 4 f fd ["people","match","out","ledger","rest"] (Cu K a.zkq):=by
 refine F.okX zc7 (by walk_at "ar") fun _ _ _ _ H _ Q E hr h=>?_
 obtain⟨lp,lo,tm,p,lr,ld,Rs,ts,Ms,os,h,gu,d,rest,rfl,hp,tl,ho,hoo,ht,LA,hl,hq⟩:=h;refine⟨_,(Ze (Zm (Uv rfl (cT ["match","ledger","rest","out"] [1,3,4,2]) (Ye (K:=K) rfl (pv 0)) (fun _ _ _ _ _=>Np (Xl (Fs (K:=K) rfl (za4 zpc (hr.mono (by decide)) za3 rfl (Za (pv 0) (Za (pv 1) (Za (W3 (Oo (K:=K) rfl) (pI (iU K) (pv 0) Zg) (pv 4) (by with_unfolding_all rfl)) (Za (pv 2) (Za (pv 3) Zd)))))) (fun _=>rfl)))) (fun _ _ _ _ _=>(pI (iU K) (pv 0) Zg))))),?_⟩
 have hlen:ts.length=Ms.length:=by rw[tl.length,zst]
 refine⟨_,rfl,lp,rfl,⟨_,SqL.of hp⟩,?_⟩;refine Wn (K:=K) (a:=lp) (xs:=ts) (fun i ys H'=>Same H H'/\ys=((Ms.take i).filter (Qp Rs h gu d os rest)).map fun m=>V.int m.1) ⟨Same.refl _,rfl⟩ (fun i ys H' _ ⟨s,_⟩=>SqL.of (s _ _ hp)) (by rw[hlen];exact szN hl) (fun i ys H' ⟨_,e⟩=>by rw[e,zst];exact ztb (ztw _ _) (zt9 _ _)) ?_ ?_
 ·rintro i x ys H' hx ⟨sm,rfl⟩
  obtain⟨t,m,rfl,hm,htt⟩:=Jx tl hx;have htt':=sm _ _ htt;refine⟨_,rfl,_,rfl,_,rfl,t,_,_,_,rfl,rfl,SqT.of htt',(show atI (pV m) 0=some _ from rfl),_,rfl,lo,os,rfl,.inl (SqL.of (sm _ _ ho)),rfl,zuf.mpr (fun y hy=>Nv (hoo y hy)),_,rfl,_,rfl,t,tm,p,lr,ld,Rs,m.1,m.2.1,m.2.2,h,gu,d,rest,inV (.int m.1) os,rfl,htt',sm _ _ ht,LA.same sm,fun l H2 hl2 s2 _=>?_⟩
  refine⟨_,.inl ⟨_,SqL.of hl2,rfl⟩,?_⟩;have e:((whyS Rs m.1 m.2.1 m.2.2 h gu d (inV (.int m.1) os) rest).map V.str).isEmpty=Qp Rs h gu d os rest m:=by unfold Qp;rw[List.isEmpty_map]
  have hys:∀ ys',((Ms.take (i+1)).filter (Qp Rs h gu d os rest)).map (fun m=>V.int m.1)=((Ms.take i).filter (Qp Rs h gu d os rest)).map (fun m=>V.int m.1)++ys'↔ys'=if Qp Rs h gu d os rest m then [V.int m.1] else []:=fun ys'=>by
   rw[zt8,hm,zus,zs1,List.append_cancel_left_eq];cases q:Qp Rs h gu d os rest m<;>simp[q,eq_comm]
  dsimp only;rw[e];refine itB (fun hb=>?_) (fun hb=>?_)
  ·rw[Bool.not_not] at hb
   refine⟨_,rfl,t,_,_,_,rfl,rfl,SqT.of (s2 _ _ htt'),(show atI (pV m) 0=some _ from rfl),sm.trans s2,?_⟩
   exact((hys [V.int m.1]).mpr (by rw[hb];rfl)).symm
  ·rw[Bool.not_not] at hb
   refine⟨sm.trans s2,?_⟩;have:=(hys []).mpr (by rw[hb];rfl)
   rw[zt4] at this
   exact this.symm
 ·rintro ys H' ⟨sm,rfl⟩ l hl'
  rw[hlen,zte];exact hq l _ Zc (sm.trans (Zf hl')) (sm.free hl')
abbrev To:Stmt:=top 42
theorem Vb:Zl ["given","taken","place","number"] ["given"] (Zj To):=fnS
theorem Kw(F:Fun K "places_taken" "places_taken" To f fd)(T:Tx K mg a):FnOk P w K mg base (CX1 P w) 1 f fd ["given"] (zbd K):=by
 refine F.okX Vb (by walk_at "ar") fun _ _ _ _ H _ Q E hr h=>?_
 obtain⟨b,gs,rfl,hb,ho,hinj,hl,h⟩:=h;have hu:=Wl hr;refine⟨_,(Zb (pS 1 Vb.nd Jo)
 (Zb (Y5 PassesOwn.leaving rfl (zf8 (K:=K) rfl rfl T.zm2 (Za (pv 0) Zd)) (Wu (K:=K) (n:=2) rfl rfl (Z0 (pN 2 Vb.nd) (Z0 (pN 3 Vb.nd) Ws)))
  (Ze (Zz (Zn W9 (pv 3) Yl (Zr _))
   (Ze (Yj hu (pv 1) (pv 3) (pv 2) rfl))
   Zp)))
 (Ze (Zm (pv 1))))),?_⟩
 have line:100<sizeLine:=by rw[sizeLine_eq];decide
 intro d hd
 let jv1:Nat->L2.St->Hp->Prop:=fun i σ' H'=>(∃ u v,σ'=[some (.ref b),some (.ref d),u,v])/\Same H H'/\∃ kvs,H' d=some (.dK kvs)/\kvs.length<=i/\(∀ (n:Int) (j:Nat),j<i->gs[j]?=some (.int n)->valV kvs (Sum.inl n:Key)=some (.int (j:Nat)))/\(∀ n:Int,(∀ j:Nat,j<i->gs[j]?≠some (.int n))->valV kvs (Sum.inl n:Key)=none)
 refine⟨_,rfl,b,rfl,⟨gs,SqL.of (Zf hd _ _ hb)⟩,zef (xs:=gs) jv1
  ⟨⟨none,none,rfl⟩,Zf hd,[],Zc,zs3 _,fun n j hj=>absurd hj (zun _),fun n _=>rfl⟩ (fun i σ' H' hi p=>SqL.of (p.2.1 _ _ hb)) (fun i x t σ' H' hx p htn=>?_) (fun σ' H' p=>?_)⟩
 ·obtain⟨⟨u,v,rfl⟩,hs,kvs,hk,hkl,h1,h2⟩:=p
  have s2:=hs.trans (Zf (o:=.tup [.int (i:Nat),x]) htn);have hk2:=Zf (o:=.tup [.int (i:Nat),x]) htn _ _ hk;refine⟨t,_,rfl,SqT.of Zc,rfl,_,_,rfl,_,_,rfl,rfl,?_⟩;generalize upd H' t (.tup [.int (i:Nat),x])=H2 at s2 hk2
  have hi:i<gs.length:=(zsv.mp hx).1;refine Xq (b:=!decide (x=.non)) (fun Q k=>⟨_,rfl,rfl,_,rfl,k⟩) ?_
  rcases ho x (zs5 hx) with rfl|⟨n,rfl⟩
  ·refine iteF (Zu ⟨⟨_,_,rfl⟩,s2,kvs,hk2,by omega,fun n j hj hg=>?_,fun n hn=>h2 n fun j hj=>hn j (by omega)⟩)
   by_cases e:j=i
   ·subst e;rw[hx] at hg;cases hg
   ·exact h1 n j (by omega) hg
  ·refine iteT ⟨_,rfl,_,rfl,_,rfl,d,_,rfl,DPut.k (k:=Sum.inl n) hk2 (by omega),⟨_,_,rfl⟩,?_,_,Zc,?_,fun m j hj hg=>?_,fun m hm=>?_⟩
   ·exact Z6 hd s2
   ·exact ztb (Xi kvs _ _) (by omega)
   ·rw[Vp]
    by_cases e:j=i
    ·subst e
     rw[hx] at hg;cases hg
     rw[if_pos rfl]
    ·have hne:¬ ((Sum.inl m:Key)=Sum.inl n):=fun z=>by
      rw[Sum.inl.inj z] at hg
      exact e (hinj j i n hg hx)
     rw[if_neg hne];exact h1 m j (by omega) hg
   ·have hne:¬ ((Sum.inl m:Key)=Sum.inl n):=fun z=>by
     rw[Sum.inl.inj z] at hm
     exact hm i (by omega) hx
    rw[Vp,if_neg hne];exact h2 m fun j hj=>hm j (by omega)
 ·obtain⟨⟨u,v,rfl⟩,hs,kvs,hk,hkl,h1,h2⟩:=p
  exact⟨_,rfl,h d kvs H' hk ⟨fun n j hj=>h1 n j (zsv.mp hj).1 hj,fun n hn=>h2 n fun j _=>hn j⟩ hs hd⟩
abbrev Ru:Stmt:=top 43
theorem X5:Zl ["may","taken","start","into","waiting","done","place","number"] ["may","taken","start"] (Zj Ru):=fnS
theorem Gw(F:Fun K "steps_into" "steps_into" Ru f fd)(T:Tx K mg a):FnOk P w K mg base (CX1 P w) 1 f fd ["may","taken","start"] (zel K):=by
 refine F.okX X5 (by walk_at "ar") fun _ _ _ _ H _ Q E hr h=>?_
 obtain⟨l,d,ls,rows,kvs,gs,p,rfl,hl,il,hrl,hd,tk,FP,hp,h⟩:=h;have hu:=Wl hr;refine⟨_,(Zb (pS 3 X5.nd (Ep (Us (pv 2) Yl Eo) rfl rfl (by simp) (by decide)))
 (Zb (pS 4 X5.nd (Z5 (Za (pv 2) Zd)))
 (Zb (pS 5 X5.nd Zg)
 (Zb (Jj PassesOwn.leaving (Zn zau (pv 5) (Zo (cL K) (by rfl) T.zku PySem.boot_len (Za (pv 4) Zd)) (Zr _))
  (Zb (pS 6 X5.nd (pI (iL K) (pv 4) (pv 5)))
  (Zb (pS 5 X5.nd (Zs Yu (pv 5) Zg))
  (Ze (Y5 PassesOwn.leaving rfl (Ye (K:=K) rfl (pI (iL K) (pv 0) (pv 6))) (pN 7 X5.nd)
   (Ze (Zz (PW.pt (Sd (Td (Oi hu (pv 7) (pv 1))) (Uq (Td (Pc hu (pD hu (pv 1) (pv 7)) (pv 3))))))
    (Zb (Yj hu (pv 3) (pD hu (pv 1) (pv 7)) (Ya (Za (pv 6) (Za (pv 7) Zd))) rfl)
    (Ze (Yk (pv 4) (pD hu (pv 1) (pv 7)))))
    Zp)))))))
 (Ze (Zm (pv 3))))))),?_⟩
 show let y1:TS:=_;let y2:TS:=Zx _ y1;let y3:TS:=_;let y4:TS:=Zx (Ab _ (Zx _ y2)) y3;let y5:TS:=Zx _ y4;let y6:TS:=Zx _ y5;Zx _ y6 _ _ _;intro y1 y2 y3 y4 y5 y6;have line0:200<sizeLine:=by rw[sizeLine_eq];decide
 intro ld hld;refine⟨_,rfl,Zc,[(Sum.inl (p:Int),.non)],rfl,(by show 1<=15;decide),?_⟩
 have s0:Same H (upd (upd H ld (.dK [])) ld (.dK (Ux [] [(Sum.inl (p:Int),.non)]))):=Z6 hld (Zf hld);have q0:upd (upd H ld (.dK [])) ld (.dK (Ux [] [(Sum.inl (p:Int),.non)])) ld=some (.dK [((Sum.inl (p:Int):Key),V.non)]):=Zc;generalize upd (upd H ld (.dK [])) ld (.dK (Ux [] [(Sum.inl (p:Int),.non)]))=H1 at s0 q0
 refine⟨_,rfl,sz1,fun ln hln=>?_⟩
 have s1:=Zf (o:=.lst [.int p]) hln;have e1:upd H1 ln (.lst [.int p]) ln=some (.lst (Yh [p])):=Zc;have q1:=s1 _ _ q0;have s01:=s0.trans s1;have nln:ld≠ln:=Zh q0 hln;have fln:H ln=none:=s0.free hln;generalize upd H1 ln (.lst [.int p])=H2 at s1 e1 q1 s01
 have hbound:∀ line:List Nat,line.Nodup->(∀ c∈line,c<rows.length)->line.length<=rows.length:=fun line nd hc=>by
  have:=nd.length_le_of_subset (l₂:=List.range rows.length) fun c hcc=>zt1.mpr (hc c hcc)
  rw[zt3] at this;exact this
 refine⟨fun m σ' H'=>∃ (line:List Nat) (dep:Nat->Nat) (fr:Nat->Option (Nat×Int)) (into:List (Key×V)) (dn:Nat) (v6 v7:Option V),m=rows.length-dn/\dn<=line.length/\σ'=[some (.ref l),some (.ref d),some (.int p),some (.ref ld),some (.ref ln),some (.int (dn:Nat)),v6,v7]/\Same H H'/\H' ld=some (.dK into)/\H' ln=some (.lst (Yh line))/\X3 H' into line fr/\Bfs rows gs p line dep/\Done rows gs line dep dn/\Tf rows gs p line dep fr/\(∀ q∈line,q<rows.length)/\∀ here,line[dn]?=some here->∀ x∈line,dep x<=dep here+1,
  ⟨_,[p],fun _=>0,fun _=>none,_,0,_,_,rfl,ztm _,rfl,s01,q1,e1,A4 _ _,F3 rows gs p,fun i q hi=>absurd hi (zun _),A5,by simpa using hp,fun here _ x _=>ztm _⟩,?_⟩
 rintro m σ Ha ⟨line,dep,fr,into,dn,v6,v7,rfl,hdn,rfl,sa,hda,hna,io,B,Dn,fo,hlt,near⟩;have hll:=hbound _ B.nodup hlt;have hnl:(Yh line).length=line.length:=by unfold Yh;rw[zst]
 refine⟨_,rfl,_,rfl,ln,_,rfl,.inl (SqL.of hna),_,_,rfl,rfl,_,rfl,?_⟩;rw[hnl];by_cases hlt2:dn<line.length
 ·rw[zsy (show ((dn:Nat):Int)<(line.length:Nat) by omega)]
  refine iteT ?_;obtain⟨here,hh⟩:∃ here,line[dn]?=some here:=⟨_,zsu hlt2⟩
  have hhm:=zs5 hh;have hhere:=hlt here hhm;have hhv:(Yh line)[dn]?=some (.int (here:Nat)):=by unfold Yh;rw[zs0,hh];rfl
  refine⟨fun σ' H'=>∃ (line:List Nat) (dep:Nat->Nat) (fr:Nat->Option (Nat×Int)) (into:List (Key×V)) (v6 v7:Option V),dn+1<=line.length/\σ'=[some (.ref l),some (.ref d),some (.int p),some (.ref ld),some (.ref ln),some (.int ((dn+1:Nat):Int)),v6,v7]/\Same H H'/\H' ld=some (.dK into)/\H' ln=some (.lst (Yh line))/\X3 H' into line fr/\Bfs rows gs p line dep/\Done rows gs line dep (dn+1)/\Tf rows gs p line dep fr/\(∀ q∈line,q<rows.length)/\∀ here,line[dn+1]?=some here->∀ x∈line,dep x<=dep here+1,
   fun σ' H' ⟨line,dep,fr,into,v6,v7,a1,a2,a3,a4,a5,a6,a7,a8,a9,a10,a11⟩=>⟨rows.length-(dn+1),by omega,line,dep,fr,into,dn+1,v6,v7,rfl,a1,a2,a3,a4,a5,a6,a7,a8,a9,a10,a11⟩,?_⟩
  have hr':rows[here]?=some (rows[here]'hhere):=zsu hhere;generalize (rows[here]'hhere)=r at hr'
  obtain⟨lr,e2,e3⟩:=il.getR hr';have hl':(ls.map V.ref)[here]?=some (.ref lr):=by rw[zs0,e2];rfl
  refine⟨_,rfl,_,rfl,ln,_,_,_,rfl,rfl,SqL.of hna,Z4 hhv,?_⟩;refine⟨_,rfl,_,_,rfl,rfl,?_⟩;refine⟨_,rfl,_,rfl,l,_,_,_,rfl,rfl,SqL.of (sa _ _ hl),Z4 hl',lr,rfl,⟨_,SqL.of (sa _ _ e3)⟩,?_⟩
  let jv2:Nat->L2.St->Hp->Prop:=fun j σ' H'=>∃ (line:List Nat) (dep:Nat->Nat) (fr:Nat->Option (Nat×Int)) (into:List (Key×V)) (v7:Option V),σ'=[some (.ref l),some (.ref d),some (.int p),some (.ref ld),some (.ref ln),some (.int ((dn+1:Nat):Int)),some (.int (here:Nat)),v7]/\Same H H'/\H' ld=some (.dK into)/\H' ln=some (.lst (Yh line))/\X3 H' into line fr/\Bfs rows gs p line dep/\Done rows gs line dep dn/\Tf rows gs p line dep fr/\(∀ q∈line,q<rows.length)/\line[dn]?=some here/\(∀ x∈line,dep x<=dep here+1)/\∀ n∈r.take j,∀ q':Nat,gs[q']?=some (.int n)->q'∈line
  refine Wa (K:=K) (a:=lr) (xs:=r.map V.int) jv2
   ⟨line,dep,fr,into,_,rfl,sa,hda,hna,io,B,Dn,fo,hlt,hh,near here hh,by simp⟩ (fun j σ' H' _ ⟨_,_,_,_,_,_,z,_⟩=>SqL.of (z _ _ e3)) ?_ ?_
  ·rintro j y σ' Hx hy ⟨line,dep,fr,into,w7,rfl,sx,hdx,hnx,io,B,Dn,fo,hlt,hh,near,pr⟩
   have hj:j<r.length:=by have:=(zsv.mp hy).1;rw[zst] at this;exact this
   have hhm:=zs5 hh;have hrj:r[j]?=some (r[j]'hj):=zsu hj;have etk:r.take (j+1)=r.take j++[r[j]'hj]:=ztl hj;generalize (r[j]'hj)=n at hrj etk
   have ey:y=.int n:=by rw[zs0,hrj] at hy;exact(Option.some.inj hy).symm
   subst ey;have hnr:=zs5 hrj;have hll:=hbound _ B.nodup hlt;have prev:(∀ q':Nat,gs[q']?=some (.int n)->q'∈line)->∀ m∈r.take (j+1),∀ q':Nat,gs[q']?=some (.int m)->q'∈line:=fun k m hm=>by
    rw[etk] at hm
    rcases zs6.mp hm with z|z
    ·exact pr m z
    ·rw[zsx.mp z];exact k
   rcases tk.iff n with ⟨q',hq',hv⟩|⟨hno,hv⟩
   ·by_cases hin:q'∈line
    ·refine Xq (b:=false) (fun Q k=>?_) (iteF (Zu ⟨line,dep,fr,into,_,rfl,sx,hdx,hnx,io,B,Dn,fo,hlt,hh,near,prev fun q2 h2=>by rw[FP.inj q2 q' n h2 hq'];exact hin⟩))
     refine⟨_,rfl,_,rfl,d,_,rfl,DGet.k (k:=Sum.inl n) (sx _ _ hd),_,rfl,?_⟩;rw[hv];refine iteT ⟨_,rfl,_,rfl,d,_,rfl,hv▸DGet.k (k:=Sum.inl n) (sx _ _ hd),_,rfl,ld,_,rfl,DGet.k (k:=Sum.inl (q':Int)) hdx,_,rfl,?_⟩;rw[(io.has q').mpr hin];exact k
    ·have hnin:(valV into (Sum.inl (q':Int):Key)).isSome=false:=by
      rw[Bool.eq_false_iff];exact fun z=>hin ((io.has q').mp z)
     have hq'l:q' < rows.length:=by
      have:=(zsv.mp hq').1;rw[FP.len] at this;exact this
     have ha:adjN rows gs here n q':=⟨⟨r,hr',hnr⟩,hq'⟩;obtain⟨B',old,all⟩:=B.app (dn:=dn) hh near ha hin;refine Xq (b:=true) (fun Q k=>?_) (iteT ?_)
     ·refine⟨_,rfl,_,rfl,d,_,rfl,DGet.k (k:=Sum.inl n) (sx _ _ hd),_,rfl,?_⟩
      rw[hv];refine iteT ⟨_,rfl,_,rfl,d,_,rfl,hv▸DGet.k (k:=Sum.inl n) (sx _ _ hd),_,rfl,ld,_,rfl,DGet.k (k:=Sum.inl (q':Int)) hdx,_,rfl,?_⟩;rw[hnin];exact k
     ·refine⟨_,rfl,_,rfl,sz2,fun t ht=>?_⟩
      have t1:=Zf (o:=.tup [.int (here:Nat),.int n]) ht;have st:=sx.trans t1;have hdt:=t1 _ _ hdx;have hnt:=t1 _ _ hnx;have et:upd Hx t (.tup [.int (here:Nat),.int n]) t=some (.tup [.int (here:Nat),.int n]):=Zc;have iot:=io.same t1;generalize upd Hx t (.tup [.int (here:Nat),.int n])=Ht at t1 st hdt hnt et iot
      refine⟨_,rfl,_,rfl,_,rfl,d,_,rfl,hv▸DGet.k (k:=Sum.inl n) (st _ _ hd),ld,_,rfl,DPut.k (k:=Sum.inl (q':Int)) hdt ?_,?_⟩
      ·have:=io.len;omega
      have sd:Same H (upd Ht ld (.dK (putK into (Sum.inl (q':Int)) (.ref t)))):=Z6 hld st;have ed:upd Ht ld (.dK (putK into (Sum.inl (q':Int)) (.ref t))) ld=some (.dK (putK into (Sum.inl (q':Int)) (.ref t))):=Zc;have en:upd Ht ld (.dK (putK into (Sum.inl (q':Int)) (.ref t))) ln=some (.lst (Yh line)):=by rw[Zi (Ne.symm nln)];exact hnt
      have iod:X3 (upd Ht ld (.dK (putK into (Sum.inl (q':Int)) (.ref t)))) (putK into (Sum.inl (q':Int)) (.ref t)) (line++[q']) (Ka fr q' (here,n)) :=
       (iot.app hin et).mono fun c xs e=>by rw[Zi (Yx e hdt (fun z=>nomatch z))];exact e
      generalize upd Ht ld (.dK (putK into (Sum.inl (q':Int)) (.ref t)))=Hd at sd ed en iod
      have hsz:(Yh line).length<sizeLine:=by unfold Yh;rw[zst];omega
      refine⟨_,rfl,ln,_,rfl,en,_,rfl,_,rfl,d,_,rfl,hv▸DGet.k (k:=Sum.inl n) (sd _ _ hd),_,en,hsz,line++[q'],X2 dep q' (dep here+1),Ka fr q' (here,n),putK into (Sum.inl (q':Int)) (.ref t),_,rfl,Z6 fln sd,?_,?_,?_,B',Dn.app ?_ ⟨_,rfl⟩ old,fo.app hin B.memp hhm ha,?_,?_,?_,?_⟩
      ·rw[Zi nln];exact ed
      ·rw[Zc];unfold Yh;rw[zs1];rfl
      ·exact iod.mono fun c xs e=>by rw[Zi (Yx e en (fun z=>nomatch z))];exact e
      ·have:=(zsv.mp hh).1;omega
      ·intro q hq
       rcases zs6.mp hq with z|z
       ·exact hlt q z
       ·rw[zsx.mp z];exact hq'l
      ·rw[ztt (zsv.mp hh).1];exact hh
      ·intro x hx
       rw[old here hhm];exact all x hx
      ·intro m hm q2 h2
       rw[etk] at hm
       rcases zs6.mp hm with z|z
       ·exact ztf _ (pr m z q2 h2)
       ·rw[zsx.mp z] at h2
        rw[FP.inj q2 q' n h2 hq'];exact zs9 _ (zsx.mpr rfl)
   ·refine Xq (b:=false) (fun Q k=>?_) (iteF (Zu ⟨line,dep,fr,into,_,rfl,sx,hdx,hnx,io,B,Dn,fo,hlt,hh,near,prev fun q2 h2=>absurd h2 (hno q2)⟩))
    refine⟨_,rfl,_,rfl,d,_,rfl,DGet.k (k:=Sum.inl n) (sx _ _ hd),_,rfl,?_⟩;rw[hv];exact iteF k
  ·rintro σ' Hx ⟨line,dep,fr,into,w7,rfl,sx,hdx,hnx,io,B,Dn,fo,hlt,hh,near,pr⟩
   rw[zst,zte] at pr
   have hlt3:=(zsv.mp hh).1;refine⟨line,dep,fr,into,_,_,by omega,rfl,sx,hdx,hnx,io,B,fun i q hi hq n q' ha=>?_,fo,hlt,fun here2 hh2 x hx=>?_⟩
   ·by_cases e:i=dn
    ·rw[e,hh] at hq;cases hq
     obtain⟨⟨r2,h1,h2⟩,h3⟩:=ha;rw[hr'] at h1;cases h1
     have hm:=pr n h2 q' h3;exact⟨hm,near q' hm⟩
    ·exact Dn i q (by omega) hq n q' ha
   ·have:=B.sorted dn (dn+1) here here2 (by omega) hh hh2
    have:=near x hx;omega
 ·rw[zs8 (show ¬ (((dn:Nat):Int)<(line.length:Nat)) by omega)]
  refine iteF ⟨_,rfl,?_⟩;have e:dn=line.length:=by omega
  subst e;exact h ld into line dep fr Ha hda io B Dn fo hlt sa hld
abbrev Tp:Stmt:=top 44
theorem R7:Zl ["numbers","taken","number"] ["numbers","taken"] (Zj Tp):=fnS
theorem Kx(F:Fun K "free_referee" "free_referee" Tp f fd)(T:Tx K mg a):FnOk P w K mg base (CX1 P w) 1 f fd ["numbers","taken"] (F8 K):=by
 refine F.okX R7 (by walk_at "ar") fun _ _ _ _ H _ Q E hr h=>?_
 obtain⟨l,d,r,kvs,rfl,hl,hd,h⟩:=h;have hu:=Wl hr;refine⟨_,(Zb (Y5 PassesOwn.leaving rfl (Ye (K:=K) rfl (pv 0)) (pN 2 R7.nd)
  (Ze (Zz (Td (Pc hu (pv 2) (pv 1)))
   (Ze (Zm (pv 2)))
   Zp)))
 (Ze (Zm Yl))),?_⟩
 let jv3:Nat->L2.St->Hp->Prop:=fun i σ' H'=>(∃ u,σ'=[some (.ref l),some (.ref d),u])/\H'=H/\∀ n∈r.take i,(valV kvs (Sum.inl n:Key)).isSome=true
 refine⟨_,rfl,l,rfl,⟨_,SqL.of hl⟩,Wa (xs:=r.map V.int) jv3
  ⟨⟨none,rfl⟩,rfl,by simp⟩ (fun i σ' H' hi p=>by rw[p.2.1];exact SqL.of hl) (fun i x σ' H' hx p=>?_) (fun σ' H' p=>?_)⟩
 ·obtain⟨⟨u,rfl⟩,rfl,hp⟩:=p
  have hi:i<r.length:=by have:=(zsv.mp hx).1;rw[zst] at this;exact this
  have e:x=.int (r[i]'hi):=by
   rw[zs0,zsu hi] at hx
   exact(Option.some.inj hx).symm
  subst e;refine Xq (b:=!(valV kvs (Sum.inl (r[i]'hi):Key)).isSome) (fun Q k=>⟨_,rfl,_,rfl,d,_,rfl,DGet.k (k:=Sum.inl (r[i]'hi)) hd,_,rfl,k⟩) ?_
  cases hv:valV kvs (Sum.inl (r[i]'hi):Key) with
  | none=>exact iteT ⟨_,rfl,h (some (r[i]'hi)) (fun n hn=>by cases hn;exact⟨ztp hi,hv⟩) (fun z=>nomatch z)⟩
  | some y =>
    refine iteF (Zu ⟨⟨_,rfl⟩,rfl,fun n hn=>?_⟩)
    rw[ztl hi] at hn
    rcases zs6.mp hn with z|z
    ·exact hp n z
    ·rw[zsx.mp z,hv];rfl
 ·obtain⟨⟨u,rfl⟩,rfl,hp⟩:=p
  rw[zst,zte] at hp
  exact h none (fun n z=>nomatch z) fun _=>hp
abbrev Iw:Stmt:=top 45
theorem Po:Zl ["into","place","number","steps","step"] ["into","place","number"] (Zj Iw):=fnS
theorem zc9(F:Fun K "traced" "traced" Iw f fd)(T:Tx K mg a):FnOk P w K mg base (CX1 P w) 1 f fd ["into","place","number"] (Cy K):=by
 refine F.okX Po (by walk_at "ar") fun _ _ _ _ H _ Q E hr h=>?_
 obtain⟨t,q,p,w,rows,gs,into,line,dep,fr,rfl,ht,io,fo,d0,hp,hq,hdq,h⟩:=h;have hu:=Wl hr;refine⟨_,(Zb (pS 3 Po.nd (Z5 (Za (Ya (Za (pv 1) (Za (pv 2) Zd))) Zd)))
 (Zb (pS 4 Po.nd (pD hu (pv 0) (pv 1)))
 (Zb (Jj PassesOwn.leaving (Zn W9 (pv 4) Yl (Zr _))
  (Zb (Yk (pv 3) (pv 4))
  (Ze (pS 4 Po.nd (pD hu (pv 0) (pI (iU K) (pv 4) Zg))))))
 (Zb (Z8 (zdy PySem.F.plainAttrs_list PySem.F.slot_list_reverse PySem.F.type_list_reverse Ar (pv 3)))
 (Ze (Zm (pv 3))))))),?_⟩
 have line0:200<sizeLine:=by rw[sizeLine_eq];decide
 have get:∀ {H':Hp},Same H H'->∀ k:Nat,DGet H' t (.int (k:Nat)) (valV into (Sum.inl (k:Int):Key)):=fun {H'} hs k=>.inl ⟨into,Sum.inl (k:Int),ht.imp (hs _ _) (fun ⟨o,e⟩=>⟨o,hs _ _ e⟩),rfl,rfl⟩
 have fr0:∀ c∈line,fr c=none->c=p:=fun c hc hf=>by
  by_cases e:c=p
  ·exact e
  ·obtain⟨par,n,h1,_⟩:=fo.2 c hc e
   rw[hf] at h1;cases h1
 have some_of:∀ c∈line,∃ v,valV into (Sum.inl (c:Int):Key)=some v:=fun c hc=>zuc.mp ((io.has c).mpr hc)
 refine⟨_,rfl,_,rfl,sz2,fun m hm=>⟨sz1,fun lt hlt=>?_⟩⟩
 have s1:=Zf (o:=.tup [.int (q:Nat),oV w]) hm;have e1:upd H m (.tup [.int (q:Nat),oV w]) m=some (.tup (We (q,w))):=Zc;generalize upd H m (.tup [.int (q:Nat),oV w])=H1 at s1 e1 hlt
 have s2:=Zf (o:=.lst [V.ref m]) hlt;have e2:upd H1 lt (.lst [V.ref m]) lt=some (.lst [V.ref m]):=Zc;have e3:=s2 _ _ e1;have s3:=s1.trans s2;have hltn:H lt=none:=s1.free hlt;generalize upd H1 lt (.lst [V.ref m])=H2 at s2 e2 e3 s3
 obtain⟨v0,hv0⟩:=some_of q hq;refine⟨_,rfl,_,rfl,t,v0,rfl,hv0▸get s3 q,?_⟩;refine⟨fun mm σ' H'=>∃ (cur:Nat) (st:List (Nat×Option Int)) (ts:List V) (v:V),mm=dep cur/\cur∈line/\valV into (Sum.inl (cur:Int):Key)=some v/\σ'=[some (.ref t),some (.int (q:Nat)),some (oV w),some (.ref lt),some v]/\Same H H'/\H' lt=some (.lst ts)/\Z9 H' ts (st.reverse.map We)/\Ch rows gs cur st q w/\st.length+dep cur=dep q+1,
  ⟨_,q,[(q,w)],_,v0,rfl,hq,hv0,rfl,s3,e2,.cons e3 .nil,.one q w,by show 1+dep q=_;omega⟩,?_⟩
 rintro mm σ' Ha ⟨cur,st,ts,v,rfl,hc,hv,rfl,sa,hta,htl,hch,hlen⟩;have htsl:ts.length=st.length:=by have:=htl.length;rw[zst,List.length_reverse] at this;exact this
 refine⟨_,rfl,rfl,_,rfl,?_⟩;cases hf:fr cur with
 | none =>
   have hcp:=fr0 cur hc hf;subst hcp;have hvn:=io.none cur hc hf;rw[hv] at hvn
   cases hvn;refine iteF ?_;refine⟨_,rfl,.inl ⟨rfl,_,SqL.of hta⟩,lt,ts,rfl,rfl,hta,_,rfl,?_⟩;refine h lt ts.reverse st _ Zc ?_ hch (by omega) (Z6 hltn sa) hltn
   have hr:=htl.reverse;rw[<- List.map_reverse,List.reverse_reverse] at hr
   exact hr.mono fun c xs e=>by rw[Zi (Yx e hta (fun z=>nomatch z))];exact e
 | some x =>
   obtain⟨par,n⟩:=x;obtain⟨tt,h1,h2⟩:=io.some cur hc par n hf;rw[hv] at h1
   cases h1;have hcp:cur≠p:=fun z=>by rw[z,fo.1] at hf;cases hf
   obtain⟨par',n',h3,h4,h5,h6⟩:=fo.2 cur hc hcp;rw[hf] at h3
   cases h3;obtain⟨v',hv'⟩:=some_of par h4;refine iteT ?_;refine⟨fun σ' H'=>∃ (st:List (Nat×Option Int)) (ts:List V),σ'=[some (.ref t),some (.int (q:Nat)),some (oV w),some (.ref lt),some v']/\Same H H'/\H' lt=some (.lst ts)/\Z9 H' ts (st.reverse.map We)/\Ch rows gs par st q w/\st.length+dep par=dep q+1,
    fun σ' H' ⟨st,ts,a1,a2,a3,a4,a5,a6⟩=>⟨dep par,by omega,par,st,ts,v',rfl,h4,hv',a1,a2,a3,a4,a5,a6⟩,?_⟩
   have s4:Same H (upd Ha lt (.lst (ts++[V.ref tt]))):=Z6 hltn sa;refine⟨_,rfl,lt,_,rfl,hta,_,rfl,_,hta,by omega,?_⟩
   refine⟨_,rfl,_,rfl,tt,_,_,_,rfl,rfl,SqT.of (s4 _ _ h2),rfl,t,v',rfl,hv'▸get s4 par,(par,some n) :: st,ts++[V.ref tt],rfl,s4,Zc,?_,.step h5 hch,?_⟩
   ·rw[zuw,zs1]
    exact(htl.mono fun c xs e=>by rw[Zi (Yx e hta (fun z=>nomatch z))];exact e).snoc (s4 _ _ h2)
   ·rw[zti];omega
abbrev Dp:Stmt:=top 46
theorem Qx:Zl ["may","given","place","taken","into","reached","number"] ["may","given","place"] (Zj Dp):=fnS
theorem zff(F:Fun K "chain" "chain" Dp f fd)(T:Tx K mg a)(znk:Z1 P w K mg base "places_taken" 1 ["given"] (zbd K))(zod:Z1 P w K mg base "steps_into" 1 ["may","taken","start"] (zel K))(znn:Z1 P w K mg base "free_referee" 1 ["numbers","taken"] (F8 K))(zo5:Z1 P w K mg base "traced" 1 ["into","place","number"] (Cy K)):FnOk P w K mg base (CX1 P w) 2 f fd ["may","given","place"] (E4 K):=by
 refine F.okX Qx (by walk_at "ar") fun _ _ _ _ H _ Q E hr h=>?_
 obtain⟨l,lg,ls,rows,nu,gs,p,rfl,hl,il,mo,hg,FP,hp,hgp,h⟩:=h;refine⟨_,(Zb (pS 3 Qx.nd (pF znk hr (Za (pv 1) Zd)))
 (Zb (pS 4 Qx.nd (pF zod hr (Za (pv 0) (Za (pv 3) (Za (pv 2) Zd)))))
 (Zb (Y5 PassesOwn.leaving rfl (zf9 (pv 4)) (pN 5 Qx.nd)
  (Zb (pS 6 Qx.nd (pF znn hr (Za (pI (iL K) (pv 0) (pv 5)) (Za (pv 3) Zd))))
  (Ze (Zz (Zn W9 (pv 6) Yl (Zr _))
   (Ze (Zm (pF zo5 hr (Za (pv 4) (Za (pv 5) (Za (pv 6) Zd))))))
   Zp))))
 (Ze (Zm (pF zo5 hr (Za (pv 4) (Za (Zo (zcn rfl) (by rfl) T.zpw PyProof.Rows.boot_max (Za (pv 4) Zd)) (Za Yl Zd))))))))),?_⟩
 have hrl:rows.length<=100:=ztb mo.few (by decide)
 refine⟨_,rfl,lg,gs,rfl,hg,FP.one,FP.inj,by rw[FP.len];exact hrl,fun d kvs H1 hd1 tk s1 hdn=>?_⟩
 refine⟨_,rfl,_,rfl,_,rfl,l,d,ls,rows,kvs,gs,p,rfl,s1 _ _ hl,il.same s1,hrl,hd1,tk,FP,hp,fun t into line dep fr H2 ht io B Dn fo hlt s2 htn=>?_⟩
 have hbound:line.length<=rows.length:=by
  have:=B.nodup.length_le_of_subset (l₂:=List.range rows.length) fun c hcc=>zt1.mpr (hlt c hcc)
  rw[zt3] at this;exact this
 have hd2:=s2 _ _ hd1;have s02:=s1.trans s2;have hfree:∀ q n,(∃ r,rows[q]?=some r/\n∈r)->valV kvs (Sum.inl n:Key)=none->Qq rows gs q n:=fun q n hr hv=>⟨hr,fun j hj=>by rw[tk.has n j hj] at hv;cases hv⟩
 have hdep:∀ q∈line,dep q<=100:=fun q hq=>by
  obtain⟨pre,hc,hlp⟩:=fo.back B.d0 (dep q) q q none [(q,none)] rfl hq (.one q none);have nd:=hc.nodup fun k hk=>by
   rw[zsw,hlp];have:=(B.full Dn hk).2;show dep q+1<=k+1;omega
  have hlt':=hc.lt FP hp;have:=nd.length_le_of_subset (l₂:=List.range rows.length) fun x hx=>by
   obtain⟨s,hs,rfl⟩:=zs2.mp hx;exact zt1.mpr (hlt' s hs)
  rw[zst,zt3,zsw,hlp] at this
  omega
 have htH:H t=none:=s1.free htn;refine⟨_,rfl,t,into,rfl,ht,fun o=>?_⟩
 have e0:upd H2 t (.frz o (.dK into)) t=some (.frz o (.dK into)):=Zc;have s3:Same H (upd H2 t (.frz o (.dK into))):=Z6 htH s02;have hd3:upd H2 t (.frz o (.dK into)) d=some (.dK kvs):=by rw[Zi (Zh hd1 htn)];exact hd2
 have io3:X3 (upd H2 t (.frz o (.dK into))) into line fr:=io.mono fun c xs e=>by rw[Zi (Yx e ht (fun z=>nomatch z))];exact e
 generalize upd H2 t (.frz o (.dK into))=H3 at e0 s3 hd3 io3
 have hil:into.length=line.length:=io.len;have key:∀ (i:Nat) (k:Key) (v:V),into[i]?=some (k,v)->∃ q:Nat,line[i]?=some q/\k=Sum.inl (q:Int):=fun i k v e=>by
  have:=congrArg (·[i]?) io.keys
  simp only[zs0,e,zt5] at this
  cases hq:line[i]? with
  | none=>rw[hq] at this;cases this
  | some q=>rw[hq] at this;exact⟨q,rfl,Option.some.inj this⟩
 let jv4:Nat->L2.St->Hp->Prop:=fun i σ' H'=>(∃ u v,σ'=[some (.ref l),some (.ref lg),some (.int p),some (.ref d),some (.ref t),u,v])/\H'=H3/\∀ (j q:Nat),j<i->line[j]?=some q->¬ Xz rows gs q
 refine zei (a:=t) (o:=o) (kvs:=into) jv4 ⟨⟨none,none,rfl⟩,rfl,fun j q hj=>absurd hj (zun _)⟩ (fun i σ' H' _ p=>by rw[p.2.1];exact e0) (fun i k v σ' H' hk hP=>?_) (fun σ' H' hP=>?_)
 ·obtain⟨⟨u,v',rfl⟩,rfl,hno⟩:=hP
  obtain⟨q,hq,rfl⟩:=key i k v hk;have hqm:=zs5 hq;have hqr:rows[q]?=some (rows[q]'(hlt q hqm)):=zsu (hlt q hqm);generalize (rows[q]'(hlt q hqm))=r at hqr
  obtain⟨lr,e2,e3⟩:=il.getR hqr;have hl':(ls.map V.ref)[q]?=some (.ref lr):=by rw[zs0,e2];rfl
  refine⟨_,rfl,_,rfl,l,_,_,_,rfl,rfl,SqL.of (s3 _ _ hl),Z4 hl',_,rfl,lr,d,r,kvs,rfl,s3 _ _ e3,hd3,fun w hw1 hw2=>?_⟩
  walk_at "if";refine Xq (b:=!decide (oV w=.non)) (fun Q k=>⟨_,rfl,rfl,_,rfl,k⟩) ?_
  cases w with
  | none =>
    refine iteF (Zu ⟨⟨_,_,rfl⟩,rfl,fun j q2 hj hq2=>?_⟩)
    by_cases e:j=i
    ·rw[e,hq] at hq2
     cases hq2;rintro⟨n,⟨r2,h1,h2⟩,h3⟩;rw[hqr] at h1;cases h1
     have:=hw2 rfl n h2;rw[tk.not n h3] at this;cases this
    ·exact hno j q2 (by omega) hq2
  | some n =>
    obtain⟨hn1,hn2⟩:=hw1 n rfl;refine iteT ⟨_,rfl,_,rfl,_,rfl,t,q,p,some n,rows,gs,into,line,dep,fr,rfl,.inr ⟨o,e0⟩,io3,fo,B.d0,B.memp,hqm,hdep q hqm,fun lt ts st H4 h1 h2 h3 h4 s4 hltn=>?_⟩
    have hf:=hfree q n ⟨r,hqr,hn1⟩ hn2;have Di:Done rows gs line dep i:=fun j x hj=>Dn j x (Nat.lt_trans hj (zsv.mp hq).1)
    exact h lt ts st q (some n) H4 h1 h2 (Ay B Di hq hno hf h3 h4) (s3.trans s4) (s3.free hltn)
 ·obtain⟨⟨u,v',rfl⟩,rfl,hno⟩:=hP
  have hpos:0<line.length:=List.length_pos_of_mem B.memp;refine⟨_,rfl,⟨_,rfl,t,into,line.map fun q:Nat=>(q:Int),rfl,.inr ⟨o,e0⟩,by rw[io.keys,zua];rfl,by rw[zst];exact hpos,fun M hM hmax=>?_⟩⟩
  obtain⟨e,he,rfl⟩:=zs2.mp hM;refine⟨t,e,p,none,rows,gs,into,line,dep,fr,rfl,.inr ⟨o,e0⟩,io3,fo,B.d0,B.memp,he,hdep e he,fun lt ts st H4 h1 h2 h3 h4 s4 hltn=>?_⟩
  refine h lt ts st e none H4 h1 h2 (Az B Dn (fun q hq=>?_) (fun q hq=>?_) h3 h4) (s3.trans s4) (s3.free hltn)
  ·obtain⟨j,hj,e2⟩:=ztr hq
   exact hno j q (by omega) (by rw[zsu hj,e2])
  ·have:=hmax _ (zs2.mpr ⟨q,hq,rfl⟩)
   omega
abbrev Lh:Stmt:=top 47
theorem Rv:Zl ["given","steps","behind","place","number"] ["given","steps"] (Zj Lh):=fnS
theorem zan(F:Fun K "stepped" "stepped" Lh f fd)(T:Tx K mg a):FnOk P w K mg base (CX1 P w) 1 f fd ["given","steps"] (S6 K):=by
 refine F.okX Rv (by walk_at "ar") fun _ _ _ _ H _ Q E hr h=>?_
 obtain⟨b,c,xs,ts,st,rfl,hb,hc,ht,hst,ho,hl,hls,h⟩:=h;refine⟨_,(Zb (pS 2 Rv.nd (Ys (Yv (K:=K) rfl) (by rfl) T.zlk PyProof.Rows.boot_list (Za (pv 0) Zd)))
 (Zb (Y5 PassesOwn.leaving rfl (Ye (K:=K) rfl (pv 1)) (Wu (K:=K) (n:=2) rfl rfl (Z0 (pN 3 Rv.nd) (Z0 (pN 4 Rv.nd) Ws)))
  (Ze (Qg (pv 4) (Aa (pv 2) (pv 3) Jr))))
 (Ze (Zm (pv 2))))),?_⟩
 have htl:ts.length=st.length:=by have:=ht.length;rw[zst] at this;exact this
 refine⟨_,rfl,b,_,rfl,.inl (SqL.of hb),fun l hln=>?_⟩
 let jv5:Nat->L2.St->Hp->Prop:=fun i σ' H'=>(∃ u v,σ'=[some (.ref b),some (.ref c),some (.ref l),u,v])/\H' l=some (.lst (Yf (st.take i) xs))/\(∀ a o,H a=some o->H' a=some o)
 refine⟨_,rfl,c,rfl,⟨ts,SqL.of (Zf hln _ _ hc)⟩,Wa (xs:=ts) jv5 ⟨⟨none,none,rfl⟩,Zc,Zf hln⟩ (fun i σ' H' hi p=>SqL.of (p.2.2 _ _ hc)) (fun i x σ' H' hx p=>?_) (fun σ' H' p=>?_)⟩
 ·obtain⟨⟨u,v,rfl⟩,hl2,hs⟩:=p
  have hi:i<st.length:=by rw[<- htl];exact(zsv.mp hx).1
  obtain⟨t,e1,e2⟩:=zba ht (zsu hi);rw[hx] at e1
  cases e1;refine⟨t,_,rfl,SqT.of (hs _ _ e2),rfl,_,_,rfl,_,_,rfl,rfl,?_⟩;have hlen:(Yf (st.take i) xs).length=xs.length:=Xy _ _;have hp:(st[i]'hi).1<xs.length:=hst _ (ztp hi);have e3:Yf (st.take (i+1)) xs=(Yf (st.take i) xs).set (st[i]'hi).1 (oV (st[i]'hi).2):=by
   rw[ztl hi,Mv];rfl
  refine⟨_,rfl,_,rfl,_,rfl,l,_,_,(st[i]'hi).1,rfl,rfl,hl2,(show ixN _ (((st[i]'hi).1:Nat):Int)=some _ by unfold ixN;rw[if_pos (by omega),if_pos (by omega),zta]),⟨_,_,rfl⟩,?_,fun a o q=>?_⟩
  ·rw[e3];exact Zc
  ·rw[Zi (Zh q hln)];exact hs a o q
 ·obtain⟨⟨u,v,rfl⟩,hl2,hs⟩:=p
  rw[htl,zte] at hl2
  exact⟨_,rfl,h l H' hl2 hs hln⟩
abbrev zao:Stmt:=top 49
theorem Ji:Zl ["may","given","place"] ["may"] (Zj zao):=fnS
theorem zgr(F:Fun K "fill" "fill" zao f fd)(T:Tx K mg a)(zms:Z1 P w K mg base "stepped" 1 ["given","steps"] (S6 K))(zor:Z1 P w K mg base "chain" 2 ["may","given","place"] (E4 K)):FnOk P w K mg base (CX1 P w) 3 f fd ["may"] (zec K):=by
 refine F.okX Ji (by walk_at "ar") fun _ _ _ _ H _ Q E hr h=>?_
 obtain⟨l,ls,rows,nu,rfl,hl,il,mo,h⟩:=h;refine⟨_,(Zb (T8 (i:=1) Ji.nd rfl rfl rfl (cT [] []) (Ye (K:=K) rfl (pv 0)) (fun _ _ _ _ _=>U7) (fun _ _ _ _ _=>Yl))
 (Zb (Y5 PassesOwn.leaving rfl (Xk rfl T.zlj (Za (Zo (cL K) (by rfl) T.zku PySem.boot_len (Za (pv 0) Zd)) Zd)) (pN 2 Ji.nd)
  (Ze (pS 1 Ji.nd (pF zms hr (Za (pv 1) (Za (pF zor hr (Za (pv 0) (Za (pv 1) (Za (pv 2) Zd)))) Zd))))))
 (Ze (Zm (pv 1))))),?_⟩
 have hlen:=il.length;have hrl:rows.length<=100:=ztb mo.few (by decide)
 refine⟨_,rfl,l,rfl,⟨_,SqL.of hl⟩,?_⟩;refine Wn (K:=K) (a:=l) (xs:=ls.map V.ref) (fun i ys H'=>H'=H/\ys=(rows.take i).map fun _=>V.non) ⟨rfl,by simp⟩ (fun i ys H' _ z=>by rw[z.1];exact SqL.of hl) (szN (by rw[zst];omega)) (fun i ys H' z=>by rw[z.2,zst,zuy];omega) ?_ ?_
 ·rintro i x ys H' hx ⟨rfl,rfl⟩
  have hi:i<rows.length:=by
   have:=(zsv.mp hx).1;rw[zst] at this;omega
  unfold tYes;dsimp only;rw[if_pos rfl];refine⟨rfl,?_⟩;rw[ztl hi,zs1];rfl
 ·rintro ys H' ⟨rfl,rfl⟩ lg hlg
  rw[zst,hlen,zte];have s1:=Zf (o:=.lst (rows.map fun _=>V.non)) hlg
  have e1:upd H' lg (.lst (rows.map fun _=>V.non)) lg=some (.lst (rows.map fun _=>V.non)):=Zc
  generalize upd H' lg (.lst (rows.map fun _=>V.non))=H1 at s1 e1
  refine⟨_,rfl,l,_,rfl,.inl (SqL.of (s1 _ _ hl)),_,rfl,by omega,by rw[zst];omega,?_⟩
  rw[zst,hlen,zta]
  let jv6:Nat->L2.St->Hp->Prop:=fun i σ' Hx=>∃ (lg:Addr) (gs:List V) (v2:Option V),σ'=[some (.ref l),some (.ref lg),v2]/\Same H' Hx/\Hx lg=some (.lst gs)/\U8 rows gs i/\H' lg=none
  refine Xu jv6 ⟨lg,_,_,rfl,s1,e1,Gj rows,hlg⟩ ?_ ?_
  ·rintro i σ' Hx hi ⟨lg,gs,v2,rfl,sx,hgx,F,hn⟩
   rw[zub];refine⟨_,rfl,⟨_,rfl,_,rfl,_,rfl,l,lg,ls,rows,nu,gs,i,rfl,sx _ _ hl,il.same sx,mo,hgx,F.fill,hi,F.non (zs3 _) hi,fun lt ts st e w H2 h1 h2 c s2 hltn=>?_⟩⟩
   refine⟨lg,lt,gs,ts,st,rfl,s2 _ _ hgx,h1,h2,fun s hs=>?_,F.fill.one,by rw[F.fill.len];omega,?_,fun l' H3 h3 s3 hl'=>?_⟩
   ·rw[F.fill.len];exact c.ch.lt F.fill hi s hs
   ·have:=c.len F.fill hi;omega
   ·exact⟨l',_,_,rfl,(sx.trans s2).trans s3,h3,F.step hi c,(sx.trans s2).free hl'⟩
  ·rintro σ' Hx ⟨lg,gs,v2,rfl,sx,hgx,F,hn⟩
   exact⟨_,rfl,h lg gs Hx hgx F.fill F.last sx hn⟩
abbrev O8:Stmt:=top 50
theorem Bz:Zl ["given","number"] ["given","number"] (Zj O8):=fnS
theorem B0(F:Fun K "place_of" "place_of" O8 f fd)(T:Tx K mg a):FnOk P w K mg base (CX1 P w) 1 f fd ["given","number"] (Fy K):=by
 refine F.okX Bz (by walk_at "ar") fun _ _ _ _ H _ Q E hr h=>?_
 obtain⟨b,xs,n,rfl,hb,ho,hl,h⟩:=h;refine⟨_,(Ze (Zm (D4 (Zn (Oo (K:=K) rfl) (pv 1) (pv 0) (by with_unfolding_all rfl)) (zdz PySem.F.plainAttrs_list PySem.F.slot_list_index PySem.F.type_list_index Jy (pv 0) (Za (pv 1) Zd)) Yl))),?_⟩
 have fl:xs.all U6=true:=zuf.mpr fun x hx=>by rcases ho x hx with rfl|⟨_,rfl⟩<;>rfl
 refine⟨_,rfl,_,rfl,b,xs,rfl,.inl (SqL.of hb),rfl,fl,_,rfl,?_⟩;have key:=@S7 xs n ho;show if inV (V.int n) xs=true then _ else _
 cases hp:X1 xs n with
 | none =>
   rw[hp] at h
   have hno:¬ inV (V.int n) xs=true:=fun z=>by
    obtain⟨j,hj⟩:=key.mp z;have:=List.find?_eq_none.mp hp j (zt1.mpr (zsv.mp hj).1);exact this (zsy hj)
   rw[if_neg hno];exact h H (Same.refl H)
 | some j =>
   rw[hp] at h
   obtain⟨h1,h2,h3⟩:=List.find?_range_eq_some.mp hp;have hj:xs[j]?=some (.int n):=of_decide_eq_true h1;rw[if_pos (key.mpr ⟨j,hj⟩)];refine⟨_,rfl,?_,_,rfl,b,xs,.int n,j,rfl,rfl,hb,rfl,fl,⟨_,hj,(Rl (.inr ⟨_,rfl⟩)).mpr rfl⟩,fun m z hm hz=>?_,h H (Same.refl H)⟩
   ·exact .inl ⟨rfl,xs,SqL.of hb⟩
   ·have:=h3 m hm
    have hne:¬ z=.int n:=fun q=>by
     rw[q] at hz
     rw[zsy hz] at this
     cases this
    cases hb2:eqV z (.int n) with
    | false=>rfl
    | true=>exact absurd ((Rl (ho z (zs5 hz))).mp hb2) hne
abbrev Ui:Stmt:=Z7 (top 52) 0
theorem N6:Zl ["self","listed","lists","given","gaps"] ["self","listed","lists","given","gaps"] (Zj Ui):=fnS
theorem N7(F:Fun K "__init__" "Sheet.__init__" Ui f fd)(T:Tx K mg a):FnOk P w K mg base (CX1 P w) 1 f fd ["self","listed","lists","given","gaps"] (N3 (ca a)):=by
 refine F.okX N6 (by walk_at "ar") fun _ _ _ _ H _ Q E hr h=>?_
 obtain⟨q,dx,l1,l2,l3,l4,rfl,hq,h⟩:=h;refine⟨_,(Zb (Xb (K:=K) rfl (pv 0) (pv 1) rfl)
 (Zb (Xb (K:=K) rfl (pv 0) (pv 2) rfl)
 (Zb (Xb (K:=K) rfl (pv 0) (pv 3) rfl)
 (Ze (Xb (K:=K) rfl (pv 0) (pv 4) rfl))))),?_⟩
 refine⟨_,rfl,_,rfl,q,a.zks,dx,[],rfl,hq,T.zk2,T.zmm,(by decide),?_⟩
 refine⟨_,rfl,_,rfl,q,a.zks,dx,[("listed",.ref l1)],rfl,Zc,T.zk2,T.zo6,(by show 1<1000;decide),?_⟩
 rw[zke];refine⟨_,rfl,_,rfl,q,a.zks,dx,_,rfl,Zc,T.zk2,T.zmx,(by show 2<1000;decide),?_⟩
 rw[zkf];refine⟨_,rfl,_,rfl,q,a.zks,dx,_,rfl,Zc,T.zk2,T.zon,(by show 3<1000;decide),?_⟩
 rw[zkg];refine h _ ?_;rw[Jb,Jb,Jb];rfl
abbrev Tq:Stmt:=Z7 (top 52) 1
theorem Ky:Zl ["self","lists"] ["self","lists"] (Zj Tq):=fnS
theorem Kz(F:Fun K "barred" "Sheet.barred" Tq f fd)(T:Tx K mg a)(zm9:Se P w K mg base "Sheet" a.zks 1 ["self","listed","lists","given","gaps"] (N3 (ca a))):FnOk P w K mg base (CX1 P w) 3 f fd ["self","lists"] (C7 (ca a)):=by
 refine F.okX Ky (by walk_at "ar") fun _ _ _ _ H _ Q E hr h=>?_
 obtain⟨ok,q,l2,ls,rows,s,rfl,SA,hl2,il,ok2,okl,no,h⟩:=h;refine⟨_,(Ze (Zm (Ex zm9 (hr.mono (by decide)) Zk rfl (Za (Zt (K:=K) rfl (pv 0) rfl) (Za (pv 1) (Za (Zt (K:=K) rfl (pv 0) rfl) (Za (Zt (K:=K) rfl (pv 0) rfl) Zd))))))),?_⟩
 obtain⟨dx,m1,m2,m3,m4,ts,ms,gts,a1,a2,a3,a4,a5,a6,a7,a8,o1,o2,o3,o4,o5,o6⟩:=id SA;refine⟨_,rfl,q,a.zks,dx,_,_,rfl,a1,T.zk2,T.zmm,Pk,_,rfl,_,rfl,q,a.zks,dx,_,_,rfl,a1,T.zk2,T.zmx,Qt,_,rfl,q,a.zks,dx,_,_,rfl,a1,T.zk2,T.zon,E5,?_⟩;intro q' dx' hq' hdx' ne;refine⟨q',dx',m1,l2,m3,m4,rfl,Zc,fun H' e=>⟨rfl,?_⟩⟩
 obtain⟨s1,q1⟩:=Ow (C:=a.zks) (l1:=m1) (l2:=l2) (l3:=m3) (l4:=m4) hq' hdx' ne;rw[<- e] at s1 q1
 exact h q' H' ⟨dx',m1,l2,m3,m4,ts,ls,gts,q1,s1 _ _ a2,a3.same s1,s1 _ _ hl2,il.same s1,s1 _ _ a6,s1 _ _ a7,a8.keep (fun _ _ _ z=>s1 _ _ z) (fun _ _ z=>s1 _ _ z),no _ hq',o2,ok2,o4,o5,okl⟩ s1 hq'
abbrev Vi:Stmt:=Z7 (top 52) 2
theorem X6:Zl ["self","number","lists","place","gap","steps"] ["self","number","lists"] (Zj Vi):=fnS
theorem Py(F:Fun K "fallen_out" "Sheet.fallen_out" Vi f fd)(T:Tx K mg a)(zlx:Zw P w K mg base a.zks "where" 2 ["self","number"] (Mx (ca a)))(zms:Z1 P w K mg base "stepped" 1 ["given","steps"] (S6 K))(zor:Z1 P w K mg base "chain" 2 ["may","given","place"] (E4 K))(zm9:Se P w K mg base "Sheet" a.zks 1 ["self","listed","lists","given","gaps"] (N3 (ca a))):FnOk P w K mg base (CX1 P w) 3 f fd ["self","number","lists"] (C8 (ca a)):=by
 refine F.okX X6 (by walk_at "ar") fun _ _ _ _ H _ Q E hr h=>?_
 obtain⟨ok,q,l2,ls,rows,nu,s,n,p,rfl,SA,hl2,il,ok2,okl,no,mo,ho,hgp,hun,FP,hgz,h⟩:=h;refine⟨_,(Zb (pS 3 X6.nd (Xx (pv 0) T.zk2 zlx (hr.mono (by decide)) Zk (Za (pv 1) Zd)))
 (Zb (pS 4 X6.nd (pF zms hr (Za (Zt (K:=K) rfl (pv 0) rfl) (Za (Z5 (Za (Ya (Za (pv 3) (Za Yl Zd))) Zd)) Zd))))
 (Zb (pS 5 X6.nd (pF zor hr (Za (pv 2) (Za (pv 4) (Za (pv 3) Zd)))))
 (Ze (Zm (Ex zm9 (hr.mono (by decide)) Zk rfl (Za (Zt (K:=K) rfl (pv 0) rfl) (Za (pv 2) (Za (pF zms hr (Za (pv 4) (Za (pv 5) Zd))) (Za (Zs Ml (Zt (K:=K) rfl (pv 0) rfl) (Z5 (Za (Ya (Za (pv 1) (Za (pv 5) Zd))) Zd))) Zd)))))))))),?_⟩
 obtain⟨dx,m1,m2,m3,m4,ts,ms,gts,a1,a2,a3,a4,a5,a6,a7,a8,o1,o2,o3,o4,o5,o6⟩:=id SA;have hrl:rows.length<=100:=ztb mo.few (by decide)
 have hgl:s.gv.length<=100:=by have:=FP.len;rw[zuk] at this;omega
 have hpl:p<s.gv.length:=(zsv.mp hgp).1;have hpr:p<rows.length:=by have:=FP.len;rw[zuk] at this;omega
 have hplace:X1 s.gv n=some p:=by
  unfold X1;rw[List.find?_eq_some_iff_getElem];refine⟨zsy hgp,p,by rw[zt3];exact hpl,by rw[List.getElem_range],fun j hj=>?_⟩
  rw[List.getElem_range,Bool.not_eq_true',decide_eq_false_iff_not];exact fun z=>absurd (hun j z) (by omega)
 refine⟨_,rfl,q,dx,_,rfl,a1,Sf (by decide +kernel) (by decide +kernel) (by decide +kernel) (by decide +kernel),_,rfl,ok,q,s,n,rfl,SA,ho,hgl,fun H1 s1=>?_⟩
 rw[hplace,show oN (some p)=V.int (p:Nat) from rfl]
 have SA1:=SA.same s1;refine⟨_,rfl,q,a.zks,dx,_,_,rfl,s1 _ _ a1,T.zk2,T.zmx,Qt,_,rfl,sz2,fun t1 ht1=>⟨sz1,fun lx hlx=>?_⟩⟩
 have s2:=Zf (o:=.tup [.int (p:Nat),.non]) ht1;have q2:upd H1 t1 (.tup [.int (p:Nat),.non]) t1=some (.tup (We (p,none))):=Zc;generalize upd H1 t1 (.tup [.int (p:Nat),.non])=H2 at s2 q2 hlx
 have s3:=Zf (o:=.lst [V.ref t1]) hlx;have q3:upd H2 lx (.lst [V.ref t1]) lx=some (.lst [V.ref t1]):=Zc;have q23:=s3 _ _ q2;generalize upd H2 lx (.lst [V.ref t1])=H3 at s3 q3 q23
 have s13:=s1.trans (s2.trans s3);refine⟨m3,lx,s.gv,[V.ref t1],[(p,none)],rfl,s13 _ _ a6,q3,.cons q23 .nil,fun st hst=>by rw[zsx.mp hst];exact hpl,ho,hgl,by show 1<=100;decide,fun lg H4 hg4 s4 f4=>?_⟩
 have s14:=s13.trans s4;have hg4:H4 lg=some (.lst (s.gv.set p .non)):=hg4;refine⟨_,rfl,_,rfl,_,rfl,l2,lg,ls,rows,nu,s.gv.set p .non,p,rfl,s14 _ _ hl2,il.same s14,mo,hg4,FP,hpr,by rw[ztz hpl],fun lt us st e w H5 hlt tl CR s5 f5=>?_⟩
 have s15:=s14.trans s5;have hst100:st.length<=100:=ztb (CR.len FP hpr) hrl;refine⟨_,rfl,q,a.zks,dx,_,_,rfl,s15 _ _ a1,T.zk2,T.zmm,Pk,_,rfl,_,rfl,_,rfl,lg,lt,s.gv.set p .non,us,st,rfl,s5 _ _ hg4,hlt,tl,fun x hx=>?_,FP.one,by rw[FP.len];exact hrl,hst100,fun l3 H6 h6 s6 f6=>?_⟩
 ·rw[FP.len];exact CR.ch.lt FP hpr x hx
 have s16:=s15.trans s6;refine⟨_,rfl,q,a.zks,dx,_,_,rfl,s16 _ _ a1,T.zk2,T.zon,E5,_,rfl,_,rfl,sz2,fun t2 ht2=>⟨sz1,fun ly hly=>?_⟩⟩
 have s7:=Zf (o:=.tup [.int n,.ref lt]) ht2;have q7:upd H6 t2 (.tup [.int n,.ref lt]) t2=some (.tup [.int n,.ref lt]):=Zc;generalize upd H6 t2 (.tup [.int n,.ref lt])=H7 at s7 q7 hly
 have s8:=Zf (o:=.lst [V.ref t2]) hly;have q8:upd H7 ly (.lst [V.ref t2]) ly=some (.lst [V.ref t2]):=Zc;have q78:=s8 _ _ q7;generalize upd H7 ly (.lst [V.ref t2])=H8 at s8 q8 q78
 have s18:=s16.trans (s7.trans s8);refine⟨m4,ly,gts,[V.ref t2],rfl,rfl,s18 _ _ a7,q8,by have:=a8.length;show gts.length+1<=sizeLine;have:=Tg;omega,fun l4 hl4=>?_⟩
 have s9:=Zf (o:=.lst (gts++[V.ref t2])) hl4;have q9:upd H8 l4 (.lst (gts++[V.ref t2])) l4=some (.lst (gts++[V.ref t2])):=Zc;generalize upd H8 l4 (.lst (gts++[V.ref t2]))=H9 at s9 q9
 have s19:=s18.trans s9;intro q' dx' hq' hdx' ne;refine⟨q',dx',m1,l2,l3,l4,rfl,Zc,fun H' e'=>⟨rfl,?_⟩⟩
 obtain⟨s10,q10⟩:=Ow (C:=a.zks) (l1:=m1) (l2:=l2) (l3:=l3) (l4:=l4) hq' hdx' ne;rw[<- e'] at s10 q10
 have s:=s19.trans s10;have s6x:=s7.trans (s8.trans (s9.trans s10));have s5x:=s6.trans s6x;refine h q' st e w H' ⟨dx',m1,l2,l3,l4,ts,ls,gts++[V.ref t2],q10,s _ _ a2,a3.same s,s _ _ hl2,il.same s,s6x _ _ h6,s10 _ _ q9,?_,no _ (s19.free hq'),o2,ok2,no _ (s15.free f6),no _ (s18.free hl4),okl⟩ CR s (s19.free hq');exact(a8.keep (fun _ _ _ z=>s _ _ z) (fun _ _ z=>s _ _ z)).snoc ((s9.trans s10) _ _ q78) (s5x _ _ hlt) (tl.same s5x) (no _ (s14.free f5))
abbrev U2:Stmt:=Z7 (top 52) 3
theorem Li:Zl ["self"] ["self"] (Zj U2):=fnS
theorem Lj(F:Fun K "matches" "Sheet.matches" U2 f fd)(T:Tx K mg a):FnOk P w K mg base (CX1 P w) 1 f fd ["self"] (Kb (ca a)):=by
 refine F.okX Li (by walk_at "ar") fun _ _ _ _ H _ Q E hr h=>?_
 obtain⟨ok,q,s,rfl,SA,h⟩:=h;refine⟨_,(Ze (Zm (Ys (Yv (K:=K) rfl) (by rfl) T.zlk PyProof.Rows.boot_list (Za (Zt (K:=K) rfl (pv 0) rfl) Zd)))),?_⟩
 obtain⟨dx,m1,m2,m3,m4,ts,ms,gts,a1,a2,a3,a4,a5,a6,a7,a8,o1,o2,o3,o4,o5,o6⟩:=id SA;refine⟨_,rfl,q,a.zks,dx,_,_,rfl,a1,T.zk2,T.zmm,Pk,m1,_,rfl,.inl (SqL.of a2),fun l hl=>?_⟩
 exact h l ts _ Zc (a3.same (Zf hl)) (Zf hl) hl
abbrev Rw:Stmt:=Z7 (top 52) 7
theorem Gx:Zl ["self"] ["self"] (Zj Rw):=fnS
theorem Gy(F:Fun K "goes" "Sheet.goes" Rw f fd)(T:Tx K mg a):FnOk P w K mg base (CX1 P w) 1 f fd ["self"] (J1 (ca a)):=by
 refine F.okX Gx (by walk_at "ar") fun _ _ _ _ H _ Q E hr h=>?_
 obtain⟨ok,q,s,rfl,SA,h⟩:=h;refine⟨_,(Ze (Zm (Ys (Yv (K:=K) rfl) (by rfl) T.zlk PyProof.Rows.boot_list (Za (Zt (K:=K) rfl (pv 0) rfl) Zd)))),?_⟩
 obtain⟨dx,m1,m2,m3,m4,ts,ms,gts,a1,a2,a3,a4,a5,a6,a7,a8,o1,o2,o3,o4,o5,o6⟩:=id SA;refine⟨_,rfl,q,a.zks,dx,_,_,rfl,a1,T.zk2,T.zmx,Qt,m3,_,rfl,.inl (SqL.of a6),fun l hl=>?_⟩
 exact h l _ Zc (Zf hl) hl
abbrev Sl:Stmt:=Z7 (top 52) 8
theorem Iy:Zl ["self","number"] ["self","number"] (Zj Sl):=fnS
theorem Iz(F:Fun K "where" "Sheet.where" Sl f fd)(T:Tx K mg a)(zov:Z1 P w K mg base "place_of" 1 ["given","number"] (Fy K)):FnOk P w K mg base (CX1 P w) 2 f fd ["self","number"] (Mx (ca a)):=by
 refine F.okX Iy (by walk_at "ar") fun _ _ _ _ H _ Q E hr h=>?_
 obtain⟨ok,q,s,n,rfl,SA,ho,hgl,h⟩:=h;refine⟨_,(Ze (Zm (pF zov hr (Za (Zt (K:=K) rfl (pv 0) rfl) (Za (pv 1) Zd))))),?_⟩;obtain⟨dx,m1,m2,m3,m4,ts,ms,gts,a1,a2,a3,a4,a5,a6,a7,a8,o1,o2,o3,o4,o5,o6⟩:=id SA;exact⟨_,rfl,q,a.zks,dx,_,_,rfl,a1,T.zk2,T.zmx,Qt,_,rfl,m3,s.gv,n,rfl,a6,ho,hgl,fun H' s'=>h H' s'⟩
abbrev Tr:Stmt:=Z7 (top 52) 11
theorem K0:Zl ["self"] ["self"] (Zj Tr):=fnS
theorem K1(F:Fun K "chains" "Sheet.chains" Tr f fd)(T:Tx K mg a):FnOk P w K mg base (CX1 P w) 1 f fd ["self"] (Ox (ca a)):=by
 refine F.okX K0 (by walk_at "ar") fun _ _ _ _ H _ Q E hr h=>?_
 obtain⟨ok,q,s,rfl,SA,hgz,h⟩:=h;refine⟨_,(Ze (Zm (Cw rfl (L9.mk (xo:=["number","steps"]) (ys:=[]) (js:=[]) rfl rfl (by decide +kernel) (by decide +kernel) rfl (by repeat' (first|exact True.intro|apply And.intro|rfl)) (by repeat' (first|exact True.intro|apply And.intro|rfl)) (by decide +kernel)) (Ye (K:=K) rfl (Zt (K:=K) rfl (pv 0) rfl)) (fun _ _ _ _ _=>U7) (fun _ _ _ _ _=>(Wu (K:=K) (n:=2) rfl rfl (Z0 (Ri (i:=0) (show List.Nodup [("number":Str),("steps":Str)] by decide +kernel) rfl (by first|exact Or.inl rfl|exact Or.inr rfl)) (Z0 (Ri (i:=1) (show List.Nodup [("number":Str),("steps":Str)] by decide +kernel) rfl (by first|exact Or.inl rfl|exact Or.inr rfl)) Ws)))) (fun _ _ _ _ _=>(Ya (Za (pv 0) (Za (Ys (Yv (K:=K) rfl) (by rfl) T.zlk PyProof.Rows.boot_list (Za (pv 1) Zd)) Zd))))))),?_⟩
 obtain⟨dx,m1,m2,m3,m4,ts,ms,gts,a1,a2,a3,a4,a5,a6,a7,a8,o1,o2,o3,o4,o5,o6⟩:=id SA;have hgts:=a8.length;refine⟨_,rfl,q,a.zks,dx,_,_,rfl,a1,T.zk2,T.zon,E5,m4,rfl,⟨_,SqL.of a7⟩,?_⟩;refine A8 (K:=K) (xs:=gts) (fun i ys H'=>Same H H'/\X4 (fun x=>H x=none) H' ys (s.gaps.take i)/\ys.length=i) ⟨Same.refl _,.nil,rfl⟩ (fun i ys H' _ ⟨s',_⟩=>SqL.of (s' _ _ a7)) (szN (by omega)) (fun i ys H' ⟨_,_,e⟩=>by omega) ?_ ?_
 ·rintro i x ys H' hx ⟨s1,gl,hyl⟩
  obtain⟨t,l,n,us,st,rfl,hgi,ht,hl,tl,_⟩:=a8.get hx;have ht1:=s1 _ _ ht;have hl1:=s1 _ _ hl;refine⟨t,_,rfl,SqT.of ht1,rfl,_,_,rfl,_,_,rfl,rfl,⟨[some (.int n),some (.ref l)],rfl,rfl⟩,?_⟩;unfold tYes;dsimp only;rw[if_pos rfl];refine⟨_,rfl,_,rfl,l,_,rfl,.inl (SqL.of hl1),fun l2 hl2=>?_⟩
  have s2:=Zf (o:=.lst us) hl2;have q2:upd H' l2 (.lst us) l2=some (.lst us):=Zc;have f2:H l2=none:=s1.free hl2;generalize upd H' l2 (.lst us)=H2 at s2 q2
  refine⟨sz2,fun t2 ht2=>?_⟩
  have s3:=Zf (o:=.tup [.int n,.ref l2]) ht2;have s23:=s2.trans s3;refine⟨s1.trans s23,?_,by rw[zsw,hyl];rfl⟩
  have e:s.gaps.take (i+1)=s.gaps.take i++[(n,st)]:=by rw[zt8,hgi];rfl
  rw[e];exact(gl.keep (fun _ _ _ z=>s23 _ _ z) (fun _ _ z=>s23 _ _ z)).snoc Zc (s3 _ _ q2) (tl.same (s1.trans s23)) f2
 ·rintro ys H' ⟨s1,gl,hyl⟩ l hl
  rw[hgts,zte] at gl
  refine h l ys _ Zc ?_ (s1.trans (Zf hl)) (s1.free hl);exact(gl.imp (ok':=fun x=>H x=none/\x≠l) fun x ⟨o,e⟩ z=>⟨z,Zh e hl⟩).keep (fun _ _ _ z=>Zf hl _ _ z) (fun _ _ z=>Zf hl _ _ z)
abbrev Rx:Stmt:=Z7 (top 52) 12
theorem Gz:Zl ["self"] ["self"] (Zj Rx):=fnS
theorem G1(F:Fun K "rows" "Sheet.rows" Rx f fd)(T:Tx K mg a):FnOk P w K mg base (CX1 P w) 1 f fd ["self"] (Ba (ca a)):=by
 refine F.okX Gz (by walk_at "ar") fun _ _ _ _ H _ Q E hr h=>?_
 obtain⟨ok,q,s,rfl,SA,ho,hgl,hml,h⟩:=h;refine⟨_,(Ze (Zm (Cw rfl (L9.mk (xo:=["match","number"]) (ys:=[]) (js:=[]) rfl rfl (by decide +kernel) (by decide +kernel) rfl (by repeat' (first|exact True.intro|apply And.intro|rfl)) (by repeat' (first|exact True.intro|apply And.intro|rfl)) (by decide +kernel)) (zh9 (K:=K) rfl rfl T.zqj (Za (Zt (K:=K) rfl (pv 0) rfl) (Za (Zt (K:=K) rfl (pv 0) rfl) Zd))) (fun _ _ _ _ _=>U7) (fun _ _ _ _ _=>(Wu (K:=K) (n:=2) rfl rfl (Z0 (Ri (i:=0) (show List.Nodup [("match":Str),("number":Str)] by decide +kernel) rfl (by first|exact Or.inl rfl|exact Or.inr rfl)) (Z0 (Ri (i:=1) (show List.Nodup [("match":Str),("number":Str)] by decide +kernel) rfl (by first|exact Or.inl rfl|exact Or.inr rfl)) Ws)))) (fun _ _ _ _ _=>(Zs (C5 (K:=K) rfl) (pv 0) (Ya (Za (pv 1) Zd))))))),?_⟩
 obtain⟨dx,m1,m2,m3,m4,ts,ms,gts,a1,a2,a3,a4,a5,a6,a7,a8,o1,o2,o3,o4,o5,o6⟩:=id SA;have hts:ts.length=s.ms.length:=by rw[a3.length,zst]
 refine⟨_,rfl,q,a.zks,dx,_,_,rfl,a1,T.zk2,T.zmm,Pk,_,rfl,q,a.zks,dx,_,_,rfl,a1,T.zk2,T.zmx,Qt,m1,m3,rfl,⟨_,SqL.of a2⟩,⟨_,SqL.of a6⟩,?_⟩;refine zcr (K:=K) (xs:=ts) (zs:=s.gv) (fun i ys H'=>Same H H'/\Z9 H' ys (((Yb s).take i).map E1)/\ys.length=i) ⟨Same.refl _,.nil,rfl⟩ (by omega) (fun i ys H' _ ⟨s',_⟩=>⟨SqL.of (s' _ _ a2),SqL.of (s' _ _ a6)⟩) (szN (by omega)) (fun i ys H' ⟨_,_,e⟩=>by omega) ?_ ?_
 ·rintro i x z t ys H' hx hz ⟨s1,tl,hyl⟩ ht
  obtain⟨tm,m,rfl,hm,htm⟩:=Jx a3 hx;have oz:=ho z (zs5 hz);have s2:=s1.trans (Zf (o:=.tup [.ref tm,z]) ht);have tl2:=tl.same (Zf (o:=.tup [.ref tm,z]) ht);have q2:upd H' t (.tup [.ref tm,z]) t=some (.tup [.ref tm,z]):=Zc;generalize upd H' t (.tup [.ref tm,z])=H2 at s2 tl2 q2
  refine⟨t,_,rfl,SqT.of q2,rfl,_,_,rfl,_,_,rfl,rfl,⟨[some (.ref tm),some z],rfl,rfl⟩,?_⟩;unfold tYes;dsimp only;rw[if_pos rfl];refine⟨_,rfl,_,rfl,sz1,fun t1 ht1=>?_⟩
  have s3:=Zf (o:=.tup [z]) ht1;have q3:upd H2 t1 (.tup [z]) t1=some (.tup [z]):=Zc;generalize upd H2 t1 (.tup [z])=H3 at s3 q3
  refine⟨tm,t1,_,_,rfl,rfl,SqT.of ((s2.trans s3) _ _ htm),SqT.of q3,by unfold pV;simp,by show 3+1<=sizeLine;exact sz4,fun z=>absurd z (by simp),fun _ t2 ht2=>?_⟩
  have s4:=Zf (o:=.tup (pV m++[z])) ht2;refine⟨s2.trans (s3.trans s4),?_,by rw[zsw,hyl];rfl⟩
  rw[zcs hm hz,zs1];refine((tl2.same s3).same s4).snoc ?_;rw[Zc,zif m oz];rfl
 ·rintro ys H' ⟨s1,tl,hyl⟩ l hl
  rw[hts,<- Bb hgl,zte] at tl
  exact h l ys _ Zc (tl.same (Zf hl)) (s1.trans (Zf hl)) (s1.free hl)
abbrev Sm:Stmt:=top 53
theorem I9:Zl ["listed","lists"] ["listed","lists"] (Zj Sm):=fnS
theorem He(F:Fun K "drawn_sheet" "drawn_sheet" Sm f fd)(T:Tx K mg a)(zm9:Se P w K mg base "Sheet" a.zks 1 ["self","listed","lists","given","gaps"] (N3 (ca a)))(zqn:Z1 P w K mg base "fill" 3 ["may"] (zec K)):FnOk P w K mg base (CX1 P w) 4 f fd ["listed","lists"] (zbh (ca a)):=by
 refine F.okX I9 (by walk_at "ar") fun _ _ _ _ H _ Q E hr h=>?_
 obtain⟨ok,l1,l2,ts,ls,ms,rows,nu,rfl,hl1,tl,hl2,il,ok1,ok2,okl,no,mo,h⟩:=h;refine⟨_,(Ze (Zm (Ex zm9 (hr.mono (by decide)) Zk rfl (Za (pv 0) (Za (pv 1) (Za (pF zqn hr (Za (pv 1) Zd)) (Za (Z5 Zd) Zd))))))),?_⟩
 refine⟨_,rfl,_,rfl,_,rfl,l2,ls,rows,nu,rfl,hl2,il,mo,fun l3 gv H1 h3 FP SP s1 f3=>?_⟩
 refine⟨by show 0<=sizeLine;decide,fun l4 hl4=>?_⟩
 have s2:=Zf (o:=.lst []) hl4;have q2:upd H1 l4 (.lst []) l4=some (.lst []):=Zc;generalize upd H1 l4 (.lst [])=H2 at s2 q2
 have s12:=s1.trans s2;intro q dx hq hdx ne;refine⟨q,dx,l1,l2,l3,l4,rfl,Zc,fun H' e=>⟨rfl,?_⟩⟩
 obtain⟨s3,q3⟩:=Ow (C:=a.zks) (l1:=l1) (l2:=l2) (l3:=l3) (l4:=l4) hq hdx ne;rw[<- e] at s3 q3
 have s:=s12.trans s3;exact h q gv H' ⟨dx,l1,l2,l3,l4,ts,ls,[],q3,s _ _ hl1,tl.same s,s _ _ hl2,il.same s,s3 _ _ (s2 _ _ h3),s3 _ _ q2,.nil,no _ (s12.free hq),ok1,ok2,no _ f3,no _ (s1.free hl4),okl⟩ FP SP s (s12.free hq)
abbrev Vz:Stmt:=Z7 (top 55) 0
theorem O9:Zl ["self","rounds","rest"] ["self","rounds","rest"] (Zj Vz):=fnS
theorem Na(F:Fun K "__init__" "Season.__init__" Vz f fd)(T:Tx K mg a)(zkw:Z1 P w K mg base "check_range" 1 ["value","least","most"] (N2 a.zk7))(zp8:Se P w K mg base "Roster" a.zkr 1 ["self"] (zbf (ca a)))(zqe:Se P w K mg base "Ledger" a.zkq 1 ["self"] (za9 a.zkq)):FnOk P w K mg base (CX1 P w) 3 f fd ["self","rounds","rest"] (zbi (ca a)):=by
 refine F.okX O9 (by walk_at "ar") fun _ _ _ _ H _ Q E hr h=>?_
 obtain⟨p,dx,r,q,rfl,hp,sr,sq,h⟩:=h;refine⟨_,(Zb (Z8 (pF zkw hr (Za (pv 1) (Za Zg (Za (Wt rfl T.zmb) Zd)))))
 (Zb (Z8 (pF zkw hr (Za (pv 2) (Za Zg (Za (Wt rfl T.zm0) Zd)))))
 (Zb (Xb (K:=K) rfl (pv 0) (pv 1) rfl)
 (Zb (Xb (K:=K) rfl (pv 0) (pv 2) rfl)
 (Zb (Xb (K:=K) rfl (pv 0) (za5 zp8 (hr.mono (by decide)) Zk rfl) rfl)
 (Zb (Xb (K:=K) rfl (pv 0) (za5 zqe (hr.mono (by decide)) Zk rfl) rfl)
 (Zb (Xb (K:=K) rfl (pv 0) Jp rfl)
 (Zb (Xb (K:=K) rfl (pv 0) (Z5 Zd) rfl)
 (Zb (Xb (K:=K) rfl (pv 0) Yl rfl)
 (Ze (Xb (K:=K) rfl (pv 0) (Z5 Zd) rfl))))))))))),?_⟩
 show let y1:TS:=_;let y2:TS:=Zx _ y1;let y3:TS:=Zx _ y2;let y4:TS:=Zx _ y3;let y5:TS:=Zx _ y4;let y6:TS:=Zx _ y5;let y7:TS:=Zx _ y6;let y8:TS:=Zx _ y7;let y9:TS:=Zx _ y8;Zx _ y9 _ _ _;intro y1 y2 y3 y4 y5 y6 y7 y8 y9;refine⟨_,rfl,r,0,60,rfl,sr,Yg (by decide),Yg (by decide),?_⟩
 refine it2 h (fun _ z=>z) fun h1 h=>?_
 refine⟨_,rfl,q,0,10,rfl,sq,Yg (by decide),Yg (by decide),?_⟩
 refine it2 h (fun _ z=>z) fun h2 hF=>?_
 have er:r=((r.toNat:Nat):Int):=by omega
 have eq':q=((q.toNat:Nat):Int):=by omega
 generalize r.toNat=rn at hF er
 generalize q.toNat=qn at hF eq'
 subst er eq';refine⟨_,rfl,_,rfl,p,a.zkn,dx,_,rfl,hp,T.zko,T.znm,(by show 0<1000;decide),?_⟩
 rw[pF1];refine⟨_,rfl,_,rfl,p,a.zkn,dx,_,rfl,Zc,T.zko,T.zpm,(by show 1<1000;decide),?_⟩
 rw[pF2,Jb];have b1:Vv p H (upd H p (.ins a.zkn dx (sF2 (.int rn) (.int qn)))):=.put;have q1:upd H p (.ins a.zkn dx (sF2 (.int rn) (.int qn))) p=some (.ins a.zkn dx (sF2 (.int rn) (.int qn))):=Zc;generalize upd H p (.ins a.zkn dx (sF2 (.int rn) (.int qn)))=H1 at b1 q1
 intro pr dxr hpr hdxr ne;refine⟨pr,dxr,rfl,Zc,fun dr hdr=>⟨rfl,?_⟩⟩
 have ndp:dr≠pr:=fun z=>by rw[z,Zc] at hdr;cases hdr
 have ndx:dr≠dxr:=fun z=>by rw[z,Zi ne,Zc] at hdr;cases hdr
 have hdr1:H1 dr=none:=by rw[Zi ndp,Zi ndx] at hdr;exact hdr
 have s2:Same H1 (upd (upd (upd (upd H1 dxr (.own pr)) pr (.ins a.zkr dxr [])) dr (.dK [])) pr (.ins a.zkr dxr [("entries",.ref dr)])):=fun b o e=>by
  rw[Zi (Zh e hpr),Zi (Zh e hdr1),Zi (Zh e hpr),Zi (Zh e hdxr)];exact e
 have R2:Xo a.zkr (upd (upd (upd (upd H1 dxr (.own pr)) pr (.ins a.zkr dxr [])) dr (.dK [])) pr (.ins a.zkr dxr [("entries",.ref dr)])) pr dr []:=⟨⟨dxr,[],Zc,by rw[Zi ndp,Zc],.nil⟩,List.nodup_nil⟩
 generalize upd (upd (upd (upd H1 dxr (.own pr)) pr (.ins a.zkr dxr [])) dr (.dK [])) pr (.ins a.zkr dxr [("entries",.ref dr)])=H2 at s2 R2
 refine⟨_,rfl,p,a.zkn,dx,_,rfl,s2 _ _ q1,T.zko,T.zlw,(by show 2<1000;decide),?_⟩
 rw[pF3];have np2:pr≠p/\dr≠p:=⟨Ne.symm (Zh q1 hpr),Ne.symm (Zh q1 hdr1)⟩;have b3:Vv p H (upd H2 p (.ins a.zkn dx (sF3 (.int rn) (.int qn) (.ref pr)))):=b1.trans ((Vv.of s2).trans .put);have q3:upd H2 p (.ins a.zkn dx (sF3 (.int rn) (.int qn) (.ref pr))) p=some (.ins a.zkn dx (sF3 (.int rn) (.int qn) (.ref pr))):=Zc;have kt3:∀ t xs,H2 t=some (.tup xs)->upd H2 p (.ins a.zkn dx (sF3 (.int rn) (.int qn) (.ref pr))) t=some (.tup xs):=fun t xs e=>by rw[Zi (Yx e (s2 _ _ q1) (fun z=>nomatch z))];exact e
 have R3:=R2.keep (H':=upd H2 p (.ins a.zkn dx (sF3 (.int rn) (.int qn) (.ref pr)))) (fun o e=>by rw[Zi np2.1];exact e) (fun o e=>by rw[Zi np2.2];exact e) kt3
 have fdr:H dr=none:=Vv.free b1 ⟨_,q1⟩ hdr1;have hr2:H2 dr=some (.dK [])/\∃ o,H2 pr=some o:=by
  obtain⟨⟨x,kv,z1,z2,z3⟩,_⟩:=R2;cases z3;exact⟨z2,_,z1⟩
 generalize upd H2 p (.ins a.zkn dx (sF3 (.int rn) (.int qn) (.ref pr)))=H3 at b3 q3 R3
 intro pl dxl hpl hdxl nel;refine⟨pl,dxl,rfl,Zc,fun lr ld H4 L0 k0 f0 g0 n0=>⟨rfl,?_⟩⟩
 obtain⟨s4,fr0,fd0⟩:=zea hpl hdxl nel k0 f0 g0;refine⟨_,rfl,p,a.zkn,dx,_,rfl,s4 _ _ q3,T.zko,T.zl1,(by show 3<1000;decide),?_⟩
 rw[pF4];have q4:=s4 _ _ q3;have np4:pl≠p/\lr≠p/\ld≠p:=⟨Ne.symm (Zh q3 hpl),Ne.symm (Zh q3 fr0),Ne.symm (Zh q3 fd0)⟩;have b5:Vv p H (upd H4 p (.ins a.zkn dx (sF4 (.int rn) (.int qn) (.ref pr) (.ref pl)))):=b3.trans ((Vv.of s4).trans .put);have q5:upd H4 p (.ins a.zkn dx (sF4 (.int rn) (.int qn) (.ref pr) (.ref pl))) p=some (.ins a.zkn dx (sF4 (.int rn) (.int qn) (.ref pr) (.ref pl))):=Zc;have kt5:∀ t xs,H4 t=some (.tup xs)->upd H4 p (.ins a.zkn dx (sF4 (.int rn) (.int qn) (.ref pr) (.ref pl))) t=some (.tup xs):=fun t xs e=>by rw[Zi (Yx e q4 (fun z=>nomatch z))];exact e
 have R5:=(R3.same s4).keep (H':=upd H4 p (.ins a.zkn dx (sF4 (.int rn) (.int qn) (.ref pr) (.ref pl)))) (fun o e=>by rw[Zi np2.1];exact e) (fun o e=>by rw[Zi np2.2];exact e) kt5
 have L5:=L0.keep (H':=upd H4 p (.ins a.zkn dx (sF4 (.int rn) (.int qn) (.ref pr) (.ref pl)))) (fun o e=>by rw[Zi np4.1];exact e) (fun o e=>by rw[Zi np4.2.1];exact e) (fun o e=>by rw[Zi np4.2.2];exact e) kt5
 have flr:H lr=none:=Vv.free b3 ⟨_,q3⟩ fr0;have fld:H ld=none:=Vv.free b3 ⟨_,q3⟩ fd0;have nrp:pr≠pl/\dr≠pl/\pr≠lr/\dr≠lr/\pr≠ld/\dr≠ld:=by
  obtain⟨⟨x,kv,z1,z2,_⟩,_⟩:=R3;exact⟨Zh z1 hpl,Zh z2 hpl,Zh z1 fr0,Zh z2 fr0,Zh z1 fd0,Zh z2 fd0⟩
 generalize upd H4 p (.ins a.zkn dx (sF4 (.int rn) (.int qn) (.ref pr) (.ref pl)))=H5 at b5 q5 R5 L5
 intro da hda;have npa:da≠p:=Ne.symm (Zh q5 hda);refine⟨_,rfl,p,a.zkn,dx,_,rfl,Zf (o:=.dT []) hda _ _ q5,T.zko,T.zml,(by show 4<1000;decide),?_⟩
 rw[pF5];have b7:Vv p H5 (upd (upd H5 da (.dT [])) p (.ins a.zkn dx (sF5 (.int rn) (.int qn) (.ref pr) (.ref pl) (.ref da)))):=(Vv.of (Zf hda)).trans .put;have q7:upd (upd H5 da (.dT [])) p (.ins a.zkn dx (sF5 (.int rn) (.int qn) (.ref pr) (.ref pl) (.ref da))) p=some (.ins a.zkn dx (sF5 (.int rn) (.int qn) (.ref pr) (.ref pl) (.ref da))):=Zc;have d7:upd (upd H5 da (.dT [])) p (.ins a.zkn dx (sF5 (.int rn) (.int qn) (.ref pr) (.ref pl) (.ref da))) da=some (.dT []):=by rw[Zi npa,Zc]
 generalize upd (upd H5 da (.dT [])) p (.ins a.zkn dx (sF5 (.int rn) (.int qn) (.ref pr) (.ref pl) (.ref da)))=H7 at b7 q7 d7
 refine⟨by show 0<=sizeLine;decide,fun ls hls=>?_⟩
 have nps:ls≠p:=Ne.symm (Zh q7 hls);refine⟨_,rfl,p,a.zkn,dx,_,rfl,Zf (o:=.lst []) hls _ _ q7,T.zko,T.znp,(by show 5<1000;decide),?_⟩
 rw[pF6];have b9:Vv p H7 (upd (upd H7 ls (.lst [])) p (.ins a.zkn dx (sF6 (.int rn) (.int qn) (.ref pr) (.ref pl) (.ref da) (.ref ls)))):=(Vv.of (Zf hls)).trans .put;have q9:upd (upd H7 ls (.lst [])) p (.ins a.zkn dx (sF6 (.int rn) (.int qn) (.ref pr) (.ref pl) (.ref da) (.ref ls))) p=some (.ins a.zkn dx (sF6 (.int rn) (.int qn) (.ref pr) (.ref pl) (.ref da) (.ref ls))):=Zc;have l9:upd (upd H7 ls (.lst [])) p (.ins a.zkn dx (sF6 (.int rn) (.int qn) (.ref pr) (.ref pl) (.ref da) (.ref ls))) ls=some (.lst []):=by rw[Zi nps,Zc]
 generalize upd (upd H7 ls (.lst [])) p (.ins a.zkn dx (sF6 (.int rn) (.int qn) (.ref pr) (.ref pl) (.ref da) (.ref ls)))=H9 at b9 q9 l9
 refine⟨_,rfl,p,a.zkn,dx,_,rfl,q9,T.zko,T.zlc,(by show 6<1000;decide),?_⟩
 rw[pF7];have b10:Vv p H9 (upd H9 p (.ins a.zkn dx (sF7 (.int rn) (.int qn) (.ref pr) (.ref pl) (.ref da) (.ref ls) .non))):=.put;have q10:upd H9 p (.ins a.zkn dx (sF7 (.int rn) (.int qn) (.ref pr) (.ref pl) (.ref da) (.ref ls) .non)) p=some (.ins a.zkn dx (sF7 (.int rn) (.int qn) (.ref pr) (.ref pl) (.ref da) (.ref ls) .non)):=Zc;generalize upd H9 p (.ins a.zkn dx (sF7 (.int rn) (.int qn) (.ref pr) (.ref pl) (.ref da) (.ref ls) .non))=H10 at b10 q10
 refine⟨by show 0<=sizeLine;decide,fun lt hlt=>?_⟩
 have npt:lt≠p:=Ne.symm (Zh q10 hlt);refine⟨_,rfl,p,a.zkn,dx,_,rfl,Zf (o:=.lst []) hlt _ _ q10,T.zko,T.zln,(by show 7<1000;decide),?_⟩
 rw[pF8];have b12:Vv p H10 (upd (upd H10 lt (.lst [])) p (.ins a.zkn dx (sF8 (.int rn) (.int qn) (.ref pr) (.ref pl) (.ref da) (.ref ls) .non (.ref lt)))):=(Vv.of (Zf hlt)).trans .put;have q12:upd (upd H10 lt (.lst [])) p (.ins a.zkn dx (sF8 (.int rn) (.int qn) (.ref pr) (.ref pl) (.ref da) (.ref ls) .non (.ref lt))) p=some (.ins a.zkn dx (sF8 (.int rn) (.int qn) (.ref pr) (.ref pl) (.ref da) (.ref ls) .non (.ref lt))):=Zc;have l12:upd (upd H10 lt (.lst [])) p (.ins a.zkn dx (sF8 (.int rn) (.int qn) (.ref pr) (.ref pl) (.ref da) (.ref ls) .non (.ref lt))) lt=some (.lst []):=by rw[Zi npt,Zc]
 generalize upd (upd H10 lt (.lst [])) p (.ins a.zkn dx (sF8 (.int rn) (.int qn) (.ref pr) (.ref pl) (.ref da) (.ref ls) .non (.ref lt)))=H12 at b12 q12 l12
 have b912:=b10.trans b12;have b712:=b9.trans b912;have b512:=b7.trans b712;have bb:=b5.trans b512;have kt:∀ t xs,H5 t=some (.tup xs)->H12 t=some (.tup xs):=fun t xs e=>b512 t _ e (Yx e q5 (fun z=>nomatch z))
 have R12:=R5.keep (fun o e=>b512 _ o e np2.1) (fun o e=>b512 _ o e np2.2) kt
 have L12:=L5.keep (fun o e=>b512 _ o e np4.1) (fun o e=>b512 _ o e np4.2.1) (fun o e=>b512 _ o e np4.2.2) kt
 have d12:=b712 _ _ d7 npa;have l912:=b912 _ _ l9 nps;have fda:H da=none:=Vv.free b5 ⟨_,q5⟩ hda;have fls:H ls=none:=Vv.free (b5.trans b7) ⟨_,q7⟩ hls;have flt:H lt=none:=Vv.free (b5.trans (b7.trans (b9.trans b10))) ⟨_,q10⟩ hlt;have ex5:(∃ o,H5 pr=some o)/\(∃ o,H5 dr=some o)/\(∃ o,H5 pl=some o)/\(∃ o,H5 lr=some o)/\(∃ o,H5 ld=some o):=by
  obtain⟨⟨x,kv,z1,z2,_⟩,_⟩:=id R5;obtain⟨⟨y,w1⟩,⟨rs,w2,_⟩,⟨ks,w3,_⟩⟩:=id L5;exact⟨⟨_,z1⟩,⟨_,z2⟩,⟨_,w1⟩,⟨_,w2⟩,⟨_,w3⟩⟩
 have n5:∀ {x y:Addr},(∃ o,H5 x=some o)->H5 y=none->x≠y:=fun ⟨o,e⟩ hy=>Zh e hy
 have fls5:H5 ls=none:=Vv.free b7 ⟨_,q7⟩ hls;have flt5:H5 lt=none:=Vv.free (b7.trans (b9.trans b10)) ⟨_,q10⟩ hlt;have ndas:da≠ls:=Zh d7 hls;have ndat:da≠lt:=Zh (b10 _ _ (b9 _ _ d7 npa) npa) hlt;have nst:ls≠lt:=Zh (b10 _ _ l9 nps) hlt;obtain⟨e1,e2,e3,e4,e5⟩:=ex5;have nrl:lr≠ld:=n0;refine hF ⟨p,pr,dr,pl,lr,ld,da,ls,lt⟩ H12 rfl ⟨⟨dx,.non,q12,rfl⟩,R12,L12,⟨[],d12,fun i n=>rfl,zs3 _⟩,⟨[],l912,.nil⟩,⟨[],l12,.nil⟩,?_,?_⟩ bb ?_
 ·show [p,dr,lr,ld,da,ls,lt].Nodup
  simp only[ztn,zsz,zt2,or_false,not_or];exact⟨⟨Ne.symm np2.2,Ne.symm np4.2.1,Ne.symm np4.2.2,Ne.symm npa,Ne.symm nps,Ne.symm npt⟩,⟨nrp.2.2.2.1,nrp.2.2.2.2.2,n5 e2 hda,n5 e2 fls5,n5 e2 flt5⟩,⟨nrl,n5 e4 hda,n5 e4 fls5,n5 e4 flt5⟩,⟨n5 e5 hda,n5 e5 fls5,n5 e5 flt5⟩,⟨ndas,ndat⟩,nst,by simp,List.nodup_nil⟩
 ·have hpr5:∃ x fs,H5 pr=some (.ins a.zkr x fs):=by obtain⟨⟨x,kv,z1,_⟩,_⟩:=R5;exact⟨_,_,z1⟩
  have hdr5:∃ kv,H5 dr=some (.dK kv):=by obtain⟨⟨x,kv,_,z2,_⟩,_⟩:=R5;exact⟨_,z2⟩
  have hpl5:∃ x fs,H5 pl=some (.ins a.zkq x fs):=by obtain⟨⟨y,w1⟩,_⟩:=L5;exact⟨_,_,w1⟩
  obtain⟨x1,y1,z1⟩:=hpr5;obtain⟨y2,z2⟩:=hdr5;obtain⟨x3,y3,z3⟩:=hpl5;obtain⟨_,⟨rs,w2,_⟩,⟨ks,w3,_⟩⟩:=id L5;have nm:∀ m,m∈([p,dr,lr,ld,da,ls,lt]:List Addr)↔m=p\/m=dr\/m=lr\/m=ld\/m=da\/m=ls\/m=lt:=fun m=>by simp
  refine⟨fun hm=>?_,fun hm=>?_⟩
  ·rcases(nm _).mp hm with q|q|q|q|q|q|q
   ·exact np2.1 q
   ·exact Yx z1 z2 (fun z=>nomatch z) q
   ·exact nrp.2.2.1 q
   ·exact nrp.2.2.2.2.1 q
   ·exact n5 e1 hda q
   ·exact n5 e1 fls5 q
   ·exact n5 e1 flt5 q
  ·rcases(nm _).mp hm with q|q|q|q|q|q|q
   ·exact np4.1 q
   ·exact nrp.2.1 q.symm
   ·exact Yx z3 w2 (fun z=>nomatch z) q
   ·exact Yx z3 w3 (fun z=>nomatch z) q
   ·exact n5 e3 hda q
   ·exact n5 e3 fls5 q
   ·exact n5 e3 flt5 q
 ·intro x hx hxp
  simp only[SAd.fp,zsz,zt2,or_false] at hx
  rcases hx with q|q|q|q|q|q|q
  ·exact absurd q hxp
  ·rw[q];exact fdr
  ·rw[q];exact flr
  ·rw[q];exact fld
  ·rw[q];exact fda
  ·rw[q];exact fls
  ·rw[q];exact flt
abbrev Wf:Stmt:=Z7 (top 55) 1
theorem Sn:Zl ["self"] ["self"] (Zj Wf):=fnS
theorem So(F:Fun K "check_not_over" "Season.check_not_over" Wf f fd)(T:Tx K mg a)(zkp:Zw P w K mg base a.zkn "at_hand" 2 ["self"] (Uu (ca a))):FnOk P w K mg base (CX1 P w) 3 f fd ["self"] (My (ca a)):=by
 refine F.okX Sn (by walk_at "ar") fun _ _ _ _ H _ Q E hr h=>?_
 obtain⟨A',S,rfl,SA,h⟩:=h;refine⟨_,(Ze (Zz (Zn Sy (Yr (pv 0) T.zko zkp (hr.mono (by decide)) Zk) (Zt (K:=K) rfl (pv 0) rfl) (Zr _))
  (Ze (Xn Xm rfl T.zqh rfl (Za Zq Zd)))
  Zp)),?_⟩
 obtain⟨⟨dx,v,a1,a2⟩,b,c,_⟩:=id SA;refine⟨_,rfl,A'.p,dx,_,rfl,a1,Yi (by decide +kernel),A',S,rfl,SA,_,rfl,A'.p,a.zkn,dx,_,_,rfl,a1,T.zko,T.znm,Eb,_,_,rfl,rfl,_,rfl,?_⟩
 refine itD (fun hc=>?_) (fun hc=>?_)
 ·rw[if_pos (by unfold atV at hc;omega)] at h
  exact⟨sz1,h⟩
 ·rw[if_neg (by unfold atV at hc;omega)] at h
  exact h
abbrev Wh:Stmt:=Z7 (top 55) 2
theorem Rb:Zl ["self"] ["self"] (Zj Wh):=fnS
theorem Rc(F:Fun K "check_undrawn" "Season.check_undrawn" Wh f fd)(T:Tx K mg a)(zkz:Zw P w K mg base a.zkn "check_not_over" 3 ["self"] (My (ca a))):FnOk P w K mg base (CX1 P w) 4 f fd ["self"] (Mz (ca a)):=by
 refine F.okX Rb (by walk_at "ar") fun _ _ _ _ H _ Q E hr h=>?_
 obtain⟨A',S,rfl,SA,h⟩:=h;refine⟨_,(Zb (Z8 (Yr (pv 0) T.zko zkz (hr.mono (by decide)) Zk))
 (Ze (Zz (Zn W9 (Zt (K:=K) rfl (pv 0) rfl) Yl (Zr _))
  (Ze (Xn Xm rfl T.zqo rfl (Za Zq Zd)))
  Zp))),?_⟩
 obtain⟨⟨dx,v,a1,a2⟩,b,c,_⟩:=id SA;refine⟨_,rfl,A'.p,dx,_,rfl,a1,Yi (by decide +kernel),A',S,rfl,SA,?_⟩
 refine it2 h (fun _ z=>z) fun hn h=>?_
 refine⟨_,rfl,A'.p,a.zkn,dx,_,_,rfl,a1,T.zko,T.zlc,Wx,rfl,_,rfl,?_⟩;cases hc:S.cur with
 | none =>
   rw[hc] at a2 h
   have a2:v=.non:=a2;rw[a2];exact iteF h
 | some s =>
   rw[hc] at a2 h
   obtain⟨q,rfl,_⟩:=a2;exact iteT ⟨sz1,h⟩
abbrev W2:Stmt:=Z7 (top 55) 3
theorem Qd:Zl ["self","at"] ["self","at"] (Zj W2):=fnS
theorem Qe(F:Fun K "check_round" "Season.check_round" W2 f fd)(T:Tx K mg a):FnOk P w K mg base (CX1 P w) 1 f fd ["self","at"] (E6 (ca a)):=by
 refine F.okX Qd (by walk_at "ar") fun _ _ _ _ H _ Q E hr h=>?_
 obtain⟨A',S,i,rfl,SA,si,h⟩:=h;refine⟨_,(Ze (Zz (PW.pt (W4 (Zn zau (pv 1) Zg (Zr _)) (X9 (Zn Sy (pv 1) (Zt (K:=K) rfl (pv 0) rfl) (Zr _)))))
  (Ze (Xn Xm rfl T.zqf rfl (Za (Vr (Z2 (Vd (pv 1)) (Z2 (Wc (by decide +kernel)) Vq)) (by decide)) Zd)))
  Zp)),?_⟩
 obtain⟨⟨dx,v,a1,a2⟩,b,c,_⟩:=id SA;refine⟨_,rfl,_,_,rfl,rfl,_,rfl,?_⟩;refine itD (fun hc=>?_) (fun hc=>?_)
 ·rw[if_pos (.inl hc)] at h
  refine iteT ?_;exact⟨_,rfl,.inl ⟨_,rfl,si⟩,fun z=>⟨sz1,h⟩⟩
 refine⟨_,rfl,_,rfl,A'.p,a.zkn,dx,_,_,rfl,a1,T.zko,T.znm,Eb,_,_,rfl,rfl,_,rfl,?_⟩;refine itD (fun hc2=>?_) (fun hc2=>?_)
 ·rw[if_pos (.inr hc2)] at h
  exact⟨_,rfl,.inl ⟨_,rfl,si⟩,fun z=>⟨sz1,h⟩⟩
 ·rw[if_neg (fun z=>z.elim hc hc2)] at h
  exact h
abbrev W5:Stmt:=Z7 (top 55) 4
theorem Qy:Zl ["self"] ["self"] (Zj W5):=fnS
theorem Qz(F:Fun K "check_room" "Season.check_room" W5 f fd)(T:Tx K mg a):FnOk P w K mg base (CX1 P w) 1 f fd ["self"] (E7 (ca a)):=by
 refine F.okX Qy (by walk_at "ar") fun _ _ _ _ H _ Q E hr h=>?_
 obtain⟨A',S,rfl,SA,h⟩:=h;refine⟨_,(Ze (Zz (Zn zgu (Zo (cL K) (by rfl) T.zku PySem.boot_len (Za (Zt (K:=K) rfl (pv 0) rfl) Zd)) (Wt rfl T.zl7) (Zr _))
  (Ze (Xn Xm rfl T.zpz rfl (Za (Vr (Z2 (Vd (Wt rfl T.zl7)) (Z2 (Wc (by decide +kernel)) Vq)) (by decide)) Zd)))
  Zp)),?_⟩
 obtain⟨⟨dx,v,a1,a2⟩,b,c,d,f,⟨us,g1,g2⟩,nd,np⟩:=id SA;refine⟨_,rfl,A'.p,a.zkn,dx,_,_,rfl,a1,T.zko,T.zln,T6,A'.lt,_,rfl,.inl (SqL.of g1),_,_,rfl,rfl,_,rfl,?_⟩;rw[g2.length];refine itD (fun hc=>?_) (fun hc=>?_)
 ·rw[if_pos (by omega)] at h
  exact⟨.inl ⟨_,rfl,Yg (by decide)⟩,fun z=>⟨sz1,h⟩⟩
 ·rw[if_neg (by omega)] at h
  exact h
abbrev Sr:Stmt:=Z7 (top 55) 5
theorem Hf:Zl ["self","word","number","at"] ["self","word","number","at"] (Zj Sr):=fnS
theorem Hg(F:Fun K "note" "Season.note" Sr f fd)(T:Tx K mg a):FnOk P w K mg base (CX1 P w) 1 f fd ["self","word","number","at"] (E8 (ca a)):=by
 refine F.okX Hf (by walk_at "ar") fun _ _ _ _ H _ Q E hr h=>?_
 obtain⟨A',S,w',n,i,rfl,SA,hz,h⟩:=h;refine⟨_,(Ze (Yk (Zt (K:=K) rfl (pv 0) rfl) (Ya (Za (Ya (Za (pv 1) (Za (pv 2) (Za (pv 3) Zd)))) (Za (Zt (K:=K) rfl (pv 0) rfl) Zd))))),?_⟩;obtain⟨⟨dx,v,a1,a2⟩,b,c,⟨kvs,d1,d2⟩,⟨vs,f1,f2⟩,⟨us,g1,g2⟩,nd,np⟩:=id SA;refine⟨_,rfl,A'.p,a.zkn,dx,_,_,rfl,a1,T.zko,T.zln,T6,A'.lt,us,rfl,g1,?_⟩;refine⟨_,rfl,_,rfl,_,rfl,sz3,fun t1 ht1=>?_⟩
 have s1:=Zf (o:=.tup [.str w',.int n,.int i]) ht1;have q1:upd H t1 (.tup [.str w',.int n,.int i]) t1=some (.tup (Oa (w',n,i))):=Zc;generalize upd H t1 (.tup [.str w',.int n,.int i])=H1 at s1 q1
 refine⟨_,rfl,A'.p,a.zkn,dx,_,_,rfl,s1 _ _ a1,T.zko,T.zlc,Wx,sz2,fun t2 ht2=>?_⟩
 have s2:=Zf (o:=.tup [.ref t1,v]) ht2;have q2:upd H1 t2 (.tup [.ref t1,v]) t2=some (.tup [.ref t1,v]):=Zc;have q12:=s2 _ _ q1;have s12:=s1.trans s2;generalize upd H1 t2 (.tup [.ref t1,v])=H2 at s2 q2 q12 s12
 refine⟨us,s12 _ _ g1,by have:=g2.length;have:=Tg;omega,?_⟩
 have fr:FrS A' H (upd H2 A'.lt (.lst (us++[.ref t2]))):=fun b o e hb=>by
  rw[Zi (fun z=>hb (by rw[z];simp[SAd.fp]))];exact s12 _ _ e
 have kt:=SA.tups fr;have kp:∀ x o,x≠A'.lt->H x=some o->upd H2 A'.lt (.lst (us++[.ref t2])) x=some o:=fun x o hx e=>by rw[Zi hx];exact s12 _ _ e
 have kt2:∀ t xs,H2 t=some (.tup xs)->upd H2 A'.lt (.lst (us++[.ref t2])) t=some (.tup xs):=fun t xs e=>by
  rw[Zi (Yx e (s12 _ _ g1) (fun z=>nomatch z))];exact e
 have ko:∀ x o,x∉A'.fp->H x=some o->upd H2 A'.lt (.lst (us++[.ref t2])) x=some o:=fun x o hx e=>fr x o e hx
 have nd':=nd;simp only[SAd.fp,ztn,zsz,zt2,or_false,not_or] at nd'
 obtain⟨⟨n1,n2,n3,n4,n5,n6⟩,⟨n7,n8,n9,n10,n11⟩,⟨n12,n13,n14,n15⟩,⟨n16,n17,n18⟩,⟨n19,n20⟩,n21,_⟩:=nd';have npt:A'.pr≠A'.lt/\A'.pl≠A'.lt:=⟨fun z=>np.1 (by rw[z];simp[SAd.fp]),fun z=>np.2 (by rw[z];simp[SAd.fp])⟩
 refine h _ ⟨⟨dx,v,kp _ _ n6 a1,a2.keep ko kt⟩,b.keep (fun o e=>kp _ o npt.1 e) (fun o e=>kp _ o n11 e) kt,c.keep (fun o e=>kp _ o npt.2 e) (fun o e=>kp _ o n15 e) (fun o e=>kp _ o n18 e) kt,⟨kvs,kp _ _ n20 d1,d2⟩,⟨vs,kp _ _ n21 f1,f2.keep ko kt⟩,⟨us++[.ref t2],Zc,?_⟩,nd,np⟩ fr
 exact(g2.keep ko kt).snoc (kt2 _ _ q2) (kt2 _ _ q12) (a2.keep ko kt)
abbrev Wi:Stmt:=Z7 (top 55) 6
theorem Rf:Zl ["self"] ["self"] (Zj Wi):=fnS
theorem Rg(F:Fun K "sheet_at_hand" "Season.sheet_at_hand" Wi f fd)(T:Tx K mg a):FnOk P w K mg base (CX1 P w) 1 f fd ["self"] (Oy (ca a)):=by
 refine F.okX Rf (by walk_at "ar") fun _ _ _ _ H _ Q E hr h=>?_
 obtain⟨A',S,rfl,SA,h1,h2⟩:=h;refine⟨_,(Zb (Zz (Zn Of (Zt (K:=K) rfl (pv 0) rfl) Yl (Zr _))
  (Ze (Xn Xm rfl T.zp9 rfl (Za Zq Zd)))
  Zp)
 (Ze (Zm (Zt (K:=K) rfl (pv 0) rfl)))),?_⟩
 obtain⟨⟨dx,v,a1,a2⟩,b,c,_⟩:=id SA;refine⟨_,rfl,A'.p,a.zkn,dx,_,_,rfl,a1,T.zko,T.zlc,Wx,rfl,_,rfl,?_⟩;cases hc:S.cur with
 | none =>
   rw[hc] at a2
   have a2:v=.non:=a2;rw[a2];exact iteT ⟨sz1,h1 hc⟩
 | some s =>
   rw[hc] at a2
   obtain⟨q,rfl,hs⟩:=a2;refine iteF ?_;exact⟨_,rfl,A'.p,a.zkn,dx,_,_,rfl,a1,T.zko,T.zlc,Wx,h2 s q hc hs⟩
abbrev V0:Stmt:=Z7 (top 55) 7
theorem Nb:Zl ["self","at"] ["self","at"] (Zj V0):=fnS
theorem Nd(F:Fun K "sheet_of" "Season.sheet_of" V0 f fd)(T:Tx K mg a)(zk5:Zw P w K mg base a.zkn "check_round" 1 ["self","at"] (E6 (ca a)))(zkt:Zw P w K mg base a.zkq "over" 1 ["self"] (Mp a.zkq))(zkp:Zw P w K mg base a.zkn "at_hand" 2 ["self"] (Uu (ca a)))(zk1:Zw P w K mg base a.zkn "sheet_at_hand" 1 ["self"] (Oy (ca a))):FnOk P w K mg base (CX1 P w) 3 f fd ["self","at"] (M0 (ca a)):=by
 refine F.okX Nb (by walk_at "ar") fun _ _ _ _ H _ Q E hr h=>?_
 obtain⟨A',S,i,rfl,SA,si,hol,h⟩:=h;refine⟨_,(Zb (Z8 (Xx (pv 0) T.zko zk5 (hr.mono (by decide)) Zk (Za (pv 1) Zd)))
 (Zb (Zz (Zn zgt (pv 1) (Yr (Zt (K:=K) rfl (pv 0) rfl) T.zli zkt (hr.mono (by decide)) Zk) (Zr _))
  (Ze (Zm (pI (iL K) (Zt (K:=K) rfl (pv 0) rfl) (Zs Oe (pv 1) Zg))))
  Zp)
 (Zb (Zz (Zn Sy (pv 1) (Yr (pv 0) T.zko zkp (hr.mono (by decide)) Zk) (Zr _))
  (Ze (Xn Xm rfl T.zp9 rfl (Za (Vr (Z2 (Wc (by decide +kernel)) (Z2 (Vd (pv 1)) (Z2 (Wc (by decide +kernel)) Vq))) (by decide)) Zd)))
  Zp)
 (Ze (Zm (Yr (pv 0) T.zko zk1 (hr.mono (by decide)) Zk)))))),?_⟩
 obtain⟨⟨dx,v,a1,a2⟩,b,c,d,⟨vs,f1,f2⟩,_⟩:=id SA;obtain⟨⟨dxl,hpl⟩,_⟩:=id c;refine⟨_,rfl,A'.p,dx,_,rfl,a1,Yi (by decide +kernel),_,rfl,A',S,i,rfl,SA,si,?_⟩
 refine it2 h (fun _ z=>z) fun hn h=>?_
 refine⟨_,rfl,_,rfl,A'.p,a.zkn,dx,_,_,rfl,a1,T.zko,T.zl1,Tb,A'.pl,dxl,_,rfl,hpl,Jw (by decide +kernel) (by decide +kernel),A'.pl,A'.lr,A'.ld,S.led,rfl,c,_,_,rfl,rfl,_,rfl,?_⟩
 refine itD (fun hc=>?_) (fun hc=>?_)
 ·have hk:(i-1).toNat<S.old.length:=by omega
  have hs:Vt S i=some (S.old[(i-1).toNat]'hk):=by unfold Vt;rw[if_pos hc];exact zsu hk
  obtain⟨q,e1,e2⟩:=f2.getR (zsu hk);exact⟨_,rfl,A'.p,a.zkn,dx,_,_,rfl,a1,T.zko,T.znp,Ec,_,rfl,_,_,rfl,rfl,A'.ls,_,_,_,rfl,rfl,SqL.of f1,(show atI vs (i-1)=some (.ref q) by rw[show i-1=(((i-1).toNat:Nat):Int) by omega];exact Z4 e1),h.2 _ q hs e2⟩
 ·refine Zu ?_
  refine⟨_,rfl,_,rfl,A'.p,dx,_,rfl,a1,Yi (by decide +kernel),A',S,rfl,SA,_,_,rfl,rfl,_,rfl,?_⟩
  refine itD (fun hc2=>?_) (fun hc2=>?_)
  ·exact⟨_,rfl,.inl ⟨_,rfl,si⟩,fun z=>⟨sz1,h.1 (by unfold Vt;rw[if_neg hc,if_pos (by unfold atV at hc2;omega)])⟩⟩
  ·have hs:Vt S i=S.cur:=by unfold Vt;rw[if_neg hc,if_neg (by unfold atV at hc2;omega)]
   exact⟨_,rfl,A'.p,dx,_,rfl,a1,Yi (by decide +kernel),A',S,rfl,SA,fun hz=>h.1 (by rw[hs];exact hz),fun s q hz hq=>h.2 s q (by rw[hs];exact hz) hq⟩
abbrev Vj:Stmt:=Z7 (top 55) 8
theorem X7:Zl ["self","listed","people","at","out"] ["self","listed"] (Zj Vj):=fnS
theorem P4(F:Fun K "takers_of" "Season.takers_of" Vj f fd)(T:Tx K mg a)(zl6:Zw P w K mg base a.zkr "numbers" 1 ["self"] (J0 (ca a)))(zm5:Zw P w K mg base a.zkr "person" 3 ["self","number"] (C4 (ca a)))(zkp:Zw P w K mg base a.zkn "at_hand" 2 ["self"] (Uu (ca a)))(zp0:Z1 P w K mg base "takers" 4 ["people","match","out","ledger","rest"] (Cu K a.zkq)):FnOk P w K mg base (CX1 P w) 5 f fd ["self","listed"] (Oz (ca a)):=by
 refine F.okX X7 (by walk_at "ar") fun _ _ _ _ H _ Q E hr h=>?_
 obtain⟨A',S,l,ts,ms,rfl,SA,hl,tl,hml,hpl,hsm,h⟩:=h;have hu:=Wl hr;refine⟨_,(Zb (pS 2 X7.nd (Uv rfl (cT ["self"] [0]) (Ye (K:=K) rfl (Yr (Zt (K:=K) rfl (pv 0) rfl) T.zk8 zl6 (hr.mono (by decide)) Zk)) (fun _ _ _ _ _=>U7) (fun _ _ _ _ _=>(Xx (Zt (K:=K) rfl (pv 1) rfl) T.zk8 zm5 (hr.mono (by decide)) za3 (Za (pv 0) Zd)))))
 (Zb (pS 3 X7.nd (Yr (pv 0) T.zko zkp (hr.mono (by decide)) Zk))
 (Zb (pS 4 X7.nd (Uv rfl (cT ["at","self"] [3,0]) (Ye (K:=K) rfl (Yr (Zt (K:=K) rfl (pv 0) rfl) T.zk8 zl6 (hr.mono (by decide)) Zk)) (fun _ _ _ _ _=>Np (Td (Oi hu (Ya (Za (pv 1) (Za (pv 0) Zd))) (Zt (K:=K) rfl (pv 2) rfl)))) (fun _ _ _ _ _=>(pv 0))))
 (Ze (Zm (Uv rfl (cT ["people","out","self"] [2,4,0]) (Ye (K:=K) rfl (pv 1)) (fun _ _ _ _ _=>U7) (fun _ _ _ _ _=>(za4 zp0 (hr.mono (by decide)) za3 rfl (Za (pv 1) (Za (pv 0) (Za (pv 2) (Za (Zt (K:=K) rfl (pv 3) rfl) (Za (Zt (K:=K) rfl (pv 3) rfl) Zd))))))))))))),?_⟩
 obtain⟨⟨dx,v,a1,a2⟩,b,c,⟨kvs,d1,d2⟩,_⟩:=id SA;obtain⟨⟨dxr,kvr,hpr,hdr,en⟩,ndr⟩:=id b;refine⟨_,rfl,A'.p,a.zkn,dx,_,_,rfl,a1,T.zko,T.zlw,Uc,A'.pr,dxr,_,rfl,hpr,Xo.no (by decide +kernel),A'.pr,A'.dr,S.ppl,rfl,b,fun ln hln=>?_⟩
 have s1:=Zf (o:=.lst (S.ppl.map fun x=>V.int x.1)) hln
 have q1:upd H ln (.lst (S.ppl.map fun x=>V.int x.1)) ln=some (.lst (S.ppl.map fun x=>V.int x.1)):=Zc
 generalize upd H ln (.lst (S.ppl.map fun x=>V.int x.1))=H1 at s1 q1
 have hnl:(S.ppl.map fun x=>V.int x.1).length=S.ppl.length:=by rw[zst]
 refine⟨ln,rfl,⟨_,SqL.of q1⟩,Wn (K:=K) (xs:=S.ppl.map fun x=>V.int x.1) (fun i ys H'=>Same H H'/\Same H1 H'/\Z9 H' ys ((S.ppl.take i).map pV)/\ys.length=i) ⟨s1,Same.refl _,.nil,rfl⟩ (fun i ys H' _ ⟨_,z,_⟩=>SqL.of (z _ _ q1)) (szN (by omega)) (fun i ys H' ⟨_,_,_,e⟩=>by omega) ?_ ?_⟩
 ·rintro i x ys H' hx ⟨sh,s1',tl',hyl⟩
  have hi:i<S.ppl.length:=by have:=(zsv.mp hx).1;omega
  have hpi:S.ppl[i]?=some (S.ppl[i]'hi):=zsu hi;have etk:S.ppl.take (i+1)=S.ppl.take i++[S.ppl[i]'hi]:=ztl hi;have hmem:S.ppl[i]'hi∈S.ppl:=ztp hi;have ex:x=.int (S.ppl[i]'hi).1:=by rw[zs0,hpi] at hx;exact(Option.some.inj hx).symm
  generalize (S.ppl[i]'hi)=pp at hpi etk hmem ex
  subst ex;unfold tYes;dsimp only;rw[if_pos rfl];refine⟨_,rfl,A'.p,a.zkn,dx,_,_,rfl,sh _ _ a1,T.zko,T.zlw,Uc,A'.pr,dxr,_,rfl,sh _ _ hpr,Xo.no (by decide +kernel),_,rfl,A'.pr,A'.dr,S.ppl,pp.1,rfl,b.same sh,hsm pp hmem,fun z=>absurd (zs2.mpr ⟨pp,hmem,rfl⟩) z,fun g c' t H2 hm ht s2 _=>?_⟩
  have epp:=zge b.nd hm hmem rfl;rw[epp] at ht
  refine⟨sh.trans s2,s1'.trans s2,?_,by rw[zsw,hyl];rfl⟩
  rw[etk,zs1];exact(tl'.same s2).snoc ht
 rintro ys H2 ⟨sh2,s12,tl2,hyl⟩ lp hlp;rw[hnl,zte] at tl2
 have s3:=sh2.trans (Zf (o:=.lst ys) hlp);have q3:upd H2 lp (.lst ys) lp=some (.lst ys):=Zc;have tl3:=tl2.same (Zf (o:=.lst ys) hlp);generalize upd H2 lp (.lst ys)=H3 at s3 q3 tl3
 have SA3:=SA.same s3;refine⟨_,rfl,A'.p,dx,_,rfl,s3 _ _ a1,Yi (by decide +kernel),A',S,rfl,SA3,?_⟩
 refine⟨_,rfl,A'.p,a.zkn,dx,_,_,rfl,s3 _ _ a1,T.zko,T.zlw,Uc,A'.pr,dxr,_,rfl,s3 _ _ hpr,Xo.no (by decide +kernel),A'.pr,A'.dr,S.ppl,rfl,b.same s3,fun ln4 hln4=>?_⟩
 have s4:=Zf (o:=.lst (S.ppl.map fun x=>V.int x.1)) hln4
 have q4:upd H3 ln4 (.lst (S.ppl.map fun x=>V.int x.1)) ln4=some (.lst (S.ppl.map fun x=>V.int x.1)):=Zc
 generalize upd H3 ln4 (.lst (S.ppl.map fun x=>V.int x.1))=H4 at s4 q4
 refine⟨ln4,rfl,⟨_,SqL.of q4⟩,Wn (K:=K) (xs:=S.ppl.map fun x=>V.int x.1) (fun i ys H'=>Same H4 H'/\ys=((S.ppl.take i).filter (pIn S.out (atV S))).map fun x=>V.int x.1) ⟨Same.refl _,rfl⟩ (fun i ys H' _ ⟨z,_⟩=>SqL.of (z _ _ q4)) (szN (by omega)) (fun i ys H' ⟨_,e⟩=>by rw[e,zst];exact ztb (ztw _ _) (zt9 _ _)) ?_ ?_⟩
 ·rintro i x zs H' hx ⟨s4',rfl⟩
  have hi:i<S.ppl.length:=by have:=(zsv.mp hx).1;omega
  have hpi:S.ppl[i]?=some (S.ppl[i]'hi):=zsu hi;have etk:S.ppl.take (i+1)=S.ppl.take i++[S.ppl[i]'hi]:=ztl hi;have ex:x=.int (S.ppl[i]'hi).1:=by rw[zs0,hpi] at hx;exact(Option.some.inj hx).symm
  generalize (S.ppl[i]'hi)=pp at hpi etk ex
  subst ex;refine⟨_,rfl,_,rfl,sz2,fun t ht=>?_⟩
  have s5:=Zf (o:=.tup [.int (atV S),.int pp.1]) ht;have q5:upd H' t (.tup [.int (atV S),.int pp.1]) t=some (.tup (([Sum.inl (atV S),Sum.inl pp.1]:List Key).map kV)):=Zc;generalize upd H' t (.tup [.int (atV S),.int pp.1])=H5 at s5 q5
  have sh5:=s3.trans (s4.trans (s4'.trans s5));refine⟨_,rfl,A'.p,a.zkn,dx,_,_,rfl,sh5 _ _ a1,T.zko,T.zml,Pl,A'.da,_,rfl,DGet.t (k:=[Sum.inl (atV S),Sum.inl pp.1]) (sh5 _ _ d1) q5,_,rfl,?_⟩;rw[d2.isSome];have e2:∀ ws,((S.ppl.take (i+1)).filter (pIn S.out (atV S))).map (fun x=>V.int x.1)=((S.ppl.take i).filter (pIn S.out (atV S))).map (fun x=>V.int x.1)++ws↔ws=if pIn S.out (atV S) pp then [V.int pp.1] else []:=fun ws=>by
   rw[etk,zus,zs1,List.append_cancel_left_eq];cases q:pIn S.out (atV S) pp<;>simp[q,eq_comm]
  refine itB (fun hb=>?_) (fun hb=>?_)
  ·exact⟨_,rfl,s4'.trans s5,((e2 [V.int pp.1]).mpr (by rw[show pIn S.out (atV S) pp=true from hb];rfl)).symm⟩
  ·refine⟨s4'.trans s5,?_⟩
   have:=(e2 []).mpr (by rw[show pIn S.out (atV S) pp=false from hb];rfl)
   rw[zt4] at this
   exact this.symm
 rintro zs H5 ⟨s45,rfl⟩ lo hlo;rw[hnl,zte];have s6:=s45.trans (Zf (o:=.lst (outV S)) hlo);have q6:upd H5 lo (.lst (outV S)) lo=some (.lst (outV S)):=Zc;show Vn 4 (V.ref lo) _ (upd H5 lo (.lst (outV S))) _;generalize upd H5 lo (.lst (outV S))=H6 at s6 q6
 have s36:=s4.trans s6;have s06:=s3.trans s36;have hl6:=s06 _ _ hl;have hts:ts.length=ms.length:=by rw[tl.length,zst]
 refine⟨_,rfl,l,rfl,⟨_,SqL.of hl6⟩,Wn (K:=K) (xs:=ts) (fun i ys H'=>Same H6 H'/\∃ ls,ys=ls.map V.ref/\ILs H' ls ((mayS S ms).take i)/\ls.length=i/\∀ x∈ls,H x=none) ⟨Same.refl _,[],rfl,.nil,rfl,by simp⟩ (fun i ys H' _ ⟨z,_⟩=>SqL.of (z _ _ hl6)) (szN (by omega)) (fun i ys H' ⟨_,ls,e1,_,e2,_⟩=>by rw[e1,zst];omega) ?_ ?_⟩
 ·rintro i x ys' H' hx ⟨s6',ls,rfl,il,hll,hfr⟩
  obtain⟨tm,m,rfl,hm,htm⟩:=Jx tl hx;have s0:=s06.trans s6';unfold tYes;dsimp only;rw[if_pos rfl];refine⟨_,rfl,_,rfl,_,rfl,_,rfl,A'.p,a.zkn,dx,_,_,rfl,s0 _ _ a1,T.zko,T.zl1,Tb,_,rfl,A'.p,a.zkn,dx,_,_,rfl,s0 _ _ a1,T.zko,T.zpm,zgd,lp,lo,tm,A'.pl,A'.lr,A'.ld,S.led,ys,S.ppl,outV S,m.1,m.2.1,m.2.2,S.rest,rfl,(s36.trans s6') _ _ q3,tl3.same (s36.trans s6'),s6' _ _ q6,zes S,s0 _ _ htm,c.same s0,by omega,fun l2 H2 hl2 s2 f2=>?_⟩
  rw[zig] at hl2
  refine⟨s6'.trans s2,ls++[l2],by rw[zs1];rfl,?_,by rw[zsw,hll];rfl,fun y hy=>?_⟩
  ·have e:(mayS S ms).take (i+1)=(mayS S ms).take i++[Gk S m]:=by
    unfold mayS;rw[zt8,zs0,hm];rfl
   rw[e];exact(il.same s2).snoc hl2
  ·rcases zs6.mp hy with z|z
   ·exact hfr y z
   ·rw[zsx.mp z];exact s0.free f2
 ·rintro ys' H' ⟨s6',ls,rfl,il,hll,hfr⟩ l' hl'
  have hmy:(mayS S ms).length=ms.length:=by unfold mayS;rw[zst]
  rw[hts,<- hmy,zte] at il
  have s0:=s06.trans s6';exact h l' ls _ Zc (il.same (Zf hl')) (s0.trans (Zf hl')) (s0.free hl') hfr
abbrev Ts:Stmt:=Z7 (top 55) 9
theorem K2:Zl ["self","number","grade","club"] ["self","number","grade","club"] (Zj Ts):=fnS
theorem K3(F:Fun K "enrol" "Season.enrol" Ts f fd)(T:Tx K mg a)(zk0:Zw P w K mg base a.zkn "check_undrawn" 4 ["self"] (Mz (ca a)))(zk9:Zw P w K mg base a.zkr "check_new" 2 ["self","number","grade","club"] (Ov (ca a)))(zkv:Zw P w K mg base a.zkn "check_room" 1 ["self"] (E7 (ca a)))(zld:Zw P w K mg base a.zkn "note" 1 ["self","word","number","at"] (E8 (ca a)))(zkp:Zw P w K mg base a.zkn "at_hand" 2 ["self"] (Uu (ca a)))(zof:Zw P w K mg base a.zkr "add" 3 ["self","number","grade","club"] (zer (ca a))):FnOk P w K mg base (CX1 P w) 5 f fd ["self","number","grade","club"] (zbj (ca a)):=by
 refine F.okX K2 (by walk_at "ar") fun _ _ _ _ H _ Q E hr h=>?_
 obtain⟨A',S,n,g,c0,rfl,SA,sm,hz,hz2,h⟩:=h;refine⟨_,(Zb (Z8 (Yr (pv 0) T.zko zk0 (hr.mono (by decide)) Zk))
 (Zb (Z8 (Xx (Zt (K:=K) rfl (pv 0) rfl) T.zk8 zk9 (hr.mono (by decide)) Zk (Za (pv 1) (Za (pv 2) (Za (pv 3) Zd)))))
 (Zb (Z8 (Yr (pv 0) T.zko zkv (hr.mono (by decide)) Zk))
 (Zb (Z8 (Xx (pv 0) T.zko zld (hr.mono (by decide)) Zk (Za Zq (Za (pv 1) (Za (Yr (pv 0) T.zko zkp (hr.mono (by decide)) Zk) Zd)))))
 (Ze (Z8 (Xx (Zt (K:=K) rfl (pv 0) rfl) T.zk8 zof (hr.mono (by decide)) Zk (Za (pv 1) (Za (pv 2) (Za (pv 3) Zd)))))))))),?_⟩
 obtain⟨⟨dx,v,a1,a2⟩,b,c,_⟩:=id SA;obtain⟨⟨dxr,kvr,hpr,hdr,en⟩,ndr⟩:=id b;refine⟨_,rfl,A'.p,dx,_,rfl,a1,Yi (by decide +kernel),A',S,rfl,SA,?_⟩
 refine it2 h (fun _ z=>z) fun h1 h=>it2 h (fun _ z=>z) fun h2 h=>?_
 refine⟨_,rfl,A'.p,a.zkn,dx,_,_,rfl,a1,T.zko,T.zlw,Uc,A'.pr,dxr,_,rfl,hpr,Xo.no (by decide +kernel),_,rfl,_,rfl,_,rfl,A'.pr,A'.dr,S.ppl,n,g,c0,rfl,b,sm,?_⟩
 refine it2 h (fun _ z=>z) fun h3 h=>it2 h (fun _ z=>z) fun h4 h=>it2 h (fun _ z=>z) fun h5 h=>?_
 refine⟨_,rfl,A'.p,dx,_,rfl,a1,Yi (by decide +kernel),A',S,rfl,SA,?_⟩
 refine it2 h (fun _ z=>z) fun h6 h=>?_
 refine⟨_,rfl,A'.p,dx,_,rfl,a1,Yi (by decide +kernel),_,rfl,_,rfl,A'.p,dx,_,rfl,a1,Yi (by decide +kernel),A',S,rfl,SA,A',S,"enrol",n,atV S,rfl,SA,hz,fun H1 SA1 f1=>?_⟩
 obtain⟨⟨dx1,v1,a11,a12⟩,b1,c1,_⟩:=id SA1;obtain⟨⟨dxr1,kvr1,hpr1,hdr1,en1⟩,ndr1⟩:=id b1;refine⟨_,rfl,A'.p,a.zkn,dx1,_,_,rfl,a11,T.zko,T.zlw,Uc,A'.pr,dxr1,_,rfl,hpr1,Xo.no (by decide +kernel),_,rfl,_,rfl,_,rfl,A'.pr,A'.dr,S.ppl,n,g,c0,rfl,b1,sm,hz2,?_⟩
 rw[if_neg h3,if_neg h4,if_neg h5];intro H2 R2 k2;obtain⟨SA2,f2⟩:=SA1.setRos R2 k2;exact h H2 SA2 (f1.trans f2)
abbrev Uj:Stmt:=Z7 (top 55) 10
theorem T9:Zl ["self","matches","listed"] ["self","matches"] (Zj Uj):=fnS
theorem N8(F:Fun K "draw_up" "Season.draw_up" Uj f fd)(T:Tx K mg a)(zk0:Zw P w K mg base a.zkn "check_undrawn" 4 ["self"] (Mz (ca a)))(zpn:Z1 P w K mg base "checked" 3 ["matches"] (J2 K (ca a)))(zkv:Zw P w K mg base a.zkn "check_room" 1 ["self"] (E7 (ca a)))(zld:Zw P w K mg base a.zkn "note" 1 ["self","word","number","at"] (E8 (ca a)))(zkp:Zw P w K mg base a.zkn "at_hand" 2 ["self"] (Uu (ca a)))(zn1:Z1 P w K mg base "drawn_sheet" 4 ["listed","lists"] (zbh (ca a)))(zlb:Zw P w K mg base a.zkn "takers_of" 5 ["self","listed"] (Oz (ca a)))(zl4:Zw P w K mg base a.zks "goes" 1 ["self"] (J1 (ca a))):FnOk P w K mg base (CX1 P w) 6 f fd ["self","matches"] (Bf K (ca a)):=by
 refine F.okX T9 (by walk_at "ar") fun _ _ _ _ H _ Q E hr h=>?_
 obtain⟨A',S,b,ts,ms,rfl,SA,hs,tl,sm,hml,hz,po,h⟩:=h;refine⟨_,(Zb (Z8 (Yr (pv 0) T.zko zk0 (hr.mono (by decide)) Zk))
 (Zb (pS 2 T9.nd (pF zpn hr (Za (pv 1) Zd)))
 (Zb (Z8 (Yr (pv 0) T.zko zkv (hr.mono (by decide)) Zk))
 (Zb (Z8 (Xx (pv 0) T.zko zld (hr.mono (by decide)) Zk (Za Zq (Za (Zo (cL K) (by rfl) T.zku PySem.boot_len (Za (pv 2) Zd)) (Za (Yr (pv 0) T.zko zkp (hr.mono (by decide)) Zk) Zd)))))
 (Zb (Xb (K:=K) rfl (pv 0) (pF zn1 hr (Za (pv 2) (Za (Xx (pv 0) T.zko zlb (hr.mono (by decide)) Zk (Za (pv 2) Zd)) Zd))) rfl)
 (Ze (Zm (Yr (Zt (K:=K) rfl (pv 0) rfl) T.zk2 zl4 (hr.mono (by decide)) Zk)))))))),?_⟩
 obtain⟨⟨dx,v,a1,a2⟩,br,cl,_⟩:=id SA;have hts:ts.length=ms.length:=by rw[tl.length,zst]
 refine⟨_,rfl,A'.p,dx,_,rfl,a1,Yi (by decide +kernel),A',S,rfl,SA,?_⟩
 refine it2 h (fun _ z=>z) fun h1 h=>it2 h (fun _ z=>z) fun h2 h=>?_
 refine⟨_,rfl,b,ts,ms,rfl,hs,tl,sm,hml,h.1,h.2.1,h.2.2.1,fun g1 g2 g3 l1 hl1=>?_⟩
 have h4:=h.2.2.2 g1 g2 g3;have s1:=Zf (o:=.lst ts) hl1;have q1:upd H l1 (.lst ts) l1=some (.lst ts):=Zc;generalize upd H l1 (.lst ts)=H1 at s1 q1
 have SA1:=SA.same s1;have a11:=s1 _ _ a1;refine⟨_,rfl,A'.p,dx,_,rfl,a11,Yi (by decide +kernel),A',S,rfl,SA1,?_⟩
 refine Cm (fun z=>h4.1 z H1 s1) (fun hroom=>?_)
 refine⟨_,rfl,A'.p,dx,_,rfl,a11,Yi (by decide +kernel),_,rfl,l1,_,rfl,.inl (SqL.of q1),_,rfl,A'.p,dx,_,rfl,a11,Yi (by decide +kernel),A',S,rfl,SA1,A',S,"draw up",(ts.length:Nat),atV S,rfl,SA1,hz,fun H2 SA2 f2=>?_⟩
 rw[hts] at SA2
 have ok1:l1∉A'.fp:=SA.newOk l1 hl1;have q12:=f2 _ _ q1 ok1;have tl2:=(tl.same s1).mono (SA1.tups f2);obtain⟨⟨dx2,v2,a21,a22⟩,br2,_⟩:=id SA2;refine⟨_,rfl,_,rfl,A'.p,dx2,_,rfl,a21,Yi (by decide +kernel),_,rfl,A',_,l1,ts,ms,rfl,SA2,q12,tl2,by omega,ztb po.2 (by decide),po.small,fun l2 ls H3 h3 il3 s3 f3 fl3=>?_⟩
 have SA3:=SA2.same s3;have mo:R4 (mayS S ms) (S.ppl.map (·.1)):=po.may br2.nd g1
 refine⟨(·∉A'.fp),l1,l2,ts,ls,ms,mayS S ms,_,rfl,s3 _ _ q12,tl2.same s3,h3,il3,ok1,SA2.newOk l2 f3,fun x hx=>SA2.newOk x (fl3 x hx),SA3.newOk,mo,fun q gv H4 ShA FP SP s4 fq=>?_⟩
 have SA4:=SA3.same s4;obtain⟨⟨dx4,v4,a41,a42⟩,_⟩:=id SA4;refine⟨_,rfl,A'.p,a.zkn,dx4,_,rfl,a41,T.zko,T.zlc,(by show 8<1000;decide),?_⟩
 obtain⟨SA5,f5,Sh5⟩:=SA4.newSheet a41 ShA;generalize upd H4 A'.p (.ins a.zkn dx4 (putF "sheet" (.ref q) (seaF A' S.len S.rest v4)))=H5 at SA5 f5 Sh5
 obtain⟨⟨dx5,v5,a51,a52⟩,_⟩:=id SA5;obtain⟨q',rfl,Sq⟩:=a52;obtain⟨dxq,m1,m2,m3,m4,hq'⟩:=ShAt.ins Sq;refine⟨_,rfl,A'.p,a.zkn,dx5,_,_,rfl,a51,T.zko,T.zlc,Wx,q',dxq,_,rfl,hq',Sf (by decide +kernel) (by decide +kernel) (by decide +kernel) (by decide +kernel),(·∉A'.fp),q',_,rfl,Sq,fun l H6 hl s6 fl=>?_⟩
 have fr5:FrS A' H H5:=(FrS.of A' s1).trans (f2.trans ((FrS.of A' (s3.trans s4)).trans f5));exact h4.2 (by omega) l gv H6 hl (SA5.same s6) FP SP (fr5.trans (FrS.of A' s6)) (fr5.free SA5 fl)
abbrev Ss:Stmt:=Z7 (top 55) 11
theorem Hh:Zl ["self","at","number"] ["self","at","number"] (Zj Ss):=fnS
theorem Hi(F:Fun K "away" "Season.away" Ss f fd)(T:Tx K mg a)(zk5:Zw P w K mg base a.zkn "check_round" 1 ["self","at"] (E6 (ca a)))(zkt:Zw P w K mg base a.zkq "over" 1 ["self"] (Mp a.zkq))(zk6:Zw P w K mg base a.zkr "check_known" 1 ["self","number"] (Rm (ca a)))(zkv:Zw P w K mg base a.zkn "check_room" 1 ["self"] (E7 (ca a)))(zld:Zw P w K mg base a.zkn "note" 1 ["self","word","number","at"] (E8 (ca a)))(zkp:Zw P w K mg base a.zkn "at_hand" 2 ["self"] (Uu (ca a)))(zmw:Zw P w K mg base a.zkn "step_in" 6 ["self","number"] (Bg (ca a))):FnOk P w K mg base (CX1 P w) 7 f fd ["self","at","number"] (zew (ca a)):=by
 refine F.okX Hh (by walk_at "ar") fun _ _ _ _ H _ Q E hr h=>?_
 obtain⟨A',S,i,n,rfl,SA,si,sn,hz,hoz,po,hcur,h⟩:=h;have hu:=Wl hr;refine⟨_,(Zb (Z8 (Xx (pv 0) T.zko zk5 (hr.mono (by decide)) Zk (Za (pv 1) Zd)))
 (Zb (Zz (Zn zgt (pv 1) (Yr (Zt (K:=K) rfl (pv 0) rfl) T.zli zkt (hr.mono (by decide)) Zk) (Zr _))
  (Ze (Xn Xm rfl T.zql rfl (Za (Vr (Z2 (Wc (by decide +kernel)) (Z2 (Vd (pv 1)) (Z2 (Wc (by decide +kernel)) Vq))) (by decide)) Zd)))
  Zp)
 (Zb (Z8 (Xx (Zt (K:=K) rfl (pv 0) rfl) T.zk8 zk6 (hr.mono (by decide)) Zk (Za (pv 2) Zd)))
 (Zb (Zz (Td (Oi hu (Ya (Za (pv 1) (Za (pv 2) Zd))) (Zt (K:=K) rfl (pv 0) rfl)))
  (Ze (Xn Xm rfl T.zqg rfl (Za (Vr (Z2 (Wc (by decide +kernel)) (Z2 (Vd (pv 2)) (Z2 (Wc (by decide +kernel)) (Z2 (Vd (pv 1)) (Z2 (Wc (by decide +kernel)) Vq))))) (by decide)) Zd)))
  Zp)
 (Zb (Z8 (Yr (pv 0) T.zko zkv (hr.mono (by decide)) Zk))
 (Zb (Z8 (Xx (pv 0) T.zko zld (hr.mono (by decide)) Zk (Za Zq (Za (pv 2) (Za (pv 1) Zd)))))
 (Zb (Yj hu (Zt (K:=K) rfl (pv 0) rfl) (Ya (Za (pv 1) (Za (pv 2) Zd))) Xs rfl)
 (Zb (Zz (PW.pt (W4 (Zn Sy (pv 1) (Yr (pv 0) T.zko zkp (hr.mono (by decide)) Zk) (Zr _)) (X9 (Zn Of (Zt (K:=K) rfl (pv 0) rfl) Yl (Zr _)))))
  (Ze (Zm (Z5 Zd)))
  Zp)
 (Ze (Zm (Xx (pv 0) T.zko zmw (hr.mono (by decide)) Zk (Za (pv 2) Zd)))))))))))),?_⟩
 show let y1:TS:=_;let y2:TS:=Zx _ y1;let y3:TS:=Zx _ y2;let y4:TS:=Zx _ y3;let y5:TS:=Zx _ y4;let y6:TS:=Zx _ y5;let y7:TS:=Zx _ y6;let y8:TS:=Zx _ y7;Zx _ y8 _ _ _;intro y1 y2 y3 y4 y5 y6 y7 y8;obtain⟨⟨dx,v,a1,a2⟩,br,cl,⟨kvs,d1,d2⟩,_⟩:=id SA;obtain⟨⟨dxl,hpl⟩,_⟩:=id cl;obtain⟨⟨dxr,kvr,hpr,hdr,en⟩,ndr⟩:=id br;refine⟨_,rfl,A'.p,dx,_,rfl,a1,Yi (by decide +kernel),_,rfl,A',S,i,rfl,SA,si,?_⟩
 refine it2 h (fun _ z=>z) fun h1 h=>?_
 refine⟨_,rfl,_,rfl,A'.p,a.zkn,dx,_,_,rfl,a1,T.zko,T.zl1,Tb,A'.pl,dxl,_,rfl,hpl,Jw (by decide +kernel) (by decide +kernel),A'.pl,A'.lr,A'.ld,S.led,rfl,cl,_,_,rfl,rfl,_,rfl,?_⟩
 refine itD (fun hc=>?_) (fun hc=>?_)
 ·rw[if_pos hc] at h
  exact⟨_,rfl,.inl ⟨_,rfl,si⟩,fun z=>⟨sz1,h⟩⟩
 rw[if_neg hc] at h
 refine Zu ?_;refine⟨_,rfl,A'.p,a.zkn,dx,_,_,rfl,a1,T.zko,T.zlw,Uc,A'.pr,dxr,_,rfl,hpr,Xo.no (by decide +kernel),_,rfl,A'.pr,A'.dr,S.ppl,n,rfl,br,sn,?_⟩
 refine it2 h (fun hk h=>?_) (fun _ z=>z)
 refine⟨_,rfl,_,rfl,sz2,fun t ht=>?_⟩
 have s1:=Zf (o:=.tup [.int i,.int n]) ht;have q1:upd H t (.tup [.int i,.int n]) t=some (.tup (([Sum.inl i,Sum.inl n]:List Key).map kV)):=Zc;generalize upd H t (.tup [.int i,.int n])=H1 at s1 q1
 have SA1:=SA.same s1;have a11:=s1 _ _ a1;refine⟨_,rfl,A'.p,a.zkn,dx,_,_,rfl,a11,T.zko,T.zml,Pl,A'.da,_,rfl,DGet.t (k:=[Sum.inl i,Sum.inl n]) (s1 _ _ d1) q1,_,rfl,?_⟩;rw[d2.isSome];refine itD (fun hm=>?_) (fun hm=>?_)
 ·rw[if_pos hm] at h
  exact⟨_,rfl,.inl ⟨_,rfl,sn⟩,_,rfl,.inl ⟨_,rfl,si⟩,fun z=>⟨sz1,h H1 s1⟩⟩
 rw[if_neg hm] at h
 refine Zu ?_;refine⟨_,rfl,A'.p,dx,_,rfl,a11,Yi (by decide +kernel),A',S,rfl,SA1,?_⟩
 refine it2 h (fun _ z=>z H1 s1) fun h6 h=>?_
 refine⟨_,rfl,A'.p,dx,_,rfl,a11,Yi (by decide +kernel),_,rfl,_,rfl,A',S,"away",n,i,rfl,SA1,hz,fun H2 SA2 f2=>?_⟩
 obtain⟨⟨dx2,v2,a21,a22⟩,br2,cl2,⟨kvs2,d21,d22⟩,_⟩:=id SA2;refine⟨_,rfl,A'.p,a.zkn,dx2,_,_,rfl,a21,T.zko,T.zml,Pl,_,rfl,_,rfl,sz2,fun t2 ht2=>?_⟩
 have s3:=Zf (o:=.tup [.int i,.int n]) ht2;have q3:upd H2 t2 (.tup [.int i,.int n]) t2=some (.tup (([Sum.inl i,Sum.inl n]:List Key).map kV)):=Zc;generalize upd H2 t2 (.tup [.int i,.int n])=H3 at s3 q3
 have SA3:=SA2.same s3;refine⟨A'.da,_,rfl,DPut.t (k:=[Sum.inl i,Sum.inl n]) (s3 _ _ d21) q3 (by have:=d22.2;have h9:kvs2.length<=S.out.length:=this;have:=Tg;omega),?_⟩
 obtain⟨SA4,f4⟩:=SA3.setOut (out:=S.out++[(i,n)]) Zc (d22.put i n) (fun b o e hb=>by rw[Zi hb];exact e)
 generalize upd H3 A'.da (.dT (putK kvs2 [Sum.inl i,Sum.inl n] (.bl true)))=H4 at SA4 f4
 have SA4:Zy (ca a) H4 A' (Xj S i n):=SA4;have fr4:FrS A' H H4:=(FrS.of A' s1).trans (f2.trans ((FrS.of A' s3).trans f4));obtain⟨⟨dx4,v4,a41,a42⟩,br4,_⟩:=id SA4;have empty:(S.cur=none\/atV S<i)->∀ l,H4 l=none->Q (.ref l) (upd H4 l (.lst [])):=fun hz l hl=>h.1 hz l _ Zc (SA4.same (Zf hl)) (fr4.trans (FrS.of A' (Zf hl))) (fr4.free SA4 hl)
 refine⟨_,rfl,_,rfl,A'.p,dx4,_,rfl,a41,Yi (by decide +kernel),A',_,rfl,SA4,_,_,rfl,rfl,_,rfl,?_⟩
 refine itD (fun hgt=>?_) (fun hle=>?_)
 ·refine iteT ?_
  exact⟨by show 0<=sizeLine;decide,fun l hl=>empty (.inr hgt) l hl⟩
 have hat:i=atV S:=by
  have hle:¬ (atV S<i):=hle;unfold atV at hle ⊢;omega
 refine⟨_,rfl,A'.p,a.zkn,dx4,_,_,rfl,a41,T.zko,T.zlc,Wx,rfl,_,rfl,?_⟩;cases hc4:S.cur with
 | none =>
   have e4:v4=.non:=by
    have:ShO a.zks (·∉A'.fp) H4 v4 S.cur:=a42
    rw[hc4] at this;exact this
   rw[e4];refine iteT ?_;exact⟨by show 0<=sizeLine;decide,fun l hl=>empty (.inl hc4) l hl⟩
 | some s =>
   have e4:∃ q,v4=.ref q:=by
    have:ShO a.zks (·∉A'.fp) H4 v4 S.cur:=a42
    rw[hc4] at this;obtain⟨q,e,_⟩:=this;exact⟨q,e⟩
   obtain⟨q4,rfl⟩:=e4;refine iteF (Zu ?_);obtain⟨hm20,FP,emay,hgz⟩:=hcur s hc4;have po4:Qu (Xj S i n):=po;have hgl:s.gv.length<=100:=by rw[FP.len,emay];unfold mayS;rw[zst];omega
   refine⟨_,rfl,A'.p,dx4,_,rfl,a41,Yi (by decide +kernel),_,rfl,A',Xj S i n,n,s,(Xj S i n).ppl.map (·.1),rfl,SA4,hc4,po4,hm20,FP.one,hgl,hgz,po4.may br4.nd hm20,fun hp l H5 hl SA5 f5 fl=>?_,fun p hp=>?_⟩
   ·exact h.2.1 s hat hc4 hp l H5 hl SA5 (fr4.trans f5) (fr4.free SA4 fl)
   ·have hgp:=Rp hp
    refine⟨hgp,fun j hj=>FP.inj j p n hj hgp,?_,fun l us st e w' H5 hl tl CR SA5 f5 fl=>?_⟩
    ·rw[hat,Vu,<- emay]
     exact Vs FP hgp
    ·exact h.2.2 s p hat hc4 hp l us st e w' H5 hl tl CR SA5 (fr4.trans f5) (fr4.free SA4 fl)
abbrev Uk:Stmt:=Z7 (top 55) 12
theorem V1:Zl ["self","number","lists","fallen"] ["self","number"] (Zj Uk):=fnS
theorem N9(F:Fun K "step_in" "Season.step_in" Uk f fd)(T:Tx K mg a)(zlb:Zw P w K mg base a.zkn "takers_of" 5 ["self","listed"] (Oz (ca a)))(zm7:Zw P w K mg base a.zks "matches" 1 ["self"] (Kb (ca a)))(zlx:Zw P w K mg base a.zks "where" 2 ["self","number"] (Mx (ca a)))(znh:Zw P w K mg base a.zks "barred" 3 ["self","lists"] (C7 (ca a)))(zme:Zw P w K mg base a.zks "fallen_out" 3 ["self","number","lists"] (C8 (ca a)))(zls:Zw P w K mg base a.zks "chains" 1 ["self"] (Ox (ca a))):FnOk P w K mg base (CX1 P w) 6 f fd ["self","number"] (Bg (ca a)):=by
 refine F.okX V1 (by walk_at "ar") fun _ _ _ _ H _ Q E hr h=>?_
 obtain⟨A',S,n,s,nu,rfl,SA,hc,po,hml,ho,hgl,hgz,mo,h1,h2⟩:=h;refine⟨_,(Zb (pS 2 V1.nd (Xx (pv 0) T.zko zlb (hr.mono (by decide)) Zk (Za (Yr (Zt (K:=K) rfl (pv 0) rfl) T.zk2 zm7 (hr.mono (by decide)) Zk) Zd)))
 (Zb (Zz (Zn Of (Xx (Zt (K:=K) rfl (pv 0) rfl) T.zk2 zlx (hr.mono (by decide)) Zk (Za (pv 1) Zd)) Yl (Zr _))
  (Zb (Xb (K:=K) rfl (pv 0) (Xx (Zt (K:=K) rfl (pv 0) rfl) T.zk2 znh (hr.mono (by decide)) Zk (Za (pv 2) Zd)) rfl)
  (Ze (Zm (Z5 Zd))))
  Zp)
 (Zb (Xb (K:=K) rfl (pv 0) (Xx (Zt (K:=K) rfl (pv 0) rfl) T.zk2 zme (hr.mono (by decide)) Zk (Za (pv 1) (Za (pv 2) Zd))) rfl)
 (Zb (pS 3 V1.nd (Yr (Zt (K:=K) rfl (pv 0) rfl) T.zk2 zls (hr.mono (by decide)) Zk))
 (Ze (Zm (pI (iU K) (pI (iL K) (pv 3) (Qh Te Zg)) Zg))))))),?_⟩
 obtain⟨⟨dx,v,a1,a2⟩,br,cl,_⟩:=id SA;rw[hc] at a2
 obtain⟨q,rfl,Sq⟩:=a2;obtain⟨dxq,m1,m2,m3,m4,hq⟩:=ShAt.ins Sq;refine⟨_,rfl,A'.p,dx,_,rfl,a1,Yi (by decide +kernel),_,rfl,A'.p,a.zkn,dx,_,_,rfl,a1,T.zko,T.zlc,Wx,q,dxq,_,rfl,hq,Sf (by decide +kernel) (by decide +kernel) (by decide +kernel) (by decide +kernel),(·∉A'.fp),q,s,rfl,Sq,fun l1 ts H1 hl1 tl s1 f1=>?_⟩
 have SA1:=SA.same s1;refine⟨A',S,l1,ts,s.ms,rfl,SA1,hl1,tl,by omega,ztb po.2 (by decide),po.small,fun l2 ls H2 h3 il3 s2 f3 fl3=>?_⟩
 have s12:=s1.trans s2;have SA2:=SA1.same s2;have Sq2:=Sq.same s12;refine⟨_,rfl,A'.p,a.zkn,dx,_,_,rfl,s12 _ _ a1,T.zko,T.zlc,Wx,q,dxq,_,rfl,s12 _ _ hq,Sf (by decide +kernel) (by decide +kernel) (by decide +kernel) (by decide +kernel),_,rfl,(·∉A'.fp),q,s,n,rfl,Sq2,ho,hgl,fun H3 s3=>?_⟩
 have s13:=s12.trans s3;have SA3:=SA2.same s3;have Sq3:=Sq2.same s3;have il4:=il3.same s3;refine⟨rfl,_,rfl,?_⟩;cases hp:X1 s.gv n with
 | none =>
   refine iteT ?_;refine⟨_,rfl,A'.p,a.zkn,dx,_,_,rfl,s13 _ _ a1,T.zko,T.zlc,Wx,q,dxq,_,rfl,s13 _ _ hq,Sf (by decide +kernel) (by decide +kernel) (by decide +kernel) (by decide +kernel),_,rfl,(·∉A'.fp),q,l2,ls,mayS S s.ms,s,rfl,Sq3,s3 _ _ h3,il4,SA1.newOk l2 f3,fun x hx=>SA1.newOk x (fl3 x hx),SA3.newOk,fun q' H4 ShA s4 fq=>?_⟩
   have SA4:=SA3.same s4;obtain⟨⟨dx4,v4,a41,a42⟩,_⟩:=id SA4;refine⟨_,rfl,A'.p,a.zkn,dx4,_,rfl,a41,T.zko,T.zlc,(by show 8<1000;decide),?_⟩
   obtain⟨SA5,f5,Sh5⟩:=SA4.newSheet a41 ShA;generalize upd H4 A'.p (.ins a.zkn dx4 (putF "sheet" (.ref q') (seaF A' S.len S.rest v4)))=H5 at SA5 f5 Sh5
   have fr5:FrS A' H H5:=(FrS.of A' (s13.trans s4)).trans f5;refine⟨by show 0<=sizeLine;decide,fun l hl=>?_⟩
   exact h1 hp l _ Zc (SA5.same (Zf hl)) (fr5.trans (FrS.of A' (Zf hl))) (fr5.free SA5 hl)
 | some p =>
   refine iteF (Zu ?_);obtain⟨hgp,hun,FP,h3'⟩:=h2 p hp;refine⟨_,rfl,A'.p,a.zkn,dx,_,_,rfl,s13 _ _ a1,T.zko,T.zlc,Wx,q,dxq,_,rfl,s13 _ _ hq,Sf (by decide +kernel) (by decide +kernel) (by decide +kernel) (by decide +kernel),_,rfl,_,rfl,(·∉A'.fp),q,l2,ls,mayS S s.ms,nu,s,n,p,rfl,Sq3,s3 _ _ h3,il4,SA1.newOk l2 f3,fun x hx=>SA1.newOk x (fl3 x hx),SA3.newOk,mo,ho,hgp,hun,FP,by omega,fun q' st e w' H4 ShA CR s4 fq=>?_⟩
   have SA4:=SA3.same s4;obtain⟨⟨dx4,v4,a41,a42⟩,_⟩:=id SA4;refine⟨_,rfl,A'.p,a.zkn,dx4,_,rfl,a41,T.zko,T.zlc,(by show 8<1000;decide),?_⟩
   obtain⟨SA5,f5,Sh5⟩:=SA4.newSheet a41 ShA;generalize upd H4 A'.p (.ins a.zkn dx4 (putF "sheet" (.ref q') (seaF A' S.len S.rest v4)))=H5 at SA5 f5 Sh5
   have fr5:FrS A' H H5:=(FrS.of A' (s13.trans s4)).trans f5;obtain⟨⟨dx5,v5,a51,a52⟩,_⟩:=id SA5;obtain⟨q5,rfl,Sq5⟩:=a52;obtain⟨dxq5,m51,m52,m53,m54,hq5⟩:=ShAt.ins Sq5;refine⟨_,rfl,A'.p,a.zkn,dx5,_,_,rfl,a51,T.zko,T.zlc,Wx,q5,dxq5,_,rfl,hq5,Sf (by decide +kernel) (by decide +kernel) (by decide +kernel) (by decide +kernel),(·∉A'.fp),q5,_,rfl,Sq5,by show (s.gaps++[(n,st)]).length<=1000;rw[zsw];show s.gaps.length+1<=1000;omega,fun l us H6 hl gl s6 fl=>?_⟩
   obtain⟨vs',t,l',us',rfl,ht,hl',tl',ok',_⟩:=X4.unsnoc gl;refine⟨_,rfl,_,rfl,l,_,_,_,rfl,rfl,SqL.of hl,atI_last,t,_,_,_,rfl,rfl,SqT.of ht,rfl,?_⟩;exact h3' l' us' st e w' H6 hl' tl' CR (SA5.same s6) (fr5.trans (FrS.of A' s6)) (fr5.free SA5 ok')
abbrev Tt:Stmt:=Z7 (top 55) 13
theorem R8:Zl ["self","sheet"] ["self"] (Zj Tt):=fnS
theorem K4(F:Fun K "close" "Season.close" Tt f fd)(T:Tx K mg a)(zkz:Zw P w K mg base a.zkn "check_not_over" 3 ["self"] (My (ca a)))(zk1:Zw P w K mg base a.zkn "sheet_at_hand" 1 ["self"] (Oy (ca a)))(zng:Zw P w K mg base a.zkq "write" 1 ["self","rows"] (C6 a.zkq))(zob:Zw P w K mg base a.zks "rows" 1 ["self"] (Ba (ca a)))(zkt:Zw P w K mg base a.zkq "over" 1 ["self"] (Mp a.zkq)):FnOk P w K mg base (CX1 P w) 4 f fd ["self"] (zbk (ca a)):=by
 refine F.okX R8 (by walk_at "ar") fun _ _ _ _ H _ Q E hr h=>?_
 obtain⟨A',S,rfl,SA,ht,hl,hol,hcur,h⟩:=h;refine⟨_,(Zb (Z8 (Yr (pv 0) T.zko zkz (hr.mono (by decide)) Zk))
 (Zb (pS 1 R8.nd (Yr (pv 0) T.zko zk1 (hr.mono (by decide)) Zk))
 (Zb (Z8 (Xx (Zt (K:=K) rfl (pv 0) rfl) T.zli zng (hr.mono (by decide)) Zk (Za (Yr (pv 1) T.zk2 zob (hr.mono (by decide)) Zk) Zd)))
 (Zb (Yk (Zt (K:=K) rfl (pv 0) rfl) (pv 1))
 (Zb (Xb (K:=K) rfl (pv 0) Yl rfl)
 (Zb (Xb (K:=K) rfl (pv 0) (Z5 Zd) rfl)
 (Ze (Zm (Yr (Zt (K:=K) rfl (pv 0) rfl) T.zli zkt (hr.mono (by decide)) Zk))))))))),?_⟩
 obtain⟨⟨dx,v,a1,a2⟩,br,cl,_⟩:=id SA;obtain⟨⟨dxl,hpl⟩,_⟩:=id cl;refine⟨_,rfl,A'.p,dx,_,rfl,a1,Yi (by decide +kernel),A',S,rfl,SA,?_⟩
 refine it2 h (fun _ z=>z) fun h1 h=>?_
 refine⟨_,rfl,A'.p,dx,_,rfl,a1,Yi (by decide +kernel),A',S,rfl,SA,h.1,fun s q hc Sq=>?_⟩
 obtain⟨ho,hgl,hml⟩:=hcur s hc;obtain⟨dxq,m1,m2,m3,m4,hq⟩:=ShAt.ins Sq;refine⟨_,rfl,A'.p,a.zkn,dx,_,_,rfl,a1,T.zko,T.zl1,Tb,A'.pl,dxl,_,rfl,hpl,Jw (by decide +kernel) (by decide +kernel),_,rfl,q,dxq,_,rfl,hq,Sf (by decide +kernel) (by decide +kernel) (by decide +kernel) (by decide +kernel),(·∉A'.fp),q,s,rfl,Sq,ho,hgl,hml,fun l1 ts H1 hl1 tl s1 f1=>?_⟩
 have SA1:=SA.same s1;have ok1:l1∉A'.fp:=SA.newOk l1 f1;refine⟨A'.pl,A'.lr,A'.ld,S.led,l1,ts,Yb s,rfl,SA1.led,hl1,fun z=>ok1 (by rw[z];simp[SAd.fp]),tl,by rw[Bb hgl];omega,hl,fun H2 L2' k2=>?_⟩
 obtain⟨SA2,f2⟩:=SA1.setLed L2' k2;obtain⟨⟨dx2,v2,a21,a22⟩,br2,cl2,d2,⟨vs,f21,f22⟩,_⟩:=id SA2;have Sq2:=(Sq.same s1).keep (fun x o hx e=>f2 x o e hx) (SA1.tups f2)
 refine⟨_,rfl,A'.p,a.zkn,dx2,_,_,rfl,a21,T.zko,T.znp,Ec,A'.ls,vs,rfl,f21,_,rfl,vs,f21,by have:=f22.length;have h9:vs.length=S.old.length:=this;have:=Tg;omega,?_⟩
 have k3:∀ b o,H2 b=some o->b≠A'.ls->upd H2 A'.ls (.lst (vs++[.ref q])) b=some o:=fun b o e hb=>by rw[Zi hb];exact e
 have kt3:∀ t xs,H2 t=some (.tup xs)->upd H2 A'.ls (.lst (vs++[.ref q])) t=some (.tup xs):=fun t xs e=>k3 t _ e (Yx e f21 (fun z=>nomatch z))
 have ko3:∀ x o,x∉A'.fp->H2 x=some o->upd H2 A'.ls (.lst (vs++[.ref q])) x=some o:=fun x o hx e=>k3 x o e fun z=>hx (by rw[z];simp[SAd.fp])
 obtain⟨SA3,f3⟩:=SA2.setOld (old:=S.old++[s]) Zc ((f22.keep ko3 kt3).snoc (Sq2.keep ko3 kt3)) k3;generalize upd H2 A'.ls (.lst (vs++[.ref q]))=H3 at SA3 f3
 obtain⟨⟨dx3,v3,a31,a32⟩,_⟩:=id SA3;refine⟨_,rfl,A'.p,a.zkn,dx3,_,rfl,a31,T.zko,T.zlc,(by show 8<1000;decide),?_⟩
 obtain⟨SA4,f4⟩:=SA3.setCur (H':=upd H3 A'.p (.ins a.zkn dx3 (putF "sheet" .non (seaF A' S.len S.rest v3)))) (cur:=none) (v:=.non) ⟨dx3,by rw[Zc];exact congrArg (fun x=>some (HO.ins a.zkn dx3 x)) O0⟩ rfl (fun b o e hb=>by rw[Zi hb];exact e)
 generalize upd H3 A'.p (.ins a.zkn dx3 (putF "sheet" .non (seaF A' S.len S.rest v3)))=H4 at SA4 f4
 obtain⟨⟨dx4,v4,a41,a42⟩,_⟩:=id SA4;refine⟨by show 0<=sizeLine;decide,fun x hx=>?_⟩
 have npx:A'.p≠x:=Zh a41 hx;refine⟨_,rfl,A'.p,a.zkn,dx4,_,rfl,(by rw[Zi npx];exact a41),T.zko,T.zln,(by show 8<1000;decide),?_⟩
 obtain⟨SA5,f5⟩:=SA4.freshStd hx a41 a42 rfl;have fr4:FrS A' H H4:=(FrS.of A' s1).trans (f2.trans (f3.trans f4));have fx:H x=none:=fr4.free SA4 hx;generalize upd (upd H4 x (.lst [])) A'.p (.ins a.zkn dx4 (putF "standing" (.ref x) (seaF A' S.len S.rest v4)))=H5 at SA5 f5
 have SA5:Zy (ca a) H5 { A' with lt:=x } (Dc S s):=SA5
 obtain⟨⟨dx5,v5,a51,a52⟩,br5,cl5,_⟩:=id SA5;obtain⟨⟨dxl5,hpl5⟩,_⟩:=id cl5;refine⟨_,rfl,A'.p,a.zkn,dx5,_,_,rfl,a51,T.zko,T.zl1,Tb,A'.pl,dxl5,_,rfl,hpl5,Jw (by decide +kernel) (by decide +kernel),A'.pl,A'.lr,A'.ld,S.led++[Yb s],rfl,cl5,?_⟩
 have hfin:=h.2 s x H5 hc SA5 (fr4.trans f5) fx;have e:(((S.led++[Yb s]).length:Nat):Int)=atV S:=by rw[zsw];rfl
 rw[e];exact hfin
abbrev Vk:Stmt:=Z7 (top 55) 14
theorem W6:Zl ["self","last","deed"] ["self"] (Zj Vk):=fnS
theorem P5(F:Fun K "take_back" "Season.take_back" Vk f fd)(T:Tx K mg a)(zm6:Zw P w K mg base a.zkr "strike" 1 ["self","number"] (C2 (ca a))):FnOk P w K mg base (CX1 P w) 2 f fd ["self"] (J4 (ca a)):=by
 refine F.okX W6 (by walk_at "ar") fun _ _ _ _ H _ Q E hr h=>?_
 obtain⟨A',S,rfl,SA,h1,h2⟩:=h;have hu:=Wl hr;refine⟨_,(Zb (Zz (Xl (Fs (K:=K) rfl (Zt (K:=K) rfl (pv 0) rfl) (fun _=>rfl)))
  (Ze (Xn Xm rfl T.zot rfl (Za Zq Zd)))
  Zp)
 (Zb (pS 1 W6.nd (zdy PySem.F.plainAttrs_list PySem.F.slot_list_pop PySem.F.type_list_pop zhw (Zt (K:=K) rfl (pv 0) rfl)))
 (Zb (pS 2 W6.nd (pI (iU K) (pv 1) Zg))
 (Zb (Xb (K:=K) rfl (pv 0) (pI (iU K) (pv 1) Zg) rfl)
 (Zb (Zz (Zn Xt (pI (iU K) (pv 2) Zg) Zq (Zr _))
  (Ze (Z8 (Xx (Zt (K:=K) rfl (pv 0) rfl) T.zk8 zm6 (hr.mono (by decide)) Zk (Za (pI (iU K) (pv 2) Zg) Zd))))
  Zp)
 (Zb (Zz (Zn Xt (pI (iU K) (pv 2) Zg) Zq (Zr _))
  (Ze (Z8 (zeq hu (Zt (K:=K) rfl (pv 0) rfl) (Ya (Za (pI (iU K) (pv 2) Zg) (Za (pI (iU K) (pv 2) Zg) Zd))) ⟨rfl,rfl,rfl,rfl⟩)))
  Zp)
 (Ze (Zm (pv 2))))))))),?_⟩
 show let y1:TS:=_;let y2:TS:=Zx _ y1;let y3:TS:=Zx _ y2;let y4:TS:=Zx _ y3;let y5:TS:=Zx _ y4;let y6:TS:=Zx _ y5;Zx _ y6 _ _ _;intro y1 y2 y3 y4 y5 y6;obtain⟨⟨dx,v,a1,a2⟩,br,cl,d0,f0,⟨us,g1,g2⟩,_⟩:=id SA;refine⟨_,rfl,A'.p,a.zkn,dx,_,_,rfl,a1,T.zko,T.zln,T6,_,.inl ⟨_,SqL.of g1,rfl⟩,?_⟩;have hul:=g2.length;rcases List.eq_nil_or_concat S.std with hn|⟨std',⟨d,s⟩,he⟩
 ·rw[hn] at hul
  have hu0:us=[]:=zup.mp hul;rw[hu0];exact iteT ⟨sz1,h1 hn⟩
 have he:S.std=std'++[(d,s)]:=by rw[he,List.concat_eq_append]
 rw[he] at g2
 obtain⟨vs',t,u,v',rfl,ht,hu',hs,g3⟩:=Uz.unsnoc g2;have hne:(vs'++[V.ref t]).isEmpty=false:=by cases vs'<;>rfl
 rw[hne];refine iteF (Zu ?_);obtain⟨ppl,out,hbk,hfin⟩:=h2 std' d s he;refine⟨_,rfl,A'.p,a.zkn,dx,_,_,rfl,a1,T.zko,T.zln,T6,.inl ⟨rfl,_,SqL.of g1⟩,A'.lt,_,V.ref t,rfl,rfl,g1,by simp,?_⟩
 rw[List.dropLast_concat];have k1:∀ b o,H b=some o->b≠A'.lt->upd H A'.lt (.lst vs') b=some o:=fun b o e hb=>by rw[Zi hb];exact e
 have kt1:∀ t xs,H t=some (.tup xs)->upd H A'.lt (.lst vs') t=some (.tup xs):=fun t xs e=>k1 t _ e (Yx e g1 (fun z=>nomatch z))
 have ko1:∀ x o,x∉A'.fp->H x=some o->upd H A'.lt (.lst vs') x=some o:=fun x o hx e=>k1 x o e fun z=>hx (by rw[z];simp[SAd.fp])
 obtain⟨SA1,f1⟩:=SA.setStd (std:=std') Zc (g3.keep ko1 kt1) k1;have ht1:=kt1 _ _ ht;have hu1:=kt1 _ _ hu';have hs1:=hs.keep ko1 kt1;generalize upd H A'.lt (.lst vs')=H1 at SA1 f1 ht1 hu1 hs1
 refine⟨_,rfl,t,_,_,_,rfl,rfl,SqT.of ht1,rfl,?_⟩;obtain⟨⟨dx1,v1,a11,a12⟩,_⟩:=id SA1;refine⟨_,rfl,t,_,_,_,rfl,rfl,SqT.of ht1,rfl,_,rfl,A'.p,a.zkn,dx1,_,rfl,a11,T.zko,T.zlc,(by show 8<1000;decide),?_⟩
 have k2:∀ b o,H1 b=some o->b≠A'.p->upd H1 A'.p (.ins a.zkn dx1 (putF "sheet" v' (seaF A' S.len S.rest v1))) b=some o:=fun b o e hb=>by rw[Zi hb];exact e
 have kt2:∀ t xs,H1 t=some (.tup xs)->upd H1 A'.p (.ins a.zkn dx1 (putF "sheet" v' (seaF A' S.len S.rest v1))) t=some (.tup xs):=fun t xs e=>k2 t _ e (Yx e a11 (fun z=>nomatch z))
 obtain⟨SA2,f2⟩:=SA1.setCur (cur:=s) (v:=v') ⟨dx1,by rw[Zc];exact congrArg (fun x=>some (HO.ins a.zkn dx1 x)) O0⟩ (hs1.keep (fun x o hx e=>k2 x o e fun z=>hx (by rw[z];simp[SAd.fp])) kt2) k2
 have hu2:=kt2 _ _ hu1;generalize upd H1 A'.p (.ins a.zkn dx1 (putF "sheet" v' (seaF A' S.len S.rest v1)))=H2 at SA2 f2 hu2
 have fr2:=f1.trans f2;have d0:atI (Oa d) 0=some (.str d.1):=rfl;have d1:atI (Oa d) 1=some (.int d.2.1):=rfl;have d2:atI (Oa d) 2=some (.int d.2.2):=rfl;have es:∀ w:Str,decide (V.str d.1=V.str w)=decide (d.1=w):=fun w=>by
  by_cases z:d.1=w
  ·rw[zsy z,zsy (congrArg V.str z)]
  ·rw[zs8 z,zs8 (fun q=>z (V.str.inj q))]
 walk_at "if";refine Y7 ?_;refine⟨_,rfl,u,_,_,_,rfl,rfl,SqT.of hu2,d0,rfl,_,rfl,?_⟩;rw[es];obtain⟨⟨dx2,v2,a21,a22⟩,br2,cl2,⟨kvs2,e21,e22⟩,_⟩:=id SA2;have n1:¬ (("enrol":Str)="away"):=by decide +kernel
 have n2:¬ (("draw up":Str)="away"):=by decide +kernel
 have n3:¬ (("draw up":Str)="enrol"):=by decide +kernel
 have n4:¬ (("away":Str)="enrol"):=by decide +kernel
 rcases hbk with ⟨hd,⟨g,c0,hp⟩,ho⟩|⟨hd,hp,ho,hno⟩|⟨hd,hp,ho⟩
 ·rw[zsy hd]
  refine iteT ?_;obtain⟨⟨dxr,kvr,hpr,hdr,en⟩,ndr⟩:=id br2;refine⟨_,rfl,A'.p,a.zkn,dx2,_,_,rfl,a21,T.zko,T.zlw,Uc,A'.pr,dxr,_,rfl,hpr,Xo.no (by decide +kernel),_,rfl,u,_,_,_,rfl,rfl,SqT.of hu2,d1,A'.pr,A'.dr,ppl,d.2.1,g,c0,rfl,(show Xo a.zkr H2 A'.pr A'.dr (ppl++[(d.2.1,g,c0)]) by have:Xo a.zkr H2 A'.pr A'.dr S.ppl:=br2;rw[hp] at this;exact this),fun H3 R3 k3=>?_⟩
  obtain⟨SA3,f3⟩:=SA2.setRos R3 k3;have hu3:=SA2.tups f3 _ _ hu2;refine⟨_,rfl,u,_,_,_,rfl,rfl,SqT.of hu3,d0,rfl,_,rfl,?_⟩;rw[es,zs8 (by rw[hd];exact n1)]
  refine iteF (Zu ⟨_,rfl,?_⟩);refine hfin u H3 hu3 ?_ (fr2.trans f3);rw[ho];exact SA3
 ·rw[zs8 (by rw[hd];exact n4)]
  refine iteF (Zu ?_);refine⟨_,rfl,u,_,_,_,rfl,rfl,SqT.of hu2,d0,rfl,_,rfl,?_⟩;rw[es,zsy hd];refine iteT ?_;refine⟨_,rfl,A'.p,a.zkn,dx2,_,_,rfl,a21,T.zko,T.zml,Pl,A'.da,rfl,.inr ⟨kvs2,.inl e21⟩,_,rfl,u,_,_,_,rfl,rfl,SqT.of hu2,d2,_,rfl,u,_,_,_,rfl,rfl,SqT.of hu2,d1,sz2,fun tk htk=>?_⟩
  have s3:=Zf (o:=.tup [.int d.2.2,.int d.2.1]) htk;have q3:upd H2 tk (.tup [.int d.2.2,.int d.2.1]) tk=some (.tup (([Sum.inl d.2.2,Sum.inl d.2.1]:List Key).map kV)):=Zc;generalize upd H2 tk (.tup [.int d.2.2,.int d.2.1])=H3 at s3 q3
  have SA3:=SA2.same s3;have e22:Qs kvs2 S.out:=e22;rw[ho] at e22
  have hv:∃ vv,valV kvs2 [Sum.inl d.2.2,Sum.inl d.2.1]=some vv:=zuc.mp (by rw[e22.1,zsy (by simp)])
  obtain⟨vv,hv⟩:=hv;refine⟨kvs2,[Sum.inl d.2.2,Sum.inl d.2.1],tk,vv,s3 _ _ e21,rfl,q3,hv,?_⟩;obtain⟨SA4,f4⟩:=SA3.setOut (out:=out) Zc (e22.drop hno) (fun b o e hb=>by rw[Zi hb];exact e)
  have hu4:=SA3.tups f4 _ _ (s3 _ _ hu2);refine⟨_,rfl,hfin u _ hu4 ?_ (fr2.trans ((FrS.of A' s3).trans f4))⟩;rw[hp];exact SA4
 ·rw[zs8 (by rw[hd];exact n3)]
  refine iteF (Zu ?_);refine⟨_,rfl,u,_,_,_,rfl,rfl,SqT.of hu2,d0,rfl,_,rfl,?_⟩;rw[es,zs8 (by rw[hd];exact n2)]
  refine iteF (Zu ⟨_,rfl,hfin u H2 hu2 ?_ fr2⟩);rw[hp,ho];exact SA2
abbrev Ul:Stmt:=Z7 (top 55) 15
theorem Ma:Zl ["self"] ["self"] (Zj Ul):=fnS
theorem Mb(F:Fun K "at_hand" "Season.at_hand" Ul f fd)(T:Tx K mg a)(zkt:Zw P w K mg base a.zkq "over" 1 ["self"] (Mp a.zkq)):FnOk P w K mg base (CX1 P w) 2 f fd ["self"] (Uu (ca a)):=by
 refine F.okX Ma (by walk_at "ar") fun _ _ _ _ H _ Q E hr h=>?_
 obtain⟨A',S,rfl,SA,h⟩:=h;refine⟨_,(Ze (Zm (Zs Yu (Yr (Zt (K:=K) rfl (pv 0) rfl) T.zli zkt (hr.mono (by decide)) Zk) Zg))),?_⟩
 obtain⟨⟨dx,v,a1,a2⟩,b,c,_⟩:=id SA;obtain⟨⟨dxl,hpl⟩,_⟩:=id c;refine⟨_,rfl,A'.p,a.zkn,dx,_,_,rfl,a1,T.zko,T.zl1,Tb,A'.pl,dxl,_,rfl,hpl,Jw (by decide +kernel) (by decide +kernel),A'.pl,A'.lr,A'.ld,S.led,rfl,c,_,_,rfl,rfl,?_⟩
 exact h
abbrev Su:Stmt:=Z7 (top 55) 21
theorem Hj:Zl ["self","at"] ["self","at"] (Zj Su):=fnS
theorem Hk(F:Fun K "goes" "Season.goes" Su f fd)(T:Tx K mg a)(zle:Zw P w K mg base a.zkn "sheet_of" 3 ["self","at"] (M0 (ca a)))(zl4:Zw P w K mg base a.zks "goes" 1 ["self"] (J1 (ca a))):FnOk P w K mg base (CX1 P w) 4 f fd ["self","at"] (A9 (ca a)):=by
 refine F.okX Hj (by walk_at "ar") fun _ _ _ _ H _ Q E hr h=>?_
 obtain⟨A',S,i,rfl,SA,hr0⟩:=h;refine⟨_,(Ze (Zm (Yr (Xx (pv 0) T.zko zle (hr.mono (by decide)) Zk (Za (pv 1) Zd)) T.zk2 zl4 (hr.mono (by decide)) Zk))),?_⟩
 obtain⟨si,hol,h⟩:=hr0;obtain⟨⟨dx,v,a1,a2⟩,_⟩:=id SA;refine⟨_,rfl,A'.p,dx,_,rfl,a1,Yi (by decide +kernel),_,rfl,A',S,i,rfl,SA,si,hol,it2 h (fun _ z=>z) fun hn h=>⟨h.1,fun s q hs Sq=>?_⟩⟩
 obtain⟨dxq,m1,m2,m3,m4,hq⟩:=ShAt.ins Sq;exact⟨q,dxq,_,rfl,hq,Sf (by decide +kernel) (by decide +kernel) (by decide +kernel) (by decide +kernel),(·∉A'.fp),q,s,rfl,Sq,fun l H' a b c=>h.2 s hs l H' a b c⟩
abbrev U3:Stmt:=Z7 (top 55) 25
theorem Ll:Zl ["self","at"] ["self","at"] (Zj U3):=fnS
theorem Ln(F:Fun K "chains" "Season.chains" U3 f fd)(T:Tx K mg a)(zle:Zw P w K mg base a.zkn "sheet_of" 3 ["self","at"] (M0 (ca a)))(zls:Zw P w K mg base a.zks "chains" 1 ["self"] (Ox (ca a))):FnOk P w K mg base (CX1 P w) 4 f fd ["self","at"] (J5 (ca a)):=by
 refine F.okX Ll (by walk_at "ar") fun _ _ _ _ H _ Q E hr h=>?_
 obtain⟨A',S,i,rfl,SA,hr0⟩:=h;refine⟨_,(Ze (Zm (Yr (Xx (pv 0) T.zko zle (hr.mono (by decide)) Zk (Za (pv 1) Zd)) T.zk2 zls (hr.mono (by decide)) Zk))),?_⟩
 obtain⟨si,hol,h⟩:=hr0;obtain⟨⟨dx,v,a1,a2⟩,_⟩:=id SA;refine⟨_,rfl,A'.p,dx,_,rfl,a1,Yi (by decide +kernel),_,rfl,A',S,i,rfl,SA,si,hol,it2 h (fun _ z=>z) fun hn h=>⟨h.1,fun s q hs Sq=>?_⟩⟩
 obtain⟨dxq,m1,m2,m3,m4,hq⟩:=ShAt.ins Sq;obtain⟨k1,k3⟩:=h.2 s hs;exact⟨q,dxq,_,rfl,hq,Sf (by decide +kernel) (by decide +kernel) (by decide +kernel) (by decide +kernel),(·∉A'.fp),q,s,rfl,Sq,k1,fun l ts H' a b c d=>k3 l ts H' a b c d⟩
abbrev Q4:Stmt:=top 57
theorem Dq:Zl ["_law_found"] ["_law_found"] (Zj Q4):=fnS
theorem Dr(F:Fun K "_law_whole" "_law_whole" Q4 f fd)(T:Tx K mg a):FnOk P w K mg base (CX1 P w) 1 f fd ["_law_found"] Je:=by
 refine F.okX Dq (by walk_at "ar") fun _ _ _ _ H _ Q E hr h=>?_
 obtain⟨i,rfl,h⟩:=h;refine⟨_,(Ze (Zm (Em (Zo (Wo (K:=K) rfl) (by rfl) T.zky PyProof.Rows.boot_isinstance (Za (pv 0) (Za (Up rfl T.zp2 PyProof.Rows.boot_int (show RelV (.ty "int") _ from rfl)) Zd))) (El (zha (Zo (Wo (K:=K) rfl) (by rfl) T.zky PyProof.Rows.boot_isinstance (Za (pv 0) (Za (Up rfl T.zqc PyProof.Rows.boot_bool (show RelV (.ty "bool") _ from rfl)) Zd)))))))),?_⟩
 refine⟨_,rfl,_,_,_,_,rfl,.of (.int i),.inl ⟨_,rfl⟩,zh2 K,_,rfl,?_⟩;refine iteT ?_;exact⟨_,rfl,_,_,_,_,rfl,.of (.int i),.inl ⟨_,rfl⟩,zh3 K,_,rfl,h⟩
abbrev Hl:Stmt:=top 58
theorem zda:Zl ["_law_script","_law_k"] ["_law_script","_law_k"] (Zj Hl):=fnS
theorem zdb(F:Fun K "_law_at" "_law_at" Hl f fd)(T:Tx K mg a):FnOk P w K mg base (CX1 P w) 1 f fd ["_law_script","_law_k"] (Aw K):=by
 refine F.okX zda (by walk_at "ar") fun _ _ _ _ H _ Q E hr h=>?_
 obtain⟨b,ns,k,rfl,hs,h⟩:=h;refine⟨_,(Zb (Zz (Zn zau (pv 1) (Zo (cL K) (by rfl) T.zku PySem.boot_len (Za (pv 0) Zd)) (Zr _))
  (Ze (Zm (pI (iL K) (pv 0) (pv 1))))
  Zp)
 (Ze (Zm Zg))),?_⟩
 refine⟨_,rfl,_,rfl,b,_,rfl,.inl hs,_,_,rfl,rfl,_,rfl,?_⟩;rw[zst];refine itD (fun hk=>?_) (fun hk=>?_)
 ·have hk':k<ns.length:=by omega
  refine⟨_,rfl,_,rfl,b,_,_,_,rfl,rfl,hs,Z4 (show (ns.map V.int)[k]?=some (.int (Y4 ns k)) from ?_),h⟩
  unfold Y4;rw[zs0,zsu hk'];rfl
 ·have e:Y4 ns k=0:=by unfold Y4;rw[List.getElem?_eq_none (by omega)];rfl
  rw[e] at h
  exact h
abbrev Lo:Stmt:=top 59
theorem Ry:Zl ["_law_cell_here","_law_k","_law_one","_law_two","_law_three"] ["_law_cell_here","_law_k"] (Zj Lo):=fnS
theorem zap(F:Fun K "_law_mix" "_law_mix" Lo f fd)(T:Tx K mg a):FnOk P w K mg base (CX1 P w) 1 f fd ["_law_cell_here","_law_k"] za6:=by
 refine F.okX Ry (by walk_at "ar") fun _ _ _ _ H _ Q E hr h=>?_
 obtain⟨c,k,rfl,h⟩:=h;refine⟨_,(Zb (pS 2 Ry.nd (Zs Yq (Zs Yu (Zs Qi (pv 0) Zg) (pv 1)) Zg))
 (Zb (pS 3 Ry.nd (Zs Yq (Zs Yu (Zs Qi (pv 2) Zg) (Zs Qi Zg (pv 1))) Zg))
 (Zb (pS 4 Ry.nd (Zs Yq (Zs Yu (Zs Qi (pv 3) Zg) (pv 2)) Zg))
 (Ze (Zm (Zs Yu (Zs Qi (Zs Yu (Zs Qi (pv 2) Zg) (pv 3)) Zg) (pv 4))))))),?_⟩
 walk_at "rd";exact h
abbrev Yo:Stmt:=top 60
theorem Q5:Zl ["_law_cell_here","_law_many","_law_step"] ["_law_cell_here","_law_many"] (Zj Yo):=fnS
@[irreducible] def V2:List Expr:=zcv (Bo (Pt (Xr (Zv Yo) 0)))
@[irreducible] def Q6:Pos:=zcw (Bo (Pt (Xr (Zv Yo) 0)))
theorem Lp:Zv Yo=[.Assign (zez (Xr (Zv Yo) 0)) (.Subscript (.List V2 Q6) (zgh (Pt (Xr (Zv Yo) 0))) (zgi (Pt (Xr (Zv Yo) 0)))) (stP (Xr (Zv Yo) 0)),Xr (Zv Yo) 1]:=by unfold V2 Q6;kernel_rfl
theorem Lq:J8 V2 [1,2,5,10,100,500,998]:=by unfold V2;exact⟨by kernel_rfl,by kernel_rfl⟩
theorem Hm(F:Fun K "_law_numbers" "_law_numbers" Yo f fd)(T:Tx K mg a):FnOk P w K mg base (CX1 P w) 1 f fd ["_law_cell_here","_law_many"] Ju:=by
 refine F.okX Q5 (by walk_at "ar") fun _ _ _ _ H _ Q E hr h=>?_
 obtain⟨c,m,rfl,hm,h⟩:=h;rw[Lp];refine⟨_,(Zb (pS 2 Q5.nd (pI (iL K) (Z5 (Pm [1,2,5,10,100,500,998] Lq)) (Zs Yq (pv 0) Zg)))
 (Ze (Zm (Uv rfl (cT ["_law_cell_here","_law_step"] [0,2]) (Xk rfl T.zlj (Za (pv 1) Zd)) (fun _ _ _ _ _=>U7) (fun _ _ _ _ _=>(Zs Yu Zg (Zs Yq (Zs Yu (Zs Xa (pv 1) Zg) (Zs Qi (pv 2) (pv 0))) Zg))))))),?_⟩
 refine⟨by show 7<=sizeLine;decide,fun p0 hp0=>?_⟩
 walk_at "rd";refine⟨p0,_,_,_,rfl,rfl,SqL.of Zc,Wm (xs:=[1,2,5,10,100,500,998]) (by omega) (by show c%7<7;omega),?_⟩
 refine⟨_,rfl,_,rfl,by omega,by omega,Fq (fun j=>V.int (zca c j)) (by rw[zta];exact ztb hm (by decide)) (fun i R hi k=>?_) (fun p hp=>?_)⟩
 ·rw[zta] at hi
  walk_at "rd";refine⟨.inr ⟨by omega,by omega⟩,?_⟩
  walk_at "rd";rw[zub];exact k
 ·rw[zta]
  refine h p _ ?_ ((Zf hp0).trans (Zf hp)) ((Zf hp0).free hp);rw[Zc];unfold L6;rw[zua];rfl
abbrev Xd:Stmt:=top 61
theorem Mc:Zl ["_law_cell_here","_law_many","_law_step"] ["_law_cell_here","_law_many"] (Zj Xd):=fnS
@[irreducible] def U9:List Expr:=zcv (Bo (Pt (Xr (Zv Xd) 0)))
@[irreducible] def Md:Pos:=zcw (Bo (Pt (Xr (Zv Xd) 0)))
theorem Hn:Zv Xd=[.Assign (zez (Xr (Zv Xd) 0)) (.Subscript (.List U9 Md) (zgh (Pt (Xr (Zv Xd) 0))) (zgi (Pt (Xr (Zv Xd) 0)))) (stP (Xr (Zv Xd) 0)),Xr (Zv Xd) 1]:=by unfold U9 Md;kernel_rfl
theorem Ho:J8 U9 [1,2,5,10,50,97,98]:=by unfold U9;exact⟨by kernel_rfl,by kernel_rfl⟩
theorem Ds(F:Fun K "_law_clubs" "_law_clubs" Xd f fd)(T:Tx K mg a):FnOk P w K mg base (CX1 P w) 1 f fd ["_law_cell_here","_law_many"] za7:=by
 refine F.okX Mc (by walk_at "ar") fun _ _ _ _ H _ Q E hr h=>?_
 obtain⟨c,m,rfl,hm,h⟩:=h;rw[Hn];refine⟨_,(Zb (pS 2 Mc.nd (pI (iL K) (Z5 (Pm [1,2,5,10,50,97,98] Ho)) (Zs Yq (pv 0) Zg)))
 (Ze (Zm (Uv rfl (cT ["_law_cell_here","_law_step"] [0,2]) (Xk rfl T.zlj (Za (pv 1) Zd)) (fun _ _ _ _ _=>U7) (fun _ _ _ _ _=>(Zs Yu Zg (Zs Yq (Zs Yu (Zs Xa (pv 1) Zg) (Zs Qi (pv 2) (pv 0))) Zg))))))),?_⟩
 refine⟨by show 7<=sizeLine;decide,fun p0 hp0=>?_⟩
 walk_at "rd";refine⟨p0,_,_,_,rfl,rfl,SqL.of Zc,Wm (xs:=[1,2,5,10,50,97,98]) (by omega) (by show c%7<7;omega),?_⟩
 refine⟨_,rfl,_,rfl,by omega,by omega,Fq (fun j=>V.int (Ft c j)) (by rw[zta];exact ztb hm (by decide)) (fun i R hi k=>?_) (fun p hp=>?_)⟩
 ·rw[zta] at hi
  walk_at "rd";refine⟨.inr ⟨by omega,by omega⟩,?_⟩
  walk_at "rd";rw[zub];exact k
 ·rw[zta]
  refine h p _ ?_ ((Zf hp0).trans (Zf hp)) ((Zf hp0).free hp);rw[Zc];unfold Qn;rw[zua];rfl
abbrev Rz:Stmt:=top 62
theorem G2:Zl ["_law_found","_law_due"] ["_law_found","_law_due"] (Zj Rz):=fnS
theorem G3(F:Fun K "_law_one_is" "_law_one_is" Rz f fd)(T:Tx K mg a)(zlh:Z1 P w K mg base "_law_whole" 1 ["_law_found"] Je):FnOk P w K mg base (CX1 P w) 2 f fd ["_law_found","_law_due"] Nu:=by
 refine F.okX G2 (by walk_at "ar") fun _ _ _ _ H _ Q E hr h=>?_
 obtain⟨x,rfl,hx,h⟩:=h;refine⟨_,(Ze (Zm (D4 (Zn Of (pv 1) Yl (Zr _)) (W3 Of (pv 0) Yl (Zr _)) (Em (pF zlh hr (Za (pv 0) Zd)) (El (W3 Xt (pv 0) (pv 1) (Zr _))))))),?_⟩;rcases hx with rfl|⟨i,rfl⟩
 ·refine⟨_,rfl,rfl,_,rfl,?_⟩
  refine iteT ?_;exact⟨_,rfl,rfl,h⟩
 ·refine⟨_,rfl,rfl,_,rfl,?_⟩
  refine iteF ?_;refine⟨_,rfl,i,rfl,_,rfl,?_⟩;refine iteT ?_;refine⟨_,rfl,_,rfl,rfl,?_⟩;rw[zsy rfl];exact h
abbrev Sv:Stmt:=top 63
theorem Q7:Zl ["_law_found","_law_due","_law_k"] ["_law_found","_law_due"] (Zj Sv):=fnS
theorem Hq(F:Fun K "_law_list_is" "_law_list_is" Sv f fd)(T:Tx K mg a)(zk3:Z1 P w K mg base "_law_one_is" 2 ["_law_found","_law_due"] Nu):FnOk P w K mg base (CX1 P w) 3 f fd ["_law_found","_law_due"] (Jv K):=by
 refine F.okX Q7 (by walk_at "ar") fun _ _ _ _ H _ Q E hr h=>?_
 obtain⟨b,c,xs,rfl,hb,hc,ho,hl,h⟩:=h;refine⟨_,(Zb (Zz (PW.pt (W4 (Xl (Xh (Zo (Wo (K:=K) rfl) (by rfl) T.zky PyProof.Rows.boot_isinstance (Za (pv 0) (Za (Up rfl T.zlk PyProof.Rows.boot_list (show RelV (.ty "list") _ from rfl)) Zd))))) (X9 (Zn Nk (Zo (cL K) (by rfl) T.zku PySem.boot_len (Za (pv 0) Zd)) (Zo (cL K) (by rfl) T.zku PySem.boot_len (Za (pv 1) Zd)) (Zr _)))))
  (Ze (Zm Xs))
  Zp)
 (Zb (Y5 PassesOwn.leaving rfl (Xk rfl T.zlj (Za (Zo (cL K) (by rfl) T.zku PySem.boot_len (Za (pv 1) Zd)) Zd)) (pN 2 Q7.nd)
  (Ze (Zz (Xl (Xh (pF zk3 hr (Za (pI (iL K) (pv 0) (pv 2)) (Za (pI (iL K) (pv 1) (pv 2)) Zd)))))
   (Ze (Zm Xs))
   Zp)))
 (Ze (Zm Xs)))),?_⟩
 refine⟨_,rfl,_,_,_,_,rfl,.of (.lst hb),.inl ⟨_,rfl⟩,Jt K,_,rfl,?_⟩;refine iteF ?_;refine⟨_,rfl,b,_,rfl,.inl (SqL.of hb),_,rfl,c,_,rfl,.inl hc,rfl,_,rfl,?_⟩;rw[zsy rfl];refine iteF ?_;refine⟨_,rfl,c,_,rfl,.inl hc,_,rfl,by omega,by omega,Xu (fun i σ H'=>H'=H/\(∃ v,σ=[some (.ref b),some (.ref c),v])) ⟨rfl,⟨_,rfl⟩⟩ (fun i σ H' hi ⟨e,⟨v,hv⟩⟩=>?_) (fun σ H' ⟨e,⟨v,hv⟩⟩=>?_)⟩
 ·subst e hv
  rw[zta] at hi
  have h1:xs[i]?=some (xs[i]'hi):=zsu hi;rw[zub];refine⟨_,rfl,_,rfl,b,_,_,_,rfl,rfl,SqL.of hb,Z4 h1,_,rfl,_,rfl,c,_,_,_,rfl,rfl,hc,Z4 h1,_,rfl,ho _ (ztp hi),_,rfl,?_⟩;exact iteF ⟨rfl,⟨_,rfl⟩⟩
 ·subst e hv
  exact h
abbrev Tu:Stmt:=top 64
theorem R9:Zl ["_law_found","_law_due","_law_k"] ["_law_found","_law_due"] (Zj Tu):=fnS
theorem K5(F:Fun K "_law_tuple_is" "_law_tuple_is" Tu f fd)(T:Tx K mg a)(zk3:Z1 P w K mg base "_law_one_is" 2 ["_law_found","_law_due"] Nu):FnOk P w K mg base (CX1 P w) 3 f fd ["_law_found","_law_due"] (Fu K):=by
 refine F.okX R9 (by walk_at "ar") fun _ _ _ _ H _ Q E hr h=>?_
 obtain⟨b,c,xs,rfl,hb,hc,ho,hl,h⟩:=h;refine⟨_,(Zb (Zz (PW.pt (W4 (Xl (Xh (Zo (Wo (K:=K) rfl) (by rfl) T.zky PyProof.Rows.boot_isinstance (Za (pv 0) (Za (Up rfl T.znu PyProof.Rows.boot_tuple (show RelV (.ty "tuple") _ from rfl)) Zd))))) (X9 (Zn Nk (Zo (cL K) (by rfl) T.zku PySem.boot_len (Za (pv 0) Zd)) (Zo (cL K) (by rfl) T.zku PySem.boot_len (Za (pv 1) Zd)) (Zr _)))))
  (Ze (Zm Xs))
  Zp)
 (Zb (Y5 PassesOwn.leaving rfl (Xk rfl T.zlj (Za (Zo (cL K) (by rfl) T.zku PySem.boot_len (Za (pv 1) Zd)) Zd)) (pN 2 R9.nd)
  (Ze (Zz (Xl (Xh (pF zk3 hr (Za (pI (iU K) (pv 0) (pv 2)) (Za (pI (iU K) (pv 1) (pv 2)) Zd)))))
   (Ze (Zm Xs))
   Zp)))
 (Ze (Zm Xs)))),?_⟩
 refine⟨_,rfl,_,_,_,_,rfl,.of (.tup hb),.inl ⟨_,rfl⟩,Av K,_,rfl,?_⟩;refine iteF ?_;refine⟨_,rfl,b,_,rfl,.inr (SqT.of hb),_,rfl,c,_,rfl,.inr hc,rfl,_,rfl,?_⟩;rw[zsy rfl];refine iteF ?_;refine⟨_,rfl,c,_,rfl,.inr hc,_,rfl,by omega,by omega,Xu (fun i σ H'=>H'=H/\(∃ v,σ=[some (.ref b),some (.ref c),v])) ⟨rfl,⟨_,rfl⟩⟩ (fun i σ H' hi ⟨e,⟨v,hv⟩⟩=>?_) (fun σ H' ⟨e,⟨v,hv⟩⟩=>?_)⟩
 ·subst e hv
  rw[zta] at hi
  have h1:xs[i]?=some (xs[i]'hi):=zsu hi;rw[zub];refine⟨_,rfl,_,rfl,b,_,_,_,rfl,rfl,SqT.of hb,Z4 h1,_,rfl,_,rfl,c,_,_,_,rfl,rfl,hc,Z4 h1,_,rfl,ho _ (ztp hi),_,rfl,?_⟩;exact iteF ⟨rfl,⟨_,rfl⟩⟩
 ·subst e hv
  exact h
abbrev Tv:Stmt:=top 65
theorem Qa:Zl ["_law_found","_law_due","_law_k"] ["_law_found","_law_due"] (Zj Tv):=fnS
theorem K6(F:Fun K "_law_rows_are" "_law_rows_are" Tv f fd)(T:Tx K mg a)(zni:Z1 P w K mg base "_law_tuple_is" 3 ["_law_found","_law_due"] (Fu K)):FnOk P w K mg base (CX1 P w) 4 f fd ["_law_found","_law_due"] (Fv K):=by
 refine F.okX Qa (by walk_at "ar") fun _ _ _ _ H _ Q E hr h=>?_
 obtain⟨b,c,ts,us,R,rfl,hb,hc,tl,ul,ho,hl,h⟩:=h;refine⟨_,(Zb (Zz (PW.pt (W4 (Xl (Xh (Zo (Wo (K:=K) rfl) (by rfl) T.zky PyProof.Rows.boot_isinstance (Za (pv 0) (Za (Up rfl T.zlk PyProof.Rows.boot_list (show RelV (.ty "list") _ from rfl)) Zd))))) (X9 (Zn Nk (Zo (cL K) (by rfl) T.zku PySem.boot_len (Za (pv 0) Zd)) (Zo (cL K) (by rfl) T.zku PySem.boot_len (Za (pv 1) Zd)) (Zr _)))))
  (Ze (Zm Xs))
  Zp)
 (Zb (Y5 PassesOwn.leaving rfl (Xk rfl T.zlj (Za (Zo (cL K) (by rfl) T.zku PySem.boot_len (Za (pv 1) Zd)) Zd)) (pN 2 Qa.nd)
  (Ze (Zz (Xl (Xh (pF zni hr (Za (pI (iL K) (pv 0) (pv 2)) (Za (pI (iL K) (pv 1) (pv 2)) Zd)))))
   (Ze (Zm Xs))
   Zp)))
 (Ze (Zm Xs)))),?_⟩
 have el:ts.length=us.length:=by rw[tl.length,ul.length]
 have hul:=ul.length;refine⟨_,rfl,_,_,_,_,rfl,.of (.lst hb),.inl ⟨_,rfl⟩,Jt K,_,rfl,?_⟩;refine iteF ?_;refine⟨_,rfl,b,_,rfl,.inl (SqL.of hb),_,rfl,c,_,rfl,.inl hc,rfl,_,rfl,?_⟩;rw[el,zsy rfl];refine iteF ?_;refine⟨_,rfl,c,_,rfl,.inl hc,_,rfl,by omega,by omega,Xu (fun i σ H'=>H'=H/\(∃ v,σ=[some (.ref b),some (.ref c),v])) ⟨rfl,⟨_,rfl⟩⟩ (fun i σ H' hi ⟨e,⟨v,hv⟩⟩=>?_) (fun σ H' ⟨e,⟨v,hv⟩⟩=>?_)⟩
 ·subst e hv
  rw[zta] at hi
  have hR:i<R.length:=by rw[<- ul.length];exact hi
  obtain⟨t1,e1,q1⟩:=tl.getR (zsu hR);obtain⟨t2,e2,q2⟩:=ul.getR (zsu hR);obtain⟨o1,o2⟩:=ho _ (ztp hR);rw[zub];refine⟨_,rfl,_,rfl,b,_,_,_,rfl,rfl,SqL.of hb,Z4 e1,_,rfl,_,rfl,c,_,_,_,rfl,rfl,hc,Z4 e2,t1,t2,_,rfl,q1,SqT.of q2,o2,o1,_,rfl,?_⟩;exact iteF ⟨rfl,⟨_,rfl⟩⟩
 ·subst e hv
  exact h
abbrev Um:Stmt:=top 66
theorem V3:Zl ["_law_may","_law_given","_law_seen","_law_k"] ["_law_may","_law_given"] (Zj Um):=fnS
theorem Me(F:Fun K "_law_is_filling" "_law_is_filling" Um f fd)(T:Tx K mg a)(zlh:Z1 P w K mg base "_law_whole" 1 ["_law_found"] Je):FnOk P w K mg base (CX1 P w) 2 f fd ["_law_may","_law_given"] (L8 K):=by
 refine F.okX V3 (by walk_at "ar") fun _ _ _ _ H _ Q E hr h=>?_
 obtain⟨l,lg,ls,rows,gs,rfl,hl,il,hrl,hg,FP,h⟩:=h;have hu:=Wl hr;refine⟨_,(Zb (Zz (PW.pt (W4 (Xl (Xh (Zo (Wo (K:=K) rfl) (by rfl) T.zky PyProof.Rows.boot_isinstance (Za (pv 1) (Za (Up rfl T.zlk PyProof.Rows.boot_list (show RelV (.ty "list") _ from rfl)) Zd))))) (X9 (Zn Nk (Zo (cL K) (by rfl) T.zku PySem.boot_len (Za (pv 1) Zd)) (Zo (cL K) (by rfl) T.zku PySem.boot_len (Za (pv 0) Zd)) (Zr _)))))
  (Ze (Zm Xs))
  Zp)
 (Zb (pS 2 V3.nd Jo)
 (Zb (Y5 PassesOwn.leaving rfl (Xk rfl T.zlj (Za (Zo (cL K) (by rfl) T.zku PySem.boot_len (Za (pv 0) Zd)) Zd)) (pN 3 V3.nd)
  (Ze (Zz (Zn W9 (pI (iL K) (pv 1) (pv 3)) Yl (Zr _))
   (Zb (Zz (PW.pt (W4 (Xl (Xh (pF zlh hr (Za (pI (iL K) (pv 1) (pv 3)) Zd)))) (W4 (Zn (Wq (K:=K) rfl) (pI (iL K) (pv 1) (pv 3)) (pI (iL K) (pv 0) (pv 3)) (by with_unfolding_all rfl)) (X9 (Td (Oi hu (pI (iL K) (pv 1) (pv 3)) (pv 2)))))))
    (Ze (Zm Xs))
    Zp)
   (Ze (Yj hu (pv 2) (pI (iL K) (pv 1) (pv 3)) Xs rfl)))
   Zp)))
 (Ze (Zm Xs))))),?_⟩
 refine⟨_,rfl,_,_,_,_,rfl,.of (.lst hg),.inl ⟨_,rfl⟩,Jt K,_,rfl,?_⟩;refine iteF ?_;refine⟨_,rfl,lg,_,rfl,.inl (SqL.of hg),_,rfl,l,_,rfl,.inl (SqL.of hl),rfl,_,rfl,?_⟩;rw[zst,il.length,FP.len,zsy rfl];refine iteF ?_;intro ld hld;have s0:=Zf (o:=.dK []) hld;have q0:upd H ld (.dK []) ld=some (.dK []):=Zc;generalize upd H ld (.dK [])=H1 at s0 q0
 refine⟨_,rfl,l,_,rfl,.inl (SqL.of (s0 _ _ hl)),_,rfl,by omega,by rw[zst,il.length];omega,?_⟩
 rw[zst,il.length,zta]
 let jv1:Nat->L2.St->Hp->Prop:=fun i σ H'=>(∃ v3,σ=[some (.ref l),some (.ref lg),some (.ref ld),v3])/\Same H H'/\∃ kvs,H' ld=some (.dK kvs)/\kvs.length<=i/\∀ n:Int,(valV kvs (Sum.inl n:Key)).isSome=true->∃ j,j<i/\gs[j]?=some (.int n)
 refine Xu jv1 ⟨⟨_,rfl⟩,s0,[],q0,zs3 _,fun n z=>(nomatch z)⟩ ?_ ?_
 ·rintro i σ H' hi ⟨⟨v3,rfl⟩,sm,kvs,hd,hkl,hks⟩
  rw[zub];have hgi:i<gs.length:=by rw[FP.len];exact hi
  have hx:gs[i]?=some (gs[i]'hgi):=zsu hgi;have hone:=FP.one _ (ztp hgi);generalize (gs[i]'hgi)=x at hx hone
  refine⟨_,rfl,_,rfl,lg,_,_,_,rfl,rfl,SqL.of (sm _ _ hg),Z4 hx,rfl,_,rfl,?_⟩;rcases hone with rfl|⟨n,rfl⟩
  ·refine iteF ?_
   refine⟨⟨_,rfl⟩,sm,kvs,hd,by omega,fun n hn=>?_⟩
   obtain⟨j,h1,h2⟩:=hks n hn;exact⟨j,by omega,h2⟩
  ·refine iteT ?_
   obtain⟨r,hr',hnr⟩:=FP.may i n hx;obtain⟨lr,e1,e2⟩:=il.getR hr';have hl':(ls.map V.ref)[i]?=some (.ref lr):=by rw[zs0,e1];rfl
   have hno:valV kvs (Sum.inl n:Key)=none:=by
    cases q:valV kvs (Sum.inl n:Key) with
    | none=>rfl
    | some v =>
      obtain⟨j,h1,h2⟩:=hks n (by rw[q];rfl)
      exact absurd (FP.inj j i n h2 hx) (by omega)
   have gx:∀ {Q:VK},Q (.int n) H'->∃ v,([some (V.ref l),some (V.ref lg),some (V.ref ld),some (V.int (i:Int))]:L2.St)[1]?=some (some v)/\∃ w,([some (V.ref l),some (V.ref lg),some (V.ref ld),some (V.int (i:Int))]:L2.St)[3]?=some (some w)/\Gb K v w H' Q:=fun q=>⟨_,rfl,_,rfl,lg,_,_,_,rfl,rfl,SqL.of (sm _ _ hg),Z4 hx,q⟩
   walk_at "if";refine Y7 (Xq (b:=false) (W8 (b:=false) (c:=false) (fun Q q=>⟨_,rfl,_,rfl,lg,_,_,_,rfl,rfl,SqL.of (sm _ _ hg),Z4 hx,n,rfl,_,rfl,q⟩) (W8 (b:=false) (c:=false) (fun Q q=>⟨_,rfl,_,rfl,lg,_,_,_,rfl,rfl,SqL.of (sm _ _ hg),Z4 hx,_,rfl,_,rfl,l,_,_,_,rfl,rfl,SqL.of (sm _ _ hl),Z4 hl',lr,_,rfl,.inl (SqL.of (sm _ _ e2)),rfl,Mu r,_,rfl,by rw[Ph,zsy hnr];exact q⟩)
    (fun Q q=>⟨_,rfl,_,rfl,lg,_,_,_,rfl,rfl,SqL.of (sm _ _ hg),Z4 hx,_,rfl,ld,_,rfl,DGet.k (k:=Sum.inl n) hd,_,rfl,by rw[hno];exact q⟩))) (iteF (Zu ?_)))
   refine⟨_,rfl,_,rfl,_,rfl,lg,_,_,_,rfl,rfl,SqL.of (sm _ _ hg),Z4 hx,ld,_,rfl,DPut.k (k:=Sum.inl n) hd (Ub (by omega)),?_⟩
   refine⟨⟨_,rfl⟩,Z6 hld sm,_,Zc,ztb (Xi _ _ _) (by omega),fun n' hn'=>?_⟩
   rw[Vp] at hn'
   by_cases e:(Sum.inl n':Key)=Sum.inl n
   ·cases e;exact⟨i,zux _,hx⟩
   ·rw[if_neg e] at hn'
    obtain⟨j,h1,h2⟩:=hks n' hn';exact⟨j,by omega,h2⟩
 ·rintro σ H' ⟨⟨v3,rfl⟩,sm,_⟩
  exact h H' sm
abbrev Tw:Stmt:=top 67
theorem Xw:Zl ["_law_may","_law_given","_law_place","_law_steps_here","_law_here","_law_k","_law_spot","_law_number"] ["_law_may","_law_given","_law_place","_law_steps_here"] (Zj Tw):=fnS
theorem K7(F:Fun K "_law_is_chain" "_law_is_chain" Tw f fd)(T:Tx K mg a)(zlh:Z1 P w K mg base "_law_whole" 1 ["_law_found"] Je):FnOk P w K mg base (CX1 P w) 2 f fd ["_law_may","_law_given","_law_place","_law_steps_here"] (F5 K):=by
 refine F.okX Xw (by walk_at "ar") fun _ _ _ _ H _ Q E hr h=>?_
 obtain⟨l,lg,lt,ls,rows,gs,ts,p,e,st,w,rfl,hl,il,hrl,hg,FP,hp,ht,tl,hst,hc,hw,h⟩:=h;refine⟨_,(Zb (Zz (Xl (Xh (Zo (Wo (K:=K) rfl) (by rfl) T.zky PyProof.Rows.boot_isinstance (Za (pv 3) (Za (Up rfl T.zlk PyProof.Rows.boot_list (show RelV (.ty "list") _ from rfl)) Zd)))))
  (Ze (Zm Xs))
  Zp)
 (Zb (pS 4 Xw.nd (pv 2))
 (Zb (Y5 PassesOwn.leaving rfl (Xk rfl T.zlj (Za (Zo (cL K) (by rfl) T.zku PySem.boot_len (Za (pv 3) Zd)) Zd)) (pN 5 Xw.nd)
  (Zb (Zz (PW.pt (W4 (Xl (Xh (Zo (Wo (K:=K) rfl) (by rfl) T.zky PyProof.Rows.boot_isinstance (Za (pI (iL K) (pv 3) (pv 5)) (Za (Up rfl T.znu PyProof.Rows.boot_tuple (show RelV (.ty "tuple") _ from rfl)) Zd))))) (X9 (Zn Nk (Zo (cL K) (by rfl) T.zku PySem.boot_len (Za (pI (iL K) (pv 3) (pv 5)) Zd)) Zg (Zr _)))))
   (Ze (Zm Xs))
   Zp)
  (Zb (Qg (pI (iL K) (pv 3) (pv 5)) (Wu (K:=K) (n:=2) rfl rfl (Z0 (pN 6 Xw.nd) (Z0 (pN 7 Xw.nd) Ws))))
  (Zb (Zz (PW.pt (W4 (Xl (Xh (pF zlh hr (Za (pv 6) Zd)))) (X9 (Zn Nk (pv 6) (pv 4) (Zr _)))))
   (Ze (Zm Xs))
   Zp)
  (Zb (Zz (Zn Of (pv 7) Yl (Zr _))
   (Ze (Zm (W3 Xt (Zs Yu (pv 5) Zg) (Zo (cL K) (by rfl) T.zku PySem.boot_len (Za (pv 3) Zd)) (Zr _))))
   Zp)
  (Zb (Zz (PW.pt (W4 (Xl (Xh (pF zlh hr (Za (pv 7) Zd)))) (X9 (Zn (Wq (K:=K) rfl) (pv 7) (pI (iL K) (pv 0) (pv 4)) (by with_unfolding_all rfl)))))
   (Ze (Zm Xs))
   Zp)
  (Zb (Zz (Zn (Wq (K:=K) rfl) (pv 7) (pv 1) (by with_unfolding_all rfl))
   (Ze (Zm (W3 Xt (Zs Yu (pv 5) Zg) (Zo (cL K) (by rfl) T.zku PySem.boot_len (Za (pv 3) Zd)) (Zr _))))
   Zp)
  (Ze (pS 4 Xw.nd (zdz PySem.F.plainAttrs_list PySem.F.slot_list_index PySem.F.type_list_index Jy (pv 1) (Za (pv 7) Zd)))))))))))
 (Ze (Zm Xs))))),?_⟩
 show let y1:TS:=_;let y2:TS:=Zx _ y1;let y3:TS:=Zx _ y2;let y4:TS:=Zx _ y3;let y5:TS:=Zx _ y4;let y6:TS:=Zx _ y5;let y7:TS:=_;let y8:TS:=Zx (zfj _ _ (Zx _ y6)) y7;let y9:TS:=Zx _ y8;Zx _ y9 _ _ _;intro y1 y2 y3 y4 y5 y6 y7 y8 y9;have htl:ts.length=st.length:=by rw[tl.length,zst]
 have hgf:gs.all U6=true:=zuf.mpr fun z hz=>Nv (FP.one z hz)
 refine⟨_,rfl,_,_,_,_,rfl,.of (.lst ht),.inl ⟨_,rfl⟩,Jt K,_,rfl,?_⟩;refine iteF ?_;refine⟨_,rfl,?_⟩;refine⟨_,rfl,lt,_,rfl,.inl (SqL.of ht),_,rfl,by omega,by omega,?_⟩
 rw[htl,zta]
 let jv2:Nat->L2.St->Hp->Prop:=fun i σ H'=>H'=H/\∃ (q:Nat) (v5 v6 v7:Option V),σ=[some (.ref l),some (.ref lg),some (.int p),some (.ref lt),some (.int q),v5,v6,v7]/\q<rows.length/\Ch rows gs q (st.drop i) e w
 refine Xu jv2 ⟨rfl,p,_,_,_,rfl,hp,hc⟩ ?_ ?_
 ·rintro i σ H' hi ⟨rfl,q,v5,v6,v7,rfl,hq,hci⟩
  rw[zub];obtain⟨x,rest,ed⟩:=hci.hd;have hsi:st[i]?=some (q,x):=by
   have:(st.drop i)[0]?=some (q,x):=by rw[ed];rfl
   rw[List.getElem?_drop,Nat.add_zero] at this;exact this
  obtain⟨t,e1,htt⟩:=zba tl hsi;have hlen:st.length=i+(rest.length+1):=by
   have:=congrArg List.length ed;rw[List.length_drop,zti] at this
   omega
  walk_at "if";refine Y7 (Xq (b:=false) (W8 (b:=false) (c:=false) (fun Q k=>⟨_,rfl,_,rfl,lt,_,_,_,rfl,rfl,SqL.of ht,Z4 e1,_,_,_,_,rfl,.of (.tup htt),.inl ⟨_,rfl⟩,Av K,_,rfl,k⟩) (fun Q k=>⟨_,rfl,_,rfl,lt,_,_,_,rfl,rfl,SqL.of ht,Z4 e1,t,_,rfl,.inr (SqT.of htt),rfl,_,rfl,k⟩)) (iteF (Zu ?_)))
  refine⟨_,rfl,_,rfl,lt,_,_,_,rfl,rfl,SqL.of ht,Z4 e1,t,_,rfl,SqT.of htt,rfl,_,_,rfl,_,_,rfl,rfl,?_⟩;walk_at "if";refine Y7 (Xq (b:=false) (W8 (b:=false) (c:=false) (fun Q k=>⟨_,rfl,_,rfl,_,rfl,k⟩) (fun Q k=>⟨_,rfl,_,rfl,rfl,_,rfl,by rw[zsy rfl];exact k⟩)) (iteF (Zu ?_)))
  have fin:rest.length=0->∀ {Q':VK},Q' (.bl true) H'->∀ {D:Pp} {σ2:L2.St},D.rt=Q'->σ2[5]?=some (some (.int (i:Int)))->σ2[3]?=some (some (.ref lt))->zdh (tOp rEq (tOp (rI0 fun i j=>V.int (i+j)) (tVar 5) (tC (V.int 1))) (tCB (fun xs H Q=>∃ p ys,xs=[V.ref p]/\(SqL K H p ys\/SqT K H p ys)/\Q (V.int (ys.length:Nat)) H) (P8 (tVar 3) tNil))) D σ2 H':=fun h0 {Q'} q {D} {σ2} hD h5 h3=>by
   refine⟨_,h5,_,_,rfl,rfl,_,h3,lt,_,rfl,.inl (SqL.of ht),rfl,?_⟩;rw[hD,htl,zsy (by rw[hlen,h0];rfl)]
   exact q
  refine⟨_,rfl,rfl,_,rfl,?_⟩;cases x with
  | none =>
    refine iteT ?_;have h0:rest.length=0:=by
     rw[ed] at hci
     cases hci with
     | one q w=>rfl
    exact fin h0 h rfl rfl rfl
  | some n =>
    refine iteF (Zu ?_);have hr':rows[q]?=some (rows[q]'hq):=zsu hq;generalize (rows[q]'hq)=r at hr'
    obtain⟨lr,e2,e3⟩:=il.getR hr';have hl':(ls.map V.ref)[q]?=some (.ref lr):=by rw[zs0,e2];rfl
    have hnr:n∈r:=by
     have:∃ r,rows[q]?=some r/\n∈r:=by
      rw[ed] at hci
      cases hci with
      | one q w=>exact(hw n rfl).1
      | step a h=>exact a.1
     obtain⟨r',h1,h2⟩:=this;rw[hr'] at h1;cases h1;exact h2
    walk_at "if";refine Y7 (Xq (b:=false) (W8 (b:=false) (c:=false) (fun Q k=>⟨_,rfl,n,rfl,_,rfl,k⟩) (fun Q k=>⟨_,rfl,_,rfl,_,rfl,l,_,_,_,rfl,rfl,SqL.of hl,Z4 hl',lr,_,rfl,.inl (SqL.of e3),rfl,Mu r,_,rfl,by rw[show oV (some n)=V.int n from rfl,Ph,zsy hnr];exact k⟩)) (iteF (Zu ?_)))
    refine⟨_,rfl,_,rfl,lg,gs,rfl,.inl (SqL.of hg),rfl,hgf,_,rfl,?_⟩;rw[if_pos rfl];rw[ed] at hci
    cases hci with
    | one q w =>
      have hno:inV (.int n) gs=false:=by
       rw[Bool.eq_false_iff];intro z;obtain⟨j,hj⟩:=(S7 FP.one).mp z;exact(hw n rfl).2 j hj
      rw[show inV (oV (some n)) gs=false from hno]
      refine iteT ?_;exact fin rfl h rfl rfl rfl
    | @step q q' e n st' w a hc' =>
      have hin:inV (.int n) gs=true:=(S7 FP.one).mpr ⟨q',a.2⟩;rw[show inV (oV (some n)) gs=true from hin]
      refine iteF ?_;have hq':q' < rows.length:=by
       have:=(zsv.mp a.2).1;rw[FP.len] at this;exact this
      refine⟨_,rfl,.inl ⟨rfl,_,SqL.of hg⟩,_,rfl,lg,gs,.int n,q',rfl,rfl,hg,rfl,hgf,⟨_,a.2,by show (n == n)=true;simp⟩,fun m z hm hz=>?_,rfl,q',_,_,_,rfl,hq',?_⟩
      ·rw[Bool.eq_false_iff]
       intro k;have:=(Rl (FP.one z (zs5 hz))).mp k;subst this;exact absurd (FP.inj m q' n hz a.2) (by omega)
      ·have:st.drop (i+1)=rest:=by
        rw[<- List.drop_drop,ed];rfl
       rw[this];exact hc'
 ·rintro σ H' ⟨rfl,q,v5,v6,v7,rfl,hq,hci⟩
  rw[List.drop_length] at hci
  cases hci
abbrev Q8:Stmt:=top 68
theorem Wj:Zl ["_law_may","_law_given","_law_place","_law_known","_law_news","_law_more","_law_here","_law_there"] ["_law_may","_law_given","_law_place"] (Zj Q8):=fnS
theorem Du(F:Fun K "_law_steps" "_law_steps" Q8 f fd)(T:Tx K mg a):FnOk P w K mg base (CX1 P w) 1 f fd ["_law_may","_law_given","_law_place"] (zbb K):=by
 refine F.okX Wj (by walk_at "ar") fun _ _ _ _ H _ Q E hr h=>?_
 obtain⟨l,lg,ls,rows,gs,p,rfl,hl,il,hrl,hg,FP,hp,h⟩:=h;have hu:=Wl hr;refine⟨_,(Zb (pS 3 Wj.nd (Ep (Us (pv 2) Zg Eo) rfl rfl (by simp) (by decide)))
 (Zb (pS 4 Wj.nd (Z5 (Za (pv 2) Zd)))
 (Zb (Jj PassesOwn.leaving (Zn (Jd (K:=K) rfl hr.units) (pv 4) (Z5 Zd) (Zr _))
  (Zb (pS 5 Wj.nd (Z5 Zd))
  (Zb (Y5 PassesOwn.leaving rfl (Ye (K:=K) rfl (pv 4)) (pN 6 Wj.nd)
   (Ze (Y5 PassesOwn.leaving rfl (Xk rfl T.zlj (Za (Zo (cL K) (by rfl) T.zku PySem.boot_len (Za (pv 1) Zd)) Zd)) (pN 7 Wj.nd)
    (Ze (Zz (PW.pt (Sd (Zn (Oo (K:=K) rfl) (pI (iL K) (pv 1) (pv 7)) (pI (iL K) (pv 0) (pv 6)) (by with_unfolding_all rfl)) (Uq (Td (Pc hu (pv 7) (pv 3))))))
     (Zb (Yj hu (pv 3) (pv 7) (Zs Yu (pD hu (pv 3) (pv 6)) Zg) rfl)
     (Ze (Yk (pv 5) (pv 7))))
     Zp)))))
  (Ze (pS 4 Wj.nd (pv 5))))))
 (Ze (Zm (pv 3)))))),?_⟩
 show let y1:TS:=_;let y2:TS:=Zx _ y1;let y3:TS:=_;let y4:TS:=Zx (Ab _ (Zx _ y2)) y3;let y5:TS:=Zx _ y4;Zx _ y5 _ _ _;intro y1 y2 y3 y4 y5;intro ld hld;refine⟨_,rfl,Zc,[(Sum.inl (p:Int),.int 1)],rfl,(by show 1<=15;decide),?_⟩
 have s0:Same H (upd (upd H ld (.dK [])) ld (.dK (Ux [] [(Sum.inl (p:Int),.int 1)]))):=Z6 hld (Zf hld);have q0:upd (upd H ld (.dK [])) ld (.dK (Ux [] [(Sum.inl (p:Int),.int 1)])) ld=some (.dK (Y8 [p] (fun _=>0))):=Zc
 generalize upd (upd H ld (.dK [])) ld (.dK (Ux [] [(Sum.inl (p:Int),.int 1)]))=H1 at s0 q0
 refine⟨_,rfl,sz1,fun ln hln=>?_⟩
 have s1:=Zf (o:=.lst [.int p]) hln;have e1:upd H1 ln (.lst [.int p]) ln=some (.lst (Yh [p])):=Zc;have q1:=s1 _ _ q0;have s01:=s0.trans s1;have nln:ld≠ln:=Zh q0 hln;have fln:H ln=none:=s0.free hln;generalize upd H1 ln (.lst [.int p])=H2 at s1 e1 q1 s01
 have hbound:∀ line:List Nat,line.Nodup->(∀ c∈line,c<rows.length)->line.length<=rows.length:=fun line nd hc=>by
  have:=nd.length_le_of_subset (l₂:=List.range rows.length) fun c hcc=>zt1.mpr (hc c hcc)
  rw[zt3] at this;exact this
 refine⟨fun m σ H'=>∃ (line pre news:List Nat) (dep:Nat->Nat) (ln:Addr) (v5 v6 v7:Option V) (D:Nat),m=rows.length-pre.length/\line=pre++news/\σ=[some (.ref l),some (.ref lg),some (.int p),some (.ref ld),some (.ref ln),v5,v6,v7]/\Same H H'/\H' ld=some (.dK (Y8 line dep))/\H' ln=some (.lst (Yh news))/\ln≠ld/\Bfs rows gs p line dep/\Done rows gs line dep pre.length/\(∀ q∈line,q<rows.length)/\(∀ q∈line,dep q<=D)/\∀ q∈news,dep q=D,
  ⟨_,[p],[],[p],fun _=>0,ln,_,_,_,0,rfl,rfl,rfl,s01,q1,e1,Ne.symm nln,F3 rows gs p,fun i q hi=>absurd hi (zun _),by simpa using hp,fun q _=>zs3 _,fun q _=>rfl⟩,?_⟩
 rintro m σ Ha ⟨line,pre,news,dep,ln',v5,v6,v7,D,rfl,rfl,rfl,sa,hda,hna,nn,B,Dn,hlt,hD1,hD2⟩;have hll:=hbound _ B.nodup hlt;rw[zsw] at hll
 refine⟨_,rfl,by show 0<=sizeLine;decide,fun m0 hm0=>⟨.lst ((news.map fun (k:Nat)=>((k:Nat):Int)).map Dt.int),.lst [],.lst (SqL.of (Zf hm0 _ _ hna)) (zbc news),.lst (SqL.of Zc) .nil,E3 _,T4,_,rfl,?_⟩⟩
 rw[if_pos rfl,Jf];have t0:=Zf (o:=.lst []) hm0;have sb:=sa.trans t0;have hdb:=t0 _ _ hda;have hnb:=t0 _ _ hna;generalize upd Ha m0 (.lst [])=Hb at t0 sb hdb hnb
 cases hne:(news.map fun (k:Nat)=>((k:Nat):Int)).isEmpty with
 | true =>
   refine iteF ?_;have e0:news=[]:=by
    cases news with
    | nil=>rfl
    | cons x xs=>cases hne
   subst e0;rw[zt4] at hdb B Dn hlt
   exact⟨_,rfl,h ld pre dep Hb hdb B Dn hlt sb hld⟩
 | false =>
   refine iteT ?_;have npos:0<news.length:=by
    cases news with
    | nil=>cases hne
    | cons x xs=>rw[zti];omega
   refine⟨fun σ' H'=>∃ (more:List Nat) (dep:Nat->Nat) (lm:Addr) (v5 v6 v7:Option V),σ'=[some (.ref l),some (.ref lg),some (.int p),some (.ref ld),some (.ref lm),v5,v6,v7]/\Same H H'/\H' ld=some (.dK (Y8 (pre++news++more) dep))/\H' lm=some (.lst (Yh more))/\lm≠ld/\Bfs rows gs p (pre++news++more) dep/\Done rows gs (pre++news++more) dep (pre++news).length/\(∀ q∈pre++news++more,q<rows.length)/\(∀ q∈pre++news++more,dep q<=D+1)/\∀ q∈more,dep q=D+1,
    fun σ' H' ⟨more,dep',lm,w5,w6,w7,a1,a2,a3,a4,a5,a6,a7,a8,a9,a10⟩=>⟨rows.length-(pre++news).length,by rw[zsw];omega,_,pre++news,more,dep',lm,w5,w6,w7,D+1,rfl,rfl,a1,a2,a3,a4,a5,a6,a7,a8,a9,a10⟩,?_⟩
   refine⟨by show 0<=sizeLine;decide,fun lm hlm=>?_⟩
   have t1:=Zf (o:=.lst []) hlm;have sc:=sb.trans t1;have hdc:=t1 _ _ hdb;have hnc:=t1 _ _ hnb;have qm:upd Hb lm (.lst []) lm=some (.lst (Yh [])):=Zc;have nmd:lm≠ld:=Ne.symm (Zh hdb hlm);have nmn:ln'≠lm:=Zh hnb hlm;have flm:H lm=none:=sb.free hlm;generalize upd Hb lm (.lst [])=Hc at t1 sc hdc hnc qm
   refine⟨_,rfl,ln',rfl,⟨_,SqL.of hnc⟩,?_⟩
   let jv3:Nat->L2.St->Hp->Prop:=fun j σ H'=>∃ (more:List Nat) (dep:Nat->Nat) (v6 v7:Option V),σ=[some (.ref l),some (.ref lg),some (.int p),some (.ref ld),some (.ref ln'),some (.ref lm),v6,v7]/\Same H H'/\H' ln'=some (.lst (Yh news))/\H' ld=some (.dK (Y8 (pre++news++more) dep))/\H' lm=some (.lst (Yh more))/\Bfs rows gs p (pre++news++more) dep/\Done rows gs (pre++news++more) dep (pre.length+j)/\(∀ q∈pre++news++more,q<rows.length)/\(∀ q∈pre++news++more,dep q<=D+1)/\(∀ q∈news,dep q=D)/\∀ q∈more,dep q=D+1
   refine Wa (K:=K) (a:=ln') (xs:=Yh news) jv3
    ⟨[],dep,_,_,rfl,sc,hnc,by rw[zt4];exact hdc,qm,by rw[zt4];exact B,by rw[zt4];exact Dn,by rw[zt4];exact hlt,by rw[zt4];exact fun q hq=>zt7 (hD1 q hq),hD2,by simp⟩ (fun j σ H' _ ⟨_,_,_,_,_,_,z,_⟩=>SqL.of z) ?_ ?_
   ·rintro j y σ Hx hy ⟨more,dx,w6,w7,rfl,sx,hnx,hdx,hmx,Bx,Dx,hlx,hd1,hd2,hd3⟩
    have hj:j<news.length:=by
     have:=(zsv.mp hy).1;unfold Yh at this;rw[zst] at this;exact this
    have hnj:news[j]?=some (news[j]'hj):=zsu hj;generalize (news[j]'hj)=here at hnj
    have ey:y=.int here:=by unfold Yh at hy;rw[zs0,hnj] at hy;exact(Option.some.inj hy).symm
    subst ey;have hhn:=zs5 hnj;have hhere:here<rows.length:=hlx here (ztf _ (zs9 _ hhn));have hidx:∀ more:List Nat,(pre++news++more)[pre.length+j]?=some here:=fun more=>by
     rw[ztv,zts (by omega),Nat.add_sub_cancel_left,ztt hj];exact hnj
    have hr':rows[here]?=some (rows[here]'hhere):=zsu hhere;generalize (rows[here]'hhere)=r at hr'
    obtain⟨lr,e2,e3⟩:=il.getR hr';have hl':(ls.map V.ref)[here]?=some (.ref lr):=by rw[zs0,e2];rfl
    refine⟨_,rfl,lg,_,rfl,.inl (SqL.of (sx _ _ hg)),_,rfl,by omega,by rw[FP.len];omega,?_⟩
    rw[FP.len,zta]
    let jv4:Nat->L2.St->Hp->Prop:=fun t σ H'=>∃ (more:List Nat) (dep:Nat->Nat) (v7:Option V),σ=[some (.ref l),some (.ref lg),some (.int p),some (.ref ld),some (.ref ln'),some (.ref lm),some (.int here),v7]/\Same H H'/\H' ln'=some (.lst (Yh news))/\H' ld=some (.dK (Y8 (pre++news++more) dep))/\H' lm=some (.lst (Yh more))/\Bfs rows gs p (pre++news++more) dep/\Done rows gs (pre++news++more) dep (pre.length+j)/\(∀ q∈pre++news++more,q<rows.length)/\(∀ q∈pre++news++more,dep q<=D+1)/\(∀ q∈news,dep q=D)/\(∀ q∈more,dep q=D+1)/\∀ q',q' < t->∀ n,adjN rows gs here n q'->q'∈pre++news++more
    refine Xu jv4
     ⟨more,dx,_,rfl,sx,hnx,hdx,hmx,Bx,Dx,hlx,hd1,hd2,hd3,fun q' hq'=>absurd hq' (zun _)⟩ ?_ ?_
    ·rintro t σ Hy ht ⟨more,dy,u7,rfl,sy,hny,hdy,hmy,By,Dy,hly,hy1,hy2,hy3,hy4⟩
     rw[zub];have hgt:t<gs.length:=by rw[FP.len];exact ht
     have hx:gs[t]?=some (gs[t]'hgt):=zsu hgt;have hone:=FP.one _ (ztp hgt);generalize (gs[t]'hgt)=x at hx hone
     have hyl:=hbound _ By.nodup hly;have hdh:dy here=D:=hy2 here hhn;refine Xq (b:=inV x (r.map V.int) && !(valV (Y8 (pre++news++more) dy) (Sum.inl (t:Int):Key)).isSome) (Mr (fun Q k=>⟨_,rfl,_,rfl,lg,_,_,_,rfl,rfl,SqL.of (sy _ _ hg),Z4 hx,_,rfl,_,rfl,l,_,_,_,rfl,rfl,SqL.of (sy _ _ hl),Z4 hl',lr,_,rfl,.inl (SqL.of (sy _ _ e3)),Nv hone,Mu r,_,rfl,k⟩) (fun Q k=>⟨_,rfl,_,rfl,ld,_,rfl,DGet.k (k:=Sum.inl (t:Int)) hdy,_,rfl,k⟩)) ?_
     refine itB (fun hb=>?_) (fun hb=>?_)
     ·rw[zt6] at hb
      obtain⟨b1,b2⟩:=hb;have hnt:t∉pre++news++more:=fun z=>by rw[Ny z] at b2;cases b2
      obtain⟨n,rfl⟩:∃ n,x=.int n:=by
       rcases hone with rfl|z
       ·exfalso
        unfold inV at b1
        obtain⟨w',hw',ew⟩:=List.any_eq_true.mp b1;obtain⟨z,_,rfl⟩:=zs2.mp hw';cases ew
       ·exact z
      rw[Ph,decide_eq_true_eq] at b1
      have ha:adjN rows gs here n t:=⟨⟨r,hr',b1⟩,hx⟩;obtain⟨B',old,all⟩:=By.app (dn:=pre.length+j) (hidx more) (fun z hz=>by rw[hdh];exact hy1 z hz) ha hnt
      have hkh:valV (Y8 (pre++news++more) dy) (Sum.inl (here:Int):Key)=some (.int ((dy here+1:Nat):Int)):=Ny (ztf _ (zs9 _ hhn));have hget:DGet Hy ld (.int here) (some (.int ((dy here+1:Nat):Int))):=by rw[<- hkh];exact DGet.k (k:=Sum.inl (here:Int)) hdy
      refine⟨_,rfl,_,rfl,ld,_,rfl,hget,_,_,rfl,rfl,_,rfl,_,rfl,ld,_,rfl,DPut.k (k:=Sum.inl (t:Int)) hdy (Ub (by rw[zcj];omega)),?_⟩
      have ek:putK (Y8 (pre++news++more) dy) (Sum.inl (t:Int)) (.int (((dy here+1:Nat):Int)+1))=Y8 (pre++news++(more++[t])) (X2 dy t (dy here+1)):=by
       rw[show (((dy here+1:Nat):Int)+1)=((dy here+1+1:Nat):Int) from rfl,zci hnt,ztv (pre++news)]
      rw[ek];have hm2:upd Hy ld (.dK (Y8 (pre++news++(more++[t])) (X2 dy t (dy here+1)))) lm=some (.lst (Yh more)):=by rw[Zi nmd];exact hmy
      refine⟨_,rfl,lm,_,rfl,hm2,_,rfl,_,hm2,Ub (by unfold Yh;rw[zst];rw[zsw] at hyl;omega),?_⟩
      rw[ztv (pre++news)] at B' all
      refine⟨more++[t],X2 dy t (dy here+1),_,rfl,Z6 flm (Z6 hld sy),?_,?_,?_,B',?_,?_,?_,?_,?_,?_⟩
      ·rw[Zi nmn,Zi nn];exact hny
      ·rw[Zi (Ne.symm nmd),Zc]
      ·rw[Zc];unfold Yh;rw[zs1];rfl
      ·exact Dy.app (by rw[zsw,zsw];omega) ⟨[t],by rw[ztv (pre++news)]⟩ old
      ·intro q hq
       rw[<- ztv] at hq
       rcases zs6.mp hq with z|z
       ·exact hly q z
       ·rw[zsx.mp z];exact ht
      ·intro q hq
       have:=all q hq;omega
      ·intro q hq
       rw[old q (ztf _ (zs9 _ hq))];exact hy2 q hq
      ·intro q hq
       rcases zs6.mp hq with z|z
       ·rw[old q (zs9 _ z)];exact hy3 q z
       ·rw[zsx.mp z];unfold X2;rw[if_pos rfl,hdh]
      ·intro q' hq' n' a'
       rw[<- ztv];by_cases hqt:q'=t
       ·rw[hqt];exact zs9 _ (by simp)
       ·exact ztf _ (hy4 q' (by omega) n' a')
     ·refine⟨more,dy,_,rfl,sy,hny,hdy,hmy,By,Dy,hly,hy1,hy2,hy3,fun q' hq' n' a'=>?_⟩
      by_cases hqt:q'=t
      ·subst hqt
       have hxn:x=.int n':=by have:=a'.2;rw[hx] at this;exact Option.some.inj this
       subst hxn;obtain⟨r',g1,g2⟩:=a'.1;rw[hr'] at g1;cases g1
       rw[Ph,zsy g2,Bool.true_and] at hb
       cases hv:decide (q'∈pre++news++more) with
       | true=>exact of_decide_eq_true hv
       | false=>rw[F7 (of_decide_eq_false hv)] at hb;cases hb
      ·exact hy4 q' (by omega) n' a'
    ·rintro σ Hy ⟨more,dy,u7,rfl,sy,hny,hdy,hmy,By,Dy,hly,hy1,hy2,hy3,hy4⟩
     refine⟨more,dy,_,_,rfl,sy,hny,hdy,hmy,By,fun i q hi e n q' a'=>?_,hly,hy1,hy2,hy3⟩
     by_cases hij:i<pre.length+j
     ·exact Dy i q hij e n q' a'
     ·have:i=pre.length+j:=by omega
      subst this;rw[hidx more] at e
      cases e;have hq':q' < rows.length:=by
       have:=(zsv.mp a'.2).1;rw[FP.len] at this;exact this
      have hin:=hy4 q' hq' n a';exact⟨hin,by rw[hy2 here hhn];exact hy1 q' hin⟩
   ·rintro σ Hx ⟨more,dx,w6,w7,rfl,sx,hnx,hdx,hmx,Bx,Dx,hlx,hd1,hd2,hd3⟩
    refine⟨_,rfl,more,dx,lm,_,_,_,rfl,sx,hdx,hmx,nmd,Bx,?_,hlx,hd1,hd3⟩;rw[zsw];unfold Yh at Dx
    rw[zst] at Dx
    exact Dx
abbrev Sw:Stmt:=top 69
theorem V4:Zl ["_law_may","_law_given","_law_known","_law_counts","_law_here","_law_number"] ["_law_may","_law_given","_law_known"] (Zj Sw):=fnS
theorem Hr(F:Fun K "_law_to_free" "_law_to_free" Sw f fd)(T:Tx K mg a):FnOk P w K mg base (CX1 P w) 1 f fd ["_law_may","_law_given","_law_known"] (Cz K):=by
 refine F.okX V4 (by walk_at "ar") fun _ _ _ _ H _ Q E hr h=>?_
 obtain⟨l,lg,lk,ls,rows,gs,line,dep,rfl,hl,il,hrl,hrr,hg,ho,hk,nd,hlt,h⟩:=h;have hu:=Wl hr;refine⟨_,(Zb (pS 3 V4.nd (Z5 Zd))
 (Zb (Y5 PassesOwn.leaving rfl (Ye (K:=K) rfl (Ys (Om rfl) (by rfl) T.zlk PyProof.Rows.boot_list (Za (pv 2) Zd))) (pN 4 V4.nd)
  (Ze (Y5 PassesOwn.leaving rfl (Ye (K:=K) rfl (pI (iL K) (pv 0) (pv 4))) (pN 5 V4.nd)
   (Ze (Zz (Zn (Wq (K:=K) rfl) (pv 5) (pv 1) (by with_unfolding_all rfl))
    (Ze (Yk (pv 3) (pD hu (pv 2) (pv 4))))
    Zp)))))
 (Ze (Zm (zga (K:=K) rfl rfl rfl T.zqb (Za (pv 3) Zd) (zfr Zg zhj)))))),?_⟩
 have big:1000000<sizeLine:=by rw[sizeLine_eq];decide
 have hgf:gs.all U6=true:=zuf.mpr fun z hz=>Nv (ho z hz)
 have hll:line.length<=rows.length:=by
  have:=nd.length_le_of_subset (l₂:=List.range rows.length) fun c hcc=>zt1.mpr (hlt c hcc)
  rw[zt3] at this;exact this
 refine⟨by show 0<=sizeLine;decide,fun lc hlc=>?_⟩
 have s1:=Zf (o:=.lst []) hlc;have e1:upd H lc (.lst []) lc=some (.lst ([]:List V)):=Zc;generalize upd H lc (.lst [])=H1 at s1 e1
 refine⟨_,rfl,lk,_,rfl,.inl (s1 _ _ hk),fun ln hln=>?_⟩
 rw[A6];have s2:=Zf (o:=.lst (Yh line)) hln;have e2:upd H1 ln (.lst (Yh line)) ln=some (.lst (Yh line)):=Zc;have e12:=s2 _ _ e1;have s12:=s1.trans s2;have nlc:ln≠lc:=Ne.symm (Zh e1 hln);generalize upd H1 ln (.lst (Yh line))=H2 at s2 e2 e12 s12
 refine⟨ln,rfl,⟨_,SqL.of e2⟩,?_⟩
 let jv5:Nat->L2.St->Hp->Prop:=fun i σ' H'=>∃ (cs:List Nat) (v4 v5:Option V),σ'=[some (.ref l),some (.ref lg),some (.ref lk),some (.ref lc),v4,v5]/\Same H H'/\H' ln=some (.lst (Yh line))/\H' lc=some (.lst (Yh cs))/\cs.length<=i*1000/\(∀ c∈cs,∃ q∈line,Xz rows gs q/\c=dep q+1)/\∀ (j q:Nat),j<i->line[j]?=some q->Xz rows gs q->dep q+1∈cs
 refine Wa (K:=K) (a:=ln) (xs:=Yh line) jv5
  ⟨[],_,_,rfl,s12,e2,e12,by simp,by simp,fun j q hj=>absurd hj (zun _)⟩ (fun i σ' H' _ ⟨_,_,_,_,_,z,_⟩=>SqL.of z) ?_ ?_
 ·rintro i y σ' Hx hy ⟨cs,v4,v5,rfl,sx,hnx,hcx,hcl,h1,h2⟩
  have hi:i<line.length:=by
   have:=(zsv.mp hy).1;unfold Yh at this;rw[zst] at this;exact this
  have hli:line[i]?=some (line[i]'hi):=zsu hi;generalize (line[i]'hi)=here at hli
  have ey:y=.int here:=by unfold Yh at hy;rw[zs0,hli] at hy;exact(Option.some.inj hy).symm
  subst ey;have hhm:=zs5 hli;have hhere:=hlt here hhm;have hr':rows[here]?=some (rows[here]'hhere):=zsu hhere;generalize (rows[here]'hhere)=r at hr'
  have hrl2:=hrr r (zs5 hr');obtain⟨lr,e3,e4⟩:=il.getR hr';have hl':(ls.map V.ref)[here]?=some (.ref lr):=by rw[zs0,e3];rfl
  refine⟨_,rfl,_,rfl,l,_,_,_,rfl,rfl,SqL.of (sx _ _ hl),Z4 hl',lr,rfl,⟨_,SqL.of (sx _ _ e4)⟩,?_⟩
  let jv6:Nat->L2.St->Hp->Prop:=fun j σ' H'=>∃ (cs:List Nat) (v5:Option V),σ'=[some (.ref l),some (.ref lg),some (.ref lk),some (.ref lc),some (.int here),v5]/\Same H H'/\H' ln=some (.lst (Yh line))/\H' lc=some (.lst (Yh cs))/\cs.length<=i*1000+j/\(∀ c∈cs,∃ q∈line,Xz rows gs q/\c=dep q+1)/\(∀ (j q:Nat),j<i->line[j]?=some q->Xz rows gs q->dep q+1∈cs)/\∀ n∈r.take j,(∀ k:Nat,gs[k]?≠some (.int n))->dep here+1∈cs
  refine Wa (K:=K) (a:=lr) (xs:=r.map V.int) jv6
   ⟨cs,_,rfl,sx,hnx,hcx,by omega,h1,h2,by simp⟩ (fun j σ' H' _ ⟨_,_,_,z,_⟩=>SqL.of (z _ _ e4)) ?_ ?_
  ·rintro j y σ' Hy hy ⟨cs,v5,rfl,sy,hny,hcy,hcl,h1,h2,h3⟩
   have hj:j<r.length:=by have:=(zsv.mp hy).1;rw[zst] at this;exact this
   have hrj:r[j]?=some (r[j]'hj):=zsu hj;have etk:r.take (j+1)=r.take j++[r[j]'hj]:=ztl hj;generalize (r[j]'hj)=n at hrj etk
   have ey:y=.int n:=by rw[zs0,hrj] at hy;exact(Option.some.inj hy).symm
   subst ey;refine Xq (b:=!inV (.int n) gs) (fun Q k=>⟨_,rfl,_,rfl,lg,gs,rfl,.inl (SqL.of (sy _ _ hg)),rfl,hgf,_,rfl,k⟩) ?_
   cases hin:inV (.int n) gs with
   | true =>
     refine iteF (Zu ⟨cs,_,rfl,sy,hny,hcy,by omega,h1,h2,fun m hm hno=>?_⟩)
     rw[etk] at hm
     rcases zs6.mp hm with z|z
     ·exact h3 m z hno
     ·rw[zsx.mp z] at hno
      obtain⟨k,hk⟩:=(S7 ho).mp hin;exact absurd hk (hno k)
   | false =>
     have hno:∀ k:Nat,gs[k]?≠some (.int n):=fun k hk=>by
      rw[(S7 ho).mpr ⟨k,hk⟩] at hin;cases hin
     have hf:Xz rows gs here:=⟨n,⟨r,hr',zs5 hrj⟩,hno⟩;have hkv:valV (Y8 line dep) (Sum.inl (here:Int):Key)=some (.int ((dep here+1:Nat):Int)):=Ny hhm;have hget:DGet Hy lk (.int here) (some (.int ((dep here+1:Nat):Int))):=by rw[<- hkv];exact DGet.k (k:=Sum.inl (here:Int)) (sy _ _ hk)
     have hsz:(Yh cs).length<sizeLine:=by
      unfold Yh;rw[zst];have:i*1000<=100*1000:=Nat.mul_le_mul_right _ (by omega)
      omega
     refine iteT ⟨_,rfl,lc,_,rfl,hcy,_,rfl,_,rfl,lk,_,rfl,hget,_,hcy,hsz,cs++[dep here+1],_,rfl,Z6 hlc sy,?_,?_,?_,?_,?_,?_⟩
     ·rw[Zi nlc];exact hny
     ·rw[Zc];unfold Yh;rw[zs1];rfl
     ·rw[zsw];show cs.length+1<=_;omega
     ·intro c hc
      rcases zs6.mp hc with z|z
      ·exact h1 c z
      ·rw[zsx.mp z];exact⟨here,hhm,hf,rfl⟩
     ·intro j q hj hq hqf
      exact ztf _ (h2 j q hj hq hqf)
     ·intro m hm hno
      exact zs9 _ (zsx.mpr rfl)
  ·rintro σ' Hy ⟨cs,v5,rfl,sy,hny,hcy,hcl,h1,h2,h3⟩
   rw[zst] at hcl
   rw[zst,zte] at h3
   refine⟨cs,_,_,rfl,sy,hny,hcy,by omega,h1,fun j q hj hq hqf=>?_⟩
   by_cases e:j=i
   ·rw[e,hli] at hq
    cases hq;obtain⟨n,⟨r2,g1,g2⟩,g3⟩:=hqf;rw[hr'] at g1;cases g1
    exact h3 n g2 g3
   ·exact h2 j q (by omega) hq hqf
 ·rintro σ' Hx ⟨cs,v4,v5,rfl,sx,hnx,hcx,hcl,h1,h2⟩
  unfold Yh at h2;rw[zst] at h2
  have ec:Yh cs=(cs.map fun c:Nat=>(c:Int)).map V.int:=by unfold Yh;rw[zua];rfl
  refine⟨_,rfl,lc,cs.map fun c:Nat=>(c:Int),_,rfl,rfl,by rw[<- ec];exact SqL.of hcx,fun z=>?_,fun M hM hmin=>?_⟩
  ·have z':cs=[]:=List.map_eq_nil_iff.mp z
   subst z';refine h 0 Hx (.inl ⟨rfl,fun q hq hqf=>?_⟩) sx
   obtain⟨j,hj,e⟩:=ztr hq;have:=h2 j q hj (by rw[zsu hj,e]) hqf
   cases this
  ·obtain⟨c,hc,rfl⟩:=zs2.mp hM
   obtain⟨q,hq,hqf,rfl⟩:=h1 c hc;refine h (dep q+1) Hx (.inr ⟨by omega,⟨q,hq,hqf,rfl⟩,fun q2 hq2 hqf2=>?_⟩) sx
   obtain⟨j,hj,e⟩:=ztr hq2;have hm:=h2 j q2 hj (by rw[zsu hj,e]) hqf2
   have:=hmin _ (zs2.mpr ⟨_,hm,rfl⟩);omega
def Hs(K:PySem.W.Frag):Sp:=fun vs H Q _=>∃ (l lg lt:Addr) (ls:List Addr) (rows:List (List Int)) (nu:List Int) (gs ts:List V) (p e:Nat) (st:List (Nat×Option Int)) (w:Option Int),vs=[.ref l,.ref lg,.int p,.ref lt]/\H l=some (.lst (ls.map V.ref))/\ILs H ls rows/\R4 rows nu/\H lg=some (.lst gs)/\Yn rows gs/\p<rows.length/\H lt=some (.lst ts)/\Z9 H ts (st.map We)/\Yt rows gs p st e w/\∀ H',Same H H'->Q (.bl true) H'
abbrev Vl:Stmt:=top 70
theorem X8:Zl ["_law_may","_law_given","_law_place","_law_steps_here","_law_known","_law_free","_law_low"] ["_law_may","_law_given","_law_place","_law_steps_here"] (Zj Vl):=fnS
theorem P6(F:Fun K "_law_chain_is_due" "_law_chain_is_due" Vl f fd)(T:Tx K mg a)(znd:Z1 P w K mg base "_law_is_chain" 2 ["_law_may","_law_given","_law_place","_law_steps_here"] (F5 K))(zoq:Z1 P w K mg base "_law_steps" 1 ["_law_may","_law_given","_law_place"] (zbb K))(zn0:Z1 P w K mg base "_law_to_free" 1 ["_law_may","_law_given","_law_known"] (Cz K)):FnOk P w K mg base (CX1 P w) 3 f fd ["_law_may","_law_given","_law_place","_law_steps_here"] (Hs K):=by
 refine F.okX X8 (by walk_at "ar") fun _ _ _ _ H _ Q E hr h=>?_
 obtain⟨l,lg,lt,ls,rows,nu,gs,ts,p,e,st,w',rfl,hl,il,MO,hg,FP,hp,hlt,tl,CR,h⟩:=h;have hu:=Wl hr;refine⟨_,(Zb (Zz (Xl (Xh (pF znd hr (Za (pv 0) (Za (pv 1) (Za (pv 2) (Za (pv 3) Zd)))))))
  (Ze (Zm Xs))
  Zp)
 (Zb (pS 4 X8.nd (pF zoq hr (Za (pv 0) (Za (pv 1) (Za (pv 2) Zd)))))
 (Zb (pS 5 X8.nd (pF zn0 hr (Za (pv 0) (Za (pv 1) (Za (pv 4) Zd)))))
 (Zb (Zz (Zn Sy (pv 5) Zg (Zr _))
  (Ze (Zm (Em (W3 W9 (pI (iU K) (pI (iL K) (pv 3) (Qh Te Zg)) Zg) Yl (Zr _)) (El (W3 Xt (Zo (cL K) (by rfl) T.zku PySem.boot_len (Za (pv 3) Zd)) (pv 5) (Zr _))))))
  Zp)
 (Zb (pS 6 X8.nd (Zo (zck (K:=K) rfl rfl) (by rfl) T.zpw PyProof.Rows.boot_max (Za (Ys (Om rfl) (by rfl) T.zlk PyProof.Rows.boot_list (Za (pv 4) Zd)) Zd)))
 (Ze (Zm (Em (W3 (Ey (K:=K) rfl hr.units) (pI (iL K) (pv 3) (Qh Te Zg)) (Ya (Za (pv 6) (Za Yl Zd))) (Zr _)) (El (W3 Xt (Zo (cL K) (by rfl) T.zku PySem.boot_len (Za (pv 3) Zd)) (pD hu (pv 4) (pv 6)) (Zr _))))))))))),?_⟩
 have hr100:rows.length<=100:=ztb MO.few (by decide)
 have hst100:st.length<=100:=ztb (CR.len FP hp) hr100;refine⟨_,rfl,_,rfl,_,rfl,_,rfl,l,lg,lt,ls,rows,gs,ts,p,e,st,w',rfl,hl,il,hr100,hg,FP,hp,hlt,tl,hst100,CR.ch,(fun n hn=>(CR.free n hn).1),_,rfl,?_⟩
 refine iteF ?_;refine⟨_,rfl,_,rfl,_,rfl,l,lg,ls,rows,gs,p,rfl,hl,il,hr100,hg,FP,hp,fun ld line dep H8 hd B Dn hlt' s8 _=>?_⟩
 refine⟨_,rfl,_,rfl,_,rfl,l,lg,ld,ls,rows,gs,line,dep,rfl,s8 _ _ hl,il.same s8,hr100,fun r hr=>ztb (MO.len hr) (by decide),s8 _ _ hg,FP.one,hd,B.nodup,hlt',fun c H9 FC s9=>?_⟩
 have s89:=s8.trans s9;have hlt9:=s89 _ _ hlt;have tl9:=tl.same s89;have hd9:=s9 _ _ hd;have htl:ts.length=st.length:=by rw[tl9.length,zst]
 obtain⟨tt,g1,g2⟩:=zen tl9 CR.ch.lastStep;walk_at "if";rcases FC.chain B Dn CR with ⟨rfl,rfl⟩|⟨hc0,hw,hlen⟩
 ·refine Y7 (Xq (b:=false) (fun Q k=>⟨_,rfl,_,_,rfl,rfl,_,rfl,k⟩) (iteF (Zu ?_)))
  obtain⟨_,c2,c3⟩:=CR.none rfl;have cw:=CR.ch.walk;have cp:=CR.ch.pos;obtain⟨eline,edep⟩:=B.full Dn cw;have elen:st.length=dep e+1:=by
   have:=c3 _ (B.walk e eline);omega
  have emax:∀ q∈line,q<=e:=fun q hq=>c2 q _ (B.walk q hq)
  have hkeys:((Y8 line dep).map fun kv=>kV kv.1)=(line.map fun (q:Nat)=>((q:Nat):Int)).map V.int:=by
   unfold Y8;rw[zua,zua];rfl
  refine⟨_,rfl,ld,_,rfl,.inl hd9,fun ll hll=>?_⟩
  rw[hkeys];refine⟨ll,line.map fun (q:Nat)=>((q:Nat):Int),rfl,SqL.of Zc,by rw[zst];exact List.length_pos_of_mem eline,fun M hM hmax=>?_⟩
  have hMe:M=(e:Int):=by
   obtain⟨q,hq,rfl⟩:=zs2.mp hM;have h1:=emax q hq;have h2:=hmax (e:Int) (zs2.mpr ⟨e,eline,rfl⟩);omega
  subst hMe;have t9:=Zf (o:=.lst ((line.map fun (q:Nat)=>((q:Nat):Int)).map V.int)) hll
  have hd10:=t9 _ _ hd9;have s10:=s89.trans t9;have hlt10:=t9 _ _ hlt9;have g10:=t9 _ _ g2;generalize upd H9 ll (.lst ((line.map fun (q:Nat)=>((q:Nat):Int)).map V.int))=H10 at t9 hd10 s10 hlt10 g10
  refine⟨_,rfl,_,rfl,lt,_,_,_,rfl,rfl,SqL.of hlt10,g1,_,rfl,sz2,fun t10 ht10=>?_⟩
  have t10':=Zf (o:=.tup [.int e,.non]) ht10;refine⟨.tup [.int e,.non],.tup [.int e,.non],.tup (SqT.of (t10' _ _ g10)) (.cons (.int _) (.cons .non .nil)),.tup (SqT.of Zc) (.cons (.int _) (.cons .non .nil)),?_,?_,?_⟩
  ·unfold shD SeqAt.shaped
   simp[toPy,Xe,PyData.canLay0,PyData.canLayAll0,PyData.depth,PyData.depthAll]
  ·unfold shD SeqAt.shaped
   simp[toPy,Xe,PyData.canLay0,PyData.canLayAll0,PyData.depth,PyData.depthAll]
  ·rw[Nr]
   refine⟨true,rfl,iteT ?_⟩;have hk:valV (Y8 line dep) (Sum.inl (e:Int):Key)=some (.int ((dep e+1:Nat):Int)):=Ny eline;have hget:DGet (upd H10 t10 (HO.tup [V.int e,V.non])) ld (.int e) (some (.int ((dep e+1:Nat):Int))):=by
    rw[<- hk];exact DGet.k (k:=Sum.inl (e:Int)) (t10' _ _ hd10)
   refine⟨_,rfl,lt,ts,rfl,.inl (SqL.of (t10' _ _ hlt10)),_,rfl,_,rfl,ld,_,rfl,hget,rfl,?_⟩;rw[htl,elen,zsy rfl];exact h _ (s10.trans t10')
 ·refine Y7 (Xq (b:=true) (fun Q k=>⟨_,rfl,_,_,rfl,rfl,_,rfl,?_⟩) (iteT ?_))
  ·rw[zsy (show (0:Int)<((c:Nat):Int) by omega)];exact k
  cases w' with
  | none=>exact absurd rfl hw
  | some n =>
    refine⟨_,rfl,_,rfl,lt,_,_,_,rfl,rfl,SqL.of hlt9,g1,tt,_,_,_,rfl,rfl,SqT.of g2,rfl,rfl,true,rfl,iteT ?_⟩;refine⟨_,rfl,lt,ts,rfl,.inl (SqL.of hlt9),_,rfl,rfl,?_⟩;rw[htl,hlen,zsy rfl];exact h _ s89
abbrev U4:Stmt:=top 71
theorem Rh:Zl ["_law_found","_law_due","_law_k"] ["_law_found","_law_due"] (Zj U4):=fnS
theorem Lr(F:Fun K "_law_moves_are" "_law_moves_are" U4 f fd)(T:Tx K mg a)(zk3:Z1 P w K mg base "_law_one_is" 2 ["_law_found","_law_due"] Nu)(zns:Z1 P w K mg base "_law_rows_are" 4 ["_law_found","_law_due"] (Fv K)):FnOk P w K mg base (CX1 P w) 5 f fd ["_law_found","_law_due"] (O3 K):=by
 refine F.okX Rh (by walk_at "ar") fun _ _ _ _ H _ Q E hr h=>?_
 obtain⟨ok,ok',b,c,ts,us,G0,rfl,hb,hc,g1,g2,hl1,hl2,h⟩:=h;refine⟨_,(Zb (Zz (PW.pt (W4 (Xl (Xh (Zo (Wo (K:=K) rfl) (by rfl) T.zky PyProof.Rows.boot_isinstance (Za (pv 0) (Za (Up rfl T.zlk PyProof.Rows.boot_list (show RelV (.ty "list") _ from rfl)) Zd))))) (X9 (Zn Nk (Zo (cL K) (by rfl) T.zku PySem.boot_len (Za (pv 0) Zd)) (Zo (cL K) (by rfl) T.zku PySem.boot_len (Za (pv 1) Zd)) (Zr _)))))
  (Ze (Zm Xs))
  Zp)
 (Zb (Y5 PassesOwn.leaving rfl (Xk rfl T.zlj (Za (Zo (cL K) (by rfl) T.zku PySem.boot_len (Za (pv 1) Zd)) Zd)) (pN 2 Rh.nd)
  (Zb (Zz (PW.pt (W4 (Xl (Xh (Zo (Wo (K:=K) rfl) (by rfl) T.zky PyProof.Rows.boot_isinstance (Za (pI (iL K) (pv 0) (pv 2)) (Za (Up rfl T.znu PyProof.Rows.boot_tuple (show RelV (.ty "tuple") _ from rfl)) Zd))))) (X9 (Zn Nk (Zo (cL K) (by rfl) T.zku PySem.boot_len (Za (pI (iL K) (pv 0) (pv 2)) Zd)) Zg (Zr _)))))
   (Ze (Zm Xs))
   Zp)
  (Ze (Zz (PW.pt (W4 (Xl (Xh (pF zk3 hr (Za (pI (iU K) (pI (iL K) (pv 0) (pv 2)) Zg) (Za (pI (iU K) (pI (iL K) (pv 1) (pv 2)) Zg) Zd))))) (X9 (Xl (Xh (pF zns hr (Za (pI (iU K) (pI (iL K) (pv 0) (pv 2)) Zg) (Za (pI (iU K) (pI (iL K) (pv 1) (pv 2)) Zg) Zd))))))))
   (Ze (Zm Xs))
   Zp))))
 (Ze (Zm Xs)))),?_⟩
 have e1:=g1.length;have e2:=g2.length;have el:ts.length=us.length:=by omega
 refine⟨_,rfl,_,_,_,_,rfl,.of (.lst hb),.inl ⟨_,rfl⟩,Jt K,_,rfl,?_⟩;refine iteF ?_;refine⟨_,rfl,b,_,rfl,.inl (SqL.of hb),_,rfl,c,_,rfl,.inl (SqL.of hc),rfl,_,rfl,?_⟩;rw[el,zsy rfl];refine iteF (Zu ?_);dsimp only;refine⟨_,rfl,c,_,rfl,.inl (SqL.of hc),_,rfl,by omega,by omega,Xu (fun i σ H'=>H'=H/\(∃ v,σ=[some (.ref b),some (.ref c),v])) ⟨rfl,⟨_,rfl⟩⟩ (fun i σ H' hi ⟨e,⟨v,hv⟩⟩=>?_) (fun σ H' ⟨e,⟨v,hv⟩⟩=>?_)⟩
 ·subst e hv
  rw[zta] at hi
  have hi1:i<ts.length:=by omega
  obtain⟨t1,l1,n1,us1,st1,x1,x2,x3,x4,x5,_⟩:=g1.get (zsu hi1);obtain⟨t2,l2,n2,us2,st2,y1,y2,y3,y4,y5,_⟩:=g2.get (zsu hi);rw[x2] at y2
  cases y2;have w1:ts[i]?=some (.ref t1):=by rw[zsu hi1,x1]
  have w2:us[i]?=some (.ref t2):=by rw[zsu hi,y1]
  have hsl:=hl2 _ (zs5 x2);rw[zub];walk_at "if";refine Y7 ?_;refine⟨_,rfl,_,rfl,b,_,_,_,rfl,rfl,SqL.of hb,Z4 w1,_,_,_,_,rfl,.of (.tup x3),.inl ⟨_,rfl⟩,Av K,_,rfl,?_⟩;refine iteF ?_;refine⟨_,rfl,_,rfl,b,_,_,_,rfl,rfl,SqL.of hb,Z4 w1,t1,_,rfl,.inr (SqT.of x3),rfl,_,rfl,?_⟩;refine(show if (!decide (V.int ((2:Nat):Int)=V.int 2))=true then _ else _ from ?_)
  rw[zsy (show V.int ((2:Nat):Int)=V.int 2 from rfl)]
  refine iteF (Zu ?_);dsimp only;refine⟨_,rfl,_,rfl,b,_,_,_,rfl,rfl,SqL.of hb,Z4 w1,t1,_,_,_,rfl,rfl,SqT.of x3,rfl,_,rfl,_,rfl,c,_,_,_,rfl,rfl,SqL.of hc,Z4 w2,t2,_,_,_,rfl,rfl,SqT.of y3,rfl,.int n1,rfl,.inr ⟨_,rfl⟩,true,rfl,?_⟩;refine iteF ?_;refine⟨_,rfl,_,rfl,b,_,_,_,rfl,rfl,SqL.of hb,Z4 w1,t1,_,_,_,rfl,rfl,SqT.of x3,rfl,_,rfl,_,rfl,c,_,_,_,rfl,rfl,SqL.of hc,Z4 w2,t2,_,_,_,rfl,rfl,SqT.of y3,rfl,l1,l2,us1,us2,st1.map We,rfl,x4,SqL.of y4,x5,y5,fun r hr=>?_,by rw[zst];omega,true,rfl,?_⟩
  ·obtain⟨s,_,rfl⟩:=zs2.mp hr
   refine⟨by show 2<=1000;decide,fun x hx=>?_⟩
   simp[We] at hx
   rcases hx with rfl|rfl
   ·exact .inr ⟨_,rfl⟩
   ·cases s.2 with
    | none=>exact .inl rfl
    | some n=>exact .inr ⟨_,rfl⟩
  exact iteF (Zu ⟨rfl,⟨_,rfl⟩⟩)
 ·subst e hv
  exact h
abbrev Q9:Stmt:=top 72
theorem Mf:Zl ["_law_rounds_here","_law_rest_here","_law_page"] ["_law_rounds_here","_law_rest_here"] (Zj Q9):=fnS
theorem Dv(F:Fun K "_law_first" "_law_first" Q9 f fd)(T:Tx K mg a):FnOk P w K mg base (CX1 P w) 1 f fd ["_law_rounds_here","_law_rest_here"] zbm:=by
 refine F.okX Mf (by walk_at "ar") fun _ _ _ _ H _ Q E hr h=>?_
 obtain⟨r,q,rfl,h⟩:=h;have hu:=Wl hr;refine⟨_,(Zb (pS 2 Mf.nd (Ep (Us Zq (pv 0) (Us Zq (pv 1) (Us Zq (Z5 Zd) (Us Zq (Z5 Zd) (Us Zq (Z5 Zd) (Us Zq Yl Eo)))))) rfl rfl (by simp) (by decide)))
 (Zb (Yj hu (pv 2) Zq Yl rfl)
 (Zb (Yj hu (pv 2) Zq (Z5 Zd) rfl)
 (Zb (Yj hu (pv 2) Zq (Z5 Zd) rfl)
 (Ze (Zm (pv 2))))))),?_⟩
 have sz0:([]:List V).length<=sizeLine:=ztm _;refine fun p fp=>?_
 have s1:=Zf (o:=.dK []) fp;have p1:(upd H p (.dK [])) p=some (.dK []):=Zc;generalize upd H p (.dK [])=H1 at s1 p1 ⊢
 refine⟨_,rfl,_,rfl,sz0,fun l1 f1=>?_⟩
 have s2:=Zf (o:=.lst []) f1;have a1:(upd H1 l1 (.lst [])) l1=some (.lst []):=Zc;have n1:l1≠p:=fun z=>by rw[z,p1] at f1;cases f1
 generalize upd H1 l1 (.lst [])=H2 at s2 a1 ⊢
 refine⟨sz0,fun l2 f2=>?_⟩
 have s3:=Zf (o:=.lst []) f2;have a2:(upd H2 l2 (.lst [])) l2=some (.lst []):=Zc;have n2:l2≠p:=fun z=>by rw[z,s2 _ _ p1] at f2;cases f2
 generalize upd H2 l2 (.lst [])=H3 at s3 a2 ⊢
 refine⟨sz0,fun l3 f3=>?_⟩
 have s4:=Zf (o:=.lst []) f3;have a3:(upd H3 l3 (.lst [])) l3=some (.lst []):=Zc;have n3:l3≠p:=fun z=>by rw[z,s3 _ _ (s2 _ _ p1)] at f3;cases f3
 generalize upd H3 l3 (.lst [])=H4 at s4 a3 ⊢
 refine⟨s4 _ _ (s3 _ _ (s2 _ _ p1)),pg6 r q l1 l2 l3 .non,rfl,(show 6<=15 by decide),?_⟩
 rw[zcx];have s5:=Z6 (o:=.dK (pg6 r q l1 l2 l3 .non)) fp (s1.trans (s2.trans (s3.trans s4)));have p5:(upd H4 p (.dK (pg6 r q l1 l2 l3 .non))) p=some (.dK (pg6 r q l1 l2 l3 .non)):=Zc;have b1:(upd H4 p (.dK (pg6 r q l1 l2 l3 .non))) l1=some (.lst []):=by rw[Zi n1];exact s4 _ _ (s3 _ _ a1)
 have b2:(upd H4 p (.dK (pg6 r q l1 l2 l3 .non))) l2=some (.lst []):=by rw[Zi n2];exact s4 _ _ a2
 have b3:(upd H4 p (.dK (pg6 r q l1 l2 l3 .non))) l3=some (.lst []):=by rw[Zi n3];exact a3
 generalize upd H4 p (.dK (pg6 r q l1 l2 l3 .non))=H5 at s5 p5 b1 b2 b3 ⊢
 walk_at "if";refine⟨_,rfl,p,_,rfl,DPut.k (k:=Sum.inr "listed") p5 (M4 (x:=.non) (y:=.non)).1,?_⟩;have s6:=Z6 (o:=.dK (putK (pg6 r q l1 l2 l3 .non) (.inr "listed") .non)) fp s5;have p6:(upd H5 p (.dK (putK (pg6 r q l1 l2 l3 .non) (.inr "listed") .non))) p=some (.dK (putK (pg6 r q l1 l2 l3 .non) (.inr "listed") .non)):=Zc;have c1:=(Zi (H:=H5) (o:=.dK (putK (pg6 r q l1 l2 l3 .non) (.inr "listed") .non)) n1).trans b1;have c2:=(Zi (H:=H5) (o:=.dK (putK (pg6 r q l1 l2 l3 .non) (.inr "listed") .non)) n2).trans b2;have c3:=(Zi (H:=H5) (o:=.dK (putK (pg6 r q l1 l2 l3 .non) (.inr "listed") .non)) n3).trans b3;generalize upd H5 p (.dK (putK (pg6 r q l1 l2 l3 .non) (.inr "listed") .non))=H6 at s6 p6 c1 c2 c3 ⊢
 refine⟨sz0,fun l4 f4=>?_⟩
 have s7:=Zf (o:=.lst []) f4;have a4:(upd H6 l4 (.lst [])) l4=some (.lst []):=Zc;have n4:l4≠p:=fun z=>by rw[z,p6] at f4;cases f4
 generalize upd H6 l4 (.lst [])=H7 at s7 a4 ⊢
 refine⟨_,rfl,p,_,rfl,DPut.k (k:=Sum.inr "goes") (s7 _ _ p6) (M4 (y:=.non)).2.1,?_⟩;have s8:=Z6 (o:=.dK (putK (putK (pg6 r q l1 l2 l3 .non) (.inr "listed") .non) (.inr "goes") (.ref l4))) fp (s6.trans s7);have p8:(upd H7 p (.dK (putK (putK (pg6 r q l1 l2 l3 .non) (.inr "listed") .non) (.inr "goes") (.ref l4)))) p=some (.dK (putK (putK (pg6 r q l1 l2 l3 .non) (.inr "listed") .non) (.inr "goes") (.ref l4))):=Zc;have d1:=(Zi (H:=H7) (o:=.dK (putK (putK (pg6 r q l1 l2 l3 .non) (.inr "listed") .non) (.inr "goes") (.ref l4))) n1).trans (s7 _ _ c1);have d2:=(Zi (H:=H7) (o:=.dK (putK (putK (pg6 r q l1 l2 l3 .non) (.inr "listed") .non) (.inr "goes") (.ref l4))) n2).trans (s7 _ _ c2);have d3:=(Zi (H:=H7) (o:=.dK (putK (putK (pg6 r q l1 l2 l3 .non) (.inr "listed") .non) (.inr "goes") (.ref l4))) n3).trans (s7 _ _ c3);have d4:=(Zi (H:=H7) (o:=.dK (putK (putK (pg6 r q l1 l2 l3 .non) (.inr "listed") .non) (.inr "goes") (.ref l4))) n4).trans a4;generalize upd H7 p (.dK (putK (putK (pg6 r q l1 l2 l3 .non) (.inr "listed") .non) (.inr "goes") (.ref l4)))=H8 at s8 p8 d1 d2 d3 d4 ⊢
 refine⟨sz0,fun l5 f5=>?_⟩
 have s9:=Zf (o:=.lst []) f5;have a5:(upd H8 l5 (.lst [])) l5=some (.lst []):=Zc;have n5:l5≠p:=fun z=>by rw[z,p8] at f5;cases f5
 generalize upd H8 l5 (.lst [])=H9 at s9 a5 ⊢
 refine⟨_,rfl,p,_,rfl,DPut.k (k:=Sum.inr "moves") (s9 _ _ p8) M4.2.2,?_⟩;rw[zgk];refine⟨_,rfl,h p _ ?_ (Z6 fp (s8.trans s9)) fp⟩;have fr:∀ x,H4 x=none->H x=none:=fun x hx=>s1.free (s2.free (s3.free (s4.free hx)))
 exact⟨l1,l2,l3,.non,.non,l4,l5,[],[],[],[],Zc,(Zi n1).trans (s9 _ _ d1),.nil,(Zi n2).trans (s9 _ _ d2),.nil,(Zi n3).trans (s9 _ _ d3),.nil,rfl,rfl,(Zi n4).trans (s9 _ _ d4),(Zi n5).trans a5,.nil,
  fp,s1.free f1,s1.free (s2.free f2),s1.free (s2.free (s3.free f3)),s6.free f4,s8.free f5⟩
abbrev Ls:Stmt:=top 73
theorem Vm:Zl ["_law_page","_law_met_here","_law_listed","_law_goes","_law_moves","_law_may","_law_k"] ["_law_page"] (Zj Ls):=fnS
theorem zaq(F:Fun K "_law_met" "_law_met" Ls f fd)(T:Tx K mg a):FnOk P w K mg base (CX1 P w) 1 f fd ["_law_page"] (zbn K):=by
 refine F.okX Vm (by walk_at "ar") fun _ _ _ _ H _ Q E hr h=>?_
 obtain⟨ok,d,P0,rfl,PA,PO,h⟩:=h;have hu:=Wl hr;refine⟨_,(Zb (pS 1 Vm.nd Jp)
 (Zb (Y5 PassesOwn.leaving rfl (Ye (K:=K) rfl (Cj (Cp (K:=K) rfl) (pD hu (pv 0) Zq) (zax (Zo (Fe rfl) (by rfl) T.zpw PyProof.Rows.boot_max (Za Zg (Za (Zs Oe (Zo (cL K) (by rfl) T.zku PySem.boot_len (Za (pD hu (pv 0) Zq) Zd)) (pD hu (pv 0) Zq)) Zd)))) zaw)) (Wu (K:=K) (n:=4) rfl rfl (Z0 (pN 2 Vm.nd) (Z0 (pN 3 Vm.nd) (Z0 (pN 4 Vm.nd) (Z0 (pN 5 Vm.nd) Ws)))))
  (Ze (Y5 PassesOwn.leaving rfl (Xk rfl T.zlj (Za (Zo (cL K) (by rfl) T.zku PySem.boot_len (Za (pv 2) Zd)) Zd)) (pN 6 Vm.nd)
   (Ze (Zz (Zn W9 (pI (iL K) (pv 3) (pv 6)) Yl (Zr _))
    (Zb (Yj hu (pv 1) (Ya (Za (pI (iL K) (pv 3) (pv 6)) (Za (pI (iU K) (pI (iL K) (pv 2) (pv 6)) Zg) Zd))) Xs rfl)
    (Ze (Yj hu (pv 1) (Ya (Za (pI (iL K) (pv 3) (pv 6)) (Za (pI (iU K) (pI (iL K) (pv 2) (pv 6)) Zg) Zd))) Xs rfl)))
    Zp)))))
 (Ze (Zm (pv 1))))),?_⟩
 obtain⟨lp,lo,lv,dv,li,lg,lm,pts,ots,vts,mts,a1,a2,a3,a4,a5,a6,a7,a8,a9,b1,b2,b3,o1,o2,o3,o4,o5,o6⟩:=PA;refine fun m fm=>?_
 have s1:=Zf (o:=.dT []) fm;have m1:(upd H m (.dT [])) m=some (.dT []):=Zc;generalize upd H m (.dT [])=H1 at s1 m1 ⊢
 walk_at "if";refine⟨_,rfl,d,_,rfl,DGet.k (k:=.inr "over") (s1 _ _ a1),?_⟩;refine⟨_,rfl,d,_,rfl,DGet.k (k:=.inr "over") (s1 _ _ a1),lv,vts,rfl,.inl (SqL.of (s1 _ _ a6)),_,rfl,d,_,rfl,DGet.k (k:=.inr "rest") (s1 _ _ a1),_,_,rfl,rfl,_,_,rfl,_,rfl,lv,vts,rfl,SqL.of (s1 _ _ a6),fun c fc=>?_⟩
 have e0:=ze3 vts vts.length P0.rest;rw[a7.length] at e0
 have ez:(vts.length:Int)=(P0.over.length:Int):=by rw[a7.length]
 rw[ez,e0];obtain⟨k0,hk0⟩:∃ k:Nat,k=((P0.over.length:Int)-P0.rest).toNat:=⟨_,rfl⟩
 rw[<- hk0];have s2:=Zf (o:=.lst (vts.drop k0)) fc;have c2:(upd H1 c (.lst (vts.drop k0))) c=some (.lst (vts.drop k0)):=Zc;have ncm:c≠m:=fun z=>by rw[z,m1] at fc;cases fc
 have OV:Xg ok (upd H1 c (.lst (vts.drop k0))) (vts.drop k0) (P0.over.drop k0):=(a7.drop k0).keep (fun x o _ z=>s2 _ _ (s1 _ _ z)) (fun x o z=>s2 _ _ (s1 _ _ z))
 have m2:=s2 _ _ m1;generalize upd H1 c (.lst (vts.drop k0))=H2 at s2 c2 OV m2 ⊢
 have hin:∀ s∈P0.over.drop k0,s∈P0.over:=fun s hs=>List.mem_of_mem_drop hs
 have hlen:(P0.over.drop k0).length<=100:=by rw[List.length_drop];have:=PO.1;omega
 generalize vts.drop k0=ds at c2 OV ⊢
 refine⟨c,rfl,⟨_,SqL.of c2⟩,Wa (K:=K) (a:=c) (xs:=ds) (fun i σ H'=>(∃ v1 v2 v3 v4 v5,σ=[some (.ref d),some (.ref m),v1,v2,v3,v4,v5])/\(∀ x o,H2 x=some o->x≠m->H' x=some o) /\
  ∃ kvs,H' m=some (.dT kvs)/\O2 kvs (P0.over.drop k0) i 0/\kvs.length<=40*i) ⟨⟨_,_,_,_,_,rfl⟩,fun _ _ e _=>e,[],m2,.zero _,by simp⟩ (fun i σ H' _ ⟨_,k,_⟩=>SqL.of (k _ _ c2 ncm)) ?_ ?_⟩
 ·rintro i x σ H' hx ⟨⟨v1,v2,v3,v4,v5,rfl⟩,k2,kvs,hm,mi,kl⟩
  obtain⟨t,l,g,mm,y,ts,s,rfl,hs,ht,hl,tl,hg,_,_⟩:=OV.get hx;have htn:t≠m:=Yx ht m2 (by intro z;cases z)
  have hln:l≠m:=Yx hl m2 (by intro z;cases z)
  have hgn:g≠m:=Yx hg m2 (by intro z;cases z)
  refine⟨t,_,rfl,SqT.of (k2 _ _ ht htn),rfl,_,_,rfl,_,_,rfl,_,_,rfl,_,_,rfl,rfl,?_⟩;have hsz:=PO.2.2 s (hin s (zs5 hs));have hi:i<ds.length:=(zsv.mp hx).1;have hdl:=OV.length;have tln:ts.length=s.ms.length:=by rw[tl.length,zst]
  have rln:(Yb s).length=s.ms.length:=by unfold Yb;rw[List.length_zipWith,hsz.2.1,Nat.min_self]
  refine⟨_,rfl,l,ts,rfl,.inl (SqL.of (k2 _ _ hl hln)),_,rfl,by omega,by omega,Xu (fun j σ H'=>(∃ v,σ=[some (.ref d),some (.ref m),some (.ref l),some (.ref g),some (.ref mm),some (.ref y),v])/\(∀ x o,H2 x=some o->x≠m->H' x=some o) /\
   ∃ kvs,H' m=some (.dT kvs)/\O2 kvs (P0.over.drop k0) i j/\kvs.length<=40*i+2*j) ⟨⟨_,rfl⟩,k2,kvs,hm,mi,by omega⟩ ?_ ?_⟩
  ·rintro j σ H3 hj ⟨⟨v,rfl⟩,k3,kvs3,hm3,mi3,kl3⟩
   rw[zta] at hj
   rw[zub];have hj2:j<s.gv.length:=by omega
   have hg3:s.gv[j]?=some (s.gv[j]'hj2):=zsu hj2;have hone:=hsz.2.2 _ (ztp hj2);generalize s.gv[j]'hj2=xv at hg3 hone
   have ht3:ts[j]?=some (ts[j]'hj):=zsu hj;obtain⟨tj,mj,e1,hmj,htj⟩:=Jx tl ht3;rw[e1] at ht3
   have htjn:tj≠m:=Yx htj m2 (by intro z;cases z)
   have hr3:(Yb s)[j]?=some (C9 mj xv):=by unfold Yb;rw[List.getElem?_zipWith,hmj,hg3]
   refine⟨_,rfl,_,rfl,g,_,_,_,rfl,rfl,SqL.of (k3 _ _ hg hgn),Z4 hg3,rfl,_,rfl,?_⟩;rcases hone with rfl|⟨w,rfl⟩
   ·refine iteF ?_
    exact⟨⟨_,rfl⟩,k3,kvs3,hm3,mi3.none hs hr3 rfl,by omega⟩
   ·refine iteT ?_
    refine⟨_,rfl,_,rfl,_,rfl,g,_,_,_,rfl,rfl,SqL.of (k3 _ _ hg hgn),Z4 hg3,?_⟩;have big:∀ n:Nat,n<=200000->n<sizeLine:=fun n hn=>Nat.lt_trans (zud hn (by decide)) Tg
    refine⟨_,rfl,_,rfl,l,_,_,_,rfl,rfl,SqL.of (k3 _ _ hl hln),Z4 ht3,tj,_,_,_,rfl,rfl,SqT.of (k3 _ _ htj htjn),rfl,sz2,fun t2 ht2=>⟨m,_,rfl,DPut.t (k:=[Sum.inl w,Sum.inl mj.1]) (by rw[Zi (Zh hm3 ht2)];exact hm3) Zc (big _ (by omega)),?_⟩⟩
    have k4:∀ x o,H2 x=some o->x≠m->upd (upd H3 t2 (.tup [.int w,.int mj.1])) m (.dT (putK kvs3 [Sum.inl w,Sum.inl mj.1] (.bl true))) x=some o:=fun x o e n=>by
     have:=k3 x o e n;rw[Zi n,Zi (Zh this ht2)];exact this
    have hm4:upd (upd H3 t2 (.tup [.int w,.int mj.1])) m (.dT (putK kvs3 [Sum.inl w,Sum.inl mj.1] (.bl true))) m=some (.dT (putK kvs3 [Sum.inl w,Sum.inl mj.1] (.bl true))):=Zc;have l4:=Xi kvs3 ([Sum.inl w,Sum.inl mj.1]:List Key) (.bl true);generalize upd (upd H3 t2 (.tup [.int w,.int mj.1])) m (.dT (putK kvs3 [Sum.inl w,Sum.inl mj.1] (.bl true)))=H4 at k4 hm4 ⊢
    refine⟨_,rfl,_,rfl,_,rfl,g,_,_,_,rfl,rfl,SqL.of (k4 _ _ hg hgn),Z4 hg3,?_⟩;refine⟨_,rfl,_,rfl,l,_,_,_,rfl,rfl,SqL.of (k4 _ _ hl hln),Z4 ht3,tj,_,_,_,rfl,rfl,SqT.of (k4 _ _ htj htjn),rfl,sz2,fun t4 ht4=>⟨m,_,rfl,DPut.t (k:=[Sum.inl w,Sum.inl mj.2.1]) (by rw[Zi (Zh hm4 ht4)];exact hm4) Zc (big _ (by omega)),?_⟩⟩
    have l5:=Xi (putK kvs3 ([Sum.inl w,Sum.inl mj.1]:List Key) (.bl true)) ([Sum.inl w,Sum.inl mj.2.1]:List Key) (.bl true);refine⟨⟨_,rfl⟩,fun x o e n=>?_,_,Zc,mi3.some hs hr3 rfl,by omega⟩
    have:=k4 x o e n;rw[Zi n,Zi (Zh this ht4)];exact this
  ·rintro σ H3 ⟨⟨v,rfl⟩,k3,kvs3,hm3,mi3,kl3⟩
   rw[zta] at mi3 kl3
   rw[tln,<- rln] at mi3
   exact⟨⟨_,_,_,_,_,rfl⟩,k3,kvs3,hm3,mi3.next hs,by omega⟩
 ·rintro σ H' ⟨⟨v1,v2,v3,v4,v5,rfl⟩,k2,kvs,hm,mi,kl⟩
  rw[OV.length] at mi
  refine⟨_,rfl,h m kvs H' hm (mi.all hk0) (fun x o e=>k2 _ _ (s2 _ _ (s1 _ _ e)) (Zh e fm)) fm⟩
abbrev Nf:Stmt:=top 74
theorem Wg:Zl ["_law_page","_law_met_here","_law_person","_law_match","_law_number","_law_grade","_law_club","_law_home","_law_guest","_law_asked","_law_told"] ["_law_page","_law_met_here","_law_person","_law_match"] (Zj Nf):=fnS
theorem B1(F:Fun K "_law_bars" "_law_bars" Nf f fd)(T:Tx K mg a):FnOk P w K mg base (CX1 P w) 1 f fd ["_law_page","_law_met_here","_law_person","_law_match"] (Bu K):=by
 refine F.okX Wg (by walk_at "ar") fun _ _ _ _ H _ Q E hr h=>?_
 obtain⟨ok,d,m,t1,t2,P0,kvs,x,y,rfl,PA,hm,mo,h1,h2,h⟩:=h;have hu:=Wl hr;refine⟨_,(Zb (Qg (pv 2) (Wu (K:=K) (n:=3) rfl rfl (Z0 (pN 4 Wg.nd) (Z0 (pN 5 Wg.nd) (Z0 (pN 6 Wg.nd) Ws)))))
 (Zb (Qg (pv 3) (Wu (K:=K) (n:=3) rfl rfl (Z0 (pN 7 Wg.nd) (Z0 (pN 8 Wg.nd) (Z0 (pN 9 Wg.nd) Ws)))))
 (Zb (pS 10 Wg.nd (Z5 Zd))
 (Zb (Zz (Zn (De (K:=K) rfl hr.units) (Ya (Za (Zs Yu (Zo (cL K) (by rfl) T.zku PySem.boot_len (Za (pD hu (pv 0) Zq) Zd)) Zg) (Za (pv 4) Zd))) (pD hu (pv 0) Zq) (by with_unfolding_all rfl))
  (Ze (Yk (pv 10) Zq))
  Zp)
 (Zb (Zz (Zn Sy (pv 9) (pv 5) (Zr _))
  (Ze (Yk (pv 10) Zq))
  Zp)
 (Zb (Zz (PW.pt (W4 (Zn Xt (pv 6) (pv 7) (Zr _)) (X9 (Zn Xt (pv 6) (pv 8) (Zr _)))))
  (Ze (Yk (pv 10) Zq))
  Zp)
 (Zb (Zz (PW.pt (W4 (Td (Oi hu (Ya (Za (pv 4) (Za (pv 7) Zd))) (pv 1))) (X9 (Td (Oi hu (Ya (Za (pv 4) (Za (pv 8) Zd))) (pv 1))))))
  (Ze (Yk (pv 10) Zq))
  Zp)
 (Ze (Zm (pv 10)))))))))),?_⟩
 show let y1:TS:=_;let y2:TS:=Zx _ y1;let y3:TS:=Zx _ y2;let y4:TS:=Zx _ y3;let y5:TS:=Zx _ y4;let y6:TS:=Zx _ y5;let y7:TS:=Zx _ y6;Zx _ y7 _ _ _;intro y1 y2 y3 y4 y5 y6 y7;obtain⟨n,g,c⟩:=x;obtain⟨ho,gu,as⟩:=y;have h1:H t1=some (.tup [.int n,.int g,.int c]):=h1;have h2:H t2=some (.tup [.int ho,.int gu,.int as]):=h2;obtain⟨lp,lo,lv,dv,li,lg,lm,pts,ots,vts,mts,a1,a2,a3,a4,a5,a6,a7,a8,a9,c1,c2,c3,o1,o2,o3,o4,o5,o6⟩:=PA;refine⟨_,rfl,t1,_,rfl,SqT.of h1,rfl,_,_,rfl,_,_,rfl,_,_,rfl,rfl,?_⟩;refine⟨_,rfl,t2,_,rfl,SqT.of h2,rfl,_,_,rfl,_,_,rfl,_,_,rfl,rfl,?_⟩;refine⟨by show 0<=sizeLine;decide,fun l hl=>?_⟩
 have s1:=Zf (o:=.lst []) hl;have q1:upd H l (.lst []) l=some (.lst (([]:List Str).map V.str)):=Zc;generalize upd H l (.lst [])=H1 at s1 q1
 walk_at "if";have b1:=Mt (decide (((P0.over.length:Int)+1,n)∈P0.out)) "away";have b2:=Mt (decide (g<as)) "grade";have b3:=Mt (decide (c=ho)||decide (c=gu)) "club"
 refine T3 (b:=decide (((P0.over.length:Int)+1,n)∈P0.out)) (H0:=H) (fun Q q=>?_) hl s1 q1 (by decide) rfl (fun H2 s2 q2 _=>?_)
 ·refine⟨_,rfl,d,_,rfl,DGet.k (k:=.inr "over") (s1 _ _ a1),lv,vts,rfl,.inl (SqL.of (s1 _ _ a6)),_,_,rfl,rfl,_,rfl,sz2,fun t ht=>?_⟩
  have s3:=Zf (o:=.tup [.int ((vts.length:Int)+1),.int n]) ht;refine⟨_,rfl,d,_,rfl,DGet.k (k:=.inr "out") (s3 _ _ (s1 _ _ a1)),t,lo,ots,_,_,P0.out,rfl,rfl,SqT.of Zc,SqL.of (s3 _ _ (s1 _ _ a4)),(a5.mono fun _ _ z=>s3 _ _ (s1 _ _ z)),_,rfl,?_⟩
  rw[a7.length] at s3 ⊢
  exact q _ s3
 rw[List.nil_append] at q2
 have din:∀ (H3:Hp) (cc:Int) (Q3:Bool->Hp->Prop),Same H H3->(∀ H4,Same H3 H4->Q3 (R1 (P0.over.map Yb) n cc P0.rest) H4)->∀ t,H3 t=none->Q3 (valV kvs [Sum.inl n,Sum.inl cc]).isSome (upd H3 t (.tup [.int n,.int cc])):=fun H3 cc Q3 s3 q3 t ht=>by
  rw[mo n cc];exact q3 _ (Zf ht)
 refine T3 (b:=decide (g<as)) (H0:=H) (Rk fun Q q=>⟨_,rfl,_,rfl,_,_,rfl,rfl,_,rfl,q⟩) hl s2 q2 (by omega) rfl (fun H3 s3 q3 _=>?_)
 refine T3 (b:=decide (c=ho)||decide (c=gu)) (H0:=H) (Rk (W8 (fun Q q=>⟨_,rfl,_,rfl,rfl,_,rfl,Qm▸q⟩) (fun Q q=>⟨_,rfl,_,rfl,rfl,_,rfl,Qm▸q⟩))) hl s3 q3 (by rw[zsw];omega) rfl (fun H4 s4 q4 _=>?_)
 refine T3 (b:=R1 (P0.over.map Yb) n ho P0.rest||R1 (P0.over.map Yb) n gu P0.rest) (H0:=H) (Ct (fun Q q=>?_) (fun H5 s5 Q q=>?_)) hl s4 q4 (by rw[zsw,zsw];omega) rfl (fun H5 s5 q5 _=>?_)
 ·exact⟨_,rfl,_,rfl,sz2,fun t ht=>⟨_,rfl,m,_,rfl,DGet.t (k:=[Sum.inl n,Sum.inl ho]) (Zf ht _ _ (s4 _ _ hm)) Zc,_,rfl,din _ ho _ s4 q t ht⟩⟩
 ·exact⟨_,rfl,_,rfl,sz2,fun t ht=>⟨_,rfl,m,_,rfl,DGet.t (k:=[Sum.inl n,Sum.inl gu]) (Zf ht _ _ (s5 _ _ (s4 _ _ hm))) Zc,_,rfl,din _ gu _ (s4.trans s5) q t ht⟩⟩
 refine⟨_,rfl,h l H5 ?_ s5 hl⟩;unfold Pu whyS;rw[q5,ztv,ztv]
abbrev Ng:Stmt:=top 75
theorem Uw:Zl ["_law_page","_law_met_here","_law_may","_law_match","_law_fit"] ["_law_page"] (Zj Ng):=fnS
theorem B2(F:Fun K "_law_open" "_law_open" Ng f fd)(T:Tx K mg a)(zpl:Z1 P w K mg base "_law_met" 1 ["_law_page"] (zbn K))(zoy:Z1 P w K mg base "_law_bars" 1 ["_law_page","_law_met_here","_law_person","_law_match"] (Bu K)):FnOk P w K mg base (CX1 P w) 2 f fd ["_law_page"] (Df K):=by
 refine F.okX Uw (by walk_at "ar") fun _ _ _ _ H _ Q E hr h=>?_
 obtain⟨ok,d,P0,ms,rfl,PA,PO,hms,hl1,hl2,h⟩:=h;have hu:=Wl hr;refine⟨_,(Zb (pS 1 Uw.nd (pF zpl hr (Za (pv 0) Zd)))
 (Zb (pS 2 Uw.nd (Z5 Zd))
 (Zb (Y5 PassesOwn.leaving rfl (Ye (K:=K) rfl (pD hu (pv 0) Zq)) (pN 3 Uw.nd)
  (Zb (T8 (i:=4) Uw.nd rfl rfl rfl (cT ["_law_page","_law_met_here","_law_match"] [0,1,3]) (Ye (K:=K) rfl (pD hu (pv 0) Zq)) (fun _ _ _ _ _=>Np (Zn (Ey (K:=K) rfl hr.units) (za4 zoy (hr.mono (by decide)) za3 rfl (Za (pv 1) (Za (pv 2) (Za (pv 0) (Za (pv 3) Zd))))) (Z5 Zd) (Zr _))) (fun _ _ _ _ _=>(pv 0)))
  (Ze (Yk (pv 2) (Uv rfl (cT [] []) (Ye (K:=K) rfl (pv 4)) (fun _ _ _ _ _=>U7) (fun _ _ _ _ _=>(pI (iU K) (pv 0) Zg)))))))
 (Ze (Zm (pv 2)))))),?_⟩
 refine⟨_,rfl,ok,d,P0,rfl,PA,PO,fun m kvs H1 hm mo s1 fm=>?_⟩
 obtain⟨lp,lo,lv,dv,li,lg,lm,pts,ots,vts,mts,a1,a2,a3,a4,a5,a6,a7,a8,a9,c1,c2,c3,o1,o2,o3,o4,o5,o6⟩:=id PA;refine⟨by show 0<=sizeLine;decide,fun r hr'=>?_⟩
 have s2:=s1.trans (Zf (o:=.lst []) hr');have q2:upd H1 r (.lst []) r=some (.lst []):=Zc;have hm2:upd H1 r (.lst []) m=some (.dT kvs):=Zf hr' _ _ hm;have fr:=s1.free hr';walk_at "if";generalize upd H1 r (.lst [])=H2 at s2 q2 hm2 ⊢
 rw[hms] at a9
 obtain⟨ll,ts,rfl,hll,tl,_⟩:=a9;have htl:ts.length=ms.length:=by rw[tl.length,zst]
 have hpl:pts.length=P0.ppl.length:=by rw[a3.length,zst]
 have hmr:m≠r:=fun z=>by rw[z,q2] at hm2;cases hm2
 refine⟨_,rfl,d,_,rfl,DGet.k (k:=.inr "listed") (s2 _ _ a1),ll,rfl,⟨_,SqL.of (s2 _ _ hll)⟩,Wa (K:=K) (a:=ll) (xs:=ts) (fun i σ H'=>(∃ v1 v2,σ=[some (.ref d),some (.ref m),some (.ref r),v1,v2])/\(∀ x o,H2 x=some o->x≠r->H' x=some o) /\
  ∃ ls,H' r=some (.lst (ls.map V.ref))/\ILs H' ls ((Sg P0 ms).take i)/\ls.length=i/\∀ x∈ls,H x=none/\x≠r) ⟨⟨_,_,rfl⟩,fun _ _ e _=>e,[],q2,.nil,rfl,by simp⟩ (fun i σ H' _ ⟨_,k,_⟩=>SqL.of (k _ _ (s2 _ _ hll) (Zh hll fr))) ?_ ?_⟩
 ·rintro i x σ H' hx ⟨⟨v1,v2,rfl⟩,k2,ls,hr3,il,hln,hfr⟩
  obtain⟨t,mm,rfl,hmm,ht⟩:=Jx tl hx;have sh:Same H H':=fun x o e=>k2 _ _ (s2 _ _ e) (Zh e fr)
  refine⟨_,rfl,d,_,rfl,DGet.k (k:=.inr "people") (sh _ _ a1),lp,rfl,⟨_,SqL.of (sh _ _ a2)⟩,?_⟩;refine Wn (K:=K) (a:=lp) (xs:=pts) (fun i ys H''=>Same H' H''/\Z9 H'' ys (((P0.ppl.take i).filter fun x=>(Pu P0 x mm).isEmpty).map pV)) ⟨Same.refl _,.nil⟩ (fun i ys H'' _ ⟨z,_⟩=>SqL.of (z _ _ (sh _ _ a2))) (szN (by omega)) (fun i ys H' ⟨_,e⟩=>by rw[e.length,zst];exact ztb (ztw _ _) (zt9 _ _)) ?_ ?_
  ·rintro j x ys H3 hx3 ⟨s3,tl3⟩
   obtain⟨tp,pp,rfl,hpp,htp⟩:=Jx a3 hx3;have sh3:=sh.trans s3;refine⟨_,rfl,_,rfl,_,rfl,_,rfl,ok,d,m,tp,t,P0,kvs,pp,mm,rfl,PA.same sh3,s3 _ _ (k2 _ _ hm2 hmr),mo,sh3 _ _ htp,sh3 _ _ ht,fun lw H4 hlw s4 fw=>?_⟩
   refine⟨by show 0<=sizeLine;decide,fun le hle=>?_⟩
   have s5:=s4.trans (Zf (o:=.lst []) hle);refine⟨_,_,.lst (SqL.of (Zf hle _ _ hlw)) (Ig _),.lst (SqL.of Zc) .nil,zgm _ zgn,T4,_,rfl,?_⟩;generalize upd H4 le (.lst [])=H5 at s5 ⊢
   rw[if_neg (show ¬ false=true by decide),Jf]
   have e:P0.ppl.take (j+1)=P0.ppl.take j++[pp]:=Wr hpp;rw[e,zus,zs1];refine itB (fun hb=>?_) (fun hb=>?_)
   ·refine⟨_,rfl,s3.trans s5,?_⟩
    rw[zui (p:=fun x=>(Pu P0 x mm).isEmpty) (a:=pp) hb,zuu]
    exact(tl3.same s5).snoc (s5 _ _ (sh3 _ _ htp))
   ·refine⟨s3.trans s5,?_⟩
    rw[zuh (p:=fun x=>(Pu P0 x mm).isEmpty) (a:=pp) (by rw[hb];decide),zuu,List.map_nil,zt4]
    exact tl3.same s5
  ·rintro ys H3 ⟨s3,tl3⟩ lf hlf
   rw[hpl,zte] at tl3
   have s4:=s3.trans (Zf (o:=.lst ys) hlf);have q4:upd H3 lf (.lst ys) lf=some (.lst ys):=Zc;have tl4:=tl3.same (Zf (o:=.lst ys) hlf);show Vn 4 (V.ref lf) _ (upd H3 lf (.lst ys)) _;generalize upd H3 lf (.lst ys)=H4 at s4 q4 tl4 ⊢
   have hfl:ys.length<=100:=by rw[tl3.length,zst];exact ztb (ztw _ _) hl2
   walk_at "if";refine⟨_,rfl,r,_,rfl,s4 _ _ hr3,_,rfl,lf,rfl,⟨_,SqL.of q4⟩,Wn (K:=K) (a:=lf) (xs:=ys) (fun i zs H''=>Same H4 H''/\zs=((P0.ppl.filter fun x=>(Pu P0 x mm).isEmpty).take i).map fun x=>V.int x.1) ⟨Same.refl _,rfl⟩ (fun i zs H'' _ ⟨z,_⟩=>SqL.of (z _ _ q4)) (szN (by omega)) (fun i zs H'' ⟨_,e⟩=>by rw[e,zst];exact zt9 _ _) ?_ ?_⟩
   ·rintro j x zs H5 hx5 ⟨s5,rfl⟩
    obtain⟨tp,pp,rfl,hpp,htp⟩:=Jx tl4 hx5;unfold tYes;dsimp only;rw[if_pos rfl];refine⟨_,rfl,tp,_,_,_,rfl,rfl,SqT.of (s5 _ _ htp),(show atI (pV pp) 0=some _ from rfl),s5,?_⟩
    rw[Wr hpp,zs1];rfl
   ·rintro zs H5 ⟨s5,rfl⟩ ln hln'
    have hyl:ys.length=(P0.ppl.filter fun x=>(Pu P0 x mm).isEmpty).length:=by rw[tl3.length,zst]
    rw[hyl,zte];have er:(P0.ppl.filter fun x=>(Pu P0 x mm).isEmpty).map (fun x=>V.int x.1)=((P0.ppl.filter fun x=>(Pu P0 x mm).isEmpty).map (·.1)).map V.int:=by rw[zua];rfl
    rw[er];have s6:=(s4.trans s5).trans (Zf (o:=.lst (((P0.ppl.filter fun x=>(Pu P0 x mm).isEmpty).map (·.1)).map V.int)) hln')
    have q6:upd H5 ln (.lst (((P0.ppl.filter fun x=>(Pu P0 x mm).isEmpty).map (·.1)).map V.int)) ln=some (.lst (((P0.ppl.filter fun x=>(Pu P0 x mm).isEmpty).map (·.1)).map V.int)):=Zc
    have fl:H' ln=none:=(s4.trans s5).free hln';dsimp only;generalize upd H5 ln (.lst (((P0.ppl.filter fun x=>(Pu P0 x mm).isEmpty).map (·.1)).map V.int))=H6 at s6 q6 ⊢
    refine⟨_,s6 _ _ hr3,szN (by rw[zst];have:=(zsv.mp hx).1;omega),⟨_,_,rfl⟩,fun x o e n=>by rw[Zi n];exact s6 _ _ (k2 _ _ e n),ls++[ln],by rw[zs1];exact Zc,?_,by rw[zsw,hln];rfl,fun y hy=>?_⟩
    ·have e:(Sg P0 ms).take (i+1)=(Sg P0 ms).take i++[(P0.ppl.filter fun x=>(Pu P0 x mm).isEmpty).map (·.1)]:=by
      unfold Sg;rw[zt8,zs0,hmm];rfl
     rw[e];refine ILs.snoc (by rw[Zi (Zh hr3 fl).symm];exact q6) (il.keep fun x hx' o q=>?_)
     rw[Zi (hfr x hx').2];exact s6 _ _ q
    ·rcases zs6.mp hy with z|z
     ·exact hfr y z
     ·rw[zsx.mp z];exact⟨sh.free fl,(Zh hr3 fl).symm⟩
 ·rintro σ H' ⟨⟨v1,v2,rfl⟩,k2,ls,hr3,il,hln,hfr⟩
  have sh:Same H H':=fun x o e=>k2 _ _ (s2 _ _ e) (Zh e fr)
  have hml:(Sg P0 ms).length=ms.length:=by unfold Sg;rw[zst]
  rw[htl,<- hml,zte] at il
  exact⟨_,rfl,h r ls H' hr3 il sh fr fun x hx=>(hfr x hx).1⟩
abbrev Pa:Stmt:=top 76
theorem Ta:Zl ["_law_pages","_law_deed_here","_law_page","_law_at_here","_law_kept"] ["_law_pages","_law_deed_here"] (Zj Pa):=fnS
theorem Dw(F:Fun K "_law_paged" "_law_paged" Pa f fd)(T:Tx K mg a)(zlv:Z1 P w K mg base "_law_open" 2 ["_law_page"] (Df K)):FnOk P w K mg base (CX1 P w) 3 f fd ["_law_pages","_law_deed_here"] (Dg K):=by
 refine F.okX Ta (by walk_at "ar") fun _ _ _ _ H _ Q E hr h=>?_
 obtain⟨ok,l,t,ds,d,P0,D,rfl,hl,PA,hD,PO,hpl,hol,hdl,hcl,h⟩:=h;have hu:=Wl hr;refine⟨_,(Zb (pS 2 Ta.nd (Ys zaa (by rfl) T.zp3 PyProof.Rows.boot_dict (Za (pI (iL K) (pv 0) (Qh Te Zg)) Zd)))
 (Zb (pS 3 Ta.nd (Zs Yu (Zo (cL K) (by rfl) T.zku PySem.boot_len (Za (pD hu (pv 2) Zq) Zd)) Zg))
 (Zb (Zz (Zn Xt (pI (iU K) (pv 1) Zg) Zq (Zr _))
  (Ze (Zm (Cj (Cp (K:=K) rfl) (pv 0) zaw (zax (Qh Te Zg)))))
  Zp)
 (Zb (Zz (Zn Xt (pI (iU K) (pv 1) Zg) Zq (Zr _))
  (Zb (pS 4 Ta.nd (Ya (Za (pD hu (pv 2) Zq) (Za (pD hu (pv 2) Zq) (Za (pD hu (pv 2) Zq) (Za (pF zlv hr (Za (pv 2) Zd)) Zd))))))
  (Zb (Yj hu (pv 2) Zq (Zs Ml (pD hu (pv 2) Zq) (Z5 (Za (pv 4) Zd))) rfl)
  (Zb (Yj hu (pv 2) Zq Yl rfl)
  (Zb (Yj hu (pv 2) Zq (Z5 Zd) rfl)
  (Zb (Yj hu (pv 2) Zq (Z5 Zd) rfl)
  (Ze (Zm (Z5 (Za (pv 2) Zd)))))))))
  Zp)
 (Zb (Zz (Zn Xt (pI (iU K) (pv 1) Zg) Zq (Zr _))
  (Zb (Yj hu (pv 2) Zq (Zs Ml (pD hu (pv 2) Zq) (Z5 (Za (Ya (Za (pI (iU K) (pv 1) Zg) (Za (pI (iU K) (pv 1) Zg) (Za (pI (iU K) (pv 1) Zg) Zd)))) Zd))) rfl)
  (Ze (Yj hu (pv 2) Zq (Ya (Za Zq (Za (pI (iU K) (pv 1) Zg) (Za (pv 3) Zd)))) rfl)))
  (Ze (Zz (Zn Xt (pI (iU K) (pv 1) Zg) Zq (Zr _))
   (Zb (Yj hu (pv 2) Zq (pI (iU K) (pv 1) Zg) rfl)
   (Ze (Yj hu (pv 2) Zq (Ya (Za Zq (Za (Zo (cL K) (by rfl) T.zku PySem.boot_len (Za (pI (iU K) (pv 1) Zg) Zd)) (Za (pv 3) Zd)))) rfl)))
   (Zb (Yj hu (pv 2) Zq (Zs Ml (pD hu (pv 2) Zq) (Z5 (Za (Ya (Za (pI (iU K) (pv 1) Zg) (Za (pI (iU K) (pv 1) Zg) Zd))) Zd))) rfl)
   (Ze (Yj hu (pv 2) Zq (Ya (Za Zq (Za (pI (iU K) (pv 1) Zg) (Za (pI (iU K) (pv 1) Zg) Zd)))) rfl))))))
 (Ze (Zm (Zs Ml (pv 0) (Z5 (Za (pv 2) Zd)))))))))),?_⟩
 show let y1:TS:=_;let y2:TS:=Zx _ y1;let y3:TS:=Zx _ y2;let y4:TS:=Zx _ y3;let y5:TS:=Zx _ y4;let y6:TS:=_;let y7:TS:=Zx _ y6;let y8:TS:=Zx (D6 _ (Zx _ y5) _) y7;let y9:TS:=Zx _ y8;let y10:TS:=Zx _ y9;Zx _ y10 _ _ _;intro y1 y2 y3 y4 y5 y6 y7 y8 y9 y10;obtain⟨lp,lo,lv,dv,li,lg,lm,a1,PB,okd⟩:=id PA.split;have hat:atI ((ds++[d]).map V.ref) (-1)=some (V.ref d):=by rw[zs1];exact L2.atI_last _ _
 refine⟨_,rfl,_,rfl,l,_,_,_,rfl,rfl,SqL.of hl,hat,d,_,rfl,.inl a1,fun d' fd'=>?_⟩
 obtain⟨ok1,hok1⟩:∃ ok1:Addr->Prop,ok1=fun x=>ok x\/H x=none:=⟨_,rfl⟩
 have okf:∀ x,H x=none->ok1 x:=fun x hx=>by rw[hok1];exact .inr hx
 have oko:∀ x,ok x->ok1 x:=fun x hx=>by rw[hok1];exact .inl hx
 rw[<- hok1] at h
 have s1:=Zf (o:=.dK (pgF P0.len P0.rest lp lo lv dv li lg lm)) fd';have q1:upd H d' (.dK (pgF P0.len P0.rest lp lo lv dv li lg lm)) d'=some (.dK (pgF P0.len P0.rest lp lo lv dv li lg lm)):=Zc;have PB1:=(PB.imp (fun x _ o=>oko x o)).keepL (.of s1)
 walk_at "if";generalize upd H d' (.dK (pgF P0.len P0.rest lp lo lv dv li lg lm))=H1 at s1 q1 PB1 ⊢
 have PA1:PgAt ok1 H1 d' P0:=.join q1 PB1 (okf _ fd');obtain⟨vts,v1,v2,v3⟩:=PB1.vv;refine⟨_,rfl,d',_,rfl,DGet.k (k:=.inr "over") q1,lv,vts,rfl,.inl (SqL.of v1),_,_,rfl,rfl,?_⟩;rw[v2.length];have wr:∀ {H:Hp} {lp lo lv:Addr} {dv li:V} {lg lm:Addr} {x:V} {k:Str},H d'=some (.dK (pgF P0.len P0.rest lp lo lv dv li lg lm))->DPut H d' (.str k) x (upd H d' (.dK (putK (pgF P0.len P0.rest lp lo lv dv li lg lm) (.inr k) x))):=fun q=>DPut.k (k:=.inr _) q zac
 have sz0:([]:List V).length<=sizeLine:=ztm _;have sz1:∀ x:V,[x].length<=sizeLine:=fun x=>by show 1<=sizeLine;rw[sizeLine_eq];decide
 walk_at "if";cases D with
 | back =>
   have ht:H t=some (.tup [.str "take back"]):=hD;refine⟨_,rfl,t,_,_,_,rfl,rfl,SqT.of (s1 _ _ ht),rfl,rfl,_,rfl,?_⟩;rw[Gn];refine iteT ?_;refine⟨_,rfl,_,rfl,_,rfl,l,_,rfl,SqL.of (s1 _ _ hl),fun c fc=>?_⟩
   rw[zs1,show Ga (ds.map V.ref++[d].map V.ref) none (some (-1))=ds.map V.ref from ze4 _ _]
   exact h c d' _ Zc (fun z=>absurd rfl z) (s1.trans (Zf fc)) (s1.free fc) fd'
 | close =>
   have ht:H t=some (.tup [.str "close"]):=hD;refine⟨_,rfl,t,_,_,_,rfl,rfl,SqT.of (s1 _ _ ht),rfl,rfl,_,rfl,?_⟩;rw[V9 (by decide +kernel)]
   refine iteF (Zu ?_);refine⟨_,rfl,t,_,_,_,rfl,rfl,SqT.of (s1 _ _ ht),rfl,rfl,_,rfl,?_⟩;rw[Gn];refine iteT ?_;obtain⟨ms,hms,hml⟩:=hcl rfl;refine⟨_,rfl,d',_,rfl,DGet.k (k:=.inr "listed") q1,_,rfl,d',_,rfl,DGet.k (k:=.inr "goes") q1,_,rfl,d',_,rfl,DGet.k (k:=.inr "moves") q1,_,rfl,ok1,d',P0,ms,rfl,PA1,PO,hms,hml,hpl,fun ly ls H2 hly ily s2 fly fls=>?_⟩
   obtain⟨ll,ts,rfl,b1,b2,b3⟩:∃ l ts,li=.ref l/\H1 l=some (.lst ts)/\Z9 H1 ts (ms.map pV)/\ok1 l:=by have:=PB1.li;rw[hms] at this;exact this
   obtain⟨mts,c1,c2,c3⟩:=PB1.mm;obtain⟨g1,g2⟩:=PB1.gg;have sh2:=s1.trans s2;refine⟨by show 4<=sizeLine;rw[sizeLine_eq];decide,fun tk ftk=>?_⟩
   have s3:=s2.trans (Zf (o:=.tup [.ref ll,.ref lg,.ref lm,.ref ly]) ftk);have t3:=Zc (H:=H2) (a:=tk) (o:=.tup [.ref ll,.ref lg,.ref lm,.ref ly]);have y3:=Zf (o:=.tup [.ref ll,.ref lg,.ref lm,.ref ly]) ftk _ _ hly;have i3:=ily.same (Zf (o:=.tup [.ref ll,.ref lg,.ref lm,.ref ly]) ftk);generalize upd H2 tk (.tup [.ref ll,.ref lg,.ref lm,.ref ly])=H3 at s3 t3 y3 i3 ⊢
   walk_at "if";refine⟨_,rfl,d',_,rfl,DGet.k (k:=.inr "over") (s3 _ _ q1),_,rfl,sz1 _,fun l1 f1=>?_⟩
   have s4:=Zf (o:=.lst [.ref tk]) f1;have t4:=Zc (H:=H3) (a:=l1) (o:=.lst [.ref tk]);generalize upd H3 l1 (.lst [.ref tk])=H4 at s4 t4 ⊢
   have s04:=s3.trans s4;refine⟨lv,l1,vts,_,rfl,rfl,s04 _ _ v1,t4,szN (by rw[v2.length];have:=PO.1;show P0.over.length+1<=1000;omega),fun lv' fv'=>?_⟩
   have s5:=s4.trans (Zf (o:=.lst (vts++[.ref tk])) fv');have t5:=Zc (H:=H4) (a:=lv') (o:=.lst (vts++[.ref tk]));generalize upd H4 lv' (.lst (vts++[.ref tk]))=H5 at s5 t5 ⊢
   have s15:=s3.trans s5;refine⟨_,rfl,d',_,rfl,wr (s15 _ _ q1),?_⟩;rw[ze1];have s6:=Z6 (o:=.dK (pgF P0.len P0.rest lp lo lv' dv (.ref ll) lg lm)) fd' (s1.trans s15);have q6:=Zc (H:=H5) (a:=d') (o:=.dK (pgF P0.len P0.rest lp lo lv' dv (.ref ll) lg lm));have k6:=Xf.dict (s15 _ _ q1) (kvs':=pgF P0.len P0.rest lp lo lv' dv (.ref ll) lg lm);generalize upd H5 d' (.dK (pgF P0.len P0.rest lp lo lv' dv (.ref ll) lg lm))=H6 at s6 q6 k6 ⊢
   refine⟨_,rfl,d',_,rfl,wr q6,?_⟩;rw[Ia];have s7:=Z6 (o:=.dK (pgF P0.len P0.rest lp lo lv' dv .non lg lm)) fd' s6;have q7:=Zc (H:=H6) (a:=d') (o:=.dK (pgF P0.len P0.rest lp lo lv' dv .non lg lm));have k7:=k6.trans (Xf.dict q6 (kvs':=pgF P0.len P0.rest lp lo lv' dv .non lg lm));generalize upd H6 d' (.dK (pgF P0.len P0.rest lp lo lv' dv .non lg lm))=H7 at s7 q7 k7 ⊢
   refine⟨sz0,fun lg' fg'=>?_⟩
   have s8:=Zf (o:=.lst []) fg';have t8:=Zc (H:=H7) (a:=lg') (o:=.lst []);generalize upd H7 lg' (.lst [])=H8 at s8 t8 ⊢
   refine⟨_,rfl,d',_,rfl,wr (s8 _ _ q7),?_⟩;rw[Bs];have s9:=Z6 (o:=.dK (pgF P0.len P0.rest lp lo lv' dv .non lg' lm)) fd' (s7.trans s8);have q9:=Zc (H:=H8) (a:=d') (o:=.dK (pgF P0.len P0.rest lp lo lv' dv .non lg' lm));have k9':=Xf.dict (s8 _ _ q7) (kvs':=pgF P0.len P0.rest lp lo lv' dv .non lg' lm);generalize upd H8 d' (.dK (pgF P0.len P0.rest lp lo lv' dv .non lg' lm))=H9 at s9 q9 k9' ⊢
   have k9:=(k7.trans (.of s8)).trans k9';refine⟨sz0,fun lm' fm'=>?_⟩
   have s10:=Zf (o:=.lst []) fm';have t10:=Zc (H:=H9) (a:=lm') (o:=.lst []);generalize upd H9 lm' (.lst [])=H10 at s10 t10 ⊢
   refine⟨_,rfl,d',_,rfl,wr (s10 _ _ q9),?_⟩;rw[Eg];have s11:=Z6 (o:=.dK (pgF P0.len P0.rest lp lo lv' dv .non lg' lm')) fd' (s9.trans s10);have q11:=Zc (H:=H10) (a:=d') (o:=.dK (pgF P0.len P0.rest lp lo lv' dv .non lg' lm'));have k11':=Xf.dict (s10 _ _ q9) (kvs':=pgF P0.len P0.rest lp lo lv' dv .non lg' lm');generalize upd H10 d' (.dK (pgF P0.len P0.rest lp lo lv' dv .non lg' lm'))=H11 at s11 q11 k11' ⊢
   have k11:=(k9.trans (.of s10)).trans k11';refine⟨_,rfl,sz1 _,fun lr flr=>?_⟩
   have s12:=Zf (o:=.lst [.ref d']) flr;have t12:=Zc (H:=H11) (a:=lr) (o:=.lst [.ref d']);have k12:=k11.trans (.of s12);have k1:=(Xf.of s15).trans k12;have k3:=(Xf.of s5).trans k12;generalize upd H11 lr (.lst [.ref d'])=H12 at s12 t12 k12 k1 k3 ⊢
   refine h lr d' H12 t12 (fun _=>?_) (s11.trans s12) (s11.free flr) fd'
   have b:=PB1.keepL k1;have e:Ud P0 .close={ P0 with over:=P0.over++[⟨ms,Sg P0 ms,P0.gv,P0.mv⟩],lis:=none,gv:=[],mv:=[] }:=by unfold Ud;rw[hms];rfl
   rw[e];have fr2:∀ x,H2 x=none->H x=none:=fun x hx=>sh2.free hx
   refine .join (P:={ P0 with over:=P0.over++[⟨ms,Sg P0 ms,P0.gv,P0.mv⟩],lis:=none,gv:=[],mv:=[] }) (s12 _ _ q11) ⟨b.pp,b.oo,⟨_,k12.1 _ _ t5,Xg.snoc (s:=⟨ms,Sg P0 ms,P0.gv,P0.mv⟩) (k3.2 _ _ t3) (k1.1 _ _ b1) (b2.mono k1.2) (k1.1 _ _ g1) (k1.1 _ _ c1) (c2.keepL k1) (k3.1 _ _ y3) (ILs.keepL k3 i3) ⟨b3,g2,c3,okf _ (s1.free fly),fun x hx=>okf _ (s1.free (fls x hx))⟩ (v2.keepL k1),okf _ (s1.free (s04.free fv'))⟩,b.dd,rfl,⟨?_,okf _ (s7.free fg')⟩,[],?_,.nil,okf _ (s9.free fm')⟩ (okf _ fd')
   ·exact s12 _ _ (k11'.1 _ _ (s10 _ _ (k9'.1 _ _ t8)))
   ·exact s12 _ _ (k11'.1 _ _ t10)
 | enrol n g c =>
   have ht:H t=some (.tup [.str "enrol",.int n,.int g,.int c]):=hD;have ht1:=s1 _ _ ht;have sz3:∀ x y z:V,[x,y,z].length<=sizeLine:=fun x y z=>by show 3<=sizeLine;rw[sizeLine_eq];decide
   refine⟨_,rfl,t,_,_,_,rfl,rfl,SqT.of ht1,rfl,rfl,_,rfl,?_⟩;rw[V9 (by decide +kernel)]
   refine iteF (Zu ?_);refine⟨_,rfl,t,_,_,_,rfl,rfl,SqT.of ht1,rfl,rfl,_,rfl,?_⟩;rw[V9 (by decide +kernel)]
   refine iteF (Zu ?_);refine⟨_,rfl,t,_,_,_,rfl,rfl,SqT.of ht1,rfl,rfl,_,rfl,?_⟩;rw[Gn];refine iteT ?_;obtain⟨pts,p1,p2,p3⟩:=PB1.pp;refine⟨_,rfl,d',_,rfl,DGet.k (k:=.inr "people") q1,_,rfl,t,_,_,_,rfl,rfl,SqT.of ht1,rfl,_,rfl,t,_,_,_,rfl,rfl,SqT.of ht1,rfl,_,rfl,t,_,_,_,rfl,rfl,SqT.of ht1,rfl,sz3 _ _ _,fun tp ftp=>?_⟩
   have s2:=Zf (o:=.tup [.int n,.int g,.int c]) ftp;have t2:=Zc (H:=H1) (a:=tp) (o:=.tup [.int n,.int g,.int c]);generalize upd H1 tp (.tup [.int n,.int g,.int c])=H2 at s2 t2 ⊢
   refine⟨sz1 _,fun l1 f1=>?_⟩
   have s3:=Zf (o:=.lst [.ref tp]) f1;have t3:=Zc (H:=H2) (a:=l1) (o:=.lst [.ref tp]);generalize upd H2 l1 (.lst [.ref tp])=H3 at s3 t3 ⊢
   have s13:=s2.trans s3;refine⟨lp,l1,pts,_,rfl,rfl,s13 _ _ p1,t3,szN (by rw[p2.length,zst];show _+1<=1000;omega),fun lp' fp'=>?_⟩
   have s4:=s13.trans (Zf (o:=.lst (pts++[.ref tp])) fp');have t4:=Zc (H:=H3) (a:=lp') (o:=.lst (pts++[.ref tp]));have t2':=(s3.trans (Zf (o:=.lst (pts++[.ref tp])) fp')) _ _ t2;generalize upd H3 lp' (.lst (pts++[.ref tp]))=H4 at s4 t4 t2' ⊢
   refine⟨_,rfl,d',_,rfl,wr (s4 _ _ q1),?_⟩;rw[zab];have s5:=Z6 (o:=.dK (pgF P0.len P0.rest lp' lo lv dv li lg lm)) fd' (s1.trans s4);have q5:=Zc (H:=H4) (a:=d') (o:=.dK (pgF P0.len P0.rest lp' lo lv dv li lg lm));have k5':=Xf.dict (s4 _ _ q1) (kvs':=pgF P0.len P0.rest lp' lo lv dv li lg lm);generalize upd H4 d' (.dK (pgF P0.len P0.rest lp' lo lv dv li lg lm))=H5 at s5 q5 k5' ⊢
   have k5:=(Xf.of s4).trans k5';refine⟨_,rfl,t,_,_,_,rfl,rfl,SqT.of (s5 _ _ ht),rfl,_,rfl,sz3 _ _ _,fun td ftd=>?_⟩
   have s6:=Zf (o:=.tup [.str "enrol",.int n,.int ((P0.over.length:Int)+1)]) ftd;have t6:=Zc (H:=H5) (a:=td) (o:=.tup [.str "enrol",.int n,.int ((P0.over.length:Int)+1)]);generalize upd H5 td (.tup [.str "enrol",.int n,.int ((P0.over.length:Int)+1)])=H6 at s6 t6 ⊢
   refine⟨_,rfl,d',_,rfl,wr (s6 _ _ q5),?_⟩;rw[J9];have s7:=Z6 (o:=.dK (pgF P0.len P0.rest lp' lo lv (.ref td) li lg lm)) fd' (s5.trans s6);have q7:=Zc (H:=H6) (a:=d') (o:=.dK (pgF P0.len P0.rest lp' lo lv (.ref td) li lg lm));have k7':=Xf.dict (s6 _ _ q5) (kvs':=pgF P0.len P0.rest lp' lo lv (.ref td) li lg lm);generalize upd H6 d' (.dK (pgF P0.len P0.rest lp' lo lv (.ref td) li lg lm))=H7 at s7 q7 k7' ⊢
   have k7:=(k5.trans (.of s6)).trans k7';refine⟨_,rfl,_,rfl,sz1 _,fun l2 f2=>?_⟩
   have s8:=Zf (o:=.lst [.ref d']) f2;have t8:=Zc (H:=H7) (a:=l2) (o:=.lst [.ref d']);generalize upd H7 l2 (.lst [.ref d'])=H8 at s8 t8 ⊢
   refine⟨l,l2,_,_,rfl,rfl,s8 _ _ (s7 _ _ hl),t8,szN (by rw[zst,zsw];show ds.length+1+1<=1000;omega),fun lr flr=>?_⟩
   have er:(ds++[d]).map V.ref++[.ref d']=(ds++[d]++[d']).map V.ref:=by rw[zs1 (l₁:=ds++[d])];rfl
   rw[er];have s9:=s8.trans (Zf (o:=.lst ((ds++[d]++[d']).map V.ref)) flr);have t9:=Zc (H:=H8) (a:=lr) (o:=.lst ((ds++[d]++[d']).map V.ref));generalize upd H8 lr (.lst ((ds++[d]++[d']).map V.ref))=H9 at s9 t9 ⊢
   have k9:=k7.trans (.of s9);have t6':=s9 _ _ (k7'.2 _ _ t6);refine h lr d' H9 t9 (fun _=>?_) (s7.trans s9) (s7.free (s8.free flr)) fd'
   have b:=PB1.keepL k9;refine .join (P:=Ud P0 (.enrol n g c)) (s9 _ _ q7) ⟨⟨_,s9 _ _ (k7'.1 _ _ (s6 _ _ (k5'.1 _ _ t4))),?_,okf _ (s1.free (s13.free fp'))⟩,b.oo,b.vv,⟨td,rfl,t6'⟩,b.li,b.gg,b.mm⟩ (okf _ fd');unfold Ud;dsimp only;rw[zs1];exact(p2.mono k9.2).snoc (s9 _ _ (k7'.2 _ _ (s6 _ _ (k5'.2 _ _ t2'))))
 | draw ms =>
   obtain⟨ll,ts,ht,hll,tl,okl⟩:∃ l ts,H t=some (.tup [.str "draw up",.ref l])/\H l=some (.lst ts)/\Z9 H ts (ms.map pV)/\ok l:=hD
   have ht1:=s1 _ _ ht;have sz3:∀ x y z:V,[x,y,z].length<=sizeLine:=fun x y z=>by show 3<=sizeLine;rw[sizeLine_eq];decide
   refine⟨_,rfl,t,_,_,_,rfl,rfl,SqT.of ht1,rfl,rfl,_,rfl,?_⟩;rw[V9 (by decide +kernel)]
   refine iteF (Zu ?_);refine⟨_,rfl,t,_,_,_,rfl,rfl,SqT.of ht1,rfl,rfl,_,rfl,?_⟩;rw[V9 (by decide +kernel)]
   refine iteF (Zu ?_);refine⟨_,rfl,t,_,_,_,rfl,rfl,SqT.of ht1,rfl,rfl,_,rfl,?_⟩;rw[V9 (by decide +kernel)]
   refine iteF ?_;refine⟨_,rfl,t,_,_,_,rfl,rfl,SqT.of ht1,rfl,rfl,_,rfl,?_⟩;rw[Gn];refine iteT ?_;refine⟨_,rfl,t,_,_,_,rfl,rfl,SqT.of ht1,rfl,_,rfl,d',_,rfl,wr q1,?_⟩;rw[Ia];have s5:=Z6 (o:=.dK (pgF P0.len P0.rest lp lo lv dv (.ref ll) lg lm)) fd' s1;have q5:=Zc (H:=H1) (a:=d') (o:=.dK (pgF P0.len P0.rest lp lo lv dv (.ref ll) lg lm));have k5:=Xf.dict q1 (kvs':=pgF P0.len P0.rest lp lo lv dv (.ref ll) lg lm);generalize upd H1 d' (.dK (pgF P0.len P0.rest lp lo lv dv (.ref ll) lg lm))=H5 at s5 q5 k5 ⊢
   have ez:(ts.length:Int)=(ms.length:Int):=by rw[tl.length,zst]
   refine⟨_,rfl,t,_,_,_,rfl,rfl,SqT.of (s5 _ _ ht),rfl,ll,ts,rfl,.inl (SqL.of (s5 _ _ hll)),_,rfl,sz3 _ _ _,fun td ftd=>?_⟩
   have s6:=Zf (o:=.tup [.str "draw up",.int (ts.length:Int),.int ((P0.over.length:Int)+1)]) ftd;have t6:=Zc (H:=H5) (a:=td) (o:=.tup [.str "draw up",.int (ts.length:Int),.int ((P0.over.length:Int)+1)]);generalize upd H5 td (.tup [.str "draw up",.int (ts.length:Int),.int ((P0.over.length:Int)+1)])=H6 at s6 t6 ⊢
   refine⟨_,rfl,d',_,rfl,wr (s6 _ _ q5),?_⟩;rw[J9];have s7:=Z6 (o:=.dK (pgF P0.len P0.rest lp lo lv (.ref td) (.ref ll) lg lm)) fd' (s5.trans s6);have q7:=Zc (H:=H6) (a:=d') (o:=.dK (pgF P0.len P0.rest lp lo lv (.ref td) (.ref ll) lg lm));have k7':=Xf.dict (s6 _ _ q5) (kvs':=pgF P0.len P0.rest lp lo lv (.ref td) (.ref ll) lg lm);generalize upd H6 d' (.dK (pgF P0.len P0.rest lp lo lv (.ref td) (.ref ll) lg lm))=H7 at s7 q7 k7' ⊢
   have k7:=(k5.trans (.of s6)).trans k7';refine⟨_,rfl,_,rfl,sz1 _,fun l2 f2=>?_⟩
   have s8:=Zf (o:=.lst [.ref d']) f2;have t8:=Zc (H:=H7) (a:=l2) (o:=.lst [.ref d']);generalize upd H7 l2 (.lst [.ref d'])=H8 at s8 t8 ⊢
   refine⟨l,l2,_,_,rfl,rfl,s8 _ _ (s7 _ _ hl),t8,szN (by rw[zst,zsw];show ds.length+1+1<=1000;omega),fun lr flr=>?_⟩
   have er:(ds++[d]).map V.ref++[.ref d']=(ds++[d]++[d']).map V.ref:=by rw[zs1 (l₁:=ds++[d])];rfl
   rw[er];have s9:=s8.trans (Zf (o:=.lst ((ds++[d]++[d']).map V.ref)) flr);have t9:=Zc (H:=H8) (a:=lr) (o:=.lst ((ds++[d]++[d']).map V.ref));generalize upd H8 lr (.lst ((ds++[d]++[d']).map V.ref))=H9 at s9 t9 ⊢
   have k9:=k7.trans (.of s9);have t6':=s9 _ _ (k7'.2 _ _ t6);refine h lr d' H9 t9 (fun _=>?_) (s7.trans s9) (s7.free (s8.free flr)) fd'
   have b:=PB1.keepL k9;rw[ez] at t6'
   exact .join (P:=Ud P0 (.draw ms)) (s9 _ _ q7) ⟨b.pp,b.oo,b.vv,⟨td,rfl,t6'⟩,⟨ll,ts,rfl,s9 _ _ (s7 _ _ hll),tl.mono (fun x xs z=>s9 _ _ (s7 _ _ z)),oko _ okl⟩,b.gg,b.mm⟩ (okf _ fd')
 | away i n =>
   have ht:H t=some (.tup [.str "away",.int i,.int n]):=hD;have ht1:=s1 _ _ ht;have sz3:∀ x y z:V,[x,y,z].length<=sizeLine:=fun x y z=>by show 3<=sizeLine;rw[sizeLine_eq];decide
   refine⟨_,rfl,t,_,_,_,rfl,rfl,SqT.of ht1,rfl,rfl,_,rfl,?_⟩;rw[V9 (by decide +kernel)]
   refine iteF (Zu ?_);refine⟨_,rfl,t,_,_,_,rfl,rfl,SqT.of ht1,rfl,rfl,_,rfl,?_⟩;rw[V9 (by decide +kernel)]
   refine iteF (Zu ?_);refine⟨_,rfl,t,_,_,_,rfl,rfl,SqT.of ht1,rfl,rfl,_,rfl,?_⟩;rw[V9 (by decide +kernel)]
   refine iteF ?_;refine⟨_,rfl,t,_,_,_,rfl,rfl,SqT.of ht1,rfl,rfl,_,rfl,?_⟩;rw[V9 (by decide +kernel)]
   refine iteF ?_;obtain⟨pts,p1,p2,p3⟩:=PB1.oo;refine⟨_,rfl,d',_,rfl,DGet.k (k:=.inr "out") q1,_,rfl,t,_,_,_,rfl,rfl,SqT.of ht1,rfl,_,rfl,t,_,_,_,rfl,rfl,SqT.of ht1,rfl,sz2,fun tp ftp=>?_⟩
   have s2:=Zf (o:=.tup [.int i,.int n]) ftp;have t2:=Zc (H:=H1) (a:=tp) (o:=.tup [.int i,.int n]);generalize upd H1 tp (.tup [.int i,.int n])=H2 at s2 t2 ⊢
   refine⟨sz1 _,fun l1 f1=>?_⟩
   have s3:=Zf (o:=.lst [.ref tp]) f1;have t3:=Zc (H:=H2) (a:=l1) (o:=.lst [.ref tp]);generalize upd H2 l1 (.lst [.ref tp])=H3 at s3 t3 ⊢
   have s13:=s2.trans s3;refine⟨lo,l1,pts,_,rfl,rfl,s13 _ _ p1,t3,szN (by rw[p2.length,zst];show _+1<=1000;omega),fun lo' fp'=>?_⟩
   have s4:=s13.trans (Zf (o:=.lst (pts++[.ref tp])) fp');have t4:=Zc (H:=H3) (a:=lo') (o:=.lst (pts++[.ref tp]));have t2':=(s3.trans (Zf (o:=.lst (pts++[.ref tp])) fp')) _ _ t2;generalize upd H3 lo' (.lst (pts++[.ref tp]))=H4 at s4 t4 t2' ⊢
   refine⟨_,rfl,d',_,rfl,wr (s4 _ _ q1),?_⟩;rw[zgj];have s5:=Z6 (o:=.dK (pgF P0.len P0.rest lp lo' lv dv li lg lm)) fd' (s1.trans s4);have q5:=Zc (H:=H4) (a:=d') (o:=.dK (pgF P0.len P0.rest lp lo' lv dv li lg lm));have k5':=Xf.dict (s4 _ _ q1) (kvs':=pgF P0.len P0.rest lp lo' lv dv li lg lm);generalize upd H4 d' (.dK (pgF P0.len P0.rest lp lo' lv dv li lg lm))=H5 at s5 q5 k5' ⊢
   have k5:=(Xf.of s4).trans k5';refine⟨_,rfl,t,_,_,_,rfl,rfl,SqT.of (s5 _ _ ht),rfl,_,rfl,t,_,_,_,rfl,rfl,SqT.of (s5 _ _ ht),rfl,sz3 _ _ _,fun td ftd=>?_⟩
   have s6:=Zf (o:=.tup [.str "away",.int n,.int i]) ftd;have t6:=Zc (H:=H5) (a:=td) (o:=.tup [.str "away",.int n,.int i]);generalize upd H5 td (.tup [.str "away",.int n,.int i])=H6 at s6 t6 ⊢
   refine⟨_,rfl,d',_,rfl,wr (s6 _ _ q5),?_⟩;rw[J9];have s7:=Z6 (o:=.dK (pgF P0.len P0.rest lp lo' lv (.ref td) li lg lm)) fd' (s5.trans s6);have q7:=Zc (H:=H6) (a:=d') (o:=.dK (pgF P0.len P0.rest lp lo' lv (.ref td) li lg lm));have k7':=Xf.dict (s6 _ _ q5) (kvs':=pgF P0.len P0.rest lp lo' lv (.ref td) li lg lm);generalize upd H6 d' (.dK (pgF P0.len P0.rest lp lo' lv (.ref td) li lg lm))=H7 at s7 q7 k7' ⊢
   have k7:=(k5.trans (.of s6)).trans k7';refine⟨_,rfl,_,rfl,sz1 _,fun l2 f2=>?_⟩
   have s8:=Zf (o:=.lst [.ref d']) f2;have t8:=Zc (H:=H7) (a:=l2) (o:=.lst [.ref d']);generalize upd H7 l2 (.lst [.ref d'])=H8 at s8 t8 ⊢
   refine⟨l,l2,_,_,rfl,rfl,s8 _ _ (s7 _ _ hl),t8,szN (by rw[zst,zsw];show ds.length+1+1<=1000;omega),fun lr flr=>?_⟩
   have er:(ds++[d]).map V.ref++[.ref d']=(ds++[d]++[d']).map V.ref:=by rw[zs1 (l₁:=ds++[d])];rfl
   rw[er];have s9:=s8.trans (Zf (o:=.lst ((ds++[d]++[d']).map V.ref)) flr);have t9:=Zc (H:=H8) (a:=lr) (o:=.lst ((ds++[d]++[d']).map V.ref));generalize upd H8 lr (.lst ((ds++[d]++[d']).map V.ref))=H9 at s9 t9 ⊢
   have k9:=k7.trans (.of s9);have t6':=s9 _ _ (k7'.2 _ _ t6);refine h lr d' H9 t9 (fun _=>?_) (s7.trans s9) (s7.free (s8.free flr)) fd'
   have b:=PB1.keepL k9;refine .join (P:=Ud P0 (.away i n)) (s9 _ _ q7) ⟨b.pp,⟨_,s9 _ _ (k7'.1 _ _ (s6 _ _ (k5'.1 _ _ t4))),?_,okf _ (s1.free (s13.free fp'))⟩,b.vv,⟨td,rfl,t6'⟩,b.li,b.gg,b.mm⟩ (okf _ fd');unfold Ud;dsimp only;rw[zs1];exact(p2.mono k9.2).snoc (s9 _ _ (k7'.2 _ _ (s6 _ _ (k5'.2 _ _ t2'))))
abbrev Yd:Stmt:=top 77
theorem Y0:Zl ["_law_cell_here","_law_clubs_here","_law_most","_law_mixed","_law_matches_here","_law_many","_law_grades","_law_rest_here","_law_k","_law_home","_law_guest"] ["_law_cell_here","_law_clubs_here","_law_most","_law_mixed"] (Zj Yd):=fnS
@[irreducible] def V5:List Expr:=zcv (Pt (Xr (Zv Yd) 2))
@[irreducible] def Pb:Pos:=zcw (Pt (Xr (Zv Yd) 2))
theorem Lu:Zv Yd=[Xr (Zv Yd) 0,Xr (Zv Yd) 1,.Assign (zez (Xr (Zv Yd) 2)) (.List V5 Pb) (stP (Xr (Zv Yd) 2)),Xr (Zv Yd) 3,Xr (Zv Yd) 4,Xr (Zv Yd) 5]:=by unfold V5 Pb;kernel_rfl
theorem Lv:J8 V5 [1,2,3,4,5,6,7,8,9,1,1,1,1,2,2,3,3,4]:=by unfold V5;exact⟨by kernel_rfl,by kernel_rfl⟩
theorem Hu(F:Fun K "_law_matches" "_law_matches" Yd f fd)(T:Tx K mg a)(zl9:Z1 P w K mg base "_law_mix" 1 ["_law_cell_here","_law_k"] za6):FnOk P w K mg base (CX1 P w) 2 f fd ["_law_cell_here","_law_clubs_here","_law_most","_law_mixed"] (Kh K):=by
 refine F.okX Y0 (by walk_at "ar") fun _ _ _ _ H _ Q E hr h=>?_
 obtain⟨b,ns,cell,most,mixed,rfl,hb,hl1,hl2,nd,rng,hm1,hmx,h⟩:=h;rw[Lu];refine⟨_,(Zb (pS 4 Y0.nd (Z5 Zd))
 (Zb (pS 5 Y0.nd (Zo (cL K) (by rfl) T.zku PySem.boot_len (Za (pv 1) Zd)))
 (Zb (pS 6 Y0.nd (Z5 (Pm [1,2,3,4,5,6,7,8,9,1,1,1,1,2,2,3,3,4] Lv)))
 (Zb (pS 7 Y0.nd (Zs Xa (pv 0) (Zs Yu (pv 2) Zg)))
 (Zb (Y5 PassesOwn.leaving rfl (Xk rfl T.zlj (Za (Zs Yq (pv 0) (Zs Yu (pv 2) Zg)) Zd)) (pN 8 Y0.nd)
  (Zb (pS 9 Y0.nd (Zs Yq (pv 7) (pv 5)))
  (Zb (pS 10 Y0.nd (Zs Yq (Zs Yu (Zs Yu (pv 9) Zg) (Zs Yq (Zs Xa (pv 7) (pv 5)) (Zs Oe (pv 5) Zg))) (pv 5)))
  (Zb (Yk (pv 4) (Ya (Za (pI (iL K) (pv 1) (pv 9)) (Za (pI (iL K) (pv 1) (pv 10)) (Za (pI (iL K) (pv 6) (Zs Yq (Zs Xa (Zs Xa (pv 7) (pv 5)) (Zs Oe (pv 5) Zg)) Zg)) Zd)))))
  (Ze (pS 7 Y0.nd (pI (iL K) (Z5 (Za (Zs Xa (Zs Xa (Zs Xa (pv 7) (pv 5)) (Zs Oe (pv 5) Zg)) Zg) (Za (pF zl9 hr (Za (pv 7) (Za (pv 8) Zd))) Zd))) (pv 3))))))))
 (Ze (Zm (pv 4)))))))),?_⟩
 show let y1:TS:=_;let y2:TS:=Zx _ y1;let y3:TS:=Zx _ y2;let y4:TS:=_;let y5:TS:=Zx (zfj _ _ (Zx _ y3)) y4;let y6:TS:=Zx _ y5;let y7:TS:=Zx _ y6;let y8:TS:=Zx _ y7;Zx _ y8 _ _ _;intro y1 y2 y3 y4 y5 y6 y7 y8;have sz0:([]:List V).length<=sizeLine:=ztm _;have sz3:∀ x y z:V,[x,y,z].length<=sizeLine:=fun x y z=>by show 3<=sizeLine;rw[sizeLine_eq];decide
 refine⟨sz0,fun r fr=>?_⟩
 have s1:=Zf (o:=.lst []) fr;have q1:=Zc (H:=H) (a:=r) (o:=.lst []);walk_at "if";generalize upd H r (.lst [])=H1 at s1 q1 ⊢
 refine⟨_,rfl,b,_,rfl,.inl (SqL.of (s1 _ _ hb)),?_⟩;rw[zst];walk_at "if";refine Bq [1,2,3,4,5,6,7,8,9,1,1,1,1,2,2,3,3,4] (by decide) fun lg H2 hg s2 fg=>?_
 have frg:lg≠r:=(Zh q1 fg).symm;have hc:(0:Int)<(most:Int)+1:=by omega
 refine⟨_,rfl,_,rfl,_,_,rfl,rfl,_,_,rfl,rfl,⟨hc,by omega⟩,?_⟩
 walk_at "if";refine⟨_,rfl,_,rfl,_,_,rfl,rfl,_,_,rfl,rfl,hc,_,rfl,?_⟩;have c0:=ztx cell (show ((most:Int)+1)≠0 by omega)
 have c1:=ztq cell hc;have hn0:(0:Int)<(ns.length:Int):=by omega
 have hn1:(0:Int)<(ns.length:Int)-1:=by omega
 let jv7:Nat->L2.St->Hp->Prop:=fun i σ H'=>(∃ v8 v9 v10 R,σ=[some (.int cell),some (.ref b),some (.int most),some (.int mixed),some (.ref r),some (.int ns.length),some (.ref lg),some (.int R),v8,v9,v10])/\(∀ x o,H2 x=some o->x≠r->H' x=some o)/\∃ ts ms,H' r=some (.lst ts)/\Z9 H' ts (ms.map pV)/\ms.length=i/\zaf ms
 refine⟨by omega,by omega,Xu jv7
  ⟨⟨_,_,_,_,rfl⟩,fun _ _ e _=>e,[],[],s2 _ _ q1,.nil,rfl,(fun m z=>nomatch z),(fun m z=>nomatch z)⟩ ?_ ?_⟩
 ·rintro i σ H' hi ⟨⟨v8,v9,v10,R,rfl⟩,k,ts,ms,hr',tl,hml,gm⟩
  have hb':=k _ _ (s2 _ _ (s1 _ _ hb)) (Zh hb fr);have hg':=k _ _ hg frg;have e0:=ztx R (show (ns.length:Int)≠0 by omega)
  have e1:=ztq R hn0;have f0:=ztx (R/(ns.length:Int)) (show (ns.length:Int)-1≠0 by omega)
  have f1:=ztq (R/(ns.length:Int)) hn1;have w0:=ztx (R/(ns.length:Int)/((ns.length:Int)-1)) (show (18:Int)≠0 by omega)
  have w1:=ztq (R/(ns.length:Int)/((ns.length:Int)-1)) (show (0:Int)<18 by omega)
  obtain⟨g0,g1,g2⟩:=ze6 e0 e1 (y:=1+R/(ns.length:Int)%((ns.length:Int)-1)) (by omega) (by omega)
  rw[<- Int.add_assoc] at g0 g1 g2
  refine⟨_,rfl,_,rfl,_,_,rfl,rfl,hn0,?_⟩;walk_at "if";refine⟨_,rfl,_,_,rfl,rfl,_,rfl,_,rfl,_,_,rfl,rfl,⟨hn0,by omega⟩,_,rfl,_,_,rfl,rfl,_,_,rfl,rfl,hn1,_,_,rfl,rfl,_,rfl,_,_,rfl,rfl,hn0,?_⟩
  walk_at "if";generalize hG:(R%(ns.length:Int)+1+R/(ns.length:Int)%((ns.length:Int)-1))%(ns.length:Int)=gu at g0 g1 g2 ⊢
  generalize hHo:R%(ns.length:Int)=ho at e0 e1 g2 ⊢
  refine⟨_,rfl,r,_,rfl,hr',?_⟩;have hgr:=Wm (xs:=Dh) w0 (by show _<((18:Nat):Int);omega)
  have rgr:=zag (R/(ns.length:Int)/((ns.length:Int)-1)%18).toNat (by omega)
  generalize hgv:Dh.getD (R/(ns.length:Int)/((ns.length:Int)-1)%18).toNat 0=gv at hgr rgr
  have hho:=Wm (xs:=ns) e0 (by omega)
  have hgu:=Wm (xs:=ns) g0 (by omega)
  have mho:=Tc (ns:=ns) (i:=ho.toNat) (by omega)
  have mgu:=Tc (ns:=ns) (i:=gu.toNat) (by omega)
  have hne:ns.getD ho.toNat 0≠ns.getD gu.toNat 0:=fun z=>by
   have:=ze7 nd (by omega) (by omega) z
   omega
  generalize ns.getD ho.toNat 0=a1 at hho mho hne
  generalize ns.getD gu.toNat 0=a2 at hgu mgu hne
  refine⟨_,rfl,_,rfl,b,_,_,_,rfl,rfl,SqL.of hb',hho,_,rfl,_,rfl,b,_,_,_,rfl,rfl,SqL.of hb',hgu,?_⟩;refine⟨_,rfl,_,rfl,_,rfl,_,_,rfl,rfl,⟨hn0,by omega⟩,_,rfl,_,_,rfl,rfl,_,_,rfl,rfl,⟨hn1,by omega⟩,_,_,rfl,rfl,(by omega),lg,_,_,_,rfl,rfl,SqL.of hg',hgr,sz3 _ _ _,fun t ft=>?_⟩
  have s3:=Zf (o:=.tup [.int a1,.int a2,.int gv]) ft;have q3:=Zc (H:=H') (a:=t) (o:=.tup [.int a1,.int a2,.int gv]);generalize upd H' t (.tup [.int a1,.int a2,.int gv])=H3 at s3 q3 ⊢
  have tln:=tl.length;rw[zst] at tln
  refine⟨ts,s3 _ _ hr',szN (by omega),?_⟩
  have hi':i<21:=by omega
  have k4:∀ x o,H3 x=some o->x≠r->upd H3 r (.lst (ts++[.ref t])) x=some o:=fun x o e n=>by rw[Zi n];exact e
  have q4:=Zc (H:=H3) (a:=r) (o:=.lst (ts++[.ref t]));have kt4:∀ x ys,H3 x=some (.tup ys)->upd H3 r (.lst (ts++[.ref t])) x=some (.tup ys):=fun x ys e=>k4 _ _ e (Yx e (s3 _ _ hr') (by intro z;cases z))
  dsimp only;generalize upd H3 r (.lst (ts++[.ref t]))=H4 at k4 q4 kt4 ⊢
  obtain⟨z,hz⟩:=at2 (R/(ns.length:Int)/((ns.length:Int)-1)/18) (Ax R (0+(i:Int))) hmx;refine⟨_,rfl,_,rfl,_,_,rfl,rfl,⟨hn0,by omega⟩,_,rfl,_,_,rfl,rfl,_,_,rfl,rfl,⟨hn1,by omega⟩,_,_,rfl,rfl,⟨by omega,by omega⟩,_,rfl,_,rfl,_,_,rfl,sz2,fun l2 f2=>⟨_,rfl,l2,_,_,_,rfl,rfl,SqL.of Zc,hz,?_⟩⟩
  have s5:=Zf (o:=.lst [.int (R/(ns.length:Int)/((ns.length:Int)-1)/18),.int (Ax R (0+(i:Int)))]) f2;refine⟨⟨_,_,_,_,rfl⟩,fun x o e n=>s5 _ _ (k4 _ _ (s3 _ _ (k _ _ e n)) n),ts++[.ref t],ms++[(a1,a2,gv)],s5 _ _ q4,?_,by rw[zsw,hml];rfl,?_,?_⟩
  ·rw[zs1]
   exact(tl.mono fun x ys e=>s5 _ _ (kt4 _ _ (s3 _ _ e))).snoc (s5 _ _ (kt4 _ _ q3))
  ·intro m hm
   rcases zs6.mp hm with hm|hm
   ·exact gm.1 m hm
   ·rw[zsx.mp hm]
    have:=rng _ mho;have:=rng _ mgu;unfold badM;dsimp only;omega
  ·intro m hm
   rcases zs6.mp hm with hm|hm
   ·exact gm.2 m hm
   ·rw[zsx.mp hm];exact hne
 ·rintro σ H' ⟨⟨v8,v9,v10,R,rfl⟩,k,ts,ms,hr',tl,hml,gm⟩
  refine⟨_,rfl,h r ts ms H' hr' tl (by omega) gm (fun x o e=>k _ _ (s2 _ _ (s1 _ _ e)) (Zh e fr)) fr⟩
abbrev Hv:Stmt:=top 78
theorem zdc:Zl ["_law_season","_law_deed_here"] ["_law_season","_law_deed_here"] (Zj Hv):=fnS
theorem zdd(F:Fun K "_law_do" "_law_do" Hv f fd)(T:Tx K mg a)(znf:Zw P w K mg base a.zkn "enrol" 5 ["self","number","grade","club"] (zbj (ca a)))(znz:Zw P w K mg base a.zkn "away" 7 ["self","at","number"] (zew (ca a)))(zmp:Zw P w K mg base a.zkn "draw_up" 6 ["self","matches"] (Bf K (ca a)))(zno:Zw P w K mg base a.zkn "close" 4 ["self"] (zbk (ca a)))(zmd:Zw P w K mg base a.zkn "take_back" 2 ["self"] (J4 (ca a))):FnOk P w K mg base (CX1 P w) 8 f fd ["_law_season","_law_deed_here"] (zih K (ca a)):=by
 refine F.okX zdc (by walk_at "ar") fun _ _ _ _ H _ Q E hr h=>?_
 obtain⟨A',S,t,d,rfl,SA,hd,gd,co,po,hz,hoz,htot,hl,hol,hln,hsn,hbk,h⟩:=h;refine⟨_,(Zb (Zz (Zn Xt (pI (iU K) (pv 1) Zg) Zq (Zr _))
  (Ze (Zm (Xx (pv 0) T.zko znf (hr.mono (by decide)) Zk (Za (pI (iU K) (pv 1) Zg) (Za (pI (iU K) (pv 1) Zg) (Za (pI (iU K) (pv 1) Zg) Zd))))))
  Zp)
 (Zb (Zz (Zn Xt (pI (iU K) (pv 1) Zg) Zq (Zr _))
  (Ze (Zm (Xx (pv 0) T.zko znz (hr.mono (by decide)) Zk (Za (pI (iU K) (pv 1) Zg) (Za (pI (iU K) (pv 1) Zg) Zd)))))
  Zp)
 (Zb (Zz (Zn Xt (pI (iU K) (pv 1) Zg) Zq (Zr _))
  (Ze (Zm (Xx (pv 0) T.zko zmp (hr.mono (by decide)) Zk (Za (Ys (Yv (K:=K) rfl) (by rfl) T.zlk PyProof.Rows.boot_list (Za (pI (iU K) (pv 1) Zg) Zd)) Zd))))
  Zp)
 (Zb (Zz (Zn Xt (pI (iU K) (pv 1) Zg) Zq (Zr _))
  (Ze (Zm (Yr (pv 0) T.zko zno (hr.mono (by decide)) Zk)))
  Zp)
 (Ze (Zm (Yr (pv 0) T.zko zmd (hr.mono (by decide)) Zk))))))),?_⟩
 obtain⟨⟨dx,v,a1,a2⟩,_⟩:=id SA;cases d with
 | enrol n g c0 =>
   have ht:H t=some (.tup [.str "enrol",.int n,.int g,.int c0]):=hd;obtain⟨g1,g2,g3,g4,g5⟩:=gd;have hb:=g3;unfold badI at hb
   refine⟨_,rfl,t,_,_,_,rfl,rfl,SqT.of ht,rfl,rfl,_,rfl,?_⟩;rw[Gn];refine iteT ?_;refine⟨_,rfl,A'.p,dx,_,rfl,a1,Yi (by decide +kernel),_,rfl,t,_,_,_,rfl,rfl,SqT.of ht,rfl,_,rfl,t,_,_,_,rfl,rfl,SqT.of ht,rfl,_,rfl,t,_,_,_,rfl,rfl,SqT.of ht,rfl,A',S,n,g,c0,rfl,SA,⟨Y2 (by omega) (by omega),Y2 (by omega) (by omega),Y2 (by omega) (by omega)⟩,by omega,by omega,?_⟩
   rw[if_neg (by omega),if_neg (by rw[g2];decide),if_neg g3,if_neg g4,if_neg (by omega),if_neg (by omega)]
   exact fun H' SA' f'=>h .non A' _ H' (.enrol n g c0) SA' (.refl A' H) f' (fun l z=>nomatch z)
 | away i n =>
   have ht:H t=some (.tup [.str "away",.int i,.int n]):=hd;obtain⟨g1,g2,g3,g4⟩:=gd;refine⟨_,rfl,t,_,_,_,rfl,rfl,SqT.of ht,rfl,rfl,_,rfl,?_⟩;rw[V9 (by decide +kernel)]
   refine iteF (Zu ?_);refine⟨_,rfl,t,_,_,_,rfl,rfl,SqT.of ht,rfl,rfl,_,rfl,?_⟩;rw[Gn];refine iteT ?_;have si:Y6 i:=Y2 (by omega) (by omega)
   refine⟨_,rfl,A'.p,dx,_,rfl,a1,Yi (by decide +kernel),_,rfl,t,_,_,_,rfl,rfl,SqT.of ht,rfl,_,rfl,t,_,_,_,rfl,rfl,SqT.of ht,rfl,A',S,i,n,rfl,SA,si,hsn i n rfl,by omega,hoz,po,fun s hs=>?_,?_⟩
   ·obtain⟨c1,c2,c3,c4,c5⟩:=co s hs
    exact⟨c1,c2,c4,by omega⟩
   rw[if_neg (by omega),if_neg (by omega),if_pos g3,if_neg g4,if_neg (by omega)]
   refine⟨fun hc l H' hl' SA' f' fl=>h _ A' _ H' (.awayN hc hl') SA' (.refl A' H) f' (fun l2 z _=>by cases z;exact fl),fun s hi hs hp l H' hl' SA' f' fl=>?_,fun s p hi hs hp l us st e w' H' hl' tl CR SA' f' fl=>?_⟩
   ·subst hi
    exact h _ A' _ H' (.awayF hs hp hl') SA' (.refl A' H) f' (fun l2 z _=>by cases z;exact fl)
   ·subst hi
    exact h _ A' _ H' (.awayC hs hp hl' tl CR) SA' (.refl A' H) f' (fun l2 z _=>by cases z;exact fl)
 | draw ms =>
   obtain⟨l0,ts,ht,hl0,tl,okl⟩:∃ l ts,H t=some (.tup [.str "draw up",.ref l])/\H l=some (.lst ts)/\Z9 H ts (ms.map pV)/\l∉A'.fp:=hd
   obtain⟨g1,g2,g3,g4,g5⟩:=gd;refine⟨_,rfl,t,_,_,_,rfl,rfl,SqT.of ht,rfl,rfl,_,rfl,?_⟩;rw[V9 (by decide +kernel)]
   refine iteF (Zu ?_);refine⟨_,rfl,t,_,_,_,rfl,rfl,SqT.of ht,rfl,rfl,_,rfl,?_⟩;rw[V9 (by decide +kernel)]
   refine iteF (Zu ?_);refine⟨_,rfl,t,_,_,_,rfl,rfl,SqT.of ht,rfl,rfl,_,rfl,?_⟩;rw[Gn];refine iteT ?_;refine⟨_,rfl,A'.p,dx,_,rfl,a1,Yi (by decide +kernel),_,rfl,t,_,_,_,rfl,rfl,SqT.of ht,rfl,l0,ts,rfl,.inl (SqL.of hl0),fun l1 hl1=>?_⟩
   have s1:=Zf (o:=.lst ts) hl1;have q1:upd H l1 (.lst ts) l1=some (.lst ts):=Zc;generalize upd H l1 (.lst ts)=H1 at s1 q1
   have nb:¬ Rn ms:=fun ⟨m,hm,hb⟩=>g4 m hm hb
   have ns:¬ Ro ms:=fun ⟨m,hm,hb⟩=>g5 m hm hb
   refine⟨A',S,l1,ts,ms,rfl,SA.same s1,SqL.of q1,tl.same s1,fun m hm=>?_,by omega,by omega,po,?_⟩
   ·have:=g4 m hm
    unfold badM at this
    exact⟨Y2 (by omega) (by omega),Y2 (by omega) (by omega),Y2 (by omega) (by omega)⟩
   rw[if_neg (by omega),if_neg (by rw[g2];decide)]
   refine⟨fun z=>absurd z (by omega),fun _ z=>absurd z nb,fun _ _ z=>absurd z ns,fun _ _ _=>⟨fun z=>absurd z (by omega),fun _ l gv H' hl' SA' FP SP f' fl=>?_⟩⟩
   exact h _ A' _ H' (.draw hl' FP SP) SA' (.refl A' H) ((FrS.of A' s1).trans f') (fun l2 z _=>by cases z;exact s1.free fl)
 | close =>
   have ht:H t=some (.tup [.str "close"]):=hd;obtain⟨g1,g2⟩:=gd;refine⟨_,rfl,t,_,_,_,rfl,rfl,SqT.of ht,rfl,rfl,_,rfl,?_⟩;rw[V9 (by decide +kernel)]
   refine iteF (Zu ?_);refine⟨_,rfl,t,_,_,_,rfl,rfl,SqT.of ht,rfl,rfl,_,rfl,?_⟩;rw[V9 (by decide +kernel)]
   refine iteF (Zu ?_);refine⟨_,rfl,t,_,_,_,rfl,rfl,SqT.of ht,rfl,rfl,_,rfl,?_⟩;rw[V9 (by decide +kernel)]
   refine iteF (Zu ?_);refine⟨_,rfl,t,_,_,_,rfl,rfl,SqT.of ht,rfl,rfl,_,rfl,?_⟩;rw[Gn];refine iteT ?_;refine⟨_,rfl,A'.p,dx,_,rfl,a1,Yi (by decide +kernel),A',S,rfl,SA,htot,hl,hol,fun s hs=>?_,?_⟩
   ·obtain⟨c1,c2,c3,c4,c5⟩:=co s hs
    refine⟨c2.one,?_,by omega⟩
    rw[c2.len,c4];unfold mayS;rw[zst]
   rw[if_neg (by omega)]
   exact⟨fun z=>absurd z g2,fun s x H' hs SA' f' fx=>h _ { A' with lt:=x } _ H' (.close hs) SA' ⟨x,rfl,.inr fx⟩ f' (fun l2 z=>nomatch z)⟩
 | back =>
   have ht:H t=some (.tup [.str "take back"]):=hd;refine⟨_,rfl,t,_,_,_,rfl,rfl,SqT.of ht,rfl,rfl,_,rfl,?_⟩;rw[V9 (by decide +kernel)]
   refine iteF (Zu ?_);refine⟨_,rfl,t,_,_,_,rfl,rfl,SqT.of ht,rfl,rfl,_,rfl,?_⟩;rw[V9 (by decide +kernel)]
   refine iteF (Zu ?_);refine⟨_,rfl,t,_,_,_,rfl,rfl,SqT.of ht,rfl,rfl,_,rfl,?_⟩;rw[V9 (by decide +kernel)]
   refine iteF (Zu ?_);refine⟨_,rfl,t,_,_,_,rfl,rfl,SqT.of ht,rfl,rfl,_,rfl,?_⟩;rw[V9 (by decide +kernel)]
   refine iteF (Zu ?_);obtain⟨S0,hs0⟩:=hbk rfl;obtain⟨d0,e1,e2,e3,e4,e5,e6⟩:=id hs0;refine⟨_,rfl,A'.p,dx,_,rfl,a1,Yi (by decide +kernel),A',S,rfl,SA,fun z=>absurd z gd,fun std d s he=>?_⟩
   rw[e1] at he
   obtain⟨he1,he2⟩:=List.append_inj' he rfl;have he2:(d0,S0.cur)=(d,s):=by simpa using he2
   cases he2;subst he1;refine⟨S0.ppl,S0.out,e2,fun t' H' ht' SA' f'=>?_⟩
   have eS:{ S with ppl:=S0.ppl,out:=S0.out,cur:=S0.cur,std:=S0.std }=S0:=by
    cases S;cases S0;simp only at e3 e4 e5 e6 ⊢
    subst e3 e4 e5 e6;rfl
   rw[eS] at SA'
   exact h _ A' S0 H' (.back e1 ht' hs0) SA' (.refl A' H) f' (fun l2 z hx=>by cases z;obtain⟨xs,hx⟩:=hx;rw[ht'] at hx;cases hx)
abbrev Sx:Stmt:=top 79
theorem V6:Zl ["_law_goes","_law_steps_here","_law_out","_law_place","_law_number"] ["_law_goes","_law_steps_here"] (Zj Sx):=fnS
theorem Hw(F:Fun K "_law_stepped" "_law_stepped" Sx f fd)(T:Tx K mg a):FnOk P w K mg base (CX1 P w) 1 f fd ["_law_goes","_law_steps_here"] (S6 K):=by
 refine F.okX V6 (by walk_at "ar") fun _ _ _ _ H _ Q E hr h=>?_
 obtain⟨b,c,xs,ts,st,rfl,hb,hc,ht,hst,ho,hl,hls,h⟩:=h;refine⟨_,(Zb (pS 2 V6.nd (Ys (Yv (K:=K) rfl) (by rfl) T.zlk PyProof.Rows.boot_list (Za (pv 0) Zd)))
 (Zb (Y5 PassesOwn.leaving rfl (Ye (K:=K) rfl (pv 1)) (Wu (K:=K) (n:=2) rfl rfl (Z0 (pN 3 V6.nd) (Z0 (pN 4 V6.nd) Ws)))
  (Ze (Qg (pv 4) (Aa (pv 2) (pv 3) Jr))))
 (Ze (Zm (pv 2))))),?_⟩
 have htl:ts.length=st.length:=by have:=ht.length;rw[zst] at this;exact this
 refine⟨_,rfl,b,_,rfl,.inl (SqL.of hb),fun l hln=>?_⟩
 let jv8:Nat->L2.St->Hp->Prop:=fun i σ' H'=>(∃ u v,σ'=[some (.ref b),some (.ref c),some (.ref l),u,v])/\H' l=some (.lst (Yf (st.take i) xs))/\(∀ a o,H a=some o->H' a=some o)
 refine⟨_,rfl,c,rfl,⟨ts,SqL.of (Zf hln _ _ hc)⟩,Wa (xs:=ts) jv8 ⟨⟨none,none,rfl⟩,Zc,Zf hln⟩ (fun i σ' H' hi p=>SqL.of (p.2.2 _ _ hc)) (fun i x σ' H' hx p=>?_) (fun σ' H' p=>?_)⟩
 ·obtain⟨⟨u,v,rfl⟩,hl2,hs⟩:=p
  have hi:i<st.length:=by rw[<- htl];exact(zsv.mp hx).1
  obtain⟨t,e1,e2⟩:=zba ht (zsu hi);rw[hx] at e1
  cases e1;refine⟨t,_,rfl,SqT.of (hs _ _ e2),rfl,_,_,rfl,_,_,rfl,rfl,?_⟩;have hlen:(Yf (st.take i) xs).length=xs.length:=Xy _ _;have hp:(st[i]'hi).1<xs.length:=hst _ (ztp hi);have e3:Yf (st.take (i+1)) xs=(Yf (st.take i) xs).set (st[i]'hi).1 (oV (st[i]'hi).2):=by
   rw[ztl hi,Mv];rfl
  refine⟨_,rfl,_,rfl,_,rfl,l,_,_,(st[i]'hi).1,rfl,rfl,hl2,(show ixN _ (((st[i]'hi).1:Nat):Int)=some _ by unfold ixN;rw[if_pos (by omega),if_pos (by omega),zta]),⟨_,_,rfl⟩,?_,fun a o q=>?_⟩
  ·rw[e3];exact Zc
  ·rw[Zi (Zh q hln)];exact hs a o q
 ·obtain⟨⟨u,v,rfl⟩,hl2,hs⟩:=p
  rw[htl,zte] at hl2
  exact⟨_,rfl,h l H' hl2 hs hln⟩
abbrev Nh:Stmt:=top 80
theorem Y3:Zl ["_law_pages","_law_cell_here","_law_pool_here","_law_most","_law_mixed","_law_clubs_here","_law_numbers_here","_law_page","_law_at_here","_law_kind","_law_rest_here","_law_day","_law_here","_law_known","_law_fresh","_law_club"] ["_law_pages","_law_cell_here","_law_pool_here","_law_most","_law_mixed"] (Zj Nh):=fnS
theorem B3(F:Fun K "_law_deed" "_law_deed" Nh f fd)(T:Tx K mg a)(zny:Z1 P w K mg base "_law_matches" 2 ["_law_cell_here","_law_clubs_here","_law_most","_law_mixed"] (Kh K)):FnOk P w K mg base (CX1 P w) 3 f fd ["_law_pages","_law_cell_here","_law_pool_here","_law_most","_law_mixed"] (Bv K):=by
 refine F.okX Y3 (by walk_at "ar") fun _ _ _ _ H _ Q E hr h=>?_
 obtain⟨ok,l,t,lc,ln,ds,d,P0,cell,cs,nu,most,mixed,rfl,hl,PA,PL,hm1,hmx,hov,hpp,h⟩:=h;have hu:=Wl hr;refine⟨_,(Zb (Qg (pv 2) (Wu (K:=K) (n:=2) rfl rfl (Z0 (pN 5 Y3.nd) (Z0 (pN 6 Y3.nd) Ws))))
 (Zb (pS 7 Y3.nd (pI (iL K) (pv 0) (Qh Te Zg)))
 (Zb (pS 8 Y3.nd (Zs Yu (Zo (cL K) (by rfl) T.zku PySem.boot_len (Za (pD hu (pv 7) Zq) Zd)) Zg))
 (Zb (pS 9 Y3.nd (Zs Yq (pv 1) Zg))
 (Zb (pS 10 Y3.nd (Zs Xa (pv 1) Zg))
 (Zb (Zz (PW.pt (Sd (Zn Xt (pv 9) Zg (Zr _)) (Uq (Zn Sy (Zo (cL K) (by rfl) T.zku PySem.boot_len (Za (pv 0) Zd)) Zg (Zr _)))))
  (Ze (Zm (Ya (Za Zq Zd))))
  Zp)
 (Zb (pS 11 Y3.nd (Zo (Ff rfl) (by rfl) T.zqb PyProof.Rows.boot_min (Za (pD hu (pv 7) Zq) (Za (Zs Yu (pv 8) (pI (iL K) (Z5 (Za Zg (Za (Zs Yu Zg (Zs Yq (Zs Xa (pv 10) Zg) Zg)) Zd))) (Ys Fg (by rfl) T.zp2 PyProof.Rows.boot_int (Za (W3 Xt (pv 9) Zg (Zr _)) Zd)))) Zd))))
 (Zb (T8 (i:=12) Y3.nd rfl rfl rfl (cT ["_law_day","_law_page"] [11,7]) (Ye (K:=K) rfl (pD hu (pv 7) Zq)) (fun _ _ _ _ _=>Np (Zn (Kr (K:=K) rfl hr.units) (Ya (Za (pv 1) (Za (pI (iU K) (pv 0) Zg) Zd))) (pD hu (pv 2) Zq) (by with_unfolding_all rfl))) (fun _ _ _ _ _=>(pI (iU K) (pv 0) Zg)))
 (Zb (Zz (PW.pt (Sd (Zn (Jd (K:=K) rfl hr.units) (pv 12) (Z5 Zd) (Zr _)) (Uq (PW.pt (W4 (Zn Sy (pv 9) Zg (Zr _)) (X9 (PW.pt (Sd (Zn Sy (pv 9) Zg (Zr _)) (Uq (Zn W9 (pD hu (pv 7) Zq) Yl (Zr _)))))))))))
  (Ze (Zm (Ya (Za Zq (Za (pv 11) (Za (pI (iL K) (pv 12) (Zs Yq (pv 10) (Zo (cL K) (by rfl) T.zku PySem.boot_len (Za (pv 12) Zd)))) Zd))))))
  Zp)
 (Zb (Zz (Zn W9 (pD hu (pv 7) Zq) Yl (Zr _))
  (Ze (Zm (Ya (Za Zq Zd))))
  Zp)
 (Zb (pS 13 Y3.nd (Uv rfl (cT [] []) (Ye (K:=K) rfl (pD hu (pv 7) Zq)) (fun _ _ _ _ _=>U7) (fun _ _ _ _ _=>(pI (iU K) (pv 0) Zg))))
 (Zb (T8 (i:=14) Y3.nd rfl rfl rfl (cT ["_law_known"] [13]) (Ye (K:=K) rfl (pv 6)) (fun _ _ _ _ _=>Np (Zn (Wq (K:=K) rfl) (pv 0) (pv 1) (by with_unfolding_all rfl))) (fun _ _ _ _ _=>(pv 0)))
 (Zb (Zz (PW.pt (Sd (Zn Xt (pv 9) Zg (Zr _)) (Uq (Zn (Jd (K:=K) rfl hr.units) (pv 14) (Z5 Zd) (Zr _)))))
  (Zb (pS 15 Y3.nd (pI (iL K) (pv 5) (Zs Yq (Zs Xa (pv 10) Zg) (Zo (cL K) (by rfl) T.zku PySem.boot_len (Za (pv 5) Zd)))))
  (Ze (Zm (Ya (Za Zq (Za (pI (iL K) (pv 14) (Zs Yq (pv 10) (Zo (cL K) (by rfl) T.zku PySem.boot_len (Za (pv 14) Zd)))) (Za (Zs Yu Zg (Zs Yq (Zs Xa (pv 10) Zg) Zg)) (Za (pv 15) Zd))))))))
  Zp)
 (Ze (Zm (Ya (Za Zq (Za (pF zny hr (Za (pv 10) (Za (pv 5) (Za (pv 3) (Za (pv 4) Zd))))) Zd)))))))))))))))))),?_⟩
 show let y1:TS:=_;let y2:TS:=Zx _ y1;let y3:TS:=Zx _ y2;let y4:TS:=Zx _ y3;let y5:TS:=Zx _ y4;let y6:TS:=Zx _ y5;let y7:TS:=Zx _ y6;let y8:TS:=Zx _ y7;let y9:TS:=Zx _ y8;let y10:TS:=Zx _ y9;let y11:TS:=Zx _ y10;let y12:TS:=Zx _ y11;let y13:TS:=Zx _ y12;Zx _ y13 _ _ _;intro y1 y2 y3 y4 y5 y6 y7 y8 y9 y10 y11 y12 y13;have sz0:([]:List V).length<=sizeLine:=ztm _;obtain⟨lp,lo,lv,dv,li,lg,lm,a1,PB,okd⟩:=id PA.split;have hat:atI ((ds++[d]).map V.ref) (-1)=some (V.ref d):=by rw[zs1];exact L2.atI_last _ _
 obtain⟨vts,v1,v2,v3⟩:=PB.vv;refine⟨_,rfl,t,_,rfl,SqT.of PL.tup,rfl,_,_,rfl,_,_,rfl,rfl,?_⟩;walk_at "if";refine⟨_,rfl,_,rfl,l,_,_,_,rfl,rfl,SqL.of hl,hat,?_⟩;walk_at "if";refine⟨_,rfl,d,_,rfl,DGet.k (k:=.inr "over") a1,lv,vts,rfl,.inl (SqL.of v1),_,_,rfl,rfl,?_⟩;rw[v2.length];walk_at "if";refine⟨_,rfl,_,_,rfl,rfl,(by omega),?_⟩
 walk_at "if";refine⟨_,rfl,_,_,rfl,rfl,⟨by omega,by omega⟩,?_⟩
 walk_at "if";obtain⟨kd,hkd⟩:∃ kd,kd=cell%8:=⟨_,rfl⟩
 obtain⟨R,hR⟩:∃ R,R=cell/8:=⟨_,rfl⟩
 rw[<- hkd,<- hR];show Zx _ _ _ [some (.ref l),some (.int cell),some (.ref t),some (.int most),some (.int mixed),some (.ref lc),some (.ref ln),some (.ref d),some (.int ((P0.over.length:Int)+1)),some (.int kd),some (.int R),none,none,none,none,none] H;have hdl:((((ds++[d]).map V.ref).length:Nat):Int)=(ds.length:Int)+1:=by rw[zst,zsw];rfl
 have tup1:∀ (w:Str),([V.str w]).length<=sizeLine:=fun w=>by show 1<=sizeLine;rw[sizeLine_eq];decide
 refine Y7 (Xq (b:=decide (V.int kd=V.int 7)&&decide (1<(ds.length:Int)+1)) (Mr (fun Q q=>⟨_,rfl,rfl,_,rfl,q⟩) (fun Q q=>⟨_,rfl,l,_,rfl,.inl (SqL.of hl),_,_,rfl,rfl,_,rfl,by rw[hdl];exact q⟩)) (itB (fun hb=>?_) (fun _=>Zu ?_)))
 ·refine⟨tup1 _,fun tt ft=>?_⟩
  refine h tt .back _ (show upd H tt _ tt=_ from Zc) ?_ (Zf ft) ft
  rw[zt6,decide_eq_true_eq,decide_eq_true_eq] at hb
  intro z;rw[z] at hb
  have:=hb.2;simp at this
 refine⟨_,rfl,d,_,rfl,DGet.k (k:=.inr "rounds") a1,_,rfl,_,rfl,_,_,rfl,rfl,⟨by omega,by omega⟩,_,_,rfl,rfl,(by omega),_,_,rfl,rfl,sz2,fun l2 f2=>?_⟩
 have s2:=Zf (o:=.lst [.int 0,.int (1+R/60%3)]) f2;have q2:=Zc (H:=H) (a:=l2) (o:=.lst [.int 0,.int (1+R/60%3)]);generalize upd H l2 (.lst [.int 0,.int (1+R/60%3)])=H2 at s2 q2 ⊢
 obtain⟨z,hz,hz0⟩:∃ z:Int,atI [V.int 0,V.int (1+R/60%3)] (if decide (V.int kd=V.int 6)=true then 1 else 0)=some (.int z)/\0<=z:=by
  cases decide (V.int kd=V.int 6) with
  | true=>exact⟨_,rfl,by omega⟩
  | false=>exact⟨0,rfl,by omega⟩
 refine⟨_,rfl,rfl,.inr ⟨_,rfl,l2,_,_,_,rfl,rfl,SqL.of q2,hz,_,_,rfl,rfl,_,_,rfl,?_⟩⟩;obtain⟨day,hday,hd1,hd2⟩:∃ day:Int,(if ((P0.over.length:Int)+1+z)<(P0.len:Int) then ((P0.over.length:Int)+1+z) else (P0.len:Int))=day/\(P0.over.length:Int)<day/\day<=P0.len:=⟨_,rfl,by split<;>omega,by split<;>omega⟩
 rw[hday];walk_at "if";obtain⟨pts,p1,p2,p3⟩:=PB.pp;obtain⟨ots,o1,o2,o3⟩:=PB.oo;have hpl:pts.length=P0.ppl.length:=by rw[p2.length,zst]
 have hls:=PB.li.some;refine⟨_,rfl,d,_,rfl,DGet.k (k:=.inr "people") (s2 _ _ a1),lp,rfl,⟨_,SqL.of (s2 _ _ p1)⟩,Wn (K:=K) (a:=lp) (xs:=pts) (fun i ys H'=>Same H2 H'/\ys=(((P0.ppl.take i).filter fun x=>!decide ((day,x.1)∈P0.out)).map (·.1)).map V.int) ⟨Same.refl _,rfl⟩ (fun i ys H' _ ⟨z,_⟩=>SqL.of (z _ _ (s2 _ _ p1))) (szN (by omega)) (fun i ys H' ⟨_,e⟩=>by rw[e,zst,zst];exact ztb (ztw _ _) (zt9 _ _)) ?_ ?_⟩
 ·rintro j x ys H3 hx3 ⟨s3,rfl⟩
  obtain⟨tp,pp,rfl,hpp',htp⟩:=Jx p2 hx3;have sh3:=s2.trans s3;refine⟨_,rfl,_,rfl,tp,_,_,_,rfl,rfl,SqT.of (sh3 _ _ htp),(show atI (pV pp) 0=some _ from rfl),sz2,fun t3 f3=>?_⟩
  have s4:=Zf (o:=.tup [.int day,.int pp.1]) f3;have q4:=Zc (H:=H3) (a:=t3) (o:=.tup [.int day,.int pp.1]);generalize upd H3 t3 (.tup [.int day,.int pp.1])=H4 at s4 q4 ⊢
  have sh4:=sh3.trans s4;refine⟨_,rfl,d,_,rfl,DGet.k (k:=.inr "out") (sh4 _ _ a1),t3,lo,ots,_,_,P0.out,rfl,rfl,SqT.of q4,SqL.of (sh4 _ _ o1),o2.same sh4,_,rfl,?_⟩;rw[if_pos rfl,Wr hpp',zus,zs1,zs1];refine itB (fun hb=>?_) (fun hb=>?_)
  ·refine⟨_,rfl,tp,_,_,_,rfl,rfl,SqT.of (sh4 _ _ htp),(show atI (pV pp) 0=some _ from rfl),s3.trans s4,?_⟩
   rw[zui (p:=fun x:P3=>!decide ((day,x.1)∈P0.out)) (a:=pp) hb,zuu]
   rfl
  ·refine⟨s3.trans s4,?_⟩
   rw[zuh (p:=fun x:P3=>!decide ((day,x.1)∈P0.out)) (a:=pp) (by rw[hb];decide),zuu]
   simp
 rintro ys H3 ⟨s3,rfl⟩ lh flh;rw[hpl,zte];obtain⟨he,hhe⟩:∃ he,he=(P0.ppl.filter fun x=>!decide ((day,x.1)∈P0.out)).map (·.1):=⟨_,rfl⟩
 rw[<- hhe];have hel:he.length<=100:=by rw[hhe,zst];exact ztb (ztw _ _) hpp
 have hem:∀ n∈he,n∈P0.ppl.map (·.1)/\(day,n)∉P0.out:=fun n hn=>by
  rw[hhe] at hn
  obtain⟨x,hx,rfl⟩:=zs2.mp hn;obtain⟨hx1,hx2⟩:=zt0.mp hx;exact⟨zs2.mpr ⟨x,hx1,rfl⟩,by simpa using hx2⟩
 have s4:=(s2.trans s3).trans (Zf (o:=.lst (he.map V.int)) flh);have q4:=Zc (H:=H3) (a:=lh) (o:=.lst (he.map V.int));show Vn 12 (V.ref lh) _ (upd H3 lh (.lst (he.map V.int))) _;generalize upd H3 lh (.lst (he.map V.int))=H4 at s4 q4 ⊢
 walk_at "if";refine Y7 (Cv (b:=!he.isEmpty&&(decide (3<kd)||(decide (0<kd)&&P0.lis.isSome))) (Eh (Kj rfl q4) (fun H5 s5=>Rk (W8 (fun Q q=>⟨_,rfl,_,_,rfl,rfl,_,rfl,q⟩) (Mr (fun Q q=>⟨_,rfl,_,_,rfl,rfl,_,rfl,q⟩) (fun Q q=>⟨_,rfl,d,_,rfl,DGet.k (k:=.inr "listed") (s5 _ _ (s4 _ _ a1)),rfl,_,rfl,by rw[hls];exact q⟩))))) (fun H5 s5=>itB (fun hb=>?_) (fun _=>Zu ?_)))
 ·rw[zt6] at hb
  have hne:he.length≠0:=by have:=hb.1;intro z;rw[zup.mp z] at this;exact absurd this (by decide)
  have hpos:(0:Int)<(he.length:Int):=by omega
  have y0:=ztx R (show (he.length:Int)≠0 by omega)
  have y1:=ztq R hpos;have hix:=Wm (xs:=he) y0 (by omega)
  have mix:=Tc (ns:=he) (i:=(R%(he.length:Int)).toNat) (by omega)
  generalize he.getD (R%(he.length:Int)).toNat 0=n at hix mix
  refine⟨_,rfl,_,rfl,_,rfl,_,rfl,lh,_,rfl,.inl (SqL.of (s5 _ _ q4)),?_⟩;rw[zst];refine⟨_,_,rfl,rfl,hpos,lh,_,_,_,rfl,rfl,SqL.of (s5 _ _ q4),hix,(by show 3<=sizeLine;rw[sizeLine_eq];decide),fun tt ft=>?_⟩
  exact h tt (.away day n) _ (show upd H5 tt _ tt=_ from Zc) ⟨hd1,hd2,(hem n mix).1,(hem n mix).2⟩ ((s4.trans s5).trans (Zf ft)) ((s4.trans s5).free ft)
 have s05:=s4.trans s5;dsimp only;refine Y7 (Xq (b:=P0.lis.isSome) (fun Q q=>⟨_,rfl,d,_,rfl,DGet.k (k:=.inr "listed") (s05 _ _ a1),rfl,_,rfl,by rw[hls];exact q⟩) (itB (fun hb=>?_) (fun hb=>Zu ?_)))
 ·refine⟨tup1 _,fun tt ft=>?_⟩
  exact h tt .close _ (show upd H5 tt _ tt=_ from Zc) (fun z=>by rw[z] at hb;cases hb) (s05.trans (Zf ft)) (s05.free ft)
 have hno:P0.lis=none:=by
  cases hq:P0.lis with
  | none=>rfl
  | some ms=>rw[hq] at hb;cases hb
 dsimp only;have nul:=PL.nfew;have csl:=PL.few;refine⟨_,rfl,d,_,rfl,DGet.k (k:=.inr "people") (s05 _ _ a1),lp,rfl,⟨_,SqL.of (s05 _ _ p1)⟩,Wn (K:=K) (a:=lp) (xs:=pts) (fun i ys H'=>Same H5 H'/\ys=((P0.ppl.take i).map (·.1)).map V.int) ⟨Same.refl _,rfl⟩ (fun i ys H' _ ⟨z,_⟩=>SqL.of (z _ _ (s05 _ _ p1))) (szN (by omega)) (fun i ys H' ⟨_,e⟩=>by rw[e,zst,zst];exact zt9 _ _) ?_ ?_⟩
 ·rintro j x ys H6 hx6 ⟨s6,rfl⟩
  obtain⟨tp,pp,rfl,hpp',htp⟩:=Jx p2 hx6;unfold tYes;dsimp only;rw[if_pos rfl];refine⟨_,rfl,tp,_,_,_,rfl,rfl,SqT.of (s6 _ _ (s05 _ _ htp)),(show atI (pV pp) 0=some _ from rfl),s6,?_⟩
  rw[Wr hpp',zs1,zs1];rfl
 rintro ys H6 ⟨s6,rfl⟩ lk flk;rw[hpl,zte];obtain⟨kn,hkn⟩:∃ kn,kn=P0.ppl.map (·.1):=⟨_,rfl⟩
 rw[<- hkn];have s7:=(s05.trans s6).trans (Zf (o:=.lst (kn.map V.int)) flk);have q7:=Zc (H:=H6) (a:=lk) (o:=.lst (kn.map V.int));show Vn 13 (V.ref lk) _ (upd H6 lk (.lst (kn.map V.int))) _;generalize upd H6 lk (.lst (kn.map V.int))=H7 at s7 q7 ⊢
 walk_at "if";refine⟨_,rfl,ln,rfl,⟨_,SqL.of (s7 _ _ PL.nums)⟩,Wn (K:=K) (a:=ln) (xs:=nu.map V.int) (fun i ys H'=>H'=H7/\ys=((nu.take i).filter fun n=>!decide (n∈kn)).map V.int) ⟨rfl,rfl⟩ (fun i ys H' _ ⟨z,_⟩=>by rw[z];exact SqL.of (s7 _ _ PL.nums)) (szN (by rw[zst];omega)) (fun i ys H' ⟨_,e⟩=>by rw[e,zst];exact ztb (ztw _ _) (zt9 _ _)) ?_ ?_⟩
 ·rintro j x ys H8 hx8 ⟨rfl,rfl⟩
  rw[zs0] at hx8
  obtain⟨n,hn,rfl⟩:=zur.mp hx8;refine⟨_,rfl,_,rfl,lk,_,rfl,.inl (SqL.of q7),rfl,(zuf.mpr fun y hy=>by obtain⟨i,_,rfl⟩:=zs2.mp hy;rfl),_,rfl,?_⟩
  rw[if_pos rfl,Ph,Wr hn,zus,zs1];refine itB (fun hb=>?_) (fun hb=>?_)
  ·refine⟨_,rfl,rfl,?_⟩
   rw[zui (p:=fun n:Int=>!decide (n∈kn)) (a:=n) hb,zuu]
   rfl
  ·refine⟨rfl,?_⟩
   rw[zuh (p:=fun n:Int=>!decide (n∈kn)) (a:=n) (by rw[hb];decide),zuu]
   simp
 rintro ys H8 ⟨rfl,rfl⟩ lf flf;rw[zst,zte];obtain⟨fs,hfs⟩:∃ fs,fs=nu.filter fun n=>!decide (n∈kn):=⟨_,rfl⟩
 rw[<- hfs];have hfm:∀ n∈fs,n∈nu/\n∉P0.ppl.map (·.1):=fun n hn=>by
  rw[hfs] at hn
  obtain⟨hx1,hx2⟩:=zt0.mp hn;exact⟨hx1,by rw[<- hkn];simpa using hx2⟩
 have hfl:fs.length<=100:=by rw[hfs];exact ztb (ztw _ _) (by omega)
 have s9:=s7.trans (Zf (o:=.lst (fs.map V.int)) flf);have q9:=Zc (H:=H8) (a:=lf) (o:=.lst (fs.map V.int));show Vn 14 (V.ref lf) _ (upd H8 lf (.lst (fs.map V.int))) _;generalize upd H8 lf (.lst (fs.map V.int))=H9 at s9 q9 ⊢
 walk_at "if";refine Y7 (Cv (b:=decide (V.int kd=V.int 3) && !fs.isEmpty) (Eh (Rk (fun Q q=>⟨_,rfl,rfl,_,rfl,q⟩)) (fun H10 s10=>Kj rfl (s10 _ _ q9))) (fun H10 s10=>itB (fun hb=>?_) (fun _=>Zu ?_)))
 ·rw[zt6] at hb
  have hne:fs.length≠0:=by have:=hb.2;intro z;rw[zup.mp z] at this;exact absurd this (by decide)
  have hpos:(0:Int)<(fs.length:Int):=by omega
  have y0:=ztx R (show (fs.length:Int)≠0 by omega)
  have y1:=ztq R hpos;have hix:=Wm (xs:=fs) y0 (by omega)
  have mix:=Tc (ns:=fs) (i:=(R%(fs.length:Int)).toNat) (by omega)
  generalize fs.getD (R%(fs.length:Int)).toNat 0=n at hix mix
  have hcl:(0:Int)<(cs.length:Int):=by omega
  have w0:=ztx (R/360) (show (cs.length:Int)≠0 by omega)
  have w1:=ztq (R/360) hcl;have hcs:=Wm (xs:=cs) w0 (by omega)
  have mcs:=Tc (ns:=cs) (i:=(R/360%(cs.length:Int)).toNat) (by omega)
  generalize cs.getD (R/360%(cs.length:Int)).toNat 0=c at hcs mcs
  have s010:=s9.trans s10;refine⟨_,rfl,_,rfl,_,_,rfl,rfl,⟨by omega,by omega⟩,_,rfl,lc,_,rfl,.inl (SqL.of (s010 _ _ PL.clubs)),?_⟩
  rw[zst];refine⟨_,_,rfl,rfl,hcl,lc,_,_,_,rfl,rfl,SqL.of (s010 _ _ PL.clubs),hcs,?_⟩;walk_at "if";refine⟨_,rfl,_,rfl,_,rfl,lf,_,rfl,.inl (SqL.of (s10 _ _ q9)),?_⟩;rw[zst];refine⟨_,_,rfl,rfl,hpos,lf,_,_,_,rfl,rfl,SqL.of (s10 _ _ q9),hix,_,rfl,_,_,rfl,rfl,⟨by omega,by omega⟩,_,_,rfl,rfl,(by omega),_,_,rfl,rfl,_,rfl,(by show 4<=sizeLine;rw[sizeLine_eq];decide),fun tt ft=>?_⟩
  exact h tt (.enrol n (1+R/40%9) c) _ (show upd H10 tt _ tt=_ from Zc) ⟨hno,(hfm n mix).1,(hfm n mix).2,by omega,by omega,mcs⟩ (s010.trans (Zf ft)) (s010.free ft)
 have s010:=s9.trans s10;dsimp only;refine⟨_,rfl,_,rfl,_,rfl,_,rfl,lc,cs,R,most,mixed,rfl,s010 _ _ PL.clubs,by omega,by omega,PL.cnd,PL.crng,hm1,hmx,fun lm' ts ms H11 hlm tl hml gm s11 flm=>⟨sz2,fun tt ft=>?_⟩⟩
 have s12:=Zf (o:=.tup [.str "draw up",.ref lm']) ft;exact h tt (.draw ms) _ ⟨lm',ts,Zc,s12 _ _ hlm,tl.same s12,s010.free flm⟩ ⟨hno,hml,gm⟩ ((s010.trans s11).trans s12) ((s010.trans s11).free ft)
abbrev Xp:Stmt:=top 81
theorem Km:Zl ["_law_script","_law_crowd","_law_many"] ["_law_script","_law_crowd"] (Zj Xp):=fnS
@[irreducible] def Sa:List Expr:=zcv (Bo (Pt (Xr (Zv Xp) 0)))
@[irreducible] def Kn:Pos:=zcw (Bo (Pt (Xr (Zv Xp) 0)))
theorem G4:Zv Xp=[.Assign (zez (Xr (Zv Xp) 0)) (.Subscript (.List Sa Kn) (zgh (Pt (Xr (Zv Xp) 0))) (zgi (Pt (Xr (Zv Xp) 0)))) (stP (Xr (Zv Xp) 0)),Xr (Zv Xp) 1]:=by unfold Sa Kn;kernel_rfl
theorem G5:J8 Sa [4,3,5,4,6,10,4,8]:=by unfold Sa;exact⟨by kernel_rfl,by kernel_rfl⟩
theorem B4(F:Fun K "_law_pool" "_law_pool" Xp f fd)(T:Tx K mg a)(zkx:Z1 P w K mg base "_law_at" 1 ["_law_script","_law_k"] (Aw K))(zoo:Z1 P w K mg base "_law_clubs" 1 ["_law_cell_here","_law_many"] za7)(zn4:Z1 P w K mg base "_law_numbers" 1 ["_law_cell_here","_law_many"] Ju):FnOk P w K mg base (CX1 P w) 2 f fd ["_law_script","_law_crowd"] (Bj K):=by
 refine F.okX Km (by walk_at "ar") fun _ _ _ _ H _ Q E hr h=>?_
 obtain⟨b,ns,cr,rfl,hS,hc1,hc2,h⟩:=h;rw[G4];refine⟨_,(Zb (pS 2 Km.nd (pI (iL K) (Z5 (Pm [4,3,5,4,6,10,4,8] G5)) (Zs Yq (Zs Xa (pF zkx hr (Za (pv 0) (Za Zg Zd))) Zg) Zg)))
 (Ze (Zm (Ya (Za (pF zoo hr (Za (pF zkx hr (Za (pv 0) (Za Zg Zd))) (Za (pv 2) Zd))) (Za (pF zn4 hr (Za (pF zkx hr (Za (pv 0) (Za Zg Zd))) (Za (pv 1) Zd))) Zd)))))),?_⟩
 refine zij [4,3,5,4,6,10,4,8] (by decide) fun l H1 q1 s1 fl=>?_
 have h0:=ztx (Y4 ns 0/4) (show (8:Int)≠0 by decide)
 have h1:=ztq (Y4 ns 0/4) (show (0:Int)<8 by decide)
 refine⟨_,rfl,b,ns,0,rfl,s1.seq hS,_,_,rfl,rfl,⟨by decide,by decide⟩,_,_,rfl,rfl,(show (0:Int)<8 by decide),l,_,_,_,rfl,rfl,SqL.of q1,Wm (xs:=[4,3,5,4,6,10,4,8]) h0 (by show _<((8:Nat):Int);omega),?_⟩
 obtain⟨m,hm,hm1,hm2⟩:∃ m:Nat,([4,3,5,4,6,10,4,8]:List Int).getD (Y4 ns 0/4%8).toNat 0=m/\3<=m/\m<=10:=by
  have hk:(Y4 ns 0/4%8).toNat<8:=by omega
  generalize (Y4 ns 0/4%8).toNat=k at hk
  match k,hk with
  | 0,_=>exact⟨4,rfl,by decide,by decide⟩
  | 1,_=>exact⟨3,rfl,by decide,by decide⟩
  | 2,_=>exact⟨5,rfl,by decide,by decide⟩
  | 3,_=>exact⟨4,rfl,by decide,by decide⟩
  | 4,_=>exact⟨6,rfl,by decide,by decide⟩
  | 5,_=>exact⟨10,rfl,by decide,by decide⟩
  | 6,_=>exact⟨4,rfl,by decide,by decide⟩
  | 7,_=>exact⟨8,rfl,by decide,by decide⟩
 rw[hm];refine⟨_,rfl,b,ns,3,rfl,s1.seq hS,_,rfl,_,m,rfl,by omega,fun lc H2 hlc s2 f2=>?_⟩
 refine⟨_,rfl,b,ns,2,rfl,(s1.trans s2).seq hS,_,rfl,_,cr,rfl,by omega,fun ln H3 hln s3 f3=>?_⟩
 refine⟨sz2,fun t ht=>?_⟩
 have s4:=Zf (o:=.tup [.ref lc,.ref ln]) ht;have s13:=s1.trans (s2.trans s3);refine h t lc ln _ _ _ ⟨Zc,s4 _ _ (s3 _ _ hlc),s4 _ _ hln,by rw[Gi];exact⟨hm1,hm2⟩,Bm _ hm2,zct _ _,by rw[Nw];exact⟨hc1,hc2⟩,Bn _ (by omega),zcu _ _⟩ (Nw _ _) (s13.trans s4) (s13.free ht) (s1.free f2) ((s1.trans s2).free f3)
abbrev Yc:Stmt:=top 82
theorem Yw:Zl ["_law_script","_law_pool_here","_law_clubs_here","_law_numbers_here","_law_many","_law_grades","_law_rest_here","_law_deeds","_law_k"] ["_law_script","_law_pool_here"] (Zj Yc):=fnS
@[irreducible] def Ur:List Expr:=zcv (Pt (Xr (Zv Yc) 3))
@[irreducible] def Od:Pos:=zcw (Pt (Xr (Zv Yc) 3))
theorem K8:Zv Yc=[Xr (Zv Yc) 0,Xr (Zv Yc) 1,Xr (Zv Yc) 2,.Assign (zez (Xr (Zv Yc) 3)) (.List Ur Od) (stP (Xr (Zv Yc) 3)),Xr (Zv Yc) 4,Xr (Zv Yc) 5,Xr (Zv Yc) 6,Xr (Zv Yc) 7]:=by unfold Ur Od;kernel_rfl
theorem K9:J8 Ur [1,2,3,4,5,6,7,8,9,9,9,9,9,8,8,7,6,5]:=by unfold Ur;exact⟨by kernel_rfl,by kernel_rfl⟩
theorem G6(F:Fun K "_law_people" "_law_people" Yc f fd)(T:Tx K mg a)(zkx:Z1 P w K mg base "_law_at" 1 ["_law_script","_law_k"] (Aw K))(zl9:Z1 P w K mg base "_law_mix" 1 ["_law_cell_here","_law_k"] za6):FnOk P w K mg base (CX1 P w) 2 f fd ["_law_script","_law_pool_here"] (Ih K):=by
 refine F.okX Yw (by walk_at "ar") fun _ _ _ _ H _ Q E hr h=>?_
 obtain⟨b,t,lc,ln,ns,cs,nu,rfl,hS,PA,h⟩:=h;rw[K8];refine⟨_,(Zb (Qg (pv 1) (Wu (K:=K) (n:=2) rfl rfl (Z0 (pN 2 Yw.nd) (Z0 (pN 3 Yw.nd) Ws))))
 (Zb (pS 4 Yw.nd (Zs Yq (pF zkx hr (Za (pv 0) (Za Zg Zd))) (Zs Yu (Zo (cL K) (by rfl) T.zku PySem.boot_len (Za (pv 3) Zd)) Zg)))
 (Zb (Zz (Zn Xt (Zs Yq (Zs Xa (pF zkx hr (Za (pv 0) (Za Zg Zd))) (Zs Yu (Zo (cL K) (by rfl) T.zku PySem.boot_len (Za (pv 3) Zd)) Zg)) Zg) Zg (Zr _))
  (Ze (pS 4 Yw.nd (Zs Oe (Zo (cL K) (by rfl) T.zku PySem.boot_len (Za (pv 3) Zd)) (Zs Yq (pv 4) Zg))))
  Zp)
 (Zb (pS 5 Yw.nd (Z5 (Pm [1,2,3,4,5,6,7,8,9,9,9,9,9,8,8,7,6,5] K9)))
 (Zb (pS 6 Yw.nd (pF zkx hr (Za (pv 0) (Za Zg Zd))))
 (Zb (pS 7 Yw.nd (Z5 Zd))
 (Zb (Y5 PassesOwn.leaving rfl (Xk rfl T.zlj (Za (pv 4) Zd)) (pN 8 Yw.nd)
  (Zb (Yk (pv 7) (Ya (Za Zq (Za (pI (iL K) (pv 3) (pv 8)) (Za (pI (iL K) (pv 5) (Zs Yq (pv 6) Zg)) (Za (pI (iL K) (pv 2) (Zs Yq (Zs Xa (pv 6) Zg) (Zo (cL K) (by rfl) T.zku PySem.boot_len (Za (pv 2) Zd)))) Zd))))))
  (Ze (pS 6 Yw.nd (pI (iL K) (Z5 (Za (Zs Xa (Zs Xa (pv 6) Zg) (Zo (cL K) (by rfl) T.zku PySem.boot_len (Za (pv 2) Zd))) (Za (pF zl9 hr (Za (pv 6) (Za (pv 8) Zd))) Zd))) (Zs Yq (pF zkx hr (Za (pv 0) (Za Zg Zd))) Zg))))))
 (Ze (Zm (pv 7)))))))))),?_⟩
 show let y1:TS:=_;let y2:TS:=Zx _ y1;let y3:TS:=Zx _ y2;let y4:TS:=Zx _ y3;let y5:TS:=Zx _ y4;let y6:TS:=Zx _ y5;let y7:TS:=Zx _ y6;Zx _ y7 _ _ _;intro y1 y2 y3 y4 y5 y6 y7;have sz0:([]:List V).length<=sizeLine:=ztm _;have hw:(0:Int)<(nu.length:Int)+1:=by omega
 obtain⟨c1,c2⟩:=PA.few;obtain⟨n1,n2⟩:=PA.nfew;refine⟨_,rfl,t,_,rfl,SqT.of PA.tup,rfl,_,_,rfl,_,_,rfl,rfl,?_⟩;walk_at "if";refine⟨_,rfl,b,ns,4,rfl,hS,_,rfl,ln,_,rfl,.inl (SqL.of PA.nums),_,_,rfl,rfl,?_⟩;rw[zst];refine⟨_,_,rfl,rfl,hw,?_⟩;walk_at "if";have u0:=ztx (Y4 ns 4) (show (nu.length:Int)+1≠0 by omega)
 have u1:=ztq (Y4 ns 4) hw
 let jv9:L2.St->Hp->Prop:=fun σ' H'=>H'=H/\∃ m:Nat,σ'=[some (.ref b),some (.ref t),some (.ref lc),some (.ref ln),some (.int m),none,none,none,none]/\m<=nu.length
 refine Cq (b:=decide (V.int (Y4 ns 4/((nu.length:Int)+1)%2)=V.int 1)) jv9 (fun Q q=>?_) (fun _ N hN=>?_) (fun _ N hN=>?_) ?_
 ·refine⟨_,rfl,b,ns,4,rfl,hS,_,rfl,ln,_,rfl,.inl (SqL.of PA.nums),_,_,rfl,rfl,?_⟩
  rw[zst];exact⟨_,_,rfl,rfl,⟨hw,by omega⟩,_,_,rfl,rfl,by omega,rfl,_,rfl,q⟩
 ·refine⟨_,rfl,ln,_,rfl,.inl (SqL.of PA.nums),?_⟩
  rw[zst];refine⟨_,rfl,_,_,rfl,rfl,by omega,_,_,rfl,rfl,hN _ _ ⟨rfl,((nu.length:Int)-Y4 ns 4%((nu.length:Int)+1)%2).toNat,?_,by omega⟩⟩
  rw[zu0 (by omega)];rfl
 ·refine Zu (hN _ _ ⟨rfl,(Y4 ns 4%((nu.length:Int)+1)).toNat,?_,by omega⟩)
  rw[zu0 (by omega)];rfl
 rintro σ H' ⟨rfl,m,rfl,hm⟩;refine Bq [1,2,3,4,5,6,7,8,9,9,9,9,9,8,8,7,6,5] (by decide) fun lg H2 hg s2 fg=>?_
 refine⟨_,rfl,b,ns,5,rfl,s2.seq hS,sz0,fun r fr=>?_⟩
 have s1:=s2.trans (Zf (o:=.lst []) fr);have q1:=Zc (H:=H2) (a:=r) (o:=.lst []);have hg1:=Zf (o:=.lst []) fr _ _ hg;walk_at "if";generalize upd H2 r (.lst [])=H1 at s1 q1 hg1 ⊢
 have fr0:=s2.free fr;have frg:lg≠r:=Zh hg fr
 let jv10:Nat->L2.St->Hp->Prop:=fun i σ H3=>(∃ v8 R,σ=[some (.ref b),some (.ref t),some (.ref lc),some (.ref ln),some (.int m),some (.ref lg),some (.int R),some (.ref r),v8])/\(∀ x o,H1 x=some o->x≠r->H3 x=some o)/\∃ ts es,H3 r=some (.lst ts)/\Z9 H3 ts ((es:List P3).map enV)/\es.length=i/\es.map (·.1)=nu.take i/\(∀ x∈es,1<=x.2.1/\x.2.1<=9/\x.2.2∈cs)
 refine⟨_,rfl,_,rfl,by omega,by omega,Xu jv10
  ⟨⟨_,_,rfl⟩,fun _ _ e _=>e,[],[],q1,.nil,rfl,rfl,(fun m z=>nomatch z)⟩ ?_ ?_⟩
 ·rintro i σ H3 hi ⟨⟨v8,R,rfl⟩,k,ts,es,hr',tl,hml,enu,eok⟩
  rw[zta] at hi
  rw[zub];have s3:Same H' H3:=fun x o e=>k _ _ (s1 _ _ e) (Zh e fr0)
  have hg3:=k _ _ hg1 frg;have PA3:=PA.same s3;have hcl:(0:Int)<(cs.length:Int):=by omega
  have w0:=ztx R (show (18:Int)≠0 by omega)
  have w1:=ztq R (show (0:Int)<18 by omega)
  have y0:=ztx (R/18) (show (cs.length:Int)≠0 by omega)
  have y1:=ztq (R/18) hcl;have hgr:=Wm (xs:=Dj) w0 (by show _<((18:Nat):Int);omega)
  have rgr:=zah (R%18).toNat (by omega)
  generalize hgv:Dj.getD (R%18).toNat 0=gv at hgr rgr
  have hcs:=Wm (xs:=cs) y0 (by omega)
  have mcs:=Tc (ns:=cs) (i:=(R/18%(cs.length:Int)).toNat) (by omega)
  generalize cs.getD (R/18%(cs.length:Int)).toNat 0=c at hcs mcs
  have hni:i<nu.length:=by omega
  have hnu:nu[i]?=some (nu[i]'hni):=zsu hni;have etk:nu.take (i+1)=nu.take i++[nu[i]'hni]:=ztl hni;generalize nu[i]'hni=n at hnu etk
  walk_at "if";refine⟨_,rfl,r,_,rfl,hr',?_⟩;refine⟨_,rfl,_,rfl,ln,_,_,_,rfl,rfl,SqL.of PA3.nums,Z4 (by rw[zs0,hnu];rfl),_,rfl,_,rfl,_,_,rfl,rfl,(by omega),lg,_,_,_,rfl,rfl,SqL.of hg3,hgr,?_⟩
  refine⟨_,rfl,_,rfl,_,_,rfl,rfl,⟨by omega,by omega⟩,_,rfl,lc,_,rfl,.inl (SqL.of PA3.clubs),?_⟩
  rw[zst];refine⟨_,_,rfl,rfl,hcl,lc,_,_,_,rfl,rfl,SqL.of PA3.clubs,hcs,(by show 4<=sizeLine;rw[sizeLine_eq];decide),fun tt ft=>?_⟩
  have s4:=Zf (o:=.tup [.str "enrol",.int n,.int gv,.int c]) ft;have q4:=Zc (H:=H3) (a:=tt) (o:=.tup [.str "enrol",.int n,.int gv,.int c]);generalize upd H3 tt (.tup [.str "enrol",.int n,.int gv,.int c])=H4 at s4 q4 ⊢
  have tln:=tl.length;rw[zst] at tln
  refine⟨ts,s4 _ _ hr',szN (by omega),?_⟩
  have k5:∀ x o,H4 x=some o->x≠r->upd H4 r (.lst (ts++[.ref tt])) x=some o:=fun x o e n=>by rw[Zi n];exact e
  have q5:=Zc (H:=H4) (a:=r) (o:=.lst (ts++[.ref tt]));have kt5:∀ x ys,H4 x=some (.tup ys)->upd H4 r (.lst (ts++[.ref tt])) x=some (.tup ys):=fun x ys e=>k5 _ _ e (Yx e (s4 _ _ hr') (by intro z;cases z))
  dsimp only;generalize upd H4 r (.lst (ts++[.ref tt]))=H5 at k5 q5 kt5 ⊢
  have s05:Same H' H5:=fun x o e=>k5 _ _ (s4 _ _ (s3 _ _ e)) (Zh e fr0)
  have PA5:=PA.same s05;obtain⟨mx,hmx,hmx1⟩:∃ mx:Nat,Y4 ns 0%2=mx/\mx<=1:=⟨(Y4 ns 0%2).toNat,by omega,by omega⟩
  obtain⟨z,hz⟩:=at2 (R/18/(cs.length:Int)) (Ax R (i:Int)) hmx1;refine⟨_,rfl,_,_,rfl,rfl,⟨by omega,by omega⟩,_,rfl,lc,_,rfl,.inl (SqL.of PA5.clubs),?_⟩
  rw[zst];refine⟨_,_,rfl,rfl,⟨hcl,by omega⟩,_,rfl,_,rfl,_,_,rfl,sz2,fun l2 f2=>?_⟩
  have s6:=Zf (o:=.lst [.int (R/18/(cs.length:Int)),.int (Ax R (i:Int))]) f2;have q6:=Zc (H:=H5) (a:=l2) (o:=.lst [.int (R/18/(cs.length:Int)),.int (Ax R (i:Int))]);generalize upd H5 l2 (.lst [.int (R/18/(cs.length:Int)),.int (Ax R (i:Int))])=H6 at s6 q6 ⊢
  refine⟨_,rfl,b,ns,0,rfl,(s05.trans s6).seq hS,_,_,rfl,rfl,(by omega),l2,_,_,_,rfl,rfl,SqL.of q6,(by rw[hmx];exact hz),?_⟩
  refine⟨⟨_,_,rfl⟩,fun x o e n=>s6 _ _ (k5 _ _ (s4 _ _ (k _ _ e n)) n),ts++[.ref tt],es++[(n,gv,c)],s6 _ _ q5,?_,by rw[zsw,hml];rfl,?_,?_⟩
  ·rw[zs1]
   exact(tl.mono fun x ys e=>s6 _ _ (kt5 _ _ (s4 _ _ e))).snoc (s6 _ _ (kt5 _ _ q4))
  ·rw[zs1,enu,etk];rfl
  ·intro m hm
   rcases zs6.mp hm with hm|hm
   ·exact eok m hm
   ·rw[zsx.mp hm];exact⟨rgr.1,rgr.2,mcs⟩
 ·rintro σ H3 ⟨⟨v8,R,rfl⟩,k,ts,es,hr',tl,hml,enu,eok⟩
  rw[zta] at hml enu
  refine⟨_,rfl,h r ts es H3 hr' tl (by rw[hml];exact enu) (by omega) eok (fun x o e=>k _ _ (s1 _ _ e) (Zh e fr0)) fr0⟩
abbrev Tz:Stmt:=top 83
theorem U5:Zl ["_law_season","_law_pages","_law_deeds","_law_deed_here"] ["_law_season","_law_pages","_law_deeds"] (Zj Tz):=fnS
theorem Ja(F:Fun K "_law_enrolled" "_law_enrolled" Tz f fd)(T:Tx K mg a)(zn9:Z1 P w K mg base "_law_do" 8 ["_law_season","_law_deed_here"] (zih K (ca a)))(zmh:Z1 P w K mg base "_law_paged" 3 ["_law_pages","_law_deed_here"] (Dg K)):FnOk P w K mg base (CX1 P w) 9 f fd ["_law_season","_law_pages","_law_deeds"] (Ii K (ca a)):=by
 refine F.okX U5 (by walk_at "ar") fun _ _ _ _ H _ Q E hr h=>?_
 obtain⟨mb,A',l,le,ts,es,ds,d,P0,S,nu,n,rfl,SA,hl,hlo,F,hle,hlf,tl,nd,eok,hp30,hn90,hcur,hlen,h⟩:=h;refine⟨_,(Zb (Y5 PassesOwn.leaving rfl (Ye (K:=K) rfl (pv 2)) (pN 3 U5.nd)
  (Zb (Z8 (pF zn9 hr (Za (pv 0) (Za (pv 3) Zd))))
  (Ze (pS 1 U5.nd (pF zmh hr (Za (pv 1) (Za (pv 3) Zd)))))))
 (Ze (Zm (pv 1)))),?_⟩
 have tln:=tl.length;rw[zst] at tln
 let jv11:Nat->L2.St->Hp->Prop:=fun i σ H1=>∃ A1 l1 ds1 d1 P1 S1 v,σ=[some (.ref A'.p),some (.ref l1),some (.ref le),v]/\Zy (ca a) H1 A1 S1/\H1 l1=some (.lst ((ds1++[d1]).map V.ref))/\l1∉A1.fp/\Ug mb (·∉A1.fp) H1 nu (n+i) ds1 d1 P1 S1/\FrN A' A1 H H1/\S1.cur=none/\S1.led=S.led/\S1.len=S.len/\S1.ppl=S.ppl++es.take i
 refine⟨_,rfl,le,rfl,⟨_,SqL.of hle⟩,Wa (K:=K) (a:=le) (xs:=ts) jv11
  ⟨A',l,ds,d,P0,S,_,rfl,SA,hl,hlo,F,.refl _ _,hcur,rfl,rfl,by simp⟩ (fun i σ H1 _ ⟨A1,_,_,_,_,_,_,_,_,_,_,_,f,_⟩=>SqL.of (f.k _ _ hle hlf).1) ?_ ?_⟩
 ·rintro i x σ H1 hx ⟨A1,l1,ds1,d1,P1,S1,v,rfl,SA1,hl1,ho1,F1,f1,e1,e2,e3,e4⟩
  have hi:i<ts.length:=(zsv.mp hx).1;have hie:i<es.length:=by omega
  have hex:es[i]?=some (es[i]'hie):=zsu hie;have etk:=Wr hex;have hmem:es[i]'hie∈es:=ztp hie;obtain⟨t,ht1,ht2⟩:∃ t,x=.ref t/\H t=some (.tup (enV (es[i]'hie))):=by
   obtain⟨t,r,z1,z2,z3⟩:=tl.get hx;rw[zs0,hex] at z2
   cases z2;exact⟨t,z1,z3⟩
  have hfr:(es[i]'hie).1∉(es.take i).map (·.1):=fun z=>by
   obtain⟨y,hy,ey⟩:=zs2.mp z;obtain⟨j,hj,rfl⟩:=ztr hy;rw[zuy] at hj
   rw[List.getElem_take] at ey
   have h1:(es.map (·.1))[j]'(by rw[zst];omega)=(es.map (·.1))[i]'(by rw[zst];omega):=by rw[List.getElem_map,List.getElem_map];exact ey
   have:=(List.getElem_inj nd).mp h1;omega
  have hok:=eok _ hmem;generalize es[i]'hie=x0 at hex etk hmem ht2 hfr hok
  obtain⟨k,gr,c⟩:=x0;subst ht1;have hD:Wy (·∉A1.fp) H1 t (.enrol k gr c):=f1.kt _ _ ht2
  have g:Kf S1 (.enrol k gr c):=by
   refine⟨by rw[e2,e3];exact hlen,e1,hok.2.1,?_,?_⟩
   ·rw[e4,zs1]
    intro z;rcases zs6.mp z with z|z
    ·exact hok.2.2 z
    ·exact hfr z
   ·rw[e4,zsw,zuy];omega
  obtain⟨b1,b2,b3,b4,b5,b6,b7,b8,b9,b10⟩:=F1.pre g (by omega)
  refine⟨_,rfl,_,rfl,A1,S1,t,_,(by rw[f1.p];rfl),SA1,hD,g,b1,b2,b3,b4,b5,b6,b7,b8,b9,b10,fun v' A2 S2 H2 af SA2 nx fr _=>?_⟩
  have f12:=FrN.next SA1 nx fr;obtain⟨c1,c2,c3,c4,c5⟩:=F1.pre2 g (by omega)
  refine⟨_,rfl,_,rfl,(·∉A2.fp),l1,t,ds1,d1,P1,.enrol k gr c,rfl,(f12.k _ _ hl1 ho1).1,F1.pg.fr f12,hD.fr f12,c1,c2,c3,c4,c5,fun l3 d3 H3 hl3 pg s3 fl3 fd3=>?_⟩
  obtain⟨ds2,d2,P2,ek,Pe,eP,_⟩:=turn F1 SA1 af SA2 nx fr g (fun k' gr' c' z=>by cases z;exact hok.1) pg s3 fd3
  cases af with
  | enrol k gr c =>
    rw[ek] at hl3
    refine⟨A2,l3,ds2,d2,P2,_,_,rfl,SA2.same s3,hl3,SA2.newOk _ fl3,Pe.full (fun s hs=>?_) (fun z=>?_),f1.trans (f12.trans (.of s3)),e1,e2,e3,?_⟩
    ·have hs:S1.cur=some s:=hs
     rw[e1] at hs;cases hs
    ·rw[eP nofun]
     show P1.mv=_;rw[F1.re.mv z,Ue e1];exact(Ue e1).symm
    ·show S1.ppl++[(k,gr,c)]=_
     rw[e4,etk,ztv]
 ·rintro σ H1 ⟨A1,l1,ds1,d1,P1,S1,v,rfl,SA1,hl1,ho1,F1,f1,e1,e2,e3,e4⟩
  rw[tln] at F1
  exact⟨_,rfl,h A1 l1 ds1 d1 P1 S1 H1 SA1 hl1 ho1 F1 f1 e1 e2 e3⟩
abbrev Wk:Stmt:=top 84
theorem B5:Zl ["_law_script"] ["_law_script"] (Zj Wk):=fnS
@[irreducible] def Sb:List Expr:=zcv (Bo (zgg (Xr (Zv Wk) 0)))
@[irreducible] def Ko:Pos:=zcw (Bo (zgg (Xr (Zv Wk) 0)))
theorem G7:Zv Wk=[.Return (some (.Subscript (.List Sb Ko) (zgh (zgg (Xr (Zv Wk) 0))) (zgi (zgg (Xr (Zv Wk) 0))))) (stP (Xr (Zv Wk) 0))]:=by unfold Sb Ko;kernel_rfl
theorem G8:J8 Sb [0,1,2,3,4,5,6,7,8,9,10,0,0,0,1,1,1,2,2,0,1,3]:=by unfold Sb;exact⟨by kernel_rfl,by kernel_rfl⟩
theorem B6(F:Fun K "_law_rest" "_law_rest" Wk f fd)(T:Tx K mg a)(zkx:Z1 P w K mg base "_law_at" 1 ["_law_script","_law_k"] (Aw K)):FnOk P w K mg base (CX1 P w) 2 f fd ["_law_script"] (Bh K):=by
 refine F.okX B5 (by walk_at "ar") fun _ _ _ _ H _ Q E hr h=>?_
 obtain⟨b,ns,rfl,hS,h⟩:=h;rw[G7];refine⟨_,(Ze (Zm (pI (iL K) (Z5 (Pm [0,1,2,3,4,5,6,7,8,9,10,0,0,0,1,1,1,2,2,0,1,3] G8)) (Zs Yq (pF zkx hr (Za (pv 0) (Za Zg Zd))) Zg)))),?_⟩;refine zii Kd (by decide) fun l H1 q1 s1 fl=>?_
 have h0:=ztx (Y4 ns 1) (show (22:Int)≠0 by decide)
 have h1:=ztq (Y4 ns 1) (show (0:Int)<22 by decide)
 have hat:=Wm (xs:=Kd) h0 (show _<((22:Nat):Int) by omega)
 have hb:0<=Kd.getD (Y4 ns 1%22).toNat 0/\Kd.getD (Y4 ns 1%22).toNat 0<=10:=by
  generalize (Y4 ns 1%22).toNat=k;rw[ztj];cases e:Kd[k]? with
  | none=>exact⟨by decide,by decide⟩
  | some x =>
    have hm:=zs5 e;have:∀ x∈Kd,0<=x/\x<=10:=by decide
    exact this x hm
 have hfin:=h (Kd.getD (Y4 ns 1%22).toNat 0).toNat H1 rfl (by omega) s1
 rw[zu0 hb.1] at hfin
 exact⟨_,rfl,b,ns,1,rfl,s1.seq hS,_,_,rfl,rfl,(show (0:Int)<22 by decide),l,_,_,_,rfl,rfl,SqL.of q1,hat,hfin⟩
abbrev R0:Stmt:=top 85
theorem G9:Zl ["_law_script"] ["_law_script"] (Zj R0):=fnS
theorem Fb(F:Fun K "_law_rounds" "_law_rounds" R0 f fd)(T:Tx K mg a)(zkx:Z1 P w K mg base "_law_at" 1 ["_law_script","_law_k"] (Aw K)):FnOk P w K mg base (CX1 P w) 2 f fd ["_law_script"] (J6 K):=by
 refine F.okX G9 (by walk_at "ar") fun _ _ _ _ H _ Q E hr h=>?_
 obtain⟨b,ns,rfl,hS,h⟩:=h;refine⟨_,(Ze (Zm (pI (iL K) (Z5 (Za Zg (Za (Zs Yu Zg (Zs Yq (Zs Xa (pF zkx hr (Za (pv 0) (Za Zg Zd))) Zg) Zg)) Zd))) (Zs Yq (Zs Xa (pF zkx hr (Za (pv 0) (Za Zg Zd))) Zg) Zg)))),?_⟩;refine⟨_,rfl,b,ns,1,rfl,hS,?_⟩;refine⟨_,_,rfl,rfl,⟨by decide,by decide⟩,_,_,rfl,rfl,(show (0:Int)<60 by decide),_,_,rfl,rfl,sz2,fun l hl=>?_⟩
 have s1:=Zf (o:=.lst [V.int 60,V.int (1+Y4 ns 1/22%60)]) hl;have q1:upd H l (.lst [V.int 60,V.int (1+Y4 ns 1/22%60)]) l=some (.lst [V.int 60,V.int (1+Y4 ns 1/22%60)]):=Zc;refine⟨_,rfl,b,ns,0,rfl,s1.seq hS,_,_,rfl,rfl,⟨by decide,by decide⟩,_,_,rfl,rfl,(show (0:Int)<2 by decide),?_⟩
 have h01:Y4 ns 0/2%2=0\/Y4 ns 0/2%2=1:=by omega
 have hat:atI [V.int 60,V.int (1+Y4 ns 1/22%60)] (Y4 ns 0/2%2)=some (.int (((Qv ns).toNat:Nat):Int))/\1<=(Qv ns).toNat/\(Qv ns).toNat<=60:=by
  unfold Qv;rcases h01 with e|e
  ·rw[e,if_pos rfl];exact⟨rfl,by decide,by decide⟩
  ·rw[e,if_neg (by decide),zu0 (by omega)]
   exact⟨rfl,by omega,by omega⟩
 exact⟨l,_,_,_,rfl,rfl,SqL.of q1,hat.1,h _ _ rfl hat.2.1 hat.2.2 s1⟩
abbrev Ni:Stmt:=top 86
theorem B7:Zl ["_law_script","_law_k"] ["_law_script","_law_k"] (Zj Ni):=fnS
theorem B8(F:Fun K "_law_cell" "_law_cell" Ni f fd)(T:Tx K mg a)(zkx:Z1 P w K mg base "_law_at" 1 ["_law_script","_law_k"] (Aw K))(zl9:Z1 P w K mg base "_law_mix" 1 ["_law_cell_here","_law_k"] za6):FnOk P w K mg base (CX1 P w) 2 f fd ["_law_script","_law_k"] (Bi K):=by
 refine F.okX B7 (by walk_at "ar") fun _ _ _ _ H _ Q E hr h=>?_
 obtain⟨b,ns,k,rfl,hS,hk,h⟩:=h;refine⟨_,(Zb (Zz (Zn Xt (Zs Yq (pF zkx hr (Za (pv 0) (Za Zg Zd))) Zg) Zg (Zr _))
  (Ze (Zm (pF zl9 hr (Za (pI (iL K) (pv 0) (pv 1)) (Za (pv 1) Zd)))))
  Zp)
 (Ze (Zm (pI (iL K) (pv 0) (pv 1))))),?_⟩
 have hk':(ns.map V.int)[k]?=some (.int (ns[k]'hk)):=by rw[zs0,zsu hk];rfl
 refine⟨_,rfl,b,ns,0,rfl,hS,_,_,rfl,rfl,(show (0:Int)<2 by decide),rfl,_,rfl,?_⟩
 refine itB (fun _=>?_) (fun _=>?_)
 ·exact⟨_,rfl,_,rfl,b,_,_,_,rfl,rfl,hS,Z4 hk',_,rfl,_,_,rfl,h _ H (Same.refl _)⟩
 ·exact⟨_,rfl,_,rfl,b,_,_,_,rfl,rfl,hS,Z4 hk',h _ H (Same.refl _)⟩
abbrev Uo:Stmt:=top 87
theorem V7:Zl ["_law_page","_law_goes","_law_deed_here","_law_told","_law_place","_law_given"] ["_law_page","_law_goes","_law_deed_here","_law_told"] (Zj Uo):=fnS
theorem Mg(F:Fun K "_law_chain_fits" "_law_chain_fits" Uo f fd)(T:Tx K mg a)(zmf:Z1 P w K mg base "_law_chain_is_due" 3 ["_law_may","_law_given","_law_place","_law_steps_here"] (Hs K))(zlv:Z1 P w K mg base "_law_open" 2 ["_law_page"] (Df K)):FnOk P w K mg base (CX1 P w) 4 f fd ["_law_page","_law_goes","_law_deed_here","_law_told"] (Kl K):=by
 refine F.okX V7 (by walk_at "ar") fun _ _ _ _ H _ Q E hr h=>?_
 obtain⟨ok,d,lg,t,lt,P0,gs,us,i,n,rfl,PA,PO,hpl,hms,hg,hog,ht,hlt,hcs,h⟩:=h;have hu:=Wl hr;refine⟨_,(Zb (Zz (PW.pt (W4 (Zn Of (pD hu (pv 0) Zq) Yl (Zr _)) (W4 (Zn Nk (pI (iU K) (pv 2) Zg) (Zs Yu (Zo (cL K) (by rfl) T.zku PySem.boot_len (Za (pD hu (pv 0) Zq) Zd)) Zg) (Zr _)) (X9 (Zn (Wq (K:=K) rfl) (pI (iU K) (pv 2) Zg) (pv 1) (by with_unfolding_all rfl))))))
  (Ze (Zm (W3 (Ey (K:=K) rfl hr.units) (pv 3) (Z5 Zd) (Zr _))))
  Zp)
 (Zb (pS 4 V7.nd (zdz PySem.F.plainAttrs_list PySem.F.slot_list_index PySem.F.type_list_index Jy (pv 1) (Za (pI (iU K) (pv 2) Zg) Zd)))
 (Zb (pS 5 V7.nd (Ys (Yv (K:=K) rfl) (by rfl) T.zlk PyProof.Rows.boot_list (Za (pv 1) Zd)))
 (Zb (Qg Yl (Aa (pv 5) (pv 4) Jr))
 (Ze (Zm (pF zmf hr (Za (pF zlv hr (Za (pv 0) Zd)) (Za (pv 5) (Za (pv 4) (Za (pv 3) Zd))))))))))),?_⟩
 obtain⟨lp,lo,lv,dv,li,lgg,lm,a1,PB,okd⟩:=id PA.split;obtain⟨vts,u1,u2,u3⟩:=PB.vv;have hvl:(vts.length:Int)+1=(P0.over.length:Int)+1:=by rw[u2.length]
 have hls:decide (li=V.non)=!P0.lis.isSome:=by rw[<- PB.li.some,Bool.not_not]
 have eqz:∀ {Q0:VK},us=[]->(∀ H',Same H H'->Q0 (.bl true) H')->tOp (rEqD K false) (tVar 3) (tLst tNil) (L2.Nl ["_law_page","_law_goes","_law_deed_here","_law_told","_law_place","_law_given"] [.ref d,.ref lg,.ref t,.ref lt]) H Q0:=fun hu q=>by
  subst hu;refine⟨_,rfl,ztm _,fun l9 f9=>?_⟩
  have s9:=Zf (o:=.lst []) f9;refine⟨.lst [],.lst [],.lst (SqL.of (s9 _ _ hlt)) .nil,.lst (SqL.of Zc) .nil,T4,T4,?_⟩;rw[if_neg (show ¬ false=true by decide),Nr]
  exact q _ s9
 by_cases hL:P0.lis=none
 ·refine Y7 ?_
  refine⟨_,rfl,d,_,rfl,DGet.k (k:=.inr "listed") a1,rfl,_,rfl,?_⟩;rw[hls,hL];refine iteT (iteT ?_);rcases hcs with ⟨_,hu⟩|⟨ms,_,_,_,_,_,c1,_⟩
  ·exact eqz hu h
  ·rw[hL] at c1;cases c1
 obtain⟨hone,hgl⟩:=hog hL;have fl:gs.all U6=true:=zuf.mpr fun x hx=>by rcases hone x hx with rfl|⟨_,rfl⟩<;>rfl
 have key:=@S7 gs n hone;refine Y7 (Xq (b:=(!P0.lis.isSome)||((!decide (V.int i=V.int ((P0.over.length:Int)+1))) || !inV (.int n) gs)) (W8 (fun Q q=>⟨_,rfl,d,_,rfl,DGet.k (k:=.inr "listed") a1,rfl,_,rfl,by rw[hls];exact q⟩) (W8 (fun Q q=>⟨_,rfl,t,_,_,_,rfl,rfl,SqT.of ht,rfl,_,rfl,d,_,rfl,DGet.k (k:=.inr "over") a1,lv,vts,rfl,.inl (SqL.of u1),_,_,rfl,rfl,rfl,_,rfl,(show Q (!decide (V.int i=V.int ((vts.length:Int)+1))) H by rw[hvl];exact q)⟩) (fun Q q=>⟨_,rfl,t,_,_,_,rfl,rfl,SqT.of ht,rfl,_,rfl,lg,gs,rfl,.inl (SqL.of hg),rfl,fl,_,rfl,q⟩))) ?_)
 rcases hcs with ⟨hc,rfl⟩|⟨ms,nu,p,e,st,w',c1,c2,c3,MO,FP,hp,tl,CR⟩
 ·have hb:((!P0.lis.isSome)||((!decide (V.int i=V.int ((P0.over.length:Int)+1))) || !inV (.int n) gs))=true:=by
   rcases hc with z|z|z
   ·rw[z];rfl
   ·rw[zs8 (fun q=>z (V.int.inj q))];simp
   ·have:inV (.int n) gs=false:=by
     cases q:inV (.int n) gs with
     | false=>rfl
     | true =>
       obtain⟨j,hj⟩:=key.mp q;rcases L7 gs n with w|⟨_,w,_⟩
       ·exact absurd hj (w.2 j)
       ·rw[z] at w;cases w
    rw[this];simp
  rw[hb];refine iteT ?_;exact eqz rfl h
 ·obtain⟨h1,h2,h3⟩:=List.find?_range_eq_some.mp c3
  have hgp:gs[p]?=some (.int n):=of_decide_eq_true h1;have hplt:=(zsv.mp hgp).1;rw[c1,c2,zsy rfl,key.mpr ⟨p,hgp⟩];refine iteF (Zu ?_);dsimp only;refine⟨_,rfl,.inl ⟨rfl,gs,SqL.of hg⟩,_,rfl,t,_,_,_,rfl,rfl,SqT.of ht,rfl,lg,gs,.int n,p,rfl,rfl,hg,rfl,fl,⟨_,hgp,(Rl (.inr ⟨_,rfl⟩)).mpr rfl⟩,fun m z hm hz=>?_,?_⟩
  ·have:=h3 m hm
   have hne:¬ z=.int n:=fun q=>by
    rw[q] at hz
    rw[zsy hz] at this
    cases this
   cases hb2:eqV z (.int n) with
   | false=>rfl
   | true=>exact absurd ((Rl (hone z (zs5 hz))).mp hb2) hne
  walk_at "if";refine⟨_,rfl,lg,gs,rfl,.inl (SqL.of hg),fun l5 f5=>?_⟩
  have s5:=Zf (o:=.lst gs) f5;have q5:=Zc (H:=H) (a:=l5) (o:=.lst gs);generalize upd H l5 (.lst gs)=H5 at s5 q5 ⊢
  walk_at "if";refine⟨_,rfl,_,rfl,l5,_,_,p,rfl,rfl,q5,(show ixN _ ((p:Nat):Int)=some _ by unfold ixN;rw[if_pos (by omega),if_pos (by omega),zta]),?_⟩
  have s6:=Z6 (o:=.lst (gs.set p .non)) f5 s5;have q6:=Zc (H:=H5) (a:=l5) (o:=.lst (gs.set p .non));dsimp only;generalize upd H5 l5 (.lst (gs.set p .non))=H6 at s6 q6 ⊢
  refine⟨_,rfl,ok,d,P0,ms,rfl,PA.same s6,PO,c1,hms ms c1,hpl,fun lw ls H7 hlw ilw s7 flw _=>?_⟩
  have s07:=s6.trans s7;exact⟨_,rfl,_,rfl,_,rfl,lw,l5,lt,ls,_,nu,_,us,p,e,st,w',rfl,hlw,ilw,MO,s7 _ _ q6,FP,hp,s07 _ _ hlt,tl.same s07,CR,fun H' s'=>h H' (s07.trans s')⟩
theorem zbo{E:XK}{DD:Pp}{A1p:Addr}{A3:SAd}{S3:Sea}{nu:List Int}{n:Nat}{ds7:List Addr}{d7:Addr}{Pz:Pg}{Hz:Hp}{b t l6 t' lg:Addr}{bg mx k6:Int}{v9:V}(SA:Zy (ca a) Hz A3 S3)(eAp:A3.p=A1p)(F:Ug true (·∉A3.fp) Hz nu n ds7 d7 Pz S3)(hn:n<=100)
  (hN:∀ H',Same Hz H'->DD.nx [some (.ref b),some (.int bg),some (.int mx),some (.ref A1p),some (.ref t),some (.ref l6),some (.int k6),some (.ref t'),some (.ref lg),some v9,some (.ref d7),some (.int (atV S3))] H') :
  Zx (D6 (zdf (D9 (tOp (fun x y H Q=>y=V.non/\Q (V.bl !decide (x=V.non)) H) (Jn (tVar 10) (tC (V.str "listed"))) (tC V.non))) (zg7 (tB (Ca (Jv K) [] E (P8 (Fh a.zkn "goes" (A9 (ca a)) [] E (tVar 3) (P8 (tVar 11) tNil)) (P8 (Jn (tVar 10) (tC (V.str "goes"))) tNil)))))) (zdh (tC (V.bl false))) D5)
   (D6 (zdf (D9 (tOp (fun x y H Q=>y=V.non/\Q (V.bl !decide (x=V.non)) H) (Jn (tVar 10) (tC (V.str "listed"))) (tC V.non))) (zg7 (tB (Ca (O3 K) [] E (P8 (Fh a.zkn "chains" (J5 (ca a)) [] E (tVar 3) (P8 (tVar 11) tNil)) (P8 (Jn (tVar 10) (tC (V.str "moves"))) tNil)))))) (zdh (tC (V.bl false))) D5)
   DD [some (.ref b),some (.int bg),some (.int mx),some (.ref A1p),some (.ref t),some (.ref l6),some (.int k6),some (.ref t'),some (.ref lg),some v9,some (.ref d7),some (.int (atV S3))] Hz:=by
 obtain⟨lp,lo,lv,dv,li,lgg,lm,a1,PB,okd⟩:=id F.pg.split;have hls:=PB.li.some;obtain⟨gg1,gg2⟩:=PB.gg;obtain⟨mts,mm1,mm2,mm3⟩:=PB.mm;obtain⟨⟨dx,vv,ob,_⟩,_⟩:=id SA;rw[eAp] at ob
 have go:∀ {H0:Hp},Same Hz H0->∀ {Q:Bool->Hp->Prop},Q Pz.lis.isSome H0->D9 (tOp (fun x y H Q=>y=V.non/\Q (V.bl !decide (x=V.non)) H) (Jn (tVar 10) (tC (V.str "listed"))) (tC V.non)) [some (.ref b),some (.int bg),some (.int mx),some (.ref A1p),some (.ref t),some (.ref l6),some (.int k6),some (.ref t'),some (.ref lg),some v9,some (.ref d7),some (.int (atV S3))] H0 Q:=fun s0 Q q=>⟨_,rfl,d7,_,rfl,DGet.k (k:=.inr "listed") (s0 _ _ a1),rfl,_,rfl,by rw[hls];exact q⟩
 cases hc:S3.cur with
 | none =>
   have hno:Pz.lis.isSome=false:=by rw[F.re.b.lis,hc];rfl
   refine Y7 ?_;refine go (Same.refl _) ?_;rw[hno];refine iteF (iteF (Zu ?_));dsimp only;refine go (Same.refl _) ?_;rw[hno];exact iteF (iteF (Zu (hN _ (Same.refl _))))
 | some sh =>
   have hyes:Pz.lis.isSome=true:=by rw[F.re.b.lis,hc];rfl
   obtain⟨k1,k2,k3,k4,k5⟩:=F.so.cur sh hc;have hml:sh.may.length=sh.ms.length:=by rw[k4];unfold mayS;rw[zst]
   have hgl:sh.gv.length=sh.may.length:=k2.len;obtain⟨gp1,gp2⟩:=F.so.gp sh (.inl hc);have hgv:=F.re.gv sh hc;have hmv:=F.re.mv rfl;rw[Vg hc] at hmv
   refine Y7 ?_;refine go (Same.refl _) ?_;rw[hyes];refine iteT ?_;refine⟨_,rfl,A1p,dx,_,rfl,ob,Yi (by decide +kernel),_,rfl,A3,S3,atV S3,(by rw[eAp];rfl),SA,zfc F.so hc fun lq H1 hlq s1 flq=>?_⟩
   refine⟨_,rfl,d7,_,rfl,DGet.k (k:=.inr "goes") (s1 _ _ a1),lq,lgg,sh.gv,rfl,hlq,SqL.of (by rw[<- hgv];exact s1 _ _ gg1),k2.one,by omega,true,rfl,?_⟩
   refine iteF (Zu ?_);dsimp only;refine go s1 ?_;rw[hyes];refine iteT ?_;refine⟨_,rfl,A1p,dx,_,rfl,s1 _ _ ob,Yi (by decide +kernel),_,rfl,A3,S3,atV S3,(by rw[eAp];rfl),SA.same s1,zfc F.so hc ⟨by omega,fun lq2 ts2 H2 hlq2 gl2 s2 flq2=>?_⟩⟩
   have s12:=s1.trans s2;refine⟨_,rfl,d7,_,rfl,DGet.k (k:=.inr "moves") (s12 _ _ a1),_,(·∉A3.fp),lq2,lm,ts2,mts,sh.gaps,rfl,hlq2,s12 _ _ mm1,gl2,by rw[<- hmv];exact mm2.keepL (.of s12),by omega,fun x hx=>ztb (gp2 x hx) (by decide),true,rfl,?_⟩
   exact iteF (Zu (hN _ s12))
abbrev Ej:Stmt:=top 88
theorem V8:Zl ["_law_script","_law_big","_law_mixed","_law_season","_law_pool_here","_law_pages","_law_k","_law_deed_here","_law_goes","_law_told","_law_page","_law_at_here"] ["_law_script"] (Zj Ej):=fnS
theorem zil(F:Fun K "law" "law" Ej f fd)(T:Tx K mg a)(zkx:Z1 P w K mg base "_law_at" 1 ["_law_script","_law_k"] (Aw K))(zqd:Se P w K mg base "Season" a.zkn 3 ["self","rounds","rest"] (zbi (ca a)))(zoi:Z1 P w K mg base "_law_rest" 2 ["_law_script"] (Bh K))(znc:Z1 P w K mg base "_law_rounds" 2 ["_law_script"] (J6 K))(zox:Z1 P w K mg base "_law_pool" 2 ["_law_script","_law_crowd"] (Bj K))(zom:Z1 P w K mg base "_law_first" 1 ["_law_rounds_here","_law_rest_here"] zbm)(znl:Z1 P w K mg base "_law_enrolled" 9 ["_law_season","_law_pages","_law_deeds"] (Ii K (ca a)))(zoc:Z1 P w K mg base "_law_people" 2 ["_law_script","_law_pool_here"] (Ih K))(zoz:Z1 P w K mg base "_law_deed" 3 ["_law_pages","_law_cell_here","_law_pool_here","_law_most","_law_mixed"] (Bv K))(zow:Z1 P w K mg base "_law_cell" 2 ["_law_script","_law_k"] (Bi K))(zn9:Z1 P w K mg base "_law_do" 8 ["_law_season","_law_deed_here"] (zih K (ca a)))(zmh:Z1 P w K mg base "_law_paged" 3 ["_law_pages","_law_deed_here"] (Dg K))(zmt:Z1 P w K mg base "_law_is_filling" 2 ["_law_may","_law_given"] (L8 K))(zlv:Z1 P w K mg base "_law_open" 2 ["_law_page"] (Df K))(zmq:Z1 P w K mg base "_law_chain_fits" 4 ["_law_page","_law_goes","_law_deed_here","_law_told"] (Kl K))(zn5:Z1 P w K mg base "_law_stepped" 1 ["_law_goes","_law_steps_here"] (S6 K))(zn6:Z1 P w K mg base "_law_list_is" 3 ["_law_found","_law_due"] (Jv K))(zn8:Zw P w K mg base a.zkn "goes" 4 ["self","at"] (A9 (ca a)))(zm4:Z1 P w K mg base "_law_moves_are" 5 ["_law_found","_law_due"] (O3 K))(zm3:Zw P w K mg base a.zkn "chains" 4 ["self","at"] (J5 (ca a)))(zk3:Z1 P w K mg base "_law_one_is" 2 ["_law_found","_law_due"] Nu)(zkp:Zw P w K mg base a.zkn "at_hand" 2 ["self"] (Uu (ca a))):FnOk P w K mg base (CX1 P w) 10 f fd ["_law_script"] (za8 K):=by
 refine F.okX V8 (by walk_at "ar") fun _ _ _ _ H _ Q E hr h=>?_
 obtain⟨b,ns,rfl,hS,hlen,h⟩:=h;have hu:=Wl hr;refine⟨_,(Zb (pS 1 V8.nd (Ys Fg (by rfl) T.zp2 PyProof.Rows.boot_int (Za (W3 Xt (Zs Yq (Zs Xa (pF zkx hr (Za (pv 0) (Za Zg Zd))) Zg) Zg) Zg (Zr _)) Zd)))
 (Zb (pS 2 V8.nd (Zs Yq (pF zkx hr (Za (pv 0) (Za Zg Zd))) Zg))
 (Zb (pS 3 V8.nd (Ex zqd (hr.mono (by decide)) Zk rfl (Za (pF znc hr (Za (pv 0) Zd)) (Za (pF zoi hr (Za (pv 0) Zd)) Zd))))
 (Zb (pS 4 V8.nd (pF zox hr (Za (pv 0) (Za (pI (iL K) (Z5 (Za Zg (Za Zg Zd))) (pv 1)) Zd))))
 (Zb (pS 5 V8.nd (Z5 (Za (pF zom hr (Za (pF znc hr (Za (pv 0) Zd)) (Za (pF zoi hr (Za (pv 0) Zd)) Zd))) Zd)))
 (Zb (pS 5 V8.nd (pF znl hr (Za (pv 3) (Za (pv 5) (Za (pF zoc hr (Za (pv 0) (Za (pv 4) Zd))) Zd)))))
 (Zb (Y5 PassesOwn.leaving rfl (zbu rfl T.zlj (Za Zg (Za (Zo (Ff rfl) (by rfl) T.zqb PyProof.Rows.boot_min (Za Zg (Za (Zo (cL K) (by rfl) T.zku PySem.boot_len (Za (pv 0) Zd)) Zd))) Zd))) (pN 6 V8.nd)
  (Zb (Zz (Zn Xt (Zo (cL K) (by rfl) T.zku PySem.boot_len (Za (pD hu (pI (iL K) (pv 5) (Qh Te Zg)) Zq) Zd)) (pD hu (pI (iL K) (pv 5) (Qh Te Zg)) Zq) (Zr _))
   (Ze zdg)
   Zp)
  (Zb (pS 7 V8.nd (pF zoz hr (Za (pv 5) (Za (pF zow hr (Za (pv 0) (Za (pv 6) Zd))) (Za (pv 4) (Za (pI (iL K) (Z5 (Za Zg (Za Zg Zd))) (pv 1)) (Za (pv 2) Zd)))))))
  (Zb (pS 8 V8.nd (pD hu (pI (iL K) (pv 5) (Qh Te Zg)) Zq))
  (Zb (pS 9 V8.nd (pF zn9 hr (Za (pv 3) (Za (pv 7) Zd))))
  (Zb (pS 5 V8.nd (pF zmh hr (Za (pv 5) (Za (pv 7) Zd))))
  (Zb (pS 10 V8.nd (pI (iL K) (pv 5) (Qh Te Zg)))
  (Zb (pS 11 V8.nd (Zs Yu (Zo (cL K) (by rfl) T.zku PySem.boot_len (Za (pD hu (pv 10) Zq) Zd)) Zg))
  (Zb (Zz (Zn Xt (pI (iU K) (pv 7) Zg) Zq (Zr _))
   (Zb (Zz (Xl (Xh (pF zmt hr (Za (pF zlv hr (Za (pv 10) Zd)) (Za (pv 9) Zd)))))
    (Ze (Zm Xs))
    Zp)
   (Ze (Yj hu (pv 10) Zq (Ys (Yv (K:=K) rfl) (by rfl) T.zlk PyProof.Rows.boot_list (Za (pv 9) Zd)) rfl)))
   Zp)
  (Zb (Zz (PW.pt (Sd (Zn Xt (pI (iU K) (pv 7) Zg) Zq (Zr _)) (Uq (Xl (Xh (pF zmq hr (Za (pv 10) (Za (pv 8) (Za (pv 7) (Za (pv 9) Zd))))))))))
   (Ze (Zm Xs))
   Zp)
  (Zb (Zz (PW.pt (Sd (Zn Xt (pI (iU K) (pv 7) Zg) Zq (Zr _)) (Uq (Zn (Jd (K:=K) rfl hr.units) (pv 9) (Z5 Zd) (Zr _)))))
   (Zb (Yj hu (pv 10) Zq (pF zn5 hr (Za (pv 8) (Za (pv 9) Zd))) rfl)
   (Ze (Yj hu (pv 10) Zq (Zs Ml (pD hu (pv 10) Zq) (Z5 (Za (Ya (Za (pI (iU K) (pv 7) Zg) (Za (Ys (Yv (K:=K) rfl) (by rfl) T.zlk PyProof.Rows.boot_list (Za (pv 9) Zd)) Zd))) Zd))) rfl)))
   Zp)
  (Zb (Zz (PW.pt (Sd (Zn W9 (pD hu (pv 10) Zq) Yl (Zr _)) (Uq (Xl (Xh (pF zn6 hr (Za (Xx (pv 3) T.zko zn8 (hr.mono (by decide)) Zk (Za (pv 11) Zd)) (Za (pD hu (pv 10) Zq) Zd))))))))
   (Ze (Zm Xs))
   Zp)
  (Ze (Zz (PW.pt (Sd (Zn W9 (pD hu (pv 10) Zq) Yl (Zr _)) (Uq (Xl (Xh (pF zm4 hr (Za (Xx (pv 3) T.zko zm3 (hr.mono (by decide)) Zk (Za (pv 11) Zd)) (Za (pD hu (pv 10) Zq) Zd))))))))
   (Ze (Zm Xs))
   Zp))))))))))))))
 (Ze (Zm (pF zk3 hr (Za (Yr (pv 3) T.zko zkp (hr.mono (by decide)) Zk) (Za (Zs Yu (Zo (cL K) (by rfl) T.zku PySem.boot_len (Za (pD hu (pI (iL K) (pv 5) (Qh Te Zg)) Zq) Zd)) Zg) Zd)))))))))))),?_⟩
 show let y1:TS:=_;let y2:TS:=Zx _ y1;let y3:TS:=Zx _ y2;let y4:TS:=Zx _ y3;let y5:TS:=Zx _ y4;let y6:TS:=Zx _ y5;let y7:TS:=Zx _ y6;let y8:TS:=Zx _ y7;let y9:TS:=Zx _ y8;let y10:TS:=Zx _ y9;let y11:TS:=Zx _ y10;let y12:TS:=_;let y13:TS:=Zx (zfj _ _ (Zx _ y11)) y12;let y14:TS:=Zx _ y13;let y15:TS:=Zx _ y14;let y16:TS:=Zx _ y15;let y17:TS:=Zx _ y16;let y18:TS:=Zx _ y17;Zx _ y18 _ _ _;intro y1 y2 y3 y4 y5 y6 y7 y8 y9 y10 y11 y12 y13 y14 y15 y16 y17 y18;refine⟨_,rfl,b,ns,0,rfl,hS,_,_,rfl,rfl,⟨by decide,by decide⟩,_,_,rfl,rfl,(show (0:Int)<4 by decide),rfl,.inr ⟨_,rfl,?_⟩⟩
 obtain⟨bg,hbg,hbg1⟩:∃ bg:Nat,(if decide (V.int (Y4 ns 0/32%4)=V.int 3)=true then (1:Int) else 0)=(bg:Int)/\bg<=1:=by
  cases decide (V.int (Y4 ns 0/32%4)=V.int 3) with
  | true=>exact⟨1,rfl,by decide⟩
  | false=>exact⟨0,rfl,by decide⟩
 rw[hbg];refine⟨_,rfl,b,ns,0,rfl,hS,_,_,rfl,rfl,(show (0:Int)<2 by decide),?_⟩
 obtain⟨mx,hmx,hmx1⟩:∃ mx:Nat,Y4 ns 0%2=(mx:Int)/\mx<=1:=⟨(Y4 ns 0%2).toNat,by omega,by omega⟩
 walk_at "if";rw[hmx];refine⟨_,rfl,b,ns,rfl,hS,fun rr H1 hrr hr1 hr60 s1=>?_⟩
 refine⟨_,rfl,b,ns,rfl,s1.seq hS,fun rq H2 hrq hq10 s2=>?_⟩
 have s12:=s1.trans s2;have hS2:=s12.seq hS;intro p0 dx0 hp0 hdx0 ne0;refine⟨p0,dx0,rr,rq,rfl,Zc,Y2 (by omega) (by omega),Y2 (by omega) (by omega),?_⟩
 rw[if_neg (by omega),if_neg (by omega)]
 intro A1 H4 hAp SA4 k4 f4;rw[zta,zta] at SA4
 have s4:Same H2 H4:=fun x o e=>k4 x o (by rw[Zi (Zh e hp0),Zi (Zh e hdx0)];exact e) (Zh e hp0)
 have ff:∀ x∈A1.fp,H2 x=none:=fun x hx=>by
  by_cases z:x=p0
  ·rw[z];exact hp0
  ·have:=f4 x hx z
   rw[Zi z] at this
   by_cases w:x=dx0
   ·rw[w];exact hdx0
   ·rw[Zi w] at this;exact this
 have SC4:T7 K A1 H4 b (ns.map V.int):=.make hS2 A1 H4 s4 ff;clear f4 k4;subst hAp;refine⟨rfl,?_⟩;walk_at "if";refine⟨_,rfl,sz2,fun l5 fl5=>?_⟩
 have s5:=Zf (o:=.lst [.int 7,.int 30]) fl5;have q5:=Zc (H:=H4) (a:=l5) (o:=.lst [.int 7,.int 30]);generalize upd H4 l5 (.lst [.int 7,.int 30])=H5 at s5 q5 ⊢
 obtain⟨cr,hcr,hcr1,hcr30⟩:∃ cr:Nat,atI [V.int 7,V.int 30] (bg:Int)=some (.int (cr:Nat))/\1<=cr/\cr<=30:=by
  match bg,hbg1 with
  | 0,_=>exact⟨7,rfl,by decide,by decide⟩
  | 1,_=>exact⟨30,rfl,by decide,by decide⟩
 have SC5:=SC4.fr (.of s5);refine⟨_,rfl,l5,_,_,_,rfl,rfl,SqL.of q5,hcr,b,ns,cr,rfl,SC5.sq,hcr1,hcr30,fun t lc ln cs nu H6 PL hnu s6 ft flc fln=>?_⟩
 have SA6:=(SA4.same s5).same s6;have SC6:=SC5.fr (.of s6);have no5:=(SA4.same s5).newOk;have PO6:Ob A1 H6 t lc ln cs nu:=⟨PL,no5 _ ft,no5 _ flc,no5 _ fln⟩;walk_at "if";refine⟨_,rfl,b,ns,rfl,SC6.sq,fun rr' H7 hrr' _ _ s7=>?_⟩
 have SC7:=SC6.fr (.of s7);refine⟨_,rfl,b,ns,rfl,SC7.sq,fun rq' H8 hrq' _ s8=>?_⟩
 cases (hrr'.trans hrr.symm);cases (hrq'.trans hrq.symm);refine⟨rr,rq,rfl,fun d9 H9 pg9 s9 fd9=>⟨(by show 1<=sizeLine;rw[sizeLine_eq];decide),fun l10 fl10=>?_⟩⟩
 have SC9:=((SC7.fr (.of s8)).fr (.of s9));have SA9:=((SA6.same s7).same s8).same s9;have PO9:=((PO6.fr (.of s7)).fr (.of s8)).fr (.of s9);have no8:=((SA6.same s7).same s8).newOk;have F9:=zaj (mb:=true) (nu:=nu) (n:=0) (pg9.imp (ok':=(·∉A1.fp)) fun x _ hx=>no8 x hx) hr60 hq10
 have s10:=Zf (o:=.lst [.ref d9]) fl10;have q10:=Zc (H:=H9) (a:=l10) (o:=.lst [.ref d9]);have o10:=SA9.newOk _ fl10;walk_at "if";generalize upd H9 l10 (.lst [.ref d9])=H10 at s10 q10 ⊢
 have SA10:=SA9.same s10;have SC10:=SC9.fr (.of s10);have PO10:=PO9.fr (.of s10);have F10:=F9.same s10;show Zx _ _ _ [some (.ref b),some (.int bg),some (.int mx),some (.ref A1.p),some (.ref t),some (.ref l10),none,none,none,none,none,none] H10;clear SA9 SC9 PO9 F9 SA6 SC6 PO6 PL SC7 SC4 SC5 SA4 no5 no8 pg9 hS hS2 s12;have nfew:=PO10.at_.nfew;refine⟨_,rfl,_,rfl,_,rfl,_,rfl,b,t,lc,ln,ns,cs,nu,rfl,SC10.sq,PO10.at_,fun le ts es H11 hle tl en el eok s11 fle=>?_⟩
 have SA11:=SA10.same s11;have nd11:(es.map (·.1)).Nodup:=by rw[en];exact PO10.at_.nnd.sublist (List.take_sublist _ _)
 refine⟨true,A1,l10,le,ts,es,[],d9,_,_,nu,0,rfl,SA11,s11 _ _ q10,o10,F10.same s11,hle,SA10.newOk _ fle,tl,nd11,fun x hx=>?_,(by show 0+es.length<=30;omega),by omega,rfl,(by show 0<rr;omega),fun A2 l2 ds2 d2 P2 S2 H12 SA12 hl12 ho12 F12 f12 hc12 he12 hn12=>?_⟩
 ·obtain⟨x1,x2,x3⟩:=eok x hx
  have hxn:x.1∈nu:=by
   have:x.1∈es.map (·.1):=zs2.mpr ⟨x,hx,rfl⟩
   rw[en] at this
   exact List.mem_of_mem_take this
  refine⟨hxn,?_,nofun⟩;have:=PO10.at_.nrng _ hxn;have:=PO10.at_.crng _ x3;unfold badI;omega
 have SC12:=(SC10.fr (.of s11)).fr f12;have PO12:=(PO10.fr (.of s11)).fr f12;have hAp:=f12.p;walk_at "if";refine⟨_,rfl,b,_,rfl,.inl SC12.sq,?_⟩;rw[zst];refine⟨_,_,rfl,6,_,rfl,⟨by omega,by omega,by split<;>omega,by split<;>omega⟩,?_⟩
 obtain⟨N0,hN0,hN1⟩:∃ N0:Nat,((if (ns.length:Int)<63 then (ns.length:Int) else 63)-6).toNat=N0/\∀ i:Nat,i<N0->6+i<ns.length:=⟨_,rfl,fun i hi=>by split at hi<;>omega⟩
 have hN57:N0<=57:=by rw[<- hN0];split<;>omega
 rw[hN0]
 let jv1:Nat->L2.St->Hp->Prop:=fun i σ H'=>∃ A2 l2 ds2 d2 P2 S2 v6 v7 v8 v9 v10 v11,σ=[some (.ref b),some (.int bg),some (.int mx),some (.ref A1.p),some (.ref t),some (.ref l2),v6,v7,v8,v9,v10,v11]/\Zy (ca a) H' A2 S2/\H' l2=some (.lst ((ds2++[d2]).map V.ref))/\l2∉A2.fp/\Ug true (·∉A2.fp) H' nu (30+i) ds2 d2 P2 S2/\T7 K A2 H' b (ns.map V.int)/\Ob A2 H' t lc ln cs nu/\A2.p=A1.p
 refine Dm jv1
  ⟨A2,l2,ds2,d2,P2,S2,_,_,_,_,_,_,rfl,SA12,hl12,ho12,⟨F12.pg,F12.re,F12.so.mono (by omega),?_⟩,SC12,PO12,hAp⟩ ?_ ?_
 ·obtain⟨nd,e|⟨S0,bb,rr'⟩⟩:=F12.tl
  ·exact⟨nd,.inl e⟩
  ·exact⟨nd,.inr ⟨S0,bb.mono (by omega),rr'⟩⟩
 ·rintro N hN i σ H1 hi ⟨A2,l2,ds2,d2,P2,S2,v6,v7,v8,v9,v10,v11,rfl,SA,hl2,ho2,F,SC,PO,eAp⟩
  have hki:=hN1 i hi;have e6:(6:Int)+(i:Int)=((6+i:Nat):Int):=by omega
  rw[e6];walk_at "if";obtain⟨lp,lo,lv,dv,li,lg,lm,a1,PB,okd⟩:=id F.pg.split;have hat:atI ((ds2++[d2]).map V.ref) (-1)=some (V.ref d2):=by rw[zs1];exact L2.atI_last _ _
  obtain⟨vts,u1,u2,u3⟩:=PB.vv;have hvl:(vts.length:Int)=(P2.over.length:Int):=by rw[u2.length]
  refine Y7 (Xq (b:=decide (V.int (P2.over.length:Int)=V.int (P2.len:Int))) (fun Q q=>⟨_,rfl,_,rfl,l2,_,_,_,rfl,rfl,SqL.of hl2,hat,d2,_,rfl,DGet.k (k:=.inr "over") a1,lv,vts,rfl,.inl (SqL.of u1),_,rfl,_,rfl,l2,_,_,_,rfl,rfl,SqL.of hl2,hat,d2,_,rfl,DGet.k (k:=.inr "rounds") a1,rfl,_,rfl,by rw[hvl];exact q⟩) (itB (fun _=>hN i _ _ ⟨A2,l2,ds2,d2,P2,S2,_,_,_,_,_,_,rfl,SA,hl2,ho2,F,SC,PO,eAp⟩) (fun hb=>Zu ?_)))
  have hlt:P2.over.length<P2.len:=by
   have h1:=F.re.b.olen;have h2:=F.so.olen;have h3:=F.so.len;have h4:=F.re.b.len;have h5:=of_decide_eq_false hb;have h6:P2.over.length≠P2.len:=fun z=>h5 (by rw[z])
   omega
  dsimp only;refine⟨_,rfl,_,rfl,_,rfl,b,ns,6+i,rfl,SC.sq,hki,fun cell H2 s2=>?_⟩
  obtain⟨most,hmost,hmo⟩:∃ most:Nat,atI [V.int 5,V.int 20] (bg:Int)=some (.int (most:Nat))/\most<=20:=by
   match bg,hbg1 with
   | 0,_=>exact⟨5,rfl,by decide⟩
   | 1,_=>exact⟨20,rfl,by decide⟩
  refine⟨_,rfl,sz2,fun l3 fl3=>?_⟩
  have s3:=s2.trans (Zf (o:=.lst [.int 5,.int 20]) fl3);have q3:=Zc (H:=H2) (a:=l3) (o:=.lst [.int 5,.int 20]);generalize upd H2 l3 (.lst [.int 5,.int 20])=H3 at s3 q3 ⊢
  refine⟨_,rfl,l3,_,_,_,rfl,rfl,SqL.of q3,hmost,_,rfl,(·∉A2.fp),l2,t,lc,ln,ds2,d2,P2,cell,cs,nu,most,mx,rfl,s3 _ _ hl2,F.pg.same s3,PO.at_.same s3,hmo,hmx1,hlt,(by rw[F.re.b.ppl];have:=F.so.few;omega),fun t' D H4 hD gD s4 ft'=>?_⟩
  have s34:=s3.trans s4;have SA4:=SA.same s34;have F4:=F.same s34;have SC4:=SC.fr (.of s34);have PO4:=PO.fr (.of s34);have hD4:=zgq (SA.same s3) hD;have g:=zgp F.re.b F.so gD hlt hmo ⟨nfew.2,PO.at_.nrng⟩ PO.at_.crng F.back;have hkn:∀ k gr c,D=.enrol k gr c->k∈nu:=fun k gr c z=>by rw[z] at gD;exact gD.2.1
  walk_at "if";obtain⟨gg1,gg2⟩:=PB.gg;refine⟨_,rfl,_,rfl,l2,_,_,_,rfl,rfl,SqL.of (s34 _ _ hl2),hat,d2,_,rfl,DGet.k (k:=.inr "goes") (s34 _ _ a1),?_⟩;walk_at "if";obtain⟨w1,w2,w3,w4,w5,w6,w7,w8,w9,w10⟩:=F4.pre g (by omega)
  refine⟨_,rfl,_,rfl,A2,S2,t',D,(by rw[<- eAp];rfl),SA4,hD4,g,w1,w2,w3,w4,w5,w6,w7,w8,w9,w10,fun v' A3 S3 H5 af SA5 nx fr told=>?_⟩
  have f5:=FrN.next SA4 nx fr;obtain⟨c1,c2,c3,c4,c5⟩:=F4.pre2 g (by omega)
  walk_at "if";refine⟨_,rfl,_,rfl,(·∉A3.fp),l2,t',ds2,d2,P2,D,rfl,(f5.k _ _ (s34 _ _ hl2) ho2).1,F4.pg.fr f5,hD4.fr f5,c1,c2,c3,c4,c5,fun l6 d6 H6 hl6 pg6 s6 fl6 fd6=>?_⟩
  obtain⟨ds7,d7,P7,ek,Pe,eP,eR⟩:=turn F4 SA4 af SA5 nx fr g hkn pg6 s6 fd6;have SA6:=SA5.same s6;have o6:=SA5.newOk _ fl6;have SC6:=(SC4.fr f5).fr (.of s6);have PO6:=(PO4.fr f5).fr (.of s6);have eAp6:=f5.p.trans eAp;rw[ek] at hl6
  have hat7:atI ((ds7++[d7]).map V.ref) (-1)=some (V.ref d7):=by rw[zs1];exact L2.atI_last _ _
  walk_at "if";refine⟨_,rfl,_,rfl,l6,_,_,_,rfl,rfl,SqL.of hl6,hat7,?_⟩;walk_at "if";obtain⟨lp7,lo7,lv7,dv7,li7,lg7,lm7,y1,y2,y3⟩:=id Pe.pg.split;have hls:=y2.li.some;have hD6:=(hD4.fr f5).same s6;obtain⟨rw6,hw6⟩:=hD6.word;have hw0:atI (V.str (Il D) :: rw6) 0=some (V.str (Il D)):=Z4 (j:=0) rfl;have hg6:H6 lg=some (.lst P2.gv):=s6 _ _ (f5.k _ _ (s34 _ _ gg1) gg2).1;have og6:lg∉A3.fp:=(f5.k _ _ (s34 _ _ gg1) gg2).2;obtain⟨vts7,z1,z2,z3⟩:=y2.vv;have hvl7:(vts7.length:Int)+1=atV S3:=by rw[z2.length];exact Pe.rb.at Pe.so
  have hpl7:P7.ppl.length<=100:=by rw[Pe.rb.ppl];have:=Pe.so.few;omega
  refine⟨_,rfl,d7,_,rfl,DGet.k (k:=.inr "over") y1,lv7,vts7,rfl,.inl (SqL.of z1),_,_,rfl,rfl,?_⟩;walk_at "if";rw[hvl7];have eN:30+i+1=30+(i+1):=by omega
  rw[eN] at Pe
  have re2:=F4.re;have so2:=F4.so;clear SA F SA4 F4 SC4 PO4 SC PO hD4 hD;have fin:∀ {Hz:Hp} {Pz:Pg},Zy (ca a) Hz A3 S3->Ug true (·∉A3.fp) Hz nu (30+(i+1)) ds7 d7 Pz S3->Hz l6=some (.lst ((ds7++[d7]).map V.ref))->T7 K A3 Hz b (ns.map V.int)->Ob A3 Hz t lc ln cs nu->∀ H',Same Hz H'->∃ A2 l2 ds2 d2 P2 S2 v6 v7 v8 v9 v10 v11,([some (.ref b),some (.int bg),some (.int mx),some (.ref A1.p),some (.ref t),some (.ref l6),some (.int (6+i:Nat)),some (.ref t'),some (.ref lg),some v',some (.ref d7),some (.int (atV S3))]:L2.St)=[some (.ref b),some (.int bg),some (.int mx),some (.ref A1.p),some (.ref t),some (.ref l2),v6,v7,v8,v9,v10,v11]/\Zy (ca a) H' A2 S2/\H' l2=some (.lst ((ds2++[d2]).map V.ref))/\l2∉A2.fp/\Ug true (·∉A2.fp) H' nu (30+(i+1)) ds2 d2 P2 S2/\T7 K A2 H' b (ns.map V.int)/\Ob A2 H' t lc ln cs nu/\A2.p=A1.p:=fun x1 x2 x3 x4 x5 H' s'=>⟨A3,l6,ds7,d7,_,S3,_,_,_,_,_,_,rfl,x1.same s',s' _ _ x3,o6,x2.same s',x4.fr (.of s'),x5.fr (.of s'),eAp6⟩
  by_cases hdr:∃ m0,D=.draw m0
  ·obtain⟨m0,rfl⟩:=hdr
   have hP:=eP nofun;have hlis:P7.lis=some m0:=by rw[hP];rfl
   obtain⟨sh,hcur,hshm⟩:=Pe.rb.drawn hlis;obtain⟨lt,hv,hlt⟩:=zc5 af hcur;subst hv;have hsg:sh.gaps=[]:=by
    cases af with
    | draw hl F T =>
      have hc:some (⟨m0,mayS S2 m0,_,[]⟩:Z3)=some sh:=hcur;cases hc;rfl
   obtain⟨k1,k2,k3,k4,k5⟩:=Pe.so.cur sh hcur;have hml:sh.may.length=sh.ms.length:=by rw[k4];unfold mayS;rw[zst]
   have hlt6:=s6 _ _ hlt;have hna:¬ ∃ i n,R6.draw m0=.away i n:=fun ⟨_,_,z⟩=>nomatch z
   refine Y7 ?_;refine⟨_,rfl,t',_,_,_,rfl,rfl,SqT.of hw6,hw0,rfl,_,rfl,?_⟩;rw[Ei];refine iteT (Y7 ?_);refine⟨_,rfl,(·∉A3.fp),d7,P7,m0,rfl,Pe.pg,Pe.rb.ovok Pe.so,hlis,by rw[<- hshm];omega,hpl7,fun lw ls H7 hlw ilw s7 flw _=>?_⟩
   rw[Pe.rb.may Pe.so,<- hshm,<- k4] at ilw
   refine⟨_,rfl,lw,lt,ls,sh.may,sh.gv,rfl,hlw,ilw,by omega,s7 _ _ hlt6,k2,fun H8 s8=>⟨true,rfl,iteF (Zu ?_)⟩⟩
   dsimp only;have s68:=s7.trans s8;refine⟨_,rfl,lt,_,rfl,.inl (SqL.of (s68 _ _ hlt6)),fun lg' flg=>?_⟩
   have s9:=s68.trans (Zf (o:=.lst sh.gv) flg);have q9:=Zc (H:=H8) (a:=lg') (o:=.lst sh.gv);have o9:=(SA6.same s68).newOk _ flg;generalize upd H8 lg' (.lst sh.gv)=H9 at s9 q9 ⊢
   obtain⟨kvs,b1,b2,Pe10⟩:=(Pe.same s9).setGoes q9 o9;refine⟨_,rfl,d7,_,rfl,DPut.k (k:=.inr "goes") b1 b2,?_⟩;have SA10:=(SA6.same s9).dictW (kvs':=putK kvs (.inr "goes") (.ref lg')) b1 y3;have kl:=Xf.dict b1 (kvs':=putK kvs (.inr "goes") (.ref lg'));have l10:=kl.1 _ _ (s9 _ _ hl6);have SC10:=(SC6.fr (.of s9)).dictW (kvs':=putK kvs (.inr "goes") (.ref lg')) b1;have PO10:=(PO6.fr (.of s9)).dictW (kvs':=putK kvs (.inr "goes") (.ref lg')) b1;have w10':=kl.2 _ _ (s9 _ _ hw6);generalize upd H9 d7 (.dK (putK kvs (.inr "goes") (.ref lg')))=H10 at Pe10 SA10 kl l10 SC10 PO10 w10' ⊢
   have F10:=Pe10.full (fun s hs=>by rw[hcur] at hs;cases hs;rfl) (fun _=>by
    show P7.mv=_;rw[hP,Vg hcur,hsg];show P2.mv=[];rw[re2.mv rfl,Ue g.2.1])
   dsimp only;refine Y7 ?_;refine⟨_,rfl,t',_,_,_,rfl,rfl,SqT.of w10',hw0,rfl,_,rfl,?_⟩;rw[Jh hna];refine iteF (iteF (Zu ?_));dsimp only;refine Y7 ?_;refine⟨_,rfl,t',_,_,_,rfl,rfl,SqT.of w10',hw0,rfl,_,rfl,?_⟩;rw[Jh hna];refine iteF (iteF (Zu ?_));dsimp only;exact zbo SA10 eAp6 F10 (by omega) (fin SA10 F10 l10 SC10 PO10)
  refine Y7 ?_;refine⟨_,rfl,t',_,_,_,rfl,rfl,SqT.of hw6,hw0,rfl,_,rfl,?_⟩;rw[zfe hdr];refine iteF (Zu ?_);dsimp only;by_cases haw:∃ i0 n0,D=.away i0 n0
  ·obtain⟨i0,n0,rfl⟩:=haw
   have hP:=eP nofun;have hlis:P7.lis=P2.lis:=by rw[hP];rfl
   have hgv7:P7.gv=P2.gv:=by rw[hP];rfl
   have hmv7:P7.mv=P2.mv:=by rw[hP];rfl
   have hov7:P7.over=P2.over:=by rw[hP];rfl
   have hat7:(P7.over.length:Int)+1=atV S3:=Pe.rb.at Pe.so
   have ht6:H6 t'=some (.tup [.str "away",.int i0,.int n0]):=hD6;have hab:(∃ lt,v'=.ref lt/\H6 lt=some (.lst [])/\(P7.lis=none\/i0≠(P7.over.length:Int)+1\/X1 P2.gv n0=none)/\(∀ s,S3.cur=some s->P7.gv=s.gv)/\P7.mv=Kk S3) \/
     ∃ lt us s0 p e st w',v'=.ref lt/\H6 lt=some (.lst us)/\Z9 H6 us (st.map We)/\S2.cur=some s0/\i0=atV S3/\X1 s0.gv n0=some p/\Yt (mayS S3 s0.ms) (s0.gv.set p .non) p st e w'/\S3.cur=some ⟨s0.ms,mayS S3 s0.ms,Yf st (s0.gv.set p .non),s0.gaps++[(n0,st)]⟩/\Yn (mayS S3 s0.ms) (s0.gv.set p .non)/\p<(mayS S3 s0.ms).length:=by
    cases af with
    | @awayN _ _ l hc hl =>
      refine .inl ⟨l,rfl,s6 _ _ hl,?_,fun s hs=>by rw[hgv7];exact re2.gv s hs,by rw[hmv7,re2.mv rfl];rfl⟩
      rcases hc with z|z
      ·refine .inl ?_
       rw[hlis,re2.b.lis,z];rfl
      ·refine .inr (.inl ?_)
       rw[hat7];show i0≠atV S2;omega
    | @awayF _ s l hc hp hl =>
      refine .inl ⟨l,rfl,s6 _ _ hl,.inr (.inr (by rw[re2.gv s hc];exact hp)),fun s' hs=>?_,by rw[hmv7,re2.mv rfl,Vg hc];rfl⟩
      have hs:some { s with may:=mayS (Xj S2 (atV S2) n0) s.ms }=some s':=hs
      cases hs;rw[hgv7];exact re2.gv s hc
    | @awayC _ s p e l us st w0 hc hp hl tl CR =>
      obtain⟨x1,x2,x3,x4,x5⟩:=so2.cur s hc;have hx:=Rp hp;have F0:Yn (mayS (Xj S2 (atV S2) n0) s.ms) (s.gv.set p .non):=by rw[Vu,<- x4];exact Vs x2 hx
      have hpl:p<(mayS (Xj S2 (atV S2) n0) s.ms).length:=by
       rw[Vu,<- x4];unfold G.without;rw[zst,<- x2.len];exact(zsv.mp hx).1
      exact .inr ⟨l,us,s,p,e,st,w0,rfl,s6 _ _ hl,tl.same s6,hc,rfl,hp,CR,rfl,F0,hpl⟩
   have hms7:∀ ms,P7.lis=some ms->ms.length<=100:=fun ms hm=>by
    obtain⟨sh,hc,e⟩:=Pe.rb.drawn hm;have:=(Pe.so.cur sh hc).1;rw[<- e];omega
   have hog:P7.lis≠none->(∀ x∈P2.gv,oneV x)/\P2.gv.length<=100:=fun hne=>by
    rw[hlis,re2.b.lis] at hne
    cases hc:S2.cur with
    | none=>rw[hc] at hne;exact absurd rfl hne
    | some s0 =>
      obtain⟨x1,x2,x3,x4,x5⟩:=so2.cur s0 hc;have hml:s0.may.length=s0.ms.length:=by rw[x4];unfold mayS;rw[zst]
      have:=x2.len;rw[re2.gv s0 hc];exact⟨x2.one,by omega⟩
   refine Y7 ?_;refine⟨_,rfl,t',_,_,_,rfl,rfl,SqT.of hw6,hw0,rfl,_,rfl,?_⟩;rw[Pn];refine iteT ?_;rcases hab with ⟨lt,rfl,hlt,hcd,hgA,hmA⟩|⟨lt,us,s0,p,e,st,w0,rfl,hlt,tl,hc0,hi0,hp0,CR,hc3,FP,hpl⟩
   ·refine⟨_,rfl,_,rfl,_,rfl,_,rfl,(·∉A3.fp),d7,lg,t',lt,P7,P2.gv,[],i0,n0,rfl,Pe.pg,Pe.rb.ovok Pe.so,hpl7,hms7,hg6,hog,ht6,hlt,.inl ⟨hcd,rfl⟩,fun H7 s7=>⟨true,rfl,iteF (Zu ?_)⟩⟩
    dsimp only;refine Y7 ?_;refine⟨_,rfl,t',_,_,_,rfl,rfl,SqT.of (s7 _ _ hw6),hw0,rfl,_,rfl,?_⟩;rw[Pn];refine iteT ?_;refine⟨_,rfl,ztm _,fun l9 f9=>?_⟩
    have s9:=s7.trans (Zf (o:=.lst []) f9);refine⟨.lst [],.lst [],.lst (SqL.of (s9 _ _ hlt)) .nil,.lst (SqL.of Zc) .nil,T4,T4,false,by rw[if_pos rfl,Nr];rfl,iteF (Zu ?_)⟩
    dsimp only;generalize upd H7 l9 (.lst [])=H9 at s9 ⊢
    have F9:=(Pe.same s9).full hgA (fun _=>hmA)
    exact zbo (SA6.same s9) eAp6 F9 (by omega) (fin (SA6.same s9) F9 (s9 _ _ hl6) (SC6.fr (.of s9)) (PO6.fr (.of s9)))
   ·have hms0:P7.lis=some s0.ms:=by rw[hlis,re2.b.lis,hc0];rfl
    have em:=Pe.rb.may Pe.so s0.ms;have hg2:=re2.gv s0 hc0;have hs20:s0.ms.length<=20:=(so2.cur s0 hc0).1;have MO:R4 (mayS S3 s0.ms) (S3.ppl.map (·.1)):=Pe.so.pok.may Pe.so.nd hs20
    have hml:(mayS S3 s0.ms).length=s0.ms.length:=by unfold mayS;rw[zst]
    obtain⟨hst1,hst2⟩:=zc6 CR;have hstl:st.length<=100:=by have:=CR.len FP hpl;omega
    have hgl2:P2.gv.length=s0.ms.length:=by
     have:=FP.len;rw[zuk] at this
     rw[hg2];omega
    refine⟨_,rfl,_,rfl,_,rfl,_,rfl,(·∉A3.fp),d7,lg,t',lt,P7,P2.gv,us,i0,n0,rfl,Pe.pg,Pe.rb.ovok Pe.so,hpl7,hms7,hg6,hog,ht6,hlt,.inr ⟨s0.ms,_,p,e,st,w0,hms0,by rw[hat7];exact hi0,by rw[hg2];exact hp0,by rw[em];exact MO,by rw[em,hg2];exact FP,by rw[em];exact hpl,tl,by rw[em,hg2];exact CR⟩,fun H7 s7=>⟨true,rfl,iteF (Zu ?_)⟩⟩
    dsimp only;refine Y7 ?_;refine⟨_,rfl,t',_,_,_,rfl,rfl,SqT.of (s7 _ _ hw6),hw0,rfl,_,rfl,?_⟩;rw[Pn];refine iteT ?_;refine⟨_,rfl,ztm _,fun l9 f9=>?_⟩
    have s9:=s7.trans (Zf (o:=.lst []) f9);refine⟨.lst (st.map stD),.lst [],.lst (SqL.of (s9 _ _ hlt)) (Bw (tl.same s9)),.lst (SqL.of Zc) .nil,zfd st,T4,true,?_,iteT ?_⟩
    ·rw[if_pos rfl,Jf]
     cases st with
     | nil=>exact absurd rfl hst2
     | cons x r=>rfl
    generalize upd H7 l9 (.lst [])=H9 at s9 ⊢
    refine⟨_,rfl,_,rfl,lg,lt,P2.gv,us,st,rfl,s9 _ _ hg6,s9 _ _ hlt,tl.same s9,fun x hx=>by rw[hgl2,<- hml];exact CR.ch.lt FP hpl x hx,(hog (by rw[hms0];exact nofun)).1,by omega,hstl,fun l10 H10 hl10 s10 fl10=>?_⟩
    have s610:=s9.trans s10;have o10:=(SA6.same s9).newOk _ fl10;obtain⟨kvs,b1,b2,Pe11⟩:=(Pe.same s610).setGoes hl10 o10;refine⟨_,rfl,d7,_,rfl,DPut.k (k:=.inr "goes") b1 b2,?_⟩;have SA11:=(SA6.same s610).dictW (kvs':=putK kvs (.inr "goes") (.ref l10)) b1 y3;have kl:=Xf.dict b1 (kvs':=putK kvs (.inr "goes") (.ref l10));have l11:=kl.1 _ _ (s610 _ _ hl6);have lt11:=kl.1 _ _ (s610 _ _ hlt);have tl11:=tl.mono fun x ys z=>kl.2 _ _ (s610 _ _ z)
    have SC11:=(SC6.fr (.of s610)).dictW (kvs':=putK kvs (.inr "goes") (.ref l10)) b1;have PO11:=(PO6.fr (.of s610)).dictW (kvs':=putK kvs (.inr "goes") (.ref l10)) b1;have t11:=kl.2 _ _ (s610 _ _ ht6);generalize upd H10 d7 (.dK (putK kvs (.inr "goes") (.ref l10)))=H11 at Pe11 SA11 kl l11 lt11 tl11 SC11 PO11 t11 ⊢
    dsimp only;obtain⟨lp8,lo8,lv8,dv8,li8,lg8,lm8,y18,y28,y38⟩:=id Pe11.pg.split;obtain⟨mts,mm1,mm2,mm3⟩:=y28.mm;have hmts:=mm2.length;refine⟨_,rfl,d7,_,rfl,DGet.k (k:=.inr "moves") y18,_,rfl,t',_,_,_,rfl,rfl,SqT.of t11,rfl,_,rfl,lt,us,rfl,.inl (SqL.of lt11),fun l12 f12=>⟨sz2,fun t13 f13=>⟨(by show 1<=sizeLine;rw[sizeLine_eq];decide),fun l14 f14=>?_⟩⟩⟩
    have s12:=Zf (o:=.lst us) f12;have q12:=Zc (H:=H11) (a:=l12) (o:=.lst us);have o12:=SA11.newOk _ f12;generalize upd H11 l12 (.lst us)=H12 at s12 q12 f13 f14 ⊢
    have s13:=Zf (o:=.tup [.int n0,.ref l12]) f13;have q13:=Zc (H:=H12) (a:=t13) (o:=.tup [.int n0,.ref l12]);generalize upd H12 t13 (.tup [.int n0,.ref l12])=H13 at s13 q13 f14 ⊢
    have s14:=Zf (o:=.lst [.ref t13]) f14;have q14:=Zc (H:=H13) (a:=l14) (o:=.lst [.ref t13]);generalize upd H13 l14 (.lst [.ref t13])=H14 at s14 q14 ⊢
    have s1114:=s12.trans (s13.trans s14);have hmvn:P7.mv.length<=200:=by
     rw[hmv7,re2.mv rfl,Vg hc0];have:=(so2.gp s0 (.inl hc0)).1;omega
    have hmts':mts.length<=200:=ztb (Nat.le_of_eq hmts) hmvn;refine⟨lm8,l14,mts,_,rfl,rfl,s1114 _ _ mm1,q14,szN (by show mts.length+1<=1000;omega),fun l15 f15=>?_⟩
    have s15:=Zf (o:=.lst (mts++[.ref t13])) f15;have q15:=Zc (H:=H14) (a:=l15) (o:=.lst (mts++[.ref t13]));have o15:=(SA11.same s1114).newOk _ f15;generalize upd H14 l15 (.lst (mts++[.ref t13]))=H15 at s15 q15 ⊢
    have s1115:=s1114.trans s15;have s1315:=s14.trans s15;have s1215:=s13.trans s1315;have gl15:X4 (·∉A3.fp) H15 (mts++[.ref t13]) (P7.mv++[(n0,st)]):=X4.snoc (s1315 _ _ q13) (s1215 _ _ q12) (tl11.same s1115) o12 (mm2.keepL (.of s1115))
    obtain⟨kvs2,b3,b4,Pe16⟩:=(Pe11.same s1115).setMoves q15 gl15 o15;refine⟨_,rfl,d7,_,rfl,DPut.k (k:=.inr "moves") b3 b4,?_⟩;have SA16:=(SA11.same s1115).dictW (kvs':=putK kvs2 (.inr "moves") (.ref l15)) b3 y3;have l16:=(Xf.dict b3 (kvs':=putK kvs2 (.inr "moves") (.ref l15))).1 _ _ (s1115 _ _ l11);have SC16:=(SC11.fr (.of s1115)).dictW (kvs':=putK kvs2 (.inr "moves") (.ref l15)) b3;have PO16:=(PO11.fr (.of s1115)).dictW (kvs':=putK kvs2 (.inr "moves") (.ref l15)) b3;generalize upd H15 d7 (.dK (putK kvs2 (.inr "moves") (.ref l15)))=H16 at Pe16 SA16 l16 SC16 PO16 ⊢
    have F16:=Pe16.full (fun s hs=>by
     rw[hc3] at hs;cases hs
     show Yf st P2.gv=_;rw[hg2,<- hst1]) (fun _=>by
     show P7.mv++[(n0,st)]=_;rw[Vg hc3,hmv7,re2.mv rfl,Vg hc0])
    dsimp only;exact zbo SA16 eAp6 F16 (by omega) (fin SA16 F16 l16 SC16 PO16)
  ·have F6:Ug true (·∉A3.fp) H6 nu (30+(i+1)) ds7 d7 P7 S3:=by
    cases af with
    | enrol k gr c =>
      have hcn:S2.cur=none:=g.2.1;refine Pe.full (fun s hs=>?_) (fun _=>?_)
      ·have hs:S2.cur=some s:=hs
       rw[hcn] at hs;cases hs
      ·rw[eP nofun]
       show P2.mv=_;rw[re2.mv rfl,Ue hcn];exact(Ue hcn).symm
    | close h=>exact Pe.full (eR (.inr rfl)).1 (eR (.inr rfl)).2
    | back h ht hs=>exact Pe.full (eR (.inl rfl)).1 (eR (.inl rfl)).2
    | awayN h hl=>exact absurd ⟨_,_,rfl⟩ haw
    | awayF h hp hl=>exact absurd ⟨_,_,rfl⟩ haw
    | awayC h hp hl tl CR=>exact absurd ⟨_,_,rfl⟩ haw
    | draw hl F T=>exact absurd ⟨_,rfl⟩ hdr
   refine Y7 ?_;refine⟨_,rfl,t',_,_,_,rfl,rfl,SqT.of hw6,hw0,rfl,_,rfl,?_⟩;rw[Jh haw];refine iteF (iteF (Zu ?_));dsimp only;refine Y7 ?_;refine⟨_,rfl,t',_,_,_,rfl,rfl,SqT.of hw6,hw0,rfl,_,rfl,?_⟩;rw[Jh haw];refine iteF (iteF (Zu ?_));dsimp only;exact zbo SA6 eAp6 F6 (by omega) (fin SA6 F6 hl6 SC6 PO6)
 ·rintro i σ H1 ⟨A2,l2,ds2,d2,P2,S2,v6,v7,v8,v9,v10,v11,rfl,SA,hl2,ho2,F,SC,PO,eAp⟩
  obtain⟨lp,lo,lv,dv,li,lg,lm,a1,PB,okd⟩:=id F.pg.split;have hat:atI ((ds2++[d2]).map V.ref) (-1)=some (V.ref d2):=by rw[zs1];exact L2.atI_last _ _
  obtain⟨vts,u1,u2,u3⟩:=PB.vv;obtain⟨⟨dx2,vv2,ob2,_⟩,_⟩:=id SA;rw[eAp] at ob2
  refine⟨_,rfl,A1.p,dx2,_,rfl,ob2,Yi (by decide +kernel),A2,S2,(by rw[eAp];rfl),SA,?_⟩
  refine⟨_,rfl,_,rfl,l2,_,_,_,rfl,rfl,SqL.of hl2,hat,d2,_,rfl,DGet.k (k:=.inr "over") a1,lv,vts,rfl,.inl (SqL.of u1),_,_,rfl,rfl,?_⟩;have hvl:(vts.length:Int)+1=atV S2:=by rw[u2.length];exact F.re.b.at F.so
  dsimp only;rw[hvl];exact⟨_,rfl,.inr ⟨_,rfl⟩,h H1⟩
end
end K33

namespace K33
open PySem PySem.Spec PyProof.Rows L2 G PySem.W
theorem zim{l:OpenLaw}{w:World}{K:Frag}{h:Heap}{mg:Str->Option Value}{fa zoe zk7 zlo zla zlf zlg zmo zmn zlu zmg zlz zlt znr zmu zk4 zlp zkq zkr zks zkn f0 f1 f2 f3 f4 f5 f6 f7 f8 f9 f10 f11 f12 f13 f14 f15 f16 f17 f18 f19 f20 f21 f22 f23 f24 f25 f26 f27 f28 f29 f30 f31 f32 f33 f34 f35 f36 f37 f38 f39 f40 f41 f42 f43 f44 f45 f46 f47 f48 f49 f50 f51 f52 f53 f54 f55 f56 f57 f58 f59 f60 f61 f62 f63 f64 f65 f66 f67 f68 f69 f70 f71 f72 f73 f74 f75 f76 f77 f78 f79 f80 f81 f82 f83 f84 f85 f86:Addr}{tk0 tk1 tk2 tk3 tk4 tk5 tk6 tk7:Tok}{u0 n0 u1 n1 u2 n2 u3 n3 u4 n4 u5 n5 u6 n6 u7 n7 u8 n8 u9 n9 u10 n10 u11 n11 u12 n12 u13 n13 u14 n14 u15 n15 u16 n16 u17 n17 u18 n18 u19 n19 u20 n20 u21 n21 u22 n22 u23 n23 u24 n24 u25 n25 u26 n26 u27 n27 u28 n28 u29 n29 u30 n30 u31 n31 u32 n32 u33 n33 u34 n34 u35 n35 u36 n36 u37 n37 u38 n38 u39 n39 u40 n40 u41 n41 u42 n42 u43 n43 u44 n44 u45 n45 u46 n46 u47 n47 u48 n48 u49 n49 u50 n50 u51 n51 u52 n52 u53 n53 u54 n54 u55 n55 u56 n56 u57 n57 u58 n58 u59 n59 u60 n60 u61 n61 u62 n62 u63 n63 u64 n64 u65 n65 u66 n66 u67 n67 u68 n68 u69 n69 u70 n70 u71 n71 u72 n72 u73 n73 u74 n74 u75 n75 u76 n76 u77 n77 u78 n78 u79 n79 u80 n80 u81 n81 u82 n82 u83 n83 u84 n84 u85 n85 u86 n86:Option Addr}{z0 z1 z2 z3 z4 z5 z6 z7 z8 z9 z10 z11 z12 z13 z14 z15 z16 z17 z18 z19 z20 z21 z22 z23 z24 z25 z26 z27 z28 z29 z30 z31 z32 z33 z34 z35 z36 z37 z38 z39 z40 z41 z42 z43 z44 z45 z46 z47 z48 z49 z50 z51 z52 z53 z54 z55 z56 z57 z58 z59 z60 z61 z62 z63 z64 z65 z66 z67 z68 z69 z70 z71 z72 z73 z74 z75 z76 z77 z78 z79 z80 z81 z82 z83 z84 z85 z86:Array (Option Value)}{o0 v0 d0 m0 c0 t0 o1 v1 d1 m1 c1 t1 o2 v2 d2 m2 c2 t2 o3 v3 d3 m3 c3 t3 o4 v4 d4 m4 c4 t4 o5 v5 d5 m5 c5 t5 o6 v6 d6 m6 c6 t6 o7 v7 d7 m7 c7 t7 o8 v8 d8 m8 c8 t8 o9 v9 d9 m9 c9 t9 o10 v10 d10 m10 c10 t10 o11 v11 d11 m11 c11 t11 o12 v12 d12 m12 c12 t12 o13 v13 d13 m13 c13 t13 o14 v14 d14 m14 c14 t14 o15 v15 d15 m15 c15 t15 o16 v16 d16 m16 c16 t16 o17 v17 d17 m17 c17 t17 o18 v18 d18 m18 c18 t18 o19 v19 d19 m19 c19 t19 o20 v20 d20 m20 c20 t20 o21 v21 d21 m21 c21 t21 o22 v22 d22 m22 c22 t22 o23 v23 d23 m23 c23 t23 o24 v24 d24 m24 c24 t24 o25 v25 d25 m25 c25 t25 o26 v26 d26 m26 c26 t26 o27 v27 d27 m27 c27 t27 o28 v28 d28 m28 c28 t28 o29 v29 d29 m29 c29 t29 o30 v30 d30 m30 c30 t30 o31 v31 d31 m31 c31 t31 o32 v32 d32 m32 c32 t32 o33 v33 d33 m33 c33 t33 o34 v34 d34 m34 c34 t34 o35 v35 d35 m35 c35 t35 o36 v36 d36 m36 c36 t36 o37 v37 d37 m37 c37 t37 o38 v38 d38 m38 c38 t38 o39 v39 d39 m39 c39 t39 o40 v40 d40 m40 c40 t40 o41 v41 d41 m41 c41 t41 o42 v42 d42 m42 c42 t42 o43 v43 d43 m43 c43 t43 o44 v44 d44 m44 c44 t44 o45 v45 d45 m45 c45 t45 o46 v46 d46 m46 c46 t46 o47 v47 d47 m47 c47 t47 o48 v48 d48 m48 c48 t48 o49 v49 d49 m49 c49 t49 o50 v50 d50 m50 c50 t50 o51 v51 d51 m51 c51 t51 o52 v52 d52 m52 c52 t52 o53 v53 d53 m53 c53 t53 o54 v54 d54 m54 c54 t54 o55 v55 d55 m55 c55 t55 o56 v56 d56 m56 c56 t56 o57 v57 d57 m57 c57 t57 o58 v58 d58 m58 c58 t58 o59 v59 d59 m59 c59 t59 o60 v60 d60 m60 c60 t60 o61 v61 d61 m61 c61 t61 o62 v62 d62 m62 c62 t62 o63 v63 d63 m63 c63 t63 o64 v64 d64 m64 c64 t64 o65 v65 d65 m65 c65 t65 o66 v66 d66 m66 c66 t66 o67 v67 d67 m67 c67 t67 o68 v68 d68 m68 c68 t68 o69 v69 d69 m69 c69 t69 o70 v70 d70 m70 c70 t70 o71 v71 d71 m71 c71 t71 o72 v72 d72 m72 c72 t72 o73 v73 d73 m73 c73 t73 o74 v74 d74 m74 c74 t74 o75 v75 d75 m75 c75 t75 o76 v76 d76 m76 c76 t76 o77 v77 d77 m77 c77 t77 o78 v78 d78 m78 c78 t78 o79 v79 d79 m79 c79 t79 o80 v80 d80 m80 c80 t80 o81 v81 d81 m81 c81 t81 o82 v82 d82 m82 c82 t82 o83 v83 d83 m83 c83 t83 o84 v84 d84 m84 c84 t84 o85 v85 d85 m85 c85 t85 o86 v86 d86 m86 c86 t86:Value}(X:K.In h)(G:h.Ns mainGlobals mg)(hfa:mg "law"=some (.ref fa))
  (zol:NsB K "BookError" zoe)
  (zna:NsB K "OutOfRange" zk7)
  (zmi:NsB K "KnownReferee" zlo)
  (zly:NsB K "TooManyReferees" zla)
  (zl3:NsB K "UnknownReferee" zlf)
  (zl5:NsB K "TooManyMatches" zlg)
  (zog:NsB K "SameClub" zmo)
  (znx:NsB K "NoSuchMatch" zmn)
  (zmz:NsB K "NoSuchRound" zlu)
  (znv:NsB K "RoundOver" zmg)
  (znb:NsB K "SeasonOver" zlz)
  (zmy:NsB K "AwayAlready" zlt)
  (zos:NsB K "DrawnUp" znr)
  (zoj:NsB K "NotDrawn" zmu)
  (zlq:NsB K "NothingToTakeBack" zk4)
  (zmj:NsB K "TooManyDeeds" zlp)
  (zo2:NsB K "Ledger" zkq)
  (zo3:NsB K "Roster" zkr)
  (zpx:NsB K "Sheet" zks)
  (zo1:NsB K "Season" zkn)
  (zpj:plainGet K zkq Str.empty=true)
  (zpu:hasDictIn K zkq=true)
  (zpd:plainOver K zkq=true)
  (zpp:findIn K (.ref zkq) "__setattr__"=some (some (.builtin "object.__setattr__")))
  (zpg:makesIn K zkq=true)
  (zpe:keepIn K (.ref zkq)=true)
  (zm1:findIn K (.ref zkq) "rounds"=some none)
  (zl2:findIn K (.ref zkq) "meetings"=some none)
  (zps:plainGet K zkr Str.empty=true)
  (zpk:hasDictIn K zkr=true)
  (zpi:plainOver K zkr=true)
  (zpb:findIn K (.ref zkr) "__setattr__"=some (some (.builtin "object.__setattr__")))
  (zpr:makesIn K zkr=true)
  (zpv:keepIn K (.ref zkr)=true)
  (zlm:findIn K (.ref zkr) "entries"=some none)
  (zpy:plainGet K zks Str.empty=true)
  (zp5:hasDictIn K zks=true)
  (zqa:plainOver K zks=true)
  (zp4:findIn K (.ref zks) "__setattr__"=some (some (.builtin "object.__setattr__")))
  (zp7:makesIn K zks=true)
  (zp1:keepIn K (.ref zks)=true)
  (zmm:findIn K (.ref zks) "listed"=some none)
  (zo6:findIn K (.ref zks) "lists"=some none)
  (zmx:findIn K (.ref zks) "given"=some none)
  (zon:findIn K (.ref zks) "gaps"=some none)
  (zo8:plainGet K zkn Str.empty=true)
  (zo9:hasDictIn K zkn=true)
  (zo7:plainOver K zkn=true)
  (zph:findIn K (.ref zkn) "__setattr__"=some (some (.builtin "object.__setattr__")))
  (zpt:makesIn K zkn=true)
  (zpf:keepIn K (.ref zkn)=true)
  (znm:findIn K (.ref zkn) "length"=some none)
  (zpm:findIn K (.ref zkn) "rest"=some none)
  (zlw:findIn K (.ref zkn) "roster"=some none)
  (zl1:findIn K (.ref zkn) "ledger"=some none)
  (zml:findIn K (.ref zkn) "absent"=some none)
  (znp:findIn K (.ref zkn) "sheets"=some none)
  (zlc:findIn K (.ref zkn) "sheet"=some none)
  (zln:findIn K (.ref zkn) "standing"=some none)
  (zok:XcB K zk7)
  (zmv:XcB K zlg)
  (zo0:XcB K zmo)
  (znt:XcB K zlo)
  (zmk:XcB K zla)
  (zmr:XcB K zlf)
  (zoh:XcB K zlz)
  (zpo:XcB K znr)
  (zn2:XcB K zlu)
  (znj:XcB K zlp)
  (zou:XcB K zmu)
  (zop:XcB K zmg)
  (zn7:XcB K zlt)
  (zma:XcB K zk4)
  (zpw:NzB K "max")
  (zku:NzB K "len")
  (znu:NzB K "tuple")
  (zlk:NzB K "list")
  (zm2:NzB K "enumerate")
  (zlj:NzB K "range")
  (zqj:NzB K "zip")
  (zky:NzB K "isinstance")
  (zp2:NzB K "int")
  (zqc:NzB K "bool")
  (zqb:NzB K "min")
  (zp3:NzB K "dict")
  (zmc:nsIn K mainGlobals "MOST_NUMBER"=some (some (.int 999 tk0)))
  (zl8:nsIn K mainGlobals "MOST_GRADE"=some (some (.int 9 tk1)))
  (zl0:nsIn K mainGlobals "MOST_CLUB"=some (some (.int 99 tk2)))
  (zll:nsIn K mainGlobals "MOST_REFEREES"=some (some (.int 30 tk3)))
  (zlr:nsIn K mainGlobals "MOST_MATCHES"=some (some (.int 20 tk4)))
  (zmb:nsIn K mainGlobals "MOST_ROUNDS"=some (some (.int 60 tk5)))
  (zm0:nsIn K mainGlobals "MOST_REST"=some (some (.int 10 tk6)))
  (zl7:nsIn K mainGlobals "MOST_DEEDS"=some (some (.int 100 tk7)))
  (l0:LN K "met_lately" "met_lately" Rq f0 o0 v0 d0 m0 c0 t0 u0 n0 z0)
  (l1:LN K "reasons" "reasons" M9 f1 o1 v1 d1 m1 c1 t1 u1 n1 z1)
  (l2:LN K "takers" "takers" Iv f2 o2 v2 d2 m2 c2 t2 u2 n2 z2)
  (l3:LM K zkq "__init__" "Ledger.__init__" Vw f3 o3 v3 d3 m3 c3 t3 u3 n3 z3)
  (l4:LM K zkq "write" "Ledger.write" Ti f4 o4 v4 d4 m4 c4 t4 u4 n4 z4)
  (l5:LM K zkq "over" "Ledger.over" Sh f5 o5 v5 d5 m5 c5 t5 u5 n5 z5)
  (l6:LM K zkq "met" "Ledger.met" Rr f6 o6 v6 d6 m6 c6 t6 u6 n6 z6)
  (l7:LN K "check_range" "check_range" Si f7 o7 v7 d7 m7 c7 t7 u7 n7 z7)
  (l8:LN K "check_count" "check_count" Sj f8 o8 v8 d8 m8 c8 t8 u8 n8 z8)
  (l9:LN K "check_ranges" "check_ranges" Tj f9 o9 v9 d9 m9 c9 t9 u9 n9 z9)
  (l10:LN K "check_clubs" "check_clubs" Sk f10 o10 v10 d10 m10 c10 t10 u10 n10 z10)
  (l11:LN K "checked" "checked" Lb f11 o11 v11 d11 m11 c11 t11 u11 n11 z11)
  (l12:LM K zkr "__init__" "Roster.__init__" Vy f12 o12 v12 d12 m12 c12 t12 u12 n12 z12)
  (l13:LM K zkr "check_new" "Roster.check_new" Vh f13 o13 v13 d13 m13 c13 t13 u13 n13 z13)
  (l14:LM K zkr "check_known" "Roster.check_known" W0 f14 o14 v14 d14 m14 c14 t14 u14 n14 z14)
  (l15:LM K zkr "add" "Roster.add" Rt f15 o15 v15 d15 m15 c15 t15 u15 n15 z15)
  (l16:LM K zkr "strike" "Roster.strike" U0 f16 o16 v16 d16 m16 c16 t16 u16 n16 z16)
  (l17:LM K zkr "numbers" "Roster.numbers" Uh f17 o17 v17 d17 m17 c17 t17 u17 n17 z17)
  (l18:LM K zkr "entry" "Roster.entry" Tn f18 o18 v18 d18 m18 c18 t18 u18 n18 z18)
  (l19:LM K zkr "person" "Roster.person" U1 f19 o19 v19 d19 m19 c19 t19 u19 n19 z19)
  (l20:LN K "places_taken" "places_taken" To f20 o20 v20 d20 m20 c20 t20 u20 n20 z20)
  (l21:LN K "steps_into" "steps_into" Ru f21 o21 v21 d21 m21 c21 t21 u21 n21 z21)
  (l22:LN K "free_referee" "free_referee" Tp f22 o22 v22 d22 m22 c22 t22 u22 n22 z22)
  (l23:LN K "traced" "traced" Iw f23 o23 v23 d23 m23 c23 t23 u23 n23 z23)
  (l24:LN K "chain" "chain" Dp f24 o24 v24 d24 m24 c24 t24 u24 n24 z24)
  (l25:LN K "stepped" "stepped" Lh f25 o25 v25 d25 m25 c25 t25 u25 n25 z25)
  (l26:LN K "fill" "fill" zao f26 o26 v26 d26 m26 c26 t26 u26 n26 z26)
  (l27:LN K "place_of" "place_of" O8 f27 o27 v27 d27 m27 c27 t27 u27 n27 z27)
  (l28:LM K zks "__init__" "Sheet.__init__" Ui f28 o28 v28 d28 m28 c28 t28 u28 n28 z28)
  (l29:LM K zks "barred" "Sheet.barred" Tq f29 o29 v29 d29 m29 c29 t29 u29 n29 z29)
  (l30:LM K zks "fallen_out" "Sheet.fallen_out" Vi f30 o30 v30 d30 m30 c30 t30 u30 n30 z30)
  (l31:LM K zks "matches" "Sheet.matches" U2 f31 o31 v31 d31 m31 c31 t31 u31 n31 z31)
  (l32:LM K zks "goes" "Sheet.goes" Rw f32 o32 v32 d32 m32 c32 t32 u32 n32 z32)
  (l33:LM K zks "where" "Sheet.where" Sl f33 o33 v33 d33 m33 c33 t33 u33 n33 z33)
  (l34:LM K zks "chains" "Sheet.chains" Tr f34 o34 v34 d34 m34 c34 t34 u34 n34 z34)
  (l35:LM K zks "rows" "Sheet.rows" Rx f35 o35 v35 d35 m35 c35 t35 u35 n35 z35)
  (l36:LN K "drawn_sheet" "drawn_sheet" Sm f36 o36 v36 d36 m36 c36 t36 u36 n36 z36)
  (l37:LM K zkn "__init__" "Season.__init__" Vz f37 o37 v37 d37 m37 c37 t37 u37 n37 z37)
  (l38:LM K zkn "check_not_over" "Season.check_not_over" Wf f38 o38 v38 d38 m38 c38 t38 u38 n38 z38)
  (l39:LM K zkn "check_undrawn" "Season.check_undrawn" Wh f39 o39 v39 d39 m39 c39 t39 u39 n39 z39)
  (l40:LM K zkn "check_round" "Season.check_round" W2 f40 o40 v40 d40 m40 c40 t40 u40 n40 z40)
  (l41:LM K zkn "check_room" "Season.check_room" W5 f41 o41 v41 d41 m41 c41 t41 u41 n41 z41)
  (l42:LM K zkn "note" "Season.note" Sr f42 o42 v42 d42 m42 c42 t42 u42 n42 z42)
  (l43:LM K zkn "sheet_at_hand" "Season.sheet_at_hand" Wi f43 o43 v43 d43 m43 c43 t43 u43 n43 z43)
  (l44:LM K zkn "sheet_of" "Season.sheet_of" V0 f44 o44 v44 d44 m44 c44 t44 u44 n44 z44)
  (l45:LM K zkn "takers_of" "Season.takers_of" Vj f45 o45 v45 d45 m45 c45 t45 u45 n45 z45)
  (l46:LM K zkn "enrol" "Season.enrol" Ts f46 o46 v46 d46 m46 c46 t46 u46 n46 z46)
  (l47:LM K zkn "draw_up" "Season.draw_up" Uj f47 o47 v47 d47 m47 c47 t47 u47 n47 z47)
  (l48:LM K zkn "away" "Season.away" Ss f48 o48 v48 d48 m48 c48 t48 u48 n48 z48)
  (l49:LM K zkn "step_in" "Season.step_in" Uk f49 o49 v49 d49 m49 c49 t49 u49 n49 z49)
  (l50:LM K zkn "close" "Season.close" Tt f50 o50 v50 d50 m50 c50 t50 u50 n50 z50)
  (l51:LM K zkn "take_back" "Season.take_back" Vk f51 o51 v51 d51 m51 c51 t51 u51 n51 z51)
  (l52:LM K zkn "at_hand" "Season.at_hand" Ul f52 o52 v52 d52 m52 c52 t52 u52 n52 z52)
  (l53:LM K zkn "goes" "Season.goes" Su f53 o53 v53 d53 m53 c53 t53 u53 n53 z53)
  (l54:LM K zkn "chains" "Season.chains" U3 f54 o54 v54 d54 m54 c54 t54 u54 n54 z54)
  (l55:LN K "_law_whole" "_law_whole" Q4 f55 o55 v55 d55 m55 c55 t55 u55 n55 z55)
  (l56:LN K "_law_at" "_law_at" Hl f56 o56 v56 d56 m56 c56 t56 u56 n56 z56)
  (l57:LN K "_law_mix" "_law_mix" Lo f57 o57 v57 d57 m57 c57 t57 u57 n57 z57)
  (l58:LN K "_law_numbers" "_law_numbers" Yo f58 o58 v58 d58 m58 c58 t58 u58 n58 z58)
  (l59:LN K "_law_clubs" "_law_clubs" Xd f59 o59 v59 d59 m59 c59 t59 u59 n59 z59)
  (l60:LN K "_law_one_is" "_law_one_is" Rz f60 o60 v60 d60 m60 c60 t60 u60 n60 z60)
  (l61:LN K "_law_list_is" "_law_list_is" Sv f61 o61 v61 d61 m61 c61 t61 u61 n61 z61)
  (l62:LN K "_law_tuple_is" "_law_tuple_is" Tu f62 o62 v62 d62 m62 c62 t62 u62 n62 z62)
  (l63:LN K "_law_rows_are" "_law_rows_are" Tv f63 o63 v63 d63 m63 c63 t63 u63 n63 z63)
  (l64:LN K "_law_is_filling" "_law_is_filling" Um f64 o64 v64 d64 m64 c64 t64 u64 n64 z64)
  (l65:LN K "_law_is_chain" "_law_is_chain" Tw f65 o65 v65 d65 m65 c65 t65 u65 n65 z65)
  (l66:LN K "_law_steps" "_law_steps" Q8 f66 o66 v66 d66 m66 c66 t66 u66 n66 z66)
  (l67:LN K "_law_to_free" "_law_to_free" Sw f67 o67 v67 d67 m67 c67 t67 u67 n67 z67)
  (l68:LN K "_law_chain_is_due" "_law_chain_is_due" Vl f68 o68 v68 d68 m68 c68 t68 u68 n68 z68)
  (l69:LN K "_law_moves_are" "_law_moves_are" U4 f69 o69 v69 d69 m69 c69 t69 u69 n69 z69)
  (l70:LN K "_law_first" "_law_first" Q9 f70 o70 v70 d70 m70 c70 t70 u70 n70 z70)
  (l71:LN K "_law_met" "_law_met" Ls f71 o71 v71 d71 m71 c71 t71 u71 n71 z71)
  (l72:LN K "_law_bars" "_law_bars" Nf f72 o72 v72 d72 m72 c72 t72 u72 n72 z72)
  (l73:LN K "_law_open" "_law_open" Ng f73 o73 v73 d73 m73 c73 t73 u73 n73 z73)
  (l74:LN K "_law_paged" "_law_paged" Pa f74 o74 v74 d74 m74 c74 t74 u74 n74 z74)
  (l75:LN K "_law_matches" "_law_matches" Yd f75 o75 v75 d75 m75 c75 t75 u75 n75 z75)
  (l76:LN K "_law_do" "_law_do" Hv f76 o76 v76 d76 m76 c76 t76 u76 n76 z76)
  (l77:LN K "_law_stepped" "_law_stepped" Sx f77 o77 v77 d77 m77 c77 t77 u77 n77 z77)
  (l78:LN K "_law_deed" "_law_deed" Nh f78 o78 v78 d78 m78 c78 t78 u78 n78 z78)
  (l79:LN K "_law_pool" "_law_pool" Xp f79 o79 v79 d79 m79 c79 t79 u79 n79 z79)
  (l80:LN K "_law_people" "_law_people" Yc f80 o80 v80 d80 m80 c80 t80 u80 n80 z80)
  (l81:LN K "_law_enrolled" "_law_enrolled" Tz f81 o81 v81 d81 m81 c81 t81 u81 n81 z81)
  (l82:LN K "_law_rest" "_law_rest" Wk f82 o82 v82 d82 m82 c82 t82 u82 n82 z82)
  (l83:LN K "_law_rounds" "_law_rounds" R0 f83 o83 v83 d83 m83 c83 t83 u83 n83 z83)
  (l84:LN K "_law_cell" "_law_cell" Ni f84 o84 v84 d84 m84 c84 t84 u84 n84 z84)
  (l85:LN K "_law_chain_fits" "_law_chain_fits" Uo f85 o85 v85 d85 m85 c85 t85 u85 n85 z85)
  (l86:LN K "law" "law" Ej f86 o86 v86 d86 m86 c86 t86 u86 n86 z86)
  : ∃ fd:FuncData,(∀ (s:Shared) (v:Value),BindsTo s fd ⟨[v],[]⟩ [("_law_script",v)])/\∀ base:Heap,K.In base->base.Ns mainGlobals mg->FnOk l.prog w K mg base (CX1 l.prog w) 10 fa fd ["_law_script"] (za8 K):=by
 have e:=hfa.symm.trans (mg_of X G l86.b);cases e
 let a:Ad:=⟨zoe,zk7,zlo,zla,zlf,zlg,zmo,zmn,zlu,zmg,zlz,zlt,znr,zmu,zk4,zlp,zkq,zkr,zks,zkn⟩
 have T:Tx K mg a:=⟨⟨zpj,zpu,zpd,zpp⟩,
  zm1,
  zl2,
  ⟨zps,zpk,zpi,zpb⟩,
  zlm,
  ⟨zpy,zp5,zqa,zp4⟩,
  zmm,
  zo6,
  zmx,
  zon,
  ⟨zo8,zo9,zo7,zph⟩,
  znm,
  zpm,
  zlw,
  zl1,
  zml,
  znp,
  zlc,
  zln,
  ⟨mg_of X G zna,zok⟩,
  ⟨mg_of X G zl5,zmv⟩,
  ⟨mg_of X G zog,zo0⟩,
  ⟨mg_of X G zmi,znt⟩,
  ⟨mg_of X G zly,zmk⟩,
  ⟨mg_of X G zl3,zmr⟩,
  ⟨mg_of X G znb,zoh⟩,
  ⟨mg_of X G zos,zpo⟩,
  ⟨mg_of X G zmz,zn2⟩,
  ⟨mg_of X G zmj,znj⟩,
  ⟨mg_of X G zoj,zou⟩,
  ⟨mg_of X G znv,zop⟩,
  ⟨mg_of X G zmy,zn7⟩,
  ⟨mg_of X G zlq,zma⟩,
  mg_none_of X G zpw,
  mg_none_of X G zku,
  mg_none_of X G znu,
  mg_none_of X G zlk,
  mg_none_of X G zm2,
  mg_none_of X G zlj,
  mg_none_of X G zqj,
  mg_none_of X G zky,
  mg_none_of X G zp2,
  mg_none_of X G zqc,
  mg_none_of X G zqb,
  mg_none_of X G zp3,
  mg_of X G zol,
  mg_of X G zna,
  mg_of X G zmi,
  mg_of X G zly,
  mg_of X G zl3,
  mg_of X G zl5,
  mg_of X G zog,
  mg_of X G znx,
  mg_of X G zmz,
  mg_of X G znv,
  mg_of X G znb,
  mg_of X G zmy,
  mg_of X G zos,
  mg_of X G zoj,
  mg_of X G zlq,
  mg_of X G zmj,
  mg_of X G zo2,
  mg_of X G zo3,
  mg_of X G zpx,
  mg_of X G zo1,
  ⟨_,mg_of X G zmc⟩,
  ⟨_,mg_of X G zl8⟩,
  ⟨_,mg_of X G zl0⟩,
  ⟨_,mg_of X G zll⟩,
  ⟨_,mg_of X G zlr⟩,
  ⟨_,mg_of X G zmb⟩,
  ⟨_,mg_of X G zm0⟩,
  ⟨_,mg_of X G zl7⟩⟩
 refine⟨fnOf "law" "law" (T2 Ej) (Zv Ej) (Zj Ej) .none v86 d86 m86 n86 c86 t86,fun s v=>.of_eq rfl,fun base KX NX=>?_⟩
 have Z:XG l.prog w base K mg h:=⟨X,G⟩;have zqe:=nM Z l3 zpg zpe zo2 fun F=>O5 F T
 have zng:=mM Z l4 fun F=>Ks F T
 have zkt:=mM Z l5 fun F=>Io F T
 have zoa:=mM Z l6 fun F=>Gs F T
 have zkw:=dN Z l7 fun F=>Iq F T
 have zn3:=dN Z l8 fun F=>Ir F T
 have znw:=dN Z l10 fun F=>Iu F T
 have zp8:=nM Z l12 zpr zpv zo3 fun F=>O7 F T
 have zk6:=mM Z l14 fun F=>Qc F T
 have zm6:=mM Z l16 fun F=>Ld F T
 have zl6:=mM Z l17 fun F=>N5 F T
 have znk:=dN Z l20 fun F=>Kw F T
 have zod:=dN Z l21 fun F=>Gw F T
 have znn:=dN Z l22 fun F=>Kx F T
 have zo5:=dN Z l23 fun F=>zc9 F T
 have zms:=dN Z l25 fun F=>zan F T
 have zov:=dN Z l27 fun F=>B0 F T
 have zm9:=nM Z l28 zp7 zp1 zpx fun F=>N7 F T
 have zm7:=mM Z l31 fun F=>Lj F T
 have zl4:=mM Z l32 fun F=>Gy F T
 have zls:=mM Z l34 fun F=>K1 F T
 have zob:=mM Z l35 fun F=>G1 F T
 have zk5:=mM Z l40 fun F=>Qe F T
 have zkv:=mM Z l41 fun F=>Qz F T
 have zld:=mM Z l42 fun F=>Hg F T
 have zk1:=mM Z l43 fun F=>Rg F T
 have zlh:=dN Z l55 fun F=>Dr F T
 have zkx:=dN Z l56 fun F=>zdb F T
 have zl9:=dN Z l57 fun F=>zap F T
 have zn4:=dN Z l58 fun F=>Hm F T
 have zoo:=dN Z l59 fun F=>Ds F T
 have zoq:=dN Z l66 fun F=>Du F T
 have zn0:=dN Z l67 fun F=>Hr F T
 have zom:=dN Z l70 fun F=>Dv F T
 have zpl:=dN Z l71 fun F=>zaq F T
 have zoy:=dN Z l72 fun F=>B1 F T
 have zn5:=dN Z l77 fun F=>Hw F T
 have zm8:=dN Z l0 fun F=>Gp F T zkt zoa
 have znq:=dN Z l9 fun F=>Kt F T zkw
 have zk9:=mM Z l13 fun F=>Px F T zkw
 have zne:=mM Z l18 fun F=>Kv F T zk6
 have zor:=dN Z l24 fun F=>zff F T znk zod znn zo5
 have zlx:=mM Z l33 fun F=>Iz F T zov
 have zmd:=mM Z l51 fun F=>P5 F T zm6
 have zkp:=mM Z l52 fun F=>Mb F T zkt
 have zk3:=dN Z l60 fun F=>G3 F T zlh
 have zmt:=dN Z l64 fun F=>Me F T zlh
 have znd:=dN Z l65 fun F=>K7 F T zlh
 have zlv:=dN Z l73 fun F=>B2 F T zpl zoy
 have zny:=dN Z l75 fun F=>Hu F T zl9
 have zox:=dN Z l79 fun F=>B4 F T zkx zoo zn4
 have zoc:=dN Z l80 fun F=>G6 F T zkx zl9
 have zoi:=dN Z l82 fun F=>B6 F T zkx
 have znc:=dN Z l83 fun F=>Fb F T zkx
 have zow:=dN Z l84 fun F=>B8 F T zkx zl9
 have zpc:=dN Z l1 fun F=>zak F T zm8
 have zpn:=dN Z l11 fun F=>zam F T zn3 znq znw
 have zof:=mM Z l15 fun F=>Gv F T zk9
 have zm5:=mM Z l19 fun F=>Lg F T zne
 have zqn:=dN Z l26 fun F=>zgr F T zms zor
 have znh:=mM Z l29 fun F=>Kz F T zm9
 have zme:=mM Z l30 fun F=>Py F T zlx zms zor zm9
 have zqd:=nM Z l37 zpt zpf zo1 fun F=>Na F T zkw zp8 zqe
 have zkz:=mM Z l38 fun F=>So F T zkp
 have zle:=mM Z l44 fun F=>Nd F T zk5 zkt zkp zk1
 have zn6:=dN Z l61 fun F=>Hq F T zk3
 have zni:=dN Z l62 fun F=>K5 F T zk3
 have zmf:=dN Z l68 fun F=>P6 F T znd zoq zn0
 have zmh:=dN Z l74 fun F=>Dw F T zlv
 have zoz:=dN Z l78 fun F=>B3 F T zny
 have zp0:=dN Z l2 fun F=>zc8 F T zpc
 have zn1:=dN Z l36 fun F=>He F T zm9 zqn
 have zk0:=mM Z l39 fun F=>Rc F T zkz
 have zno:=mM Z l50 fun F=>K4 F T zkz zk1 zng zob zkt
 have zn8:=mM Z l53 fun F=>Hk F T zle zl4
 have zm3:=mM Z l54 fun F=>Ln F T zle zls
 have zns:=dN Z l63 fun F=>K6 F T zni
 have zmq:=dN Z l85 fun F=>Mg F T zmf zlv
 have zlb:=mM Z l45 fun F=>P4 F T zl6 zm5 zkp zp0
 have znf:=mM Z l46 fun F=>K3 F T zk0 zk9 zkv zld zkp zof
 have zm4:=dN Z l69 fun F=>Lr F T zk3 zns
 have zmp:=mM Z l47 fun F=>N8 F T zk0 zpn zkv zld zkp zn1 zlb zl4
 have zmw:=mM Z l49 fun F=>N9 F T zlb zm7 zlx znh zme zls
 have znz:=mM Z l48 fun F=>Hi F T zk5 zkt zk6 zkv zld zkp zmw
 have zn9:=dN Z l76 fun F=>zdd F T znf znz zmp zno zmd
 have znl:=dN Z l81 fun F=>Ja F T zn9 zmh
 exact zil (Oj l86.l l86.c l86.k) T zkx zqd zoi znc zox zom znl zoc zoz zow zn9 zmh zmt zlv zmq zn5 zn6 zn8 zm4 zm3 zk3 zkp
theorem walk{l:OpenLaw}{q:Program}{loose:List Str}{XP:(Str->Option Value)->Heap->Prop}{YP:World->Heap->Prop}{d:DefRec}{K:Params->Frag}(hn:l.most=some 63)(hdf:d.params.defaults=[])
  (hY:∀ (w:World) (h:Heap),YP w h->(K w.params).In h)
  (F:∀ (w:World) (mg:Str->Option Value) (fa:Addr) (h:Heap),(K w.params).In h->h.Ns mainGlobals mg->mg d.name=some (.ref fa) ->
   ∃ fd:FuncData,(∀ (s:Shared) (u:Value),BindsTo s fd ⟨[u],[]⟩ [("_law_script",u)])/\∀ base:Heap,(K w.params).In base->base.Ns mainGlobals mg->FnOk l.prog w (K w.params) mg base (CX1 l.prog w) 10 fa fd ["_law_script"] (za8 (K w.params))) :
  WalkO q loose XP YP l.row.toRowW d [] (fun f vs=>PySem.call f vs) :=
 L2.zf3 (n:=63) (k:=10) (x:="_law_script") (CX:=fun w=>CX1 l.prog w) (sp:=fun w=>za8 (K w.params)) hn (by decide) hdf ⟨rfl,by decide,by decide⟩ hY F (fun _ _ a ns hl _ hS=>⟨a,ns,rfl,hS,hl,fun _=>rfl⟩) fun _ _ _ _ _ z=>by obtain⟨_,_,_,_,_,_,_,_,_,_,z⟩:=z;exact z
end K33
open PySem PySem.W PyProof.Rows
namespace PySem.W.Fast
def tw14422563374582517258:=Nat
def tw15413532042453945351:=Nat
def tw8188784774234968406:=Nat
def tw16669212952256504094:=Nat
def tw17118815491151272874:=Nat
def tw15933333240651483063:=Nat
def tw12755584713823041495:=Nat
def tw3440141774941245339:=Nat
def tw5869128914030103086:=Nat
def tw87764014407321743:=Nat
def tw11836939708287725684:=Nat
def tw15285842013971544675:=Nat
def tw2632364071562061463:=Nat
def tw13125306917745184771:=Nat
def tw15451373672977400791:=Nat
def tw10974336994711636545:=Nat
def tw8066886973707272590:=Nat
def tw17191467560251771493:=Nat
def tw14563773990731440836:=Nat
def tw18366503762153155021:=Nat
def tw17175964535432816350:=Nat
def tw11339019363779364476:=Nat
def tw10359253490529962333:=Nat
def tw1738980163301391692:=Nat
def tw13146357820982451487:=Nat
def tw4876828348050267885:=Nat
def tw1406375788217455786:=Nat
def tw3122029682644230357:=Nat
def tw7979510050907536157:=Nat
def tw9957302978417135573:=Nat
def tw17005329017752412531:=Nat
def tw16669254384560471964:=Nat
def tw2817107881298107579:=Nat
def tw8107667498146328010:=Nat
def tw16369071888013166870:=Nat
def tw16514943248148086688:=Nat
def tw4165720785359805773:=Nat
def tw7442862713570829852:=Nat
def tw13711589197111236916:=Nat
def tw16066429398501697980:=Nat
def tw14284682298829676151:=Nat
def tw17926083873395728230:=Nat
def tw11894588845288500535:=Nat
def tw2270138070644620320:=Nat
def tw9608547173138859256:=Nat
def tw7916306695507658481:=Nat
def tw15799546631014250440:=Nat
def tw16528585315244709059:=Nat
def tw17733810167596570337:=Nat
def tw9339376323618261855:=Nat
def tw10396650608194400507:=Nat
def tw5566588283599609389:=Nat
def tw2585074060979768960:=Nat
def tw15803841192864149792:=Nat
def tw8727682677474984223:=Nat
def tw18379463858115708492:=Nat
def tw7896502418205458537:=Nat
def tw1820687128604755692:=Nat
def tw11733617940983628357:=Nat
def tw7717395909265925719:=Nat
def tw17630763649636207891:=Nat
def tw849189800707188128:=Nat
def tw15028210844823300546:=Nat
def tw4759820486332755359:=Nat
def tw2964412076826299203:=Nat
def tw9319632346585270406:=Nat
def tw7680236863126550461:=Nat
def tw8596578855979569883:=Nat
def tw3618960025632203620:=Nat
def tw8598367696994026988:=Nat
def tw14748987139052122298:=Nat
def tw16884311090915170951:=Nat
def tw8297226525986815837:=Nat
def tw2826627829600425765:=Nat
def tw7783367259380631987:=Nat
def tw14007956095019779242:=Nat
def tw17380770271901625132:=Nat
def tw690202879386441109:=Nat
def tw232822183961371096:=Nat
def tw7959574838321820364:=Nat
def tw2135556191270019603:=Nat
def tw15145623753401775096:=Nat
def tw14998526178580741002:=Nat
def tw8241979601723928763:=Nat
def tw13989629445370684492:=Nat
def tw2031099145281669781:=Nat
def tw6423016005108258850:=Nat
def tw12968898980762329556:=Nat
def tw11779123208960877128:=Nat
def tw6864020020710834709:=Nat
def tw1342309200307676667:=Nat
def tw2007368154400962033:=Nat
def tw3121761853681944645:=Nat
def tw5380875811884568095:=Nat
def tw1586040673636721881:=Nat
def tw7406023575600821177:=Nat
def tw10412203368625166759:=Nat
def tw9990297688934158206:=Nat
def tw8127399777573629915:=Nat
def tw4638487746249708459:=Nat
def tw10937779470591467190:=Nat
def tw12533676664962604781:=Nat
def tw7989279163602518911:=Nat
def tw1738767606716485704:=Nat
def tw15595422439111698188:=Nat
def tw14926438530197810761:=Nat
def tw2300073237536878458:=Nat
def tw10140385587992903173:=Nat
def tw12861717259103074608:=Nat
def tw10899788991349614785:=Nat
def tw10962198747972492430:=Nat
def tw11999851038556193413:=Nat
def tw8464490990159378222:=Nat
def tw7221468542332719525:=Nat
def tw3890098997002506935:=Nat
def tw7201267181146708205:=Nat
def tw14900804961005317995:=Nat
def tw14189037258470599332:=Nat
def tw5066299484133472927:=Nat
def tw11469583373544097330:=Nat
def tw3596345524655404321:=Nat
def tw11907822590004466576:=Nat
def tw11709367036836321258:=Nat
def tw436765819357843496:=Nat
def tw15827187552358090340:=Nat
def tw3588449659930159955:=Nat
def tw13531839328045132908:=Nat
def tw12396295290466000254:=Nat
def tw3305406293424618147:=Nat
def tw7841799150941868725:=Nat
def tw10542036020590437535:=Nat
def tw17027971178118893132:=Nat
def tw5629067302575869107:=Nat
def tw15067548379069967882:=Nat
def tw16018291155760997070:=Nat
def tw4393080350035728495:=Nat
def tw15968783744198316599:=Nat
def tw4523687394907849827:=Nat
def tw17640747271783966793:=Nat
def tw13471639785296299214:=Nat
def tw11749319357676598700:=Nat
def tw13071534256218762034:=Nat
def tw1700466691686296588:=Nat
def tw15374197783996286463:=Nat
def tw17513486168405431983:=Nat
def tw15174546928066827394:=Nat
def tw18290985259822519922:=Nat
def tw241024494665211751:=Nat
def tw6374342623165247312:=Nat
def tw8653842607354559990:=Nat
def tw5496999603593120218:=Nat
def tw4643415858040797282:=Nat
def tw9445100021753874250:=Nat
def tw14625446167516604617:=Nat
def tw14549933089544553940:=Nat
def tw8171733198727680472:=Nat
def tw14762871656468076037:=Nat
def tw2794488253070355449:=Nat
def tw15688364204881147569:=Nat
def tw4308635429683648075:=Nat
def tw14410878415108551461:=Nat
def tw2220842530038885953:=Nat
def tw12260289993760381868:=Nat
def tw16824202823332605938:=Nat
def tw2299447019492055058:=Nat
def tw10872902895113827578:=Nat
def tw4932803059729349511:=Nat
def tw1836071833965521257:=Nat
def tw15246466735099647793:=Nat
def tw14395509751750438795:=Nat
def tw11082353366061955779:=Nat
def tw3948830390228875198:=Nat
def tw8979924116202220954:=Nat
def tw4779888460918318784:=Nat
def tw4950552328300697305:=Nat
def tw11985656214300140506:=Nat
def tw10835832274957114477:=Nat
def tw5532315836361348599:=Nat
def tw1236239826420153669:=Nat
def tw9059270125268251701:=Nat
def tw5621450413478482432:=Nat
def tw8327636583202838946:=Nat
def tw17805588872624941343:=Nat
def tw2452045843993853379:=Nat
def tw7755196082508319884:=Nat
def tw13394285929778207921:=Nat
def tw10177266789030983204:=Nat
def tw16044511767342062949:=Nat
def tw891055982105453695:=Nat
def tw12362712599107457725:=Nat
def tw16781862096894265761:=Nat
def tw3513422793855395509:=Nat
def tw5561865793835379806:=Nat
def tw17145028840566604929:=Nat
def tw4989249455650048429:=Nat
def tw8008838724461204492:=Nat
def tw10875889490709450795:=Nat
def tw15817520990863445308:=Nat
def tw7805647728705056051:=Nat
def tw16524173222965647561:=Nat
def tw14243784877675664060:=Nat
def tw10181084185112171025:=Nat
def tw1587600342207635151:=Nat
def tw4667261270140968036:=Nat
def tw16908533347248677645:=Nat
def tw11963736583851486775:=Nat
def tw12115660481685822850:=Nat
def tw7339498312267750602:=Nat
def tw13829457091518809577:=Nat
def tw6212187842791424987:=Nat
def tw11222593232278727894:=Nat
def tw2998594446336916887:=Nat
def tw7376423580648827305:=Nat
def tw5506634761275020341:=Nat
def tw11469098295899742257:=Nat
def tw17577411992446767861:=Nat
def tw13020997915502753877:=Nat
def tw4490738208642444115:=Nat
def tw5439354476309137872:=Nat
def tw4337840076946525078:=Nat
def tw17716304223599027365:=Nat
def tw5569648593388309935:=Nat
def tw10411431884472768505:=Nat
def tw5655675885953507212:=Nat
def tw14538748499088203987:=Nat
def tw7186217451364435096:=Nat
def tw6129510694314426025:=Nat
def tw3632953851672176962:=Nat
def tw14748349639226716318:=Nat
def tw7868638485373799706:=Nat
def tw7709655498825864514:=Nat
def tw15444348770141344479:=Nat
def tw6413245017583557120:=Nat
def tw11790106415561092410:=Nat
def tw1555154492151766060:=Nat
def tw10062173876997511315:=Nat
def tw13949548044389882761:=Nat
def tw14157860234965087802:=Nat
def tw47964931647143799:=Nat
def tw5666222608145058319:=Nat
def tw4697651845315181072:=Nat
def tw9578558620990120060:=Nat
def tw4122061248711002274:=Nat
def tw3522766731236329624:=Nat
def tw8639482678145252324:=Nat
def tw14943813010573021177:=Nat
def tw17741844860822475585:=Nat
def tw17708830808276431991:=Nat
def tw8058100703908881698:=Nat
def tw2925505739594185439:=Nat
def tw13409077940665839890:=Nat
def tw15399676452037023244:=Nat
def tw3874311650344409882:=Nat
def tw4148113190259031029:=Nat
def tw212548739131920349:=Nat
def tw325851517365904653:=Nat
def tw2459287341089579193:=Nat
def tw13259397796158192504:=Nat
def tw18158922723004131261:=Nat
def tw1575627636529370776:=Nat
def tw4016916477917220751:=Nat
def tw521423117812624996:=Nat
def tw3400376248192684048:=Nat
def tw14412682962686287677:=Nat
def tw17060828981161824765:=Nat
def tw5112837361692256355:=Nat
def tw5653986732794732212:=Nat
def tw15786797112954333353:=Nat
def tw2231921417858115451:=Nat
def tw2082595401296774398:=Nat
def tw15219724202334165710:=Nat
def tw4910668727684848115:=Nat
def tw15553947680697586410:=Nat
def tw9372457295557534878:=Nat
def tw12378790834185367232:=Nat
def tw7316710579117755619:=Nat
def tw6814908266552935789:=Nat
def tw7528912692641365320:=Nat
def tw16253878983828783198:=Nat
def tw2446094646920371138:=Nat
def tw12563692261968489686:=Nat
def tw3400752972909501242:=Nat
def tw8764242458281333148:=Nat
def tw8918852815911798061:=Nat
def tw2878763082187821484:=Nat
def tw15766520992121755288:=Nat
def tw8197451664487607716:=Nat
def tw12803993127448136862:=Nat
def tw4692258646932964507:=Nat
def tw2181485308112018667:=Nat
def tw6462978528574102581:=Nat
def tw2543242224123367042:=Nat
def tw10048627122516711267:=Nat
def tw13039016171428155050:=Nat
def tw6774509987818492093:=Nat
def tw15811595476115173182:=Nat
def tw16033418756577994325:=Nat
def tw16718246521545990436:=Nat
def tw5226987540408873918:=Nat
def tw7534083998517170964:=Nat
def tw8009560632728059208:=Nat
def tw12524295435925823761:=Nat
def tw10049357010462415540:=Nat
def tw2905497478282635950:=Nat
def tw16455117301959611386:=Nat
def tw367151736806430951:=Nat
def tw12398799816118322936:=Nat
def tw1772650611535322900:=Nat
def tw3125337383615511941:=Nat
def tw15892935163182102597:=Nat
def tw11059717705945234678:=Nat
def tw16908957348058738049:=Nat
def tw2453651988394669384:=Nat
def tw7018235316853491765:=Nat
def tw18292337263621162005:=Nat
def tw4049960245906513131:=Nat
def tw3258619698679729270:=Nat
def tw6328555223661926194:=Nat
def tw13882137181041491564:=Nat
def tw2319165597718731606:=Nat
def tw11480038401804338512:=Nat
def tw2286484680810865116:=Nat
def tw17532205603840361073:=Nat
def tw14953619750961812600:=Nat
def tw9740991843494769104:=Nat
def tw8838469001997772560:=Nat
def tw13426675584243490004:=Nat
def tw17567310708254183418:=Nat
def tw9861538688803623191:=Nat
def tw1441327859658415629:=Nat
def tw15943276408577516891:=Nat
def tw13872548002172104636:=Nat
def tw1761030840067706047:=Nat
def tw249168967351134461:=Nat
def tw1112424939165727423:=Nat
def tw11060296693981243881:=Nat
def tw6838912174722336982:=Nat
def tw9798420933647190381:=Nat
def tw11735125053298296379:=Nat
def tw6769628020124534736:=Nat
def tw2142861248515055291:=Nat
def tw10734776556525821109:=Nat
def tw16805796472190417854:=Nat
def tw2726158770423355708:=Nat
def tw605827753571265030:=Nat
def tw13004047872729008592:=Nat
def tw7742605126747441654:=Nat
def tw5888643051412453576:=Nat
def tw12535943236416571603:=Nat
def tw18128928772216516277:=Nat
def tw17100524717218991241:=Nat
def tw3656601667695018928:=Nat
def tw2916861222556140595:=Nat
def tw9240692393325427638:=Nat
def tw2025566332284630304:=Nat
def tw14246581404000904827:=Nat
def tw368363558615572514:=Nat
def tw15153109782278890623:=Nat
def tw12318190710075718277:=Nat
def tw1089436899086524162:=Nat
def tw18341361002731645518:=Nat
def tw8466159292359201538:=Nat
def tw5625476112864689004:=Nat
def tw12187098461520923659:=Nat
def tw851328619798651823:=Nat
def tw10351984594400061152:=Nat
def tw8096468634654400965:=Nat
def tw12402674280368111186:=Nat
def tw16836658743573071692:=Nat
def tw14625006735657560875:=Nat
def tw15493860522550335942:=Nat
def tw11083593096995821206:=Nat
def tw16662958860578301635:=Nat
def tw17017890967225415761:=Nat
def tw18424614985238501742:=Nat
def tw16396441379275561377:=Nat
def tw2417201252203795034:=Nat
def tw17991081717039702481:=Nat
def tw12815683135134422748:=Nat
def tw17152169204205276920:=Nat
def tw4899310580246525584:=Nat
def tw17209559012993227373:=Nat
def tw2777896002027317764:=Nat
def tw6252005034607598554:=Nat
def tw15403741913805274879:=Nat
def tw13119657368423096591:=Nat
def tw18063543877182330138:=Nat
def tw14803348454437209742:=Nat
def tw9882178185743270751:=Nat
def tw62382508876937309:=Nat
def tw8364629729026192948:=Nat
def tw4031458160764499647:=Nat
def tw7072798496272996121:=Nat
def tw10308176739058934737:=Nat
def tw1090554011932273800:=Nat
def tw18370983838283169775:=Nat
def tw9793768740317731341:=Nat
def tw1856851967922895086:=Nat
def tw17659786323403561376:=Nat
def tw7008346832750594977:=Nat
def tw16626431761966080992:=Nat
def tw5114894209054102408:=Nat
def tw11266046380868666530:=Nat
def tw681232813691907336:=Nat
def tw10350119279512070180:=Nat
def tw15893190427362809638:=Nat
def tw5406669405133159986:=Nat
def tw7415026162170671425:=Nat
def tw13225937897557935442:=Nat
def tw6467814450571603353:=Nat
def tw12941311381527423342:=Nat
def tw2085339126086127831:=Nat
def tw17272682148880982250:=Nat
def tw9575027240006542092:=Nat
def tw15710237599772748950:=Nat
def tw10270792151554168620:=Nat
def tw561649792466880366:=Nat
def tw4277416628428156821:=Nat
def tw4759671574830733341:=Nat
def tw15792525810868582646:=Nat
def tw17962881349970990701:=Nat
def tw11483397029108326358:=Nat
def tw9819742910948560224:=Nat
def tw11076593593221130880:=Nat
def tw5206928469735009199:=Nat
def tw4069782599494426450:=Nat
def tw12531214641645631712:=Nat
def tw924514642341856360:=Nat
def tw7888897753328264600:=Nat
def tw10861511486979582331:=Nat
def tw7085402153803269323:=Nat
def tw11558024293555938591:=Nat
def tw1794681216787690867:=Nat
def tw16361168513092248654:=Nat
def tw12979264630312710177:=Nat
def tw16543140482516251298:=Nat
def tw2984215221499828672:=Nat
def tw6171545407326015626:=Nat
def tw5554949929732014860:=Nat
def tw1145657453734534775:=Nat
def tw18022678119696923081:=Nat
def tw7359889945545159873:=Nat
def tw12833699968319125482:=Nat
def tw14519627830094553459:=Nat
def tw5803681965521861270:=Nat
def tw4746733966624758770:=Nat
def tw7625288650263585880:=Nat
def tw6763005252847178375:=Nat
def tw6313257842605497340:=Nat
def tw10294363658750546740:=Nat
def tw12467220963774142571:=Nat
def tw3620385201555399085:=Nat
def tw13781152308931079313:=Nat
def tw13369936959334094288:=Nat
def tw127953120688507606:=Nat
def tw325326967216281796:=Nat
def tw3484185962942285493:=Nat
def tw992792966319888095:=Nat
def tw9272247517591313467:=Nat
def tw14139270091622291395:=Nat
def tw14393386260122336528:=Nat
def tw8110064369683600195:=Nat
def tw15666001766423007798:=Nat
def tw6527725276351204535:=Nat
def tw6699338127126209601:=Nat
def tw6544639737970096794:=Nat
def tw3500516497152224147:=Nat
def tw17667118450074294201:=Nat
def tw16091005816074612216:=Nat
def tw6939955535232961642:=Nat
def tw8395770360997931334:=Nat
def tw7536613363072627438:=Nat
def tw10407384116556434200:=Nat
def tw9341757555804141779:=Nat
def tw14928685292037474347:=Nat
def tw12960318779581772592:=Nat
def tw12397437015804151958:=Nat
def tw9092215170482898386:=Nat
def tw17796597454872629457:=Nat
def tw3286383140643912921:=Nat
def tw1513812873600806068:=Nat
def tw8563997093938786951:=Nat
def tw11832441024578563148:=Nat
def tw2641095175132928757:=Nat
def tw15324921393174778524:=Nat
def tw11179842017369181338:=Nat
def tw11565108287566133544:=Nat
def tw7851102516778717366:=Nat
def tw4637051197582665776:=Nat
def tw242694884269011308:=Nat
def tw2634967089071453866:=Nat
def tw13686012212474504236:=Nat
def tw7595831236647312432:=Nat
def tw447192313465479984:=Nat
def tw15742547079804594208:=Nat
def tw933532875242282869:=Nat
def tw9126786711038111473:=Nat
def tw8384367424311456713:=Nat
def tw2191613666264864092:=Nat
def tw14238630154322996599:=Nat
def tw7375391087761322206:=Nat
def tw18229517113964546240:=Nat
def tw18347009151799775732:=Nat
def tw10256947084923988343:=Nat
def tw8779336026441110247:=Nat
def tw9665848550148621137:=Nat
def tw7046688991720914397:=Nat
def tw4904365272342811368:=Nat
def tw16455180592029970084:=Nat
def tw1809823761812493592:=Nat
def tw7306627098190772345:=Nat
def tw5077946767181444057:=Nat
def tw15534492540697400898:=Nat
def tw66895673932294951:=Nat
def tw5006973163143131731:=Nat
def tw2231644077269459062:=Nat
def tw6992852539148648340:=Nat
def tw109327241719310835:=Nat
def tw15213289521422148264:=Nat
def tw14219146260390112509:=Nat
def tw11811241931593839765:=Nat
def tw5452086484225625872:=Nat
def tw17513675749255171480:=Nat
def tw9234155051021945500:=Nat
def tw11129281132666884055:=Nat
def tw15442138327978608170:=Nat
def tw462312638739391209:=Nat
def tw17884701687019465543:=Nat
def tw15852903997578402641:=Nat
def tw15190794039542833166:=Nat
def tw6870742754858093988:=Nat
def tw12658431374426777581:=Nat
def tw18071188120612486147:=Nat
def tw4821433464353390183:=Nat
def tw17924353565439062231:=Nat
def tw17026039475024652931:=Nat
def tw886985537706053144:=Nat
def tw15081510645471081355:=Nat
def tw12824852295460184291:=Nat
def tw16284323980028938197:=Nat
def tw2194101726530102338:=Nat
def tw16346554897966297866:=Nat
def tw13430995451100169138:=Nat
def tw2602618611362669886:=Nat
def tw1675799864694659238:=Nat
def tw12636943032351270475:=Nat
def tw4943976724424006442:=Nat
def tw15880367616296975277:=Nat
def tw3118629665637613818:=Nat
def tw2149691467999850144:=Nat
def tw8352542564483103316:=Nat
def tw13331118900707682103:=Nat
def tw5961073471029318099:=Nat
def tw4581581770178383465:=Nat
def tw9179819992071977796:=Nat
def tw12040445284440897958:=Nat
def tw10676066998359204514:=Nat
def tw5347366439791147114:=Nat
def tw12330626578467278135:=Nat
def tw12902590780813557516:=Nat
def tw3256182239896290948:=Nat
def tw13674790322769262570:=Nat
def tw6275621966631897034:=Nat
def tw15783214678287233834:=Nat
def tw17420888115495342696:=Nat
def tw3426609061140634153:=Nat
def tw5601355568084372194:=Nat
def tw7284478304805014120:=Nat
def tw16009938822996335094:=Nat
def tw3573227528235267327:=Nat
def tw18178208825568268627:=Nat
def tw7896945965828037028:=Nat
def tw17326777520338705984:=Nat
def tw10049805206214629924:=Nat
def tw17682736566006156658:=Nat
def tw3100577812605144141:=Nat
def tw16273386466331186022:=Nat
def tw14034925812454977233:=Nat
def tw3835096325794008410:=Nat
def tw3950157609679582786:=Nat
def tw1388141370324839484:=Nat
def tw4106504807506958808:=Nat
def tw11580289666481198585:=Nat
def tw16944461367913209104:=Nat
def tw8055514426476074522:=Nat
def tw8320290276526226417:=Nat
def tw2377606199624357217:=Nat
def tw18068002365663247426:=Nat
def tw14363545770180390572:=Nat
def tw4794724851928090728:=Nat
def tw16840663806034282619:=Nat
def tw14207835213605081709:=Nat
def tw9857107884627149898:=Nat
def tw17776364376496624041:=Nat
def tw11519406697256084740:=Nat
def tw6592962716271665354:=Nat
def tw2410485141901453723:=Nat
def tw1258490657768702530:=Nat
def tw17152267351835648112:=Nat
def tw616762727132924901:=Nat
def tw8199838926716964914:=Nat
def tw3876500729874292357:=Nat
def tw11700548549483607916:=Nat
def tw14341703983068985139:=Nat
def tw14645364311053525609:=Nat
def tw6827590977786861386:=Nat
def tw14952183741272111001:=Nat
def tw1085650430084715709:=Nat
def tw372401778761524824:=Nat
def tw16929975481601893814:=Nat
def tw10079860358676828662:=Nat
def tw17513802656180012113:=Nat
def tw17078438235192140073:=Nat
def tw7051234253355145805:=Nat
def tw11472868681728227363:=Nat
def tw14709829506008899269:=Nat
def tw13246140778808632938:=Nat
def tw3072136179315651710:=Nat
def tw1524352926215353697:=Nat
def tw16180504201254777607:=Nat
def tw4584704576628523341:=Nat
def tw9436747579093588690:=Nat
def tw14273394866862129101:=Nat
def tw1046885155040377638:=Nat
def tw15158143946969637299:=Nat
def tw1308644706151822633:=Nat
def tw3602271453982215061:=Nat
def tw2856751584604336481:=Nat
def tw3776500032807549140:=Nat
def tw4165230349485756869:=Nat
def tw13515941013153419689:=Nat
def tw1620252002770315871:=Nat
def tw4544661172573356088:=Nat
def tw13280611847299713220:=Nat
def tw1915845700670403373:=Nat
def tw13517433211218252945:=Nat
def tw9055092828332998182:=Nat
def tw6833240206511330671:=Nat
def tw17233633065640870984:=Nat
def tw7277146826430856510:=Nat
def tw6378178910023398207:=Nat
def tw1192055116997030959:=Nat
def tw3218160257345371613:=Nat
def tw3150701697167293394:=Nat
def tw8702423683742317621:=Nat
def tw7857572531718805881:=Nat
def tw10816540656384594290:=Nat
def tw13415202802130945542:=Nat
def tw5263529271242839879:=Nat
def tw8638918401492172201:=Nat
def tw6394233293648344213:=Nat
def tw6612787590783868494:=Nat
def tw8327902316537061866:=Nat
def tw1071362298485488253:=Nat
def tw3611140507457505375:=Nat
def tw16766623755716282981:=Nat
def tw536270664633034274:=Nat
def tw2954839695627463148:=Nat
def tw4518076160053105945:=Nat
def tw15400420683853384659:=Nat
def tw10974217740693850929:=Nat
def tw11908736554514925901:=Nat
def tw6005071213396116129:=Nat
def tw9451688873586055104:=Nat
def tw14692555793571884150:=Nat
def tw9278692073509354927:=Nat
def tw18086094740082492278:=Nat
def tw7834517238100345101:=Nat
def tw8369108731828679207:=Nat
def tw15571517990761408317:=Nat
def tw3121549636346402267:=Nat
def tw13494302057807606958:=Nat
def tw11122269731977548115:=Nat
def tw5291296842072602137:=Nat
def tw10771257722478355769:=Nat
def tw3649605916588844330:=Nat
def tw8151953063584043606:=Nat
def tw13119929236968475464:=Nat
def tw11579644444307913842:=Nat
def tw16129103228864908939:=Nat
def tw13409205940790618540:=Nat
def tw11445029013042702751:=Nat
def tw15640148636369705978:=Nat
def tw5180162783702046680:=Nat
def tw1176653983250437396:=Nat
def tw12066480379118790970:=Nat
def tw9090253915794191469:=Nat
def tw5228038655456523353:=Nat
def tw16352128583742392394:=Nat
def tw16423148340817324938:=Nat
def tw11426843613041119072:=Nat
def tw2112160764780770227:=Nat
def tw8738549968830049829:=Nat
def tw6890365547286814734:=Nat
def tw3470574011740249137:=Nat
def tw16813291087221634148:=Nat
def tw12316506803517832609:=Nat
def tw2295949862759707169:=Nat
def tw14717894882333756960:=Nat
def tw16410497885333973636:=Nat
def tw6235782000541455637:=Nat
def tw15901723009912562515:=Nat
def tw8095057557446350714:=Nat
def tw13811262028885340136:=Nat
def tw4321539621394184373:=Nat
def tw15741415111323198224:=Nat
def tw9387844692266952601:=Nat
def tw12017161809135437003:=Nat
def tw238972147825818031:=Nat
def tw18306980163001357532:=Nat
def tw11440148407303523866:=Nat
def tw18287761805919846510:=Nat
def tw9735934057982549387:=Nat
def tw4265433406047597107:=Nat
def tw17880718822751696550:=Nat
def tw6322116045522888510:=Nat
def tw11143046491133060149:=Nat
def tw9763769840384485315:=Nat
def tw4084337979519735541:=Nat
def tw4312715208831376200:=Nat
def tw5080464401765099236:=Nat
def tw12160990501668143032:=Nat
def tw6732693190634359284:=Nat
def tw15838784048163701251:=Nat
def tw13017226355993021185:=Nat
def tw10410890035092517118:=Nat
def tw4429726522609583602:=Nat
def tw16052358888009638683:=Nat
def tw16502209152925982228:=Nat
def tw10901777989651307120:=Nat
def tw7103408363159664471:=Nat
def tw4530522567702848234:=Nat
def tw17183886932381766078:=Nat
def tw13168406308030293387:=Nat
def tw1021201129962790682:=Nat
def tw1151585362957435440:=Nat
def tw5181906625513954192:=Nat
def tw16692327436142378750:=Nat
def tw14200213920316437212:=Nat
def tw11078662789571111077:=Nat
def tw13685645357850427323:=Nat
def tw6587274021515804343:=Nat
def tw9533429146587445097:=Nat
def tw2178729016909355295:=Nat
def tw18038066630818260289:=Nat
def tw13855233453646997250:=Nat
def tw8172656674071083416:=Nat
def tw5587317247792807025:=Nat
def tw12198650343598814316:=Nat
def tw6398761915294292151:=Nat
def tw4184544626500972090:=Nat
def tw3896185393537627170:=Nat
def tw8279731800866479556:=Nat
def tw7377735464025093135:=Nat
def tw1103634220755314462:=Nat
def tw17485451358958219395:=Nat
def tw4290628333412372244:=Nat
def tw433176268212657671:=Nat
def tw5625132639584221659:=Nat
def tw3307864283181591765:=Nat
def tw1891791695947270807:=Nat
def tw12398124192448330970:=Nat
def tw16396408282614486404:=Nat
def tw936568725685738961:=Nat
def tw2692749461758893315:=Nat
def tw16841803840742016713:=Nat
def tw13247194532644933825:=Nat
def tw2657185357604103701:=Nat
def tw15555532710168721446:=Nat
def tw16030550384820314186:=Nat
def tw11484471162157139160:=Nat
def tw7420147491716068390:=Nat
def tw13417571138615027642:=Nat
def tw10330839779554880185:=Nat
def tw12258448946165537418:=Nat
def tw16015334995027120063:=Nat
def tw18160366780923300267:=Nat
def tw744166892833259627:=Nat
def tw17036064616166855876:=Nat
def tw16292246272371021469:=Nat
def tw3851453791920425022:=Nat
def tw17706259091340480048:=Nat
def tw4895890515032137854:=Nat
def tw13813985452608084:=Nat
def tw16124430434203469386:=Nat
def tw9372457085659362984:=Nat
def tw15149405509963946204:=Nat
def tw17437454249308464860:=Nat
def tw9399310750556458300:=Nat
def tw9312930393423927978:=Nat
def tw826728169395622315:=Nat
def tw13271323517398094182:=Nat
def tw5991534167838740703:=Nat
def tw2737953283170100865:=Nat
def tw4422165558604473774:=Nat
def tw4848675422338089240:=Nat
def tw8926257743243068929:=Nat
def tw13960341857649797694:=Nat
def tw13130659098659844655:=Nat
def tw10211409077858355419:=Nat
def tw4801706864552676929:=Nat
def tw8504175947922012672:=Nat
def tw5656274061759096222:=Nat
def tw5709460015703642581:=Nat
def tw3301401655837973247:=Nat
def tw2264222177021118140:=Nat
def tw5789590201751124329:=Nat
def tw3093674800335677480:=Nat
def tw10376139428090895579:=Nat
def tw15761616164937846611:=Nat
def tw8935257850799691091:=Nat
def tw6336525100072528859:=Nat
def tw933628962764142074:=Nat
def tw13708648117418158974:=Nat
def tw11036310969933459926:=Nat
def tw2707473300582111315:=Nat
def tw938485231572130282:=Nat
def tw1916019152476844122:=Nat
def tw856009018198332710:=Nat
def tw1498962181715663002:=Nat
def tw10156021138091510732:=Nat
def tw16766432414031825087:=Nat
def tw8237864888276630402:=Nat
def tw5404153896966466491:=Nat
def tw4430456394056214215:=Nat
def tw14496168835618616248:=Nat
def tw4103805638785882373:=Nat
def tw14556447815449832012:=Nat
def tw5409276797423024144:=Nat
def tw17781790191697586591:=Nat
def tw17845523175649571473:=Nat
def tw18366350281941834161:=Nat
def tw199855504871351085:=Nat
def tw3990700316101277271:=Nat
def tw10909517665009475274:=Nat
def tw1924820101294875861:=Nat
def tw1639400046110006451:=Nat
def tw5903308837358102555:=Nat
def tw16301871498471548050:=Nat
def tw8118736125327659279:=Nat
def tw15571125428348977002:=Nat
def tw2627869996825162177:=Nat
def tw3409031002933210259:=Nat
def tw14398261645297580236:=Nat
def tw5368217250401088429:=Nat
def tw4565030543192355117:=Nat
def tw13705051032339089716:=Nat
def tw6622422301077925765:=Nat
def tw4714685819480793373:=Nat
def tw10273633820470542625:=Nat
def tw7210200763027665902:=Nat
def tw822311222345886402:=Nat
def tw9711626780260357448:=Nat
def tw11339813824595193853:=Nat
def tw4091584014932301830:=Nat
def tw3765721118789004720:=Nat
def tw10375413038370455014:=Nat
def tw16888058500761207091:=Nat
def tw2981293431954709444:=Nat
def tw8427544672675403076:=Nat
def tw9212626770124543245:=Nat
def tw5734660667979632626:=Nat
def tw14504002991466546528:=Nat
def tw5293276340444353779:=Nat
def tw9781667017325544385:=Nat
def tw96646691609647086:=Nat
def tw6535864758562299155:=Nat
def tw8657232723060310423:=Nat
def tw2806505480300548275:=Nat
def tw15917953893992854340:=Nat
def tw1760401410877979590:=Nat
def tw287427376910364925:=Nat
def tw9447918894657093912:=Nat
def tw4644145855104813235:=Nat
def tw2752219883013240755:=Nat
def tw15339670063200084188:=Nat
def tw12370873538773848648:=Nat
def tw6364086413080560453:=Nat
def tw14666487379707554285:=Nat
def tw9089840667647732686:=Nat
def tw5874212493365834694:=Nat
def tw1556779687675422467:=Nat
def tw9234500801296885056:=Nat
def tw5084551736551892837:=Nat
def tw3742262008883875796:=Nat
end PySem.W.Fast
set_option maxRecDepth 100000 in
set_option maxHeartbeats 0 in
theorem PySem.Challenge.cw_whistlebook_k33_whole_chains_holds : PySem.Challenge.rw_whistlebook_k33_whole_chains.Holds := by
 w_on;o_law;k_head;(case hw=>w_witness2)
 k_fill
 refine K33.walk (l:=PySem.Challenge.rw_whistlebook_k33_whole_chains) rfl rfl (fun w h Y=>PySem.W.kIn_of Y) ?F
 case F =>
  intro w mg fa h KX G hmg
  refine' K33.zim KX G hmg ?zol ?zna ?zmi ?zly ?zl3 ?zl5 ?zog ?znx ?zmz ?znv ?znb ?zmy ?zos ?zoj ?zlq ?zmj ?zo2 ?zo3 ?zpx ?zo1 ?zpj ?zpu ?zpd ?zpp ?zpg ?zpe ?zm1 ?zl2 ?zps ?zpk ?zpi ?zpb ?zpr ?zpv ?zlm ?zpy ?zp5 ?zqa ?zp4 ?zp7 ?zp1 ?zmm ?zo6 ?zmx ?zon ?zo8 ?zo9 ?zo7 ?zph ?zpt ?zpf ?znm ?zpm ?zlw ?zl1 ?zml ?znp ?zlc ?zln ?zok ?zmv ?zo0 ?znt ?zmk ?zmr ?zoh ?zpo ?zn2 ?znj ?zou ?zop ?zn7 ?zma ?zpw ?zku ?znu ?zlk ?zm2 ?zlj ?zqj ?zky ?zp2 ?zqc ?zqb ?zp3 ?zmc ?zl8 ?zl0 ?zll ?zlr ?zmb ?zm0 ?zl7 ?l0 ?l1 ?l2 ?l3 ?l4 ?l5 ?l6 ?l7 ?l8 ?l9 ?l10 ?l11 ?l12 ?l13 ?l14 ?l15 ?l16 ?l17 ?l18 ?l19 ?l20 ?l21 ?l22 ?l23 ?l24 ?l25 ?l26 ?l27 ?l28 ?l29 ?l30 ?l31 ?l32 ?l33 ?l34 ?l35 ?l36 ?l37 ?l38 ?l39 ?l40 ?l41 ?l42 ?l43 ?l44 ?l45 ?l46 ?l47 ?l48 ?l49 ?l50 ?l51 ?l52 ?l53 ?l54 ?l55 ?l56 ?l57 ?l58 ?l59 ?l60 ?l61 ?l62 ?l63 ?l64 ?l65 ?l66 ?l67 ?l68 ?l69 ?l70 ?l71 ?l72 ?l73 ?l74 ?l75 ?l76 ?l77 ?l78 ?l79 ?l80 ?l81 ?l82 ?l83 ?l84 ?l85 ?l86
  (case zol|zna|zmi|zly|zl3|zl5|zog|znx|zmz|znv|znb|zmy|zos|zoj|zlq|zmj|zo2|zo3|zpx|zo1|zpj|zpu|zpd|zpp|zpg|zpe|zm1|zl2|zps|zpk|zpi|zpb|zpr|zpv|zlm|zpy|zp5|zqa|zp4|zp7|zp1|zmm|zo6|zmx|zon|zo8|zo9|zo7|zph|zpt|zpf|znm|zpm|zlw|zl1|zml|znp|zlc|zln|zpw|zku|znu|zlk|zm2|zlj|zqj|zky|zp2|zqc|zqb|zp3|zmc|zl8|zl0|zll|zlr|zmb|zm0|zl7=>(show _=_;k_is))
  (case zok|zmv|zo0|znt|zmk|zmr|zoh|zpo|zn2|znj|zou|zop|zn7|zma=>(show PySem.W.excIn _ _ _ _=true;k_exc))
  (case l0|l1|l2|l7|l8|l9|l10|l11|l20|l21|l22|l23|l24|l25|l26|l27|l36|l55|l56|l57|l58|l59|l60|l61|l62|l63|l64|l65|l66|l67|l68|l69|l70|l71|l72|l73|l74|l75|l76|l77|l78|l79|l80|l81|l82|l83|l84|l85|l86=>(constructor<;>(show _=_;k_is)))
  (case l3|l4|l5|l6|l12|l13|l14|l15|l16|l17|l18|l19|l28|l29|l30|l31|l32|l33|l34|l35|l37|l38|l39|l40|l41|l42|l43|l44|l45|l46|l47|l48|l49|l50|l51|l52|l53|l54=>(constructor<;>(show _=_;k_is)))
#print axioms PySem.Challenge.cw_whistlebook_k33_whole_chains_holds

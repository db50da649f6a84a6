import PyProof.Rows.All
import Wide.All
import OpenK.AllK
import Wide.FinOn
import PyProof.EqAt
import PyProof.EqKinds
import PyProof.TupleCall
import Lean
import KE.KDictList
import PyProof.MaxThree
import KE.LcSums
import PyProof.Rows.FactsN_abs
import PyProof.FactsAll.list_3
import PyProof.SeqI3
import PyProof.EnumIter
import PyProof.EnumMake
import PyProof.EnumFor
import PyProof.ZipIter
import PyProof.FactsAll.zip_1
import PyProof.DictIter
import PyProof.MinMaxWalk
import PyProof.Rows.TupDisplay
import PyProof.Rows.SetFrom
import PyProof.FactsAll.NoneType_1
import PyProof.StrCalls2
import PyProof.FactsAll.list_4
import PyProof.ListRange
import PySem.Challenge.RW_whistlebook_k28_told_lists_of_a_round
set_option bootstrap.genMatcherCode false
set_option compiler.extract_closed false
set_option genSizeOfSpec false
open PySem.W(Frag)
open Sum(inl inr)
local macro_rules|`(⋯)=>`(by first|decide +kernel|lia|omega|walk_at "ar")
local macro_rules|`(tactic|omega)=>`(tactic|lia)
abbrev zuw:=@List.length_map
abbrev zux:=@List.getElem?_eq_some_iff
abbrev zuy:=@List.getElem?_eq_getElem
abbrev zuz:=@List.length_append
abbrev zu0:=@List.mem_singleton
abbrev zu1:=@List.getElem?_map
abbrev zu2:=@List.mem_of_getElem?
abbrev zu3:=@decide_eq_true
abbrev zu4:=@List.mem_cons
abbrev zu5:=@List.map_append
abbrev zu6:=@List.mem_map
abbrev zu7:=@Nat.le_refl
abbrev zu8:=@List.mem_append
abbrev zu9:=@List.map_cons
abbrev zva:=@decide_eq_false
abbrev zvb:=@Nat.le_trans
abbrev zvc:=@List.size_toArray
abbrev zvd:=@List.take_succ_eq_append_getElem
abbrev zve:=@Int.toNat_natCast
abbrev zvf:=@List.take_length
abbrev zvg:=@List.mem_cons_of_mem
abbrev zvh:=@Bool.false_ne_true
abbrev zvi:=@List.length_cons
abbrev zvj:=@List.mem_append_right
abbrev zvk:=@Nat.lt_of_lt_of_le
abbrev zvl:=@beq_eq_false_iff_ne
abbrev zvm:=@List.nodup_cons
abbrev zvn:=@List.mem_append_left
abbrev zvo:=@Nat.zero_le
abbrev zvp:=@List.getD_eq_getElem?_getD
abbrev zvq:=@Nat.ne_of_lt
abbrev zvr:=@List.length_filter_le
abbrev zvs:=@List.getElem_mem
abbrev zvt:=@List.mem_cons_self
abbrev zvu:=@List.length_range
abbrev zvv:=@Int.emod_lt_of_pos
abbrev zvw:=@List.lookup_cons
abbrev zvx:=@List.mem_filter
abbrev zvy:=@List.mem_range
abbrev zvz:=@List.getElem?_append_right
abbrev zv0:=@Option.map_some
abbrev zv1:=@List.not_mem_nil
abbrev zv2:=@Int.emod_nonneg
abbrev zv3:=@List.getElem?_append_left
abbrev zv4:=@List.getElem?_set_ne
abbrev zv5:=@List.getElem?_set_self
abbrev zv6:=@List.getElem_of_mem
abbrev zv7:=@List.filter_cons
abbrev zv8:=@Option.isSome_iff_exists
abbrev zv9:=@List.filter_append
abbrev zwa:=@List.filter_cons_of_pos
abbrev zwb:=@List.filter_cons_of_neg
abbrev zwc:=@List.length_eq_zero_iff
abbrev zwd:=@Bool.and_eq_true
abbrev zwe:=@List.map_map
abbrev zwf:=@Int.zero_add
abbrev zwg:=@List.take_add_one
abbrev zwh:=@List.map_congr_left
abbrev zwi:=@Nat.le_succ_of_le
abbrev zwj:=@List.length_take_le
abbrev zwk:=@Nat.lt_of_le_of_lt
abbrev zwl:=@List.length_set
abbrev zwm:=@List.nodup_iff_pairwise_ne
abbrev zwn:=@Nat.lt_irrefl
abbrev zwo:=@List.mem_filterMap
abbrev zwp:=@List.nodup_nil
abbrev zwq:=@List.mem_of_mem_take
abbrev zwr:=@List.append_assoc
abbrev zws:=@List.filterMap_cons
abbrev zwt:=@Int.toNat_of_nonneg
abbrev zwu:=@List.mem_singleton_self
abbrev zwv:=@Option.map_eq_some_iff
abbrev zww:=@Bool.false_eq_true
abbrev zwx:=@List.find?_cons
abbrev zwy:=@List.filter_nil
abbrev zwz:=@List.any_cons
abbrev zw0:=@List.reverse_cons
abbrev zw1:=@Nat.lt_succ_of_lt
abbrev zw2:=@List.length_take
abbrev zw3:=@Bool.eq_iff_iff
abbrev zw4:=@List.append_nil
abbrev zw5:=@Nat.le_of_lt
set_option Elab.async false
set_option linter.all false
set_option maxRecDepth 100000
namespace L2
open PySem PySem.Spec PyProof.Rows
abbrev Key:=Sum Int Str
def Jy:Key->Value->Bool
 | .inl k,v=>Value.isInt k v
 | .inr x,v=>Value.isStrOf x v
def zlr(w:World):Key->Int
 | .inl k=>hashInt k
 | .inr x=>hashStr w x
theorem Yt:∀ {k:Key} {v:Value},Jy k v=true->(∃ i t,k=inl i/\v=Value.int i t)\/(∃ x t,k=inr x/\v=Value.str x t)
 | .inl i,v,h=>by
   obtain⟨t,e⟩:=Value.isInt_shape (k:=i) (v:=v) h;exact .inl ⟨i,t,rfl,e⟩
 | .inr x,v,h=>by
   obtain⟨t,e⟩:=Value.isStrOf_shape (x:=x) (v:=v) h;exact .inr ⟨x,t,rfl,e⟩
theorem zdd(i:Int)(t:Tok):Jy (.inl i) (.int i t)=true:=by simp[Jy,Value.isInt]
theorem zde(x:Str)(t:Tok):Jy (.inr x) (.str x t)=true:=by simp[Jy,Value.isStrOf]
theorem ziw(a b:Int):decide ((inl a:Key)=inl b)=(a == b):=by
 by_cases e:a=b
 ·subst e;simp
 ·have h:¬ (inl a:Key)=inl b:=fun q=>e (inl.inj q);rw[zva h];exact(zvl.mpr e).symm
theorem zix(a b:Str):decide ((inr a:Key)=inr b)=decide (a=b):=by
 by_cases e:a=b
 ·subst e;simp
 ·have h:¬ (inr a:Key)=inr b:=fun q=>e (inr.inj q);rw[zva h,zva e]
theorem ziy(a:Int)(b:Str):decide ((inl a:Key)=inr b)=false:=zva (fun q=>nomatch q)
theorem ziz(a:Str)(b:Int):decide ((inr a:Key)=inl b)=false:=zva (fun q=>nomatch q)
def Yn(prog:Program)(w:World):PySem.KeyKind prog w Key where
 is:=Jy
 hash:=zlr w
 inj:=fun v a b ha hb=>by
  rcases Yt ha with ⟨i,t,rfl,rfl⟩|⟨x,t,rfl,rfl⟩
  ·rcases Yt hb with ⟨j,u,rfl,e⟩|⟨y,u,rfl,e⟩
   ·injection e with e1 _;rw[e1]
   ·exact nomatch e
  ·rcases Yt hb with ⟨j,u,rfl,e⟩|⟨y,u,rfl,e⟩
   ·exact nomatch e
   ·injection e with e1 _;rw[e1]
 byValue:=fun k v h=>by
  rcases Yt h with ⟨i,t,rfl,rfl⟩|⟨x,t,rfl,rfl⟩<;>rfl
 pyHash:=fun hv h=>by
  rcases Yt hv with ⟨i,t,rfl,rfl⟩|⟨x,t,rfl,rfl⟩
  ·exact wpAny_pyHash_int h
  ·exact wpAny_pyHash_str h
 eqBool:=fun hu hv h=>by
  rcases Yt hu with ⟨i,t,rfl,rfl⟩|⟨x,t,rfl,rfl⟩
  ·rcases Yt hv with ⟨j,u,rfl,rfl⟩|⟨y,u,rfl,rfl⟩
   ·rw[ziw] at h;exact wpAny_eqBool_int h
   ·rw[ziy] at h;exact SeqAt.EqAt.int_str i t y u _ _ _ _ h
  ·rcases Yt hv with ⟨j,u,rfl,rfl⟩|⟨y,u,rfl,rfl⟩
   ·rw[ziz] at h;exact SeqAt.EqAt.str_int x t j u _ _ _ _ h
   ·rw[zix] at h;exact wpAny_eqBool_str h
 «strs»:=fun k x t v h=>by
  rcases Yt h with ⟨i,u,rfl,e⟩|⟨y,u,rfl,e⟩
  ·exact nomatch e
  ·injection e with e1 _;subst e1;cases v<;>rfl
theorem C8(prog:Program)(w:World)(i:Int)(t:Tok):(Yn prog w).is (.inl i) (.int i t)=true:=zdd i t
theorem C9(prog:Program)(w:World)(x:Str)(t:Tok):(Yn prog w).is (.inr x) (.str x t)=true:=zde x t
inductive V where
 | non|bl (b:Bool)|int (i:Int)|str (x:Str)|byt (b:Array UInt8)|flt (b:UInt64)|ref (a:Addr)|ty (n:String)
 deriving DecidableEq
def RelV:V->Value->Prop
 | .non,u=>u=Value.none
 | .bl b,u=>u=Value.bool b
 | .int i,u=>∃ t,u=Value.int i t
 | .str x,u=>∃ t,u=Value.str x t
 | .byt b,u=>∃ t,u=Value.bytes b t
 | .flt b,u=>∃ t,u=Value.float b t
 | .ref a,u=>u=Value.ref a
 | .ty n,u=>u=Value.type n
abbrev Vals:List V->List Value->Prop:=Paired RelV
theorem Vals.length(r:Vals xs us):xs.length=us.length:=Paired.length r
theorem Vals.get:∀ {xs:List V} {us:List Value} {i:Nat} {x:V},Vals xs us->xs[i]?=some x->∃ u,us[i]?=some u/\RelV x u
 | _,_,_,_,.nil,e=>by simp at e
 | _,_,0,_,.cons r _,e=>by simp at e;subst e;exact⟨_,rfl,r⟩
 | _,_,i+1,x,.cons _ t,e=>by
   obtain⟨u,h1,h2⟩:=Vals.get (i:=i) (x:=x) t (by simpa using e);exact⟨u,by simpa using h1,h2⟩
theorem Vals.set(r:RelV x u):∀ {xs:List V} {us:List Value} (i:Nat),Vals xs us->Vals (xs.set i x) (us.set i u)
 | _,_,_,.nil=>.nil
 | _,_,0,.cons _ t=>.cons r t
 | _,_,i+1,.cons q t=>.cons q (Vals.set r i t)
theorem Vals.append:∀ {xs ys:List V} {us ws:List Value},Vals xs us->Vals ys ws->Vals (xs++ys) (us++ws)
 | _,_,_,_,.nil,s=>s
 | _,_,_,_,.cons r t,s=>.cons r (Vals.append t s)
theorem Vals.take:∀ {xs:List V} {us:List Value} (n:Nat),Vals xs us->Vals (xs.take n) (us.take n)
 | _,_,0,_=>.nil
 | _,_,_+1,.nil=>.nil
 | _,_,n+1,.cons r t=>.cons r (Vals.take n t)
theorem Vals.drop:∀ {xs:List V} {us:List Value} (n:Nat),Vals xs us->Vals (xs.drop n) (us.drop n)
 | _,_,0,r=>r
 | _,_,_+1,.nil=>.nil
 | _,_,n+1,.cons _ t=>Vals.drop n t
def RelO:Option V->Option Value->Prop
 | some v,some u=>RelV v u
 | none,none=>True
 | _,_=>False
def KV{κ:Type}:List (κ×V)->List (κ×Value)->Prop:=Paired fun (p:κ×V) (q:κ×Value)=>p.1=q.1/\RelV p.2 q.2
def kV:Key->V
 | .inl i=>.int i
 | .inr x=>.str x
inductive HO where
 | lst (xs:List V)
 | tup (xs:List V)
 | dK (kvs:List (Key×V))|dT (kvs:List (List Key×V))
 | set (S:Int->Bool) (n:Nat)
 | ins (C dx:Addr) (fs:List (Str×V))
 | own (x:Addr)
 | xd (fs:List (Str×V))
 | met (f x:Addr)
 | rng (lo hi:Int)
 | frz (o:Obj) (u:HO)
 | tbl (ps:Array Value)
 | ext (φ:Heap->Prop)
abbrev Hp:=Addr->Option HO
def upd(H:Hp)(a:Addr)(o:HO):Hp:=fun b=>if b=a then some o else H b
theorem Ze:upd H a o a=some o:=by unfold upd;rw[if_pos rfl]
theorem Zf(h:b≠a):upd H a o b=H b:=by unfold upd;rw[if_neg h]
theorem N1:upd (upd H a o) a u=upd H a u:=by
 funext b;unfold upd;split<;>rfl
theorem Yw{H:Hp}{a b:Addr}{o u:HO}(h:H a=some o)(h':H b=some u)(d:o≠u):a≠b:=by
 intro e;subst e;rw[h] at h';exact d (Option.some.inj h')
theorem Zh{H:Hp}{a b:Addr}{o:HO}(h:H a=some o)(h':H b=none):a≠b:=by
 intro e;subst e;rw[h] at h';cases h'
section
variable(P:Program)(w:World)
def Y6(H:Hp)(h:Heap)(a:Addr):HO->Prop
 | .lst xs=>xs.length<=sizeLine/\∃ (its:List Value) (n:Nat),Vals xs its/\h.get? a=some { cls:=.type "list",data:=.seq its.toArray n }
 | .tup xs=>xs.length<=sizeLine/\∃ its:List Value,Vals xs its/\IsTup h a its.toArray
 | .dK kvs=>kvs.length<=sizeLine/\(a == sysModules)=false/\∃ vs,KV kvs vs/\h.DictOf (Yn P w) a vs
 | .dT kvs=>kvs.length<=sizeLine/\(a == sysModules)=false/\∃ xs:List (List Key×Addr×Value),
   Paired (fun (p:List Key×V) (q:List Key×Addr×Value)=>p.1=q.1/\H q.2.1=some (.tup (p.1.map kV))/\RelV p.2 q.2.2) kvs xs /\
   ∃ o es ep,h.get? a=some o/\o.ExactDict/\o.data=.dict es ep/\es.toList=xs.map (entryOfKey (tupleKind (Yn P w)))/\(xs.map (·.1)).Nodup
 | .set S n=>h.SetOf (intKind P w) a S n
 | .ins C dx fs=>H dx=some (.own a)/\fs.length<=1000/\dx≠a/\h.get? a=some (PySem.W.instObj C dx) /\
   ∃ mA,h.Ns1 dx mA/\(∀ f,RelO (fs.lookup f) (mA f))/\PySem.Within mA (fs.map (·.1))
 | .own _=>∃ o,h.get? a=some o
 | .xd fs=>∃ mA,h.Ns1 a mA/\∀ f,RelO (fs.lookup f) (mA f)
 | .rng lo hi=>∃ t u v,h.get? a=some { cls:=.type "range",data:=.fields #[.int lo t,.int hi u,.int 1 v] }
 | .frz o u=>h.get? a=some o/\Y6 H h a u
 | .tbl ps=>h.get? a=some { cls:=.none,data:=.fields ps }
 | .met f x=>h.get? a=some (PySem.W.methodObj (.ref f) (.ref x))
 | .ext φ=>φ h/\(∃ o,h.get? a=some o)/\∀ h1 h2:Heap,φ h1->(∀ o,h1.get? a=some o->h2.get? a=some o)->φ h2
def HOk(H:Hp)(h:Heap):Prop:=∀ a o,H a=some o->Y6 P w H h a o
end
section
variable{P:Program}{w:World}{H H':Hp}{h h':Heap}{a:Addr}{o:HO}
theorem Y6.lt(x:Y6 P w H h a o):a<h.objs.size:=by
 cases o with
 | lst xs=>obtain⟨_,_,_,_,e⟩:=x;exact Heap.lt_size e
 | tup xs=>obtain⟨_,_,_,p⟩:=x;exact p.lt
 | dK kvs=>obtain⟨_,_,_,_,o,_,_,e,_⟩:=x;exact Heap.lt_size e
 | dT kvs=>obtain⟨_,_,_,_,o,_,_,e,_⟩:=x;exact Heap.lt_size e
 | set S n=>obtain⟨o,_,_,_,e,_⟩:=x;exact Heap.lt_size e
 | ins C dx fs=>obtain⟨_,_,_,e,_⟩:=x;exact Heap.lt_size e
 | own y=>obtain⟨_,e⟩:=x;exact Heap.lt_size e
 | xd fs=>obtain⟨_,⟨_,_,_,e,_⟩,_⟩:=x;exact Heap.lt_size e
 | rng lo hi=>obtain⟨_,_,_,e⟩:=x;exact Heap.lt_size e
 | frz ob u=>obtain⟨e,_⟩:=x;exact Heap.lt_size e
 | tbl ps=>exact Heap.lt_size (show h.get? a=some _ from x)
 | met f y=>exact Heap.lt_size (show h.get? a=some _ from x)
 | ext φ=>obtain⟨_,⟨_,e⟩,_⟩:=x;exact Heap.lt_size e
theorem Paired.mapP:∀ {l₁:List α} {l₂:List β},Paired F l₁ l₂->(∀ a b,F a b->G a b)->Paired G l₁ l₂
 | _,_,.nil,_=>.nil
 | _,_,.cons r t,f=>.cons (f _ _ r) (Paired.mapP t f)
theorem Y6.stay(x:Y6 P w H h a o)(k:∀ b u,(b=a\/H b=some (.own a))->h.get? b=some u->h'.get? b=some u)
  (ho:∀ b,H b=some (.own a)->H' b=some (.own a)) (ht:∀ b xs,H b=some (.tup xs)->H' b=some (.tup xs)):Y6 P w H' h' a o:=by
 induction o with
 | lst xs=>obtain⟨z,its,n,r,e⟩:=x;exact⟨z,its,n,r,k _ _ (.inl rfl) e⟩
 | tup xs=>obtain⟨z,its,r,ob,e,c⟩:=x;exact⟨z,its,r,ob,k _ _ (.inl rfl) e,c⟩
 | dK kvs=>obtain⟨z,y,vs,r,ob,es,ep,e,c⟩:=x;exact⟨z,y,vs,r,ob,es,ep,k _ _ (.inl rfl) e,c⟩
 | dT kvs =>
   obtain⟨z,y,xs,r,ob,es,ep,e,c⟩:=x;exact⟨z,y,xs,Paired.mapP r fun p q z=>⟨z.1,ht _ _ z.2.1,z.2.2⟩,ob,es,ep,k _ _ (.inl rfl) e,c⟩
 | set S n=>obtain⟨ob,es,ep,t,e,c⟩:=x;exact⟨ob,es,ep,t,k _ _ (.inl rfl) e,c⟩
 | ins C dx fs =>
   obtain⟨d,z,ne,e,mA,⟨od,es,ep,e2,c⟩,r⟩:=x;exact⟨ho _ d,z,ne,k _ _ (.inl rfl) e,mA,⟨od,es,ep,k _ _ (.inr d) e2,c⟩,r⟩
 | own y=>obtain⟨ob,e⟩:=x;exact⟨ob,k _ _ (.inl rfl) e⟩
 | xd fs=>obtain⟨mA,⟨od,es,ep,e,c⟩,r⟩:=x;exact⟨mA,⟨od,es,ep,k _ _ (.inl rfl) e,c⟩,r⟩
 | rng lo hi=>obtain⟨t,u,v,e⟩:=x;exact⟨t,u,v,k _ _ (.inl rfl) e⟩
 | frz ob u ih=>obtain⟨e,q⟩:=x;exact⟨k _ _ (.inl rfl) e,ih q⟩
 | tbl ps =>
   have e:h.get? a=some { cls:=.none,data:=.fields ps }:=x;show h'.get? a=some { cls:=.none,data:=.fields ps };exact k a _ (.inl rfl) e
 | met f y =>
   have e:h.get? a=some (PySem.W.methodObj (.ref f) (.ref y)):=x;show h'.get? a=some (PySem.W.methodObj (.ref f) (.ref y));exact k a _ (.inl rfl) e
 | ext φ=>obtain⟨p,⟨o,e⟩,st⟩:=x;exact⟨st _ _ p fun o q=>k _ _ (.inl rfl) q,⟨o,k _ _ (.inl rfl) e⟩,st⟩
theorem HOk.lt(x:HOk P w H h)(e:H a=some o):a<h.objs.size:=(x a o e).lt
theorem HOk.fresh(x:HOk P w H h)(e:h.objs.size<=a):H a=none:=by
 cases q:H a with
 | none=>rfl
 | some u=>exact absurd (zvk (x.lt q) e) (zwn _)
theorem HOk.kept(x:HOk P w H h)(k:∀ b u,h.get? b=some u->h'.get? b=some u):HOk P w H h':=fun a o e =>
 (x a o e).stay (fun b u _ q=>k b u q) (fun _ q=>q) fun _ _ q=>q
theorem HOk.laid(x:HOk P w H h)(k:∀ b u,h.get? b=some u->h'.get? b=some u)(hp:h.objs.size<=a)(new:Y6 P w (upd H a o) h' a o):HOk P w (upd H a o) h':=fun b u e=>by
 have hn:=x.fresh hp;by_cases hb:b=a
 ·subst hb;rw[Ze] at e;cases e;exact new
 ·rw[Zf hb] at e;exact(x b u e).stay (fun c v _ q=>k c v q) (fun c q=>by rw[Zf (Zh q hn)];exact q) fun c xs q=>by rw[Zf (Zh q hn)];exact q
end
def Rd(H:Hp)(a:Addr)(u:HO):Prop:=H a=some u\/∃ o,H a=some (.frz o u)
theorem Rd.ok(r:Rd H a u)(x:HOk P w H h):Y6 P w H h a u:=by
 rcases r with r|⟨o,r⟩
 ·exact x a u r
 ·obtain⟨_,q⟩:=x a _ r;exact q
def Mut:Option HO->Prop
 | some (.lst _)=>True
 | some (.dK _)=>True
 | some (.dT _)=>True
 | some (.set _ _)=>True
 | some (.ins _ _ _)=>True
 | some (.ext _)=>True
 | _=>False
section
variable{P:Program}{w:World}{H:Hp}{h h':Heap}{x e:Addr}{o':HO}
theorem HOk.write(ok:HOk P w H h)(mu:Mut (H x))(he:e=x\/H e=some (.own x))(k:∀ b u,b≠e->h.get? b=some u->h'.get? b=some u)(heo:∃ u,h'.get? e=some u)
  (new:Y6 P w (upd H x o') h' x o'):HOk P w (upd H x o') h':=fun b u q=>by
 have nown:∀ c y,H c=some (.own y)->c≠x:=fun c y r z=>by subst z;rw[r] at mu;exact mu
 have ntup:∀ c xs,H c=some (.tup xs)->c≠x:=fun c xs r z=>by subst z;rw[r] at mu;exact mu
 by_cases hb:b=x
 ·subst hb;rw[Ze] at q;cases q;exact new
 ·rw[Zf hb] at q;by_cases hbe:b=e
  ·have q':H b=some (.own x):=by
    rcases he with z|z
    ·exact absurd (hbe.trans z) hb
    ·rw[hbe];exact z
   rw[q] at q';cases q';obtain⟨v,hv⟩:=heo;exact⟨v,by rw[hbe];exact hv⟩
  ·refine(ok b u q).stay (fun c v hc r=>k c v ?_ r) (fun c r=>by rw[Zf (nown c b r)];exact r) fun c xs r=>by rw[Zf (ntup c xs r)];exact r
   rcases hc with rfl|hc
   ·exact hbe
   ·rintro rfl;rcases he with z|z
    ·exact nown c b hc z
    ·rw[hc] at z;cases z;exact hb rfl
end
structure Un(fs ex:List Addr)(H H':Hp)(h h':Heap):Prop where
 keep:∀ b o,h.get? b=some o->H b=none->b∉fs->b∉ex->h'.get? b=some o
 slot:∀ b o,h.get? b=some o->H b=none->b∈fs->b∉ex->∃ sl,h'.get? b=some { o with slots:=sl }
 free:∀ b o,h.get? b=some o->H b=none->b∉ex->H' b=none
 there:∀ b o,h.get? b=some o->b∉ex->∃ o',h'.get? b=some o'
 tups:∀ b xs,H b=some (.tup xs)->H' b=some (.tup xs)
 frzs:∀ b o u,H b=some (.frz o u)->H' b=some (.frz o u)
 tbls:∀ b ps,H b=some (.tbl ps)->∃ more,H' b=some (.tbl (ps++more))
section
variable{fs fs' ex ex':List Addr}{H H1 H2:Hp}{h h1 h2 h':Heap}{a x e:Addr}{o:HO}
theorem Un.any(u:Un fs ex H H1 h h1)(q:h.get? b=some ob)(n:H b=none)(hx:b∉ex):∃ sl,h1.get? b=some { ob with slots:=sl }:=by
 by_cases hb:b∈fs
 ·exact u.slot b ob q n hb hx
 ·exact⟨ob.slots,u.keep b ob q n hb hx⟩
theorem Un.kept(k:∀ b u,h.get? b=some u->h'.get? b=some u):Un fs ex H H h h' :=
 ⟨fun b ob q _ _ _=>k b ob q,fun b ob q _ _ _=>⟨ob.slots,k b ob q⟩,fun _ _ _ n _=>n,fun b ob q _=>⟨ob,k b ob q⟩,fun _ _ q=>q,fun _ _ _ q=>q,fun _ ps q=>⟨#[],by rw[q];simp⟩⟩
theorem Un.refl:Un fs ex H H h h:=Un.kept fun _ _ q=>q
theorem Un.laid(k:∀ b u,h.get? b=some u->h'.get? b=some u)(hp:h.objs.size<=a)(hn:H a=none):Un fs ex H (upd H a o) h h' where
 keep:=fun b u q _ _ _=>k b u q
 slot:=fun b u q _ _ _=>⟨u.slots,k b u q⟩
 free:=fun b u q n _=>by rw[Zf (zvq (zvk (Heap.lt_size q) hp))];exact n
 there:=fun b u q _=>⟨u,k b u q⟩
 tups:=fun b xs q=>by rw[Zf (Zh q hn)];exact q
 frzs:=fun b u xs q=>by rw[Zf (Zh q hn)];exact q
 tbls:=fun b ps q=>⟨#[],by rw[Zf (Zh q hn),q];simp⟩
theorem Un.write(mu:Mut (H x))(he:e=x\/H e=some (.own x))(k:∀ b u,b≠e->h.get? b=some u->h'.get? b=some u)(heo:∃ u,h'.get? e=some u):Un fs ex H (upd H x o) h h':=by
 have hx:∀ b,H b=none->b≠x:=fun b n z=>by subst z;rw[n] at mu;exact mu
 have hb:∀ b,H b=none->b≠e:=fun b n z=>by
  subst z;rcases he with r|r
  ·exact hx b n r
  ·rw[n] at r;cases r
 have hm:∀ b u,H b=some u->¬ Mut (some u)->b≠x:=fun b u q nm z=>by subst z;rw[q] at mu;exact nm mu
 refine⟨fun b u q n _ _=>k b u (hb b n) q,fun b u q n _ _=>⟨u.slots,k b u (hb b n) q⟩,fun b u q n _=>by rw[Zf (hx b n)];exact n,fun b u q _=>?_,
  fun b xs q=>by rw[Zf (hm b _ q fun z=>z)];exact q,fun b u xs q=>by rw[Zf (hm b _ q fun z=>z)];exact q,fun b ps q=>⟨#[],by rw[Zf (hm b _ q fun z=>z),q];simp⟩⟩
 by_cases hbe:b=e
 ·subst hbe;exact heo
 ·exact⟨u,k b u hbe q⟩
end
def trk(h:Heap)(H:Hp):List Addr:=(List.range h.objs.size).filter fun a=>(H a).isSome
def Dw(h:Heap)(H:Hp):Heap:=PySem.W.hideAll h (trk h H)
theorem zdf(h:Heap)(H:Hp):(Dw h H).objs.size=h.objs.size:=PySem.W.hideAll_size _ _
theorem ze1(e:h.get? b=some o)(n:H b=none):(Dw h H).get? b=some o :=
 PySem.W.hideAll_get _ e fun hm=>by
  have q:(H b).isSome=true:=(zvx.mp hm).2;rw[n] at q;simp at q
theorem zg4(e:(Dw h H).get? b=some o):h.get? b=some o/\H b=none:=by
 have e':h.get? b=some o:=PySem.W.of_hideAll (trk h H) e;refine⟨e',?_⟩;cases q:H b with
 | none=>rfl
 | some x =>
   have hm:b∈trk h H:=zvx.mpr ⟨zvy.mpr (Heap.lt_size e'),by simp[q]⟩;have z:(Dw h H).get? b=none:=PySem.W.hideAll_none (trk h H) hm;rw[z] at e;cases e
structure Mod(K:Frag)(mg:Str->Option Value)(base:Heap):Prop where
 kin:K.In base
 glob:base.Ns mainGlobals mg
 blt:∃ mb,base.Ns builtinsNs mb/\∀ x:Str,x≠"__name__"->mb x=bootBuiltins x
 nolimit:base.NoLimit
structure Cx where
 prog:Program
 w:World
 K:Frag
 mg:Str->Option Value
 base:Heap
 A:Around
 N:List Str
 s₀:Shared
 H₀:Hp
 env:Env
 outer:List Env
 stack:List Env
 ex:List Addr
 fn:Str->Bool
 calm:Bool
 pn:List (Addr×Obj)
 xe:Value->Shared->Prop
 lk:List (Option V):=[]
def frs(l:List Env):List Addr:=l.filterMap (·.frame)
abbrev Cx.fs(X:Cx):List Addr:=frs X.outer
def Vis(sc:Scope)(x:Str):Prop:=sc.names.lookup x=some .local\/sc.names.lookup x=some .cell\/sc.names.lookup x=some .free
def Loc(sc:Scope)(x:Str):Prop:=sc.names.lookup x=some .local\/sc.names.lookup x=some .cell
def Look(env:Env)(h:Heap)(m:Str->Option Value)(x:Str)(u:Value):Prop :=
 (env.kindOf x=some .local/\m x=some u)\/((env.kindOf x=some .cell\/env.kindOf x=some .free)/\∃ c,env.cells.lookup x=some c/\h.IsCell c (some u))
structure Cx.Ok(X:Cx):Prop where
 mod:Mod X.K X.mg X.base
 kind:X.env.scope.kind=.function
 glob:X.env.globals=mainGlobals
 blt:X.env.builtins=builtinsNs
 above:X.s₀.heap.objs.size<=X.env.locals
 inj:∀ x y c,X.env.cells.lookup x=some c->X.env.cells.lookup y=some c->x=y
 has:∀ x,(X.env.kindOf x=some .cell\/X.env.kindOf x=some .free)->∃ c,X.env.cells.lookup x=some c
 cab:∀ x c,X.fn x=true->X.env.cells.lookup x=some c->X.s₀.heap.objs.size<=c
 hd:X.calm=true->X.A.handled=none
 frames:X.A.frames=some X.stack
 stk:X.stack=X.outer\/(X.stack=X.env :: X.outer/\X.env.frame=some X.env.locals)
 exf:∀ b∈X.ex,b≠X.env.locals/\∀ x c,X.env.cells.lookup x=some c->c≠b
 bs:∀ b o,X.base.get? b=some o->X.s₀.heap.get? b=some o/\X.H₀ b=none
 bsz:X.base.objs.size<=X.s₀.heap.objs.size
 noex:∀ b o,X.base.get? b=some o->b∉X.ex
 exfs:∀ b∈X.ex,b∉X.fs
 funs:X.s₀.heap.FunFrames X.base X.outer
 frf:∀ b∈X.fs,X.H₀ b=none
structure Inv(X:Cx)(pins:List (Addr×Obj))(σ:List (Option V))(H:Hp)(s:Shared):Prop where
 ok:X.Ok
 os:s.os=X.s₀.os
 bare:AllBare s.gens
 base:Un X.fs X.ex X.H₀ H X.s₀.heap s.heap
 loc:∃ m,s.heap.Ns X.env.locals m/\∀ (i:Nat) (x:Str) (v:V),X.N[i]?=some x->(σ[i]?=some (some v)\/X.lk[i]?=some (some v))->Vis X.env.scope x->∃ u,RelV v u/\Look X.env s.heap m x u
 cell:∀ x c,X.env.cells.lookup x=some c->∃ v,s.heap.IsCell c v
 free:H X.env.locals=none
 freeC:∀ x c,X.env.cells.lookup x=some c->H c=none
 pin:∀ p∈X.pn++pins,s.heap.get? p.1=some p.2/\H p.1=none/\p.1≠X.env.locals/\p.1∉X.fs/\∀ v,p.2.data≠.cell v
 hok:HOk X.prog X.w H s.heap
 len:σ.length=X.N.length
section
variable{X:Cx}{pins:List (Addr×Obj)}{σ:List (Option V)}{H H':Hp}{s:Shared}{h':Heap}
theorem Cx.Ok.nofr(ok:X.Ok)(e:X.base.get? b=some o):b∉X.fs:=fun hb=>by
 have:=(ok.funs.mem hb).1;rw[e] at this;cases this
theorem Inv.bs(I:Inv X pins σ H s):∀ b o,X.base.get? b=some o->s.heap.get? b=some o/\H b=none:=fun b o e =>
 ⟨I.base.keep b o (I.ok.bs b o e).1 (I.ok.bs b o e).2 (I.ok.nofr e) (I.ok.noex b o e),I.base.free b o (I.ok.bs b o e).1 (I.ok.bs b o e).2 (I.ok.noex b o e)⟩
theorem Inv.bk(I:Inv X pins σ H s):∀ b o,X.base.get? b=some o->s.heap.get? b=some o:=fun b o e=>(I.bs b o e).1
theorem Inv.mod(I:Inv X pins σ H s):Mod X.K X.mg X.base:=I.ok.mod
theorem Inv.kIn(I:Inv X pins σ H s):X.K.In s.heap:=I.ok.mod.kin.keeps I.bk
theorem Inv.lt(I:Inv X pins σ H s):X.env.locals<s.heap.objs.size:=let ⟨_,hn,_⟩:=I.loc;hn.lt
theorem Inv.sz(I:Inv X pins σ H s):X.s₀.heap.objs.size<=s.heap.objs.size:=zvb I.ok.above (zw5 I.lt)
theorem Inv.nofs(I:Inv X pins σ H s)(h:s.heap.objs.size<=a):a∉X.fs:=fun hb=>by
 obtain⟨_,o,ho,_⟩:=I.ok.funs.mem hb;exact absurd (zvk (Heap.lt_size ho) (zvb I.sz h)) (zwn _)
theorem Inv.cne(I:Inv X pins σ H s):∀ x c,X.env.cells.lookup x=some c->c≠X.env.locals:=fun x c e z=>by
 obtain⟨v,o,ho,hd⟩:=I.cell x c e;obtain⟨m,⟨o',es,ep,ho',hd',_⟩,_⟩:=I.loc;rw[z,ho'] at ho;cases ho;rw[hd'] at hd;cases hd
theorem Inv.funs(I:Inv X pins σ H s):s.heap.FunFrames X.base X.outer:=by
 have all:∀ (l:List Env),(∀ b∈frs l,b∈X.fs)->X.s₀.heap.FunFrames X.base l->s.heap.FunFrames X.base l:=by
  intro l
  induction l with
  | nil=>intro _ _;trivial
  | cons env r ih =>
    intro hs hl;obtain⟨hk,⟨L,o,hf,hn,ho,hd⟩,hr⟩:=hl;have hL:L∈X.fs:=hs L (by unfold frs;rw[zws,hf];exact zvt);obtain⟨sl,e⟩:=I.base.slot L o ho (I.ok.frf L hL) hL fun z=>I.ok.exfs L z hL;exact⟨hk,⟨L,_,hf,hn,e,hd⟩,ih (fun b hb=>hs b (by unfold frs;rw[zws,hf];exact zvg _ hb)) hr⟩
 exact all X.outer (fun _ hb=>hb) I.ok.funs
theorem Inv.stack(I:Inv X pins σ H s):s.heap.FunFrames X.base X.stack:=by
 rcases I.ok.stk with e|⟨e,hf⟩
 ·rw[e];exact I.funs
 ·rw[e];obtain⟨m,hn,_⟩:=I.loc;refine .cons (by rw[I.ok.kind];decide) hf hn ?_ I.funs;exact Heap.get?_none_of_le (zvb I.ok.bsz I.ok.above)
theorem Inv.stkSub(I:Inv X pins σ H s):∀ b∈frs X.stack,b∈X.env.locals :: X.fs:=fun b hb=>by
 rcases I.ok.stk with e|⟨e,hf⟩
 ·rw[e] at hb;exact zvg _ hb
 ·rw[e] at hb;unfold frs at hb;rw[zws,hf] at hb;exact hb
theorem Inv.stkFree(I:Inv X pins σ H s):∀ b∈frs X.stack,H b=none:=fun b hb=>by
 rcases zu4.mp (I.stkSub b hb) with e|hb
 ·rw[e];exact I.free
 ·obtain⟨_,o,ho,_⟩:=I.ok.funs.mem hb;exact I.base.free b o ho (I.ok.frf b hb) fun z=>I.ok.exfs b z hb
theorem Inv.step{g':Array GenState}{t':Nat}{d':Drawn}{ch:List Addr}(I:Inv X pins σ H s)
  (hch:∀ b∈ch,(b∈X.ex\/X.s₀.heap.objs.size<=b)/\b≠X.env.locals/\(∀ x c,X.env.cells.lookup x=some c->c≠b)/\∀ p∈X.pn++pins,p.1≠b)
  (keep:∀ b o,b≠X.env.locals->b∉X.fs->b∉ch->s.heap.get? b=some o->H b=none->h'.get? b=some o)
  (slot:∀ b o,b≠X.env.locals->b∈X.fs->b∉ch->s.heap.get? b=some o->H b=none->∃ sl,h'.get? b=some { o with slots:=sl }) (free:∀ b o,b∉ch->s.heap.get? b=some o->H b=none->H' b=none)
  (there:∀ b o,b∉ch->s.heap.get? b=some o->∃ o',h'.get? b=some o')
  (tups:∀ b xs,H b=some (.tup xs)->H' b=some (.tup xs)) (frzs:∀ b o u,H b=some (.frz o u)->H' b=some (.frz o u)) (tbls:∀ b ps,H b=some (.tbl ps)->∃ more,H' b=some (.tbl (ps++more)))
  (ns:∀ m,s.heap.Ns X.env.locals m->h'.Ns X.env.locals m) (hok:HOk X.prog X.w H' h') (hg:AllBare g') :
  Inv X pins σ H' { s with heap:=h',gens:=g',drawn:=d',toks:=t' }:=by
 have neL:∀ b o,X.s₀.heap.get? b=some o->b≠X.env.locals:=fun b o e=>zvq (zvk (Heap.lt_size e) I.ok.above);have neC:∀ b o,X.s₀.heap.get? b=some o->b∉X.ex->b∉ch:=fun b o e hx hb=>by
  rcases(hch b hb).1 with z|z
  ·exact hx z
  ·exact absurd (zvk (Heap.lt_size e) z) (zwn _)
 have cellK:∀ x c,X.env.cells.lookup x=some c->∀ v,s.heap.IsCell c v->h'.IsCell c v:=fun x c e v ⟨o,ho,hd⟩=>by
  have nch:c∉ch:=fun z=>(hch c z).2.2.1 x c e rfl;by_cases hc:c∈X.fs
  ·obtain⟨sl,q⟩:=slot c o (I.cne x c e) hc nch ho (I.freeC x c e);exact⟨_,q,hd⟩
  ·exact⟨o,keep c o (I.cne x c e) hc nch ho (I.freeC x c e),hd⟩
 refine⟨I.ok,I.os,hg,⟨fun b o e n hb hx=>?_,fun b o e n hb hx=>?_,fun b o e n hx=>?_,fun b o e hx=>?_,fun b xs e=>tups b xs (I.base.tups b xs e),fun b o xs e=>frzs b o xs (I.base.frzs b o xs e),fun b ps e=>?_⟩,?_,fun x c e=>?_,?_,fun x c e=>?_,fun p hp=>?_,hok,I.len⟩
 ·exact keep b o (neL b o e) hb (neC b o e hx) (I.base.keep b o e n hb hx) (I.base.free b o e n hx)
 ·obtain⟨sl,e1⟩:=I.base.slot b o e n hb hx;obtain⟨sl',e2⟩:=slot b _ (neL b o e) hb (neC b o e hx) e1 (I.base.free b o e n hx);exact⟨sl',e2⟩
 ·obtain⟨o',e1⟩:=I.base.there b o e hx;exact free b o' (neC b o e hx) e1 (I.base.free b o e n hx)
 ·obtain⟨o',e1⟩:=I.base.there b o e hx;exact there b o' (neC b o e hx) e1
 ·obtain⟨m1,e1⟩:=I.base.tbls b ps e;obtain⟨m2,e2⟩:=tbls b _ e1;exact⟨m1++m2,by rw[e2,Array.append_assoc]⟩
 ·obtain⟨m,hn,hl⟩:=I.loc;refine⟨m,ns m hn,fun i x v e1 e2 e3=>?_⟩;obtain⟨u,r,l⟩:=hl i x v e1 e2 e3;refine⟨u,r,?_⟩;rcases l with l|⟨k,c,e,z⟩
  ·exact .inl l
  ·exact .inr ⟨k,c,e,cellK x c e _ z⟩
 ·obtain⟨v,z⟩:=I.cell x c e;exact⟨v,cellK x c e v z⟩
 ·obtain⟨m,⟨o,_,_,ho,_⟩,_⟩:=I.loc;exact free _ o (fun z=>(hch _ z).2.1 rfl) ho I.free
 ·obtain⟨v,o,ho,hd⟩:=I.cell x c e;exact free c o (fun z=>(hch c z).2.2.1 x c e rfl) ho (I.freeC x c e)
 ·obtain⟨e,n,ne,nf,d⟩:=I.pin p hp;have nch:p.1∉ch:=fun z=>(hch p.1 z).2.2.2 p hp rfl;exact⟨keep p.1 p.2 ne nf nch e n,free p.1 p.2 nch e n,ne,nf,d⟩
theorem Inv.un{t':Nat}(I:Inv X pins σ H s)(u:Un X.fs [] H H' s.heap h')(hok:HOk X.prog X.w H' h'):Inv X pins σ H' { s with heap:=h',toks:=t' }:=by
 obtain⟨m,⟨o,es,ep,ho,r⟩,_⟩:=id I.loc;obtain⟨sl,hL⟩:=u.any ho I.free (by simp);exact I.step (g':=s.gens) (d':=s.drawn) (ch:=[]) (fun _ z=>nomatch z) (fun b o _ hb _ e n=>u.keep b o e n hb (by simp)) (fun b o _ hb _ e n=>u.slot b o e n hb (by simp)) (fun b o _ e n=>u.free b o e n (by simp)) (fun b o _ e=>u.there b o e (by simp)) u.tups u.frzs u.tbls (fun m' hm=>by
  obtain⟨o',es',ep',ho',r'⟩:=hm;rw[ho] at ho';cases ho';exact⟨_,es',ep',hL,r'⟩) hok I.bare
theorem Inv.call{g':Array GenState}{t':Nat}{d':Drawn}{ch:List Addr}(I:Inv X pins σ H s)(u:Un (frs X.stack) ch H H' s.heap h')(hok:HOk X.prog X.w H' h')(hg:AllBare g')
  (hch:∀ b∈ch,(b∈X.ex\/X.s₀.heap.objs.size<=b)/\b≠X.env.locals/\(∀ x c,X.env.cells.lookup x=some c->c≠b)/\∀ p∈X.pn++pins,p.1≠b) :
  Inv X pins σ H' { s with heap:=h',gens:=g',drawn:=d',toks:=t' }:=by
 obtain⟨m,⟨o,es,ep,ho,r⟩,_⟩:=id I.loc;obtain⟨sl,hL⟩:=u.any ho I.free fun z=>(hch _ z).2.1 rfl;exact I.step (ch:=ch) hch (fun b o hL hb hc e n=>u.keep b o e n (fun z=>(zu4.mp (I.stkSub b z)).elim hL hb) hc) (fun b o _ _ hc e n=>u.any e n hc) (fun b o hc e n=>u.free b o e n hc) (fun b o hc e=>u.there b o e hc) u.tups u.frzs u.tbls (fun m' hm=>by
  obtain⟨o',es',ep',ho',r'⟩:=hm;rw[ho] at ho';cases ho';exact⟨_,es',ep',hL,r'⟩) hok hg
theorem Inv.turned{t':Nat}{it:Addr}(I:Inv X pins σ H s)(k:∀ b o,b≠it->s.heap.get? b=some o->h'.get? b=some o)(hn:H it=none)(hL:it≠X.env.locals)
  (h1:it∈X.ex\/X.s₀.heap.objs.size<=it) (h2:∀ x c,X.env.cells.lookup x=some c->c≠it) (h3:∀ p∈X.pn++pins,p.1≠it):Inv X pins σ H { s with heap:=h',toks:=t' }:=by
 have nit:∀ b u,H b=some u->b≠it:=fun b u e z=>by rw[z,hn] at e;cases e
 refine I.step (g':=s.gens) (d':=s.drawn) (ch:=[it]) (fun b hb=>?_) (fun b o _ _ hc e _=>k b o (fun z=>hc (by simp[z])) e) (fun b o _ _ hc e _=>⟨o.slots,k b o (fun z=>hc (by simp[z])) e⟩) (fun _ _ _ _ n=>n)
  (fun b o hc e=>⟨o,k b o (fun z=>hc (by simp[z])) e⟩) (fun _ _ e=>e) (fun _ _ _ e=>e) (fun b ps e=>⟨#[],by rw[e];simp⟩) (fun m hm=>?_) (fun b u e=>?_) I.bare
 ·have e:b=it:=by simpa using hb
  subst e;exact⟨h1,hL,h2,h3⟩
 ·obtain⟨o,es,ep,ho,r⟩:=hm;exact⟨o,es,ep,k _ o (Ne.symm hL) ho,r⟩
 ·refine(I.hok b u e).stay (fun c v hc q=>k c v ?_ q) (fun _ q=>q) fun _ _ q=>q;rcases hc with z|z
  ·rw[z];exact nit b u e
  ·exact nit c _ z
theorem Inv.tok(I:Inv X pins σ H s)(t:Nat):Inv X pins σ H { s with toks:=t }:=I.un (h':=s.heap) (t':=t) Un.refl I.hok
theorem Inv.kept(I:Inv X pins σ H s)(k:∀ b u,s.heap.get? b=some u->h'.get? b=some u):Inv X pins σ H { s with heap:=h',toks:=t' }:=I.un (Un.kept k) (I.hok.kept k)
theorem Inv.laid(I:Inv X pins σ H s)(k:∀ b u,s.heap.get? b=some u->h'.get? b=some u)(hp:s.heap.objs.size<=a)(new:Y6 X.prog X.w (upd H a o) h' a o) :
  Inv X pins σ (upd H a o) { s with heap:=h',toks:=t' }:=I.un (Un.laid k hp (I.hok.fresh hp)) (I.hok.laid k hp new)
theorem Inv.write(I:Inv X pins σ H s)(mu:Mut (H x))(he:e=x\/H e=some (.own x))(k:∀ b u,b≠e->s.heap.get? b=some u->h'.get? b=some u)(heo:∃ u,h'.get? e=some u)
  (new:Y6 X.prog X.w (upd H x o) h' x o):Inv X pins σ (upd H x o) { s with heap:=h',toks:=t' }:=I.un (Un.write mu he k heo) (I.hok.write mu he k heo new)
theorem Inv.weak(I:Inv X pins σ H s)(hl:σ'.length=σ.length)(w:∀ (i:Nat) v,σ'[i]?=some (some v)->σ[i]?=some (some v)):Inv X pins σ' H s :=
 ⟨I.ok,I.os,I.bare,I.base,let ⟨m,hn,hl'⟩:=I.loc;⟨m,hn,fun i x v e1 e2 e3=>hl' i x v e1 (e2.imp_left (w i v)) e3⟩,I.cell,I.free,I.freeC,I.pin,I.hok,hl.trans I.len⟩
theorem Inv.pins_of(I:Inv X pins σ H s)(h:∀ p∈pins',s.heap.get? p.1=some p.2/\H p.1=none/\p.1≠X.env.locals/\p.1∉X.fs/\∀ v,p.2.data≠.cell v):Inv X pins' σ H s :=
 ⟨I.ok,I.os,I.bare,I.base,I.loc,I.cell,I.free,I.freeC,fun p hp=>(zu8.mp hp).elim (fun z=>I.pin p (zvn _ z)) (h p),I.hok,I.len⟩
theorem Ba{N:List Str}(hN:N.Nodup){i j:Nat}{x:Str}(a:N[i]?=some x)(b:N[j]?=some x):i=j:=by
 obtain⟨h1,e1⟩:=zux.mp a;obtain⟨h2,e2⟩:=zux.mp b;exact(List.getElem_inj hN).mp (e1.trans e2.symm)
def zam(X:Cx)(i:Nat)(x:Str):Prop:=(X.fn x=true\/X.env.scope.names.lookup x=some .local)/\∀ v,X.lk[i]?≠some (some v)
theorem Wr{i:Nat}:∀ v:V,([]:List (Option V))[i]?≠some (some v):=fun _ h=>by simp at h
theorem Ej{M:Model}{A:Around}{E:Value->Shared->Prop}{i:Nat}{x:Str}{v:V}{u:Value}{Q:Unit->Shared->Prop}(I:Inv X pins σ H s)(hN:X.N.Nodup)(hi:X.N[i]?=some x)(hx:Loc X.env.scope x)(r:RelV v u)
  (h:∀ s',Inv X pins (σ.set i (some v)) H s'->(∃ a,Heap.SameBut a s.heap s'.heap/\(a=X.env.locals\/X.env.cells.lookup x=some a))->Q () s') (hf:zam X i x:=by first|exact⟨.inl rfl,Wr⟩|exact⟨.inr rfl,Wr⟩|assumption|exact⟨.inl rfl,by assumption⟩|exact⟨.inr rfl,by assumption⟩):wpAny M A (storeName X.env x u) Q E s:=by
 obtain⟨m,hn,hl⟩:=id I.loc;have hcls:(X.env.scope.kind == .class||(X.env.scope.kind == .module&&X.env.locals != X.env.globals))=false:=by rw[I.ok.kind];rfl
 have hiσ:i<σ.length:=by rw[I.len];exact(zux.mp hi).1
 have cne:=I.cne;have tracked:∀ {a:Addr} {h':Heap},(∃ o,s.heap.get? a=some o/\H a=none)->Heap.SameBut a s.heap h'->HOk X.prog X.w H h':=fun {a h'} ha hs b ob e=>by
  obtain⟨_,_,hfree⟩:=ha;refine(I.hok b ob e).stay (fun c w' hc q=>(hs.2 c ?_).trans q) (fun _ q=>q) fun _ _ q=>q;rintro rfl;rcases hc with rfl|hc
  ·rw[hfree] at e;cases e
  ·rw[hfree] at hc;cases hc
 rcases hx with hk|hk
 ·refine wpAny_storeName_local hk hn (fun h' hn' hs=>?_) hcls;obtain⟨oL,_,_,hoL,_⟩:=id hn;refine h _ ⟨I.ok,I.os,I.bare,⟨fun b o e n hb hx=>?_,fun b o e n hb hx=>?_,I.base.free,fun b o e hx=>?_,I.base.tups,I.base.frzs,I.base.tbls⟩,⟨_,hn',fun j y v' e1 e2 e3=>?_⟩,fun y c e=>?_,I.free,I.freeC,fun p hp=>?_,tracked ⟨oL,hoL,I.free⟩ hs,by simpa using I.len⟩ ⟨_,hs,.inl rfl⟩
  ·exact(hs.2 b (zvq (zvk (Heap.lt_size e) I.ok.above))).trans (I.base.keep b o e n hb hx)
  ·obtain⟨sl,e1⟩:=I.base.slot b o e n hb hx;exact⟨sl,(hs.2 b (zvq (zvk (Heap.lt_size e) I.ok.above))).trans e1⟩
  ·obtain⟨o',e1⟩:=I.base.there b o e hx;exact⟨o',(hs.2 b (zvq (zvk (Heap.lt_size e) I.ok.above))).trans e1⟩
  ·by_cases hj:j=i
   ·subst hj;rw[hi] at e1;cases e1;rcases e2 with e2|e2
    case' inr=>exact absurd e2 (hf.2 _)
    rw[zv5 hiσ] at e2;cases e2;exact⟨u,r,.inl ⟨hk,by simp⟩⟩
   ·have e2:σ[j]?=some (some v')\/X.lk[j]?=some (some v'):=e2.imp_left fun z=>by rw[zv4 (Ne.symm hj)] at z;exact z
    obtain⟨u',r',q⟩:=hl j y v' e1 e2 e3;refine⟨u',r',?_⟩;rcases q with ⟨k,e⟩|⟨k,c,e,z⟩
    ·refine .inl ⟨k,?_⟩;have:y≠x:=fun e=>hj (Ba hN e1 (e▸hi));simp[this,e]
    ·exact .inr ⟨k,c,e,z.sameBut hs (cne y c e)⟩
  ·obtain⟨w',z⟩:=I.cell y c e;exact⟨w',z.sameBut hs (cne y c e)⟩
  ·obtain⟨e,n,ne,nf,d⟩:=I.pin p hp;exact⟨(hs.2 p.1 ne).trans e,n,ne,nf,d⟩
 ·have hfn:X.fn x=true:=by
   rcases hf.1 with z|z
   ·exact z
   ·rw[z] at hk;cases hk
  obtain⟨c,hc⟩:=I.ok.has x (.inl hk);obtain⟨w',z⟩:=I.cell x c hc;refine wpAny_storeName_cell I.ok.kind hk hc z (fun h' hc' hs=>?_);obtain⟨oc,hoc,hocd⟩:=id z;refine h { s with heap:=h' } ⟨I.ok,I.os,I.bare,⟨fun b o e n hb hx=>?_,fun b o e n hb hx=>?_,I.base.free,fun b o e hx=>?_,I.base.tups,I.base.frzs,I.base.tbls⟩,⟨m,hn.sameBut hs (Ne.symm (cne x c hc)),fun j y v' e1 e2 e3=>?_⟩,fun y c' e=>?_,I.free,I.freeC,fun p hp=>?_,tracked ⟨oc,hoc,I.freeC x c hc⟩ hs,by simpa using I.len⟩ ⟨c,hs,.inr hc⟩
  ·exact(hs.2 b (zvq (zvk (Heap.lt_size e) (I.ok.cab x c hfn hc)))).trans (I.base.keep b o e n hb hx)
  ·obtain⟨sl,e1⟩:=I.base.slot b o e n hb hx;exact⟨sl,(hs.2 b (zvq (zvk (Heap.lt_size e) (I.ok.cab x c hfn hc)))).trans e1⟩
  ·obtain⟨o',e1⟩:=I.base.there b o e hx;exact⟨o',(hs.2 b (zvq (zvk (Heap.lt_size e) (I.ok.cab x c hfn hc)))).trans e1⟩
  ·by_cases hj:j=i
   ·subst hj;rw[hi] at e1;cases e1;rcases e2 with e2|e2
    case' inr=>exact absurd e2 (hf.2 _)
    rw[zv5 hiσ] at e2;cases e2;exact⟨u,r,.inr ⟨.inl hk,c,hc,hc'⟩⟩
   ·have e2:σ[j]?=some (some v')\/X.lk[j]?=some (some v'):=e2.imp_left fun z=>by rw[zv4 (Ne.symm hj)] at z;exact z
    obtain⟨u',r',q⟩:=hl j y v' e1 e2 e3;refine⟨u',r',?_⟩;rcases q with q|⟨k,c',e,z'⟩
    ·exact .inl q
    ·refine .inr ⟨k,c',e,z'.sameBut hs ?_⟩;rintro rfl;exact hj (Ba hN e1 (I.ok.inj _ _ _ e hc▸hi))
  ·by_cases hcc:c'=c
   ·subst hcc;exact⟨_,hc'⟩
   ·obtain⟨w2,z2⟩:=I.cell y c' e;exact⟨w2,z2.sameBut hs hcc⟩
  ·obtain⟨e,n,ne,nf,d⟩:=I.pin p hp;refine⟨(hs.2 p.1 ?_).trans e,n,ne,nf,d⟩;intro q;rw[q,hoc] at e;have q':oc=p.2:=Option.some.inj e;exact d w' (by rw[<- q'];exact hocd)
theorem Bb(I:Inv X pins σ H s)(hN:X.N.Nodup)(hi:X.N[i]?=some x)(hx:Loc X.env.scope x)(r:RelV v u)
  (h:∀ s',Inv X pins (σ.set i (some v)) H s'->Q () s') (hf:zam X i x:=by first|exact⟨.inl rfl,Wr⟩|exact⟨.inr rfl,Wr⟩|assumption|exact⟨.inl rfl,by assumption⟩|exact⟨.inr rfl,by assumption⟩):wpAny M A (storeName X.env x u) Q E s :=
 Ej I hN hi hx r (fun s' I' _=>h s' I') hf
theorem Inv.call'(I:Inv X pins σ H s)(ho:s'.os=s.os)(u:Un (frs X.stack) ch H H' s.heap s'.heap)(hok:HOk X.prog X.w H' s'.heap)(hg:AllBare s'.gens)
  (hch:∀ b∈ch,(b∈X.ex\/X.s₀.heap.objs.size<=b)/\b≠X.env.locals/\(∀ x c,X.env.cells.lookup x=some c->c≠b)/\∀ p∈X.pn++pins,p.1≠b):Inv X pins σ H' s':=by
 obtain⟨h',g',d',t',o'⟩:=s';have e:o'=s.os:=ho;subst e;exact I.call (g':=g') (t':=t') (d':=d') u hok hg hch
end
abbrev XK:=Value->Option Addr->Hp->Prop
abbrev St:=List (Option V)
abbrev VK:=V->Hp->Prop
abbrev TE:=St->Hp->VK->Prop
abbrev TT:=St->Hp->(Bool->Hp->Prop)->Prop
abbrev TA:=St->Hp->(List V->Hp->Prop)->Prop
structure Oa where
 nx:St->Hp->Prop
 rt:VK
 bk:St->Hp->Prop:=fun _ _=>False
 ct:St->Hp->Prop:=fun _ _=>False
abbrev TS:=Oa->St->Hp->Prop
def EP(X:Cx)(pins:List (Addr×Obj))(σ:St)(Q:VK)(u:Value)(s':Shared):Prop:=∃ v H',Inv X pins σ H' s'/\RelV v u/\Q v H'
def TP(X:Cx)(pins:List (Addr×Obj))(σ:St)(Q:Bool->Hp->Prop)(b:Bool)(s':Shared):Prop:=∃ H',Inv X pins σ H' s'/\Q b H'
def AP(X:Cx)(pins:List (Addr×Obj))(σ:St)(Q:List V->Hp->Prop)(us:List Value)(s':Shared):Prop:=∃ vs H',Inv X pins σ H' s'/\Vals vs us/\Q vs H'
def SP(X:Cx)(pins:List (Addr×Obj))(D:Oa)(f:Flow)(s':Shared):Prop :=
 match f with
 | .next=>∃ σ' H',Inv X pins σ' H' s'/\D.nx σ' H'
 | .brk=>∃ σ' H',Inv X pins σ' H' s'/\D.bk σ' H'
 | .cont=>∃ σ' H',Inv X pins σ' H' s'/\D.ct σ' H'
 | .ret u=>∃ v σ' H',Inv X pins σ' H' s'/\RelV v u/\D.rt v H'
def PE(X:Cx)(e:Expr)(t:TE):Prop :=
 ∀ (pins:List (Addr×Obj)) (s:Shared) (σ:St) (H:Hp) (Q:VK),Inv X pins σ H s->t σ H Q->wpAny (model X.prog X.w) X.A (eval e X.env) (EP X pins σ Q) X.xe s
def PT(X:Cx)(e:Expr)(t:TT):Prop :=
 ∀ (pins:List (Addr×Obj)) (s:Shared) (σ:St) (H:Hp) (Q:Bool->Hp->Prop),Inv X pins σ H s->t σ H Q->wpAny (model X.prog X.w) X.A (isTrue e X.env (eval e X.env)) (TP X pins σ Q) X.xe s
def PW(X:Cx)(e:Expr)(t:TT):Prop :=
 ∀ (whole:Sem Value) (pins:List (Addr×Obj)) (s:Shared) (σ:St) (H:Hp) (Q:Bool->Hp->Prop),Inv X pins σ H s->t σ H Q->wpAny (model X.prog X.w) X.A (isTrue e X.env whole) (TP X pins σ Q) X.xe s
theorem PW.pt(h:PW X e t):PT X e t:=h _
def PA(X:Cx)(es:List Expr)(t:TA):Prop :=
 ∀ (pos:Pos) (pins:List (Addr×Obj)) (s:Shared) (σ:St) (H:Hp) (Q:List V->Hp->Prop),Inv X pins σ H s->t σ H Q->wpAny (model X.prog X.w) X.A (spliced (backTo pos (starEach es X.env))) (AP X pins σ Q) X.xe s
def PS(X:Cx)(st:Stmt)(t:TS):Prop :=
 ∀ (pins:List (Addr×Obj)) (s:Shared) (σ:St) (H:Hp) (D:Oa),Inv X pins σ H s->t D σ H->wpAny (model X.prog X.w) X.A (exec st X.env) (SP X pins D) X.xe s
def PSs(X:Cx)(st:List Stmt)(t:TS):Prop :=
 ∀ (pins:List (Addr×Obj)) (s:Shared) (σ:St) (H:Hp) (D:Oa),Inv X pins σ H s->t D σ H->wpAny (model X.prog X.w) X.A (execs st X.env) (SP X pins D) X.xe s
theorem thn(h:wpAny M A t Q E s)(hQ:∀ a s,Q a s->Q' a s):wpAny M A t Q' E s:=wpAny_mono h hQ fun _ _ x=>x
section
variable{X:Cx}
inductive Bc(i:Nat)(σ:L2.St)(H:Hp)(Q:VK):Prop where
 | mk(v)(_:σ[i]?=some (some v))(_:Q v H)
def tC(v:V):TE:=fun _ H Q=>Q v H
theorem zi0(hN:X.N[i]?=some x)(hv:Vis X.env.scope x)(hd:(x == ("__debug__":Str))=false:=by decide)(hcd:(x == ("__classdict__":Str))=false:=by decide):PE X (.Name x pos) (Bc i):=by
 intro pins s σ H Q I h;obtain⟨v,e,h⟩:=h;obtain⟨m,hn,hl⟩:=I.loc;obtain⟨u,r,l⟩:=hl i x v hN (.inl e) hv;have fin:EP X pins σ Q u s:=⟨v,H,I,r,h⟩;rcases l with ⟨hk,hm⟩|⟨hk,c,hc,hcell⟩
 ·exact wpAny_Name (wpAny_loadName_local I.ok.kind hk hn hm fin) hd
 ·rcases hk with hk|hk
  ·exact wpAny_Name (wpAny_loadName_cell I.ok.kind hk hc hcell fin) hd
  ·exact wpAny_Name (wpAny_loadName_free I.ok.kind hk hc hcell fin hcd) hd
theorem Zg{i j pos}:PE X (.Constant (.int i) j pos) (tC (.int i)):=fun _ _ _ H _ I h=>wpAny_Constant_int ⟨.int i,H,I.tok _,⟨_,rfl⟩,h⟩
theorem Wc{b j pos}:PE X (.Constant (.bool b) j pos) (tC (.bl b)):=fun _ _ _ H _ I h=>Constant_bool ⟨.bl b,H,I,rfl,h⟩
theorem Y3{j pos}:PE X (.Constant .none j pos) (tC .non):=fun _ _ _ H _ I h=>Constant_none ⟨.non,H,I,rfl,h⟩
theorem Zo{x j pos}:PE X (.Constant (.str x) j pos) (tC (.str x)):=fun _ _ _ H _ I h=>Calls.Constant_str ⟨.str x,H,I.tok _,⟨_,rfl⟩,h⟩
def Gl(X:Cx)(x:Str):Prop:=X.env.kindOf x=some .globalImplicit
theorem N2(I:Inv X pins σ H s)(hg:Gl X x)(hm:X.mg x=some u)(h:Q u s)
  (hd:(x == ("__debug__":Str))=false:=by decide):wpAny (model X.prog X.w) X.A (eval (.Name x pos) X.env) Q E s :=
 Calls.Name_function_global I.ok.kind hg (Calls.loadGlobal_global (by rw[I.ok.glob];exact I.mod.glob.keeps I.bk) hm h) hd
theorem Ot(I:Inv X pins σ H s)(hg:Gl X x)(hm:X.mg x=none)(hv:bootBuiltins x=some u)(h:Q u s)
  (hn:x≠"__name__":=by decide) (hd:(x == ("__debug__":Str))=false:=by decide):wpAny (model X.prog X.w) X.A (eval (.Name x pos) X.env) Q E s:=by
 obtain⟨mb,h1,h2⟩:=I.mod.blt;exact Calls.Name_function_global I.ok.kind hg (Calls.loadGlobal_builtin (by rw[I.ok.glob];exact I.mod.glob.keeps I.bk) hm (by rw[I.ok.blt];exact h1.keeps I.bk) ((h2 x hn).trans hv) h) hd
theorem zg5(hg:Gl X x)(hm:X.mg x=some u)(r:RelV v u)(hd:(x == ("__debug__":Str))=false:=by decide):PE X (.Name x pos) (tC v) :=
 fun _ _ _ H _ I h=>N2 I hg hm ⟨v,H,I,r,h⟩ hd
theorem U4(hg:Gl X x)(hm:X.mg x=none)(hv:bootBuiltins x=some u)(r:RelV v u)(hn:x≠"__name__":=by decide)(hd:(x == ("__debug__":Str))=false:=by decide):PE X (.Name x pos) (tC v) :=
 fun _ _ _ H _ I h=>Ot I hg hm hv ⟨v,H,I,r,h⟩ hn hd
variable{a b:Expr}{ta tb:TE}{pos:Pos}
def PC(X:Cx)(op:CmpOp)(a b:Expr)(t:TE):Prop :=
 ∀ (pins:List (Addr×Obj)) (s:Shared) (σ:St) (H:Hp) (Q:VK),Inv X pins σ H s->t σ H Q ->
   wpAny (model X.prog X.w) X.A (eval a X.env) (fun v s₁=>wpAny (model X.prog X.w) X.A (eval b X.env) (fun u s₂=>wpAny (model X.prog X.w) X.A (compareOp op v u) (EP X pins σ Q) X.xe s₂) X.xe s₁) X.xe s
inductive tBI(Q:Bool->Hp->Prop)(x:V)(H1:Hp):Prop where
 | mk(c)(_:x=.bl c)(_:Q c H1)
def tB(t:TE):TT:=fun σ H Q=>t σ H fun x H1=>tBI Q x H1
theorem Rr(h:PC X op a b t)(h1:behindInMarks op b=false:=by first|exact nobehind _ ⋯ ⋯|rfl):PT X (.Compare a [op] [b] pos) (tB t):=by
 intro pins s σ H Q I hw;refine wpAny_isTrue_Compare1 (thn (h pins s σ H _ I hw) fun v s1 h1=>thn h1 fun u s2 h2=>thn h2 fun c s3 ⟨x,H1,I1,r1,q1⟩=>?_) h1;obtain⟨d,rfl,q⟩:=q1;cases r1;exact wpAny_truthy_bool ⟨H1,I1,q⟩
theorem Xh(h:PE X e t)(he:∀ whole,isTrue e X.env whole=(do let v <- whole;standAt e.pos;holding [v] (truthy v)):=by intro _;rfl):PT X e (tB t):=by
 intro pins s σ H Q I hw;refine isTrue_plain (thn (h pins s σ H _ I hw) fun v s1 ⟨x,H1,I1,r1,q1⟩=>?_) (he _);obtain⟨d,rfl,q⟩:=q1;cases r1;exact wpAny_truthy_bool ⟨H1,I1,q⟩
variable{tA tB':TT}{rest:List Expr}
def zi1(t u:TT):TT:=fun σ H Q=>t σ H fun c H1=>if c=true then u σ H1 Q else Q false H1
def tOr(t u:TT):TT:=fun σ H Q=>t σ H fun c H1=>if c=true then Q true H1 else u σ H1 Q
def zls(t:TT):TT:=fun σ H Q=>t σ H fun c H1=>Q (!c) H1
theorem N3(ha:PT X a tA):PW X (.BoolOp .And [a] pos) tA:=by
 intro wh pins s σ H Q I h;refine isTrue_and (thn (ha pins s σ H Q I h) fun c s1 e=>?_);cases c with
 | true=>exact isTrue_and_nil e
 | false=>exact e
theorem Wn(ha:PT X a tA):PW X (.BoolOp .Or [a] pos) tA:=by
 intro wh pins s σ H Q I h;refine isTrue_or (thn (ha pins s σ H Q I h) fun c s1 e=>?_);cases c with
 | false=>exact isTrue_or_nil e
 | true=>exact e
theorem Jz(ha:PT X a tA)(hb:PW X (.BoolOp .And (b :: rest) pos) tB'):PW X (.BoolOp .And (a :: b :: rest) pos) (zi1 tA tB'):=by
 intro wh pins s σ H Q I h;refine isTrue_and (thn (ha pins s σ H _ I h) fun c s1 ⟨H1,I1,q1⟩=>?_);cases c with
 | true=>exact hb wh pins s1 σ H1 Q I1 q1
 | false=>exact⟨H1,I1,q1⟩
theorem Vk(ha:PT X a tA)(hb:PW X (.BoolOp .Or (b :: rest) pos) tB'):PW X (.BoolOp .Or (a :: b :: rest) pos) (tOr tA tB'):=by
 intro wh pins s σ H Q I h;refine isTrue_or (thn (ha pins s σ H _ I h) fun c s1 ⟨H1,I1,q1⟩=>?_);cases c with
 | true=>exact⟨H1,I1,q1⟩
 | false=>exact hb wh pins s1 σ H1 Q I1 q1
theorem Xm(ha:PT X a tA):PT X (.UnaryOp .Not a pos) (zls tA):=by
 intro pins s σ H Q I h;exact isTrue_not (ha pins s σ H (fun c H1=>Q (!c) H1) I h)
inductive zi2(tb:TE)(σ:L2.St)(Q:VK)(x:V)(H1:Hp):Prop where
 | mk(c)(_:x=.bl c)(_:if c=true then tb σ H1 Q else Q (.bl false) H1)
def zke(ta tb:TE):TE:=fun σ H Q=>ta σ H fun x H1=>zi2 tb σ Q x H1
inductive zkf(tb:TE)(σ:L2.St)(Q:VK)(x:V)(H1:Hp):Prop where
 | mk(c)(_:x=.bl c)(_:if c=true then Q (.bl true) H1 else tb σ H1 Q)
def zlt(ta tb:TE):TE:=fun σ H Q=>ta σ H fun x H1=>zkf tb σ Q x H1
inductive zi3(Q:VK)(x:V)(H1:Hp):Prop where
 | mk(c)(_:x=.bl c)(_:Q (.bl (!c)) H1)
def zkg(ta:TE):TE:=fun σ H Q=>ta σ H fun x H1=>zi3 Q x H1
theorem Dx{op}(h:PE X a t):PE X (.BoolOp op [a] pos) t:=fun pins s σ H Q I hw=>BoolOp_one (h pins s σ H Q I hw)
theorem zan(ha:PE X a ta)(hb:PE X (.BoolOp .And (b :: rest) pos) tb):PE X (.BoolOp .And (a :: b :: rest) pos) (zke ta tb):=by
 intro pins s σ H Q I h;refine BoolOp_and (thn (ha pins s σ H _ I h) fun v s1 ⟨x,H1,I1,r1,q1⟩=>?_);obtain⟨c,rfl,q1⟩:=q1;cases r1;refine wpAny_truthy_bool ?_;cases c with
 | true=>exact hb pins s1 σ H1 Q I1 q1
 | false=>exact⟨.bl false,H1,I1,rfl,q1⟩
theorem zkh(ha:PE X a ta)(hb:PE X (.BoolOp .Or (b :: rest) pos) tb):PE X (.BoolOp .Or (a :: b :: rest) pos) (zlt ta tb):=by
 intro pins s σ H Q I h;refine BoolOp_or (thn (ha pins s σ H _ I h) fun v s1 ⟨x,H1,I1,r1,q1⟩=>?_);obtain⟨c,rfl,q1⟩:=q1;cases r1;refine wpAny_truthy_bool ?_;cases c with
 | false=>exact hb pins s1 σ H1 Q I1 q1
 | true=>exact⟨.bl true,H1,I1,rfl,q1⟩
theorem zi4(ha:PE X a ta):PE X (.UnaryOp .Not a pos) (zkg ta):=by
 intro pins s σ H Q I h;refine UnaryOp_ (thn (ha pins s σ H _ I h) fun v s1 ⟨x,H1,I1,r1,q1⟩=>?_);obtain⟨c,rfl,q1⟩:=q1;cases r1;exact not_of (wpAny_truthy_bool ⟨.bl (!c),H1,I1,rfl,q1⟩)
def tIf(t:TT)(ta tb:TE):TE:=fun σ H Q=>t σ H fun c H1=>if c=true then ta σ H1 Q else tb σ H1 Q
theorem Bd(hc:PT X c tA)(ha:PE X a ta)(hb:PE X b tb):PE X (.IfExp c a b pos) (tIf tA ta tb):=by
 intro pins s σ H Q I h;refine wpAny_IfExp (thn (hc pins s σ H _ I h) fun d s1 ⟨H1,I1,q1⟩=>?_);cases d with
 | true=>exact ha pins s1 σ H1 Q I1 q1
 | false=>exact hb pins s1 σ H1 Q I1 q1
end
def SqL(K:Frag)(H:Hp)(a:Addr)(xs:List V):Prop :=
 Rd H a (.lst xs) \/
  ∃ (o:Obj) (its:Array Value) (n:Nat),K.lookup a=some o/\o.cls=.type "list"/\o.dict=none/\o.data=.seq its n/\its.size<=sizeLine/\Vals xs its.toList
def SqT(K:Frag)(H:Hp)(a:Addr)(xs:List V):Prop :=
 Rd H a (.tup xs) \/
  ∃ (o:Obj) (its:Array Value) (n:Nat),K.lookup a=some o/\o.cls=.type "tuple"/\o.data=.seq its n/\its.size<=sizeLine/\Vals xs its.toList
def zlu:Value->Option V
 | .none=>some .non
 | .bool b=>some (.bl b)
 | .int i _=>some (.int i)
 | .str x _=>some (.str x)
 | .bytes b _=>some (.byt b)
 | .float b _=>some (.flt b)
 | .ref a=>some (.ref a)
 | .type n=>some (.ty n)
 | _=>none
theorem RelV.abs(r:RelV x u):zlu u=some x:=by
 cases x with
 | non=>cases r;rfl
 | bl _=>cases r;rfl
 | int _=>obtain⟨t,rfl⟩:=r;rfl
 | str _=>obtain⟨t,rfl⟩:=r;rfl
 | byt _=>obtain⟨t,rfl⟩:=r;rfl
 | flt _=>obtain⟨t,rfl⟩:=r;rfl
 | ref _=>cases r;rfl
 | ty _=>cases r;rfl
theorem RelV.inj(r:RelV x u)(q:RelV y u):x=y:=Option.some.inj (r.abs.symm.trans q.abs)
theorem Vals.inj:∀ {xs ys:List V} {us:List Value},Vals xs us->Vals ys us->xs=ys
 | _,_,_,.nil,.nil=>rfl
 | _,_,_,.cons r t,.cons r' t'=>by rw[r.inj r',Vals.inj t t']
section
variable{X:Cx}{pins:List (Addr×Obj)}{σ:St}{H:Hp}{s:Shared}{a:Addr}{xs ys:List V}
theorem SqL.of{K:Frag}(h:H a=some (.lst xs)):SqL K H a xs:=.inl (.inl h)
theorem SqT.of{K:Frag}(h:H a=some (.tup xs)):SqT K H a xs:=.inl (.inl h)
theorem Inv.list(I:Inv X pins σ H s)(h:SqL X.K H a xs):∃ its:List Value,Vals xs its/\PlainL s.heap a its.toArray/\xs.length<=sizeLine:=by
 rcases h with h|⟨o,its,n,hk,hc,hd,hs,hz,r⟩
 ·obtain⟨z,its,n,r,e⟩:=h.ok I.hok;exact⟨its,r,⟨_,n,e,rfl,rfl,rfl⟩,z⟩
 ·refine⟨its.toList,r,⟨o,n,I.kIn a o hk,hc,hd,by simpa using hs⟩,?_⟩;have e:=r.length;simp only[Array.length_toList] at e;omega
theorem Inv.tuple(I:Inv X pins σ H s)(h:SqT X.K H a xs):∃ its:List Value,Vals xs its/\IsTup s.heap a its.toArray/\xs.length<=sizeLine:=by
 rcases h with h|⟨o,its,n,hk,hc,hs,hz,r⟩
 ·obtain⟨z,its,r,p⟩:=h.ok I.hok;exact⟨its,r,p,z⟩
 ·refine⟨its.toList,r,⟨o,I.kIn a o hk,hc,n,by simpa using hs⟩,?_⟩;have e:=r.length;simp only[Array.length_toList] at e;omega
theorem Inv.list_inj(I:Inv X pins σ H s)(h:SqL X.K H a xs)(h':SqL X.K H a ys):xs=ys:=by
 obtain⟨its,r,⟨o,n,e,_,_,d⟩,_⟩:=I.list h;obtain⟨its',r',⟨o',n',e',_,_,d'⟩,_⟩:=I.list h';rw[e] at e';cases e';rw[d] at d';injection d' with d1 _;have:its=its':=by simpa using congrArg Array.toList d1
 subst this;exact r.inj r'
end
section
variable{X:Cx}{st:Stmt}{rest:List Stmt}{t u:TS}{e:Expr}{te:TE}{pos:Pos}
def zb5:TS:=fun D σ H=>D.nx σ H
def Zz(t u:TS):TS:=fun D σ H=>t { D with nx:=u D } σ H
theorem Zq:PSs X [] zb5:=fun _ _ σ H _ I h=>wpAny_execs_nil ⟨σ,H,I,h⟩
theorem Zb(h1:PS X st t)(h2:PSs X rest u):PSs X (st :: rest) (Zz t u):=by
 intro pins s σ H D I h;refine wpAny_execs_cons (thn (h1 pins s σ H { D with nx:=u D } I h) fun f s1 q=>?_);cases f with
 | next =>
   obtain⟨σ',H',I',q⟩:=q;exact h2 pins s1 σ' H' D I' q
 | ret v=>exact q
 | brk=>exact q
 | cont=>exact q
theorem Zd(h1:PS X st t):PSs X [st] t:=by
 intro pins s σ H D I h;refine wpAny_execs_cons (thn (h1 pins s σ H D I h) fun f s1 q=>?_);cases f with
 | next=>exact wpAny_execs_nil q
 | ret v=>exact q
 | brk=>exact q
 | cont=>exact q
def zi5:TS:=fun D σ H=>D.bk σ H
theorem ze2:PS X (.Break pos) zi5:=fun _ _ σ H _ I h=>wpAny_Break ⟨σ,H,I,h⟩
theorem Inv.quiet(I:Inv X pins σ H s):interactive X.env=false:=by simp[interactive,I.ok.kind]
def zki(te:TE):TS:=fun D σ H=>te σ H fun _ H1=>D.nx σ H1
theorem Z1(he:PE X e te)(hs:swapsWith e none pos.line X.env=pure false:=by rfl):PS X (.Expr e pos) (zki te):=by
 intro pins s σ H D I h;exact wpAny_Expr_any (thn (he pins s σ H _ I h) fun v s1 ⟨x,H1,I1,r1,q1⟩=>⟨σ,H1,I1,q1⟩) I.quiet hs
def zkj(te:TE):TS:=fun D σ H=>te σ H D.rt
theorem Zm(he:PE X e te):PS X (.Return (some e) pos) (zkj te):=by
 intro pins s σ H D I h;exact wpAny_Return_some (thn (he pins s σ H _ I h) fun v s1 ⟨x,H1,I1,r1,q1⟩=>⟨x,σ,H1,I1,r1,q1⟩)
def G8(c:TT)(t u:TS):TS:=fun D σ H=>c σ H fun b H1=>if b=true then t D σ H1 else u D σ H1
theorem Z4(hc:PT X c tc)(ha:PSs X a t)(hb:PSs X b u):PS X (.If c a b pos) (G8 tc t u):=by
 intro pins s σ H D I h;refine wpAny_If (thn (hc pins s σ H _ I h) fun d s1 ⟨H1,I1,q1⟩=>?_);cases d with
 | true=>exact ha pins s1 σ H1 D I1 q1
 | false=>exact hb pins s1 σ H1 D I1 q1
end
abbrev TG:=V->St->Hp->(St->Hp->Prop)->Prop
abbrev TGs:=List V->St->Hp->(St->Hp->Prop)->Prop
def PG(X:Cx)(target:Expr)(t:TG):Prop :=
 ∀ (pins:List (Addr×Obj)) (s:Shared) (σ:St) (H:Hp) (v:V) (u:Value) (Q:St->Hp->Prop),Inv X pins σ H s->RelV v u->t v σ H Q ->
   wpAny (model X.prog X.w) X.A (assign target X.env u) (fun _ s'=>∃ σ' H',Inv X pins σ' H' s'/\Q σ' H') X.xe s
def PGs(X:Cx)(ts:List Expr)(t:TGs):Prop :=
 ∀ (pins:List (Addr×Obj)) (s:Shared) (σ:St) (H:Hp) (vs:List V) (us:List Value) (Q:St->Hp->Prop),Inv X pins σ H s->Vals vs us->t vs σ H Q ->
   wpAny (model X.prog X.w) X.A (assignInOrder ((assignEach ts X.env).map (·.2)) us) (fun _ s'=>∃ σ' H',Inv X pins σ' H' s'/\Q σ' H') X.xe s
abbrev zkk:=V->V->V->Hp->(Hp->Prop)->Prop
def zkl(X:Cx)(t:zkk):Prop :=
 ∀ (pins:List (Addr×Obj)) (s:Shared) (σ:St) (H:Hp) (o i v:V) (ov iv u:Value) (Q:Hp->Prop),Inv X pins σ H s->RelV o ov->RelV i iv->RelV v u->t o i v H Q ->
   wpAny (model X.prog X.w) X.A (setItem ov iv u) (fun _ s'=>∃ H',Inv X pins σ H' s'/\Q H') X.xe s
section
variable{X:Cx}{pos:Pos}
def W4(i:Nat):TG:=fun v σ H Q=>Q (σ.set i (some v)) H
theorem U5(hN:X.N.Nodup)(hi:X.N[i]?=some x)(hx:Loc X.env.scope x)(hf:zam X i x:=by first|exact⟨.inl rfl,Wr⟩|exact⟨.inr rfl,Wr⟩|assumption|exact⟨.inl rfl,by assumption⟩|exact⟨.inr rfl,by assumption⟩):PG X (.Name x pos) (W4 i):=by
 intro pins s σ H v u Q I r h;exact wpAny_assign_Name (Bb I hN hi hx r (fun s' I'=>⟨_,H,I',h⟩) hf)
def zlv:TGs:=fun vs σ H Q=>vs=[]/\Q σ H
def zkm(t:TG)(u:TGs):TGs:=fun vs σ H Q=>∃ v r,vs=v :: r/\t v σ H fun σ' H'=>u r σ' H' Q
theorem Xw:PGs X [] zlv:=by
 intro pins s σ H vs us Q I r h;obtain⟨e,h⟩:=h;subst e;cases r;exact assignInOrder_nil ⟨σ,H,I,h⟩
theorem Zw(h1:PG X e t)(h2:PGs X es u)
  (hs:(assignEach (e :: es) X.env).map (·.2)=assign e X.env :: (assignEach es X.env).map (·.2):=by rfl):PGs X (e :: es) (zkm t u):=by
 intro pins s σ H vs us Q I r h;obtain⟨v,vr,e1,h⟩:=h;subst e1;cases r with
 | cons r rr =>
   rw[hs];refine assignInOrder_cons (thn (h1 pins s σ H _ _ _ I r h) fun _ s1 ⟨σ1,H1,I1,q1⟩=>?_);exact h2 pins s1 σ1 H1 _ _ Q I1 rr q1
def zkn(K:Frag)(n:Nat)(t:TGs):TG:=fun v σ H Q=>∃ a xs,v=.ref a/\SqT K H a xs/\xs.length=n/\t xs σ H Q
theorem zi6(hc:X.calm=true)(h:PGs X es t)
  (hn:(assignEach es X.env).length=n:=by rfl) (hst:(assignEach es X.env).findIdx? (·.1)=none:=by rfl):PG X (.Tuple es k pos) (zkn X.K n t):=by
 intro pins s σ H v u Q I r hw;obtain⟨a,xs,e1,hq,hl,hw⟩:=hw;subst e1;cases r;obtain⟨its,rv,ht,hz⟩:=I.tuple hq;refine assign_Tuple_tuple (I.ok.hd hc) ht (by simp[hn,<- hl,rv.length]) hst fun h' hx=>?_;have I1:Inv X pins σ H { s with heap:=h' }:=I.kept (t':=s.toks) fun b o e=>hx b o (zvq (Heap.lt_size e)) e;exact h pins _ σ H xs _ Q I1 (by simpa using rv) hw
def zlw(to ti:TE)(t:zkk):TG:=fun v σ H Q=>to σ H fun o H1=>ti σ H1 fun i H2=>t o i v H2 fun H3=>Q σ H3
theorem zao(ho:PE X o to)(hi:PE X i ti)(hs:zkl X t)
  (ha:∀ v,assign (.Subscript o i pos) X.env v=(do
   let ov <- holding [v] (eval o X.env)
   let iv <- holding [v,ov] (eval i X.env)
   standAt pos
   holding [v,ov,iv] (setItem ov iv v)
   release [v,ov,iv] []):=by intro _;rfl):PG X (.Subscript o i pos) (zlw to ti t):=by
 intro pins s σ H v u Q I r h;rw[ha];refine wpAny_bind (wpAny_holding (thn (ho pins s σ H _ I h) fun ov s1 ⟨x,H1,I1,r1,q1⟩=>?_));refine wpAny_bind (wpAny_holding (thn (hi pins s1 σ H1 _ I1 q1) fun iv s2 ⟨y,H2,I2,r2,q2⟩=>?_));refine wpAny_bind (wpAny_standAt (wpAny_bind (wpAny_holding (thn (hs pins s2 σ H2 x y v ov iv u _ I2 r1 r2 r q2) fun _ s3 ⟨H3,I3,q3⟩=>?_))));exact wpAny_release ⟨σ,H3,I3,q3⟩
def zdg(te:TE)(g:TG):TS:=fun D σ H=>te σ H fun x H1=>g x σ H1 D.nx
theorem Qy(he:PE X e te)(hg:PG X tg g)(hs:swapsWithSole [tg] e pos.line X.env=pure false:=by rfl)(hw:swappedStores [tg] e X.env=pure none:=by rfl)
  (h1:(assignEach [tg] X.env).map (·.2)=[assign tg X.env]:=by rfl):PS X (.Assign [tg] e pos) (zdg te g):=by
 intro pins s σ H D I h;refine wpAny_Assign_stores (thn (he pins s σ H _ I h) fun v s1 ⟨x,H1,I1,r1,q1⟩=>?_) hs hw;rw[h1];exact thn (hg pins s1 σ H1 x v _ I1 r1 q1) fun _ s2 q=>q
theorem zi7(hN:X.N.Nodup)(hi:X.N[i]?=some x)(hx:Loc X.env.scope x)(he:PE X e te)(hs:swapsWith e (some (.Name x pos')) pos.line X.env=pure false:=by rfl)(hf:zam X i x:=by first|exact⟨.inl rfl,Wr⟩|exact⟨.inr rfl,Wr⟩|assumption|exact⟨.inl rfl,by assumption⟩|exact⟨.inr rfl,by assumption⟩) :
  PS X (.Assign [.Name x pos'] e pos) (zdg te (W4 i)):=by
 intro pins s σ H D I h;refine wpAny_Assign_Name (thn (he pins s σ H _ I h) fun v s1 ⟨y,H1,I1,r1,q1⟩=>?_) hs;exact Bb I1 hN hi hx r1 (fun s2 I2=>⟨_,H1,I2,q1⟩) hf
end
section
variable{X:Cx}{pos:Pos}
def ze3(c:TT)(tb:TS):TS:=fun D σ H=>∃ W:Nat->St->Hp->Prop,(∃ m,W m σ H)/\∀ m σ H,W m σ H ->
 c σ H fun b H1=>if b=true then ∃ N:St->Hp->Prop,(∀ σ' H',N σ' H'->∃ m',m' < m/\W m' σ' H')/\tb { D with nx:=N,ct:=N,bk:=D.nx } σ H1 else D.nx σ H1
theorem Be(hp:PassesOwn (model X.prog X.w) X.A X.env X.xe)(hc:PT X c tc)(hb:PSs X body tb):PS X (.While c body [] pos) (ze3 tc tb):=by
 intro pins s σ H D I h;obtain⟨W,⟨m0,w0⟩,turn⟩:=h;refine wpAny_While (codeAny_whileLoop (fun n s'=>∃ σ' H',Inv X pins σ' H' s'/\W n σ' H') ?_ m0 ⟨σ,H,I,w0⟩);rintro n s1 ⟨σ1,H1,I1,w1⟩;refine wpAny_passesOwn hp (thn (hc pins s1 σ1 H1 _ I1 (turn n σ1 H1 w1)) fun b s2 ⟨H2,I2,q2⟩=>?_);cases b with
 | true =>
   obtain⟨N,hN,q2⟩:=q2;rw[if_pos rfl];refine wpAny_passesOwn hp (thn (hb pins s2 σ1 H2 _ I2 q2) fun f s3 q3=>?_);cases f with
   | next =>
     obtain⟨σ3,H3,I3,n3⟩:=q3;obtain⟨m',hm,w3⟩:=hN σ3 H3 n3;exact⟨m',hm,σ3,H3,I3,w3⟩
   | cont =>
     obtain⟨σ3,H3,I3,n3⟩:=q3;obtain⟨m',hm,w3⟩:=hN σ3 H3 n3;exact⟨m',hm,σ3,H3,I3,w3⟩
   | brk=>exact q3
   | ret v=>exact q3
 | false =>
   rw[if_neg zvh];exact wpAny_execs_nil ⟨σ1,H2,I2,q2⟩
end
structure It where
 go:Nat->Hp->Prop
 yld:Nat->Hp->V->Hp->Prop
 stop:Nat->Hp->Prop
def FpOk(X:Cx)(pins:List (Addr×Obj))(H:Hp)(b:Addr):Prop :=
 H b=none/\b≠X.env.locals/\b∉X.fs/\(b∈X.ex\/X.s₀.heap.objs.size<=b)/\(∀ x c,X.env.cells.lookup x=some c->c≠b)/\∀ p∈X.pn++pins,p.1≠b
theorem Inv.fpOk(I:Inv X pins σ H s)(hb:s.heap.objs.size<=b)(hn:H' b=none):FpOk X pins H' b:=by
 refine⟨hn,Nat.ne_of_gt (zvk I.lt hb),I.nofs hb,.inr (zvb I.sz hb),fun x c e z=>?_,fun p hp z=>?_⟩
 ·obtain⟨v,q⟩:=I.cell x c e;exact absurd (zvk q.lt (by rw[z];exact hb)) (zwn _)
 ·exact absurd (zvk (Heap.lt_size (I.pin p hp).1) (by rw[z];exact hb)) (zwn _)
structure Bf(P:Program)(w:World)(K:Frag)(tg:Expr)(J:It)(fp:List Addr)(it:Addr)(tn:Nat->Heap->Prop):Prop where
 mem:it∈fp
 obj:∀ i h,tn i h->∀ b∈fp,∃ o,h.get? b=some o/\∀ v,o.data≠.cell v
 keep:∀ i h h',tn i h->(∀ b∈fp,∀ o,h.get? b=some o->h'.get? b=some o)->tn i h'
 item:∀ (X:Cx),X.prog=P->X.w=w->X.K=K->X.calm=true->∀ (i:Nat) (pins:List (Addr×Obj)) (s:Shared) (σ:St) (H:Hp) (E:Value->Shared->Prop),Inv X pins σ H s->(∀ b∈fp,FpOk X pins H b)->tn i s.heap->J.go i H ->
  wpAny (model P w) X.A (pyNext (.ref it)) (fun r s1=>∃ u,r=some u /\
   wpAny (model P w) X.A (letOwnedTupleGo tg (.ref it) u) (fun _ s2=>∃ x H',Inv X pins σ H' s2/\RelV x u/\J.yld i H x H'/\tn (i+1) s2.heap/\∀ b∈fp,H' b=none) E s1) E s
 done:∀ (X:Cx),X.prog=P->X.w=w->X.K=K->X.calm=true->∀ (i:Nat) (pins:List (Addr×Obj)) (s:Shared) (σ:St) (H:Hp) (E:Value->Shared->Prop),Inv X pins σ H s->(∀ b∈fp,FpOk X pins H b)->tn i s.heap->J.stop i H ->
  wpAny (model P w) X.A (pyNext (.ref it)) (fun r s1=>r=none/\Inv X pins σ H s1) E s
 self:∀ (A:Around) (i:Nat) (s:Shared) (Q:Value->Shared->Prop) (E:Value->Shared->Prop),tn i s.heap->Q (.ref it) s->wpAny (model P w) A (pyIter (.ref it)) Q E s
abbrev TI:=St->Hp->(It->Hp->Prop)->Prop
def PIE(X:Cx)(pins:List (Addr×Obj))(σ:St)(tg:Expr)(R:It->Hp->Prop)(itv:Value)(s2:Shared):Prop :=
 ∃ (it:Addr) (fp:List Addr) (tn:Nat->Heap->Prop) (J:It) (H':Hp),itv=.ref it/\Inv X pins σ H' s2/\Bf X.prog X.w X.K tg J fp it tn/\tn 0 s2.heap/\(∀ b∈fp,FpOk X pins H' b)/\R J H'
def PI(X:Cx)(tg iter:Expr)(wi:TI):Prop :=
 ∀ (pins:List (Addr×Obj)) (s:Shared) (σ:St) (H:Hp) (R:It->Hp->Prop),Inv X pins σ H s->wi σ H R ->
   wpAny (model X.prog X.w) X.A (eval iter X.env) (fun v s1=>wpAny (model X.prog X.w) X.A (pyIter v) (PIE X pins σ tg R) X.xe s1) X.xe s
theorem ze4(ho:s.heap.get? it=some o)(hc:o.cls=.type n)(hd:o.data=.fields vs)
  (hn:["enumerate","zip","dict_itemiterator","dict_reverseitemiterator","odict_iterator","itertools.zip_longest","itertools.pairwise"].contains n=false) (hQ:Q () s):wpAny M A (letOwnedTupleGo tg (.ref it) u) Q E s:=by
 unfold letOwnedTupleGo;cases tg<;>first
  | exact wpAny_pure hQ
  | (cases u<;>first
    | exact wpAny_pure hQ
    | (refine wpAny_bind (wpAny_load ho ?_)
       rw[hc,hd];show wpAny M A (if (["enumerate","zip","dict_itemiterator","dict_reverseitemiterator","odict_iterator","itertools.zip_longest","itertools.pairwise"].contains n&&vs[0]? == some (rawInt _))=true then _ else _) Q E s;rw[if_neg (by intro h;rw[hn,Bool.false_and] at h;cases h)];exact wpAny_pure hQ))
def Itl(K:Frag)(a:Addr):It :=
 ⟨fun i H=>∃ xs x,SqL K H a xs/\xs[i]?=some x,fun i H x H'=>H'=H/\∀ xs,SqL K H a xs->xs[i]?=some x,fun i H=>∃ xs,SqL K H a xs/\xs.length<=i⟩
def Itr(lo:Int)(n:Nat):It:=⟨fun i _=>i<n,fun i H x H'=>H'=H/\x=.int (lo+i),fun i _=>n<=i⟩
theorem zdh{P:Program}{w:World}{K:Frag}{tg:Expr}(a it:Addr):Bf P w K tg (Itl K a) [it] it (fun i h=>h.IsListIter it a i) where
 mem:=by simp
 obj:=fun i h st b hb=>by
  have e:b=it:=by simpa using hb
  subst e;obtain⟨o,e,c,d⟩:=st;exact⟨o,e,fun v z=>by rw[d] at z;cases z⟩
 keep:=fun i h h' st k=>st.at fun o e=>k it (by simp) o e
 item:=by
  intro X hP hw hK hc i pins s σ H E I hf st hg;subst hP hw hK;obtain⟨xs,x,hq,hx⟩:=hg;obtain⟨its,rv,p,hz⟩:=I.list hq;obtain⟨u,hu,ru⟩:=rv.get hx;obtain⟨f0,f1,f2,f3,f4,f5⟩:=hf it (by simp);refine wpAny_pyNext_list_item st p.isList (x:=u) (by simpa using hu) fun h' st' sb=>?_;have I1:Inv X pins σ H { s with heap:=h' }:=I.turned (t':=s.toks) (fun b o hb e=>(sb.2 b hb).trans e) f0 f1 f3 f4 f5;obtain⟨o,e,c,d⟩:=id st';exact⟨u,rfl,ze4 (s:={ s with heap:=h' }) e c d ⋯ ⟨x,H,I1,ru,⟨rfl,fun ys hy=>by rw[I.list_inj hy hq];exact hx⟩,st',fun b hb=>(hf b hb).1⟩⟩
 done:=by
  intro X hP hw hK hc i pins s σ H E I hf st hg;subst hP hw hK;obtain⟨xs,hq,hx⟩:=hg;obtain⟨its,rv,p,hz⟩:=I.list hq;obtain⟨f0,f1,f2,f3,f4,f5⟩:=hf it (by simp);have hl:=rv.length;exact wpAny_pyNext_list_end (I.ok.hd hc) st p.isList (by simp;omega) fun h' eb=>⟨rfl,I.turned (t':=s.toks) (fun b o hb e=>eb b o hb e) f0 f1 f3 f4 f5⟩
 self:=fun _ _ _ _ _ st h=>wpAny_pyIter_listiter st h
theorem zap{P:Program}{w:World}{K:Frag}{tg:Expr}(it:Addr)(lo:Int)(n:Nat):Bf P w K tg (Itr lo n) [it] it (fun i h=>IsRangeIter h it (lo+(i:Nat)*1) ((n:Int)-(i:Nat)) 1) where
 mem:=by simp
 obj:=fun i h st b hb=>by
  have e:b=it:=by simpa using hb
  subst e;exact⟨_,st,fun v z=>by
   have z':Data.fields _=Data.cell v:=z;cases z'⟩
 keep:=fun i h h' st k=>k it (by simp) _ st
 item:=by
  intro X hP hw hK hc i pins s σ H E I hf st hg;subst hP hw hK;obtain⟨f0,f1,f2,f3,f4,f5⟩:=hf it (by simp);have W:=Walks.range (prog:=X.prog) (w:=X.w) (I.ok.hd hc) it lo 1 n;refine W.item i s _ _ hg st fun v h' tk hv st' kk=>?_;obtain⟨t,rfl⟩:=hv;have I1:Inv X pins σ H { s with heap:=h',toks:=tk }:=I.turned (fun b o hb e=>kk b o (by simpa using hb) e) f0 f1 f3 f4 f5;refine⟨_,rfl,ze4 (s:={ s with heap:=h',toks:=tk }) (n:="range_iterator") st' rfl rfl ⋯ ⟨.int (lo+i),H,I1,⟨t,?_⟩,⟨rfl,rfl⟩,st',fun b hb=>(hf b hb).1⟩⟩;rw[Int.mul_one]
 done:=by
  intro X hP hw hK hc i pins s σ H E I hf st hg;subst hP hw hK;obtain⟨f0,f1,f2,f3,f4,f5⟩:=hf it (by simp);exact wpAny_pyNext_range_end (I.ok.hd hc) st (by have:n<=i:=hg;omega) fun h' eb=>⟨rfl,I.turned (t':=s.toks) (fun b o hb e=>eb b o hb e) f0 f1 f3 f4 f5⟩
 self:=fun _ _ _ _ _ st h=>wpAny_pyIter_rangeiter st h
section
variable{X:Cx}{tg:Expr}
inductive zi8(K:Frag)(R:It->Hp->Prop)(x:V)(H1:Hp):Prop where
 | mk(a)(_:x=.ref a)(_:(∃ xs,SqL K H1 a xs))(_:R (Itl K a) H1)
def zih(K:Frag)(tl:TE):TI:=fun σ H R=>tl σ H fun x H1=>zi8 K R x H1
theorem zg6{l:Expr}{tl:TE}(hl:PE X l tl):PI X tg l (zih X.K tl):=by
 intro pins s σ H R I h;refine thn (hl pins s σ H _ I h) fun v s1 ⟨x,H1,I1,r1,q1⟩=>?_;obtain⟨a,e,⟨xs,hq⟩,q⟩:=q1;subst e;cases r1;obtain⟨its,rv,p,hz⟩:=I1.list hq;refine wpAny_pyIter_list p.isList ?_;refine⟨s1.heap.objs.size,[s1.heap.objs.size],_,_,H1,rfl,I1.kept (t':=s1.toks) fun b o e=>Heap.get?_push_of_some _ e,zdh a _,⟨_,Heap.get?_push_size _ rfl,rfl,rfl⟩,fun b hb=>?_,q⟩;have e:b=s1.heap.objs.size:=by simpa using hb
 subst e;exact I1.fpOk (zu7 _) (I1.hok.fresh (zu7 _))
theorem Bg{pins:List (Addr×Obj)}{σ:St}{H:Hp}{s:Shared}{R:It->Hp->Prop}{E:Value->Shared->Prop}{lo hi:Int}{t u v:Tok}{tk:Nat}(I:Inv X pins σ H s)(h1:-(2 ^ 62)<=lo)(h2:lo<2 ^ 62)(h3:-(2 ^ 62)<=hi)(h4:hi<2 ^ 62)
  (q:R (Itr lo (hi-lo).toNat) H):wpAny (model X.prog X.w) X.A (pyIter (.ref s.heap.objs.size)) (PIE X pins σ tg R) E { s with heap:=s.heap.push { cls:=.type "range",data:=.fields #[.int lo t,.int hi u,.int 1 v] },toks:=tk }:=by
 refine wpAny_pyIter_range (IsRange.new ..) (small_one h1 h2 h3 h4) ?_;have I1:Inv X pins σ H { s with heap:=s.heap.push { cls:=.type "range",data:=.fields #[.int lo t,.int hi u,.int 1 v] },toks:=tk }:=I.kept fun b o e=>Heap.get?_push_of_some _ e;refine⟨(s.heap.push { cls:=.type "range",data:=.fields #[.int lo t,.int hi u,.int 1 v] }).objs.size,[(s.heap.push { cls:=.type "range",data:=.fields #[.int lo t,.int hi u,.int 1 v] }).objs.size],_,_,H,rfl,
  I1.kept (t':=tk) fun b o e=>Heap.get?_push_of_some _ e,zap _ lo (hi-lo).toNat,?_,fun b hb=>?_,q⟩
 ·have e1:lo+((0:Nat):Int)*1=lo:=by simp
  have e2:(((hi-lo).toNat:Nat):Int)-((0:Nat):Int)=Builtin.Range.rangeSize lo hi 1:=by rw[rangeSize_one];split<;>omega
  show IsRangeIter _ _ (lo+((0:Nat):Int)*1) ((((hi-lo).toNat:Nat):Int)-((0:Nat):Int)) 1;rw[e1,e2];exact Heap.get?_push_size _ rfl
 ·have e:b=(s.heap.push { cls:=.type "range",data:=.fields #[.int lo t,.int hi u,.int 1 v] }).objs.size:=by simpa using hb
  subst e;exact I1.fpOk (zu7 _) (I1.hok.fresh (zu7 _))
def zko(ta:TA):TI:=fun σ H R=>ta σ H fun vs H1=>∃ j:Int,vs=[.int j]/\-(2 ^ 62)<=j/\j<2 ^ 62/\R (Itr 0 j.toNat) H1
def zkp(ta:TA):TI:=fun σ H R=>ta σ H fun vs H1=>∃ i j:Int,vs=[.int i,.int j]/\(-(2 ^ 62)<=i/\i<2 ^ 62/\-(2 ^ 62)<=j/\j<2 ^ 62)/\R (Itr i (j-i).toNat) H1
theorem Xu{a:Expr}{ta:TA}{p pos:Pos}(hg:Gl X "range")(hm:X.mg "range"=none)(ha:PA X [a] ta)(hs:starEach [a] X.env=[(false,eval a X.env)]:=by rfl):PI X tg (.Call (.Name "range" p) [a] [] pos) (zko ta):=by
 intro pins s σ H R I h;refine Call_ (Ot I hg hm boot_range (PyProof.Rows.callWith_type1 (thn (ha pos pins s σ H _ I h) fun us s1 ⟨vs,H1,I1,r1,q1⟩=>?_) hs rfl));obtain⟨j,e,q1,q2,q⟩:=q1;subst e;cases r1 with
 | cons r rr =>
   cases rr;obtain⟨t,rfl⟩:=r;exact call_range_1 (Bg I1 ⋯ ⋯ q1 q2 (by simpa using q))
theorem Ek(hg:Gl X "range")(hm:X.mg "range"=none)(ha:PA X [a,b] ta)(hs:starEach [a,b] X.env=[(false,eval a X.env),(false,eval b X.env)]:=by rfl)(hs2:starEach [b] X.env=[(false,eval b X.env)]:=by rfl) :
  PI X tg (.Call (.Name "range" p) [a,b] [] pos) (zkp ta):=by
 intro pins s σ H R I h;refine Call_ (Ot I hg hm boot_range (PyProof.Rows.callWith_type1 (thn (ha pos pins s σ H _ I h) fun us s1 ⟨vs,H1,I1,r1,q1⟩=>?_) (by rw[hs,hs2]) (by rw[hs2];rfl)));obtain⟨i,j,e,⟨q1,q2,q3,q4⟩,q⟩:=q1;subst e;cases r1 with
 | cons r rr =>
   cases rr with
   | cons r' rr =>
     cases rr;obtain⟨t,rfl⟩:=r;obtain⟨t',rfl⟩:=r';exact call_range_2 (Bg I1 q1 q2 q3 q4 q)
def zdi(wi:TI)(g:TG)(tb:TS):TS:=fun D σ H=>wi σ H fun J H1=>∃ W:Nat->Nat->St->Hp->Prop,(∃ m,W 0 m σ H1)/\∀ i m σ H,W i m σ H ->
 (J.stop i H/\D.nx σ H)\/(J.go i H/\∃ N:St->Hp->Prop,(∀ σ' H',N σ' H'->∃ m',m' < m/\W (i+1) m' σ' H')/\∀ x H',J.yld i H x H'->g x σ H' fun σ2 H2=>tb { D with nx:=N,ct:=N,bk:=D.nx } σ2 H2)
def M0(fp:List Addr)(h:Heap):List (Addr×Obj):=fp.filterMap fun b=>(h.get? b).map fun o=>(b,o)
theorem Rt(hb:b∈fp)(e:h.get? b=some o):(b,o)∈M0 fp h:=zwo.mpr ⟨b,hb,by rw[e];rfl⟩
theorem zdj(hp:p∈M0 fp h):p.1∈fp/\h.get? p.1=some p.2:=by
 obtain⟨b,hb,e⟩:=zwo.mp hp;cases q:h.get? b with
 | none=>rw[q] at e;cases e
 | some o =>
   rw[q] at e;have e':(b,o)=p:=Option.some.inj e;subst e';exact⟨hb,q⟩
theorem Inv.pinned(I:Inv X pins σ H s)(hf:∀ b∈fp,FpOk X pins H b)(ho:∀ b∈fp,∃ o,s.heap.get? b=some o/\∀ v,o.data≠.cell v):Inv X (pins++M0 fp s.heap) σ H s :=
 I.pins_of fun p hp=>(zu8.mp hp).elim (fun z=>I.pin p (zvj _ z)) fun z=>by
  obtain⟨hb,e⟩:=zdj z;obtain⟨f0,f1,f2,_⟩:=hf p.1 hb;obtain⟨o,e',d⟩:=ho p.1 hb;rw[e] at e';cases e';exact⟨e,f0,f1,f2,d⟩
theorem Inv.unpinned(I:Inv X (pins++pl) σ H s):Inv X pins σ H s:=I.pins_of fun p hp=>I.pin p (zvj _ (zvn _ hp))
theorem Yy(hp:PassesOwn (model X.prog X.w) X.A X.env X.xe)(hc:X.calm=true)(hi:PI X tg iter wi)(hg:PG X tg g)(hb:PSs X body tb)
  (hs:∀ x,foldedSetIterable iter X.env x=pure x:=by intro _;rfl):PS X (.For tg iter body [] pos) (zdi wi g tb):=by
 intro pins s σ H D I h;refine wpAny_For (thn (hi pins s σ H _ I h) fun v s1 h1=>thn h1 fun itv s2 h2=>?_) hs;obtain⟨it,fp,tn,J,H2,e,I2,T,st2,f2,W,⟨m0,w0⟩,turn⟩:=h2;subst e;have stat:∀ {H':Hp},(∀ b∈fp,H' b=none)->∀ b∈fp,FpOk X pins H' b:=fun hn b hb=>⟨hn b hb,(f2 b hb).2⟩
 refine codeAny_forLoop_any (fun n s'=>∃ i σ' H',Inv X pins σ' H' s'/\tn i s'.heap/\(∀ b∈fp,H' b=none)/\W i n σ' H') ?_ m0 ⟨0,σ,H2,I2,st2,fun b hb=>(f2 b hb).1,w0⟩;rintro n s3 ⟨i,σ3,H3,I3,st3,fr3,w3⟩;rcases turn i n σ3 H3 w3 with ⟨stop,qn⟩|⟨go,N,hN,step⟩
 ·refine wpAny_passesOwn hp (thn (T.done X rfl rfl rfl hc i pins s3 σ3 H3 X.xe I3 (stat fr3) st3 stop) fun r s4 ⟨hr,I4⟩=>?_);subst hr;exact wpAny_execs_nil ⟨σ3,H3,I4,qn⟩
 ·refine wpAny_passesOwn hp (thn (T.item X rfl rfl rfl hc i pins s3 σ3 H3 X.xe I3 (stat fr3) st3 go) fun r s4 ⟨u,hr,h4⟩=>?_);subst hr;refine wpAny_passesOwn hp (thn h4 fun _ s5 ⟨x,H5,I5,r5,y5,st5,fr5⟩=>?_);have I5':=I5.pinned (stat fr5) (T.obj _ _ st5);refine wpAny_passesOwn hp (thn (hg _ s5 σ3 H5 x u _ I5' r5 (step x H5 y5)) fun _ s6 ⟨σ6,H6,I6,q6⟩=>?_);refine wpAny_passesOwn hp (thn (hb _ s6 σ6 H6 _ I6 q6) fun f s7 q7=>?_);have again:∀ {σ7:St} {H7:Hp},Inv X (pins++M0 fp s5.heap) σ7 H7 s7->N σ7 H7->∃ m,m<n/\∃ i σ' H',Inv X pins σ' H' s7/\tn i s7.heap/\(∀ b∈fp,H' b=none)/\W i m σ' H':=fun {σ7 H7} I7 n7=>by
   obtain⟨m',hm,w7⟩:=hN σ7 H7 n7;refine⟨m',hm,i+1,σ7,H7,I7.unpinned,T.keep _ _ _ st5 fun b hb o e=>(I7.pin (b,o) (zvj _ (zvj _ (Rt hb e)))).1,fun b hb=>?_,w7⟩;obtain⟨o,e,d⟩:=T.obj _ _ st5 b hb;exact(I7.pin (b,o) (zvj _ (zvj _ (Rt hb e)))).2.1
  cases f with
  | next=>obtain⟨σ7,H7,I7,n7⟩:=q7;exact again I7 n7
  | cont=>obtain⟨σ7,H7,I7,n7⟩:=q7;exact again I7 n7
  | brk=>obtain⟨σ7,H7,I7,q7⟩:=q7;exact⟨σ7,H7,I7.unpinned,q7⟩
  | ret v=>obtain⟨x7,σ7,H7,I7,r7,q7⟩:=q7;exact⟨x7,σ7,H7,I7.unpinned,r7,q7⟩
end
theorem Xf{K:Frag}{a:Addr}{xs:List V}{g:TG}{tb:TS}{D:Oa}{σ:St}{H:Hp}(Pv:Nat->St->Hp->Prop)(h0:Pv 0 σ H)(hl:∀ i σ H,i<=xs.length->Pv i σ H->SqL K H a xs)
  (hs:∀ i x σ H,xs[i]?=some x->Pv i σ H->g x σ H fun σ2 H2=>tb { D with nx:=Pv (i+1),ct:=Pv (i+1),bk:=D.nx } σ2 H2) (hd:∀ σ H,Pv xs.length σ H->D.nx σ H) :
  ∃ W:Nat->Nat->St->Hp->Prop,(∃ m,W 0 m σ H)/\∀ i m σ H,W i m σ H ->
    ((Itl K a).stop i H/\D.nx σ H)\/((Itl K a).go i H/\∃ N:St->Hp->Prop,(∀ σ' H',N σ' H'->∃ m',m' < m/\W (i+1) m' σ' H')/\∀ x H',(Itl K a).yld i H x H'->g x σ H' fun σ2 H2=>tb { D with nx:=N,ct:=N,bk:=D.nx } σ2 H2):=by
 refine⟨fun i m σ H=>m=xs.length-i/\i<=xs.length/\Pv i σ H,⟨xs.length,by simp,zvo _,h0⟩,?_⟩;rintro i m σ H ⟨rfl,hi,p⟩;have q:=hl i σ H hi p;by_cases hlt:i<xs.length
 ·refine .inr ⟨⟨xs,xs[i],q,by simp[hlt]⟩,Pv (i+1),fun σ' H' p'=>⟨xs.length-(i+1),by omega,rfl,hlt,p'⟩,fun x H' y=>?_⟩;obtain⟨e,y⟩:=y;subst e;exact hs i x σ _ (y xs q) p
 ·have e:i=xs.length:=by omega
  subst e;exact .inl ⟨⟨xs,q,zu7 _⟩,hd σ H p⟩
theorem Wk{lo:Int}{n:Nat}{g:TG}{tb:TS}{D:Oa}{σ:St}{H:Hp}(Pv:Nat->St->Hp->Prop)(h0:Pv 0 σ H)
  (hs:∀ i σ H,i<n->Pv i σ H->g (.int (lo+i)) σ H fun σ2 H2=>tb { D with nx:=Pv (i+1),ct:=Pv (i+1),bk:=D.nx } σ2 H2) (hd:∀ σ H,Pv n σ H->D.nx σ H) :
  ∃ W:Nat->Nat->St->Hp->Prop,(∃ m,W 0 m σ H)/\∀ i m σ H,W i m σ H ->
    ((Itr lo n).stop i H/\D.nx σ H)\/((Itr lo n).go i H/\∃ N:St->Hp->Prop,(∀ σ' H',N σ' H'->∃ m',m' < m/\W (i+1) m' σ' H')/\∀ x H',(Itr lo n).yld i H x H'->g x σ H' fun σ2 H2=>tb { D with nx:=N,ct:=N,bk:=D.nx } σ2 H2):=by
 refine⟨fun i m σ H=>m=n-i/\i<=n/\Pv i σ H,⟨n,by simp,zvo _,h0⟩,?_⟩;rintro i m σ H ⟨rfl,hi,p⟩;by_cases hlt:i<n
 ·refine .inr ⟨hlt,Pv (i+1),fun σ' H' p'=>⟨n-(i+1),by omega,rfl,hlt,p'⟩,fun x H' y=>?_⟩;obtain⟨e,y⟩:=y;subst e y;exact hs i σ _ hlt p
 ·have e:i=n:=by omega
  subst e;exact .inl ⟨zu7 _,hd σ H p⟩
abbrev R2:=V->V->Hp->VK->Prop
def OpR(X:Cx)(f:Value->Value->Sem Value)(r:R2):Prop :=
 ∀ (pins:List (Addr×Obj)) (s:Shared) (σ:St) (H:Hp) (x y:V) (v u:Value) (Q:VK),Inv X pins σ H s->RelV x v->RelV y u->r x y H Q ->
   wpAny (model X.prog X.w) X.A (f v u) (EP X pins σ Q) X.xe s
def UnR(X:Cx)(f:Value->Sem Value)(r:V->Hp->VK->Prop):Prop :=
 ∀ (pins:List (Addr×Obj)) (s:Shared) (σ:St) (H:Hp) (x:V) (v:Value) (Q:VK),Inv X pins σ H s->RelV x v->r x H Q ->
   wpAny (model X.prog X.w) X.A (f v) (EP X pins σ Q) X.xe s
def Vm(X:Cx)(f:Value)(r:List V->Hp->VK->Prop):Prop :=
 ∀ (pins:List (Addr×Obj)) (s:Shared) (σ:St) (H:Hp) (xs:List V) (us:List Value) (Q:VK),Inv X pins σ H s->Vals xs us->r xs H Q ->
   wpAny (model X.prog X.w) X.A (call f us) (EP X pins σ Q) X.xe s
def zlx(X:Cx)(r:V->Hp->(Bool->Hp->Prop)->Prop):Prop :=
 ∀ (pins:List (Addr×Obj)) (s:Shared) (σ:St) (H:Hp) (x:V) (v:Value) (Q:Bool->Hp->Prop),Inv X pins σ H s->RelV x v->r x H Q ->
   wpAny (model X.prog X.w) X.A (truthy v) (TP X pins σ Q) X.xe s
def tOp(r:R2)(ta tb:TE):TE:=fun σ H Q=>ta σ H fun x H1=>tb σ H1 fun y H2=>r x y H2 Q
def tUn(r:V->Hp->VK->Prop)(ta:TE):TE:=fun σ H Q=>ta σ H fun x H1=>r x H1 Q
inductive rI(C:Int->Int->Prop)(g:Int->Int->V)(x:V)(y:V)(H:Hp)(Q:VK):Prop where
 | mk(i)(j)(_:x=.int i)(_:y=.int j)(_:C i j/\Q (g i j) H)
inductive rI0(g:Int->Int->V)(x:V)(y:V)(H:Hp)(Q:VK):Prop where
 | mk(i)(j)(_:x=.int i)(_:y=.int j)(_:Q (g i j) H)
inductive rU(g:Int->V)(x:V)(H:Hp)(Q:VK):Prop where
 | mk(i)(_:x=.int i)(_:Q (g i) H)
section
variable{X:Cx}{a b c:Expr}{ta tb tc:TE}{pos:Pos}
theorem binT(ha:PE X a ta)(hb:PE X b tb){pins:List (Addr×Obj)}{s:Shared}{σ:St}{H:Hp}{R:V->V->Hp->Prop}(I:Inv X pins σ H s)
  (h:ta σ H fun x H1=>tb σ H1 fun y H2=>R x y H2) {Q:Value->Shared->Prop} {f:Value->Value->Sem Value}
  (hf:∀ v u s2 x y H2,Inv X pins σ H2 s2->RelV x v->RelV y u->R x y H2->wpAny (model X.prog X.w) X.A (f v u) Q X.xe s2) :
  wpAny (model X.prog X.w) X.A (eval a X.env) (fun v s₁=>wpAny (model X.prog X.w) X.A (eval b X.env) (fun u s₂=>wpAny (model X.prog X.w) X.A (f v u) Q X.xe s₂) X.xe s₁) X.xe s:=by
 refine thn (ha pins s σ H _ I h) fun v s1 ⟨x,H1,I1,r1,q1⟩=>?_;refine thn (hb pins s1 σ H1 _ I1 q1) fun u s2 ⟨y,H2,I2,r2,q2⟩=>?_;exact hf v u s2 x y H2 I2 r1 r2 q2
theorem Zt{op:Operator}{r:R2}(ho:OpR X (binaryOp op) r)(ha:PE X a ta)(hb:PE X b tb):PE X (.BinOp a op b pos) (tOp r ta tb):=by
 intro pins s σ H Q I h;exact wpAny_BinOp (binT ha hb I h fun v u s2 x y H2 I2 rx ry q=>ho pins s2 σ H2 x y v u Q I2 rx ry q)
theorem N4(ho:UnR X (unaryOp op) r)(ha:PE X a ta):PE X (.UnaryOp op a pos) (tUn r ta):=by
 intro pins s σ H Q I h;exact UnaryOp_ (thn (ha pins s σ H _ I h) fun v s1 ⟨x,H1,I1,r1,q1⟩=>ho pins s1 σ H1 x v Q I1 r1 q1)
theorem opI{f:Value->Value->Sem Value}{C:Int->Int->Prop}{g:Int->Int->Int}
  (rule:∀ (i j:Int) (t u:Tok) (s:Shared) (Q:Value->Shared->Prop) (E:Value->Shared->Prop),C i j->Q (.int (g i j) s.toks) { s with toks:=s.toks+1 }->wpAny (model X.prog X.w) X.A (f (.int i t) (.int j u)) Q E s) :
  OpR X f (rI C fun i j=>.int (g i j)):=by
 intro pins s σ H x y v u Q I rx ry h;obtain⟨i,j,rfl,rfl,hc,q⟩:=h;obtain⟨t,rfl⟩:=rx;obtain⟨t',rfl⟩:=ry;exact rule i j t t' s _ _ hc ⟨.int (g i j),H,I.tok _,⟨_,rfl⟩,q⟩
theorem zkq{f:Value->Value->Sem Value}{g:Int->Int->Int}
  (rule:∀ (i j:Int) (t u:Tok) (s:Shared) (Q:Value->Shared->Prop) (E:Value->Shared->Prop),Q (.int (g i j) s.toks) { s with toks:=s.toks+1 }->wpAny (model X.prog X.w) X.A (f (.int i t) (.int j u)) Q E s) :
  OpR X f (rI0 fun i j=>.int (g i j)):=by
 intro pins s σ H x y v u Q I rx ry h;obtain⟨i,j,rfl,rfl,q⟩:=h;obtain⟨t,rfl⟩:=rx;obtain⟨t',rfl⟩:=ry;exact rule i j t t' s _ _ ⟨.int (g i j),H,I.tok _,⟨_,rfl⟩,q⟩
theorem zg7{f:Value->Value->Sem Value}{g:Int->Int->Bool}
  (rule:∀ (i j:Int) (t u:Tok) (s:Shared) (Q:Value->Shared->Prop) (E:Value->Shared->Prop),Q (.bool (g i j)) s->wpAny (model X.prog X.w) X.A (f (.int i t) (.int j u)) Q E s) :
  OpR X f (rI0 fun i j=>.bl (g i j)):=by
 intro pins s σ H x y v u Q I rx ry h;obtain⟨i,j,rfl,rfl,q⟩:=h;obtain⟨t,rfl⟩:=rx;obtain⟨t',rfl⟩:=ry;exact rule i j t t' s _ _ ⟨.bl (g i j),H,I,rfl,q⟩
def CDiv(i j:Int):Prop:=0<j/\j<1073741824
def CMul(i j:Int):Prop:=(-(2 ^ 64)<i/\i<2 ^ 64)\/(-(2 ^ 64)<j/\j<2 ^ 64)
theorem CMul.ok(h:CMul i j):IntMulOk i j:=by
 rcases h with ⟨h1,h2⟩|⟨h1,h2⟩
 ·exact .of_left (intBits_le_64 h1 h2)
 ·exact .of_right (intBits_le_64 h1 h2)
theorem Yz:OpR X (binaryOp .Add) (rI0 fun i j=>.int (i+j)):=zkq fun _ _ _ _ _ _ _ q=>add_int q
theorem Qz:OpR X (binaryOp .Sub) (rI0 fun i j=>.int (i-j)):=zkq fun _ _ _ _ _ _ _ q=>sub_int q
theorem Q0:OpR X (binaryOp .Mult) (rI CMul fun i j=>.int (i*j)):=opI fun _ _ _ _ _ _ _ hc q=>mul_int q hc.ok
theorem Xe:OpR X (binaryOp .FloorDiv) (rI CDiv fun i j=>.int (i/j)):=opI fun i j _ _ _ _ _ hc q=>by
 have h1:(0:Int)<j:=hc.1;have h2:j<1073741824:=hc.2;exact floordiv_int ⋯ (by rw[Int.fdiv_eq_ediv_of_nonneg i ⋯];exact q) (.inl (PyProof.noPylong_small ⋯))
theorem Yv:OpR X (binaryOp .Mod) (rI (fun _ j=>0<j) fun i j=>.int (i%j)):=opI fun i j _ _ _ _ _ hc q=>by
 have h1:(0:Int)<j:=hc;exact mod_int' ⋯ (by rw[Int.fmod_eq_emod_of_nonneg i ⋯];exact q)
theorem unI{f:Value->Sem Value}{g:Int->Int}
  (rule:∀ (i:Int) (t:Tok) (s:Shared) (Q:Value->Shared->Prop) (E:Value->Shared->Prop),Q (.int (g i) s.toks) { s with toks:=s.toks+1 }->wpAny (model X.prog X.w) X.A (f (.int i t)) Q E s) :
  UnR X f (rU fun i=>.int (g i)):=by
 intro pins s σ H x v Q I rx h;obtain⟨i,rfl,q⟩:=h;obtain⟨t,rfl⟩:=rx;exact rule i t s _ _ ⟨.int (g i),H,I.tok _,⟨_,rfl⟩,q⟩
theorem Ru:UnR X (unaryOp .USub) (rU fun i=>.int (-i)):=unI fun _ _ _ _ _ q=>neg_int q
end
def zkr:V->V->Bool
 | .non,.non=>true|.non,.int _=>true|.int _,.non=>true|.non,.bl _=>true|.bl _,.non=>true|.non,.str _=>true|.str _,.non=>true
 | .int _,.int _=>true|.bl _,.bl _=>true|.str _,.str _=>true|.byt _,.byt _=>true
 | .int _,.str _=>true|.str _,.int _=>true|.bl _,.str _=>true|.str _,.bl _=>true
 | _,_=>false
inductive rEq(x:V)(y:V)(H:Hp)(Q:VK):Prop where
 | mk(_:zkr x y=true)(_:Q (.bl (decide (x=y))) H)
inductive rNe(x:V)(y:V)(H:Hp)(Q:VK):Prop where
 | mk(_:zkr x y=true)(_:Q (.bl (!decide (x=y))) H)
theorem zb6:decide (V.int i=V.int j)=(i == j):=by
 rw[zw3];simp
theorem ze5:decide (V.bl i=V.bl j)=(i == j):=by
 rw[zw3];simp
theorem zb7:decide (V.str i=V.str j)=(i == j):=by
 rw[zw3];simp
theorem zb8:decide (V.byt i=V.byt j)=(i.toList == j.toList):=by
 rw[zw3];cases i;cases j;simp
section
variable{X:Cx}{a b c:Expr}{ta tb tc:TE}{pos:Pos}
theorem Yr(I:Inv X pins σ H s)(q:Q (.bl k) H)(e:k=k'):EP X pins σ Q (.bool k') s:=by
 subst e;exact⟨.bl k,H,I,rfl,q⟩
theorem Wd:OpR X (compareOp .Eq) rEq:=by
 intro pins s σ H x y v u Q I rx ry h;obtain⟨hs,q⟩:=h;cases x with
 | non =>
   cases rx;cases y with
   | non=>cases ry;exact PySem.EqNone.eq_none_none (Yr I q (by simp))
   | bl j=>cases ry;exact PySem.EqNone.eq_none_bool (Yr I q (by simp))
   | int j=>obtain⟨t',rfl⟩:=ry;exact PySem.EqNone.eq_none_int (Yr I q (by simp))
   | str j=>obtain⟨t',rfl⟩:=ry;exact PySem.EqNone.eq_none_str (Yr I q (by simp))
   | _=>exact absurd (show false=true from hs) zvh
 | bl i =>
   cases rx;cases y with
   | non=>cases ry;exact PySem.EqNone.eq_bool_none (Yr I q (by simp))
   | bl j=>cases ry;exact eq_bool (Yr I q ze5)
   | str j=>obtain⟨t',rfl⟩:=ry;exact PySem.EqMixed.eq_bool_str (Yr I q (by simp))
   | _=>exact absurd (show false=true from hs) zvh
 | int i =>
   obtain⟨t,rfl⟩:=rx;cases y with
   | non=>cases ry;exact PySem.EqNone.eq_int_none (Yr I q (by simp))
   | int j=>obtain⟨t',rfl⟩:=ry;exact eq_int (Yr I q zb6)
   | str j=>obtain⟨t',rfl⟩:=ry;exact PySem.EqMixed.eq_int_str (Yr I q (by simp))
   | _=>exact absurd (show false=true from hs) zvh
 | str i =>
   obtain⟨t,rfl⟩:=rx;cases y with
   | non=>cases ry;exact PySem.EqNone.eq_str_none (Yr I q (by simp))
   | bl j=>cases ry;exact PySem.EqMixed.eq_str_bool (Yr I q (by simp))
   | int j=>obtain⟨t',rfl⟩:=ry;exact PySem.EqMixed.eq_str_int (Yr I q (by simp))
   | str j=>obtain⟨t',rfl⟩:=ry;exact eq_str (Yr I q zb7)
   | _=>exact absurd (show false=true from hs) zvh
 | byt i =>
   obtain⟨t,rfl⟩:=rx;cases y with
   | byt j=>obtain⟨t',rfl⟩:=ry;exact PySem.W.eq_bytes (Yr I q zb8)
   | _=>exact absurd (show false=true from hs) zvh
 | _=>cases y<;>exact absurd (show false=true from hs) zvh
theorem El:OpR X (compareOp .NotEq) rNe:=by
 intro pins s σ H x y v u Q I rx ry h;obtain⟨hs,q⟩:=h;cases x with
 | non =>
   cases rx;cases y with
   | non=>cases ry;exact PySem.EqNone.ne_none_none (Yr I q (by simp))
   | bl j=>cases ry;exact PySem.EqNone.ne_none_bool (Yr I q (by simp))
   | int j=>obtain⟨t',rfl⟩:=ry;exact PySem.EqNone.ne_none_int (Yr I q (by simp))
   | str j=>obtain⟨t',rfl⟩:=ry;exact PySem.EqNone.ne_none_str (Yr I q (by simp))
   | _=>exact absurd (show false=true from hs) zvh
 | bl i =>
   cases rx;cases y with
   | non=>cases ry;exact PySem.EqNone.ne_bool_none (Yr I q (by simp))
   | bl j=>cases ry;exact ne_bool (Yr I q (congrArg not ze5))
   | str j=>obtain⟨t',rfl⟩:=ry;exact PySem.EqMixed.ne_bool_str (Yr I q (by simp))
   | _=>exact absurd (show false=true from hs) zvh
 | int i =>
   obtain⟨t,rfl⟩:=rx;cases y with
   | non=>cases ry;exact PySem.EqNone.ne_int_none (Yr I q (by simp))
   | int j=>obtain⟨t',rfl⟩:=ry;exact ne_int (Yr I q (congrArg not zb6))
   | str j=>obtain⟨t',rfl⟩:=ry;exact PySem.EqMixed.ne_int_str (Yr I q (by simp))
   | _=>exact absurd (show false=true from hs) zvh
 | str i =>
   obtain⟨t,rfl⟩:=rx;cases y with
   | non=>cases ry;exact PySem.EqNone.ne_str_none (Yr I q (by simp))
   | bl j=>cases ry;exact PySem.EqMixed.ne_str_bool (Yr I q (by simp))
   | int j=>obtain⟨t',rfl⟩:=ry;exact PySem.EqMixed.ne_str_int (Yr I q (by simp))
   | str j=>obtain⟨t',rfl⟩:=ry;exact ne_str (Yr I q (congrArg not zb7))
   | _=>exact absurd (show false=true from hs) zvh
 | byt i =>
   obtain⟨t,rfl⟩:=rx;cases y with
   | byt j=>obtain⟨t',rfl⟩:=ry;exact PySem.W.ne_bytes (Yr I q (congrArg not zb8))
   | _=>exact absurd (show false=true from hs) zvh
 | _=>cases y<;>exact absurd (show false=true from hs) zvh
theorem zb9:OpR X (compareOp .Lt) (rI0 fun i j=>.bl (decide (i<j))):=zg7 fun _ _ _ _ _ _ _ q=>lt_int q
theorem ze6:OpR X (compareOp .LtE) (rI0 fun i j=>.bl (decide (i<=j))):=zg7 fun _ _ _ _ _ _ _ q=>le_int q
theorem Sa:OpR X (compareOp .Gt) (rI0 fun i j=>.bl (decide (j<i))):=zg7 fun _ _ _ _ _ _ _ q=>gt_int q
theorem ze7:OpR X (compareOp .GtE) (rI0 fun i j=>.bl (decide (j<=i))):=zg7 fun _ _ _ _ _ _ _ q=>ge_int q
theorem Ou:OpR X (compareOp .Is) (fun x y H Q=>y=.non/\Q (.bl (decide (x=.non))) H):=by
 intro pins s σ H x y v u Q I rx ry h;obtain⟨rfl,q⟩:=h;cases ry;refine is_none_gen (Yr I q ?_);cases x<;>first
  | (cases rx;rfl)
  | (obtain⟨t,rfl⟩:=rx;rfl)
theorem U6:OpR X (compareOp .IsNot) (fun x y H Q=>y=.non/\Q (.bl (!decide (x=.non))) H):=by
 intro pins s σ H x y v u Q I rx ry h;obtain⟨rfl,q⟩:=h;cases ry;refine isnot_none_gen (Yr I q ?_);cases x<;>first
  | (cases rx;rfl)
  | (obtain⟨t,rfl⟩:=rx;rfl)
theorem Zu(b:Expr)(h:op≠.In:=by decide)(h2:op≠.NotIn:=by decide):behindInMarks op b=false:=by
 have e1:(op == CmpOp.In)=false:=by cases op<;>first|rfl|exact absurd rfl h
 have e2:(op == CmpOp.NotIn)=false:=by cases op<;>first|rfl|exact absurd rfl h2
 cases b<;>simp[behindInMarks,e1,e2]
theorem Sb{op:CmpOp}{r:R2}(ho:OpR X (compareOp op) r)(ha:PE X a ta)(hb:PE X b tb)(hm:behindInMarks op b=false):PE X (.Compare a [op] [b] pos) (tOp r ta tb):=by
 intro pins s σ H Q I h;exact wpAny_Compare1 (binT ha hb I h fun v u s2 x y H2 I2 rx ry q=>ho pins s2 σ H2 x y v u Q I2 rx ry q) hm
def Bh(t:TE):TT:=fun σ H Q=>t σ H fun x H'=>∃ k,x=.bl k/\Q k H'
theorem Zp(ho:OpR X (compareOp op) r)(ha:PE X a ta)(hb:PE X b tb)(hm:behindInMarks op b=false):PT X (.Compare a [op] [b] pos) (Bh (tOp r ta tb)):=by
 intro pins s σ H Q I h;refine wpAny_isTrue_Compare1 (thn (ha pins s σ H _ I h) fun v s1 ⟨x,H1,I1,r1,q1⟩=>thn (hb pins s1 σ H1 _ I1 q1) fun u s2 ⟨y,H2,I2,r2,q2⟩ =>
  thn (ho pins s2 σ H2 x y v u _ I2 r1 r2 q2) fun c s3 ⟨z,H3,I3,r3,k,e,q3⟩=>?_) hm
 subst e;cases r3;exact wpAny_truthy_bool ⟨H3,I3,q3⟩
def TruV(K:Frag)(x:V)(H:Hp)(k:Bool):Prop :=
 match x with
 | .non=>k=false
 | .bl b=>k=b
 | .int i=>k=(i != 0)
 | .str y=>y.length<=sizeLine/\k=((y.length:Int) != 0)
 | .byt y=>y.size<=sizeLine/\k=((y.size:Int) != 0)
 | .ref p=>(∃ xs,SqL K H p xs/\k=!xs.isEmpty)\/(∃ xs,SqT K H p xs/\k=!xs.isEmpty)\/∃ kvs,H p=some (.dK kvs)/\k=!kvs.isEmpty
 | _=>False
theorem zaq(r:KV kvs vs):(!vs.isEmpty)=!kvs.isEmpty:=by
 cases r<;>rfl
theorem J0(r:Vals xs its):(!its.toArray.isEmpty)=!xs.isEmpty:=by
 cases r<;>simp
theorem Ov:(sizeLine:Nat)<2 ^ 63:=by rw[sizeLine_eq];decide
theorem zi9:zlx X (fun x H Q=>∃ k,TruV X.K x H k/\Q k H):=by
 intro pins s σ H x v Q I rx h;obtain⟨k,e,q⟩:=h;have hl:=Ov;have hs:sizeLine=16777216:=sizeLine_eq;cases x with
 | non =>
   cases rx;have e':k=false:=e;subst e';exact truthy_none ⟨H,I,q⟩
 | bl b =>
   cases rx;have e':k=b:=e;subst e';exact wpAny_truthy_bool ⟨H,I,q⟩
 | int i =>
   obtain⟨t,rfl⟩:=rx;have e':k=(i != 0):=e;subst e';exact PySem.P.truthy_int ⟨H,I,q⟩
 | str y =>
   obtain⟨t,rfl⟩:=rx;obtain⟨hy,e'⟩:y.length<=sizeLine/\k=((y.length:Int) != 0):=e;subst e';exact PySem.P.truthy_str ⋯ ⟨H,I.tok _,q⟩
 | byt y =>
   obtain⟨t,rfl⟩:=rx;obtain⟨hy,e'⟩:y.size<=sizeLine/\k=((y.size:Int) != 0):=e;subst e';exact PySem.W.truthy_bytes ⋯ ⟨H,I.tok _,q⟩
 | ref p =>
   cases rx;have e':(∃ xs,SqL X.K H p xs/\k=!xs.isEmpty)\/(∃ xs,SqT X.K H p xs/\k=!xs.isEmpty)\/∃ kvs,H p=some (.dK kvs)/\k=!kvs.isEmpty:=e;rcases e' with ⟨xs,hx,e'⟩|⟨xs,hx,e'⟩|⟨kvs,hx,e'⟩
   ·subst e';obtain⟨its,r,pl,hz⟩:=I.list hx;have hlen:=r.length;exact wpAny_truthy_list pl.isList (by simp only[zvc];omega) ⟨H,I.tok _,by rw[J0 r];exact q⟩
   ·subst e';obtain⟨its,r,pl,hz⟩:=I.tuple hx;have hlen:=r.length;exact truthy_tuple pl (by simp only[zvc];omega) ⟨H,I.tok _,by rw[J0 r];exact q⟩
   ·subst e';obtain⟨hz,hS,vs,r,m⟩:kvs.length<=sizeLine/\(p == sysModules)=false/\∃ vs,KV kvs vs/\s.heap.DictOf (Yn X.prog X.w) p vs:=I.hok p _ hx;have hlen:kvs.length=vs.length:=Paired.length r;exact wpAny_truthy_dict hS m ⋯ ⟨H,I.tok _,by rw[zaq r];exact q⟩
 | _=>exact(show False from e).elim
theorem ze8(ha:PE X a ta)(he:∀ whole,isTrue a X.env whole=(do let v <- whole;standAt a.pos;holding [v] (truthy v))) :
  PT X a (fun σ H Q=>ta σ H fun x H'=>∃ k,TruV X.K x H' k/\Q k H'):=by
 intro pins s σ H Q I h;exact isTrue_plain (thn (ha pins s σ H _ I h) fun v s1 ⟨x,H1,I1,r1,q1⟩=>zi9 pins s1 σ H1 x v Q I1 r1 q1) (he _)
theorem Qg(r:Vals [x] us):∃ u,us=[u]/\RelV x u:=by
 cases r with
 | cons r1 r2=>cases r2;exact⟨_,rfl,r1⟩
theorem ze9(r:Vals [x,y] us):∃ u w',us=[u,w']/\RelV x u/\RelV y w':=by
 cases r with
 | cons r1 r2 =>
   cases r2 with
   | cons r3 r4=>cases r4;exact⟨_,_,rfl,r1,r3⟩
theorem M3(hc:X.calm=true):Vm X (.builtin "max") (fun xs H Q=>∃ i j,xs=[.int i,.int j]/\Q (.int (if j>i then j else i)) H):=by
 intro pins s σ H xs us Q I r h;obtain⟨i,j,rfl,q⟩:=h;obtain⟨u,w',rfl,⟨t,rfl⟩,⟨t',rfl⟩⟩:=ze9 r;refine max_two_ints (I.ok.hd hc) fun h' tk k=>⟨_,H,I.kept k,?_,q⟩
 by_cases hj:j>i
 ·rw[if_pos hj,if_pos hj];exact⟨_,rfl⟩
 ·rw[if_neg hj,if_neg hj];exact⟨_,rfl⟩
theorem Em(hc:X.calm=true):Vm X (.builtin "min") (fun xs H Q=>∃ i j,xs=[.int i,.int j]/\Q (.int (if j<i then j else i)) H):=by
 intro pins s σ H xs us Q I r h;obtain⟨i,j,rfl,q⟩:=h;obtain⟨u,w',rfl,⟨t,rfl⟩,⟨t',rfl⟩⟩:=ze9 r;refine min_two_ints (I.ok.hd hc) fun h' tk k=>⟨_,H,I.kept k,?_,q⟩
 by_cases hj:j<i
 ·rw[if_pos hj,if_pos hj];exact⟨_,rfl⟩
 ·rw[if_neg hj,if_neg hj];exact⟨_,rfl⟩
theorem zdk:Vm X (.type "int") (fun xs H Q=>(∃ i,xs=[.int i]/\Q (.int i) H)\/∃ k,xs=[.bl k]/\Q (.int (if k then 1 else 0)) H):=by
 intro pins s σ H xs us Q I r h;rcases h with ⟨i,rfl,q⟩|⟨k,rfl,q⟩
 ·obtain⟨u,rfl,t,rfl⟩:=Qg r;exact call_int_int ⟨.int i,H,I,⟨_,rfl⟩,q⟩
 ·obtain⟨u,rfl,r1⟩:=Qg r;cases r1;exact call_int_bool ⟨.int (if k then 1 else 0),H,I.tok _,⟨_,rfl⟩,q⟩
end
structure ObjM(h:Heap)(x dx C:Addr)(mA:Str->Option Value):Prop where
 obj:h.get? x=some (PySem.W.instObj C dx)
 ns:h.Ns1 dx mA
 ne:dx≠x
theorem zdl{h:Heap}{dx:Addr}{mA:Str->Option Value}(n:h.Ns1 dx mA):∃ od,h.get? dx=some od/\∀ name,PySem.W.lookIn name od=some (mA name):=by
 obtain⟨o,es,ep,ho,hd,hk,_,hm⟩:=n;refine⟨o,ho,fun name=>?_⟩;have e:=hm name;unfold nsFind findBy at e;rw[<- Array.find?_toList] at e;unfold PySem.W.lookIn;rw[hd];dsimp only;split
 ·rename_i y q;rw[q] at e;exact congrArg some e
 ·rename_i q;rw[q] at e;have a:es.toList.any (·.refKey)=false:=by
   rw[List.any_eq_false];intro y hy;obtain⟨z,t,hkey⟩:=hk y (Array.mem_toList_iff.mp hy);simp[DictEntry.refKey,hkey]
  have a':¬ es.toList.any (·.refKey)=true:=by rw[a];exact zvh
  rw[if_neg a'];exact congrArg some e
theorem ObjM.look(I:ObjM h x dx C mA):∃ od,PySem.W.InstAt h x (PySem.W.instObj C dx) C (some od)/\∀ name,PySem.W.lookIn name od=some (mA name) :=
 let ⟨od,ho,hl⟩:=zdl I.ns
 ⟨od,⟨I.obj,rfl,rfl,ho⟩,hl⟩
section
variable{prog:Program}{w:World}{A:Around}{E:Value->Shared->Prop}{s:Shared}{K:Frag}{x dx C f:Addr}{mA:Str->Option Value}{name:Str}{v:Value}
theorem zg8(X:K.In s.heap)(I:ObjM s.heap x dx C mA)(hg:PySem.W.plainGet K C name=true)(hh:PySem.W.hasDictIn K C=true)
  (ha:PySem.W.findIn K (.ref C) name=some none) (hv:mA name=some v) (hv':PySem.W.handedIn v=true) (h:Q v { s with toks:=s.toks+1 }) :
  wpAny (model prog w) A (getAttr (.ref x) name expr) Q E s:=by
 obtain⟨od,J,hl⟩:=I.look;exact PySem.W.get_value X J (PySem.W.plainGet_of hg).1 (PySem.W.findObj_own hh ha rfl (by rw[hl,hv])) hv' h
theorem zfa(X:K.In s.heap)(I:ObjM s.heap x dx C mA)(hg:PySem.W.plainGet K C name=true)
  (hf:PySem.W.findIn K (.ref C) name=some (some (.ref f))) (ht:PySem.W.isFn K (.ref f)=true) (hv:mA name=none) (h:Q (.ref f,[.ref x]) s) :
  wpAny (model prog w) A (getMethod (.ref x) name pl) Q E s:=by
 obtain⟨od,J,hl⟩:=I.look;exact PySem.W.method_fn X J (PySem.W.plainGet_of hg).1 (PySem.W.plainGet_of hg).2 hf (beq_iff_eq.mp ht) (by show (PySem.W.lookIn name od).map (·.isSome)=some false;rw[hl,hv];rfl) h
theorem zg9(X:K.In s.heap)(I:ObjM s.heap x dx C mA)
  (hs:PySem.W.findIn K (.ref C) "__setattr__"=some (some (.builtin "object.__setattr__"))) (hp:PySem.W.plainOver K C=true) (ht:PySem.W.takerIn K C name=some none) (hh:PySem.W.hasDictIn K C=true)
  (hw:PySem.Within mA ns) (hsz:ns.length<=sizeLine)
  (h:∀ h',ObjM h' x dx C (fun y=>if y=name then some v else mA y)->Heap.SameBut dx s.heap h'->Q () { s with heap:=h',toks:=s.toks+2 }) :
  wpAny (model prog w) A (setAttr (.ref x) name v) Q E s:=by
 obtain⟨od,J,hl⟩:=I.look;refine PySem.W.set_plain X J hs (PySem.W.osa_open (s:={ s with toks:=s.toks+1 }) (r:=none) X J hp ht fun b=>?_);obtain⟨cd,hc,hd'⟩:=PySem.W.any_some hh;have hx:s.heap.get? x=some ⟨.ref C,some dx,.plain,#[]⟩:=I.obj;refine wpAny_bind (wpAny_pure (wpAny_bind (wpAny_bind (wpAny_loadPart hx (wpAny_bind (PySem.W.Looks.here (s:={ s with toks:=s.toks+1 }) (PySem.W.looks_clsIn X hc) ?_))))));rw[hd'];refine wpAny_pure (a:=some dx) (wpAny_bind (wpAny_pure (wpAny_bind ?_)));refine wpAny_nsSet1 (s:={ s with toks:=s.toks+1 }) I.ns fun h' hn2 hs2=>?_;obtain⟨oD,esD,epD,hoD,hdD,hcD⟩:=hn2.count (PySem.Within.cons name v hw);refine wpAny_bind (wpAny_lookBehind hoD (by rw[hdD];exact pastItsLine_dict (zvb hcD (by rw[zvi];omega))) ?_);exact wpAny_pure (h _ ⟨(hs2.2 _ (Ne.symm I.ne)).trans I.obj,hn2,I.ne⟩ hs2)
theorem zfb(X:K.In s.heap)(hm:PySem.W.makesIn K C=true)
  (hi:PySem.W.findIn K (.ref C) "__init__"=some (some (.ref f))) (hf:PySem.W.typeIn K (.ref f)=some (.type "function"))
  (h:codeAny (model prog w) (A.under (.builtin "type.__call__" ⟨.ref C :: vs,kw⟩)) (.call (.ref f) ⟨.ref (s.heap.objs.size+1) :: vs,kw⟩) (PySem.W.InitBack (s.heap.objs.size+1) R)
   { s with heap:=(s.heap.push PySem.W.emptyDict).push (PySem.W.instObj C s.heap.objs.size) }) :
  codeAny (model prog w) A (.call (.ref C) ⟨vs,kw⟩) R s:=by
 obtain⟨hh,g,d,t,os⟩:=s;exact PySem.W.make_core (PySem.W.makes_of X hm) (PySem.W.looks_findIn X hi) (fun self=>PySem.W.bind_fn X self hf) (.inl rfl) h
end
def putF(f:Str)(v:V):List (Str×V)->List (Str×V)
 | []=>[(f,v)]
 | (g,x) :: r=>if g=f then (g,v) :: r else (g,x) :: putF f v r
theorem Kk(f g:Str)(v:V):∀ fs:List (Str×V),(putF f v fs).lookup g=if g=f then some v else fs.lookup g
 | []=>by
   show List.lookup g [(f,v)]=_;by_cases h:g=f
   ·have hb:(g == f)=true:=beq_iff_eq.mpr h;simp only[List.lookup,hb,if_pos h]
   ·have hb:(g == f)=false:=zvl.mpr h;simp only[List.lookup,hb,if_neg h]
 | (k,x) :: r=>by
   have ih:=Kk f g v r;rw[show putF f v ((k,x) :: r)=(if k=f then (k,v) :: r else (k,x) :: putF f v r) from rfl];by_cases hk:k=f
   ·rw[if_pos hk];by_cases h:g=k
    ·have hb:(g == k)=true:=beq_iff_eq.mpr h;simp only[List.lookup,hb,if_pos (h.trans hk)]
    ·have hb:(g == k)=false:=zvl.mpr h;simp only[List.lookup,hb,if_neg (fun e:g=f=>h (e.trans hk.symm))]
   ·rw[if_neg hk];by_cases h:g=k
    ·have hb:(g == k)=true:=beq_iff_eq.mpr h;simp only[List.lookup,hb,if_neg (fun e:g=f=>hk (h.symm.trans e))]
    ·have hb:(g == k)=false:=zvl.mpr h;simp only[List.lookup,hb];exact ih
theorem M4(f:Str)(v:V):∀ fs:List (Str×V),f∈(putF f v fs).map (·.1)/\∀ g,g∈fs.map (·.1)->g∈(putF f v fs).map (·.1)
 | []=>⟨by simp[putF],fun g h=>by simp at h⟩
 | (k,x) :: r=>by
   obtain⟨i1,i2⟩:=M4 f v r;rw[show putF f v ((k,x) :: r)=(if k=f then (k,v) :: r else (k,x) :: putF f v r) from rfl];by_cases hk:k=f
   ·rw[if_pos hk];subst hk;exact⟨by simp,fun g h=>by simpa using h⟩
   ·rw[if_neg hk];refine⟨?_,fun g h=>?_⟩
    ·rw[zu9];exact zvg _ i1
    ·rw[zu9] at h ⊢;rcases zu4.mp h with e|e
     ·exact zu4.mpr (.inl e)
     ·exact zvg _ (i2 g e)
theorem Kl(f:Str)(v:V):∀ fs:List (Str×V),(putF f v fs).length<=fs.length+1
 | []=>by simp[putF]
 | (k,x) :: r=>by
   have ih:=Kl f v r;rw[show putF f v ((k,x) :: r)=(if k=f then (k,v) :: r else (k,x) :: putF f v r) from rfl];by_cases hk:k=f
   ·rw[if_pos hk,zvi,zvi];omega
   ·rw[if_neg hk,zvi,zvi];omega
theorem RelO.some_of(r:RelO (some v) o):∃ u,o=some u/\RelV v u:=by
 cases o with
 | none=>exact(show False from r).elim
 | some u=>exact⟨u,rfl,r⟩
theorem RelO.none_of(r:RelO none o):o=none:=by
 cases o with
 | none=>rfl
 | some u=>exact(show False from r).elim
theorem zdm(r:RelV v u):PySem.W.handedIn u=true:=by
 cases v with
 | non=>cases (show u=Value.none from r);rfl
 | bl b=>cases (show u=Value.bool b from r);rfl
 | int i=>obtain⟨t,e⟩:=(show ∃ t,u=Value.int i t from r);cases e;rfl
 | str x=>obtain⟨t,e⟩:=(show ∃ t,u=Value.str x t from r);cases e;rfl
 | byt b=>obtain⟨t,e⟩:=(show ∃ t,u=Value.bytes b t from r);cases e;rfl
 | flt b=>obtain⟨t,e⟩:=(show ∃ t,u=Value.float b t from r);cases e;rfl
 | ref a=>cases (show u=Value.ref a from r);rfl
 | ty n=>cases (show u=Value.type n from r);rfl
section
variable{P:Program}{w:World}{H H':Hp}{h h':Heap}{a C dx:Addr}{fs fs':List (Str×V)}
theorem Jt(hok:HOk P w H h)(e:H a=some (.ins C dx fs)):∃ mA,ObjM h a dx C mA/\(∀ f,RelO (fs.lookup f) (mA f))/\PySem.Within mA (fs.map (·.1))/\fs.length<=1000/\H dx=some (.own a):=by
 obtain⟨d,z,ne,ob,mA,n,r,q⟩:=(show Y6 P w H h a (.ins C dx fs) from hok a _ e);exact⟨mA,⟨ob,n,ne⟩,r,q,z,d⟩
end
structure Cls(K:Frag)(C:Addr):Prop where
 pg:PySem.W.plainGet K C Str.empty=true
 hd:PySem.W.hasDictIn K C=true
 po:PySem.W.plainOver K C=true
 sa:PySem.W.findIn K (.ref C) "__setattr__"=some (some (.builtin "object.__setattr__"))
theorem Cls.get{K:Frag}{C:Addr}(c:Cls K C)(f:Str):PySem.W.plainGet K C f=true:=c.pg
def X0(K:Frag)(C:Addr)(f:Str):Prop:=PySem.W.findIn K (.ref C) f=some none
theorem X0.taker{K:Frag}{C:Addr}{f:Str}(n:X0 K C f):PySem.W.takerIn K C f=some none:=by
 unfold PySem.W.takerIn;rw[show PySem.W.findIn K (.ref C) f=some none from n];rfl
structure Con(K:Frag)(C:Addr)(f:Str)(v:V)(u:Value):Prop where
 at_:PySem.W.findIn K (.ref C) f=some (some u)
 rel:RelV v u
 get:PySem.W.specialIn K u "__get__"=some none
 cp:PySem.W.copiedNames.contains f=false
structure zfc(K:Frag)(C:Addr)(m:Str)(f:Addr):Prop where
 at_:PySem.W.findIn K (.ref C) m=some (some (.ref f))
 fn:PySem.W.isFn K (.ref f)=true
 kp:PySem.W.keepIn K (.ref f)=true
section
variable{X:Cx}{pins:List (Addr×Obj)}{σ:St}{H:Hp}{s:Shared}{a C dx:Addr}{fs:List (Str×V)}{f:Str}{v:V}{A:Around}{E:Value->Shared->Prop}
theorem zar(I:Inv X pins σ H s)(e:H a=some (.ins C dx fs))(c:Cls X.K C)(n:X0 X.K C f)(l:fs.lookup f=some v)
  (h:∀ u s',Inv X pins σ H s'->RelV v u->Q u s'):wpAny (model X.prog X.w) A (getAttr (.ref a) f b) Q E s:=by
 obtain⟨mA,O,r,_,_,_⟩:=Jt I.hok e;obtain⟨u,hu,ru⟩:=RelO.some_of (v:=v) (o:=mA f) (by rw[<- l];exact r f);exact zg8 I.kIn O (c.get f) c.hd n hu (zdm ru) (h u _ (I.tok _) ru)
theorem J1(I:Inv X pins σ H s)(e:H a=some (.ins C dx fs))(c:Cls X.K C)(k:zfc X.K C m g)(l:fs.lookup m=none)
  (h:Q (.ref g,[.ref a]) s):wpAny (model X.prog X.w) A (getMethod (.ref a) m pl) Q E s:=by
 obtain⟨mA,O,r,_,_,_⟩:=Jt I.hok e;have hn:mA m=none:=RelO.none_of (by rw[<- l];exact r m);exact zfa I.kIn O (c.get m) k.at_ k.fn hn h
theorem zas(I:Inv X pins σ H s)(e:H a=some (.ins C dx fs))(c:Cls X.K C)(n:X0 X.K C f)(hl:fs.length<1000)(ry:RelV y u)
  (h:∀ s',Inv X pins σ (upd H a (.ins C dx (putF f y fs))) s'->Q () s'):wpAny (model X.prog X.w) A (setAttr (.ref a) f u) Q E s:=by
 obtain⟨mA,O,r,wi,_,ho⟩:=Jt I.hok e;have hz:(fs.map (·.1)).length<=sizeLine:=by rw[zuw,sizeLine_eq];omega
 refine zg9 I.kIn O c.sa c.po n.taker c.hd wi hz fun h' O' sb=>h _ ?_;have hd:∃ o,h'.get? dx=some o:=let ⟨o,_,_,e',_⟩:=O'.ns;⟨o,e'⟩;refine I.write (x:=a) (e:=dx) (by rw[e];exact True.intro) (.inr ho) (fun b q hb z=>(sb.2 b hb).trans z) hd ?_;refine⟨by rw[Zf O.ne];exact ho,?_,O.ne,O'.obj,_,O'.ns,fun g=>?_,fun g hg=>?_⟩
 ·have:=Kl f y fs;omega
 ·show RelO ((putF f y fs).lookup g) (if g=f then some u else mA g);rw[Kk];by_cases q:g=f
  ·rw[if_pos q,if_pos q];exact ry
  ·rw[if_neg q,if_neg q];exact r g
 ·by_cases q:g=f
  ·rw[q];exact(M4 f y fs).1
  ·refine(M4 f y fs).2 g (wi g fun z=>hg ?_);show (if g=f then some u else mA g)=none;rw[if_neg q];exact z
theorem Inv.made(I:Inv X pins σ H s):Inv X pins σ (upd (upd H s.heap.objs.size (.own (s.heap.objs.size+1))) (s.heap.objs.size+1) (.ins C s.heap.objs.size []))
  { s with heap:=(s.heap.push PySem.W.emptyDict).push (PySem.W.instObj C s.heap.objs.size) }:=by
 have e1:(s.heap.push PySem.W.emptyDict).get? s.heap.objs.size=some PySem.W.emptyDict:=Heap.get?_push_size s.heap rfl;have e2:((s.heap.push PySem.W.emptyDict).push (PySem.W.instObj C s.heap.objs.size)).get? (s.heap.objs.size+1)=some (PySem.W.instObj C s.heap.objs.size):=by
  have:=Heap.get?_push_size (s.heap.push PySem.W.emptyDict) (o:=PySem.W.instObj C s.heap.objs.size) rfl
  rwa [Heap.size_push] at this
 have e3:(s.heap.push PySem.W.emptyDict).Ns s.heap.objs.size (fun _=>none):=⟨PySem.W.emptyDict,#[],_,e1,rfl,(fun e he=>absurd he (by simp)),fun _=>rfl⟩;have I1:=I.laid (a:=s.heap.objs.size) (o:=.own (s.heap.objs.size+1)) (h':=s.heap.push PySem.W.emptyDict) (t':=s.toks) (fun b u q=>Heap.get?_push_of_some _ q) (zu7 _) ⟨_,e1⟩;refine I1.laid (a:=s.heap.objs.size+1) (o:=.ins C s.heap.objs.size []) (t':=s.toks) (fun b u q=>Heap.get?_push_of_some _ q) (Nat.le_of_eq (Heap.size_push _ _)) ?_;have ne:s.heap.objs.size≠s.heap.objs.size+1:=zvq (Nat.lt_succ_self _);refine⟨by rw[Zf ne,Ze],zvo _,ne,e2,fun _=>none,(Heap.Ns1.of_empty e3).at fun o q=>Heap.get?_push_of_some _ q,fun _=>True.intro,fun y hy=>absurd rfl hy⟩
theorem zha(hb:attributeBase e f env (eval e env)=eval e env)
  (h:wpAny (model prog w) A (eval e env) (fun o s₁=>wpAny (model prog w) A (getAttr o f true) Q E s₁) E s):wpAny (model prog w) A (eval (.Attribute e f pos) env) Q E s :=
 Attribute_any_ h (by rw[arm_eval_Attribute,hb])
end
inductive zks(K:Frag)(f:Str)(Q:VK)(x:V)(H1:Hp):Prop where
 | mk(a)(C)(dx)(fs)(v)(_:x=.ref a)(_:H1 a=some (.ins C dx fs))(_:Cls K C)(_:X0 K C f)(_:fs.lookup f=some v)(_:Q v H1)
def zkt(K:Frag)(ta:TE)(f:Str):TE:=fun σ H Q=>ta σ H fun x H1=>zks K f Q x H1
inductive zku(K:Frag)(f:Str)(D:Oa)(σ:L2.St)(y:V)(x:V)(H2:Hp):Prop where
 | mk(a)(C)(dx)(fs)(_:x=.ref a)(_:H2 a=some (.ins C dx fs))(_:Cls K C)(_:X0 K C f)(_:fs.length<1000)(_:D.nx σ (upd H2 a (.ins C dx (putF f y fs))))
def zkv(K:Frag)(ta tv:TE)(f:Str):TS:=fun D σ H=>tv σ H fun y H1=>ta σ H1 fun x H2=>zku K f D σ y x H2
section
variable{X:Cx}{o e value:Expr}{f:Str}{pos pos' tpos:Pos}{ta tv:TE}
theorem zja(he:PE X e ta)(hb:attributeBase e f X.env (eval e X.env)=eval e X.env):PE X (.Attribute e f pos) (zkt X.K ta f):=by
 intro pins s σ H Q I h;refine zha hb (thn (he pins s σ H _ I h) fun u s1 ⟨x,H1,I1,rx,a,C,dx,fs,v,ex,ea,c,n,l,q⟩=>?_);subst ex;obtain rfl:u=Value.ref a:=rx;exact zar I1 ea c n l fun u' s2 I2 ru=>⟨v,H1,I2,ru,q⟩
theorem zjb(ha:PE X o ta)(hv:PE X value tv)(hs:swapsWith value (some (.Attribute o f pos')) pos.line X.env=pure false):PS X (.Assign [.Attribute o f pos'] value pos) (zkv X.K ta tv f):=by
 intro pins s σ H D I h;refine plainObj_wpAny_Assign_Attribute (thn (hv pins s σ H _ I h) fun u s1 ⟨y,H1,I1,ry,q⟩=>thn (ha pins s1 σ H1 _ I1 q) fun ov s2 ⟨x,H2,I2,rx,a,C,dx,fs,ex,ea,c,n,l,q2⟩=>?_) hs;subst ex;obtain rfl:ov=Value.ref a:=rx;exact zas I2 ea c n l ry fun s3 I3=>⟨σ,_,I3,q2⟩
end
section
variable{X:Cx}{pins:List (Addr×Obj)}{σ:St}{H:Hp}{s:Shared}{A:Around}{E:Value->Shared->Prop}{Q:Value->Shared->Prop}{c:Value}{b:Bool}
inductive M5(K:Frag)(H:Hp):V->Value->Prop where
 | non:M5 K H .non (.type "NoneType")
 | bl (x:Bool):M5 K H (.bl x) (.type "bool")
 | int (i:Int):M5 K H (.int i) (.type "int")
 | str (x:Str):M5 K H (.str x) (.type "str")
 | flt (x:UInt64):M5 K H (.flt x) (.type "float")
 | lst {a:Addr} {xs:List V} (e:H a=some (.lst xs)):M5 K H (.ref a) (.type "list")
 | frz {a:Addr} {o:Obj} {xs:List V} (e:H a=some (.frz o (.lst xs))):M5 K H (.ref a) (.type "list")
 | tup {a:Addr} {xs:List V} (e:H a=some (.tup xs)):M5 K H (.ref a) (.type "tuple")
 | dK {a:Addr} {kvs:List (Key×V)} (e:H a=some (.dK kvs)):M5 K H (.ref a) (.type "dict")
 | dT {a:Addr} {kvs:List (List Key×V)} (e:H a=some (.dT kvs)):M5 K H (.ref a) (.type "dict")
 | ins {a C dx:Addr} {fs:List (Str×V)} (e:H a=some (.ins C dx fs)) (cl:Cls K C) (ha:PySem.W.findIn K (.ref C) "__class__"=some (some (.builtin "object.__class__")))
   (hn:PySem.W.specialIn K (.builtin "object.__class__") "__get__"=some (some (.builtin "getset_descriptor.__get__"))) (htk:PySem.W.takesIn K (.builtin "object.__class__")=some true)
   (hm:PySem.W.mroIn K C (.type "object")=some true):M5 K H (.ref a) (.ref C)
theorem zdn(I:Inv X pins σ H s)(rx:RelV x u)(ty:M5 X.K H x t)(e:PySem.W.kitOne X.K t c=some b)(h:∀ tk,Q (.bool b) { s with toks:=tk }) :
  wpAny (model X.prog X.w) A (call (.builtin "isinstance") [u,c]) Q E s:=by
 cases ty with
 | non=>cases (show u=Value.none from rx);exact PySem.W.kia_one PySem.W.kitx_none I.kIn True.intro e (fun z=>nomatch z) h
 | bl y=>cases (show u=Value.bool y from rx);exact PySem.W.kia_one PySem.W.kitx_bool I.kIn True.intro e (fun z=>nomatch z) h
 | int i=>obtain⟨t,q⟩:=(show ∃ t,u=Value.int i t from rx);cases q;exact PySem.W.kia_one PySem.W.kitx_int I.kIn True.intro e (fun z=>nomatch z) h
 | str y=>obtain⟨t,q⟩:=(show ∃ t,u=Value.str y t from rx);cases q;exact PySem.W.kia_one PySem.W.kitx_str I.kIn True.intro e (fun z=>nomatch z) h
 | flt y=>obtain⟨t,q⟩:=(show ∃ t,u=Value.float y t from rx);cases q;exact PySem.W.kia_one PySem.W.kitx_float I.kIn True.intro e (fun z=>nomatch z) h
 | @lst a xs ea =>
   cases (show u=Value.ref a from rx);obtain⟨_,_,n,_,h1⟩:=(show Y6 X.prog X.w H s.heap a (.lst xs) from I.hok a _ ea);exact PySem.W.kia_one PySem.W.kitx_list I.kIn ⟨_,h1,rfl⟩ e (fun z=>nomatch z) h
 | @frz a ob xs ea =>
   cases (show u=Value.ref a from rx);obtain⟨_,_,_,n,_,h1⟩:=(show Y6 X.prog X.w H s.heap a (.frz ob (.lst xs)) from I.hok a _ ea);exact PySem.W.kia_one PySem.W.kitx_list I.kIn ⟨_,h1,rfl⟩ e (fun z=>nomatch z) h
 | @tup a xs ea =>
   cases (show u=Value.ref a from rx);obtain⟨_,_,_,p⟩:=(show Y6 X.prog X.w H s.heap a (.tup xs) from I.hok a _ ea);obtain⟨o,h1,h2,_⟩:=p;exact PySem.W.kia_one PySem.W.kitx_tuple I.kIn ⟨o,h1,h2⟩ e (fun z=>nomatch z) h
 | @dK a kvs ea =>
   cases (show u=Value.ref a from rx);obtain⟨_,_,vs,_,p⟩:=(show Y6 X.prog X.w H s.heap a (.dK kvs) from I.hok a _ ea);obtain⟨o,es,ep,h1,h2,_⟩:=p;exact PySem.W.kia_one PySem.W.kitx_dict I.kIn ⟨o,h1,h2.1⟩ e (fun z=>nomatch z) h
 | @dT a kvs ea =>
   cases (show u=Value.ref a from rx);obtain⟨_,_,xs,_,o,es,ep,h1,h2,_⟩:=(show Y6 X.prog X.w H s.heap a (.dT kvs) from I.hok a _ ea);exact PySem.W.kia_one PySem.W.kitx_dict I.kIn ⟨o,h1,h2.1⟩ e (fun z=>nomatch z) h
 | @ins a C dx fs ea cl ha hn htk hm =>
   cases (show u=Value.ref a from rx);obtain⟨mA,O,_⟩:=Jt I.hok ea;obtain⟨od,J,_⟩:=O.look;exact PySem.W.kia_one (PySem.W.kitx_own (cl.get _) cl.hd ha hn htk hm) I.kIn J e (fun z=>nomatch z) h
end
structure W5(k:Nat)(A:Around):Prop where
 hd:A.handled=none
 dp:A.depth+3*k+5<recursionLimit
 un:A.units+16*k+200<cLine
theorem W5.mono(r:W5 k A)(h:j<=k):W5 j A:=⟨r.hd,by have:=r.dp;omega,by have:=r.un;omega⟩
theorem W5.deeper(r:W5 (k+1) A)(env:Env):W5 k (A.deeper env) :=
 ⟨r.hd,by have:=r.dp;show A.depth+1+3*k+5<_;omega,by have:=r.un;show A.units+3+16*k+200<_;omega⟩
theorem zat{A:Around}{C:Addr}{us:List Value}{kw:List (Str×Value)}:(A.under (.builtin "type.__call__" ⟨.ref C :: us,kw⟩)).depth=A.depth+1:=by
 first|rfl|simp[Around.under,Code.weight,Code.isCreation,Code.isGuard,Code.isCaller,Code.frames,Code.isFrame,guardIds]
theorem zau{A:Around}{C:Addr}{us:List Value}{kw:List (Str×Value)}:(A.under (.builtin "type.__call__" ⟨.ref C :: us,kw⟩)).units=A.units+1:=by
 first|rfl|simp[Around.under,Code.cUnits,Code.frames,Code.isFrame]
theorem W5.make(r:W5 (k+1) A)(C:Addr)(us:List Value)(kw:List (Str×Value)):W5 k (A.under (.builtin "type.__call__" ⟨.ref C :: us,kw⟩)) :=
 ⟨r.hd,by have:=r.dp;rw[zat];omega,by have:=r.un;rw[zau];omega⟩
theorem W5.depth(r:W5 k A):A.depth<recursionLimit:=by have:=r.dp;omega
theorem W5.units(r:W5 k A):A.units+64<cLine:=by have:=r.un;omega
def zav:TA:=fun _ H Q=>Q [] H
def zii(ta:TE)(tr:TA):TA:=fun σ H Q=>ta σ H fun x H1=>tr σ H1 fun xs H2=>Q (x :: xs) H2
section
variable{X:Cx}{e:Expr}{es:List Expr}{te:TE}{t:TA}{pos:Pos}
theorem Zc:PA X [] zav:=fun _ _ _ _ H Q I h=>Calls.spliced_nil ⟨[],H,I,.nil,h⟩
theorem Za(ha:PE X e te)(hr:PA X es t)(hs:starEach (e :: es) X.env=(false,eval e X.env) :: starEach es X.env:=by rfl):PA X (e :: es) (zii te t):=by
 intro pos pins s σ H Q I h;rw[hs];show wpAny _ _ (spliced ((false,eval e X.env) :: backTo pos (starEach es X.env))) _ _ s;refine Calls.spliced_cons (thn (ha pins s σ H _ I h) fun u s1 ⟨x,H1,I1,r1,q1⟩=>?_);exact thn (hr pos pins s1 σ H1 _ I1 q1) fun us s2 ⟨xs,H2,I2,r2,q2⟩=>⟨x :: xs,H2,I2,.cons r1 r2,q2⟩
inductive zkw(Q:VK)(xs:List V)(H1:Hp):Prop where
 | mk(_:xs.length<=sizeLine)(_:∀ p,H1 p=none->Q (.ref p) (upd H1 p (.tup xs)))
def zly(t:TA):TE:=fun σ H Q=>t σ H fun xs H1=>zkw Q xs H1
inductive zkx(Q:VK)(xs:List V)(H1:Hp):Prop where
 | mk(_:xs.length<=sizeLine)(_:∀ p,H1 p=none->Q (.ref p) (upd H1 p (.lst xs)))
def zaw(t:TA):TE:=fun σ H Q=>t σ H fun xs H1=>zkx Q xs H1
theorem Yd{x1}(h:PA X es t):PE X (.Tuple es x1 pos) (zly t):=by
 intro pins s σ H Q I hq;refine wpAny_Tuple_spliced (thn (h pos pins s σ H _ I hq) fun us s1 ⟨xs,H1,I1,r,z,q⟩=>⟨by rw[<- r.length];exact z,?_⟩);have hf:H1 s1.heap.objs.size=none:=I1.hok.fresh (zu7 _);refine⟨.ref s1.heap.objs.size,upd H1 s1.heap.objs.size (.tup xs),I1.laid (t':=s1.toks) (fun b u e=>Heap.get?_push_of_some _ e) (zu7 _) ?_,rfl,q _ hf⟩;exact⟨z,us,r,⟨_,Heap.get?_push_size _ rfl,rfl,_,rfl⟩⟩
theorem Z9(h:PA X es t):PE X (.List es pos) (zaw t):=by
 intro pins s σ H Q I hq;refine wpAny_List_spliced (thn (h pos pins s σ H _ I hq) fun us s1 ⟨xs,H1,I1,r,z,q⟩=>⟨by rw[<- r.length];exact z,?_⟩);have hf:H1 s1.heap.objs.size=none:=I1.hok.fresh (zu7 _);refine⟨.ref s1.heap.objs.size,upd H1 s1.heap.objs.size (.lst xs),I1.laid (t':=s1.toks) (fun b u e=>Heap.get?_push_of_some _ e) (zu7 _) ?_,rfl,q _ hf⟩;exact⟨z,us,0,r,Heap.get?_push_size _ rfl⟩
end
abbrev Sp:=List V->Hp->VK->XK->Prop
abbrev CXT:=List Env->Hp->Shared->XK->Value->Shared->Prop
structure zax(P:Program)(w:World)(K:Frag)(mg:Str->Option Value)(base:Heap)(A:Around)(outer:List Env)(s:Shared)(H:Hp):Prop where
 frames:A.frames=some outer
 mod:Mod K mg base
 bs:∀ b o,base.get? b=some o->s.heap.get? b=some o/\H b=none
 bsz:base.objs.size<=s.heap.objs.size
 funs:s.heap.FunFrames base outer
 frf:∀ b∈frs outer,H b=none
 hok:HOk P w H s.heap
 bare:AllBare s.gens
def CE(outer:List Env)(P:Program)(w:World)(H:Hp)(s:Shared)(Q:VK)(u:Value)(s':Shared):Prop :=
 ∃ v H',s'.os=s.os/\AllBare s'.gens/\Un (frs outer) [] H H' s.heap s'.heap/\HOk P w H' s'.heap/\RelV v u/\Q v H'
def CR(CX:CXT)(outer:List Env)(P:Program)(w:World)(H:Hp)(s:Shared)(Q:VK)(E:XK)(r:Result)(s':Shared):Prop :=
 match r with
 | .ok (.ret u)=>CE outer P w H s Q u s'
 | .ok _=>False
 | .error e=>CX outer H s E e s'
structure FnOk(P:Program)(w:World)(K:Frag)(mg:Str->Option Value)(base:Heap)(CX:CXT)(k:Nat)(f:Addr)(fd:FuncData)(ps:List Str)(sp:Sp):Prop where
 len:∀ vs H Q E,sp vs H Q E->vs.length=ps.length
 run:∀ (A:Around) (outer:List Env) (s:Shared) (H:Hp) (args:Args) (us:List Value) (vs:List V) (Q:VK) (E:XK),W5 k A->zax P w K mg base A outer s H->BindsTo s fd args (ps.zip us)->Vals vs us->sp vs H Q E ->
  codeAny (model P w) A (.call (.ref f) args) (CR CX outer P w H s Q E) s
theorem zax.make{P:Program}{w:World}{K:Frag}{mg:Str->Option Value}{base:Heap}{A:Around}{outer:List Env}{s:Shared}{H:Hp}(e:zax P w K mg base A outer s H)(C:Addr)(us:List Value)(kw:List (Str×Value)) :
  zax P w K mg base (A.under (.builtin "type.__call__" ⟨.ref C :: us,kw⟩)) outer s H:=⟨by first|exact e.frames|(simpa [Around.under,Code.envs,Code.isFrame,pushEnvs] using e.frames),e.mod,e.bs,e.bsz,e.funs,e.frf,e.hok,e.bare⟩
section
variable{X:Cx}{pins:List (Addr×Obj)}{σ:St}{H:Hp}{s s':Shared}
theorem Inv.env0(I:Inv X pins σ H s):zax X.prog X.w X.K X.mg X.base X.A X.stack s H :=
 ⟨I.ok.frames,I.ok.mod,I.bs,zvb I.ok.bsz I.sz,I.stack,I.stkFree,I.hok,I.bare⟩
theorem Inv.after(I:Inv X pins σ H s)(h:CE X.stack X.prog X.w H s Q u s'):EP X pins σ Q u s':=by
 obtain⟨v,H',os,bare,un,hok,r,q⟩:=h;obtain⟨hh,g,d,t,os'⟩:=s';obtain rfl:os'=s.os:=os;exact⟨v,H',I.call (h':=hh) (g':=g) (d':=d) (t':=t) (ch:=[]) un hok bare (fun b z=>absurd z (by simp)),r,q⟩
end
def zfd(sp:Sp)(dvs:List V)(E:XK)(t:TA):TE:=fun σ H Q=>t σ H fun vs H1=>sp (vs++dvs) H1 Q E
inductive zjc(C:Addr)(m:Str)(sp:Sp)(dvs:List V)(E:XK)(t:TA)(σ:L2.St)(Q:VK)(x:V)(H1:Hp):Prop where
 | mk(a)(dx)(fs)(_:x=.ref a)(_:H1 a=some (.ins C dx fs))(_:fs.lookup m=none)(_:t σ H1 fun vs H2=>sp (x :: (vs++dvs)) H2 Q E)
def zca(C:Addr)(m:Str)(sp:Sp)(dvs:List V)(E:XK)(ta:TE)(t:TA):TE:=fun σ H Q=>ta σ H fun x H1=>zjc C m sp dvs E t σ Q x H1
def zcb(C:Addr)(sp:Sp)(dvs:List V)(E:XK)(t:TA):TE:=fun σ H Q=>t σ H fun vs H1=>∀ x dx,H1 x=none->H1 dx=none->dx≠x ->
 sp (.ref x :: (vs++dvs)) (upd (upd H1 dx (.own x)) x (.ins C dx [])) (fun v H2=>v=.non/\Q (.ref x) H2) E
def Ra(K:Frag)(fd:FuncData)(ps:List Str)(ds:List Value):Prop :=
 ∀ (s:Shared) (us:List Value),K.In s.heap->(us++ds).length=ps.length->BindsTo s fd ⟨us,[]⟩ (ps.zip (us++ds))
theorem Ra.all{K:Frag}{fd:FuncData}{ps:List Str}(h:∀ us:List Value,us.length=ps.length->bindArgs fd ⟨us,[]⟩=pure (ps.zip us)):Ra K fd ps []:=fun s us _ hl=>by
 rw[zw4] at hl ⊢;exact .of_eq (h us hl)
def W8(CX:CXT)(X:Cx)(E:XK):Prop:=∀ (pins:List (Addr×Obj)) (σ:St) (H:Hp) (s:Shared) (e:Value) (s':Shared),Inv X pins σ H s->CX X.stack H s E e s'->X.xe e s'
section
variable{X:Cx}{CX:CXT}{k:Nat}{f C:Addr}{fd:FuncData}{ps:List Str}{sp:Sp}{dvs:List V}{ds:List Value}{E:XK}{x m:Str}{p pos apos:Pos}{e o:Expr}{es:List Expr}{ta:TE}{t:TA}
theorem zay(F:FnOk X.prog X.w X.K X.mg X.base CX k f fd ps sp)(hr:W5 k X.A)(hb:Ra X.K fd ps ds)(hd:Vals dvs ds)(hx:W8 CX X E)
  (I:Inv X pins σ H s) (r:Vals vs us) (h:sp (vs++dvs) H Q E):wpAny (model X.prog X.w) X.A (call (.ref f) us) (EP X pins σ Q) X.xe s:=by
 have r2:Vals (vs++dvs) (us++ds):=r.append hd;have hl:(us++ds).length=ps.length:=by rw[<- r2.length];exact F.len _ _ _ _ h
 refine wpAny_call (codeAny_mono (F.run X.A X.stack s H ⟨us,[]⟩ (us++ds) (vs++dvs) Q E hr I.env0 (hb s us I.kIn hl) r2 h) fun r s' hq=>?_);cases r with
 | error e=>exact hx pins σ H s e s' I hq
 | ok fl =>
   cases fl with
   | ret u=>exact I.after hq
   | next=>exact False.elim hq
   | brk=>exact False.elim hq
   | cont=>exact False.elim hq
theorem zhb(F:FnOk X.prog X.w X.K X.mg X.base CX k f fd ps sp)(hr:W5 k X.A)(hg:Gl X x)(hm:X.mg x=some (.ref f))(hk:PySem.W.keepIn X.K (.ref f)=true)(hb:Ra X.K fd ps ds)(hd:Vals dvs ds)(hx:W8 CX X E)
  (ha:PA X (e :: es) t) (hdb:(x == ("__debug__":Str))=false:=by decide) (he:starEach (e :: es) X.env=(false,eval e X.env) :: starEach es X.env:=by rfl) (hpl:(backTo pos (starEach es X.env)).any (·.1)=false:=by rfl) :
  PE X (.Call (.Name x p) (e :: es) [] pos) (zfd sp dvs E t):=by
 intro pins s σ H Q I h;refine wpAny_Call_Name_kw (N2 I hg hm ?_ hdb);refine PySem.W.callWith_K (h₀:=X.base) I.ok.mod.kin hk (thn (ha pos pins s σ H _ I h) fun us s1 ⟨vs,H1,I1,r,q⟩=>⟨I1.kIn,?_⟩) he hpl;exact zay F hr hb hd hx I1 r q
theorem zhc(he:PE X o ta)(c:Cls X.K C)(hm:zfc X.K C m f)(F:FnOk X.prog X.w X.K X.mg X.base CX k f fd ps sp)(hr:W5 k X.A)(hb:Ra X.K fd ps ds)(hd:Vals dvs ds)(hx:W8 CX X E)(ha:PA X (e :: es) t)
  (hst:starEach (e :: es) X.env=(false,eval e X.env) :: starEach es X.env:=by rfl) (hpl:(backTo pos (starEach es X.env)).any (·.1)=false:=by rfl)
  (ht:eval (.Call (.Attribute o m apos) (e :: es) [] pos) X.env=(do
   let ov <- eval o X.env
   standAt apos.atName
   let (f,first) <- holding [ov] (getMethod ov m pl)
   callWith pos f first (backTo pos (starEach (e :: es) X.env)) (backToKw pos (keywordEach [] X.env))):=by rfl) :
  PE X (.Call (.Attribute o m apos) (e :: es) [] pos) (zca C m sp dvs E ta t):=by
 intro pins s σ H Q I h;refine PySem.W.methodCall_KW (pl:=pl) (thn (he pins s σ H _ I h) fun u s1 ⟨x,H1,I1,rx,a,dx,fs,ex,ea,l,q⟩=>?_) ht;subst ex;obtain rfl:u=Value.ref a:=rx;refine J1 I1 ea c hm l ?_;refine PySem.W.callWith_K (first:=[.ref a]) (h₀:=X.base) I.ok.mod.kin hm.kp (thn (ha pos pins s1 σ H1 _ I1 q) fun us s2 ⟨vs,H2,I2,r,q2⟩=>⟨I2.kIn,?_⟩) hst hpl;exact zay (us:=.ref a :: us) (vs:=.ref a :: vs) F hr hb hd hx I2 (.cons rfl r) q2
theorem zfe(he:PE X o ta)(c:Cls X.K C)(hm:zfc X.K C m f)(F:FnOk X.prog X.w X.K X.mg X.base CX k f fd ps sp)(hr:W5 k X.A)(hb:Ra X.K fd ps ds)(hd:Vals dvs ds)(hx:W8 CX X E)
  (ht:eval (.Call (.Attribute o m apos) [] [] pos) X.env=(do
   let ov <- eval o X.env
   standAt apos.atName
   let (f,first) <- holding [ov] (getMethod ov m pl)
   callWith pos f first (backTo pos (starEach [] X.env)) (backToKw pos (keywordEach [] X.env))):=by rfl) :
  PE X (.Call (.Attribute o m apos) [] [] pos) (zca C m sp dvs E ta zav):=by
 intro pins s σ H Q I h;refine PySem.W.methodCall_KW (pl:=pl) (thn (he pins s σ H _ I h) fun u s1 ⟨x,H1,I1,rx,a,dx,fs,ex,ea,l,q⟩=>?_) ht;subst ex;obtain rfl:u=Value.ref a:=rx;refine J1 I1 ea c hm l ?_;exact PySem.W.callWith_K0 (first:=[.ref a]) I1.kIn hm.kp (zay (us:=[.ref a]) (vs:=[.ref a]) F hr hb hd hx I1 (.cons rfl .nil) q)
structure Mk(K:Frag)(C f:Addr):Prop where
 makes:PySem.W.makesIn K C=true
 init:PySem.W.findIn K (.ref C) "__init__"=some (some (.ref f))
 fn:PySem.W.isFn K (.ref f)=true
 kp:PySem.W.keepIn K (.ref C)=true
theorem Bi(M:Mk X.K C f)(F:FnOk X.prog X.w X.K X.mg X.base CX k f fd ps sp)(hr:W5 (k+1) X.A)(hb:Ra X.K fd ps ds)(hd:Vals dvs ds)
  (hx:W8 CX X E) (I:Inv X pins σ H s) (r:Vals vs us)
  (h:∀ x dx,H x=none->H dx=none->dx≠x->sp (.ref x :: (vs++dvs)) (upd (upd H dx (.own x)) x (.ins C dx [])) (fun v H2=>v=.non/\Q (.ref x) H2) E) :
  wpAny (model X.prog X.w) X.A (call (.ref C) us) (EP X pins σ Q) X.xe s:=by
 have hq:=h (s.heap.objs.size+1) s.heap.objs.size (I.hok.fresh (Nat.le_succ _)) (I.hok.fresh (zu7 _)) (zvq (Nat.lt_succ_self _));have I2:=Inv.made (C:=C) I;have r2:Vals (V.ref (s.heap.objs.size+1) :: (vs++dvs)) (Value.ref (s.heap.objs.size+1) :: (us++ds)):=.cons rfl (r.append hd);have hl:(Value.ref (s.heap.objs.size+1) :: us++ds).length=ps.length:=by
  have e:=r2.length;rw[F.len _ _ _ _ hq] at e;exact e.symm
 refine wpAny_call (zfb (f:=f) I.kIn M.makes M.init (beq_iff_eq.mp M.fn) (codeAny_mono (F.run _ X.stack _ _ ⟨Value.ref (s.heap.objs.size+1) :: us,[]⟩ (Value.ref (s.heap.objs.size+1) :: (us++ds)) _ _ E (hr.make C us [])
  (I2.env0.make C us []) (hb _ (Value.ref (s.heap.objs.size+1) :: us) I2.kIn hl) r2 hq) fun r s' hq'=>?_))
 cases r with
 | error e=>exact hx pins σ _ _ e s' I2 hq'
 | ok fl =>
   cases fl with
   | ret u =>
     obtain⟨v,H',I3,rv,ev,q3⟩:=I2.after hq';subst ev;exact⟨rv,⟨V.ref (s.heap.objs.size+1),H',I3,rfl,q3⟩⟩
   | next=>exact False.elim hq'
   | brk=>exact False.elim hq'
   | cont=>exact False.elim hq'
theorem zhd(M:Mk X.K C f)(F:FnOk X.prog X.w X.K X.mg X.base CX k f fd ps sp)(hr:W5 (k+1) X.A)(hg:Gl X x)(hm:X.mg x=some (.ref C))(hb:Ra X.K fd ps ds)(hd:Vals dvs ds)(hx:W8 CX X E)
  (ha:PA X (e :: es) t) (hdb:(x == ("__debug__":Str))=false:=by decide) (he:starEach (e :: es) X.env=(false,eval e X.env) :: starEach es X.env:=by rfl) (hpl:(backTo pos (starEach es X.env)).any (·.1)=false:=by rfl) :
  PE X (.Call (.Name x p) (e :: es) [] pos) (zcb C sp dvs E t):=by
 intro pins s σ H Q I h;refine wpAny_Call_Name_kw (N2 I hg hm ?_ hdb);refine PySem.W.callWith_K (h₀:=X.base) I.ok.mod.kin M.kp (thn (ha pos pins s σ H _ I h) fun us s1 ⟨vs,H1,I1,r,q⟩=>⟨I1.kIn,?_⟩) he hpl;exact Bi M F hr hb hd hx I1 r q
theorem zff(M:Mk X.K C f)(F:FnOk X.prog X.w X.K X.mg X.base CX k f fd ps sp)(hr:W5 (k+1) X.A)(hg:Gl X x)(hm:X.mg x=some (.ref C))(hb:Ra X.K fd ps ds)(hd:Vals dvs ds)(hx:W8 CX X E)
  (hdb:(x == ("__debug__":Str))=false:=by decide):PE X (.Call (.Name x p) [] [] pos) (zcb C sp dvs E zav):=by
 intro pins s σ H Q I h;refine wpAny_Call_Name_kw (N2 I hg hm ?_ hdb);exact PySem.W.callWith_K0 I.kIn M.kp (Bi (us:=[]) M F hr hb hd hx I .nil h)
end
section
variable{X:Cx}{CX:CXT}{k:Nat}{f C:Addr}{fd:FuncData}{ps ks:List Str}{sp:Sp}{E:XK}{x m:Str}{p pos apos kpos:Pos}{e o:Expr}{es:List Expr}{kws:List Keyword}{te ta:TE}{t tk:TA}{nm:Option Str}
structure zlz(K:Frag)(fd:FuncData)(ps ks:List Str)(g:List Value->List Value->List Value)(gV:List V->List V->List V):Prop where
 to:∀ (s:Shared) (us ws:List Value),K.In s.heap->(g us ws).length=ps.length->BindsTo s fd ⟨us,ks.zip ws⟩ (ps.zip (g us ws))
 rel:∀ {vs:List V} {us:List Value} {zs:List V} {ws:List Value},Vals vs us->Vals zs ws->Vals (gV vs zs) (g us ws)
variable{g:List Value->List Value->List Value}{gV:List V->List V->List V}
end
structure Zl(N P:List Str)(sc:Scope):Prop where
 kind:sc.kind=.function
 co:sc.isCoroutine=false
 gen:sc.isGenerator=false
 nd:N.Nodup
 pre:N.take P.length=P
 par:∀ x∈P,sc.names.lookup x=some .local\/sc.names.lookup x=some .cell
 nofree:∀ y∈sc.names,y.2≠.free
theorem En{kindOf:Str->Option NameKind}{x:Str}:∀ {binds:List (Str×Value)} {m:Str->Option Value},(∀ v,(x,v)∉binds)->bindL kindOf binds m x=m x
 | [],_,_=>rfl
 | (n,v) :: r,m,h=>by
   unfold bindL;rw[En fun w hw=>h w (zvg _ hw)];split
   ·have:x≠n:=by rintro rfl;exact h v zvt
    simp[this]
   ·rfl
theorem Eo{kindOf:Str->Option NameKind}{x:Str}:∀ {binds:List (Str×Value)} {m:Str->Option Value},(∀ v,(x,v)∉binds)->bindC kindOf binds m x=m x
 | [],_,_=>rfl
 | (n,v) :: r,m,h=>by
   unfold bindC;rw[Eo fun w hw=>h w (zvg _ hw)];split
   ·rfl
   ·have:x≠n:=by rintro rfl;exact h v zvt
    simp[this]
theorem Ep{kindOf:Str->Option NameKind}{x:Str}{v:Value}:∀ {P:List Str} {vs:List Value} {i:Nat} {m:Str->Option Value},P.Nodup->P[i]?=some x->vs[i]?=some v->kindOf x=some .local ->
  bindL kindOf (P.zip vs) m x=some v
 | [],_,_,_,_,h,_,_=>by simp at h
 | _ :: _,[],_,_,_,_,h,_=>by simp at h
 | p :: P,w :: vs,0,m,nd,h1,h2,hk=>by
   simp at h1 h2;subst h1;subst h2;show bindL kindOf ((p,w) :: P.zip vs) m p=_;unfold bindL;rw[En fun v hv=>(zvm.mp nd).1 (List.of_mem_zip hv).1,if_pos hk];simp
 | p :: P,w :: vs,i+1,m,nd,h1,h2,hk=>by
   show bindL kindOf ((p,w) :: P.zip vs) m x=_;unfold bindL;exact Ep (i:=i) (zvm.mp nd).2 (by simpa using h1) (by simpa using h2) hk
theorem Er{kindOf:Str->Option NameKind}{x:Str}{v:Value}:∀ {P:List Str} {vs:List Value} {i:Nat} {m:Str->Option Value},P.Nodup->P[i]?=some x->vs[i]?=some v->kindOf x≠some .local ->
  bindC kindOf (P.zip vs) m x=some v
 | [],_,_,_,_,h,_,_=>by simp at h
 | _ :: _,[],_,_,_,_,h,_=>by simp at h
 | p :: P,w :: vs,0,m,nd,h1,h2,hk=>by
   simp at h1 h2;subst h1;subst h2;show bindC kindOf ((p,w) :: P.zip vs) m p=_;unfold bindC;rw[Eo fun v hv=>(zvm.mp nd).1 (List.of_mem_zip hv).1,if_neg hk];simp
 | p :: P,w :: vs,i+1,m,nd,h1,h2,hk=>by
   show bindC kindOf ((p,w) :: P.zip vs) m x=_;unfold bindC;exact Er (i:=i) (zvm.mp nd).2 (by simpa using h1) (by simpa using h2) hk
def Km(N:List Str)(vs:List V):St:=vs.map some++List.replicate (N.length-vs.length) none
def cxOf(CX:CXT)(P:Program)(w:World)(K:Frag)(mg:Str->Option Value)(base:Heap)(N:List Str)(qual:Str)(scope:Scope)(f:Addr)(cd:Value)(A:Around)(outer:List Env)(s:Shared)(H:Hp)(E:XK):Cx where
 prog:=P
 w:=w
 K:=K
 mg:=mg
 base:=base
 A:=A.deeper (envOfC qual scope s.heap.objs.size f cd)
 N:=N
 s₀:=s
 H₀:=H
 env:=envOfC qual scope s.heap.objs.size f cd
 outer:=outer
 stack:=envOfC qual scope s.heap.objs.size f cd :: outer
 ex:=[]
 calm:=true
 fn:=fun _=>true
 pn:=[]
 xe:=fun e s'=>wpAny (model P w) (A.deeper (envOfC qual scope s.heap.objs.size f cd)) (leaving (envOfC qual scope s.heap.objs.size f cd) e) (fun _ s''=>CX outer H s E e s'') (fun e' s''=>CX outer H s E e' s'') s'
theorem Bj{sc:Scope}{n:Nat}{x:Str}(h:sc.names.lookup x=some .cell):∃ c,(cellsFrom n sc.names []).lookup x=some c:=by
 have q:=PySem.W.cellsFrom_some sc.names n [] (.inl h);exact zv8.mp q
theorem zdo{CX:CXT}{P:Program}{w:World}{K:Frag}{mg:Str->Option Value}{base:Heap}{N ps:List Str}{qual:Str}{scope:Scope}{f:Addr}{cd:Value}{A:Around}{outer:List Env}{s s1:Shared}{H:Hp}{E:XK}{us:List Value}{vs:List V}
  (S:Zl N ps scope) (hd:A.handled=none) (e0:zax P w K mg base A outer s H) (hl:vs.length=ps.length) (r:Vals vs us)
  (x:InCallC s s.heap.objs.size (bindL (envOfC qual scope s.heap.objs.size f cd).kindOf (ps.zip us) fun _=>none) (cellsFrom (s.heap.objs.size+1) scope.names []) (bindC (envOfC qual scope s.heap.objs.size f cd).kindOf (ps.zip us) fun _=>none) s1) :
  Inv (cxOf CX P w K mg base N qual scope f cd A outer s H E) [] (Km N vs) H s1:=by
 have hpl:ps.length<=N.length:=by have:=congrArg List.length S.pre;rw[zw2] at this;omega
 obtain⟨h1,tk,rfl,hk⟩:=x.done;have noA:∀ b:Addr,b∉(cxOf CX P w K mg base N qual scope f cd A outer s H E).ex:=fun b z=>absurd (show b∈([]:List Addr) from z) (by simp);refine⟨⟨e0.mod,S.kind,rfl,rfl,zu7 _,fun y z c h1 h2=>?_,fun y hy=>?_,fun y c _ h=>?_,fun _=>hd,Around.frames_deeper e0.frames,.inr ⟨rfl,rfl⟩,fun b z=>absurd z (noA b),e0.bs,e0.bsz,fun b _ _=>noA b,fun b z=>absurd z (noA b),e0.funs,e0.frf⟩,
  rfl,e0.bare,Un.kept hk,⟨_,x.toInCall.ns,fun i y v h1 h2 h3=>?_⟩,fun y c h=>⟨_,x.cell y c h⟩,e0.hok.fresh (zu7 _),fun y c h=>?_,fun p hp=>absurd (show p∈([]:List (Addr×Obj)) from hp) (by simp),e0.hok.kept hk,?_⟩
 ·exact name_of_addr x.apart (PySem.mem_of_lookup h1) (PySem.mem_of_lookup h2)
 ·have hy:scope.names.lookup y=some .cell\/scope.names.lookup y=some .free:=hy;rcases hy with hy|hy
  ·exact Bj hy
  ·exact absurd rfl (S.nofree _ (PySem.mem_of_lookup hy))
 ·exact zw5 (x.above y c (PySem.mem_of_lookup h))
 ·have h2:=h2.resolve_right (Wr _);have hi:i<vs.length:=by
   unfold Km at h2;by_cases hi:i<vs.length
   ·exact hi
   ·rw[zvz (by simpa using hi)] at h2;rw[List.getElem?_replicate] at h2;split at h2<;>cases h2
  have ha:vs[i]?=some v:=by
   unfold Km at h2;rw[zv3 (by simpa using hi),zu1] at h2;cases e:vs[i]? with
   | none=>rw[e] at h2;cases h2
   | some a=>rw[e] at h2;cases h2;rfl
  obtain⟨u,hu,rv⟩:=r.get ha;have hp:ps[i]?=some y:=by
   rw[<- S.pre,List.getElem?_take_of_lt ⋯];exact h1
  have ndP:ps.Nodup:=by rw[<- S.pre];exact S.nd.sublist (List.take_sublist _ _)
  refine⟨u,rv,?_⟩;rcases S.par y (zu2 hp) with k|k
  ·exact .inl ⟨k,Ep ndP hp hu k⟩
  ·obtain⟨c,e⟩:=Bj (n:=s.heap.objs.size+1) k;refine .inr ⟨.inl k,c,e,?_⟩;have q:=x.cell y c e;rw[Er ndP hp hu (by show scope.names.lookup y≠_;rw[k];decide)] at q;exact q
 ·exact e0.hok.fresh (zw5 (x.above y c (PySem.mem_of_lookup h)))
 ·unfold Km;show _=N.length;rw[zuz,zuw,List.length_replicate];omega
theorem zky{CX:CXT}{P:Program}{w:World}{K:Frag}{mg:Str->Option Value}{base:Heap}{k:Nat}{f:Addr}{name qual:Str}{params:Arguments}{body:List Stmt}{scope:Scope}{dV kV doc pm cdv ct oc:Value}{an od:Option Addr}
  {osl:Array (Option Value)} {N ps:List Str} {sp:Sp} (lk:K.lookup f=some ⟨oc,od,.func (PySem.W.fnOf name qual params body scope dV kV doc pm an cdv ct),osl⟩) (hcd:PySem.W.codeIn K cdv qual=true) (S:Zl N ps scope)
  (len:∀ vs H Q E,sp vs H Q E->vs.length=ps.length)
  (hbody:∀ (A:Around) (outer:List Env) (s:Shared) (H:Hp) (vs:List V) (Q:VK) (E:XK),W5 k (A.deeper (envOfC qual scope s.heap.objs.size f cdv))->sp vs H Q E ->
   ∃ t,PSs (cxOf CX P w K mg base N qual scope f cdv A outer s H E) body t/\t { nx:=fun _ H'=>Q .non H',rt:=Q } (Km N vs) H) :
  FnOk P w K mg base CX (k+1) f (PySem.W.fnOf name qual params body scope dV kV doc pm an cdv ct) ps sp:=by
 refine⟨len,fun A outer s H args us vs Q E hr e0 hb r hsp=>?_⟩;have hl:=len _ _ _ _ hsp;have KX:K.In s.heap:=e0.mod.kin.keeps fun b o e=>(e0.bs b o e).1;have lim:s.heap.NoLimit:=e0.mod.nolimit.keeps fun b o e=>(e0.bs b o e).1;have hkind:∀ y∈ps.zip us,scope.names.lookup y.1=some .local\/(scope.names.lookup y.1=some .cell/\((cellsFrom (s.heap.objs.size+1) scope.names []).lookup y.1).isSome=true):=fun ⟨n,v⟩ hy=>by
  rcases S.par n (List.of_mem_zip hy).1 with q|q
  ·exact .inl q
  ·exact .inr ⟨q,PySem.W.cellsFrom_some _ _ _ (.inl q)⟩
 refine codeAny_call_function hr.depth (KX _ _ lk) rfl S.co S.gen rfl (PySem.W.codeRec_of KX hcd) (hb _ _ _ _ ?_);refine wpAny_newFunctionEnv_cells S.kind hkind fun env he s1 x=>?_;subst he;refine⟨lim.keeps x.toInCall.keep,codeAny_func ?_⟩;obtain⟨t,ht,hq⟩:=hbody A outer s H vs Q E (hr.deeper _) hsp;have I:Inv (cxOf CX P w K mg base N qual scope f cdv A outer s H E) [] (Km N vs) H s1:=zdo S hr.hd e0 hl r x;refine wpAny_mono (ht [] s1 (Km N vs) H _ I hq) (fun fl s' hs=>?_) fun e s' hs=>hs;have fin:∀ {σ':St} {H':Hp} {v:V} {u:Value},Inv (cxOf CX P w K mg base N qual scope f cdv A outer s H E) [] σ' H' s'->RelV v u->Q v H'->CE outer P w H s Q u s' :=
  fun {σ' H' v u} J rv q=>⟨v,H',J.os,J.bare,J.base,J.hok,rv,q⟩
 cases fl with
 | ret u =>
   obtain⟨v,σ',H',J,rv,q⟩:=hs;exact fin J rv q
 | next =>
   obtain⟨σ',H',J,q⟩:=hs;exact fin (v:=V.non) (u:=Value.none) J rfl q
 | brk =>
   obtain⟨_,_,_,q⟩:=hs;exact False.elim q
 | cont =>
   obtain⟨_,_,_,q⟩:=hs;exact False.elim q
section
variable{X:Cx}{x:Str}{p pos:Pos}{e:Expr}{es:List Expr}{t:TA}{id T:String}{r:List V->Hp->VK->Prop}
def tCB(r:List V->Hp->VK->Prop)(t:TA):TE:=fun σ H Q=>t σ H fun vs H1=>r vs H1 Q
theorem Zn(hc:Vm X (.builtin id) r)(hg:Gl X x)(hm:X.mg x=none)(hv:bootBuiltins x=some (.builtin id))(ha:PA X (e :: es) t)(hn:x≠"__name__":=by decide)(hdb:(x == ("__debug__":Str))=false:=by decide)
  (he:starEach (e :: es) X.env=(false,eval e X.env) :: starEach es X.env:=by rfl) (hpl:(backTo pos (starEach es X.env)).any (·.1)=false:=by rfl):PE X (.Call (.Name x p) (e :: es) [] pos) (tCB r t):=by
 intro pins s σ H Q I h;refine wpAny_Call_Name_kw (Ot I hg hm hv ?_ hn hdb);exact PyProof.Rows.callWith_builtin1 (thn (ha pos pins s σ H _ I h) fun us s1 ⟨vs,H1,I1,r1,q1⟩=>hc pins s1 σ H1 vs us Q I1 r1 q1) he hpl
theorem Xl(hc:Vm X (.type T) r)(hg:Gl X x)(hm:X.mg x=none)(hv:bootBuiltins x=some (.type T))(ha:PA X (e :: es) t)(hn:x≠"__name__":=by decide)(hdb:(x == ("__debug__":Str))=false:=by decide)
  (he:starEach (e :: es) X.env=(false,eval e X.env) :: starEach es X.env:=by rfl) (hpl:(backTo pos (starEach es X.env)).any (·.1)=false:=by rfl):PE X (.Call (.Name x p) (e :: es) [] pos) (tCB r t):=by
 intro pins s σ H Q I h;refine wpAny_Call_Name_kw (Ot I hg hm hv ?_ hn hdb);exact PyProof.Rows.callWith_type1 (thn (ha pos pins s σ H _ I h) fun us s1 ⟨vs,H1,I1,r1,q1⟩=>hc pins s1 σ H1 vs us Q I1 r1 q1) he hpl
end
section
variable{κ:Type}[DecidableEq κ]
def valV(kvs:List (κ×V))(k:κ):Option V:=(kvs.find? fun kv=>decide (kv.1=k)).map (·.2)
def putK(kvs:List (κ×V))(k:κ)(v:V):List (κ×V) :=
 if (kvs.any fun kv=>decide (kv.1=k))=true then kvs.map (fun kv=>if kv.1=k then (kv.1,v) else kv) else kvs++[(k,v)]
def X7(kvs:List (κ×V))(k:κ):List (κ×V):=kvs.filter fun kv=>decide (kv.1≠k)
theorem zfg:valV ([]:List (κ×V)) k=none:=rfl
theorem Xg{p:κ×V}{r:List (κ×V)}{k:κ}(e:p.1=k):valV (p :: r) k=some p.2:=by simp[valV,zwx,e]
theorem Xa{p:κ×V}{r:List (κ×V)}{k:κ}(e:¬ p.1=k):valV (p :: r) k=valV r k:=by simp[valV,zwx,e]
theorem Rb(k:κ):∀ kvs:List (κ×V),(kvs.any fun kv=>decide (kv.1=k))=(valV kvs k).isSome
 | []=>rfl
 | p :: r=>by
   rw[zwz];by_cases e:p.1=k
   ·simp only[Xg e,zu3 e,Bool.true_or,Option.isSome_some]
   ·rw[Xa e,zva e,Bool.false_or];exact Rb k r
theorem Bl(k j:κ)(y:V):∀ kvs:List (κ×V),valV (kvs.map fun kv=>if kv.1=k then (kv.1,y) else kv) j=(valV kvs j).map fun x=>if j=k then y else x
 | []=>rfl
 | p :: r=>by
   have ih:=Bl k j y r;rw[zu9];by_cases h:p.1=k
   ·rw[if_pos h];by_cases e:p.1=j
    ·rw[Xg (p:=(p.1,y)) e,Xg e,zv0,if_pos (e.symm.trans h)]
    ·rw[Xa (p:=(p.1,y)) e,Xa e,ih]
   ·rw[if_neg h];by_cases e:p.1=j
    ·rw[Xg (p:=p) e,Xg e,zv0,if_neg (fun z=>h (e.trans z))]
    ·rw[Xa (p:=p) e,Xa e,ih]
theorem Et(k j:κ)(y:V):∀ kvs:List (κ×V),valV kvs k=none->valV (kvs++[(k,y)]) j=if j=k then some y else valV kvs j
 | [],_=>by
   by_cases e:k=j
   ·rw[if_pos e.symm];exact Xg (p:=(k,y)) e
   ·rw[if_neg (fun z=>e z.symm)];exact Xa (p:=(k,y)) e
 | p :: r,hn=>by
   rw[List.cons_append];have hk:¬ p.1=k:=fun z=>by rw[Xg z] at hn;cases hn
   rw[Xa hk] at hn;have ih:=Et k j y r hn;by_cases e:p.1=j
   ·rw[Xg e,Xg e,if_neg (fun z=>hk (e.trans z))]
   ·rw[Xa e,Xa e,ih]
theorem Up(kvs:List (κ×V))(k j:κ)(y:V):valV (putK kvs k y) j=if j=k then some y else valV kvs j:=by
 unfold putK;by_cases a:(kvs.any fun kv=>decide (kv.1=k))=true
 ·rw[if_pos a,Bl];rw[Rb] at a;by_cases e:j=k
  ·obtain⟨x,hx⟩:=zv8.mp a;rw[if_pos e,e,hx,zv0,if_pos rfl]
  ·rw[if_neg e];cases valV kvs j with
   | none=>rfl
   | some x=>rw[zv0,if_neg e]
 ·rw[if_neg a];refine Et k j y kvs ?_;rw[Rb] at a;cases q:valV kvs k with
  | none=>rfl
  | some x=>rw[q] at a;exact(a rfl).elim
theorem Xx(kvs:List (κ×V))(k:κ)(v:V):(putK kvs k v).length<=kvs.length+1:=by
 unfold putK;split
 ·rw[zuw];omega
 ·rw[zuz,zvi,List.length_nil];omega
theorem zfh{kvs:List (κ×V)}{k:κ}(v:V)(h:valV kvs k=none):putK kvs k v=kvs++[(k,v)]:=by
 unfold putK;rw[Rb,h];exact if_neg ⋯
theorem RelO.isSome_eq(r:RelO o u):o.isSome=u.isSome:=by
 cases o with
 | none=>cases u with
   | none=>rfl
   | some _=>exact(show False from r).elim
 | some _=>cases u with
   | none=>exact(show False from r).elim
   | some _=>rfl
theorem RelO.getD(r:RelO o u)(rd:RelV d d'):RelV (o.getD d) (u.getD d'):=by
 cases o with
 | none=>cases u with
   | none=>exact rd
   | some _=>exact(show False from r).elim
 | some _=>cases u with
   | none=>exact(show False from r).elim
   | some _=>exact r
theorem KV.val{kvs:List (κ×V)}{vs:List (κ×Value)}(r:KV kvs vs)(k:κ):RelO (valV kvs k) (valueAt vs k):=by
 unfold KV at r
 induction r with
 | nil=>exact True.intro
 | @cons p q ps qs h t ih =>
   obtain⟨h1,h2⟩:=h;by_cases e:p.1=k
   ·have e':q.1=k:=h1.symm.trans e;have b:valueAt (q :: qs) k=some q.2:=by simp[valueAt,zwx,e']
    rw[Xg e,b];exact h2
   ·have e':¬ q.1=k:=fun z=>e (h1.trans z);have b:valueAt (q :: qs) k=valueAt qs k:=by simp[valueAt,zwx,e']
    rw[Xa e,b];exact ih
theorem KV.any(r:KV kvs vs)(k:κ):(kvs.any fun kv=>decide (kv.1=k))=vs.any fun kv=>decide (kv.1=k):=by
 unfold KV at r
 induction r with
 | nil=>rfl
 | cons h t ih=>rw[zwz,zwz,ih,h.1]
theorem KV.repl(r:KV kvs vs)(k:κ)(ry:RelV y u) :
  KV (kvs.map fun kv=>if kv.1=k then (kv.1,y) else kv) (vs.map fun kv=>if kv.1=k then (kv.1,u) else kv):=by
 unfold KV at r ⊢
 induction r with
 | nil=>exact .nil
 | @cons p q ps qs h t ih =>
   rw[zu9,zu9];refine .cons ?_ ih;obtain⟨h1,h2⟩:=h;by_cases e:p.1=k
   ·rw[if_pos e,if_pos (h1.symm.trans e)];exact⟨h1,ry⟩
   ·rw[if_neg e,if_neg (fun z=>e (h1.trans z))];exact⟨h1,h2⟩
theorem KV.put(r:KV kvs vs)(k:κ)(ry:RelV y u):KV (putK kvs k y) (stored vs k u):=by
 unfold putK stored;rw[r.any k];by_cases e:(vs.any fun kv=>decide (kv.1=k))=true
 ·rw[if_pos e,if_pos e];exact r.repl k ry
 ·rw[if_neg e,if_neg e];exact Paired.snoc r ⟨rfl,ry⟩
theorem KV.drop(r:KV kvs vs)(k:κ):KV (X7 kvs k) (without vs k):=by
 unfold KV at r ⊢;unfold X7 without
 induction r with
 | nil=>exact .nil
 | @cons p q ps qs h t ih =>
   obtain⟨h1,h2⟩:=h;rw[zv7,zv7];by_cases e:p.1=k
   ·have a:¬ decide (p.1≠k)=true:=by simp[e]
    have b:¬ decide (q.1≠k)=true:=by simp[h1.symm.trans e]
    rw[if_neg a,if_neg b];exact ih
   ·have e':¬ q.1=k:=fun z=>e (h1.trans z);have a:decide (p.1≠k)=true:=by simp[e]
    have b:decide (q.1≠k)=true:=by simp[e']
    rw[if_pos a,if_pos b];exact .cons ⟨h1,h2⟩ ih
theorem KV.keys{kvs:List (κ×V)}{vs:List (κ×Value)}(r:KV kvs vs):kvs.map (·.1)=vs.map (·.1):=by
 unfold KV at r
 induction r with
 | nil=>rfl
 | cons h t ih=>rw[zu9,zu9,ih,h.1]
theorem KV.length(r:KV kvs vs):kvs.length=vs.length:=Paired.length r
theorem Bm(kvs:List (κ×V))(k:κ):(X7 kvs k).length<=kvs.length:=zvr _ _
end
theorem Kn(r:RelV (kV k) u):(Yn P w).is k u=true:=by
 cases k with
 | inl i=>obtain⟨t,e⟩:=(show ∃ t,u=Value.int i t from r);subst e;exact C8 P w i t
 | inr x=>obtain⟨t,e⟩:=(show ∃ t,u=Value.str x t from r);subst e;exact C9 P w x t
theorem Eu:∀ {ks:List Key} {us:List Value},Vals (ks.map kV) us->ItemsAre (Yn P w) ks us
 | [],_,r=>by rw[List.map_nil] at r;cases r;exact .nil
 | k :: ks,_,r=>by
   rw[zu9] at r;cases r with
   | cons h t=>exact .cons (Kn h) (Eu t)
abbrev KT(H:Hp):List (List Key×V)->List (List Key×Addr×Value)->Prop:=Paired fun p q=>p.1=q.1/\H q.2.1=some (.tup (p.1.map kV))/\RelV p.2 q.2.2
theorem KT.val{H:Hp}{kvs:List (List Key×V)}{xs:List (List Key×Addr×Value)}(r:KT H kvs xs)(k:List Key):RelO (valV kvs k) ((atKey xs k).map (·.2)):=by
 induction r with
 | nil=>exact True.intro
 | @cons p q ps qs h t ih =>
   obtain⟨h1,_,h2⟩:=h;by_cases e:p.1=k
   ·have e':q.1=k:=h1.symm.trans e;have b:atKey (q :: qs) k=some q.2:=by simp[atKey,zwx,e']
    rw[Xg e,b];exact h2
   ·have e':¬ q.1=k:=fun z=>e (h1.trans z);have b:atKey (q :: qs) k=atKey qs k:=by simp[atKey,zwx,e']
    rw[Xa e,b];exact ih
theorem KT.repl(r:KT H kvs xs)(k:List Key)(ry:RelV y u) :
  KT H (kvs.map fun kv=>if kv.1=k then (kv.1,y) else kv) (xs.map (putAt k u)):=by
 induction r with
 | nil=>exact .nil
 | @cons p q ps qs h t ih =>
   rw[zu9,zu9];refine .cons ?_ ih;obtain⟨h1,h2,h3⟩:=h;unfold putAt;by_cases e:p.1=k
   ·rw[if_pos e,if_pos (h1.symm.trans e)];exact⟨h1,h2,ry⟩
   ·rw[if_neg e,if_neg (fun z=>e (h1.trans z))];exact⟨h1,h2,h3⟩
theorem KT.put(r:KT H kvs xs)(k:List Key)(hb:H b=some (.tup (k.map kV)))(ry:RelV y u) :
  KT H (putK kvs k y) (storedH xs k b u):=by
 have e:(kvs.any fun kv=>decide (kv.1=k))=(atKey xs k).isSome:=by
  rw[Rb,(r.val k).isSome_eq,Option.isSome_map]
 unfold putK storedH;rw[e];by_cases q:(atKey xs k).isSome=true
 ·rw[if_pos q,if_pos q];exact r.repl k ry
 ·rw[if_neg q,if_neg q];exact Paired.snoc r ⟨rfl,hb,ry⟩
theorem KT.keeps(r:KT H kvs xs)(ht:∀ b ys,H b=some (.tup ys)->H' b=some (.tup ys)):KT H' kvs xs :=
 Paired.mapP r fun _ _ z=>⟨z.1,ht _ _ z.2.1,z.2.2⟩
section
variable{P:Program}{w:World}{H:Hp}{h:Heap}{a:Addr}
theorem zij(ok:HOk P w H h)(e:Rd H a u):Y6 P w H h a u:=e.ok ok
theorem Qh(ok:HOk P w H h)(e:Rd H a (.dK kvs)):kvs.length<=sizeLine/\(a == sysModules)=false/\∃ vs,KV kvs vs/\h.DictOf (Yn P w) a vs :=
 show Y6 P w H h a (.dK kvs) from zij ok e
theorem Bn(ok:HOk P w H h)(e:H a=some (.dK kvs)):kvs.length<=sizeLine/\(a == sysModules)=false/\∃ vs,KV kvs vs/\h.DictOf (Yn P w) a vs:=Qh ok (.inl e)
theorem Ow(ok:HOk P w H h)(e:H a=some (.tup (ks.map kV))):(tupleKind (Yn P w)).is h ks a:=by
 obtain⟨_,its,r,o,h1,h2,n,h3⟩:=(show Y6 P w H h a (.tup (ks.map kV)) from ok a _ e);exact⟨o,its.toArray,n,h1,h2,h3,by simpa using Eu r⟩
theorem J2(ok:HOk P w H h)(e:Rd H a (.dT kvs)):kvs.length<=sizeLine/\(a == sysModules)=false /\
  ∃ xs,KT H kvs xs/\h.DictOfH (tupleKind (Yn P w)) a xs:=by
 obtain⟨z,y,xs,r,o,es,ep,h1,h2,h3,h4,h5⟩:=(show Y6 P w H h a (.dT kvs) from zij ok e);refine⟨z,y,xs,r,o,es,ep,h1,h2,h3,h4,fun x hx=>?_,h5⟩;have all:∀ {l:List (List Key×V)} {m:List (List Key×Addr×Value)},KT H l m->∀ x∈m,(tupleKind (Yn P w)).is h x.1 x.2.1:=by
  intro l m q
  induction q with
  | nil=>intro x hx;exact nomatch hx
  | @cons p q ps qs hq t ih =>
    intro x hx;rcases zu4.mp hx with e|hx
    ·subst e;exact Ow ok (by rw[<- hq.1];exact hq.2.1)
    ·exact ih x hx
 exact all r x hx
theorem zik(ok:HOk P w H h)(e:H a=some (.dT kvs)):kvs.length<=sizeLine/\(a == sysModules)=false /\
  ∃ xs,KT H kvs xs/\h.DictOfH (tupleKind (Yn P w)) a xs:=J2 ok (.inl e)
end
def DGet(H:Hp)(a:Addr)(y:V)(r:Option V):Prop :=
 (∃ kvs k,Rd H a (.dK kvs)/\y=kV k/\r=valV kvs k)\/∃ kvs k b,Rd H a (.dT kvs)/\y=.ref b/\H b=some (.tup (k.map kV))/\r=valV kvs k
def DPut(H:Hp)(a:Addr)(y v:V)(H':Hp):Prop :=
 (∃ kvs k,H a=some (.dK kvs)/\y=kV k/\kvs.length<sizeLine/\H'=upd H a (.dK (putK kvs k v))) \/
 ∃ kvs k b,H a=some (.dT kvs)/\y=.ref b/\H b=some (.tup (k.map kV))/\kvs.length<sizeLine/\H'=upd H a (.dT (putK kvs k v))
theorem DGet.k{H:Hp}{a:Addr}{kvs:List (Key×V)}{k:Key}(e:H a=some (.dK kvs)):DGet H a (kV k) (valV kvs k):=.inl ⟨kvs,k,.inl e,rfl,rfl⟩
theorem DGet.t{H:Hp}{a b:Addr}{kvs:List (List Key×V)}{k:List Key}(e:H a=some (.dT kvs))(eb:H b=some (.tup (k.map kV))):DGet H a (.ref b) (valV kvs k):=.inr ⟨kvs,k,b,.inl e,rfl,eb,rfl⟩
theorem DPut.k{H:Hp}{a:Addr}{kvs:List (Key×V)}{k:Key}{v:V}(e:H a=some (.dK kvs))(hl:kvs.length<sizeLine):DPut H a (kV k) v (upd H a (.dK (putK kvs k v))):=.inl ⟨kvs,k,e,rfl,hl,rfl⟩
theorem DPut.t{H:Hp}{a b:Addr}{kvs:List (List Key×V)}{k:List Key}{v:V}(e:H a=some (.dT kvs))(eb:H b=some (.tup (k.map kV)))(hl:kvs.length<sizeLine) :
  DPut H a (.ref b) v (upd H a (.dT (putK kvs k v))):=.inr ⟨kvs,k,b,e,rfl,eb,hl,rfl⟩
section
variable{X:Cx}{pins:List (Addr×Obj)}{σ:St}{H:Hp}{s:Shared}{a:Addr}{y v:V}{u r:Value}{o:Option V}{A:Around}{E:Value->Shared->Prop}
theorem Inv.big(I:Inv X pins σ H s):sysModules<s.heap.objs.size:=by
 have h:mainGlobals<s.heap.objs.size:=(I.mod.glob.keeps I.bk).lt;exact Nat.lt_trans ⋯ h
theorem zdp(hu:A.units+1<cLine)(I:Inv X pins σ H s)(g:DGet H a y (some v))(ry:RelV y u)(h:∀ w' s',Inv X pins σ H s'->RelV v w'->Q w' s') :
  wpAny (model X.prog X.w) A (getItem (.ref a) u) Q E s:=by
 rcases g with ⟨kvs,k,e,ey,l⟩|⟨kvs,k,b,e,ey,eb,l⟩
 ·subst ey;obtain⟨z,hd,vs,rel,dd⟩:=Qh I.hok e;obtain⟨w',hw,rw'⟩:=RelO.some_of (v:=v) (o:=valueAt vs k) (by rw[l];exact rel.val k);exact wpAny_getItem_of (Kn ry) dd.mapOf hw (h w' _ (I.tok _) rw')
 ·subst ey;cases (show u=Value.ref b from ry);obtain⟨z,hd,xs,rel,dd⟩:=J2 I.hok e;obtain⟨w',hw,rw'⟩:=RelO.some_of (v:=v) (o:=(atKey xs k).map (·.2)) (by rw[l];exact rel.val k);obtain⟨p,hp,hp2⟩:=zwv.mp hw;refine wpAny_getItem_heap (tupleKind_room_in1 hu) (Ow I.hok eb) dd hp ?_;rw[hp2];exact h w' _ (I.tok _) rw'
theorem zl0(hu:A.units+1<cLine)(I:Inv X pins σ H s)(g:DGet H a y o)(ry:RelV y u)(h:∀ s',Inv X pins σ H s'->Q (.bool o.isSome) s') :
  wpAny (model X.prog X.w) A (compareOp .In u (.ref a)) Q E s:=by
 rcases g with ⟨kvs,k,e,ey,l⟩|⟨kvs,k,b,e,ey,eb,l⟩
 ·subst ey;obtain⟨z,hd,vs,rel,dd⟩:=Qh I.hok e;refine wpAny_in_of (Kn ry) hd dd.mapOf ?_;rw[<- (rel.val k).isSome_eq,<- l];exact h _ (I.tok _)
 ·subst ey;cases (show u=Value.ref b from ry);obtain⟨z,hd,xs,rel,dd⟩:=J2 I.hok e;refine wpAny_in_heap (tupleKind_room_in1 hu) (Ow I.hok eb) hd dd ?_;have q:=(rel.val k).isSome_eq;rw[Option.isSome_map] at q;rw[<- q,<- l];exact h _ (I.tok _)
theorem zhe(hu:A.units+1<cLine)(I:Inv X pins σ H s)(g:DGet H a y o)(ry:RelV y u)(h:∀ s',Inv X pins σ H s'->Q (.bool (!o.isSome)) s') :
  wpAny (model X.prog X.w) A (compareOp .NotIn u (.ref a)) Q E s:=by
 rcases g with ⟨kvs,k,e,ey,l⟩|⟨kvs,k,b,e,ey,eb,l⟩
 ·subst ey;obtain⟨z,hd,vs,rel,dd⟩:=Qh I.hok e;refine wpAny_notIn_of (Kn ry) hd dd.mapOf ?_;rw[<- (rel.val k).isSome_eq,<- l];exact h _ (I.tok _)
 ·subst ey;cases (show u=Value.ref b from ry);obtain⟨z,hd,xs,rel,dd⟩:=J2 I.hok e;refine wpAny_notIn_heap (tupleKind_room_in1 hu) (Ow I.hok eb) hd dd ?_;have q:=(rel.val k).isSome_eq;rw[Option.isSome_map] at q;rw[<- q,<- l];exact h _ (I.tok _)
theorem Pt(I:Inv X pins σ H s)(mu:Mut (H a))(hs:Heap.SameBut a s.heap h')(he:∃ q,h'.get? a=some q)(new:Y6 X.prog X.w (upd H a ob) h' a ob) :
  Inv X pins σ (upd H a ob) { s with heap:=h',toks:=t' } :=
 I.write (x:=a) (e:=a) mu (.inl rfl) (fun b q hb z=>(hs.2 b hb).trans z) he new
theorem J3(z:kvs.length<=sizeLine)(hd:(a == sysModules)=false)(rel:KV kvs vs)(dd:h'.DictOf (Yn P w) a vs) :
  Y6 P w H' h' a (.dK kvs):=⟨z,hd,vs,rel,dd⟩
theorem zdq(hu:A.units+1<cLine)(I:Inv X pins σ H s)(g:DPut H a y v H')(ry:RelV y u)(rv:RelV v r)(h:∀ s',Inv X pins σ H' s'->Q () s') :
  wpAny (model X.prog X.w) A (setItem (.ref a) u r) Q E s:=by
 rcases g with ⟨kvs,k,e,ey,l,eH⟩|⟨kvs,k,b,e,ey,eb,l,eH⟩
 ·subst ey eH;obtain⟨z,hd,vs,rel,dd⟩:=Bn I.hok e;have hz:vs.length<=sizeLine:=by rw[<- rel.length];exact z
  have hl:(putK kvs k v).length<=sizeLine:=by have:=Xx kvs k v;omega
  refine wpAny_setItem_pairs (hsz:=hz) (Kn ry) dd fun h' dd' hs=>h _ ?_;have he:∃ q,h'.get? a=some q:=let ⟨q,_,_,hq,_⟩:=dd';⟨q,hq⟩;exact Pt I (by rw[e];exact True.intro) hs he (J3 hl hd (rel.put k rv) dd')
 ·subst ey eH;cases (show u=Value.ref b from ry);obtain⟨z,hd,xs,rel,dd⟩:=zik I.hok e;have hz:xs.length<=sizeLine:=by rw[<- Paired.length rel];exact z
  have hl:(putK kvs k v).length<=sizeLine:=by have:=Xx kvs k v;omega
  refine wpAny_setItem_heap (hsz:=hz) (tupleKind_room_in1 hu) (Ow I.hok eb) dd fun h' dd' hs=>h _ ?_;obtain⟨q,es,ep,hq,h2,h3,h4,_,h5⟩:=dd';refine Pt I (by rw[e];exact True.intro) hs ⟨q,hq⟩ ⟨hl,hd,_,(rel.put k eb rv).keeps fun c ys ec=>?_,q,es,ep,hq,h2,h3,h4,h5⟩;rw[Zf (Yw ec e (fun z=>nomatch z))];exact ec
end
section
variable{X:Cx}{pins:List (Addr×Obj)}{σ:St}{H:Hp}{s:Shared}{a:Addr}{kvs:List (Key×V)}{k:Key}{u:Value}{A:Around}{E:Value->Shared->Prop}
theorem zkz(I:Inv X pins σ H s)(e:H a=some (.dK kvs))(ry:RelV (kV k) u)(l:valV kvs k=some v)(hm:more=[]\/∃ x,more=[x])
  (h:∀ w' s',Inv X pins σ (upd H a (.dK (X7 kvs k))) s'->RelV v w'->Q w' s'):wpAny (model X.prog X.w) A (call (.builtin "dict.pop") (.ref a :: u :: more)) Q E s:=by
 obtain⟨z,hd,vs,rel,dd⟩:=Bn I.hok e;obtain⟨w',hw,rw'⟩:=RelO.some_of (v:=v) (o:=valueAt vs k) (by rw[<- l];exact rel.val k);have hp:(keyPart u).isSome=true:=by
  cases k with
  | inl i=>obtain⟨t,q⟩:=(show ∃ t,u=Value.int i t from ry);subst q;rfl
  | inr x=>obtain⟨t,q⟩:=(show ∃ t,u=Value.str x t from ry);subst q;rfl
 have ha:argsOk "dict.pop" ⟨.ref a :: u :: more,[]⟩:=by
  rcases hm with q|⟨x,q⟩
  ·subst q;exact PySem.F.args_dict_pop_2 _ _
  ·subst q;exact PySem.F.args_dict_pop_3 _ _ _
 refine call_meetsIn PySem.F.slot_dict_pop dd.typeIs PySem.F.entry_dict_pop ha (meets_dict_pop_there (Yn X.prog X.w) a (Kn ry) more hm hp)
  ⟨vs,w',dd,by rw[<- rel.length];exact z,hw,fun h' dd' hs=>h w' _ ?_ rw'⟩
 have he:∃ q,h'.get? a=some q:=let ⟨q,_,_,hq,_⟩:=dd';⟨q,hq⟩;exact Pt I (by rw[e];exact True.intro) hs he (J3 (zvb (Bm kvs k) z) hd (rel.drop k) dd')
theorem zk0(I:Inv X pins σ H s)(e:Rd H a (.dK kvs))(h:∀ t s',Inv X pins σ H s'->Q (.int kvs.length t) s'):wpAny (model X.prog X.w) A (call (.builtin "len") [.ref a]) Q E s:=by
 obtain⟨z,hd,vs,rel,dd⟩:=Qh I.hok e;refine call_len_dict hd dd (by rw[<- rel.length];rw[sizeLine_eq] at z;omega) ?_;rw[<- rel.length];exact h _ _ (I.tok _)
end
def zjd(i:Expr):Prop:=∀ ov iv,subscripted i false ov iv=operate [ov,iv] (getItem ov iv)
theorem zhf{prog:Program}{w:World}{A:Around}{E:Value->Shared->Prop}{s:Shared}{env:Env}{value slice:Expr}{pos:Pos}{T id:String}{Q:Value->Shared->Prop}
  (hl:typeLookup (.type T) "__getitem__"=pure (some (.builtin id))) (hs:zjd slice)
  (h:wpAny (model prog w) A (eval value env) (fun o s₁=>wpAny (model prog w) A (eval slice env) (fun i s₂=>s₂.TypeIs o T/\wpAny (model prog w) A (getItem o i) Q E s₂) E s₁) E s) :
  wpAny (model prog w) A (eval (.Subscript value slice pos) env) Q E s:=by
 refine Subscript_ (wpAny_mono h (fun o s₁ h₁=>wpAny_mono h₁ (fun i s₂ h₂=>?_) fun _ _ x=>x) fun _ _ x=>x);obtain⟨hT,h₂⟩:=h₂;unfold subscriptTail;refine wpAny_bind ?_;rw[getitemInPython_of_ne hT.not_modules];refine wpAny_bind (wpAny_specialOf hT hl ?_);have fin:wpAny (model prog w) A (subscripted slice false o i) (fun r s₃=>wpAny (model prog w) A (letTemporaryGo value o r >>= fun _=>pure r) Q E s₃) E s₂:=by
  rw[hs o i];exact wpAny_operating (wpAny_mono h₂ (fun r s₃ h₃=>wpAny_bind (wpAny_letTemporaryGo (wpAny_pure h₃))) fun _ _ x=>x)
 first
  | exact wpAny_pure (wpAny_bind fin)
  | exact wpAny_bind (wpAny_pure (wpAny_bind fin))
  | exact wpAny_bind fin
theorem Bo(I:Inv X pins σ H s)(g:DGet H a y o):s.TypeIs (.ref a) "dict":=by
 rcases g with ⟨kvs,k,e,_,_⟩|⟨kvs,k,b,e,_,_,_⟩
 ·obtain⟨_,_,vs,_,dd⟩:=Qh I.hok e;exact dd.typeIs
 ·obtain⟨_,_,xs,_,dd⟩:=J2 I.hok e;exact dd.typeIs
inductive zje(Q:VK)(x:V)(y:V)(H2:Hp):Prop where
 | mk(a)(v)(_:x=.ref a)(_:DGet H2 a y (some v))(_:Q v H2)
def zil(td ty:TE):TE:=fun σ H Q=>td σ H fun x H1=>ty σ H1 fun y H2=>zje Q x y H2
inductive zk1(Q:VK)(y:V)(x:V)(H2:Hp):Prop where
 | mk(a)(o)(_:x=.ref a)(_:DGet H2 a y o)(_:Q (.bl o.isSome) H2)
def zl1(ty td:TE):TE:=fun σ H Q=>ty σ H fun y H1=>td σ H1 fun x H2=>zk1 Q y x H2
inductive zfi(Q:VK)(y:V)(x:V)(H2:Hp):Prop where
 | mk(a)(o)(_:x=.ref a)(_:DGet H2 a y o)(_:Q (.bl (!o.isSome)) H2)
def zhg(ty td:TE):TE:=fun σ H Q=>ty σ H fun y H1=>td σ H1 fun x H2=>zfi Q y x H2
inductive zjf(D:Oa)(σ:L2.St)(v:V)(x:V)(y:V)(H3:Hp):Prop where
 | mk(a)(H4)(_:x=.ref a)(_:DPut H3 a y v H4)(_:D.nx σ H4)
def zim(td ty tv:TE):TS:=fun D σ H=>tv σ H fun v H1=>td σ H1 fun x H2=>ty σ H2 fun y H3=>zjf D σ v x y H3
section
variable{X:Cx}{o i e value:Expr}{pos pos' tpos:Pos}{td ty tv:TE}
theorem zhh(hu:X.A.units+1<cLine)(ho:PE X o td)(hi:PE X i ty)(hs:zjd i):PE X (.Subscript o i pos) (zil td ty):=by
 intro pins s σ H Q I h;refine zhf PySem.F.slot_dict_getitem.lookup hs (thn (ho pins s σ H _ I h) fun u s1 ⟨x,H1,I1,rx,q1⟩=>thn (hi pins s1 σ H1 _ I1 q1) fun iv s2 ⟨y,H2,I2,ry,a,v,ex,g,q2⟩=>?_);subst ex;obtain rfl:u=Value.ref a:=rx;exact⟨Bo I2 g,zdp hu I2 g ry fun w' s3 I3 rw'=>⟨v,H2,I3,rw',q2⟩⟩
theorem M6(hu:X.A.units+1<cLine)(hi:PE X i ty)(ho:PE X o td):PC X .In i o (zl1 ty td):=by
 intro pins s σ H Q I h;refine thn (hi pins s σ H _ I h) fun iv s1 ⟨y,H1,I1,ry,q1⟩=>thn (ho pins s1 σ H1 _ I1 q1) fun u s2 ⟨x,H2,I2,rx,a,ov,ex,g,q2⟩=>?_;subst ex;obtain rfl:u=Value.ref a:=rx;exact zl0 hu I2 g ry fun s3 I3=>⟨.bl ov.isSome,H2,I3,rfl,q2⟩
theorem M7(hu:X.A.units+1<cLine)(hi:PE X i ty)(ho:PE X o td):PC X .NotIn i o (zhg ty td):=by
 intro pins s σ H Q I h;refine thn (hi pins s σ H _ I h) fun iv s1 ⟨y,H1,I1,ry,q1⟩=>thn (ho pins s1 σ H1 _ I1 q1) fun u s2 ⟨x,H2,I2,rx,a,ov,ex,g,q2⟩=>?_;subst ex;obtain rfl:u=Value.ref a:=rx;exact zhe hu I2 g ry fun s3 I3=>⟨.bl (!ov.isSome),H2,I3,rfl,q2⟩
theorem Yq(hu:X.A.units+1<cLine)(ho:PE X o td)(hi:PE X i ty)(hv:PE X value tv)(hs:swapsWith value (some (.Subscript o i pos')) pos.line X.env=pure false) :
  PS X (.Assign [.Subscript o i pos'] value pos) (zim td ty tv):=by
 intro pins s σ H D I h;refine wpAny_Assign_Subscript (thn (hv pins s σ H _ I h) fun r s1 ⟨v,H1,I1,rv,q1⟩=>thn (ho pins s1 σ H1 _ I1 q1) fun u s2 ⟨x,H2,I2,rx,q2⟩=>thn (hi pins s2 σ H2 _ I2 q2) fun iv s3 ⟨y,H3,I3,ry,a,H4,ex,g,q3⟩=>?_) hs;subst ex;obtain rfl:u=Value.ref a:=rx;exact zdq hu I3 g ry rv fun s4 I4=>⟨σ,H4,I4,q3⟩
end
theorem Bp(h:Heap)(hb:sysModules<h.objs.size):Y6 P w H (h.push { cls:=.type "dict",data:=.dict #[] }) h.objs.size (.dK []) :=
 ⟨zvo _,zvl.mpr (Ne.symm (zvq hb)),[],.nil,Heap.DictOf.new h⟩
theorem zfj(h:Heap)(hb:sysModules<h.objs.size):Y6 P w H (h.push { cls:=.type "dict",data:=.dict #[] }) h.objs.size (.dT []) :=
 ⟨zvo _,zvl.mpr (Ne.symm (zvq hb)),[],.nil,_,#[],0,Heap.get?_push_size _ rfl,⟨rfl,rfl,rfl⟩,rfl,rfl,zwp⟩
def zjg:TE:=fun _ H Q=>∀ p,H p=none->Q (.ref p) (upd H p (.dK []))
def zjh:TE:=fun _ H Q=>∀ p,H p=none->Q (.ref p) (upd H p (.dT []))
section
variable{X:Cx}{pos:Pos}
theorem Q4:PE X (.Dict [] [] pos) zjg:=fun pins s σ H Q I h =>
 wpAny_Dict_empty ⟨.ref s.heap.objs.size,_,I.laid (a:=s.heap.objs.size) (o:=.dK []) (t':=s.toks) (fun _ _ q=>Heap.get?_push_of_some _ q) (zu7 _) (Bp s.heap I.big),rfl,h _ (I.hok.fresh (zu7 _))⟩
theorem J4:PE X (.Dict [] [] pos) zjh:=fun pins s σ H Q I h =>
 wpAny_Dict_empty ⟨.ref s.heap.objs.size,_,I.laid (a:=s.heap.objs.size) (o:=.dT []) (t':=s.toks) (fun _ _ q=>Heap.get?_push_of_some _ q) (zu7 _) (zfj s.heap I.big),rfl,h _ (I.hok.fresh (zu7 _))⟩
end
def zaz:List (TE×TE)->St->Hp->(List (V×V)->Hp->Prop)->Prop
 | [],_,H,Q=>Q [] H
 | (tk,tv) :: r,σ,H,Q=>tk σ H fun x H1=>tv σ H1 fun y H2=>zaz r σ H2 fun ps H3=>Q ((x,y) :: ps) H3
abbrev VV:List (V×V)->List (Value×Value)->Prop:=Paired fun p q=>RelV p.1 q.1/\RelV p.2 q.2
def PPs(X:Cx)(pos:Pos)(keys:List (Option Expr))(values:List Expr)(trs:List (TE×TE)):Prop :=
 ∀ (pins:List (Addr×Obj)) (s:Shared) (σ:St) (H:Hp) (Q:List (V×V)->Hp->Prop),Inv X pins σ H s->zaz trs σ H Q ->
   wpAny (model X.prog X.w) X.A (evalPairs (pairTrees keys values X.env pos)) (fun vs s'=>∃ ps H',Inv X pins σ H' s'/\VV ps vs/\Q ps H') X.xe s
theorem zcc:PPs X pos [] [] []:=fun pins s σ H Q I h=>pairTrees_nil_walk ⟨[],H,I,.nil,h⟩
theorem Te(hk:PE X k tk)(hv:PE X v tv)(hr:PPs X pos ks vs trs) :
  PPs X pos (some k :: ks) (v :: vs) ((tk,tv) :: trs):=fun pins s σ H Q I h =>
 pairTrees_cons_walk (thn (hk pins s σ H _ I h) fun u s1 ⟨x,H1,I1,rx,q1⟩=>thn (hv pins s1 σ H1 _ I1 q1) fun w2 s2 ⟨y,H2,I2,ry,q2⟩ =>
  thn (hr pins s2 σ H2 _ I2 q2) fun ws s3 ⟨ps,H3,I3,rel,q3⟩=>⟨(x,y) :: ps,H3,I3,.cons ⟨rx,ry⟩ rel,q3⟩)
def Ua(kvs more:List (Key×V)):List (Key×V):=more.foldl (fun acc kv=>putK acc kv.1 kv.2) kvs
theorem KV.merge:∀ {more:List (Key×V)} {rs:List (Key×Value)} {kvs:List (Key×V)} {vs:List (Key×Value)},KV more rs->KV kvs vs->KV (Ua kvs more) (merged vs rs):=by
 intro more rs kvs vs r;unfold KV at r
 induction r generalizing kvs vs with
 | nil=>intro q;exact q
 | @cons p q ps qs h t ih =>
   intro r0;have e:KV (putK kvs p.1 p.2) (stored vs q.1 q.2):=by
    have:=r0.put p.1 h.2;rw[<- h.1];exact this
   exact ih e
theorem So:∀ (more kvs:List (Key×V)),(Ua kvs more).length<=kvs.length+more.length
 | [],kvs=>by show kvs.length<=kvs.length+0;omega
 | p :: r,kvs=>by
   have h1:=So r (putK kvs p.1 p.2);have h2:=Xx kvs p.1 p.2;show (Ua (putK kvs p.1 p.2) r).length<=_;rw[zvi];omega
theorem J5:∀ {kvs:List (Key×V)} {ws:List (Value×Value)},VV (kvs.map fun kv=>(kV kv.1,kv.2)) ws->∃ rs,Carries (Yn P w) ws rs/\KV kvs rs
 | [],_,r=>by rw[List.map_nil] at r;cases r;exact⟨[],True.intro,.nil⟩
 | p :: kvs,_,r=>by
   rw[zu9] at r;cases r with
   | @cons a b as bs h t =>
     obtain⟨rs,c,q⟩:=J5 (P:=P) (w:=w) t;obtain⟨b1,b2⟩:=b;exact⟨(p.1,b2) :: rs,⟨Kn h.1,rfl,c⟩,.cons ⟨rfl,h.2⟩ q⟩
def zk2(trs:List (TE×TE)):TE:=fun σ H Q=>∀ p,H p=none->zaz trs σ (upd H p (.dK [])) fun ps H2=>H2 p=some (.dK [])/\∃ kvs:List (Key×V),ps=kvs.map (fun kv=>(kV kv.1,kv.2))/\kvs.length<=15/\Q (.ref p) (upd H2 p (.dK (Ua [] kvs)))
theorem zcd(h:PPs X pos keys values trs)(hall:keys.all (·.isSome)=true)(hl:keys.length=values.length)(h0:keys≠[])
  (h15:keys.length<=15):PE X (.Dict keys values pos) (zk2 trs):=by
 intro pins s σ H Q I q;have hn:=I.hok.fresh (zu7 s.heap.objs.size);have I1:=I.laid (a:=s.heap.objs.size) (o:=.dK []) (h':=s.heap.push { cls:=.type "dict",data:=.dict #[] }) (t':=s.toks) (fun _ _ q=>Heap.get?_push_of_some _ q) (zu7 _) (Bp s.heap I.big);refine wpAny_Dict_walk (knd:=Yn X.prog X.w) hall hl h0 h15 (thn (h pins _ σ _ _ I1 (q _ hn)) fun ws s2 ⟨ps,H2,I2,rel,e,kvs,ep,lk,q2⟩=>?_);subst ep;obtain⟨rs,c,rk⟩:=J5 (P:=X.prog) (w:=X.w) rel;obtain⟨z,hd,vs0,r0,dd⟩:=Bn I2.hok e;cases r0;refine⟨rs,c,dd,fun h' dd' hs=>⟨.ref s.heap.objs.size,_,?_,rfl,q2⟩⟩;have hz:(Ua [] kvs).length<=sizeLine:=by
  have h1:=So kvs [];rw[List.length_nil] at h1;rw[sizeLine_eq];omega
 have he:∃ q,h'.get? s.heap.objs.size=some q:=let ⟨q,_,_,hq,_⟩:=dd';⟨q,hq⟩;exact Pt I2 (by rw[e];exact True.intro) hs he (J3 hz hd (rk.merge .nil) dd')
structure M1(X:Cx)(o:Expr)(m:Str)(apos:Pos)(e:Expr)(cpos:Pos):Prop where
 base:attributeBase o m X.env (eval o X.env)=eval o X.env
 few:((backTo cpos (starEach [e] X.env)).all (fun x=>!x.1)&&(backToKw cpos (keywordEach [] X.env)).all (fun x=>x.1.isSome)
  && decide (([e]:List Expr).length+([]:List Keyword).length+(if ([]:List Keyword).isEmpty then 0 else 1)<30))=true
 line:(apos.endLine == cpos.line)=true
 trees:backTo cpos (starEach [e] X.env)=[(false,eval e X.env)]
structure M2(X:Cx)(o:Expr)(m:Str)(apos:Pos)(e f:Expr)(cpos:Pos):Prop where
 base:attributeBase o m X.env (eval o X.env)=eval o X.env
 few:((backTo cpos (starEach [e,f] X.env)).all (fun x=>!x.1)&&(backToKw cpos (keywordEach [] X.env)).all (fun x=>x.1.isSome)
  && decide (([e,f]:List Expr).length+([]:List Keyword).length+(if ([]:List Keyword).isEmpty then 0 else 1)<30))=true
 line:(apos.endLine == cpos.line)=true
 trees:backTo cpos (starEach [e,f] X.env)=[(false,eval e X.env),(false,eval f X.env)]
def IsD(H:Hp)(a:Addr):Prop:=(∃ kvs,Rd H a (.dK kvs))\/∃ kvs,Rd H a (.dT kvs)
theorem za0(I:Inv X pins σ H s)(d:IsD H a) :
  s.TypeIs (.ref a) "dict"/\(∀ b,Value.ref a=.ref b->∃ ob,s.heap.get? b=some ob/\ob.dict=none)/\(a == sysModules)=false:=by
 rcases d with ⟨kvs,e⟩|⟨kvs,e⟩
 ·obtain⟨_,hd,vs,_,dd⟩:=Qh I.hok e;refine⟨dd.typeIs,fun b q=>?_,hd⟩;cases q;obtain⟨ob,_,_,h1,h2,_⟩:=dd;exact⟨ob,h1,h2.2.1⟩
 ·obtain⟨_,hd,xs,_,dd⟩:=J2 I.hok e;refine⟨dd.typeIs,fun b q=>?_,hd⟩;cases q;obtain⟨ob,_,_,h1,h2,_⟩:=dd;exact⟨ob,h1,h2.2.1⟩
section
variable{X:Cx}{pins:List (Addr×Obj)}{σ:St}{H:Hp}{s:Shared}{a:Addr}{y d:V}{u r:Value}{o:Option V}{A:Around}{E:Value->Shared->Prop}
theorem zji(hu:A.units+1<cLine)(I:Inv X pins σ H s)(g:DGet H a y o)(ry:RelV y u)(rd:RelV d r)(h:∀ w' s',Inv X pins σ H s'->RelV (o.getD d) w'->Q w' s') :
  wpAny (model X.prog X.w) A (call (.builtin "dict.get") [.ref a,u,r]) Q E s:=by
 rcases g with ⟨kvs,k,e,ey,l⟩|⟨kvs,k,b,e,ey,eb,l⟩
 ·subst ey;obtain⟨z,hd,vs,rel,dd⟩:=Qh I.hok e;refine call_meetsIn PySem.F.slot_dict_get dd.typeIs PySem.F.entry_dict_get (PySem.F.args_dict_get_3 _ _ _) (meets_dict_get_default (Yn X.prog X.w) a (Kn ry) hd r) ⟨_,dd.mapOf,h _ _ (I.tok _) ?_⟩;rw[l];exact(rel.val k).getD rd
 ·subst ey;cases (show u=Value.ref b from ry);obtain⟨z,hd,xs,rel,dd⟩:=J2 I.hok e;refine call_meetsIn PySem.F.slot_dict_get dd.typeIs PySem.F.entry_dict_get (PySem.F.args_dict_get_3 _ _ _) (meetsH_dict_get_default (tupleKind (Yn X.prog X.w)) a b hd r) ⟨tupleKind_room_in1 hu,k,xs,Ow I.hok eb,dd,h _ _ (I.tok _) ?_⟩;rw[l];exact(rel.val k).getD rd
end
inductive zhi(ty:TE)(tx:TE)(σ:L2.St)(Q:VK)(x:V)(H1:Hp):Prop where
 | mk(a)(_:x=.ref a)(_:IsD H1 a)(_:ty σ H1 fun y H2=>tx σ H2 fun z H3=>∃ o,DGet H3 a y o/\Q (o.getD z) H3)
def zjj(td ty tx:TE):TE:=fun σ H Q=>td σ H fun x H1=>zhi ty tx σ Q x H1
inductive zhj(ty:TE)(σ:L2.St)(Q:VK)(x:V)(H1:Hp):Prop where
 | mk(a)(_:x=.ref a)(_:IsD H1 a)(_:ty σ H1 fun y H2=>∃ kvs k v,H2 a=some (.dK kvs)/\y=kV k/\valV kvs k=some v/\Q v (upd H2 a (.dK (X7 kvs k))))
def zjk(td ty:TE):TE:=fun σ H Q=>td σ H fun x H1=>zhj ty σ Q x H1
section
variable{X:Cx}{o e f:Expr}{apos cpos:Pos}{td ty tx:TE}
theorem zfk(hu:X.A.units+1<cLine)(ho:PE X o td)(he:PE X e ty)(hf:PE X f tx)(m:M2 X o "get" apos e f cpos):PE X (.Call (.Attribute o "get" apos) [e,f] [] cpos) (zjj td ty tx):=by
 intro pins s σ H Q I h;refine wpAny_Call_method m.base m.few m.line PySem.F.plainAttrs_dict PySem.F.slot_dict_get PySem.F.type_dict_get (thn (ho pins s σ H _ I h) fun u s1 ⟨x,H1,I1,rx,a,ex,d,q1⟩=>?_);subst ex;obtain rfl:u=Value.ref a:=rx;obtain⟨t1,t2,_⟩:=za0 I1 d;refine⟨t1,t2,?_⟩;rw[m.trees];refine Calls.callWith_builtin rfl (Calls.evalArgs_plain (Calls.spliced_cons (thn (he pins s1 σ H1 _ I1 q1) fun iv s2 ⟨y,H2,I2,ry,q2⟩ =>
  Calls.spliced_cons (thn (hf pins s2 σ H2 _ I2 q2) fun fv s3 ⟨z,H3,I3,rz,ov,g,q3⟩=>Calls.spliced_nil ?_))))
 exact zji hu I3 g ry rz fun w' s4 I4 rw'=>⟨_,H3,I4,rw',q3⟩
theorem zfl(ho:PE X o td)(he:PE X e ty)(m:M1 X o "pop" apos e cpos):PE X (.Call (.Attribute o "pop" apos) [e] [] cpos) (zjk td ty):=by
 intro pins s σ H Q I h;refine wpAny_Call_method m.base m.few m.line PySem.F.plainAttrs_dict PySem.F.slot_dict_pop PySem.F.type_dict_pop (thn (ho pins s σ H _ I h) fun u s1 ⟨x,H1,I1,rx,a,ex,d,q1⟩=>?_);subst ex;obtain rfl:u=Value.ref a:=rx;obtain⟨t1,t2,_⟩:=za0 I1 d;refine⟨t1,t2,?_⟩;rw[m.trees];refine Calls.callWith_builtin rfl (Calls.evalArgs_plain (Calls.spliced_cons (thn (he pins s1 σ H1 _ I1 q1) fun iv s2 ⟨y,H2,I2,ry,kvs,k,v,ea,ey,l,q2⟩=>Calls.spliced_nil ?_)));subst ey;exact zkz I2 ea ry l (.inl rfl) fun w' s3 I3 rw'=>⟨v,_,I3,rw',q2⟩
end
section
variable{X:Cx}{pins:List (Addr×Obj)}{σ:St}{H:Hp}{s:Shared}{a:Addr}{kvs:List (Key×V)}{A:Around}{E:Value->Shared->Prop}
theorem zfm(I:Inv X pins σ H s)(e:Rd H a (.dK kvs))(h:∀ p s',H p=none->Inv X pins σ (upd H p (.dK kvs)) s'->Q (.ref p) s'):wpAny (model X.prog X.w) A (call (.type "dict") [.ref a]) Q E s:=by
 obtain⟨z,hd,vs,rel,dd⟩:=Qh I.hok e;refine kt_call_dict hd dd (by rw[<- rel.length];exact z) fun h' dd' hs=>?_;refine h _ _ (I.hok.fresh (zu7 _)) (I.laid (a:=s.heap.objs.size) (o:=.dK kvs) (t':=s.toks) (fun b q hq=>?_) (zu7 _) (J3 z (zvl.mpr (Ne.symm (zvq I.big))) rel dd'));exact(hs.2 b (zvq (Heap.lt_size hq))).trans (Heap.get?_push_of_some _ hq)
end
end L2
namespace HT
open PySem PyProof.Rows
section
open PySem.SeqAt
open PySem.AutoSeq1 (wpAny_loadPart')
open PySem.MeetsSeq PySem.MeetsSeq2 PySem.MeetsSeq3
end
section
variable{prog:Program}{w:World}{A:Around}{E:Value->Shared->Prop}{s:Shared}
theorem cat_tup(ht:IsTup s.heap t vs.toArray)(hb:IsTup s.heap b ws.toArray)(hv:vs≠[])
  (h1:ws=[]->Q (.ref t) s) (h2:ws≠[]->Q (.ref s.heap.objs.size) { s with heap:=s.heap.push { cls:=.type "tuple",data:=.seq (vs++ws).toArray } })
  (hsz:vs.length+ws.length<=sizeLine):wpAny (model prog w) A (binaryOp .Add (.ref t) (.ref b)) Q E s:=by
 obtain⟨⟨cls,dd,data,sl⟩,ho,hc,n,hd⟩:=id ht;obtain⟨⟨cls2,dd2,data2,sl2⟩,ho2,hc2,n2,hd2⟩:=id hb;simp only at hc hd hc2 hd2;subst hc hd hc2 hd2;have e:vs.toArray++ws.toArray=(vs++ws).toArray:=by simp
 by_cases hw:ws=[]
 ·exact concat_meets ⟨_,ho,rfl⟩ ⟨_,ho2,rfl⟩ noFill_tuple_add seq_tuple_add PySem.F.slot_tuple_add PySem.F.entry_tuple_add (PySem.F.args_tuple_add_2 _ _)
   (tuple_addW1 t b vs.toArray ws.toArray n n2 dd dd2 sl sl2 (by simpa using hv) (by simp[hw])) ⟨ho,ho2,h1 hw⟩
 ·refine concat_meets ⟨_,ho,rfl⟩ ⟨_,ho2,rfl⟩ noFill_tuple_add seq_tuple_add PySem.F.slot_tuple_add PySem.F.entry_tuple_add (PySem.F.args_tuple_add_2 _ _)
   (tuple_addW2 t b vs.toArray ws.toArray n n2 dd dd2 sl sl2 (by simpa using hv) (by simpa using hw) (by rw[zvc,zvc];exact hsz)) ⟨ho,ho2,?_⟩
  rw[e];exact h2 hw
def sIx(n d:Nat):Option Int->Nat
 | none=>d
 | some v=>if v<0 then (v+(n:Int)).toNat else min v.toNat n
theorem sIx_none(n d:Nat):sIx n d none=d:=rfl
theorem sIx_nat(n d k:Nat):sIx n d (some (k:Int))=min k n:=by
 show (if (k:Int)<0 then ((k:Int)+(n:Int)).toNat else min (k:Int).toNat n)=min k n;rw[if_neg ⋯,zve]
end
end HT
namespace L2
open PySem PySem.Spec PyProof.Rows
abbrev TO:=St->Hp->(Option Int->Hp->Prop)->Prop
def PO(X:Cx)(e:Option Expr)(t:TO):Prop :=
 ∀ (pins:List (Addr×Obj)) (s:Shared) (σ:St) (H:Hp) (Q:Option Int->Hp->Prop),Inv X pins σ H s->t σ H Q ->
   wpAny (model X.prog X.w) X.A (evalPart e X.env) (fun u s'=>∃ o H',Inv X pins σ H' s'/\IsPart u o/\Q o H') X.xe s
def zhk:TO:=fun _ H Q=>Q none H
inductive zjl(Q:Option Int->Hp->Prop)(x:V)(H1:Hp):Prop where
 | mk(i)(_:x=.int i)(_:Q (some i) H1)
def zk3(t:TE):TO:=fun σ H Q=>t σ H fun x H1=>zjl Q x H1
section
variable{X:Cx}{e:Expr}{te:TE}{lo hi:Option Expr}{tl th:TO}{pos p2:Pos}
theorem zce:PO X none zhk:=by
 intro pins s σ H Q I h;rw[evalPart_none];exact wpAny_pure ⟨none,H,I,.none,h⟩
theorem zcf(h:PE X e te):PO X (some e) (zk3 te):=by
 intro pins s σ H Q I hw;rw[evalPart_some];refine thn (h pins s σ H _ I hw) fun u s1 ⟨x,H1,I1,r1,q1⟩=>?_;obtain⟨i,rfl,q⟩:=q1;obtain⟨t,rfl⟩:=r1;exact⟨some i,H1,I1,.int i t,q⟩
def SlR(X:Cx)(r:V->Option Int->Option Int->Hp->VK->Prop):Prop :=
 ∀ (pins:List (Addr×Obj)) (s:Shared) (σ:St) (H:Hp) (x:V) (v vl vu:Value) (lo hi:Option Int) (sl:Addr) (Q:VK),Inv X pins σ H s->RelV x v->s.heap.IsSliceOf sl vl vu .none->IsPart vl lo->IsPart vu hi->r x lo hi H Q ->
   ∃ T id,typeLookup (.type T) "__getitem__"=pure (some (.builtin id))/\s.TypeIs v T/\wpAny (model X.prog X.w) X.A (getItem v (.ref sl)) (EP X pins σ Q) X.xe s
def tSl(r:V->Option Int->Option Int->Hp->VK->Prop)(te:TE)(tl th:TO):TE:=fun σ H Q=>te σ H fun x H1=>tl σ H1 fun l H2=>th σ H2 fun u H3=>r x l u H3 Q
theorem Bq(hr:SlR X r)(he:PE X e te)(hl:PO X lo tl)(hu:PO X hi th):PE X (.Subscript e (.Slice lo hi none p2) pos) (tSl r te tl th):=by
 intro pins s σ H Q I h;refine Subscript_ (thn (he pins s σ H _ I h) fun v s1 ⟨x,H1,I1,r1,q1⟩=>?_);refine wpAny_Slice (thn (hl pins s1 σ H1 _ I1 q1) fun vl s2 ⟨l,H2,I2,pl,q2⟩=>thn (hu pins s2 σ H2 _ I2 q2) fun vu s3 ⟨u,H3,I3,pu,q3⟩=>?_);rw[evalPart_none];refine wpAny_pure ?_;have I4:Inv X pins σ H3 { s3 with heap:=s3.heap.push { cls:=.type "slice",data:=.fields #[vl,vu,.none] } }:=I3.kept (t':=s3.toks) fun b ob q=>Heap.get?_push_of_some _ q;obtain⟨T,id,hT,ht,hg⟩:=hr pins { s3 with heap:=s3.heap.push { cls:=.type "slice",data:=.fields #[vl,vu,.none] } } σ H3 x v vl vu l u s3.heap.objs.size Q I4 r1 (Heap.IsSliceOf.new ..) pl pu q3;show wpAny (model X.prog X.w) X.A (subscriptTail e (.Slice lo hi none p2) v (.ref s3.heap.objs.size)) (EP X pins σ Q) X.xe { s3 with heap:=s3.heap.push { cls:=.type "slice",data:=.fields #[vl,vu,.none] } };exact tail_any (ops:=[.ref s3.heap.objs.size,v]) ht hT hg (by with_unfolding_all rfl)
def G9(xs:List V)(lo hi:Option Int):List V:=(xs.drop (HT.sIx xs.length 0 lo)).take (HT.sIx xs.length xs.length hi-HT.sIx xs.length 0 lo)
theorem Br(xs:List V)(lo hi:Option Int):(G9 xs lo hi).length<=xs.length:=by
 unfold G9;rw[zw2,List.length_drop];omega
inductive zin(K:Frag)(x:V)(y:V)(H:Hp)(Q:VK):Prop where
 | mk(a)(b)(xs)(ys)(_:x=.ref a)(_:y=.ref b)(_:SqT K H a xs)(_:SqT K H b ys)(_:xs≠[])(_:xs.length+ys.length<=sizeLine)(_:(ys=[]->Q (.ref a) H))(_:(ys≠[]->∀ p,H p=none->Q (.ref p) (upd H p (.tup (xs++ys)))))
theorem Vals.nil_iff(r:Vals xs us):us=[]↔xs=[]:=by
 cases r with
 | nil=>simp
 | cons _ _=>simp
theorem zhl:OpR X (binaryOp .Add) (zin X.K):=by
 intro pins s σ H x y v u Q I rx ry h;obtain⟨a,b,xs,ys,rfl,rfl,ha,hb,hx,hz,q1,q2⟩:=h;cases rx;cases ry;obtain⟨its,r1,p1,_⟩:=I.tuple ha;obtain⟨its2,r2,p2,_⟩:=I.tuple hb;refine HT.cat_tup p1 p2 (fun z=>hx (r1.nil_iff.mp z)) (fun z=>⟨.ref a,H,I,rfl,q1 (r2.nil_iff.mp z)⟩) (fun z=>?_) (by rw[<- r1.length,<- r2.length];exact hz);refine⟨.ref s.heap.objs.size,_,I.laid (t':=s.toks) (o:=.tup (xs++ys)) (fun b ob q=>Heap.get?_push_of_some _ q) (zu7 _) ?_,rfl,q2 (fun w=>z (r2.nil_iff.mpr w)) _ (I.hok.fresh (zu7 _))⟩;exact⟨by rw[zuz];exact hz,_,r1.append r2,IsTup.new _ _⟩
end
def ixN(n:Nat)(i:Int):Option Nat:=if 0<=i then (if i<n then some i.toNat else none) else if -(n:Int)<=i then some (i+n).toNat else none
def atI{α:Type}(xs:List α)(i:Int):Option α:=(ixN xs.length i).bind fun j=>xs[j]?
theorem zcg(h:ixN n i=some j):seqIndex? i n=some j/\j<n/\-(n:Int)<=i/\i<n:=by
 unfold ixN at h;by_cases h0:0<=i
 ·rw[if_pos h0] at h;by_cases h1:i<n
  ·rw[if_pos h1] at h;have e:i.toNat=j:=Option.some.inj h;exact⟨by rw[seqIndex_of h0 h1,e],by omega,by omega,h1⟩
  ·rw[if_neg h1] at h;cases h
 ·rw[if_neg h0] at h;by_cases h1:-(n:Int)<=i
  ·rw[if_pos h1] at h;have e:(i+n).toNat=j:=Option.some.inj h;exact⟨by rw[seqIndex_neg ⋯ h1,e],by omega,h1,by omega⟩
  ·rw[if_neg h1] at h;cases h
theorem zch(h:atI xs i=some v):∃ j,seqIndex? i xs.length=some j/\xs[j]?=some v/\j<xs.length/\-(xs.length:Int)<=i/\i<xs.length:=by
 unfold atI at h;cases e:ixN xs.length i with
 | none=>rw[e] at h;cases h
 | some j =>
   rw[e] at h;obtain⟨h1,h2,h3,h4⟩:=zcg e;exact⟨j,h1,h,h2,h3,h4⟩
theorem Z7{α:Type}{xs:List α}{j:Nat}{v:α}(h:xs[j]?=some v):atI xs (j:Int)=some v:=by
 have hj:j<xs.length:=(zux.mp h).1;have e:ixN xs.length (j:Int)=some j:=by
  unfold ixN;rw[if_pos ⋯,if_pos ⋯];simp
 unfold atI;rw[e];exact h
theorem atI_last(xs:List α)(v:α):atI (xs++[v]) (-1)=some v:=by
 have hl:(xs++[v]).length=xs.length+1:=by simp
 have e:ixN (xs++[v]).length (-1)=some xs.length:=by
  unfold ixN;rw[hl,if_neg ⋯,if_pos ⋯]
  congr 1
  omega
 unfold atI;rw[e];show (xs++[v])[xs.length]?=some v;simp
def zci(b:Expr):Prop:=∀ o i,subscripted b false o i=operate [o,i] (getItem o i)
def IxR(X:Cx)(r:R2):Prop :=
 ∀ (value slice:Expr) (pins:List (Addr×Obj)) (s:Shared) (σ:St) (H:Hp) (x y:V) (v u:Value) (Q:VK),Inv X pins σ H s->RelV x v->RelV y u->r x y H Q ->
   subscripted slice false v u=operate [v,u] (getItem v u)->wpAny (model X.prog X.w) X.A (subscriptTail value slice v u) (EP X pins σ Q) X.xe s
def MtR(X:Cx)(id:String)(r:V->List V->Hp->VK->Prop):Prop :=
 ∀ (pins:List (Addr×Obj)) (s:Shared) (σ:St) (H:Hp) (x:V) (xs:List V) (v:Value) (us:List Value) (Q:VK),Inv X pins σ H s->RelV x v->Vals xs us->r x xs H Q ->
   wpAny (model X.prog X.w) X.A (call (.builtin id) (v :: us)) (EP X pins σ Q) X.xe s
section
variable{X:Cx}{a b:Expr}{ta tb:TE}{pos:Pos}
theorem zk4(hr:IxR X r)(ha:PE X a ta)(hb:PE X b tb)(hs:zci b):PE X (.Subscript a b pos) (tOp r ta tb):=by
 intro pins s σ H Q I h;exact Subscript_ (binT ha hb I h fun v u s2 x y H2 I2 rx ry q=>hr a b pins s2 σ H2 x y v u Q I2 rx ry q (hs _ _))
inductive Dy(K:Frag)(x:V)(y:V)(H:Hp)(Q:VK):Prop where
 | mk(p)(xs)(i)(v)(_:x=.ref p)(_:y=.int i)(_:SqL K H p xs)(_:atI xs i=some v)(_:Q v H)
inductive zdr(K:Frag)(x:V)(y:V)(H:Hp)(Q:VK):Prop where
 | mk(p)(xs)(i)(v)(_:x=.ref p)(_:y=.int i)(_:SqT K H p xs)(_:atI xs i=some v)(_:Q v H)
theorem zhm:IxR X (Dy X.K):=by
 intro value slice pins s σ H x y v u Q I rx ry h hs;obtain⟨p,xs,i,z,rfl,rfl,hq,he,q⟩:=h;cases rx;obtain⟨t,rfl⟩:=ry;obtain⟨its,r,pl,hz⟩:=I.list hq;obtain⟨j,h1,h2,h3,h4,h5⟩:=zch he;obtain⟨w,ew,rw'⟩:=r.get h2;have hl:=r.length;have hn:=Ov;have fin:EP X pins σ Q w s:=⟨z,H,I,rw',q⟩;by_cases h0:0<=i
 ·have hj:i.toNat=j:=by
   rw[seqIndex_of h0 h5] at h1;exact Option.some.inj h1
  exact item_listR pl.isList h0 ⋯ (by rw[hj];simpa using ew) fin hs
 ·have hj:(i+(its.toArray.size:Int)).toNat=j:=by
   rw[seqIndex_neg ⋯ h4] at h1;rw[zvc,<- hl];exact Option.some.inj h1
  exact subscriptTail_builtinR (x:=w) pl.isList.typeIs slot_list_getitem.lookup
   (wpAny_getItem_list_neg (Q:=fun r s'=>r=w/\EP X pins σ Q r s') pl.isList ⋯ (by rw[zvc]<;>omega) ⋯ (by rw[hj];simpa using ew) ⟨rfl,fin⟩) hs
theorem zjm:IxR X (zdr X.K):=by
 intro value slice pins s σ H x y v u Q I rx ry h hs;obtain⟨p,xs,i,z,rfl,rfl,hq,he,q⟩:=h;cases rx;obtain⟨t,rfl⟩:=ry;obtain⟨its,r,pl,hz⟩:=I.tuple hq;obtain⟨j,h1,h2,h3,h4,h5⟩:=zch he;obtain⟨w,ew,rw'⟩:=r.get h2;have hl:=r.length;have hn:=Ov;have fin:EP X pins σ Q w s:=⟨z,H,I,rw',q⟩;exact subscriptTail_builtinR (x:=w) pl.typeIs slot_tuple_getitem.lookup
  (getItem_tuple (j:=j) (Q:=fun r s'=>r=w/\EP X pins σ Q r s') pl ⋯ ⋯ (by rw[zvc,<- hl];exact h1) (by simpa using ew) ⟨rfl,fin⟩) hs
theorem za1(its:List Value)(n j:Nat)(u:Value):Obj.mapSeq (·.setIfInBounds j u) { cls:=.type "list",data:=.seq its.toArray n }={ cls:=.type "list",data:=.seq (its.set j u).toArray n }:=by
 simp[Obj.mapSeq]
theorem Inv.lst(I:Inv X pins σ H s)(h:H p=some (.lst xs)) :
  ∃ (its:List Value) (n:Nat),Vals xs its/\s.heap.get? p=some { cls:=.type "list",data:=.seq its.toArray n }/\xs.length<=sizeLine:=by
 obtain⟨z,its,n,r,e⟩:=I.hok p _ h;exact⟨its,n,r,e,z⟩
theorem Inv.lstUpd{pins:List (Addr×Obj)}{σ:St}{H:Hp}{s:Shared}{p:Addr}{xs ys:List V}{its its':List Value}{n n':Nat}{f:Obj->Obj}(I:Inv X pins σ H s)(h:H p=some (.lst xs))
  (ho:s.heap.get? p=some { cls:=.type "list",data:=.seq its.toArray n }) (hf:f { cls:=.type "list",data:=.seq its.toArray n }={ cls:=.type "list",data:=.seq its'.toArray n' }) (r:Vals ys its') (hz:ys.length<=sizeLine) (t:Nat) :
  Inv X pins σ (upd H p (.lst ys)) { s with heap:=s.heap.update p f,toks:=t }:=by
 have e:(s.heap.update p f).get? p=some { cls:=.type "list",data:=.seq its'.toArray n' }:=by
  rw[Heap.get?_update_self f ho (by rw[hf]<;>rfl),hf]
 refine I.write (x:=p) (e:=p) (by rw[h];trivial) (.inl rfl) (fun b u hb q=>(Heap.get?_update_other _ _ (Ne.symm hb)).trans q) ⟨_,e⟩ ?_;exact⟨hz,its',n',r,e⟩
def zk5:V->V->V->Hp->(Hp->Prop)->Prop:=fun o i v H Q=>∃ p xs k j,o=.ref p/\i=.int k/\H p=some (.lst xs)/\ixN xs.length k=some j/\Q (upd H p (.lst (xs.set j v)))
theorem J6:zkl X zk5:=by
 intro pins s σ H o i v ov iv u Q I ro ri rv h;obtain⟨p,xs,k,j,rfl,rfl,hp,hj,q⟩:=h;cases ro;obtain⟨t,rfl⟩:=ri;obtain⟨its,n,r,ho,hz⟩:=I.lst hp;obtain⟨h1,h2,h3,h4⟩:=zcg hj;have hl:=r.length;have hn:=Ov;have I':Inv X pins σ (upd H p (.lst (xs.set j v))) { s with heap:=s.heap.update p (Obj.mapSeq (·.setIfInBounds j u)) } :=
  I.lstUpd hp ho (za1 its n j u) (r.set rv j) (by rw[zwl];exact hz) s.toks
 by_cases h0:0<=k
 ·have hk:k.toNat=j:=by
   rw[seqIndex_of h0 h4] at h1;exact Option.some.inj h1
  exact PySem.W.ki_setAt ho h0 ⋯ (by rw[zvc,<- hl];exact h4) (by rw[hk];exact⟨_,I',q⟩)
 ·have hk:(k+(its.toArray.size:Int)).toNat=j:=by
   rw[seqIndex_neg ⋯ h3] at h1;rw[zvc,<- hl];exact Option.some.inj h1
  exact PySem.W.ki_setBack ho ⋯ (by rw[zvc,<- hl];exact h3) ⋯ (by rw[hk];exact⟨_,I',q⟩)
theorem Dz(lo hi:Option Int)(n:Nat):(sliceBounds lo hi none n).1=((HT.sIx n 0 lo:Nat):Int)/\(sliceBounds lo hi none n).2.1=((HT.sIx n n hi:Nat):Int)/\(sliceBounds lo hi none n).2.2=1:=by
 refine⟨?_,?_,rfl⟩
 ·cases lo with
  | none=>simp[sliceBounds,HT.sIx]
  | some i =>
    simp only[sliceBounds,HT.sIx,Option.getD_none,show (1:Int)>0 by decide,if_true];by_cases h:i<0
    ·simp only[h,if_true]<;>omega
    ·simp only[h,if_false]<;>omega
 ·cases hi with
  | none=>simp[sliceBounds,HT.sIx]
  | some i =>
    simp only[sliceBounds,HT.sIx,Option.getD_none,show (1:Int)>0 by decide,if_true];by_cases h:i<0
    ·simp only[h,if_true]<;>omega
    ·simp only[h,if_false]<;>omega
theorem Fb(its:List Value)(lo hi:Option Int):slicePick its.toArray lo hi none=((its.drop (HT.sIx its.length 0 lo)).take (HT.sIx its.length its.length hi-HT.sIx its.length 0 lo)).toArray:=by
 obtain⟨h1,h2,h3⟩:=Dz lo hi its.toArray.size;unfold slicePick;rw[h1,h2,h3];simp only[sliceRange_one,pick_run,zvc]<;>rfl
def zk6(K:Frag):V->Option Int->Option Int->Hp->VK->Prop:=fun x lo hi H Q=>∃ a xs,x=.ref a/\SqL K H a xs/\∀ p,H p=none->Q (.ref p) (upd H p (.lst (G9 xs lo hi)))
theorem zhn:SlR X (zk6 X.K):=by
 intro pins s σ H x v vl vu lo hi sl Q I rx hs pl pu h;obtain⟨a,xs,rfl,hx,q⟩:=h;cases rx;obtain⟨its,r,ht,hz⟩:=I.list hx;have hlen:=r.length;refine⟨"list",_,slot_list_getitem.lookup,ht.isList.typeIs,?_⟩;refine wpAny_getItem_list_slice ht.isList hs pl pu .none (by simp) ?_ (by rw[zvc]<;>omega);rw[Fb,<- hlen];refine⟨.ref s.heap.objs.size,_,I.laid (t':=s.toks) (o:=.lst (G9 xs lo hi)) (fun b ob q=>Heap.get?_push_of_some _ q) (zu7 _) ?_,rfl,q _ (I.hok.fresh (zu7 _))⟩;exact⟨zvb (Br xs lo hi) hz,_,0,(r.drop (HT.sIx xs.length 0 lo)).take (HT.sIx xs.length xs.length hi-HT.sIx xs.length 0 lo),Heap.get?_push_size _ rfl⟩
def Qi:V->Bool
 | .non=>true
 | .bl _=>true
 | .int _=>true
 | .str _=>true
 | _=>false
def eqV:V->V->Bool
 | .non,.non=>true
 | .bl a,.bl b=>a == b
 | .bl a,.int b=>(if a then 1 else 0) == b
 | .int a,.bl b=>a == (if b then 1 else 0)
 | .int a,.int b=>a == b
 | .str a,.str b=>a == b
 | _,_=>false
theorem zjn(ry:RelV y u)(rx:RelV x v)(fy:Qi y=true)(fx:Qi x=true):SeqAt.EqAt A s u v (eqV y x):=by
 cases y with
 | non =>
   cases ry;cases x with
   | non=>cases rx;exact SeqAt.EqAt.same _
   | bl b=>cases rx;exact SeqAt.EqAt.none_bool b
   | int b=>obtain⟨t,rfl⟩:=rx;exact SeqAt.EqAt.none_int b t
   | str b=>obtain⟨t,rfl⟩:=rx;exact SeqAt.EqAt.none_str b t
   | _=>exact absurd (show false=true from fx) zvh
 | bl a =>
   cases ry;cases x with
   | non=>cases rx;exact SeqAt.EqAt.bool_none a
   | bl b=>cases rx;exact SeqAt.EqAt.bool_bool a b
   | int b=>obtain⟨t,rfl⟩:=rx;exact SeqAt.EqAt.bool_int a b t
   | str b=>obtain⟨t,rfl⟩:=rx;exact SeqAt.EqAt.bool_str a b t
   | _=>exact absurd (show false=true from fx) zvh
 | int a =>
   obtain⟨t',rfl⟩:=ry;cases x with
   | non=>cases rx;exact SeqAt.EqAt.int_none a t'
   | bl b=>cases rx;exact SeqAt.EqAt.int_bool a t' b
   | int b=>obtain⟨t,rfl⟩:=rx;exact SeqAt.EqAt.int_int a t' b t
   | str b=>obtain⟨t,rfl⟩:=rx;exact SeqAt.EqAt.int_str a t' b t
   | _=>exact absurd (show false=true from fx) zvh
 | str a =>
   obtain⟨t',rfl⟩:=ry;cases x with
   | non=>cases rx;exact SeqAt.EqAt.str_none a t'
   | bl b=>cases rx;exact SeqAt.EqAt.str_bool a t' b
   | int b=>obtain⟨t,rfl⟩:=rx;exact SeqAt.EqAt.str_int a t' b t
   | str b=>obtain⟨t,rfl⟩:=rx;exact SeqAt.EqAt.str_str a t' b t
   | _=>exact absurd (show false=true from fx) zvh
 | _=>exact absurd (show false=true from fy) zvh
def eqU(x:V)(u:Value):Bool:=match u with
 | .none=>eqV .non x
 | .bool b=>eqV (.bl b) x
 | .int i _=>eqV (.int i) x
 | .str z _=>eqV (.str z) x
 | _=>false
theorem za2(r:RelV y u)(f:Qi y=true):eqU x u=eqV y x:=by
 cases y with
 | non=>cases r;rfl
 | bl b=>cases r;rfl
 | int i=>obtain⟨t,rfl⟩:=r;rfl
 | str z=>obtain⟨t,rfl⟩:=r;rfl
 | _=>exact absurd (show false=true from f) zvh
theorem N5:∀ {xs:List V} {us:List Value},Vals xs us->xs.all Qi=true->us.any (eqU x)=xs.any fun y=>eqV y x
 | _,_,.nil,_=>rfl
 | y :: xs,u :: us,.cons r t,f=>by
   rw[List.all_cons,zwd] at f;rw[zwz,zwz,za2 r f.1,N5 t f.2]
theorem Rc(rx:RelV x v)(fx:Qi x=true):∀ {xs:List V} {us:List Value},Vals xs us->xs.all Qi=true->∀ u∈us,SeqAt.EqAt A s u v (eqU x u)
 | _,_,.nil,_=>fun u hu=>by cases hu
 | y :: xs,u :: us,.cons r t,f=>fun u' hu=>by
   rw[List.all_cons,zwd] at f;rcases zu4.mp hu with rfl|hu
   ·rw[za2 r f.1];exact zjn r rx f.1 fx
   ·exact Rc rx fx t f.2 u' hu
def inV(x:V)(xs:List V):Bool:=xs.any fun y=>eqV y x
inductive rIn(K:Frag)(neg:Bool)(x:V)(y:V)(H:Hp)(Q:VK):Prop where
 | mk(p)(xs)(_:y=.ref p)(_:(SqL K H p xs\/SqT K H p xs))(_:Qi x=true)(_:xs.all Qi=true)(_:Q (.bl (if neg then !inV x xs else inV x xs)) H)
theorem zds:OpR X (compareOp .In) (rIn X.K false):=by
 intro pins s σ H x y v u Q I rx ry h;obtain⟨p,xs,rfl,hq,fx,fs,q⟩:=h;cases ry;rcases hq with hq|hq
 ·obtain⟨its,r,pl,hz⟩:=I.list hq;refine SeqAt.in_listAt (eqU x) pl.isList (fun w hw=>Rc rx fx r fs w (by simpa using hw)) ⟨.bl _,H,I,rfl,?_⟩;rw[show its.toArray.any (eqU x)=its.any (eqU x) by simp,N5 r fs];exact q
 ·obtain⟨its,r,pl,hz⟩:=I.tuple hq;refine SeqAt.in_tupleAt (eqU x) pl (fun w hw=>Rc rx fx r fs w (by simpa using hw)) ⟨.bl _,H,I,rfl,?_⟩;rw[show its.toArray.any (eqU x)=its.any (eqU x) by simp,N5 r fs];exact q
theorem D1:OpR X (compareOp .NotIn) (rIn X.K true):=by
 intro pins s σ H x y v u Q I rx ry h;obtain⟨p,xs,rfl,hq,fx,fs,q⟩:=h;cases ry;rcases hq with hq|hq
 ·obtain⟨its,r,pl,hz⟩:=I.list hq;refine SeqAt.notIn_listAt (eqU x) pl.isList (fun w hw=>Rc rx fx r fs w (by simpa using hw)) ⟨.bl _,H,I,rfl,?_⟩;rw[show its.toArray.any (eqU x)=its.any (eqU x) by simp,N5 r fs];exact q
 ·obtain⟨its,r,pl,hz⟩:=I.tuple hq;refine SeqAt.notIn_tupleAt (eqU x) pl (fun w hw=>Rc rx fx r fs w (by simpa using hw)) ⟨.bl _,H,I,rfl,?_⟩;rw[show its.toArray.any (eqU x)=its.any (eqU x) by simp,N5 r fs];exact q
theorem D2:Vm X (.builtin "len") (fun xs H Q=>∃ p ys,xs=[.ref p]/\(SqL X.K H p ys\/SqT X.K H p ys)/\Q (.int ys.length) H):=by
 intro pins s σ H xs us Q I r h;obtain⟨p,ys,rfl,hq,q⟩:=h;obtain⟨u,rfl,rx⟩:=Qg r;cases rx;have hn:=Ov;rcases hq with hq|hq
 ·obtain⟨its,r',pl,hz⟩:=I.list hq;have hlen:=r'.length;exact Calls.call_len_list pl.isList (by simp only[zvc]<;>omega) ⟨.int ys.length,H,I.tok _,⟨s.toks+1,by rw[zvc,hlen]⟩,q⟩
 ·obtain⟨its,r',pl,hz⟩:=I.tuple hq;have hlen:=r'.length;exact len_tuple pl (by simp only[zvc]<;>omega) ⟨.int ys.length,H,I.tok _,⟨s.toks+1,by rw[zvc,hlen]⟩,q⟩
theorem D3:Vm X (.type "list") (fun xs H Q=>∃ p ys,xs=[.ref p]/\(SqL X.K H p ys\/SqT X.K H p ys)/\∀ l,H l=none->Q (.ref l) (upd H l (.lst ys))):=by
 intro pins s σ H xs us Q I r h;obtain⟨p,ys,rfl,hq,q⟩:=h;obtain⟨u,rfl,rx⟩:=Qg r;cases rx;have fin:∀ (its:List Value),Vals ys its->ys.length<=sizeLine->∀ (h':Heap) (c':Nat),(∀ b o',s.heap.get? b=some o'->h'.get? b=some o') ->
   h'.get? s.heap.objs.size=some { cls:=.type "list",dict:=none,data:=.seq its.toArray c',slots:=#[] }->EP X pins σ Q (.ref s.heap.objs.size) { s with heap:=h' }:=fun its r' hz h' c' kp e =>
  ⟨.ref s.heap.objs.size,_,I.laid (t':=s.toks) kp (zu7 _) (show Y6 X.prog X.w _ h' _ (.lst ys) from⟨hz,its,c',r',e⟩),rfl,q _ (I.hok.fresh (zu7 _))⟩
 rcases hq with hq|hq
 ·obtain⟨its,r',pl,hz⟩:=I.list hq;have hlen:=r'.length;obtain⟨o,ho,hc,n,hd⟩:=pl.isList;exact call_list_seq p (.inl rfl) ho hc hd (fun h' c' kp e=>fin its r' hz h' c' kp e) (by simp only[zvc]<;>omega)
 ·obtain⟨its,r',pl,hz⟩:=I.tuple hq;have hlen:=r'.length;obtain⟨o,ho,hc,n,hd⟩:=pl;exact call_list_seq p (.inr rfl) ho hc hd (fun h' c' kp e=>fin its r' hz h' c' kp e) (by simp only[zvc]<;>omega)
theorem Fc:Vm X (.type "tuple") (fun xs H Q=>∃ p ys,xs=[.ref p]/\((SqL X.K H p ys/\∀ l,H l=none->Q (.ref l) (upd H l (.tup ys)))\/(SqT X.K H p ys/\Q (.ref p) H))):=by
 intro pins s σ H xs us Q I r h;obtain⟨p,ys,rfl,h⟩:=h;obtain⟨u,rfl,rx⟩:=Qg r;cases rx;rcases h with ⟨hq,q⟩|⟨hq,q⟩
 ·obtain⟨its,r',pl,hz⟩:=I.list hq;have hlen:=r'.length;refine call_tuple_list pl.isList (fun h' kp=>?_) (by simp only[zvc]<;>omega);have I1:Inv X pins σ H { s with heap:=h' }:=I.kept (t':=s.toks) kp;have I2:Inv X pins σ (upd H h'.objs.size (.tup ys)) { s with heap:=h'.push { cls:=.type "tuple",data:=.seq its.toArray } } :=
   I1.laid (t':=s.toks) (fun b o e=>Heap.get?_push_of_some _ e) (zu7 _) (show Y6 X.prog X.w _ _ _ (.tup ys) from⟨hz,its,r',IsTup.new _ _⟩)
  exact⟨.ref h'.objs.size,_,I2,rfl,q _ (I1.hok.fresh (zu7 _))⟩
 ·obtain⟨its,r',pl,hz⟩:=I.tuple hq;exact call_tuple_same pl ⟨.ref p,H,I,rfl,q⟩
def tyV(K:Frag)(T:String)(x:V)(H:Hp):Prop:=match x with
 | .str _=>T="str"
 | .int _=>T="int"
 | .ref p=>(T="list"/\∃ xs,SqL K H p xs)\/(T="tuple"/\∃ o,K.lookup p=some o/\o.cls=.type "tuple"/\o.dict=none) \/
   (T="dict"/\((∃ kvs,H p=some (.dK kvs))\/∃ kvs,H p=some (.dT kvs)))\/(T="set"/\∃ S n,H p=some (.set S n))
 | _=>False
theorem za3(I:Inv X pins σ H s)(r:RelV x v)(ty:tyV X.K T x H) :
  s.TypeIs v T/\∀ a,v=.ref a->∃ ob,s.heap.get? a=some ob/\ob.dict=none:=by
 cases x with
 | str z =>
   obtain⟨t,rfl⟩:=r;cases (show T="str" from ty);exact⟨typeIs_str s z t,fun _ e=>nomatch e⟩
 | int i =>
   obtain⟨t,rfl⟩:=r;cases (show T="int" from ty);exact⟨typeIs_int s i t,fun _ e=>nomatch e⟩
 | ref p =>
   cases r;rcases ty with ⟨rfl,xs,hq⟩|⟨rfl,o,hk,hc,hd⟩|⟨rfl,hk⟩|⟨rfl,S,n,hk⟩
   ·obtain⟨its,_,pl,_⟩:=I.list hq;refine⟨pl.isList.typeIs,fun a e=>?_⟩;cases e;obtain⟨o,n,e,c,hd,_⟩:=pl;exact⟨o,e,hd⟩
   ·refine⟨⟨o,I.kIn p o hk,hc⟩,fun a e=>?_⟩;cases e;exact⟨o,I.kIn _ o hk,hd⟩
   ·have z:∃ o,s.heap.get? p=some o/\o.ExactDict:=by
     rcases hk with ⟨kvs,hk⟩|⟨kvs,hk⟩
     ·obtain⟨_,_,_,_,o,_,_,e,ex,_⟩:=I.hok p _ hk;exact⟨o,e,ex⟩
     ·obtain⟨_,_,_,_,o,_,_,e,ex,_⟩:=I.hok p _ hk;exact⟨o,e,ex⟩
    obtain⟨o,e,ex⟩:=z;refine⟨⟨o,e,ex.1⟩,fun a e2=>?_⟩;cases e2;exact⟨o,e,ex.2.1⟩
   ·obtain⟨o,_,_,_,e,ex,_⟩:=I.hok p _ hk;refine⟨⟨o,e,ex.1⟩,fun a e2=>?_⟩;cases e2;exact⟨o,e,ex.2.1⟩
 | _=>exact False.elim ty
inductive zk7(K:Frag)(T:String)(r:V->List V->Hp->VK->Prop)(Q:VK)(x:V)(H1:Hp):Prop where
 | mk(_:tyV K T x H1)(_:r x [] H1 Q)
def zl2(K:Frag)(T:String)(r:V->List V->Hp->VK->Prop)(to:TE):TE:=fun σ H Q=>to σ H fun x H1=>zk7 K T r Q x H1
inductive zl3(K:Frag)(T:String)(r:V->List V->Hp->VK->Prop)(t:TA)(σ:L2.St)(Q:VK)(x:V)(H1:Hp):Prop where
 | mk(_:tyV K T x H1)(_:t σ H1 fun xs H2=>r x xs H2 Q)
def tBM(K:Frag)(T:String)(r:V->List V->Hp->VK->Prop)(to:TE)(t:TA):TE:=fun σ H Q=>to σ H fun x H1=>zl3 K T r t σ Q x H1
variable{o e:Expr}{es:List Expr}{to:TE}{t:TA}{name:Str}{apos cpos:Pos}{T id:String}{r:V->List V->Hp->VK->Prop}
theorem zfn(pa:PlainAttrs T)(slot:Slot T name id)(hty:typeOf (.builtin id)=pure (.type "method_descriptor"))(hm:MtR X id r)(ho:PE X o to)
  (hbase:attributeBase o name X.env (eval o X.env)=eval o X.env:=by rfl) (hline:(apos.endLine == cpos.line)=true:=by rfl):PE X (.Call (.Attribute o name apos) [] [] cpos) (zl2 X.K T r to):=by
 intro pins s σ H Q I h;refine wpAny_Call_method0_late hbase hline (thn (ho pins s σ H _ I h) fun v s1 ⟨x,H1,I1,r1,ty,q1⟩=>?_);obtain⟨h1,h2⟩:=za3 I1 r1 ty;exact⟨T,id,pa,slot,hty,h1,h2,Calls.callWith_builtin rfl (PySem.evalArgs_none (hm pins s1 σ H1 x [] v [] Q I1 r1 .nil q1))⟩
theorem zio(pa:PlainAttrs T)(slot:Slot T name id)(hty:typeOf (.builtin id)=pure (.type "method_descriptor"))(hm:MtR X id r)(ho:PE X o to)(ha:PA X (e :: es) t)
  (hbase:attributeBase o name X.env (eval o X.env)=eval o X.env:=by rfl)
  (hfew:((backTo cpos (starEach (e :: es) X.env)).all (fun x=>!x.1)&&(backToKw cpos (keywordEach [] X.env)).all (fun x=>x.1.isSome)
   && decide ((e :: es).length+([]:List Keyword).length+(if ([]:List Keyword).isEmpty then 0 else 1)<30))=true:=by rfl)
  (hline:(apos.endLine == cpos.line)=true:=by rfl) (hs:starEach (e :: es) X.env=(false,eval e X.env) :: starEach es X.env:=by rfl) (hplain:(backTo cpos (starEach es X.env)).any (·.1)=false:=by rfl) :
  PE X (.Call (.Attribute o name apos) (e :: es) [] cpos) (tBM X.K T r to t):=by
 intro pins s σ H Q I h;refine wpAny_Call_method_late hbase hfew hline rfl (thn (ho pins s σ H _ I h) fun v s1 ⟨x,H1,I1,r1,ty,q1⟩=>?_);obtain⟨h1,h2⟩:=za3 I1 r1 ty;refine⟨T,id,pa,slot,hty,h1,h2,?_⟩;have hA:=ha cpos pins s1 σ H1 _ I1 q1;rw[hs] at hA ⊢;refine Calls.callWith_builtin (by show (false||(backTo cpos (starEach es X.env)).any (·.1))=false;rw[hplain]<;>rfl) (Calls.evalArgs_plain ?_);exact thn hA fun us s2 ⟨vs,H2,I2,r2,q2⟩=>hm pins s2 σ H2 x vs v us Q I2 r1 r2 q2
end
def MtM(X:Cx)(id:String)(r:V->List V->Hp->VK->Prop):Prop :=
 ∀ (pins:List (Addr×Obj)) (s:Shared) (σ:St) (H:Hp) (x:V) (xs:List V) (v:Value) (us:List Value) (Q:VK),Inv X pins σ H s->RelV x v->Vals xs us->r x xs H Q ->
   wpAny (model X.prog X.w) X.A (call (.builtin id) (v :: us)) (EP X pins σ Q) X.xe s
theorem Vals.one:∀ {x:V} {us:List Value},Vals [x] us->∃ u,us=[u]/\RelV x u
 | _,_,.cons r .nil=>⟨_,rfl,r⟩
theorem Vals.zero:∀ {us:List Value},Vals [] us->us=[]
 | _,.nil=>rfl
theorem Vals.dropLast(h:Vals xs us):Vals xs.dropLast us.dropLast:=by
 induction h with
 | nil=>exact .nil
 | cons r t ih =>
   cases t with
   | nil=>exact .nil
   | cons q t'=>exact .cons r ih
theorem Vals.reverse(h:Vals xs us):Vals xs.reverse us.reverse:=by
 induction h with
 | nil=>exact .nil
 | cons r t ih=>rw[zw0,zw0];exact Vals.append ih (.cons r .nil)
theorem za4(l:List α):l.eraseIdx (l.length-1)=l.dropLast:=by
 induction l with
 | nil=>rfl
 | cons a r ih =>
   cases r with
   | nil=>rfl
   | cons b r =>
     have e:(a :: b :: r).length-1=((b :: r).length-1)+1:=by
      have h1:(a :: b :: r).length=r.length+2:=rfl;have h2:(b :: r).length=r.length+1:=rfl;omega
     rw[e,List.eraseIdx_cons_succ,ih]
     all_goals rfl
section
variable{X:Cx}{pins:List (Addr×Obj)}{σ:St}{H:Hp}{s:Shared}{l b:Addr}{xs ys zs:List V}
theorem Inv.lset{its its':List Value}{n:Nat}{f:Array Value->Array Value}{t':Nat}(I:Inv X pins σ H s)(hH:H l=some (.lst xs))
  (e:s.heap.get? l=some { cls:=.type "list",data:=.seq its.toArray n }) (hf:f its.toArray=its'.toArray) (hv:Vals ys its') (hz:ys.length<=sizeLine) :
  Inv X pins σ (upd H l (.lst ys)) { s with heap:=s.heap.update l (Obj.mapSeq f),toks:=t' }:=by
 have q:=PySem.IsL.update e f;rw[hf] at q;refine I.write (x:=l) (e:=l) (by rw[hH];exact trivial) (.inl rfl) (fun b' u hb hu=>(Heap.get?_update_other s.heap (Obj.mapSeq f) (Ne.symm hb)).trans hu) ⟨_,q⟩ ?_;exact⟨hz,its',_,hv,q⟩
theorem Inv.lnew(I:Inv X pins σ H s)(hv:Vals ys its)(hz:ys.length<=sizeLine) :
  Inv X pins σ (upd H s.heap.objs.size (.lst ys)) { s with heap:=s.heap.push { cls:=.type "list",data:=.seq its.toArray },toks:=t' } :=
 I.laid (fun _ _ q=>Heap.get?_push_of_some _ q) (zu7 _) ⟨hz,its,0,hv,Heap.get?_push_size _ rfl⟩
theorem Inv.fresh(I:Inv X pins σ H s):H s.heap.objs.size=none:=I.hok.fresh (zu7 _)
theorem Inv.lstM(I:Inv X pins σ H s)(hH:H l=some (.lst xs)):xs.length<=sizeLine/\∃ (its:List Value) (n:Nat),Vals xs its/\xs.length=its.length/\s.heap.get? l=some { cls:=.type "list",data:=.seq its.toArray n }:=by
 obtain⟨z,its,n,r,e⟩:=I.hok l _ hH;exact⟨z,its,n,r,r.length,e⟩
end
section
variable{X:Cx}
inductive zho(x:V)(vs:List V)(H:Hp)(Q:VK):Prop where
 | mk(l)(xs)(y)(_:x=.ref l)(_:vs=[y])(_:H l=some (.lst xs))(_:xs.length<sizeLine)(_:Q .non (upd H l (.lst (xs++[y]))))
theorem zdt:MtM X "list.append" zho:=by
 intro pins s σ H x vs v us Q I rx rv h;obtain⟨l,xs,y,rfl,rfl,hH,hz,q⟩:=h;cases rx;obtain⟨u,rfl,ru⟩:=rv.one;obtain⟨z,its,n,r,hl,e⟩:=I.lstM hH;refine call_meets F.slot_list_append ⟨_,e,rfl⟩ F.entry_list_append (F.args_list_append_2 _ _) (PySem.list_append l its.toArray n u (by rw[zvc];omega)) ⟨e,?_⟩;refine⟨.non,_,I.lset (its':=its++[u]) hH e (by simp) (r.append (.cons ru .nil)) ?_,rfl,q⟩;rw[zuz,List.length_singleton];omega
inductive zl4(x:V)(vs:List V)(H:Hp)(Q:VK):Prop where
 | mk(l)(xs)(y)(_:x=.ref l)(_:vs=[])(_:H l=some (.lst xs))(_:xs[xs.length-1]?=some y)(_:Q y (upd H l (.lst xs.dropLast)))
theorem zjo:MtM X "list.pop" zl4:=by
 intro pins s σ H x vs v us Q I rx rv h;obtain⟨l,xs,y,rfl,rfl,hH,hy,q⟩:=h;cases rx;have hus:=rv.zero;subst hus;obtain⟨z,its,n,r,hl,e⟩:=I.lstM hH;obtain⟨u,hu,ru⟩:=r.get hy;have hy':its.toArray[its.toArray.size-1]?=some u:=by
  show its.toArray[its.length-1]?=some u;rw[<- Array.getElem?_toList,<- hl];exact hu
 refine call_meets F.slot_list_pop ⟨_,e,rfl⟩ F.entry_list_pop (F.args_list_pop_1 _) (MeetsSeq.list_pop_last l its.toArray n u hy' (by rw[zvc];omega)) ⟨e,?_⟩;refine⟨y,_,I.lset (its':=its.dropLast) hH e ?_ r.dropLast ?_,ru,q⟩
 ·show its.toArray.eraseIdxIfInBounds (its.toArray.size-1)=its.dropLast.toArray;rw[zvc,List.eraseIdxIfInBounds_toArray,za4]
 ·rw[List.length_dropLast];omega
inductive zfo(x:V)(vs:List V)(H:Hp)(Q:VK):Prop where
 | mk(l)(xs)(_:x=.ref l)(_:vs=[])(_:H l=some (.lst xs))(_:Q .non (upd H l (.lst xs.reverse)))
theorem za5:MtM X "list.reverse" zfo:=by
 intro pins s σ H x vs v us Q I rx rv h;obtain⟨l,xs,rfl,rfl,hH,q⟩:=h;cases rx;have hus:=rv.zero;subst hus;obtain⟨z,its,n,r,hl,e⟩:=I.lstM hH;refine call_meets F.slot_list_reverse ⟨_,e,rfl⟩ F.entry_list_reverse (F.args_list_reverse_1 _) (AutoSeq1.list_reverse_list_0 l its.toArray n (by rw[zvc];omega)) ⟨e,?_⟩;refine⟨.non,_,I.lset (its':=its.reverse) hH e (by simp) r.reverse ?_,rfl,q⟩;rw[List.length_reverse];omega
inductive zl5(x:V)(y:V)(H:Hp)(Q:VK):Prop where
 | mk(l)(b)(xs)(zs)(_:x=.ref l)(_:y=.ref b)(_:H l=some (.lst xs))(_:H b=some (.lst zs))(_:xs.length+zs.length<=sizeLine)(_:∀ p,H p=none->Q (.ref p) (upd H p (.lst (xs++zs))))
theorem Ox:OpR X (binaryOp .Add) zl5:=by
 intro pins s σ H x y v u Q I rx ry h;obtain⟨l,b,xs,zs,rfl,rfl,hH,hB,hz,q⟩:=h;cases rx;cases ry;obtain⟨z,its,n,r,hl,e⟩:=I.lstM hH;obtain⟨z2,its2,n2,r2,hl2,e2⟩:=I.lstM hB;refine PySem.P.add_list e e2 ?_ (by rw[zvc,zvc];omega);have ea:its.toArray++its2.toArray=(its++its2).toArray:=by simp
 rw[ea];exact⟨.ref _,_,I.lnew (t':=s.toks) (r.append r2) (by rw[zuz];omega),rfl,q _ I.fresh⟩
end
end L2
namespace Att
open PySem PySem.W PySem.Calls PyProof.Rows
theorem K5:∀ (ns:List Int) (vs:List Value),WellAll P h vs (ns.map WData.int)->IntsAre vs ns:=by
 intro ns
 induction ns with
 | nil =>
   intro vs w;rw[List.map_nil] at w;cases w;exact .nil
 | cons n ns ih =>
   intro vs w;rw[zu9] at w;cases w with
   | cons a b =>
     cases a;exact .cons _ _ (ih _ b)
theorem zdu{l:OpenLaw}{n:Nat}(hn:l.most=some n){P:Params}{h:Heap}{args:List WData}{vals:List Value}
  (hpre:l.row.toRowW.claim.pre args=true) (hwl:WellAll P h vals args) :
  ∃ a vs ns,vals=[Value.ref a]/\args=[WData.list (ns.map WData.int)]/\h.get? a=some { cls:=.type "list",data:=.seq vs.toArray }/\IntsAre vs ns/\ns.length<=n:=by
 have hsh:WShape.hasAll [] args [.list .int]=true:=(pre_splitW hpre).1;have hc:l.pre.holds [] { args:=args }=true:=(pre_splitW hpre).2;obtain⟨d,r,rfl,h1,h2⟩:=hasAllW_cons hsh;obtain rfl:=hasAllW_nil h2;obtain⟨xs,rfl,h3⟩:=hasW_list h1;obtain⟨ns,rfl⟩:=items_int h3;have hlen:ns.length<=n:=by
  unfold OpenLaw.pre at hc;have h4:(WTm.not (.lt (.lit (.int (n:Int))) (.len (.arg 0)))).holds [] { args:=[.list (ns.map .int)] }=true:=by
   have h4:=(holds_andW hc).1;rw[hn] at h4;exact h4
  have h5:=condW_of h4 (w_not (w_lt w_lit (w_len_list (w_arg rfl))));rw[zuw] at h5;refine Nat.le_of_not_lt fun q=>?_;have q':(n:Int)<((ns.length:Nat):Int):=by omega
  first
   | (rw[zu3 q'] at h5;exact absurd h5 ⋯)
   | (simp at h5;omega)
 cases hwl with
 | cons w1 w2 =>
   cases w2;cases w1 with
   | list ho hall=>exact⟨_,_,ns,rfl,rfl,ho,K5 ns _ hall,hlen⟩
theorem zdv(l:OpenLaw)(args:List WData):l.row.toRowW.claim.post args (.bool true) args=true :=
 postW_of (r:=l.row.toRowW) (X:=(true == true))
  (show WShape.has [] (.bool true) .bool=true by first|rfl|decide|simp[WShape.has,WShape.arms,WShape.armsAll])
  (show (WTm.eq .res (.lit (.bool true))).value [] { args:=args,res:=some (.bool true),after:=args }=some (.bool (true == true)) from w_eq_bool (w_res rfl) w_lit) rfl
theorem attach_call{l:OpenLaw}{n:Nat}{q:Program}{loose:List Str}{XP:(Str->Option Value)->Heap->Prop}{YP:World->Heap->Prop}{d:DefRec}
  (hn:l.most=some n) (hdf:d.params.defaults=[])
  (call:∀ (w:World) (s₀ s₁:Shared) (mg mb:Str->Option Value) (fa:Addr) (o:Obj) (pm cd doc:Value) (a:Addr) (vs:List Value) (ns:List Int),
   Ground q loose [] XP w s₀ mg mb s₁.heap->YP w s₁.heap ->
   s₁.heap.get? fa=some o->o.data=.func (docDef d.name d.params d.body d.scope pm cd doc)->s₁.heap.CodeRec cd d.name->mg d.name=some (.ref fa) ->
   s₁.heap.get? a=some { cls:=.type "list",data:=.seq vs.toArray }->IntsAre vs ns->ns.length<=n->s₁.gens=#[] ->
   codeAny (model l.prog w) callerA (.call (.ref fa) ⟨[.ref a],[]⟩) (fun r s'=>r=.ok (.ret (.bool true))/\OldK s₁.heap s'.heap/\s'.os=s₁.os/\AllBare s'.gens) s₁) :
  WalkO q loose XP YP l.row.toRowW d [] (fun f vs=>PySem.call f vs):=by
 intro w s₀ s₁ mg mb G Y fa o pm cd doc dV kV ho hd hcd hD hmg hg args vals as hpre hlay hrd hwl hlo;obtain rfl:dV=.none:=Dflts.none hD hdf;obtain rfl:kV=.none:=Dflts.noKw hD;obtain⟨a,vs,ns,rfl,rfl,hobj,hints,hlen⟩:=zdu hn hpre hwl;refine enter_call (codeAny_mono (call w s₀ s₁ mg mb fa o pm cd doc a vs ns G Y ho (fd_plain hd) hcd hmg hobj hints hlen hg) fun r s' hq=>?_);obtain⟨rfl,h2,h3,h4⟩:=hq;exact⟨.inl ⟨.bool true,.bool true,[],rfl,fun _=>rfl,.bool true,zdv l _,fun _=>⟨List.Pairwise.nil,fun _ hm=>(nomatch hm)⟩⟩,h2,h3,h4⟩
end Att
namespace L2
open PySem PySem.Spec PyProof.Rows
theorem M8:∀ {vs:List Value} {ns:List Int},IntsAre vs ns->Vals (ns.map V.int) vs
 | _,_,.nil=>.nil
 | _,_,.cons n t h=>.cons ⟨t,rfl⟩ (M8 h)
def zjp(H:Hp):Prop:=∀ b,H b=none\/∃ o xs,H b=some (.frz o (.lst xs))
theorem zfp{P:Program}{w:World}{K:Frag}{mg mb:Str->Option Value}{CX:CXT}{k:Nat}{fa a:Addr}{fd:FuncData}{x:Str}{sp:Sp}{s₁:Shared}{vs:List Value}{ns:List Int}
  (KX:K.In s₁.heap) (hns:s₁.heap.Ns mainGlobals mg) (hb:s₁.heap.Ns builtinsNs mb) (hbb:∀ x:Str,x≠"__name__"->mb x=bootBuiltins x) (hlim:s₁.heap.NoLimit) (hg:s₁.gens=#[])
  (ha:s₁.heap.get? a=some { cls:=.type "list",data:=.seq vs.toArray }) (hi:IntsAre vs ns) (hl:ns.length<=sizeLine) (hr:W5 k callerA)
  (F:∀ base:Heap,K.In base->base.Ns mainGlobals mg->FnOk P w K mg base CX k fa fd [x] sp) (hbind:∀ (s:Shared) (u:Value),BindsTo s fd ⟨[u],[]⟩ [(x,u)])
  (hsp:∀ H:Hp,zjp H->SqL K H a (ns.map V.int)->sp [.ref a] H (fun v _=>v=.bl true) fun _ _ _=>False)
  (hCX:∀ H e s',CX [] H s₁ (fun _ _ _=>False) e s'->False) :
  codeAny (model P w) callerA (.call (.ref fa) ⟨[.ref a],[]⟩) (fun r s'=>r=.ok (.ret (.bool true))/\OldK s₁.heap s'.heap/\s'.os=s₁.os/\AllBare s'.gens) s₁:=by
 have rv:=M8 hi;have lenV:=hi.length;have core:∀ H:Hp,zjp H->SqL K H a (ns.map V.int)->HOk P w H s₁.heap->(∀ b,H b≠none->b=a)->(H a≠none->K.lookup a=none) ->
   codeAny (model P w) callerA (.call (.ref fa) ⟨[.ref a],[]⟩) (fun r s'=>r=.ok (.ret (.bool true))/\OldK s₁.heap s'.heap/\s'.os=s₁.os/\AllBare s'.gens) s₁:=by
  intro H hO hS hok hA hK;have base_of:∀ {b:Addr} {o:Obj},s₁.heap.get? b=some o->H b=none->(Dw s₁.heap H).get? b=some o:=fun e n=>ze1 e n;have noA:∀ {b:Addr} {o:Obj} {es:Array DictEntry} {ep:Nat},s₁.heap.get? b=some o->o.data=.dict es ep->H b=none:=fun {b o es ep} e d=>by
   cases q:H b with
   | none=>rfl
   | some u =>
     have e':b=a:=hA b (by rw[q];simp);subst e';rw[ha] at e;cases e;have d':Data.seq vs.toArray _=Data.dict es ep:=d;cases d'
  have nsK:∀ {b:Addr} {m:Str->Option Value},s₁.heap.Ns b m->(Dw s₁.heap H).Ns b m:=fun {b m} ⟨o,es,ep,e,d,r⟩=>⟨o,es,ep,base_of e (noA e d),d,r⟩
  have hKb:K.In (Dw s₁.heap H):=fun b o e=>base_of (KX b o e) (by
   cases q:H b with
   | none=>rfl
   | some u =>
     have e':b=a:=hA b (by rw[q];simp);subst e';rw[hK (by rw[q];simp)] at e;cases e)
  have hM:Mod K mg (Dw s₁.heap H):=⟨hKb,nsK hns,⟨mb,nsK hb,hbb⟩,let ⟨mc,h1,h2⟩:=hlim;⟨mc,nsK h1,h2⟩⟩;have e0:zax P w K mg (Dw s₁.heap H) callerA [] s₁ H:=⟨rfl,hM,fun b o e=>zg4 e,Nat.le_of_eq (zdf _ _),trivial,fun b hb=>absurd (show b∈([]:List Addr) from hb) (by simp),hok,.of_eq hg⟩;refine codeAny_mono ((F _ hKb (nsK hns)).run callerA [] s₁ H ⟨[.ref a],[]⟩ [.ref a] [.ref a] _ _ hr e0 (hbind s₁ (.ref a)) (.cons rfl .nil) (hsp H hO hS)) fun r s' h=>?_;cases r with
  | error e=>exact(hCX H e s' h).elim
  | ok fl =>
    cases fl with
    | next=>exact False.elim h
    | brk=>exact False.elim h
    | cont=>exact False.elim h
    | ret u =>
      obtain⟨v,H',os,bare,un,hok',r',q⟩:=h;have q':v=.bl true:=q;subst q';obtain rfl:u=Value.bool true:=r';refine⟨rfl,OldK.of_keep fun b o e=>?_,os,bare⟩;cases q:H b with
      | none=>exact un.keep b o e q (by intro z;exact absurd (show b∈([]:List Addr) from z) (by simp)) (by simp)
      | some u =>
        rcases hO b with z|⟨ob,xs,z⟩
        ·rw[q] at z;cases z
        ·have z2:=un.frzs b ob _ z;obtain⟨e1,_⟩:=hok b _ z;obtain⟨e2,_⟩:=hok' b _ z2;rw[e] at e1;cases e1;exact e2
 cases hk:K.lookup a with
 | some o =>
   have e:=KX a o hk;rw[ha] at e;cases e;refine core (fun _=>none) (fun _=>.inl rfl) (.inr ⟨_,vs.toArray,_,hk,rfl,rfl,rfl,by rw[zvc,lenV];exact hl,by simpa using rv⟩) (fun b u z=>by have z':(none:Option HO)=some u:=z;cases z') (fun b z=>absurd rfl z) fun z=>absurd rfl z
 | none =>
   refine core (fun b=>if b=a then some (.frz { cls:=.type "list",data:=.seq vs.toArray } (.lst (ns.map V.int))) else none) (fun b=>?_) (.inl (.inr ⟨{ cls:=.type "list",data:=.seq vs.toArray },if_pos rfl⟩)) (fun b u z=>?_) (fun b z=>?_) fun _=>hk
   ·by_cases hb:b=a
    ·exact .inr ⟨_,_,if_pos hb⟩
    ·exact .inl (if_neg hb)
   ·by_cases hb:b=a
    ·have z':=(if_pos hb).symm.trans z;cases z';subst hb;exact⟨ha,by rw[zuw];exact hl,vs,_,rv,ha⟩
    ·have z':=(if_neg hb).symm.trans z;cases z'
   ·by_cases hb:b=a
    ·exact hb
    ·exact absurd (if_neg hb) z
theorem zhp{l:PySem.W.OpenLaw}{n k:Nat}{q:Program}{loose:List Str}{XP:(Str->Option Value)->Heap->Prop}{YP:World->Heap->Prop}{d:DefRec}{K:Params->Frag}{CX:World->CXT}{sp:World->Sp}{x:Str}
  (hn:l.most=some n) (hn2:n<=sizeLine) (hdf:d.params.defaults=[]) (hr:W5 k callerA)
  (hY:∀ (w:World) (h:Heap),YP w h->(K w.params).In h)
  (F:∀ (w:World) (mg:Str->Option Value) (fa:Addr) (h:Heap),(K w.params).In h->h.Ns mainGlobals mg->mg d.name=some (.ref fa) ->
   ∃ fd:FuncData,(∀ (s:Shared) (u:Value),BindsTo s fd ⟨[u],[]⟩ [(x,u)]) /\
     ∀ base:Heap,(K w.params).In base->base.Ns mainGlobals mg->FnOk l.prog w (K w.params) mg base (CX w) k fa fd [x] (sp w))
  (hsp:∀ (w:World) (H:Hp) (a:Addr) (ns:List Int),ns.length<=n->zjp H->SqL (K w.params) H a (ns.map V.int)->sp w [.ref a] H (fun v _=>v=.bl true) fun _ _ _=>False)
  (hCX:∀ (w:World) (H:Hp) (s:Shared) (e:Value) (s':Shared),CX w [] H s (fun _ _ _=>False) e s'->False) :
  PySem.W.WalkO q loose XP YP l.row.toRowW d [] (fun f vs=>PySem.call f vs):=by
 refine Att.attach_call hn hdf fun w s₀ s₁ mg mb fa o pm cd doc a vs ns G Y ho hd hcd hmg hobj hints hlen hg=>?_;have KX:=hY w _ Y;obtain⟨fd,hb,hF⟩:=F w mg fa _ KX G.T.g hmg;exact zfp KX G.T.g G.T.b G.T.builtins G.T.nolimit hg hobj hints (zvb hlen hn2) hr hF hb (fun H hO hS=>hsp w H a ns hlen hO hS) fun H e s'=>hCX w H s₁ e s'
def Z3(s:Stmt)(j:Nat):Stmt:=match s with
 | .ClassDef _ _ _ body _ _ _ _ _ _ _=>body.getD j (.Pass ⟨0,0,0,0⟩)
 | _=>.Pass ⟨0,0,0,0⟩
def Sd(s:Stmt):Arguments:=match s with
 | .FunctionDef _ a _ _ _ _ _ _ _ _=>a
 | _=>{ posonlyargs:=[],args:=[],vararg:=none,kwonlyargs:=[],kw_defaults:=[],kwarg:=none,defaults:=[] }
def Zv(s:Stmt):List Stmt:=match s with
 | .FunctionDef _ _ b _ _ _ _ _ _ _=>b
 | _=>[]
def Zi(s:Stmt):Scope:=match s with
 | .FunctionDef _ _ _ _ _ _ sc _ _ _=>sc
 | _=>{ kind:=.function,names:=[],isGenerator:=false,isCoroutine:=false }
abbrev E0:XK:=fun _ _ _=>False
structure Fun(K:Frag)(x qual:Str)(st:Stmt)(f:Addr)(fd:FuncData):Prop where
 ex:∃ (oc:Value) (od:Option Addr) (kV doc pm:Value) (an:Option Addr) (cdv ct:Value) (osl:Array (Option Value)),
  fd=PySem.W.fnOf x qual (Sd st) (Zv st) (Zi st) .none kV doc pm an cdv ct/\K.lookup f=some ⟨oc,od,.func fd,osl⟩/\PySem.W.codeIn K cdv qual=true
 kp:PySem.W.keepIn K (.ref f)=true
section
variable{P:Program}{w:World}{K:Frag}{mg:Str->Option Value}{base:Heap}
theorem Fun.binds{x qual:Str}{st:Stmt}{f:Addr}{fd:FuncData}{ps:List Str}(F:Fun K x qual st f fd)
  (h:∀ (kV doc pm:Value) (an:Option Addr) (cdv ct:Value) (us:List Value),us.length=ps.length->bindArgs (PySem.W.fnOf x qual (Sd st) (Zv st) (Zi st) .none kV doc pm an cdv ct) ⟨us,[]⟩=pure (ps.zip us)):Ra K fd ps []:=by
 obtain⟨oc,od,kV,doc,pm,an,cdv,ct,osl,rfl,lk,hcd⟩:=F.ex;exact .all (h kV doc pm an cdv ct)
theorem Oy{x qual:Str}{st:Stmt}{f:Addr}{oc:Value}{od an:Option Addr}{osl:Array (Option Value)}{kV doc pm cdv ct:Value}(l:K.lookup f=some ⟨oc,od,.func (PySem.W.fnOf x qual (Sd st) (Zv st) (Zi st) .none kV doc pm an cdv ct),osl⟩)
  (c:PySem.W.codeIn K cdv qual=true) (k:PySem.W.keepIn K (.ref f)=true):Fun K x qual st f (PySem.W.fnOf x qual (Sd st) (Zv st) (Zi st) .none kV doc pm an cdv ct):=⟨⟨oc,od,kV,doc,pm,an,cdv,ct,osl,rfl,l,c⟩,k⟩
end
theorem W0(hr:W5 k A):A.units+1<cLine:=zwk (Nat.add_le_add_left (by decide:1<=64) _) hr.units
theorem Ub(h:n<=1000):n<sizeLine:=zwk h ⋯
section
variable{X:Cx}
theorem pv(i:Nat)(hN:X.N[i]?=some x:=by rfl)(hv:Vis X.env.scope x:=by first|exact Or.inl rfl|exact Or.inr (Or.inl rfl)|exact Or.inr (Or.inr rfl))(hd:(x == ("__debug__":Str))=false:=by decide)
  (hcd:(x == ("__classdict__":Str))=false:=by decide):PE X (.Name x pos) (Bc i):=zi0 hN hv hd hcd
theorem zdw:Vm X (.builtin "len") (fun xs H Q=>∃ a kvs,xs=[V.ref a]/\H a=some (.dK kvs)/\Q (.int kvs.length) H):=by
 intro pins s σ H xs us Q I r h;obtain⟨a,kvs,rfl,ha,q⟩:=h;obtain⟨u,rfl,ru⟩:=Qg r;cases ru;exact zk0 I (.inl ha) fun t s' I'=>⟨.int kvs.length,H,I',⟨t,rfl⟩,q⟩
end
theorem iteF{A B:Prop}(h:B):if false=true then A else B:=by
 rw[if_neg zvh];exact h
theorem iteT{A B:Prop}(h:A):if true=true then A else B:=by
 rw[if_pos rfl];exact h
theorem Bs{c A B:Prop}[Decidable c](h1:c->A)(h2:¬ c->B):if c then A else B:=by
 by_cases h:c
 ·rw[if_pos h];exact h1 h
 ·rw[if_neg h];exact h2 h
def Same(H H':Hp):Prop:=∀ b o,H b=some o->H' b=some o
theorem Same.refl(H:Hp):Same H H:=fun _ _ h=>h
theorem Same.trans(a:Same H H1)(b:Same H1 H2):Same H H2:=fun c o h=>b c o (a c o h)
theorem Same.free(e:Same H H')(h:H' l=Option.none):H l=Option.none:=by
 cases q:H l with
 | none=>rfl
 | some o =>
   rw[e l o q] at h;cases h
theorem Same.seq{K:Frag}{H H':Hp}{a:Addr}{xs:List V}(e:Same H H')(h:SqL K H a xs):SqL K H' a xs:=by
 rcases h with (h|⟨o,h⟩)|h
 ·exact .inl (.inl (e _ _ h))
 ·exact .inl (.inr ⟨o,e _ _ h⟩)
 ·exact .inr h
section
variable{κ:Type}[DecidableEq κ]
theorem D4:∀ {l:List κ} {k:κ},l.Nodup->¬ k∈l->(l++[k]).Nodup
 | [],k,_,_=>by simp
 | a :: r,k,h,hk=>by
   obtain⟨h1,h2⟩:=zvm.mp h;show (a :: (r++[k])).Nodup;refine zvm.mpr ⟨fun m=>?_,D4 h2 fun m=>hk (zu4.mpr (Or.inr m))⟩;rcases zu8.mp m with q|q
   ·exact h1 q
   ·exact hk (zu4.mpr (Or.inl (zu0.mp q).symm))
theorem zdx{p:κ×V}{r:List (κ×V)}{k:κ}(e:p.1=k):X7 (p :: r) k=X7 r k:=by
 unfold X7;rw[zv7,if_neg (by simp[e])]
theorem zdy{p:κ×V}{r:List (κ×V)}{k:κ}(e:¬ p.1=k):X7 (p :: r) k=p :: X7 r k:=by
 unfold X7;rw[zv7,if_pos (by simp[e])]
end
section
variable{P:Program}{w:World}{H H':Hp}{h h' g:Heap}{a:Addr}{o:HO}
theorem Y6.there(x:Y6 P w H h a o):∃ ob,h.get? a=some ob:=by
 cases o with
 | lst xs=>obtain⟨_,_,_,_,e⟩:=x;exact⟨_,e⟩
 | tup xs=>obtain⟨_,_,_,ob,e,_⟩:=x;exact⟨_,e⟩
 | dK kvs=>obtain⟨_,_,_,_,o,_,_,e,_⟩:=x;exact⟨_,e⟩
 | dT kvs=>obtain⟨_,_,_,_,o,_,_,e,_⟩:=x;exact⟨_,e⟩
 | set S n=>obtain⟨o,_,_,_,e,_⟩:=x;exact⟨_,e⟩
 | ins C dx fs=>obtain⟨_,_,_,e,_⟩:=x;exact⟨_,e⟩
 | own y=>obtain⟨_,e⟩:=x;exact⟨_,e⟩
 | xd fs=>obtain⟨_,⟨_,_,_,e,_⟩,_⟩:=x;exact⟨_,e⟩
 | rng lo hi=>obtain⟨_,_,_,e⟩:=x;exact⟨_,e⟩
 | frz ob u=>obtain⟨e,_⟩:=x;exact⟨_,e⟩
 | tbl ps=>exact⟨_,(show h.get? a=some _ from x)⟩
 | met f y=>exact⟨_,(show h.get? a=some _ from x)⟩
 | ext φ=>obtain⟨_,⟨_,e⟩,_⟩:=x;exact⟨_,e⟩
theorem HOk.none_of(x:HOk P w H h)(e:h.get? a=none):H a=none:=by
 cases q:H a with
 | none=>rfl
 | some u =>
   obtain⟨_,z⟩:=(x a u q).there;rw[e] at z;cases z
theorem Bt(e:(PySem.W.hideAll h as).get? a=none):h.get? a=none\/a∈as:=by
 by_cases m:a∈as
 ·exact .inr m
 ·cases q:h.get? a with
  | none=>exact .inl rfl
  | some o=>rw[PySem.W.hideAll_get as q m] at e;cases e
end
structure Fly(g:Heap)(H:Hp)(h:Heap)(e T:Addr)(cls:Value):Prop where
 ex:∃ oe vs oT ts,h.get? e=some oe/\oe.cls=cls/\oe.data=.fields vs/\vs[1]?=some (.ref T)/\T≠e/\h.get? T=some oT/\oT.data=.fields ts/\ts[3]?=some .none
 newE:g.get? e=none
 newT:g.get? T=none
 freeE:H e=none
 freeT:H T=none
def CX1(P:Program)(w:World):CXT:=fun outer H s E e s'=>∃ a T cls H',e=.ref a/\s'.os=s.os/\AllBare s'.gens/\Un (frs outer) [] H H' s.heap s'.heap/\HOk P w H' s'.heap/\Fly s.heap H' s'.heap a T cls/\E cls none H'
section
variable{X:Cx}{pins:List (Addr×Obj)}{σ:St}{H H':Hp}{s s':Shared}{h':Heap}{e T:Addr}{cls:Value}
structure Oz(X:Cx)(ch:List Addr)(h h':Heap):Prop where
 keep:∀ b o,h.get? b=some o->b∉ch->b∉frs X.stack->h'.get? b=some o
 slot:∀ b o,h.get? b=some o->b∉ch->b∈frs X.stack->∃ sl,h'.get? b=some { o with slots:=sl }
theorem Oz.of(I:Inv X pins σ H s)(st:(PySem.W.hideAll s.heap (as++frs X.stack)).StaysIn h')(up:s.heap.UpToSlots h'):Oz X as s.heap h' where
 keep:=fun b o q n1 n2=>st b o (PySem.W.hideAll_get _ q (by simp[n1,n2]))
 slot:=fun b o q _ m=>by
  obtain⟨_,o',ho,nf⟩:=I.stack.mem m;rw[q] at ho;cases ho;exact up b o q nf
theorem Oz.hok(I:Inv X pins σ H s)(t:Oz X ch s.heap h')(hch:∀ b∈ch,H b=none):HOk X.prog X.w H h':=fun b u q=>by
 have tr:∀ c v,H c=some v->c∉ch/\c∉frs X.stack:=fun c v z=>⟨(fun m=>by rw[hch c m] at z;cases z),(fun m=>by rw[I.stkFree c m] at z;cases z)⟩
 refine(I.hok b u q).stay (fun c v hc r=>?_) (fun _ z=>z) fun _ _ z=>z;rcases hc with z|z
 ·subst z;exact t.keep c v r (tr c u q).1 (tr c u q).2
 ·exact t.keep c v r (tr c _ z).1 (tr c _ z).2
theorem Inv.raised(I:Inv X pins σ H s)(ho:s'.os=s.os)(hg:AllBare s'.gens)(u:Un (frs X.stack) [] H H' s.heap s'.heap)(hok:HOk X.prog X.w H' s'.heap):Inv X pins σ H' s' :=
 I.call' ho u hok hg (fun _ z=>nomatch z)
theorem Fly.flying(J:Inv X pins σ H s)(hl:s.heap.FunFrames X.base l)(hsub:∀ b∈frs l,b∈frs X.stack)(F:Fly g H s.heap e T cls) :
  ∃ a0,Heap.FlyingW (PySem.W.hideAll s.heap ([e,T]++frs X.stack)) l e cls a0 s.heap:=by
 obtain⟨oe,vs,oT,ts,e1,e2,e3,e4,e5,e6,e7,e8⟩:=F.ex;have sz:0<vs.size:=zwk (zvo _) (Array.getElem?_eq_some_iff.mp e4).1;refine⟨vs[0],fun b o q=>PySem.W.of_hideAll _ q,PySem.W.hideAll_none _ (by simp),PySem.W.funFrames_hide hl fun env he a ha=>?_,oe,vs,T,oT,ts,e1,⟨e2,?_⟩,e3,e4,PySem.W.hideAll_none _ (by simp),e5,e6,e7,e8⟩
 ·have:a∈frs l:=zwo.mpr ⟨env,he,ha⟩;simp[hsub a this]
 ·exact Array.getElem?_eq_getElem sz
theorem Fly.again(J:Inv X pins σ H s)(F:Fly g H s.heap e T cls)(hg:∀ b,s.heap.get? b=none->g.get? b=none)
  (up:s.heap.UpToSlots h') (st:(PySem.W.hideAll s.heap ([e,T]++frs X.stack)).StaysIn h') (tr:h'.TracedW (PySem.W.hideAll s.heap ([e,T]++frs X.stack)) e cls a0):∃ T',Fly g H h' e T' cls:=by
 obtain⟨oe,vs,T',oT,ts,f1,⟨f2,_⟩,f3,f4,f5,f6,f7,f8,f9⟩:=tr;refine⟨T',⟨oe,vs,oT,ts,f1,f2,f3,f4,f6,f7,f8,f9⟩,F.newE,?_,F.freeE,?_⟩
 all_goals
  rcases Bt f5 with z|z
  ·first
    | exact hg _ z
    | exact J.hok.none_of z
  ·simp only[zu8,zu4,zv1,or_false] at z;rcases z with (z|z)|z
   ·exact absurd z f6
   ·subst z
    first
     | exact F.newT
     | exact F.freeT
   ·obtain⟨_,o,ho,nf⟩:=J.stack.mem z;obtain⟨sl,q⟩:=up T' o ho nf;rw[f7] at q;cases q;exact absurd f8 (nf _)
end
section
variable{P:Program}{w:World}{K:Frag}{mg:Str->Option Value}{base:Heap}{N:List Str}{qual:Str}{scope:Scope}{f:Addr}{cd:Value}{A:Around}{outer:List Env}{s0:Shared}{H0:Hp}{E:XK}
 {pins:List (Addr×Obj)} {σ:St} {H H':Hp} {s s':Shared} {h':Heap} {e T:Addr} {cls:Value}
theorem Bu(hx:X.ex=[])(J:Inv X pins σ H s)(hst:X.stack=X.env :: X.outer)(hf:X.env.frame=some X.env.locals)(t:Oz X ch s.heap h')(hch:∀ b∈ch,X.s₀.heap.get? b=none) :
  Un X.fs [] X.H₀ H X.s₀.heap h':=by
 have nb:∀ b o,X.s₀.heap.get? b=some o->b∉ch:=fun b o q m=>by rw[hch b m] at q;cases q
 have mem:∀ b,b∈frs X.stack↔b=X.env.locals\/b∈X.fs:=fun b=>by
  unfold Cx.fs frs;rw[hst,zws,hf];exact zu4
 have neL:∀ b o,X.s₀.heap.get? b=some o->b≠X.env.locals:=fun b o q=>zvq (zvk (Heap.lt_size q) J.ok.above);have nx:∀ b:Addr,b∉X.ex:=fun b=>by rw[hx];simp
 refine⟨fun b o q n hb _=>?_,fun b o q n hb _=>?_,fun b o q n _=>J.base.free b o q n (nx b),fun b o q _=>?_,J.base.tups,J.base.frzs,J.base.tbls⟩
 ·refine t.keep b o (J.base.keep b o q n hb (nx b)) (nb b o q) fun m=>?_;exact((mem b).mp m).elim (neL b o q) hb
 ·obtain⟨sl,z⟩:=J.base.slot b o q n hb (nx b);obtain⟨sl',z'⟩:=t.slot b _ z (nb b o q) ((mem b).mpr (.inr hb));exact⟨sl',z'⟩
 ·obtain⟨o',z⟩:=J.base.there b o q (nx b);by_cases m:b∈frs X.stack
  ·obtain⟨_,z'⟩:=t.slot b o' z (nb b o q) m;exact⟨_,z'⟩
  ·exact⟨o',t.keep b o' z (nb b o q) m⟩
theorem Zj:W8 (CX1 P w) (cxOf (CX1 P w) P w K mg base N qual scope f cd A outer s0 H0 E) E:=by
 intro pins σ H s ev s' I h;obtain⟨a,T,cls,H',q0,ho,hg,u,hok,F,hE⟩:=h;subst q0;have J:=I.raised ho hg u hok;obtain⟨a0,hfl⟩:=F.flying J J.stack (fun _ z=>z);refine wpAny_leaves_onW (base:=PySem.W.hideAll s'.heap ([a,T]++frs _)) J.ok.frames rfl hfl fun h2 hfl2 up=>?_;have old:∀ b,s.heap.get? b=none->s0.heap.get? b=none:=fun b n=>by
  cases q:s0.heap.get? b with
  | none=>rfl
  | some o =>
    obtain⟨_,z⟩:=I.base.there b o q (by show b∉([]:List Addr);simp);rw[n] at z;cases z
 have old2:∀ b,s'.heap.get? b=none->s0.heap.get? b=none:=fun b n=>by
  cases q:s0.heap.get? b with
  | none=>rfl
  | some o =>
    obtain⟨_,z⟩:=J.base.there b o q (by show b∉([]:List Addr);simp);rw[n] at z;cases z
 have t:=Oz.of (as:=[a,T]) J hfl2.1 up;have F0:Fly s0.heap H' s'.heap a T cls:=⟨F.ex,old _ F.newE,old _ F.newT,F.freeE,F.freeT⟩;obtain⟨T',F'⟩:=F0.again J old2 up hfl2.1 hfl2.2.2.2;refine⟨a,T',cls,H',rfl,J.os,J.bare,Bu rfl J rfl rfl t ?_,t.hok J ?_,F',hE⟩
 ·intro b hb;rcases zu4.mp hb with rfl|hb
  ·exact F0.newE
  ·rcases zu4.mp hb with rfl|hb
   ·exact F0.newT
   ·cases hb
 ·intro b hb;rcases zu4.mp hb with rfl|hb
  ·exact F.freeE
  ·rcases zu4.mp hb with rfl|hb
   ·exact F.freeT
   ·cases hb
def ziq(X:Cx)(E:XK):Prop:=∀ (pins:List (Addr×Obj)) (σ:St) (H:Hp) (s:Shared) (h':Heap) (e C:Addr) (args:List Value),Inv X pins σ H s->Heap.MadeExcOf s.heap h' e (.ref C) args->E (.ref C) none H->X.xe (.ref e) { s with heap:=h' }
theorem Xn:ziq (cxOf (CX1 P w) P w K mg base N qual scope f cd A outer s0 H0 E) E:=by
 intro pins σ H s h1 e C args I hm hE;refine wpAny_leaves_madeW (base:=PySem.W.hideAll s.heap ([]++frs _)) (h:=s.heap) I.ok.frames rfl (fun b o q=>PySem.W.of_hideAll _ q)
  (PySem.W.funFrames_hide I.stack fun env he a ha=>by
   have:a∈frs _:=zwo.mpr ⟨env,he,ha⟩
   simpa using this) hm fun h2 t hfl _ _ up=>?_
 have up2:s.heap.UpToSlots h2:=(Heap.UpToSlots.of_keeps hm.keeps).trans up;have tt:=Oz.of (as:=[]) I hfl.1 up2;have old2:∀ b,s.heap.get? b=none->s0.heap.get? b=none:=fun b n=>by
  cases q:s0.heap.get? b with
  | none=>rfl
  | some o =>
    obtain⟨_,z⟩:=I.base.there b o q (by show b∉([]:List Addr);simp);rw[n] at z;cases z
 obtain⟨oe,vs,T',oT,ts,f1,⟨f2,_⟩,f3,f4,f5,f6,f7,f8,f9⟩:=hfl.2.2.2;have nT:s.heap.get? T'=none:=by
  rcases Bt f5 with z|z
  ·exact z
  ·have z':T'∈frs (cxOf (CX1 P w) P w K mg base N qual scope f cd A outer s0 H0 E).stack:=(zu8.mp z).resolve_left (by simp);obtain⟨_,o,ho,nf⟩:=I.stack.mem z';obtain⟨sl,q⟩:=up2 T' o ho nf;rw[f7] at q;cases q;exact absurd f8 (nf _)
 refine⟨e,T',.ref C,H,rfl,I.os,I.bare,Bu rfl I rfl rfl tt (fun _ z=>nomatch z),tt.hok I (fun _ z=>nomatch z),⟨⟨oe,vs,oT,ts,f1,f2,f3,f4,f6,f7,f8,f9⟩,old2 _ hm.new,old2 _ nT,I.hok.none_of hm.new,I.hok.none_of nT⟩,hE⟩
end
structure Q5(K:Frag)(mg:Str->Option Value)(x:Str)(C:Addr):Prop where
 nm:mg x=some (.ref C)
 ex:PySem.W.excIn K C [.type "ValueError",.type "Exception",.type "BaseException",.type "object"] "ValueError.__new__"=true
theorem Q5.own{K:Frag}{mg:Str->Option Value}{x:Str}{C:Addr}{h:Heap}(c:Q5 K mg x C)(X:K.In h):OwnCls x C [.type "ValueError",.type "Exception",.type "BaseException",.type "object"] "ValueError.__new__" mg h:=by
 refine⟨c.nm,?_⟩;have q:=c.ex;unfold PySem.W.excIn at q;split at q
 ·rename_i dd cd sl ho;split at q
  ·rename_i C' bm k0 k1 k2 k3 n k5 hm hs;simp only[zwd,beq_iff_eq,Bool.not_eq_true'] at q;obtain⟨⟨⟨⟨⟨rfl,rfl⟩,hdel⟩,ht⟩,hok⟩,hni⟩:=q;obtain⟨nm,bs,mro,ns,qn,hd,sn,sub,ab,col,del⟩:=cd;dsimp only at hm hdel hok hni;subst hm hdel;have hsl:sl=#[k0,k1,k2,k3,some (.builtin "ValueError.__new__"),k5]:=by
    obtain⟨l⟩:=sl;simp only at hs;rw[hs]
   subst hsl;exact⟨bm,ns,nm,qn,bs,hd,sn,sub,ab,col,dd,k0,k1,k2,k3,k5,_,X _ _ ho,.of_isNs (PySem.W.isNs_of_in X hok),PySem.W.nsMap_none_of_in X hok hni,PySem.W.tail_of_in X ht⟩
  ·cases q
 ·cases q
inductive zhq(C:Addr)(E:XK)(vs:List V)(H1:Hp):Prop where
 | mk(_:vs.length<=sizeLine)(_:E (.ref C) none H1)
def zjq(C:Addr)(E:XK)(t:TA):TS:=fun _ σ H=>t σ H fun vs H1=>zhq C E vs H1
theorem Xo{X:Cx}{x:Str}{C:Addr}{E:XK}{e₀:Expr}{rest:List Expr}{t:TA}{np cpos pos:Pos}(hl:ziq X E)(hc:X.calm=true)(c:Q5 X.K X.mg x C)(hg:Gl X x)(ha:PA X (e₀ :: rest) t)
  (he:starEach (e₀ :: rest) X.env=(false,eval e₀ X.env) :: starEach rest X.env:=by rfl) (hplain:(backTo cpos (starEach rest X.env)).any (·.1)=false:=by rfl) (hd:(x == ("__debug__":Str))=false:=by decide) :
  PS X (.Raise (some (.Call (.Name x np) (e₀ :: rest) [] cpos)) none pos) (zjq C E t):=by
 intro pins s σ H D I h;have O:=c.own I.mod.kin;obtain⟨tl,N,nm,q,bs,hdct,sn,sub,ab,col,dd,k0,k1,k2,k3,k5,mN,hC,hN,hni,T⟩:=O.obj;refine wpAny_Raise_call_subT (C:=C) (nm:=nm) (q:=q) (N:=N) (bs:=bs) (bm:=tl) (hdct:=hdct) (sn:=sn) (sub:=sub) (ab:=ab) (col:=col) (dd:=dd) (k0:=k0) (k1:=k1) (k2:=k2) (k3:=k3) (k5:=k5)
  PySem.F.excBase_ValueError (mN:=mN) (T.hasType (by rfl)) (I.ok.hd hc) (by rw[he];show (false||(backTo cpos (starEach rest X.env)).any (·.1))=false;rw[hplain];rfl) hni (N2 I hg c.nm ⟨rfl,?_⟩ hd)
 have hp:=ha cpos pins s σ H _ I h;rw[he] at hp ⊢;refine Calls.evalArgs_plain (wpAny_mono hp (fun us s2 h2=>?_) fun _ _ y=>y);obtain⟨vs,H1,I1,r,hlen,hE⟩:=h2;exact⟨rfl,by rw[<- r.length];exact hlen,I1.bk _ _ hC,hN.keeps I1.bk,T.keeps I1.bk,fun h' e hm=>hl _ _ _ _ _ _ _ _ I1 hm hE⟩
structure zmi(K:Frag)(CB:Addr):Prop where
 ty:PySem.W.typeIn K (.ref CB)=some (.type "type")
 cl:(PySem.W.clsIn K CB).isSome=true
 bx:PySem.W.mroIn K CB (.type "BaseException")=some true
end L2
namespace L2
open PySem PySem.Spec PyProof.Rows PySem.W PySem.Calls PySem.Builtin PySem.Builtin.ObjectAttr PySem.Builtin.Getset_descriptor
def zk8(a:Addr)(cls:Value):HO:=.ext fun h=>∃ o vs,h.get? a=some o/\o.cls=cls/\o.data=.fields vs
structure zdz(K:Frag)(D:Addr):Prop where
 ga:findIn K (.ref D) "__getattribute__"=some (some (.builtin "BaseException.__getattribute__"))
 gk:findIn K (.ref D) "__getattr__"=some none
 cl:(clsIn K D).isSome=true
 at_:findIn K (.ref D) "__class__"=some (some (.builtin "object.__class__"))
 gt:specialIn K (.builtin "object.__class__") "__get__"=some (some (.builtin "getset_descriptor.__get__"))
 tk:takesIn K (.builtin "object.__class__")=some true
 mo:mroIn K D (.type "object")=some true
 mx:mroIn K D (.type "BaseException")=some true
section
variable{prog:Program}{w:World}{A:Around}{E:Value->Shared->Prop}{s:Shared}{K:Frag}{x D:Addr}
theorem zfq(X:K.In h)(c:zdz K D):Looks M h (find (.ref x) (.ref D) "__class__") (.bind (.builtin "getset_descriptor.__get__") (.builtin "object.__class__")):=by
 have L1:=looks_findIn (M:=M) X c.at_;have L2:Looks M h (getOf (some (.builtin "object.__class__"))) (some (.builtin "getset_descriptor.__get__")):=looks_specialIn X c.gt;have L3:=looks_takesIn (M:=M) X c.tk;exact L1.andThen (L2.andThen ((show Looks M h (dataDescriptor? (some (.builtin "object.__class__")) (some (.builtin "getset_descriptor.__get__"))) (some (.builtin "getset_descriptor.__get__",.builtin "object.__class__")) from L3.andThen .now).andThen (Looks.tag .now)))
theorem za6(X:K.In s.heap)(hx:s.heap.get? x=some o)(hc:o.cls=.ref D)(c:zdz K D)(q:R (.ok (.ret (.ref D))) s) :
  codeAny (model prog w) A (.call (.builtin "getset_descriptor.__get__") ⟨[.builtin "object.__class__",.ref x,.ref D],[]⟩) R s:=by
 obtain⟨hh,g,d,t,os⟩:=s;have L0:Looks (model prog w) hh (typeOf (.ref x)) (.ref D):=hc▸(Looks.ld hx).andThen .now;have Lm:=looks_mroIn (M:=model prog w) X c.mo;refine codeAny_call_builtin KF.slot_gs.plain KF.entry_gs (KF.slot_gs.check _ _ _ _ _ _ _ _ KF.type_class (KF.args_gs _ _ _) ?_);unfold Builtin.«getset_descriptor.__get__» descrGet;rw[dga_obj];refine wpAny_bind (wpAny_pure ?_);unfold descrGetter descrCheckInstance descrNameAndClass isInstance;simp only[KF.owner_class]
 repeat lk
 refine⟨Code.quiet_builtin _ ⋯,codeAny_builtin KF.entry_class ?_⟩;unfold Builtin.«object.__class__» shownTypeOf
 repeat lk
 exact q
theorem zjr(X:K.In s.heap)(hx:s.heap.get? x=some o)(hc:o.cls=.ref D)(c:zdz K D)(q:Q (.done (.ret (.ref D))) s) :
  wpAny (model prog w) A (Builtin.«object.__getattribute__» ⟨[.ref x,.str "__class__" tk],[]⟩) Q E s:=by
 have L0:Looks (model prog w) s.heap (typeOf (.ref x)) (.ref D):=hc▸(Looks.ld hx).andThen .now;have Lf:=zfq (x:=x) (M:=model prog w) X c;have e1:slotArgs "__getattribute__" 1 ⟨[.ref x,.str "__class__" tk],[]⟩=pure (.ref x,[.str "__class__" tk]):=rfl;unfold Builtin.«object.__getattribute__»;rw[e1];refine wpAny_bind (wpAny_pure ?_);refine wpAny_bind (show wpAny _ _ (attrName (.str "__class__" tk)) _ _ _ from wpAny_pure ?_);obtain⟨hh,g,d,t,os⟩:=s;refine wpAny_bind (L0.at (wpAny_bind (Lf.at ?_)));show wpAny _ _ (bindTo _ _ _ _) _ _ _;unfold bindTo;dsimp only;refine wpAny_bind (wpAny_holding (wpAny_call (za6 X hx hc c ?_)));exact wpAny_pure q
theorem Fd(X:K.In s.heap)(hx:s.heap.get? x=some o)(hc:o.cls=.ref D)(c:zdz K D)(q:Q (some (.ref D)) { s with toks:=s.toks+1 }) :
  wpAny (model prog w) A (getAttr? (.ref x) "__class__") Q E s:=by
 obtain⟨hh,g,d,t,os⟩:=s;have L0:Looks (model prog w) hh (typeOf (.ref x)) (.ref D):=hc▸(Looks.ld hx).andThen .now;have La:=looks_findIn (M:=model prog w) X c.ga;have Lk:=looks_findIn (M:=model prog w) X c.gk;have Lx:=looks_mroIn (M:=model prog w) X c.mx;have hb:=PySem.F.attr_ValueError.ga.bind (.ref x);have hne0:(Value.builtin "BaseException.__getattribute__" == Value.builtin "object.__getattribute__")=false:=by decide +kernel
 have hne:(onTheHeap (Value.ref D)&&Value.builtin "BaseException.__getattribute__" == Value.builtin "object.__getattribute__")=false:=by rw[hne0];rfl
 unfold getAttr? getAttrBy? getAttrBy;refine wpAny_bind (wpAny_mkText (wpAny_bind (wpAny_attempt (wpAny_holding (wpAny_bind (L0.at (wpAny_bind (La.at ?_))))))));dsimp only;rw[if_neg (by rw[hne];decide)];unfold getAttrByItsOwn;refine wpAny_bind (show wpAny _ _ (typeLookup (.ref D) "__getattr__") _ _ _ from Lk.at ?_);refine wpAny_bind (wpAny_attempt (wpAny_holding ?_));show wpAny _ _ (boundAndCalled _ _ _) _ _ _;unfold boundAndCalled;rw[hb];refine wpAny_bind (wpAny_pure (wpAny_call ?_));refine codeAny_call_builtin PySem.F.attr_ValueError.ga.plain PySem.F.entry_bexc_ga ?_;have hk:builtinKind "BaseException.__getattribute__"=some .slot:=by decide +kernel
 have hsplit:splitId "BaseException.__getattribute__"=some ("BaseException","__getattribute__"):=by decide +kernel
 have ha:=PySem.F.args_bexc_ga (.ref x) (.str "__class__" t);simp only[checkBuiltinCall,hk,hsplit,List.cons_append,List.nil_append];unfold isInstance
 repeat (first|with_reducible refine zjr X hx hc c ?_|lk)
 exact q
theorem zfr(c:zdz K D):KitX K (.ref x) (.ref D) (fun h=>∃ o,h.get? x=some o/\o.cls=.ref D) where
 ty:=fun M h _ p=>by obtain⟨o,hx,hc⟩:=p;exact hc▸(Looks.ld hx).andThen .now
 it:=fun _ _ X _=>by
  have z:=c.cl;unfold clsIn at z;split at z
  ·rename_i ho;intro A' Q' E' s' k q;unfold isType loadHead;exact wpAny_bind (wpAny_loadPart (k _ _ (X _ _ ho)) (wpAny_pure q))
  ·cases z
 ne:=fun h tp dd its n sl X htp=>by
  refine Bool.eq_false_iff.mpr fun q=>?_;have e:D=tp:=Value.ref.inj (beq_iff_eq.mp q);subst e;have z:=c.cl;unfold clsIn at z;split at z
  ·rename_i ho;have z:=(X _ _ ho).symm.trans htp;cases z
  ·cases z
 ca:=fun X p q=>by obtain⟨o,hx,hc⟩:=p;exact Fd X hx hc c q
end
inductive TyX(K:Frag)(H:Hp)(x:V)(t:Value):Prop where
 | of (h:M5 K H x t):TyX K H x t
 | exc {a D:Addr} (ex:x=.ref a) (et:t=.ref D) (h:H a=some (zk8 a (.ref D))) (c:zdz K D):TyX K H x t
def zk9:V->Value
 | .ty n=>.type n
 | .ref a=>.ref a
 | _=>.none
inductive zla(K:Frag)(xs:List V)(H:Hp)(Q:VK):Prop where
 | mk(x)(c)(t)(b)(_:xs=[x,c])(_:TyX K H x t)(_:((∃ n,c=.ty n)\/∃ a,c=.ref a))(_:kitOne K t (zk9 c)=some b)(_:Q (.bl b) H)
theorem zfs:Vm X (.builtin "isinstance") (zla X.K):=by
 intro pins s σ H xs us Q I r h;obtain⟨x,c,t,b,rfl,ty,hc,hk,q⟩:=h;obtain⟨u,w',rfl,r1,r2⟩:=ze9 r;have e:w'=zk9 c:=by
  rcases hc with ⟨n,rfl⟩|⟨a,rfl⟩
  ·exact r2
  ·exact r2
 subst e;cases ty with
 | of ty=>exact zdn I r1 ty hk fun tk=>⟨.bl b,H,I.tok tk,rfl,q⟩
 | @exc a D ex et ha cl =>
   subst ex et;cases (show u=Value.ref a from r1);obtain⟨⟨o,vs,ho,hcl,_⟩,_⟩:=(show Y6 X.prog X.w H s.heap a (zk8 a (.ref D)) from I.hok a _ ha);exact kia_one (zfr cl) I.kIn ⟨o,ho,hcl⟩ hk (fun z=>nomatch z) fun tk=>⟨.bl b,H,I.tok tk,rfl,q⟩
structure zmn(X:Cx):Prop where
 ex:X.ex=[]
 lk:X.lk=[]
 st:X.stack=X.env :: X.outer
 fr:X.env.frame=some X.env.locals
section
variable{P:Program}{w:World}{K:Frag}{mg:Str->Option Value}{base:Heap}
theorem Fun.okX{x qual:Str}{st:Stmt}{f:Addr}{fd:FuncData}{N ps:List Str}{k:Nat}{sp:Sp}(F:Fun K x qual st f fd)(S:Zl N ps (Zi st))(len:∀ vs H Q E,sp vs H Q E->vs.length=ps.length)
  (hbody:∀ (cdv:Value) (A:Around) (outer:List Env) (s:Shared) (H:Hp) (vs:List V) (Q:VK) (E:XK),W5 k (A.deeper (envOfC qual (Zi st) s.heap.objs.size f cdv))->sp vs H Q E ->
   ∃ t,PSs (cxOf (CX1 P w) P w K mg base N qual (Zi st) f cdv A outer s H E) (Zv st) t/\t { nx:=fun _ H'=>Q .non H',rt:=Q } (Km N vs) H):FnOk P w K mg base (CX1 P w) (k+1) f fd ps sp:=by
 obtain⟨oc,od,kV,doc,pm,an,cdv,ct,osl,rfl,lk,hcd⟩:=F.ex;exact zky lk hcd S len fun A outer s H vs Q E hr hsp=>hbody cdv A outer s H vs Q E hr hsp
end
def Fe{α:Type}(p:α->Prop):List α->Prop
 | []=>True
 | a :: r=>p a/\Fe p r
theorem Fe.get:∀ {l:List α} {a:α},Fe p l->a∈l->p a
 | _ :: _,_,h,.head _=>h.1
 | _ :: _,_,h,.tail _ m=>Fe.get h.2 m
def Y0(X:Cx)(pn:List (Addr×Obj))(Nc:List Str)(scope:Scope)(cl:List (Str×Addr))(s₀:Shared)(H₀:Hp)(fp:List Addr)(C:Addr):Cx :=
 { X with N:=Nc,s₀:=s₀,H₀:=H₀,env:=compEnvC scope cl C X.env,outer:=X.stack,stack:=X.stack,ex:=fp,fn:=fun _=>false,pn:=pn,xe:=fun _ _=>False,lk:=[] }
def cs(js:List Nat)(σ:St)(x:V):St:=some x :: js.map fun j=>(σ[j]?).getD none
def PTs(X:Cx)(ifs:List Expr)(t:TT):Prop :=
 ∀ (pins:List (Addr×Obj)) (s:Shared) (σ:St) (H:Hp) (Q:Bool->Hp->Prop),Inv X pins σ H s->t σ H Q ->
   wpAny (model X.prog X.w) X.A (forIn ifs true fun c r=>if r=true then do let ok <- isTrue c X.env (eval c X.env);pure (ForInStep.yield ok) else pure (ForInStep.yield r)) (TP X pins σ Q) X.xe s
def tYes:TT:=fun _ H Q=>Q true H
theorem U7:PTs X [] tYes:=fun _ _ _ H _ I h=>wpAny_tests_nil ⟨H,I,h⟩
theorem Se(h:PT X c t):PTs X [c] t:=fun pins s σ H Q I q=>wpAny_tests_one (h pins s σ H Q I q)
def Bv(J:It)(js:List Nat)(tt:TT)(te:TE)(σ:St)(H:Hp)(Q:VK):Prop:=∃ W:Nat->Nat->List V->Hp->Prop,(∃ m,W 0 m [] H)/\∀ i m ys H,W i m ys H ->
 (J.stop i H/\ys.length<=sizeLine/\∀ p,H p=none->Q (.ref p) (upd H p (.lst ys))) \/
 (J.go i H/\ys.length<sizeLine/\∃ N:List V->Hp->Prop,(∀ ys' H',N ys' H'->∃ m',m' < m/\W (i+1) m' ys' H')/\∀ x H',J.yld i H x H'->tt (cs js σ x) H' fun b H2=>if b=true then te (cs js σ x) H2 fun y H3=>N (ys++[y]) H3 else N ys H2)
def zir(wi:TI)(js:List Nat)(tt:TT)(te:TE):TE:=fun σ H Q=>wi σ H fun J H1=>Bv J js tt te σ H1 Q
section
variable{X:Cx}{elt iter:Expr}{x:Str}{px pos:Pos}{ifs:List Expr}{scope:Scope}{cl:List (Str×Addr)}{ys:List Str}{js:List Nat}
structure zcj(X:Cx)(x:Str)(scope:Scope)(cl:List (Str×Addr))(ys:List Str)(js:List Nat):Prop where
 clos:closureFor scope X.env=pure cl
 kind:scope.kind=.function
 names:∀ y∈scope.names,y.2=.local->scope.names.lookup y.1=some .local
 nocell:∀ y∈scope.names,y.2≠.cell
 own:scope.names.lookup x=some .local
 nd:(x :: ys).Nodup
 at_:js.map (X.N[·]?)=ys.map some
 free:Fe (fun y=>X.env.kindOf y=some .cell/\(relabel scope X.env).names.lookup y=some .cell/\cl.lookup y=X.env.cells.lookup y) ys
 only:Fe (fun p=>X.env.cells.lookup p.1=some p.2) cl
 vis:∀ y∈scope.names,y.2=.free->y.1∈ys
theorem N6{env:Env}:∀ {names:List (Str×NameKind)} {y:Str},(names.map fun (n,k)=>if (k == NameKind.free&&env.scope.kind == .function&&env.kindOf n == some .cell) then (n,NameKind.cell) else (n,k)).lookup y=some .cell \/
  (names.map fun (n,k)=>if (k == NameKind.free&&env.scope.kind == .function&&env.kindOf n == some .cell) then (n,NameKind.cell) else (n,k)).lookup y=some .free->∃ k,(y,k)∈names/\(k=.cell\/k=.free)
 | [],_,h=>by rcases h with h|h<;>simp at h
 | (n,k) :: r,y,h=>by
   by_cases hx:y=n
   ·subst hx;refine⟨k,zvt,?_⟩;rw[zu9] at h;dsimp only at h;by_cases hc:(k == NameKind.free&&env.scope.kind == .function&&env.kindOf y == some .cell)=true
    ·simp only[zwd,beq_iff_eq] at hc;exact .inr hc.1.1
    ·rw[if_neg hc] at h;simp only[zvw,beq_self_eq_true] at h;rcases h with h|h
     ·exact .inl (Option.some.inj h)
     ·exact .inr (Option.some.inj h)
   ·have hb:(y == n)=false:=zvl.mpr hx;have ih:=@N6 env r y;rw[zu9] at h;have key:∀ z:Str×NameKind,z.1=n->List.lookup y (z :: (r.map fun (n,k)=>if (k == NameKind.free&&env.scope.kind == .function&&env.kindOf n == some .cell) then (n,NameKind.cell) else (n,k))) =
      List.lookup y (r.map fun (n,k)=>if (k == NameKind.free&&env.scope.kind == .function&&env.kindOf n == some .cell) then (n,NameKind.cell) else (n,k)):=fun z hz=>by
     obtain⟨z1,z2⟩:=z;cases hz;simp only[zvw,hb]
    rw[key _ (by dsimp only;split<;>rfl)] at h;obtain⟨k',m,q⟩:=ih h;exact⟨k',zvg _ m,q⟩
variable{wi:TI}{tt:TT}{te:TE}
end
theorem Wl{K:Frag}{js:List Nat}{tt:TT}{te:TE}{a:Addr}{xs:List V}{σ:St}{H:Hp}{Q:VK}(Pv:Nat->List V->Hp->Prop)(h0:Pv 0 [] H)(hl:∀ i ys H,i<=xs.length->Pv i ys H->SqL K H a xs)(hz:xs.length<=sizeLine)
  (hy:∀ i ys H,Pv i ys H->ys.length<=i)
  (hs:∀ i x ys H,xs[i]?=some x->Pv i ys H->tt (cs js σ x) H fun b H2=>if b=true then te (cs js σ x) H2 fun y H3=>Pv (i+1) (ys++[y]) H3 else Pv (i+1) ys H2)
  (hd:∀ ys H,Pv xs.length ys H->∀ p,H p=none->Q (.ref p) (upd H p (.lst ys))):Bv (Itl K a) js tt te σ H Q:=by
 refine⟨fun i m ys H=>m=xs.length-i/\i<=xs.length/\Pv i ys H,⟨xs.length,by simp,zvo _,h0⟩,?_⟩;rintro i m ys H ⟨rfl,hi,p⟩;have q:=hl i ys H hi p;have ly:=hy i ys H p;by_cases hlt:i<xs.length
 ·refine .inr ⟨⟨xs,xs[i],q,by simp[hlt]⟩,by omega,Pv (i+1),fun ys' H' p'=>⟨xs.length-(i+1),by omega,rfl,hlt,p'⟩,fun x H' y=>?_⟩;obtain⟨e,y⟩:=y;subst e;exact hs i x ys _ (y xs q) p
 ·have e:i=xs.length:=by omega
  subst e;exact .inl ⟨⟨xs,q,zu7 _⟩,by omega,hd ys H p⟩
theorem J7{js:List Nat}{tt:TT}{te:TE}{lo:Int}{n:Nat}{σ:St}{H:Hp}{Q:VK}(Pv:Nat->List V->Hp->Prop)(h0:Pv 0 [] H)(hz:n<=sizeLine)(hy:∀ i ys H,Pv i ys H->ys.length<=i)
  (hs:∀ i ys H,i<n->Pv i ys H->tt (cs js σ (.int (lo+i))) H fun b H2=>if b=true then te (cs js σ (.int (lo+i))) H2 fun y H3=>Pv (i+1) (ys++[y]) H3 else Pv (i+1) ys H2)
  (hd:∀ ys H,Pv n ys H->∀ p,H p=none->Q (.ref p) (upd H p (.lst ys))):Bv (Itr lo n) js tt te σ H Q:=by
 refine⟨fun i m ys H=>m=n-i/\i<=n/\Pv i ys H,⟨n,by simp,zvo _,h0⟩,?_⟩;rintro i m ys H ⟨rfl,hi,p⟩;have ly:=hy i ys H p;by_cases hlt:i<n
 ·refine .inr ⟨hlt,by omega,Pv (i+1),fun ys' H' p'=>⟨n-(i+1),by omega,rfl,hlt,p'⟩,fun x H' y=>?_⟩;obtain⟨e,y⟩:=y;subst e y;exact hs i ys _ hlt p
 ·have e:i=n:=by omega
  subst e;exact .inl ⟨zu7 _,by omega,hd ys H p⟩
theorem Ew{js:List Nat}{te:TE}{lo:Int}{n:Nat}{σ:St}{H:Hp}{Q:VK}(f:Nat->V)(hz:n<=sizeLine)
  (hs:∀ i (R:VK),i<n->R (f i) H->te (cs js σ (.int (lo+i))) H R) (hd:∀ p,H p=none->Q (.ref p) (upd H p (.lst ((List.range n).map f)))):Bv (Itr lo n) js tYes te σ H Q:=by
 refine J7 (fun i ys H'=>H'=H/\ys=(List.range i).map f) ⟨rfl,rfl⟩ hz (fun i ys H' ⟨_,e⟩=>by rw[e,zuw,zvu];exact zu7 _) (fun i ys H' hi ⟨e1,e2⟩=>?_) fun ys H' ⟨e1,e2⟩ p hp=>?_
 ·subst e1;unfold tYes;dsimp only;rw[if_pos rfl];refine hs i _ hi ⟨rfl,?_⟩;rw[e2,List.range_succ,zu5];rfl
 ·subst e1;rw[e2];exact hd p hp
theorem Ko:∀ {xs:List V} {us:List Value},xs.length=us.length->(∀ (j:Nat) x u,xs[j]?=some x->us[j]?=some u->RelV x u)->Vals xs us
 | [],[],_,_=>.nil
 | x :: xs,u :: us,hl,h=>.cons (h 0 x u rfl rfl) (Ko (by simpa using hl) fun j x' u' h1 h2=>h (j+1) x' u' (by simpa using h1) (by simpa using h2))
abbrev TF:=St->Hp->(Hp->Prop)->Prop
def PF(X:Cx)(e:Expr)(t:TF):Prop :=
 ∀ (pins:List (Addr×Obj)) (s:Shared) (σ:St) (H:Hp) (k:Hp->Prop),Inv X pins σ H s->t σ H k ->
   wpAny (model X.prog X.w) X.A (eval e X.env) (fun u s'=>∃ y tk H',u=.str y tk/\y.length<=10000/\Inv X pins σ H' s'/\k H') X.xe s
def PFs(X:Cx)(es:List Expr)(t:TF):Prop :=
 ∀ (pins:List (Addr×Obj)) (s:Shared) (σ:St) (H:Hp) (k:Hp->Prop) (acc:Str),Inv X pins σ H s->acc.length+10000*es.length<=sizeLine->t σ H k ->
   Joins (model X.prog X.w) X.A X.xe (evalEach es X.env) acc (fun out s'=>out.length<=sizeLine/\∃ H',Inv X pins σ H' s'/\k H') s
def zlb:TF:=fun _ H k=>k H
def zlc(t u:TF):TF:=fun σ H k=>t σ H fun H1=>u σ H1 k
def okF(v:V):Prop:=(∃ i,v=.int i/\i.natAbs.log2<1920)\/∃ y,v=.str y/\y.length<=10000
def zl6(te:TE):TF:=fun σ H k=>te σ H fun v H1=>okF v/\k H1
def zld(t:TF):TE:=fun σ H Q=>t σ H fun H1=>∀ z,Q (.str z) H1
section
variable{X:Cx}{e:Expr}{es:List Expr}{te:TE}{t u:TF}{pos:Pos}
theorem X8{j}(h:x.length<=10000):PF X (.Constant (.str x) j pos) zlb:=fun _ _ _ H _ I hk=>Calls.Constant_str ⟨x,_,H,rfl,h,I.tok _,hk⟩
theorem W9(he:PE X e te):PF X (.FormattedValue e (-1) none pos) (zl6 te):=by
 intro pins s σ H k I h;refine FormattedValue_plain (thn (he pins s σ H _ I h) fun v s1 ⟨x,H1,I1,r1,ok,hk⟩=>?_);rcases ok with ⟨i,rfl,hi⟩|⟨y,rfl,hy⟩
 ·obtain⟨t,rfl⟩:=r1;refine formatField_int_small hi ⟨_,_,H1,rfl,?_,I1.tok _,hk⟩;have:=int_text_length_le (k:=1920) ⋯ hi;show (Str.ofString (toString i)).length<=10000;rw[PySem.ofString_length];omega
 ·obtain⟨t,rfl⟩:=r1;exact formatField_str (fun t' tk=>⟨y,t',H1,rfl,hy,I1.tok tk,hk⟩) (by rw[sizeLine_eq];omega)
theorem Vn:PFs X [] zlb:=fun _ _ _ H _ _ I hz hk=>⟨by simpa using hz,H,I,hk⟩
theorem Z5(h1:PF X e t)(h2:PFs X es u)(hs:evalEach (e :: es) X.env=eval e X.env :: evalEach es X.env:=by rfl):PFs X (e :: es) (zlc t u):=by
 intro pins s σ H k acc I hz h;rw[hs];refine thn (h1 pins s σ H _ I h) fun v s1 ⟨y,tk,H1,e1,hy,I1,hk⟩=>⟨y,tk,e1,?_,?_⟩
 ·rw[strLen_append];rw[zvi] at hz;omega
 ·exact h2 pins s1 σ H1 k _ I1 (by rw[strLen_append];rw[zvi] at hz;omega) hk
theorem Vo(h:PFs X (e :: e' :: es) t)(hl:es.length<=100):PE X (.JoinedStr (e :: e' :: es) pos) (zld t):=by
 intro pins s σ H Q I h';refine wpAny_JoinedStr ?_;have q:=h pins s σ H _ Str.empty I (by rw[sizeLine_eq];simp only[zvi];have:Str.empty.length=0:=rfl;omega) h';have mono:∀ (ps:List (Sem Value)) (acc:Str) (Q1 Q2:Str->Shared->Prop) (s:Shared),(∀ o s,Q1 o s->Q2 o s)->Joins (model X.prog X.w) X.A X.xe ps acc Q1 s->Joins (model X.prog X.w) X.A X.xe ps acc Q2 s:=by
  intro ps
  induction ps with
  | nil=>intro acc Q1 Q2 s m z;exact m _ _ z
  | cons p r ih=>intro acc Q1 Q2 s m z;exact thn z fun v s1 ⟨y,tk,e1,hz,z1⟩=>⟨y,tk,e1,hz,ih _ _ _ _ m z1⟩
 refine mono _ _ _ _ _ (fun out s1 ⟨hz,H1,I1,hk⟩=>⟨hz,.str out,H1,I1.tok _,⟨_,rfl⟩,hk out⟩) q
end
section
variable{X:Cx}
theorem za7(hc:X.calm=true):Vm X (.type "list") (fun xs H Q=>∃ a kvs,xs=[.ref a]/\Rd H a (.dK kvs)/\∀ l,H l=none->Q (.ref l) (upd H l (.lst (kvs.map fun kv=>kV kv.1)))):=by
 intro pins s σ H xs us Q I r h;obtain⟨a,kvs,rfl,ha,q⟩:=h;obtain⟨u,rfl,ru⟩:=Qg r;cases (show u=Value.ref a from ru);obtain⟨hz,lo,vs,kv,o,es,ep,e1,e2⟩:=Qh I.hok ha;have hl:kvs.length=vs.length:=KV.length kv;refine PySem.W.kdl_call (PySem.W.kdl_dict (knd:=Yn X.prog X.w) (kvs:=vs) (ep:=ep) lo) (I.ok.hd hc) ⟨o,es,e1,e2⟩ (by rw[<- hl];exact hz) fun h' tk acc c hk hS hacc=>?_;have hf:H s.heap.objs.size=none:=I.hok.fresh (zu7 _);refine⟨.ref s.heap.objs.size,upd H s.heap.objs.size (.lst (kvs.map fun kv=>kV kv.1)),I.laid (t':=tk) hk (zu7 _) ?_,rfl,q _ hf⟩;obtain⟨accl⟩:=acc;refine⟨by rw[zuw];exact hz,accl,c,?_,hS⟩;have hlen:accl.length=vs.length:=by have:=hacc.1;simpa using this
 refine Ko (by rw[zuw,hl,hlen]) fun j x u hx hu=>?_;obtain⟨k,y,hk1,hk2⟩:=hacc.2 j u (by simpa using hu);have ek:=congrArg (·[j]?) (KV.keys kv);simp only[zu1,hk1,zv0] at ek;rw[zu1] at hx;cases hkv:kvs[j]? with
 | none=>rw[hkv] at hx;cases hx
 | some p =>
   rw[hkv] at hx ek;have e1:kV p.1=x:=Option.some.inj hx;have e2:p.1=k:=Option.some.inj ek;rw[<- e1,e2];rcases Yt hk2 with ⟨i,t,rfl,rfl⟩|⟨z,t,rfl,rfl⟩
   ·exact⟨t,rfl⟩
   ·exact⟨t,rfl⟩
end
inductive Dt where
 | non|bl (b:Bool)|int (i:Int)|str (x:Str)|lst (xs:List Dt)|tup (xs:List Dt)
mutual
inductive Is(K:Frag)(H:Hp):V->Dt->Prop where
 | non:Is K H .non .non
 | bl (b:Bool):Is K H (.bl b) (.bl b)
 | int (i:Int):Is K H (.int i) (.int i)
 | str (x:Str):Is K H (.str x) (.str x)
 | lst {a:Addr} {xs:List V} {ds:List Dt} (h:SqL K H a xs) (hs:Tf K H xs ds):Is K H (.ref a) (.lst ds)
 | tup {a:Addr} {xs:List V} {ds:List Dt} (h:SqT K H a xs) (hs:Tf K H xs ds):Is K H (.ref a) (.tup ds)
inductive Tf(K:Frag)(H:Hp):List V->List Dt->Prop where
 | nil:Tf K H [] []
 | cons {x:V} {xs:List V} {d:Dt} {ds:List Dt} (h:Is K H x d) (t:Tf K H xs ds):Tf K H (x :: xs) (d :: ds)
end
mutual
def eqD:Dt->Dt->Bool
 | .non,.non=>true
 | .bl a,.bl b=>a == b
 | .bl a,.int b=>(if a then 1 else 0) == b
 | .int a,.bl b=>a == (if b then 1 else 0)
 | .int a,.int b=>a == b
 | .str a,.str b=>a == b
 | .lst xs,.lst ys=>Ob xs ys
 | .tup xs,.tup ys=>Ob xs ys
 | _,_=>false
def Ob:List Dt->List Dt->Bool
 | [],[]=>true
 | x :: xs,y :: ys=>eqD x y&&Ob xs ys
 | _,_=>false
end
mutual
theorem Bw:∀ d:Dt,eqD d d=true
 | .non=>by simp[eqD]
 | .bl _=>by simp[eqD]
 | .int _=>by simp[eqD]
 | .str _=>by simp[eqD]
 | .lst xs=>by rw[eqD];exact M9 xs
 | .tup xs=>by rw[eqD];exact M9 xs
theorem M9:∀ ds:List Dt,Ob ds ds=true
 | []=>by simp[Ob]
 | d :: ds=>by rw[Ob,Bw d,M9 ds];rfl
end
section
variable{X:Cx}{pins:List (Addr×Obj)}{σ:St}{H:Hp}{s:Shared}
mutual
def toPy:Dt->PyData
 | .non=>.none
 | .bl b=>.bool b
 | .int i=>.int i
 | .str x=>.str x
 | .lst xs=>.list (Xi xs)
 | .tup xs=>.tuple (Xi xs)
def Xi:List Dt->List PyData
 | []=>[]
 | d :: ds=>toPy d :: Xi ds
end
mutual
theorem N7:∀ d e:Dt,PyData.eqv (toPy d) (toPy e)=eqD d e
 | .non,e=>by cases e<;>simp[toPy,eqD,PyData.eqv]
 | .bl _,e=>by cases e<;>simp[toPy,eqD,PyData.eqv]
 | .int _,e=>by cases e<;>simp[toPy,eqD,PyData.eqv]
 | .str _,e=>by cases e<;>simp[toPy,eqD,PyData.eqv]
 | .lst xs,.lst ys=>by rw[toPy,toPy,PyData.eqv,eqD];exact Lb xs ys
 | .tup xs,.tup ys=>by rw[toPy,toPy,PyData.eqv,eqD];exact Lb xs ys
 | .lst _,.non=>by simp[toPy,eqD,PyData.eqv]
 | .lst _,.bl _=>by simp[toPy,eqD,PyData.eqv]
 | .lst _,.int _=>by simp[toPy,eqD,PyData.eqv]
 | .lst _,.str _=>by simp[toPy,eqD,PyData.eqv]
 | .lst _,.tup _=>by simp[toPy,eqD,PyData.eqv]
 | .tup _,.non=>by simp[toPy,eqD,PyData.eqv]
 | .tup _,.bl _=>by simp[toPy,eqD,PyData.eqv]
 | .tup _,.int _=>by simp[toPy,eqD,PyData.eqv]
 | .tup _,.str _=>by simp[toPy,eqD,PyData.eqv]
 | .tup _,.lst _=>by simp[toPy,eqD,PyData.eqv]
theorem Lb:∀ ds es:List Dt,PyData.eqvAll (Xi ds) (Xi es)=Ob ds es
 | [],[]=>by simp[Xi,Ob,PyData.eqvAll]
 | [],_ :: _=>by simp[Xi,Ob,PyData.eqvAll]
 | _ :: _,[]=>by simp[Xi,Ob,PyData.eqvAll]
 | d :: ds,e :: es=>by rw[Xi,Xi,PyData.eqvAll,Ob,N7 d e,Lb ds es]
end
mutual
theorem Is.reads(I:Inv X pins σ H s):∀ {d:Dt} {x:V} {u:Value},Is X.K H x d->RelV x u->∃ as,Reads s.heap u (toPy d) as
 | _,_,_,.non,r=>by cases r;exact⟨_,.none⟩
 | _,_,_,.bl b,r=>by cases r;exact⟨_,.bool b⟩
 | _,_,_,.int i,r=>by obtain⟨t,rfl⟩:=r;exact⟨_,.int i t⟩
 | _,_,_,.str i,r=>by obtain⟨t,rfl⟩:=r;exact⟨_,.str i t⟩
 | _,_,_,.lst h hs,r=>by
   cases r;obtain⟨its,r1,⟨o,n',e1,e2,e3,e4⟩,_⟩:=I.list h;obtain⟨as,q⟩:=Tf.reads I hs r1;rw[toPy];exact⟨_,.list e1 e2 e4 (by simpa using q)⟩
 | _,_,_,.tup h hs,r=>by
   cases r;obtain⟨its,r1,⟨o,e1,e2,n',e4⟩,_⟩:=I.tuple h;obtain⟨as,q⟩:=Tf.reads I hs r1;rw[toPy];exact⟨_,.tuple e1 e2 e4 (by simpa using q)⟩
theorem Tf.reads(I:Inv X pins σ H s):∀ {ds:List Dt} {xs:List V} {us:List Value},Tf X.K H xs ds->Vals xs us->∃ as,ReadsAll s.heap us (Xi ds) as
 | _,_,_,.nil,r=>by cases r;exact⟨_,.nil⟩
 | _,_,_,.cons h t,r=>by
   cases r with
   | cons r1 r2 =>
     obtain⟨as,q1⟩:=Is.reads I h r1;obtain⟨bs,q2⟩:=Tf.reads I t r2;exact⟨_,.cons q1 q2⟩
end
def shD(d:Dt):Prop:=SeqAt.shaped (toPy d)=true
inductive zft(K:Frag)(neg:Bool)(x:V)(y:V)(H:Hp)(Q:VK):Prop where
 | mk(d)(e)(_:Is K H x d)(_:Is K H y e)(_:shD d)(_:shD e)(_:Q (.bl (if neg then !eqD d e else eqD d e)) H)
theorem zjs(hu:X.A.units+64<cLine):OpR X (compareOp .Eq) (zft X.K false):=by
 intro pins s σ H x y v u Q I rx ry h;obtain⟨d,e,h1,h2,s1,s2,q⟩:=h;obtain⟨as,r1⟩:=h1.reads I rx;obtain⟨bs,r2⟩:=h2.reads I ry;exact eq_dataH r1 r2 s1 s2 hu (by rw[N7];exact⟨.bl _,H,I,rfl,q⟩)
theorem zjt(hu:X.A.units+64<cLine):OpR X (compareOp .NotEq) (zft X.K true):=by
 intro pins s σ H x y v u Q I rx ry h;obtain⟨d,e,h1,h2,s1,s2,q⟩:=h;obtain⟨as,r1⟩:=h1.reads I rx;obtain⟨bs,r2⟩:=h2.reads I ry;exact ne_dataH r1 r2 s1 s2 hu (by rw[N7];exact⟨.bl _,H,I,rfl,q⟩)
end
section
variable{P:Program}{w:World}{K:Frag}{mg:Str->Option Value}{base:Heap}{x m:Str}{k j:Nat}{ps:List Str}{sp:Sp}{C:Addr}
def Z2(P:Program)(w:World)(K:Frag)(mg:Str->Option Value)(base:Heap)(x:Str)(k:Nat)(ps:List Str)(sp:Sp):Prop :=
 ∃ (f:Addr) (fd:FuncData),FnOk P w K mg base (CX1 P w) k f fd ps sp/\mg x=some (.ref f)/\PySem.W.keepIn K (.ref f)=true/\Ra K fd ps []
def Zs(P:Program)(w:World)(K:Frag)(mg:Str->Option Value)(base:Heap)(C:Addr)(m:Str)(k:Nat)(ps:List Str)(sp:Sp):Prop :=
 ∃ (f:Addr) (fd:FuncData),FnOk P w K mg base (CX1 P w) k f fd ps sp/\zfc K C m f/\Ra K fd ps []
def Tg(P:Program)(w:World)(K:Frag)(mg:Str->Option Value)(base:Heap)(x:Str)(C:Addr)(k:Nat)(ps:List Str)(sp:Sp):Prop :=
 ∃ (f:Addr) (fd:FuncData),FnOk P w K mg base (CX1 P w) k f fd ps sp/\Mk K C f/\mg x=some (.ref C)/\Ra K fd ps []
theorem zck:W8 (CX1 P w) X E0:=fun _ _ _ _ _ _ _ h=>by obtain⟨_,_,_,_,_,_,_,_,_,_,z⟩:=h;exact z.elim
structure zmj(K:Frag)(mg:Str->Option Value)(x:Str)(st:Stmt)(f:Addr)(fd:FuncData):Prop where
 fn:Fun K x x st f fd
 nm:mg x=some (.ref f)
end
section
variable{X:Cx}{k:Nat}{C:Addr}{ps:List Str}{sp:Sp}{E:XK}{x m:Str}{p pos apos:Pos}{e o:Expr}{es:List Expr}{ta:TE}{t:TA}
theorem zcl(D:Z2 X.prog X.w X.K X.mg X.base x k ps sp)(hr:W5 k X.A)(hx:W8 (CX1 X.prog X.w) X E)(hg:Gl X x)(ha:PA X (e :: es) t)(hdb:(x == ("__debug__":Str))=false:=by decide)
  (he:starEach (e :: es) X.env=(false,eval e X.env) :: starEach es X.env:=by rfl) (hpl:(backTo pos (starEach es X.env)).any (·.1)=false:=by rfl):PE X (.Call (.Name x p) (e :: es) [] pos) (zfd sp [] E t):=by
 obtain⟨f,fd,F,hm,kp,b⟩:=D;exact zhb F hr hg hm kp b .nil hx ha hdb he hpl
theorem Yl(he:PE X o ta)(c:Cls X.K C)(M:Zs X.prog X.w X.K X.mg X.base C m k ps sp)(hr:W5 k X.A)(hx:W8 (CX1 X.prog X.w) X E)(ha:PA X (e :: es) t)
  (hst:starEach (e :: es) X.env=(false,eval e X.env) :: starEach es X.env:=by rfl) (hpl:(backTo pos (starEach es X.env)).any (·.1)=false:=by rfl)
  (ht:eval (.Call (.Attribute o m apos) (e :: es) [] pos) X.env=(do
   let ov <- eval o X.env
   standAt apos.atName
   let (f,first) <- holding [ov] (getMethod ov m pl)
   callWith pos f first (backTo pos (starEach (e :: es) X.env)) (backToKw pos (keywordEach [] X.env))):=by rfl):PE X (.Call (.Attribute o m apos) (e :: es) [] pos) (zca C m sp [] E ta t):=by
 obtain⟨f,fd,F,hm,b⟩:=M;exact zhc he c hm F hr b .nil hx ha hst hpl ht
theorem Yo(he:PE X o ta)(c:Cls X.K C)(M:Zs X.prog X.w X.K X.mg X.base C m k ps sp)(hr:W5 k X.A)(hx:W8 (CX1 X.prog X.w) X E)
  (ht:eval (.Call (.Attribute o m apos) [] [] pos) X.env=(do
   let ov <- eval o X.env
   standAt apos.atName
   let (f,first) <- holding [ov] (getMethod ov m pl)
   callWith pos f first (backTo pos (starEach [] X.env)) (backToKw pos (keywordEach [] X.env))):=by rfl):PE X (.Call (.Attribute o m apos) [] [] pos) (zca C m sp [] E ta zav):=by
 obtain⟨f,fd,F,hm,b⟩:=M;exact zfe he c hm F hr b .nil hx ht
theorem D5(M:Tg X.prog X.w X.K X.mg X.base x C k ps sp)(hr:W5 (k+1) X.A)(hx:W8 (CX1 X.prog X.w) X E)(hg:Gl X x)(ha:PA X (e :: es) t)(hdb:(x == ("__debug__":Str))=false:=by decide)
  (he:starEach (e :: es) X.env=(false,eval e X.env) :: starEach es X.env:=by rfl) (hpl:(backTo pos (starEach es X.env)).any (·.1)=false:=by rfl):PE X (.Call (.Name x p) (e :: es) [] pos) (zcb C sp [] E t):=by
 obtain⟨f,fd,F,mk,hm,b⟩:=M;exact zhd mk F hr hg hm b .nil hx ha hdb he hpl
theorem zcm(M:Tg X.prog X.w X.K X.mg X.base x C k ps sp)(hr:W5 (k+1) X.A)(hx:W8 (CX1 X.prog X.w) X E)(hg:Gl X x)(hdb:(x == ("__debug__":Str))=false:=by decide):PE X (.Call (.Name x p) [] [] pos) (zcb C sp [] E zav):=by
 obtain⟨f,fd,F,mk,hm,b⟩:=M;exact zff mk F hr hg hm b .nil hx hdb
theorem Wo(hg:Gl X x)(hm:∃ t,X.mg x=some (.int i t))(hd:(x == ("__debug__":Str))=false:=by decide):PE X (.Name x pos) (tC (.int i)):=by
 obtain⟨t,hm⟩:=hm;exact zg5 hg hm ⟨t,rfl⟩ hd
end
inductive zle(te:TE)(D:Oa)(σ:L2.St)(x:V)(H1:Hp):Prop where
 | mk(l)(xs)(_:x=.ref l)(_:H1 l=some (.lst xs))(_:te σ H1 fun y H2=>∃ ys,H2 l=some (.lst ys)/\ys.length<sizeLine/\D.nx σ (upd H2 l (.lst (ys++[y]))))
def zlf(to te:TE):TS:=fun D σ H=>to σ H fun x H1=>zle te D σ x H1
theorem Yu(ho:PE X o to)(he:PE X e te)(hbase:attributeBase o "append" X.env (eval o X.env)=eval o X.env:=by rfl)
  (hst:starEach [e] X.env=[(false,eval e X.env)]:=by rfl)
  (hline:(apos.endLine == cpos.line)=true:=by rfl) (hs:swapsWith (.Call (.Attribute o "append" apos) [e] [] cpos) none pos.line X.env=pure false:=by rfl):PS X (.Expr (.Call (.Attribute o "append" apos) [e] [] cpos) pos) (zlf to te):=by
 intro pins s σ H D I h;refine wpAny_Expr ?_ I.quiet;refine wpAny_Call_method_late hbase (by rw[hst];rfl) hline rfl (thn (ho pins s σ H _ I h) fun v s1 ⟨x,H1,I1,r1,l,xs,e1,hl,q1⟩=>?_);subst e1;obtain⟨h1,h2⟩:=za3 (T:="list") I1 r1 (.inl ⟨rfl,_,SqL.of hl⟩);refine⟨"list","list.append",PySem.F.plainAttrs_list,PySem.F.slot_list_append,PySem.F.type_list_append,h1,h2,?_⟩;rw[hst];refine Calls.callWith_builtin rfl (Calls.evalArgs_plain ?_);refine Calls.spliced_cons (thn (he pins s1 σ H1 _ I1 q1) fun u s2 ⟨y,H2,I2,r2,ys,hl2,hz,q2⟩=>Calls.spliced_nil ?_);refine thn (zdt pins s2 σ H2 (.ref l) [y] v [u] (fun v H3=>v=.non/\D.nx σ H3) I2 r1 (.cons r2 .nil) ⟨l,ys,y,rfl,rfl,hl2,hz,rfl,q2⟩) fun z s3 ⟨zv,H3,I3,rz,ez,q3⟩=>?_;subst ez;cases rz;exact⟨σ,H3,I3,q3⟩
section
variable{X:Cx}{K:Frag}
theorem zfu(hK:X.K=K):IxR X (Dy K):=hK▸zhm
theorem zhr(hK:X.K=K):IxR X (zdr K):=hK▸zjm
theorem Ff(hK:X.K=K):Vm X (.builtin "len") (fun xs H Q=>∃ p ys,xs=[.ref p]/\(SqL K H p ys\/SqT K H p ys)/\Q (.int ys.length) H):=hK▸D2
theorem Y8(hK:X.K=K):Vm X (.type "list") (fun xs H Q=>∃ p ys,xs=[.ref p]/\(SqL K H p ys\/SqT K H p ys)/\∀ l,H l=none->Q (.ref l) (upd H l (.lst ys))):=hK▸D3
theorem Wz(hK:X.K=K):Vm X (.builtin "isinstance") (zla K):=hK▸zfs
theorem J8(hK:X.K=K):OpR X (compareOp .In) (rIn K false):=hK▸zds
theorem Fg(hK:X.K=K):OpR X (compareOp .NotIn) (rIn K true):=hK▸D1
theorem zcn(hK:X.K=K)(hu:X.A.units+64<cLine):OpR X (compareOp .Eq) (zft K false):=hK▸zjs hu
theorem D6(hK:X.K=K)(hu:X.A.units+64<cLine):OpR X (compareOp .NotEq) (zft K true):=hK▸zjt hu
theorem Bx(hK:X.K=K):SlR X (zk6 K):=hK▸zhn
variable{o e l tg value a:Expr}{f:Str}{pos pos':Pos}{ta tv tl:TE}{es:List Expr}{k n:Nat}{t:TGs}
theorem Zr(hK:X.K=K)(he:PE X e ta)(hb:attributeBase e f X.env (eval e X.env)=eval e X.env):PE X (.Attribute e f pos) (zkt K ta f):=hK▸zja he hb
theorem Y9(hK:X.K=K)(ha:PE X o ta)(hv:PE X value tv)(hs:swapsWith value (some (.Attribute o f pos')) pos.line X.env=pure false):PS X (.Assign [.Attribute o f pos'] value pos) (zkv K ta tv f):=hK▸zjb ha hv hs
theorem Yc(hK:X.K=K)(hl:PE X l tl):PI X tg l (zih K tl):=hK▸zg6 hl
theorem Xy(hK:X.K=K)(hc:X.calm=true)(h:PGs X es t)(hn:(assignEach es X.env).length=n:=by rfl)(hst:(assignEach es X.env).findIdx? (·.1)=none:=by rfl):PG X (.Tuple es k pos) (zkn K n t):=hK▸zi6 hc h hn hst
theorem Ex(hK:X.K=K)(ha:PE X a ta)(he:∀ whole,isTrue a X.env whole=(do let v <- whole;standAt a.pos;holding [v] (truthy v))):PT X a (fun σ H Q=>ta σ H fun x H'=>∃ k,TruV K x H' k/\Q k H'):=hK▸ze8 ha he
end
section
variable{X:Cx}{K:Frag}
theorem J9(hK:X.K=K):Vm X (.type "tuple") (fun xs H Q=>∃ p ys,xs=[.ref p]/\((SqL K H p ys/\∀ l,H l=none->Q (.ref l) (upd H l (.tup ys)))\/(SqT K H p ys/\Q (.ref p) H))):=hK▸Fc
end
end L2
namespace G
open PySem PySem.Spec PyProof.Rows L2
theorem sz1:1<=sizeLine:=by decide
theorem sz2:2<=sizeLine:=by decide
theorem sz3:3<=sizeLine:=by decide
theorem sz4:4<=sizeLine:=by decide
theorem szN(h:n<=1000):n<=sizeLine:=zw5 (Ub h)
theorem itD{p:Prop}[Decidable p]{A B:Prop}(h1:p->A)(h2:¬ p->B):if decide p=true then A else B:=by
 by_cases h:p
 ·rw[zu3 h,if_pos rfl];exact h1 h
 ·rw[zva h,if_neg ⋯];exact h2 h
theorem itB{b:Bool}{A B:Prop}(h1:b=true->A)(h2:b=false->B):if b=true then A else B:=by
 cases b
 ·exact iteF (h2 rfl)
 ·exact iteT (h1 rfl)
theorem Rf:decide (V.int i=V.int j)=decide (i=j):=by
 by_cases h:i=j
 ·subst h;simp
 ·rw[zva h,zva (fun z=>h (V.int.inj z))]
theorem itV{i j:Int}{A B:Prop}(h1:i=j->A)(h2:¬ i=j->B):if decide (V.int i=V.int j)=true then A else B:=by
 rw[Rf];exact itD h1 h2
theorem Zk(h:H p=none):Same H (upd H p o):=fun b u e=>by rw[Zf (Zh e h)];exact e
def Yi(i:Int):Prop:=i.natAbs.log2<1920
theorem Yj(h:i.natAbs<=10 ^ 60):Yi i:=by
 unfold Yi;by_cases h0:i.natAbs=0
 ·rw[h0];decide
 ·exact(Nat.log2_lt h0).mpr (zwk h ⋯)
theorem Yk(h:-1000<=i)(h':i<=1000):Yi i:=Yj (zvb (show i.natAbs<=1000 by omega) ⋯)
theorem Wj{xs:List Int}{i:Int}(h0:0<=i)(h1:i<xs.length):atI (xs.map V.int) i=some (.int (xs.getD i.toNat 0)):=by
 obtain⟨k,rfl⟩:∃ k:Nat,i=k:=⟨i.toNat,by omega⟩;refine Z7 ?_;have hk:k<xs.length:=by omega
 rw[zu1,zuy hk,zv0,zve,zvp,zuy hk];rfl
theorem Th(h1:∀ Q:Bool->Hp->Prop,Q b H->t σ H Q)(h2:∀ Q:Bool->Hp->Prop,Q c H->u σ H Q)(Q:Bool->Hp->Prop)(h:Q (b||c) H):tOr t u σ H Q:=by
 refine h1 _ ?_;cases b with
 | true=>exact h
 | false=>exact h2 _ h
theorem Wf(h1:∀ Q:Bool->Hp->Prop,Q b H->t σ H Q)(h:if b=true then A D σ H else B D σ H):G8 t A B D σ H:=h1 _ h
theorem Yp(h:A { D with nx:=B D } σ H):Zz A B D σ H:=h
theorem Kp(J:L2.St->Hp->Prop)(hc:∀ Q:Bool->Hp->Prop,Q b H->c σ H Q)(h1:b=true->∀ N:L2.St->Hp->Prop,(∀ σ' H',J σ' H'->N σ' H')->t { D with nx:=N } σ H)
  (h2:b=false->∀ N:L2.St->Hp->Prop,(∀ σ' H',J σ' H'->N σ' H')->e { D with nx:=N } σ H) (h3:∀ σ' H',J σ' H'->u D σ' H'):Zz (G8 c t e) u D σ H:=by
 refine hc _ ?_;cases b with
 | true=>rw[if_pos rfl];exact h1 rfl _ h3
 | false=>rw[if_neg ⋯];exact h2 rfl _ h3
theorem Z0(h:D.nx σ H):zb5 D σ H:=h
theorem zju(K:Frag):PySem.W.kitOne K (.type "int") (.type "int")=some true:=rfl
theorem zjv(K:Frag):PySem.W.kitOne K (.type "int") (.type "bool")=some false:=by with_unfolding_all rfl
theorem D7(K:Frag):PySem.W.kitOne K (.type "list") (.type "list")=some true:=rfl
theorem za8(K:Frag):PySem.W.kitOne K (.type "tuple") (.type "tuple")=some true:=rfl
inductive Z8(H:Hp):List V->List (List V)->Prop where
 | nil:Z8 H [] []
 | cons {t:Addr} {r:List V} {ts:List V} {R:List (List V)} (h:H t=some (.tup r)) (q:Z8 H ts R):Z8 H (.ref t :: ts) (r :: R)
theorem Z8.mono(k:∀ t xs,H t=some (.tup xs)->H' t=some (.tup xs)):∀ {ts:List V} {R:List (List V)},Z8 H ts R->Z8 H' ts R
 | _,_,.nil=>.nil
 | _,_,.cons h r=>.cons (k _ _ h) (Z8.mono k r)
theorem Z8.same(e:Same H H')(h:Z8 H ts R):Z8 H' ts R:=h.mono fun t xs q=>e _ _ q
theorem Z8.length:∀ {ts:List V} {R:List (List V)},Z8 H ts R->ts.length=R.length
 | _,_,.nil=>rfl
 | _,_,.cons _ r=>by simp[Z8.length r]
theorem Z8.snoc(h:H t=some (.tup x)):∀ {ts:List V} {R:List (List V)},Z8 H ts R->Z8 H (ts++[.ref t]) (R++[x])
 | _,_,.nil=>.cons h .nil
 | _,_,.cons h' r=>.cons h' (Z8.snoc h r)
theorem Z8.get:∀ {ts:List V} {R:List (List V)} {i:Nat} {x:V},Z8 H ts R->ts[i]?=some x->∃ t r,x=.ref t/\R[i]?=some r/\H t=some (.tup r)
 | _,_,_,_,.nil,e=>by simp at e
 | _,_,0,_,.cons h _,e=>by simp at e;subst e;exact⟨_,_,rfl,rfl,h⟩
 | _,_,i+1,x,.cons _ r,e=>by
   obtain⟨t,n,h1,h2,h3⟩:=Z8.get (i:=i) (x:=x) r (by simpa using e);exact⟨t,n,h1,by simpa using h2,h3⟩
theorem Z8.getR:∀ {ts:List V} {R:List (List V)} {i:Nat} {r:List V},Z8 H ts R->R[i]?=some r->∃ t,ts[i]?=some (.ref t)/\H t=some (.tup r)
 | _,_,_,_,.nil,e=>by simp at e
 | _,_,0,_,.cons h _,e=>by simp at e;subst e;exact⟨_,rfl,h⟩
 | _,_,i+1,x,.cons _ r,e=>by
   obtain⟨t,h1,h2⟩:=Z8.getR (i:=i) (r:=x) r (by simpa using e);exact⟨t,by simpa using h1,h2⟩
inductive D8(vs:List V)(H:Hp)(Q:VK)(_:XK):Prop where
 | mk(i)(_:vs=[.int i])(_:Q (.bl true) H)
def Xb(ns:List Int)(k:Nat):Int:=(ns[k]?).getD 0
inductive za9(K:Frag)(vs:List V)(H:Hp)(Q:VK)(_:XK):Prop where
 | mk(b:Addr)(ns:List Int)(k:Nat)(_:vs=[.ref b,.int k])(_:SqL K H b (ns.map V.int))(_:Q (.int (Xb ns k)) H)
def zjw(c k:Int):Int:=(c*48271+k)%2147483647
def zlg(c k:Int):Int:=(zjw c k*69621+7*k)%2147483629
def zl7(c k:Int):Int:=(zlg c k*39373+zjw c k)%2147483587
def zhs(c k:Int):Int:=(zjw c k*2147483647+zlg c k)*2147483647+zl7 c k
inductive zco(vs:List V)(H:Hp)(Q:VK)(_:XK):Prop where
 | mk(c)(k)(_:vs=[.int c,.int k])(_:Q (.int (zhs c k)) H)
def stp(c:Int):Int:=([1,2,5,10,100,500,998]:List Int).getD (c%7).toNat 0
def zd0(c:Int)(j:Nat):Int:=1+(c/7+stp c*(j:Int))%999
def Kq(c:Int)(many:Nat):List Int:=(List.range many).map (zd0 c)
inductive Ia(vs:List V)(H:Hp)(Q:VK)(_:XK):Prop where
 | mk(c:Int)(many:Nat)(_:vs=[.int c,.int many])(_:many<=1000)(_:∀ l H',H' l=some (.lst ((Kq c many).map V.int))->Same H H'->H l=none->Q (.ref l) H')
def D9(c:Int):Int:=([1,2,5,10,50,97,98]:List Int).getD (c%7).toNat 0
def Ey(c:Int)(j:Nat):Int:=1+(c/7+D9 c*(j:Int))%99
def Q6(c:Int)(many:Nat):List Int:=(List.range many).map (Ey c)
inductive zcp(vs:List V)(H:Hp)(Q:VK)(_:XK):Prop where
 | mk(c:Int)(many:Nat)(_:vs=[.int c,.int many])(_:many<=1000)(_:∀ l H',H' l=some (.lst ((Q6 c many).map V.int))->Same H H'->H l=none->Q (.ref l) H')
def oneV(x:V):Prop:=x=.non\/∃ i,x=.int i
inductive Pu(vs:List V)(H:Hp)(Q:VK)(_:XK):Prop where
 | mk(x)(_:vs=[x,x])(_:oneV x)(_:Q (.bl true) H)
inductive Ib(K:Frag)(vs:List V)(H:Hp)(Q:VK)(_:XK):Prop where
 | mk(b c:Addr)(xs:List V)(_:vs=[.ref b,.ref c])(_:H b=some (.lst xs))(_:SqL K H c xs)(_:(∀ x∈xs,oneV x))(_:xs.length<=1000)(_:Q (.bl true) H)
inductive Ez(K:Frag)(vs:List V)(H:Hp)(Q:VK)(_:XK):Prop where
 | mk(b c:Addr)(xs:List V)(_:vs=[.ref b,.ref c])(_:H b=some (.tup xs))(_:SqT K H c xs)(_:(∀ x∈xs,oneV x))(_:xs.length<=1000)(_:Q (.bl true) H)
inductive Lc(K:Frag)(vs:List V)(H:Hp)(Q:VK)(_:XK):Prop where
 | mk(b c:Addr)(ts us:List V)(R:List (List V))(_:vs=[.ref b,.ref c])(_:H b=some (.lst ts))(_:SqL K H c us)(_:Z8 H ts R)(_:Z8 H us R)(_:(∀ r∈R,r.length<=1000/\∀ x∈r,oneV x))(_:R.length<=1000)(_:Q (.bl true) H)
inductive zcq(K:Frag)(vs:List V)(H:Hp)(Q:VK)(_:XK):Prop where
 | mk(b:Addr)(ns:List Int)(_:vs=[.ref b])(_:SqL K H b (ns.map V.int))(_:ns.length<=63)(_:∀ H',Q (.bl true) H')
structure Row where
 h:Int
 g:Int
 d:Int
 w:Option Int
def oV:Option Int->V
 | none=>.non
 | some n=>.int n
def Ca(r:Row):List V:=[.int r.h,.int r.g,.int r.d,oV r.w]
theorem zjx(o:Option Int):oneV (oV o):=by
 cases o with
 | none=>exact .inl rfl
 | some n=>exact .inr ⟨n,rfl⟩
theorem zjy{H:Hp}{ts:List V}{rs:List Row}{i:Nat}{x:V}(h:Z8 H ts (rs.map Ca))(e:ts[i]?=some x):∃ t r,x=.ref t/\rs[i]?=some r/\H t=some (.tup (Ca r)):=by
 obtain⟨t,r,h1,h2,h3⟩:=h.get e;rw[zu1] at h2;cases q:rs[i]? with
 | none=>rw[q] at h2;cases h2
 | some m=>rw[q] at h2;cases h2;exact⟨t,m,h1,rfl,h3⟩
def hit(n c:Int)(r:Row):Bool:=decide (r.w=some n)&&(decide (r.h=c)||decide (r.g=c))
def Cb(n c:Int)(Rs:List (List Row)):Nat×Nat:=Rs.foldl (fun p rs=>(p.1+1,if rs.any (hit n c) then p.1+1 else p.2)) (0,0)
def metS(Rs:List (List Row))(n c:Int):Nat:=(Cb n c Rs).2
theorem zfv(n c:Int)(Rs:List (List Row)):(Cb n c Rs).1=Rs.length:=by
 have h:∀ (Rs:List (List Row)) (p:Nat×Nat),(Rs.foldl (fun p rs=>(p.1+1,if rs.any (hit n c) then p.1+1 else p.2)) p).1=p.1+Rs.length:=fun Rs=>by
  induction Rs with
  | nil=>intro p;rfl
  | cons r Rs ih=>intro p;rw[List.foldl_cons,ih,zvi];simp only;omega
 have:=h Rs (0,0);unfold Cb;rw[this];simp
theorem zd1(Rs:List (List Row))(rs:List Row)(n c:Int):metS (Rs++[rs]) n c=if rs.any (hit n c) then Rs.length+1 else metS Rs n c:=by
 unfold metS;have e:Cb n c (Rs++[rs])=((Cb n c Rs).1+1,if rs.any (hit n c) then (Cb n c Rs).1+1 else (Cb n c Rs).2):=by
  unfold Cb;rw[List.foldl_append];rfl
 rw[e,zfv]
def By(kvs:List (List Key×V))(f:Int->Int->Nat):Prop:=∀ n c:Int,valV kvs [inl n,inl c]=if f n c=0 then none else some (.int (f n c))
inductive Oc(H:Hp):List V->List (List Row)->Prop where
 | nil:Oc H [] []
 | cons {t:Addr} {ts rs:List V} {r:List Row} {R:List (List Row)} (h:H t=some (.tup ts)) (q:Z8 H ts (r.map Ca)) (n:Oc H rs R):Oc H (.ref t :: rs) (r :: R)
theorem Oc.mono(k:∀ t xs,H t=some (.tup xs)->H' t=some (.tup xs)):∀ {ts:List V} {R:List (List Row)},Oc H ts R->Oc H' ts R
 | _,_,.nil=>.nil
 | _,_,.cons h q r=>.cons (k _ _ h) (q.mono k) (Oc.mono k r)
theorem Oc.length:∀ {ts:List V} {R:List (List Row)},Oc H ts R->ts.length=R.length
 | _,_,.nil=>rfl
 | _,_,.cons _ _ r=>by simp[Oc.length r]
theorem Oc.snoc(h:H t=some (.tup xs))(q:Z8 H xs (x.map Ca)):∀ {ts:List V} {R:List (List Row)},Oc H ts R->Oc H (ts++[.ref t]) (R++[x])
 | _,_,.nil=>.cons h q .nil
 | _,_,.cons h' q' r=>.cons h' q' (Oc.snoc h q r)
def tot(Rs:List (List Row)):Nat:=(Rs.map List.length).sum
theorem zfw(Rs:List (List Row))(rs:List Row):tot (Rs++[rs])=tot Rs+rs.length:=by unfold tot;rw[zu5,List.sum_append];simp
structure Uq(C:Addr)(H:Hp)(p lr ld:Addr)(Rs:List (List Row)):Prop where
 at_:∃ dx,H p=some (.ins C dx [("rounds",.ref lr),("meetings",.ref ld)])
 rd:∃ rs,H lr=some (.lst rs)/\Oc H rs Rs
 mt:∃ kvs,H ld=some (.dT kvs)/\By kvs (metS Rs)/\kvs.length<=2*tot Rs
theorem Uq.same{C:Addr}{H H':Hp}{p lr ld:Addr}{Rs:List (List Row)}(h:Uq C H p lr ld Rs)(e:Same H H'):Uq C H' p lr ld Rs:=by
 obtain⟨⟨dx,h1⟩,⟨rs,h2,h3⟩,⟨kvs,h4,h5⟩⟩:=h;exact⟨⟨dx,e _ _ h1⟩,⟨rs,e _ _ h2,h3.mono fun t xs q=>e _ _ q⟩,⟨kvs,e _ _ h4,h5⟩⟩
theorem Uq.keep{C:Addr}{H H':Hp}{p lr ld:Addr}{Rs:List (List Row)}(h:Uq C H p lr ld Rs)(ep:∀ o,H p=some o->H' p=some o)(er:∀ o,H lr=some o->H' lr=some o)(ed:∀ o,H ld=some o->H' ld=some o)(et:∀ t xs,H t=some (.tup xs)->H' t=some (.tup xs)):Uq C H' p lr ld Rs:=by
 obtain⟨⟨dx,h1⟩,⟨rs,h2,h3⟩,⟨kvs,h4,h5⟩⟩:=h;exact⟨⟨dx,ep _ h1⟩,⟨rs,er _ h2,h3.mono et⟩,⟨kvs,ed _ h4,h5⟩⟩
theorem Ld:List.lookup ("rounds":Str) ([("rounds",V.ref x),("meetings",V.ref y)]:List (Str×V))=some (.ref x):=by simp only[zvw,beq_self_eq_true]
theorem Q7:List.lookup ("meetings":Str) ([("rounds",V.ref x),("meetings",V.ref y)]:List (Str×V))=some (.ref y):=by
 have e:(("meetings":Str) == "rounds")=false:=by decide +kernel
 simp only[zvw,e,beq_self_eq_true]
theorem Ie{x y:Addr}{m:Str}(h:¬ m="rounds")(h':¬ m="meetings"):List.lookup m ([("rounds",V.ref x),("meetings",V.ref y)]:List (Str×V))=none:=by
 have e:(m == "rounds")=false:=zvl.mpr h;have e':(m == "meetings")=false:=zvl.mpr h';simp only[zvw,e,e',List.lookup_nil]
inductive zcr(C:Addr)(vs:List V)(H:Hp)(Q:VK)(_:XK):Prop where
 | mk(p)(dx)(_:vs=[.ref p])(_:H p=some (.ins C dx []))(_:∀ lr ld H',Uq C H' p lr ld []->(∀ b o,H b=some o->b≠p->H' b=some o)->H lr=none->H ld=none->lr≠ld->Q .non H')
inductive Le(C:Addr)(vs:List V)(H:Hp)(Q:VK)(_:XK):Prop where
 | mk(p)(lr)(ld)(Rs)(_:vs=[.ref p])(_:Uq C H p lr ld Rs)(_:Q (.int (Rs.length:Nat)) H)
inductive zis(C:Addr)(vs:List V)(H:Hp)(Q:VK)(_:XK):Prop where
 | mk(p)(lr)(ld)(Rs)(n)(c)(_:vs=[.ref p,.int n,.int c])(_:Uq C H p lr ld Rs)(_:∀ H',Same H H'->Q (.int (metS Rs n c:Nat)) H')
theorem Pw:([inl n,inl c]:List Key)=[inl n',inl c']↔n=n'/\c=c':=by
 constructor
 ·intro h;injection h with h1 h2;injection h2 with h2 _;exact⟨inl.inj h1,inl.inj h2⟩
 ·rintro⟨rfl,rfl⟩;rfl
theorem By.put(h:By kvs f)(n c:Int)(t:Nat)(ht:0<t):By (putK kvs [inl n,inl c] (.int t)) (fun n' c'=>if n'=n/\c'=c then t else f n' c'):=fun n' c'=>by
 rw[Up];show _=if (if n'=n/\c'=c then t else f n' c')=0 then none else some (V.int ((if n'=n/\c'=c then t else f n' c':Nat):Int))
 by_cases e:n'=n/\c'=c
 ·rw[if_pos e,if_pos (Pw.mpr e),if_neg ⋯]
 ·rw[if_neg (fun z=>e (Pw.mp z)),if_neg e];exact h n' c'
def Lg(Rs:List (List Row))(rs:List Row)(i:Nat)(n c:Int):Nat:=if (rs.take i).any (hit n c) then Rs.length+1 else metS Rs n c
theorem zd2(Rs:List (List Row))(rs:List Row):Lg Rs rs 0=metS Rs:=by funext n c;unfold Lg;simp
theorem zfx(Rs:List (List Row))(rs:List Row):Lg Rs rs rs.length=metS (Rs++[rs]):=by funext n c;unfold Lg;rw[zvf,zd1]
theorem E1(e:rs[i]?=some r)(n c:Int):Lg Rs rs (i+1) n c=if hit n c r then Rs.length+1 else Lg Rs rs i n c:=by
 unfold Lg;rw[zwg,e,List.any_append];cases h1:(rs.take i).any (hit n c)<;>cases h2:hit n c r<;>simp[h2]
theorem zd3(e:rs[i]?=some r)(h:r.w=none):Lg Rs rs (i+1)=Lg Rs rs i:=by
 funext n c
 rw[E1 e];have:hit n c r=false:=by unfold hit;rw[h];simp
 rw[this];simp
theorem zd4(e:rs[i]?=some r)(h:r.w=some w) :
  (fun n c=>if n=w/\c=r.g then Rs.length+1 else (fun n c=>if n=w/\c=r.h then Rs.length+1 else Lg Rs rs i n c) n c)=Lg Rs rs (i+1):=by
 funext n c
 rw[E1 e];unfold hit;rw[h];show (if n=w/\c=r.g then Rs.length+1 else if n=w/\c=r.h then Rs.length+1 else Lg Rs rs i n c)=_;by_cases h1:n=w
 ·subst h1;by_cases h2:r.g=c
  ·rw[if_pos ⟨rfl,h2.symm⟩,if_pos (by simp[h2])]
  ·rw[if_neg (fun z=>h2 z.2.symm)];by_cases h3:r.h=c
   ·rw[if_pos ⟨rfl,h3.symm⟩,if_pos (by simp[h3])]
   ·rw[if_neg (fun z=>h3 z.2.symm),if_neg (by simp[h2,h3])]
 ·rw[if_neg (fun z=>h1 z.1),if_neg (fun z=>h1 z.1),if_neg (by simp;intro z;exact absurd z.symm h1)]
theorem zfy{C:Addr}{H1 H':Hp}{x dx lr ld:Addr}(hx:H1 x=none)(hdx:H1 dx=none)(ne:dx≠x)(k:∀ b o,upd (upd H1 dx (.own x)) x (.ins C dx []) b=some o->b≠x->H' b=some o)
  (h1:upd (upd H1 dx (.own x)) x (.ins C dx []) lr=none) (h2:upd (upd H1 dx (.own x)) x (.ins C dx []) ld=none):Same H1 H'/\H1 lr=none/\H1 ld=none:=by
 have fr:∀ {l:Addr},upd (upd H1 dx (.own x)) x (.ins C dx []) l=none->H1 l=none:=fun {l} q=>by
  have n1:l≠x:=fun z=>by rw[z,Ze] at q;cases q
  have n2:l≠dx:=fun z=>by rw[z,Zf ne,Ze] at q;cases q
  rw[Zf n1,Zf n2] at q;exact q
 refine⟨fun b o e=>k b o ?_ (Zh e hx),fr h1,fr h2⟩;rw[Zf (Zh e hx),Zf (Zh e hdx)];exact e
theorem zlh{lr ld:Addr}:putF "meetings" (V.ref ld) [(("rounds":Str),V.ref lr)]=[(("rounds":Str),V.ref lr),(("meetings":Str),V.ref ld)]:=by
 show (if ("rounds":Str)="meetings" then _ else _)=_;rw[if_neg ⋯];rfl
theorem Yb(h:H l=none)(s:Same H H'):Same H (upd H' l o):=fun b u e=>by
 rw[Zf (Zh e h)];exact s b u e
theorem zfz(h:oneV x):Qi x=true:=by rcases h with rfl|⟨i,rfl⟩<;>rfl
inductive RLs(H:Hp):List Addr->List (List Row)->Prop where
 | nil:RLs H [] []
 | cons {l:Addr} {ts:List V} {ls:List Addr} {r:List Row} {R:List (List Row)} (h:H l=some (.lst ts)) (q:Z8 H ts (r.map Ca)) (n:RLs H ls R):RLs H (l :: ls) (r :: R)
theorem Fh(c:Int)(m:Nat):(Q6 c m).length=m:=by unfold Q6;rw[zuw,zvu]
theorem N8(c:Int)(m:Nat):(Kq c m).length=m:=by unfold Kq;rw[zuw,zvu]
structure L1(C:Addr)(H0:Hp)(p lr ld kR:Addr)(ls:List Addr)(R S:List (List Row))(H:Hp):Prop where
 base:Same H0 H
 led:Uq C H p lr ld R
 krs:H kR=some (.lst (ls.map V.ref))
 rls:RLs H ls S
 sep:∀ l∈ls,l≠lr/\l≠kR
structure C1(H0:Hp)(lr ld kR:Addr):Prop where
 fr:H0 lr=none
 fd:H0 ld=none
 fk:H0 kR=none
 rk:lr≠kR
theorem E2(h1:∀ Q:Bool->Hp->Prop,Q b H->t σ H Q)(h2:∀ Q:Bool->Hp->Prop,Q c H->u σ H Q)(Q:Bool->Hp->Prop)(h:Q (b&&c) H):zi1 t u σ H Q:=by
 refine h1 _ ?_;cases b with
 | true=>exact h2 _ h
 | false=>exact h
def Qj(Rs:List (List Row))(n c rest:Int):Bool:=decide ((if (0:Int)>(Rs.length:Nat)-rest then 0 else ((Rs.length:Nat):Int)-rest)<(metS Rs n c:Nat))
inductive Bz(C:Addr)(vs:List V)(H:Hp)(Q:VK)(_:XK):Prop where
 | mk(p)(lr)(ld)(Rs)(n)(c)(rest)(_:vs=[.int n,.int c,.ref p,.int rest])(_:Uq C H p lr ld Rs)(_:∀ H',Same H H'->Q (.bl (Qj Rs n c rest)) H')
def bw(b:Bool)(w:Str):List Str:=if b then [w] else []
def whyS(Rs:List (List Row))(n g c h gu d:Int)(o:Bool)(rest:Int):List Str :=
 bw o "away"++(bw (decide (g<d)) "grade"++(bw (decide (c=h)||decide (c=gu)) "club"++bw (Qj Rs n h rest||Qj Rs n gu rest) "met"))
inductive E3(K:Frag)(C:Addr)(vs:List V)(H:Hp)(Q:VK)(_:XK):Prop where
 | mk(t1 t2 p lr ld:Addr)(Rs:List (List Row))(n g c h gu d rest:Int)(o:Bool)(_:vs=[.ref t1,.ref t2,.bl o,.ref p,.int rest])(_:H t1=some (.tup [.int n,.int g,.int c]))(_:H t2=some (.tup [.int h,.int gu,.int d]))(_:Uq C H p lr ld Rs)(_:∀ l H',H' l=some (.lst ((whyS Rs n g c h gu d o rest).map V.str))->Same H H'->H l=none->Q (.ref l) H')
def Gr(c:TT)(σ:L2.St)(H:Hp)(b:Bool):Prop:=∀ Q:Bool->Hp->Prop,(∀ H1,Same H H1->Q b H1)->c σ H Q
theorem B0(h1:Gr t σ H b)(h2:∀ H1,Same H H1->Gr u σ H1 c):Gr (tOr t u) σ H (b||c):=fun Q h=>by
 refine h1 _ fun H1 s1=>?_;cases b with
 | true=>exact h H1 s1
 | false=>exact h2 H1 s1 _ fun H2 s2=>h H2 (s1.trans s2)
theorem Rv(h:∀ Q:Bool->Hp->Prop,Q b H->c σ H Q):Gr c σ H b:=fun Q q=>h Q (q H (Same.refl H))
theorem Sf(hc:Gr c σ H b)(h0:H0 l=none)(s:Same H0 H)(hl:H l=some (.lst (xs.map V.str)))(hx:xs.length<=100)(hv:σ[i]?=some (some (.ref l)))
  (h3:∀ H',Same H0 H'->H' l=some (.lst ((xs++bw b w).map V.str))->(∀ b o,H b=some o->b≠l->H' b=some o)->u D σ H'):Zz (G8 c (zlf (Bc i) (tC (.str w))) zb5) u D σ H:=by
 refine hc _ fun H1 s1=>?_;have hl1:=s1 _ _ hl;cases b with
 | true =>
   rw[if_pos rfl];refine⟨_,hv,l,_,rfl,hl1,_,hl1,Ub (by rw[zuw];omega),?_⟩;refine h3 _ (Yb h0 (s.trans s1)) ?_ fun b o e n=>by rw[Zf n];exact s1 _ _ e
   rw[Ze,zu5];rfl
 | false =>
   rw[if_neg ⋯];exact h3 _ (s.trans s1) (by rw[show bw false w=[] from rfl,zw4];exact hl1) fun b o e _=>s1 _ _ e
theorem Lh(b:Bool)(w:Str):(bw b w).length<=1:=by cases b<;>simp[bw]
theorem zht:x<metS Rs n c↔∃ (j:Nat) (r:List Row),Rs[j]?=some r/\r.any (hit n c)=true/\x<j+1:=by
 have gen:∀ (Rs:List (List Row)) (p:Nat×Nat),p.2<=p.1->(x<(Rs.foldl (fun p rs=>(p.1+1,if rs.any (hit n c) then p.1+1 else p.2)) p).2↔(∃ (j:Nat) (r:List Row),Rs[j]?=some r/\r.any (hit n c)=true/\x<p.1+j+1)\/x<p.2):=fun Rs=>by
  induction Rs with
  | nil=>intro p hp;simp
  | cons r Rs ih =>
    intro p hp;rw[List.foldl_cons,ih _ (by show (if r.any (hit n c) then p.1+1 else p.2)<=p.1+1;split<;>omega)];show ((∃ (j:Nat) (r':List Row),Rs[j]?=some r'/\r'.any (hit n c)=true/\x<p.1+1+j+1)\/x<(if r.any (hit n c) then p.1+1 else p.2))↔_;constructor
    ·rintro(⟨j,r',h1,h2,h3⟩|h)
     ·exact .inl ⟨j+1,r',by simpa using h1,h2,by omega⟩
     ·by_cases hr:r.any (hit n c)=true
      ·rw[if_pos hr] at h;exact .inl ⟨0,r,rfl,hr,by omega⟩
      ·rw[if_neg hr] at h;exact .inr h
    ·rintro(⟨j,r',h1,h2,h3⟩|h)
     ·cases j with
      | zero =>
        have e:r=r':=by simpa using h1
        subst e;exact .inr (by rw[if_pos h2];omega)
      | succ j=>exact .inl ⟨j,r',by simpa using h1,h2,by omega⟩
     ·right
      split<;>omega
 have:=gen Rs (0,0) (zu7 _);unfold metS Cb;rw[this];simp
theorem zd5{Rs:List (List Row)}{n c rest:Int}:Qj Rs n c rest=true↔∃ (j:Nat) (r:List Row),Rs[j]?=some r/\r.any (hit n c)=true/\(Rs.length:Int)-rest<=j:=by
 unfold Qj;rw[decide_eq_true_eq];have e:(if (0:Int)>(Rs.length:Nat)-rest then 0 else ((Rs.length:Nat):Int)-rest)<(metS Rs n c:Nat)↔(((Rs.length:Nat):Int)-rest).toNat<metS Rs n c:=by
  split<;>omega
 rw[e,zht];constructor
 ·rintro⟨j,r,h1,h2,h3⟩;exact⟨j,r,h1,h2,by omega⟩
 ·rintro⟨j,r,h1,h2,h3⟩;exact⟨j,r,h1,h2,by omega⟩
theorem zf0(c:Int)(hi:i<40)(hj:j<40)(h:zd0 c i=zd0 c j):i=j:=by
 unfold zd0 at h;have hs:stp c=1\/stp c=2\/stp c=5\/stp c=10\/stp c=100\/stp c=500\/stp c=998:=by
  unfold stp;have h0:0<=c%7:=by omega
  have h1:c%7<7:=by omega
  generalize c%7=r at h0 h1;obtain⟨k,rfl⟩:∃ k:Nat,r=k:=⟨r.toNat,by omega⟩;rw[zve];have hk:k<7:=by omega
  match k,hk with
  | 0,_=>simp
  | 1,_=>simp
  | 2,_=>simp
  | 3,_=>simp
  | 4,_=>simp
  | 5,_=>simp
  | 6,_=>simp
 generalize c/7=x at h;rcases hs with e|e|e|e|e|e|e<;>rw[e] at h<;>omega +splitMinMax
end G
namespace G
open PySem PySem.Spec PyProof.Rows L2
abbrev P3:=Int×Int×Int
def pV(m:P3):List V:=[.int m.1,.int m.2.1,.int m.2.2]
theorem Ig{H:Hp}{ts:List V}{Ms:List P3}{i:Nat}{x:V}(h:Z8 H ts (Ms.map pV))(e:ts[i]?=some x):∃ t m,x=.ref t/\Ms[i]?=some m/\H t=some (.tup (pV m)):=by
 obtain⟨t,r,h1,h2,h3⟩:=h.get e;rw[zu1] at h2;cases q:Ms[i]? with
 | none=>rw[q] at h2;cases h2
 | some m=>rw[q] at h2;cases h2;exact⟨t,m,h1,rfl,h3⟩
theorem Z8.reverse:∀ {ts:List V} {R:List (List V)},Z8 H ts R->Z8 H ts.reverse R.reverse
 | _,_,.nil=>.nil
 | _,_,.cons h q=>by rw[zw0,zw0];exact(Z8.reverse q).snoc h
def Q8(Rs:List (List Row))(h gu d:Int)(os:List V)(rest:Int)(m:P3):Bool:=(whyS Rs m.1 m.2.1 m.2.2 h gu d (inV (.int m.1) os) rest).isEmpty
inductive B1(K:Frag)(C:Addr)(vs:List V)(H:Hp)(Q:VK)(_:XK):Prop where
 | mk(lp lo tm p lr ld:Addr)(Rs:List (List Row))(ts:List V)(Ms:List P3)(os:List V)(h gu d rest:Int)(_:vs=[.ref lp,.ref tm,.ref lo,.ref p,.int rest])(_:H lp=some (.lst ts))(_:Z8 H ts (Ms.map pV))(_:H lo=some (.lst os))(_:(∀ x∈os,oneV x))(_:H tm=some (.tup [.int h,.int gu,.int d]))(_:Uq C H p lr ld Rs)(_:Ms.length<=1000)(_:∀ l H',H' l=some (.lst ((Ms.filter (Q8 Rs h gu d os rest)).map fun m=>V.int m.1))->Same H H'->H l=none->Q (.ref l) H')
theorem zd6{Rs:List (List Row)}{n c rest:Int}(hr:0<=rest):Qj Rs n c rest=true↔∃ rs∈Rs.drop ((Rs.length:Int)-rest).toNat,∃ r∈rs,hit n c r=true:=by
 rw[zd5];constructor
 ·rintro⟨j,rs,h1,h2,h3⟩;obtain⟨r,hr1,hr2⟩:=List.any_eq_true.mp h2;refine⟨rs,?_,r,hr1,hr2⟩;have hk:((Rs.length:Int)-rest).toNat<=j:=by omega
  refine zu2 (i:=j-((Rs.length:Int)-rest).toNat) ?_;rw[List.getElem?_drop,Nat.add_sub_cancel' hk];exact h1
 ·rintro⟨rs,h1,r,h2,h3⟩;obtain⟨i,hi,e⟩:=zv6 h1;refine⟨((Rs.length:Int)-rest).toNat+i,rs,?_,List.any_eq_true.mpr ⟨r,h2,h3⟩,by omega⟩;rw[<- List.getElem?_drop,zuy hi,e]
theorem N9{js:List Nat}{tt:TT}{te:TE}{lo:Int}{n:Nat}{σ:L2.St}{H:Hp}{Q:VK}(p:Nat->Bool)(f:Nat->V)(hz:n<=1000)
  (ht:∀ (i:Nat) (R:Bool->Hp->Prop),i<n->R (p i) H->tt (cs js σ (.int (lo+i))) H R) (hs:∀ (i:Nat) (R:VK),i<n->p i=true->R (f i) H->te (cs js σ (.int (lo+i))) H R)
  (hd:∀ q,H q=none->Q (.ref q) (upd H q (.lst (((List.range n).filter p).map f)))):Bv (Itr lo n) js tt te σ H Q:=by
 refine J7 (fun i ys H'=>H'=H/\ys=((List.range i).filter p).map f) ⟨rfl,rfl⟩ (szN hz) (fun i ys H' ⟨_,e⟩=>by rw[e,zuw];exact zvb (zvr _ _) (by rw[zvu];exact zu7 _)) (fun i ys H' hi ⟨e1,e2⟩=>?_) fun ys H' ⟨e1,e2⟩ q hq=>?_
 ·subst e1;refine ht i _ hi ?_;have e3:((List.range (i+1)).filter p).map f=ys++(if p i then [f i] else []):=by
   rw[e2,List.range_succ,zv9,zu5];cases hp:p i<;>simp[hp]
  cases hp:p i with
  | true =>
    rw[if_pos rfl];refine hs i _ hi hp ⟨rfl,?_⟩;rw[e3,hp];rfl
  | false =>
    rw[if_neg ⋯];refine⟨rfl,?_⟩;rw[e3,hp];simp
 ·subst e1;rw[e2];exact hd q hq
def Xs(xs:List V):List Nat:=(List.range xs.length).filter fun i=>decide (xs[i]?=some .non)
inductive zba(K:Frag)(vs:List V)(H:Hp)(Q:VK)(_:XK):Prop where
 | mk(b:Addr)(xs:List V)(_:vs=[.ref b])(_:H b=some (.lst xs))(_:(∀ x∈xs,oneV x))(_:xs.length<=100)(_:∀ l H',H' l=some (.lst ((Xs xs).map fun i=>V.int (i:Nat)))->Same H H'->H l=none->Q (.ref l) H')
def Xt(xs:List V)(n:Int):Option Nat:=(List.range xs.length).find? fun i=>decide (xs[i]?=some (.int n))
def oN:Option Nat->V
 | none=>.non
 | some i=>.int i
inductive E4(K:Frag)(vs:List V)(H:Hp)(Q:VK)(_:XK):Prop where
 | mk(b:Addr)(xs:List V)(n:Int)(_:vs=[.ref b,.int n])(_:H b=some (.lst xs))(_:(∀ x∈xs,oneV x))(_:xs.length<=100)(_:∀ H',Same H H'->Q (oN (Xt xs n)) H')
def Yh:List (Nat×Option Int)->List V->List V
 | [],xs=>xs
 | (p,w) :: r,xs=>Yh r (xs.set p (oV w))
def Wq(s:Nat×Option Int):List V:=[.int (s.1:Nat),oV s.2]
inductive Rg(K:Frag)(vs:List V)(H:Hp)(Q:VK)(_:XK):Prop where
 | mk(b c:Addr)(xs ts:List V)(st:List (Nat×Option Int))(_:vs=[.ref b,.ref c])(_:H b=some (.lst xs))(_:H c=some (.lst ts))(_:Z8 H ts (st.map Wq))(_:(∀ s∈st,s.1<xs.length))(_:(∀ x∈xs,oneV x))(_:xs.length<=100)(_:st.length<=100)(_:∀ l H',H' l=some (.lst (Yh st xs))->Same H H'->H l=none->Q (.ref l) H')
theorem Xz:∀ (st:List (Nat×Option Int)) (xs:List V),(Yh st xs).length=xs.length
 | [],_=>rfl
 | (p,w) :: r,xs=>by rw[Yh,Xz r,zwl]
theorem Kr(xs:List V)(n:Int):(Xt xs n=none/\∀ i:Nat,xs[i]?≠some (V.int n))\/∃ i:Nat,Xt xs n=some i/\xs[i]?=some (V.int n):=by
 unfold Xt;cases h:(List.range xs.length).find? fun i=>decide (xs[i]?=some (.int n)) with
 | none =>
   refine .inl ⟨rfl,fun i e=>?_⟩;have hi:i<xs.length:=(zux.mp e).1;have:=List.find?_eq_none.mp h i (zvy.mpr hi);exact this (zu3 e)
 | some i =>
   have:=List.find?_some h;exact .inr ⟨i,rfl,of_decide_eq_true this⟩
theorem zd7(xs:List V)(k:Nat):G9 xs (some (k:Int)) none=xs.drop k:=by
 unfold G9;rw[HT.sIx_nat,HT.sIx_none];by_cases h:k<=xs.length
 ·rw[Nat.min_eq_left h,<- List.length_drop,zvf]
 ·rw[Nat.min_eq_right ⋯,List.drop_length,List.take_nil,List.drop_eq_nil_of_le ⋯]
inductive ILs(H:Hp):List Addr->List (List Int)->Prop where
 | nil:ILs H [] []
 | cons {l:Addr} {ls:List Addr} {r:List Int} {R:List (List Int)} (h:H l=some (.lst (r.map V.int))) (n:ILs H ls R):ILs H (l :: ls) (r :: R)
theorem ILs.keep:∀ {ls:List Addr} {R:List (List Int)},(∀ l∈ls,∀ o,H l=some o->H' l=some o)->ILs H ls R->ILs H' ls R
 | _,_,_,.nil=>.nil
 | _,_,k,.cons h r=>.cons (k _ zvt _ h) (ILs.keep (fun l hl=>k l (zvg _ hl)) r)
theorem ILs.same(e:Same H H')(h:ILs H ls R):ILs H' ls R:=h.keep fun l _ o q=>e _ _ q
theorem ILs.length:∀ {ls:List Addr} {R:List (List Int)},ILs H ls R->ls.length=R.length
 | _,_,.nil=>rfl
 | _,_,.cons _ r=>by simp[ILs.length r]
theorem ILs.snoc(h:H l=some (.lst (x.map V.int))):∀ {ls:List Addr} {R:List (List Int)},ILs H ls R->ILs H (ls++[l]) (R++[x])
 | _,_,.nil=>.cons h .nil
 | _,_,.cons h' r=>.cons h' (ILs.snoc h r)
theorem ILs.has:∀ {ls:List Addr} {R:List (List Int)} {l:Addr},ILs H ls R->l∈ls->∃ xs,H l=some (.lst xs)
 | _,_,_,.nil,e=>by simp at e
 | _,_,_,.cons h r,e=>by
   rcases zu4.mp e with rfl|e
   ·exact⟨_,h⟩
   ·exact ILs.has r e
theorem ILs.getR:∀ {ls:List Addr} {R:List (List Int)} {i:Nat} {r:List Int},ILs H ls R->R[i]?=some r->∃ l,ls[i]?=some l/\H l=some (.lst (r.map V.int))
 | _,_,_,_,.nil,e=>by simp at e
 | _,_,0,_,.cons h _,e=>by simp at e;subst e;exact⟨_,rfl,h⟩
 | _,_,i+1,x,.cons _ r,e=>by
   obtain⟨t,h1,h2⟩:=ILs.getR (i:=i) (r:=x) r (by simpa using e);exact⟨t,by simpa using h1,h2⟩
structure Qk(rows:List (List Int))(nu:List Int):Prop where
 few:rows.length<=20
 crowd:nu.length<=30
 inj:nu.Nodup
 rng:∀ n∈nu,1<=n/\n<=999
 sub:∀ r∈rows,r.Nodup/\∀ n∈r,n∈nu
structure Ym(rows:List (List Int))(gs:List V):Prop where
 len:gs.length=rows.length
 one:∀ x∈gs,oneV x
 may:∀ (k:Nat) (n:Int),gs[k]?=some (.int n)->∃ r,rows[k]?=some r/\n∈r
 inj:∀ (j k:Nat) (n:Int),gs[j]?=some (.int n)->gs[k]?=some (.int n)->j=k
def Px(rows:List (List Int))(gs:List V)(p:Nat):Prop:=∃ S:Nat->Prop,S p/\∀ q,S q->q<rows.length/\∀ r,rows[q]?=some r->∀ n∈r,∃ q',q' < p/\gs[q']?=some (.int n)/\S q'
def Vp(rows:List (List Int))(gs:List V):Prop:=∀ p,gs[p]?=some .non->Px rows gs p
inductive zf1(K:Frag)(vs:List V)(H:Hp)(Q:VK)(_:XK):Prop where
 | mk(l:Addr)(ls:List Addr)(rows:List (List Int))(nu:List Int)(_:vs=[.ref l])(_:H l=some (.lst (ls.map V.ref)))(_:ILs H ls rows)(_:Qk rows nu)(_:∀ l' gs H',H' l'=some (.lst gs)->Ym rows gs->Vp rows gs->Same H H'->H l'=none->Q (.ref l') H')
theorem zcs{n:Int}{r:List Int}:inV (.int n) (r.map V.int)=decide (n∈r):=by
 induction r with
 | nil=>rfl
 | cons x r ih =>
   unfold inV at ih ⊢;rw[zu9,zwz,ih];have e:eqV (.int x) (.int n)=decide (n=x):=by
    show (x == n)=_;by_cases h:n=x
    ·subst h;simp
    ·rw[zva h];exact zvl.mpr (Ne.symm h)
   rw[e];by_cases h:n=x
   ·subst h;simp
   ·by_cases h2:n∈r<;>simp[h,h2]
theorem zf2{r:List Int}:∀ x∈r.map V.int,oneV x:=fun x hx=>by
 obtain⟨n,_,rfl⟩:=zu6.mp hx;exact .inr ⟨n,rfl⟩
end G
namespace G
open PySem PySem.Spec PyProof.Rows L2
def newS(st:List (Nat×Option Int))(k:Nat):List V:=(st.filter fun s=>decide (s.1=k)).map fun s=>oV s.2
theorem E5:∀ (st:List (Nat×Option Int)) (xs:List V) (k:Nat),(st.map (·.1)).Nodup->k<xs.length->(Yh st xs)[k]?=some ((newS st k++[xs.getD k .non]).getD 0 .non)
 | [],xs,k,_,hk=>by
   rw[Yh,zuy hk];show _=some (xs.getD k .non);rw[zvp,zuy hk];rfl
 | (p,w) :: r,xs,k,nd,hk=>by
   rw[zu9,zvm] at nd;rw[Yh,E5 r _ k nd.2 (by rw[zwl];exact hk)];by_cases h:p=k
   ·subst h;have e:newS r p=[]:=by
     unfold newS;rw[List.map_eq_nil_iff,List.filter_eq_nil_iff];intro s hs z;exact nd.1 (zu6.mpr ⟨s,hs,of_decide_eq_true z⟩)
    have e2:newS ((p,w) :: r) p=oV w :: newS r p:=by
     unfold newS;rw[zv7,if_pos (zu3 rfl),zu9]
    rw[e2,e];show some ((xs.set p (oV w)).getD p .non)=some (oV w);rw[zvp,zv5 hk];rfl
   ·have e2:newS ((p,w) :: r) k=newS r k:=by
     unfold newS;rw[zv7,if_neg (by rw[zva h];decide)]
    rw[e2];have e3:(xs.set p (oV w)).getD k .non=xs.getD k .non:=by
     rw[zvp,zvp,zv4 h]
    rw[e3]
section
variable{rows:List (List Int)}{gs:List V}
def adjN(rows:List (List Int))(gs:List V)(q:Nat)(n:Int)(q':Nat):Prop:=(∃ r,rows[q]?=some r/\n∈r)/\gs[q']?=some (.int n)
def O0(rows:List (List Int))(gs:List V)(q:Nat)(n:Int):Prop:=(∃ r,rows[q]?=some r/\n∈r)/\∀ j:Nat,gs[j]?≠some (V.int n)
def Ul(rows:List (List Int))(gs:List V)(q:Nat):Prop:=∃ n,O0 rows gs q n
inductive Walk(rows:List (List Int))(gs:List V)(p:Nat):Nat->Nat->Prop where
 | nil:Walk rows gs p p 0
 | snoc {q q' k:Nat} {n:Int} (h:Walk rows gs p q k) (a:adjN rows gs q n q'):Walk rows gs p q' (k+1)
theorem Walk.cons(a:adjN rows gs p n p')(h:Walk rows gs p' q k):Walk rows gs p q (k+1):=by
 induction h with
 | nil=>exact .snoc .nil a
 | snoc _ a' ih=>exact .snoc ih a'
inductive Ch(rows:List (List Int))(gs:List V):Nat->List (Nat×Option Int)->Nat->Option Int->Prop where
 | one (q:Nat) (w:Option Int):Ch rows gs q [(q,w)] q w
 | step {q q' e:Nat} {n:Int} {st:List (Nat×Option Int)} {w:Option Int} (a:adjN rows gs q n q') (h:Ch rows gs q' st e w):Ch rows gs q ((q,some n) :: st) e w
theorem Ch.pos{q e:Nat}{st:List (Nat×Option Int)}{w:Option Int}(h:Ch rows gs q st e w):0<st.length:=by cases h<;>simp
theorem Ch.walk{q e:Nat}{st:List (Nat×Option Int)}{w:Option Int}(h:Ch rows gs q st e w):Walk rows gs q e (st.length-1):=by
 induction h with
 | one q w=>exact .nil
 | step a h ih =>
   have:=h.pos;have e:=Walk.cons a ih;rw[zvi,Nat.add_sub_cancel];rw[Nat.sub_add_cancel this] at e;exact e
theorem Ch.drop{q e:Nat}{st:List (Nat×Option Int)}{w:Option Int}(h:Ch rows gs q st e w):∀ x∈st.map (·.1),∃ st',Ch rows gs x st' e w/\st'.length<=st.length:=by
 induction h with
 | one q w=>intro x hx;simp at hx;subst hx;exact⟨_,.one _ _,zu7 _⟩
 | @step q q' e n st w a h ih =>
   intro x hx;rw[zu9] at hx;rcases zu4.mp hx with z|z
   ·subst z;exact⟨_,.step a h,zu7 _⟩
   ·obtain⟨st',h1,h2⟩:=ih x z;exact⟨st',h1,by rw[zvi];omega⟩
theorem Ch.hd{q e:Nat}{st:List (Nat×Option Int)}{w:Option Int}(h:Ch rows gs q st e w):∃ x r,st=(q,x) :: r:=by cases h<;>exact⟨_,_,rfl⟩
theorem Ch.last{q e:Nat}{st:List (Nat×Option Int)}{w:Option Int}(h:Ch rows gs q st e w):e∈st.map (·.1):=by
 induction h with
 | one q w=>simp
 | step a h ih=>rw[zu9];exact zvg _ ih
theorem Ch.nodup{q e:Nat}{st:List (Nat×Option Int)}{w:Option Int}(h:Ch rows gs q st e w)(hm:∀ k,Walk rows gs q e k->st.length<=k+1):(st.map (·.1)).Nodup:=by
 induction h with
 | one q w=>simp
 | @step q q' e n st w a h ih =>
   rw[zu9,zvm];refine⟨fun hq=>?_,ih fun k hk=>?_⟩
   ·obtain⟨st',h1,h2⟩:=h.drop q hq;have:=hm _ h1.walk;have:=h1.pos;rw[zvi] at *;omega
   ·have:=hm _ (Walk.cons a hk);rw[zvi] at this;omega
theorem Ch.mem{q e:Nat}{st:List (Nat×Option Int)}{w:Option Int}(h:Ch rows gs q st e w):∀ (k:Nat) (n:Int),(k,some n)∈st->(adjN rows gs k n k\/True)/\(((∃ r,rows[k]?=some r/\n∈r)/\∃ k',gs[k']?=some (V.int n)/\k'∈st.tail.map (·.1))\/(w=some n/\k=e)):=by
 induction h with
 | one q w =>
   intro k n hk;simp at hk;exact⟨.inr trivial,.inr ⟨hk.2.symm,hk.1⟩⟩
 | @step q q' e n' st w a h ih =>
   intro k n hk;refine⟨.inr trivial,?_⟩;rcases zu4.mp hk with z|z
   ·cases z;refine .inl ⟨a.1,q',a.2,?_⟩;obtain⟨x,r,e⟩:=h.hd;rw[e];simp
   ·rcases(ih k n z).2 with ⟨h1,k',h2,h3⟩|h1
    ·refine .inl ⟨h1,k',h2,?_⟩;show k'∈st.map (·.1);obtain⟨x,r,e⟩:=h.hd;rw[e] at h3 ⊢;exact zvg _ h3
    ·exact .inr h1
theorem Ch.inj{q e:Nat}{st:List (Nat×Option Int)}{w:Option Int}(FP:Ym rows gs)(h:Ch rows gs q st e w)(hw:∀ n,w=some n->∀ j:Nat,gs[j]?≠some (V.int n))(nd:(st.map (·.1)).Nodup):∀ (j k:Nat) (n:Int),(j,some n)∈st->(k,some n)∈st->j=k:=by
 induction h with
 | one q w=>intro j k n h1 h2;simp at h1 h2;rw[h1.1,h2.1]
 | @step q q' e n' st w a h ih =>
   intro j k n h1 h2;rw[zu9,zvm] at nd;have key:∀ k,(k,some n')∈st->False:=fun k hk=>by
    rcases(h.mem k n' hk).2 with ⟨_,k',h2,h3⟩|⟨h1,_⟩
    ·have e:k'=q':=FP.inj k' q' n' h2 a.2;subst e;obtain⟨x,r,e⟩:=h.hd;have nd2:=nd.2;rw[e] at nd2 h3;rw[zu9,zvm] at nd2;exact nd2.1 h3
    ·exact hw n' h1 q' a.2
   rcases zu4.mp h1 with z1|z1<;>rcases zu4.mp h2 with z2|z2
   ·cases z1;cases z2;rfl
   ·cases z1;exact(key k z2).elim
   ·cases z2;exact(key j z1).elim
   ·exact ih hw nd.2 j k n z1 z2
theorem zf3{st:List (Nat×Option Int)}{k:Nat}(nd:(st.map (·.1)).Nodup):(k∉st.map (·.1)/\newS st k=[])\/∃ w,(k,w)∈st/\newS st k=[oV w]:=by
 induction st with
 | nil=>exact .inl ⟨by simp,rfl⟩
 | cons s r ih =>
   obtain⟨p,w⟩:=s;rw[zu9,zvm] at nd;by_cases h:p=k
   ·subst h;refine .inr ⟨w,zvt,?_⟩;rcases ih nd.2 with ⟨_,e⟩|⟨w',h1,_⟩
    ·have e2:newS ((p,w) :: r) p=oV w :: newS r p:=by
      unfold newS;rw[zv7,if_pos (zu3 rfl),zu9]
     rw[e2,e]
    ·exact absurd (zu6.mpr ⟨_,h1,rfl⟩) nd.1
   ·have e2:newS ((p,w) :: r) k=newS r k:=by
     unfold newS;rw[zv7,if_neg (by rw[zva h];decide)]
    rw[e2];rcases ih nd.2 with ⟨h1,e⟩|⟨w',h1,e⟩
    ·exact .inl ⟨fun z=>by rcases zu4.mp z with q|q;exact h q.symm;exact h1 q,e⟩
    ·exact .inr ⟨w',zvg _ h1,e⟩
theorem Ws{st:List (Nat×Option Int)}{xs:List V}{k:Nat}(nd:(st.map (·.1)).Nodup)(hk:k<xs.length):(k∉st.map (·.1)/\(Yh st xs)[k]?=xs[k]?)\/∃ w,(k,w)∈st/\(Yh st xs)[k]?=some (oV w):=by
 rw[E5 st xs k nd hk];rcases zf3 (k:=k) nd with ⟨h,e⟩|⟨w,h,e⟩
 ·refine .inl ⟨h,?_⟩;rw[e];show some (xs.getD k .non)=_;rw[zvp,zuy hk];rfl
 ·exact .inr ⟨w,h,by rw[e];rfl⟩
theorem Ch.lt{q e:Nat}{st:List (Nat×Option Int)}{w:Option Int}(FP:Ym rows gs)(h:Ch rows gs q st e w)(hq:q<rows.length):∀ s∈st,s.1<rows.length:=by
 induction h with
 | one q w=>intro s hs;simp at hs;subst hs;exact hq
 | @step q q' e n st w a h ih =>
   intro s hs;rcases zu4.mp hs with z|z
   ·subst z;exact hq
   ·refine ih ?_ s z;have:=(zux.mp a.2).1;rw[FP.len] at this;exact this
theorem Ch.fill{q e:Nat}{st:List (Nat×Option Int)}{w:Option Int}(FP:Ym rows gs)(h:Ch rows gs q st e w)(hq:q<rows.length)(hw:∀ n,w=some n->O0 rows gs e n)(nd:(st.map (·.1)).Nodup):Ym rows (Yh st gs):=by
 have hlt:=h.lt FP hq;have hinj:=h.inj FP (fun n hn=>(hw n hn).2) nd;have src:∀ (k:Nat) (n:Int),(k,some n)∈st->(∃ r,rows[k]?=some r/\n∈r)/\∀ j:Nat,gs[j]?=some (V.int n)->j∈st.map (·.1):=fun k n hk=>by
  rcases(h.mem k n hk).2 with ⟨h1,k',h2,h3⟩|⟨h1,rfl⟩
  ·refine⟨h1,fun j hj=>?_⟩;rw[FP.inj j k' n hj h2];obtain⟨x,r,e⟩:=h.hd;rw[e] at h3 ⊢;exact zvg _ h3
  ·exact⟨(hw n h1).1,fun j hj=>absurd hj ((hw n h1).2 j)⟩
 have cs:∀ k,k<gs.length->(k∉st.map (·.1)/\(Yh st gs)[k]?=gs[k]?)\/∃ w,(k,w)∈st/\(Yh st gs)[k]?=some (oV w):=fun k hk=>Ws nd hk;have at_:∀ (k:Nat) (n:Int),(Yh st gs)[k]?=some (V.int n)->(k∉st.map (·.1)/\gs[k]?=some (V.int n))\/(k,some n)∈st:=fun k n hk=>by
  have hkl:k<gs.length:=by
   have:=(zux.mp hk).1;rw[Xz] at this;exact this
  rcases cs k hkl with ⟨h1,e⟩|⟨w',h1,e⟩
  ·exact .inl ⟨h1,by rw[<- e];exact hk⟩
  ·rw[e] at hk;cases w' with
   | none=>cases hk
   | some m=>cases hk;exact .inr h1
 refine⟨by rw[Xz];exact FP.len,fun x hx=>?_,fun k n hk=>?_,fun j k n hj hk=>?_⟩
 ·obtain⟨k,hk,rfl⟩:=zv6 hx;have hkl:k<gs.length:=by rw[Xz] at hk;exact hk
  have e0:=zuy hk;rcases cs k hkl with ⟨_,e⟩|⟨w',_,e⟩
  ·rw[e,zuy hkl] at e0;rw[<- Option.some.inj e0];exact FP.one _ (zvs hkl)
  ·rw[e] at e0;rw[<- Option.some.inj e0];exact zjx w'
 ·rcases at_ k n hk with ⟨_,h1⟩|h1
  ·exact FP.may k n h1
  ·exact(src k n h1).1
 ·rcases at_ j n hj with ⟨a1,a2⟩|a1<;>rcases at_ k n hk with ⟨b1,b2⟩|b1
  ·exact FP.inj j k n a2 b2
  ·exact absurd ((src k n b1).2 j a2) a1
  ·exact absurd ((src j n a1).2 k b2) b1
  ·exact hinj j k n a1 b1
theorem Ch.out{p0 q e:Nat}{n0:Int}{w:Option Int}{st:List (Nat×Option Int)}{S:Nat->Prop}(FP:Ym rows gs)(hS:∀ q,S q->q<rows.length/\∀ r,rows[q]?=some r->∀ n∈r,∃ q',q' < p0/\gs[q']?=some (.int n)/\S q')(h:Ch rows gs q st e w):w=some n0->O0 rows gs e n0->¬ S q:=by
 induction h with
 | one q w =>
   intro hw hf hs;obtain⟨r,h1,h2⟩:=hf.1;obtain⟨q',_,h3,_⟩:=(hS _ hs).2 r h1 n0 h2;exact hf.2 q' h3
 | @step q q' e n st w a h ih =>
   intro hw hf hs;obtain⟨r,h1,h2⟩:=a.1;obtain⟨q'',_,h3,h4⟩:=(hS q hs).2 r h1 n h2;have:q''=q':=FP.inj q'' q' n h3 a.2;subst this;exact ih hw hf h4
theorem Px.behind{p0 q e:Nat}{n0:Int}{st:List (Nat×Option Int)}(FP:Ym rows gs)(S0:Px rows gs p0)(h:Ch rows gs q st e (some n0))(hf:O0 rows gs e n0)(hq:q<rows.length)(nd:(st.map (·.1)).Nodup):Px rows (Yh st gs) p0:=by
 obtain⟨S,hp,hS⟩:=S0;have outAll:∀ x∈st.map (·.1),¬ S x:=fun x hx=>by
  obtain⟨st',h1,_⟩:=h.drop x hx;exact h1.out FP hS rfl hf
 refine⟨S,hp,fun q1 h1=>⟨(hS q1 h1).1,fun r hr n hn=>?_⟩⟩;obtain⟨q',h2,h3,h4⟩:=(hS q1 h1).2 r hr n hn;refine⟨q',h2,?_,h4⟩;have hkl:q' < gs.length:=(zux.mp h3).1;rcases Ws nd hkl with ⟨_,e⟩|⟨w,h5,_⟩
 ·rw[e];exact h3
 ·exact absurd h4 (outAll q' (zu6.mpr ⟨_,h5,rfl⟩))
structure Xc(rows:List (List Int))(gs:List V)(p:Nat)(st:List (Nat×Option Int))(e:Nat)(w:Option Int):Prop where
 ch:Ch rows gs p st e w
 free:∀ n,w=some n->O0 rows gs e n/\∀ q k,Walk rows gs p q k->Ul rows gs q->st.length<=k+1
 none:w=none->(∀ q k,Walk rows gs p q k->¬ Ul rows gs q)/\(∀ q k,Walk rows gs p q k->q<=e)/\∀ k,Walk rows gs p e k->st.length<=k+1
theorem Xc.nodup{p e:Nat}{st:List (Nat×Option Int)}{w:Option Int}(c:Xc rows gs p st e w):(st.map (·.1)).Nodup:=by
 refine c.ch.nodup fun k hk=>?_;cases h:w with
 | none=>exact(c.none h).2.2 k hk
 | some n=>exact(c.free n h).2 e k hk ⟨n,(c.free n h).1⟩
theorem Xc.fill{p e:Nat}{st:List (Nat×Option Int)}{w:Option Int}(FP:Ym rows gs)(c:Xc rows gs p st e w)(hp:p<rows.length):Ym rows (Yh st gs):=c.ch.fill FP hp (fun n hn=>(c.free n hn).1) c.nodup
theorem zf4(FP:Ym rows gs)(hp:p<rows.length)(ha:∀ q n,gs[q]?=some (V.int n)->q<p)(hn:∀ q k,Walk rows gs p q k->¬ Ul rows gs q):Px rows gs p:=by
 refine⟨fun q=>∃ k,Walk rows gs p q k,⟨0,.nil⟩,fun q ⟨k,hk⟩=>⟨?_,fun r hr n hnr=>?_⟩⟩
 ·cases hk with
  | nil=>exact hp
  | snoc _ a =>
    have:=(zux.mp a.2).1;rw[FP.len] at this;exact this
 ·by_cases hx:∃ j:Nat,gs[j]?=some (V.int n)
  ·obtain⟨j,hj⟩:=hx;exact⟨j,ha j n hj,hj,k+1,.snoc hk ⟨⟨r,hr,hnr⟩,hj⟩⟩
  ·exact absurd ⟨n,⟨r,hr,hnr⟩,fun j hj=>hx ⟨j,hj⟩⟩ (hn q k hk)
end
section
variable{rows:List (List Int)}{gs:List V}{p:Nat}
structure Bfs(rows:List (List Int))(gs:List V)(p:Nat)(line:List Nat)(dep:Nat->Nat):Prop where
 nodup:line.Nodup
 memp:p∈line
 d0:dep p=0
 walk:∀ q∈line,Walk rows gs p q (dep q)
 sorted:∀ (i j q q':Nat),i<=j->line[i]?=some q->line[j]?=some q'->dep q<=dep q'
def Done(rows:List (List Int))(gs:List V)(line:List Nat)(dep:Nat->Nat)(dn:Nat):Prop:=∀ (i q:Nat),i<dn->line[i]?=some q->∀ n q',adjN rows gs q n q'->q'∈line/\dep q'<=dep q+1
theorem zd8(rows:List (List Int))(gs:List V)(p:Nat):Bfs rows gs p [p] (fun _=>0):=by
 refine⟨by simp,by simp,rfl,fun q hq=>?_,fun i j q q' _ _ _=>zu7 _⟩;simp at hq;subst hq;exact .nil
variable{line:List Nat}{dep:Nat->Nat}{dn:Nat}
theorem Bfs.reach(B:Bfs rows gs p line dep)(D:Done rows gs line dep dn)(h:Walk rows gs p q k):(q∈line/\dep q<=k)\/∃ j q',dn<=j/\line[j]?=some q'/\dep q' < k:=by
 induction h with
 | nil=>exact .inl ⟨B.memp,by rw[B.d0];exact zu7 _⟩
 | @snoc q q' k n h a ih =>
   rcases ih with ⟨h1,h2⟩|⟨j,x,h1,h2,h3⟩
   ·obtain⟨i,hi,e⟩:=zv6 h1;have e':line[i]?=some q:=by rw[zuy hi,e]
    by_cases hd:i<dn
    ·obtain⟨a1,a2⟩:=D i q hd e' n q' a;exact .inl ⟨a1,by omega⟩
    ·exact .inr ⟨i,q,by omega,e',by omega⟩
   ·exact .inr ⟨j,x,h1,h2,by omega⟩
theorem Bfs.full(B:Bfs rows gs p line dep)(D:Done rows gs line dep line.length)(h:Walk rows gs p q k):q∈line/\dep q<=k:=by
 rcases B.reach D h with z|⟨j,x,h1,h2,_⟩
 ·exact z
 ·have:=(zux.mp h2).1;omega
theorem Bfs.early(B:Bfs rows gs p line dep)(D:Done rows gs line dep dn)(hh:line[dn]?=some here)(h:Walk rows gs p q k)(hk:k<dep here):∃ i,i<dn/\line[i]?=some q:=by
 rcases B.reach D h with ⟨h1,h2⟩|⟨j,x,h1,h2,h3⟩
 ·obtain⟨i,hi,e⟩:=zv6 h1;have e':line[i]?=some q:=by rw[zuy hi,e]
  refine⟨i,?_,e'⟩;by_cases hd:i<dn
  ·exact hd
  ·have:=B.sorted dn i here q ⋯ hh e';omega
 ·have:=B.sorted dn j here x h1 hh h2;omega
theorem Bfs.fewest(B:Bfs rows gs p line dep)(D:Done rows gs line dep dn)(hh:line[dn]?=some here)(hno:∀ (i q:Nat),i<dn->line[i]?=some q->¬ Ul rows gs q)(h:Walk rows gs p q k)(hf:Ul rows gs q):dep here+1<=k+1:=by
 by_cases hk:k<dep here
 ·obtain⟨i,hi,e⟩:=B.early D hh h hk;exact absurd hf (hno i q hi e)
 ·omega
def Vq(dep:Nat->Nat)(q d:Nat):Nat->Nat:=fun x=>if x=q then d else dep x
theorem Bfs.app(B:Bfs rows gs p line dep)(hh:line[dn]?=some here)(near:∀ x∈line,dep x<=dep here+1)(a:adjN rows gs here n q')(hn:q'∉line) :
  Bfs rows gs p (line++[q']) (Vq dep q' (dep here+1))/\(∀ x∈line,Vq dep q' (dep here+1) x=dep x)/\∀ x∈line++[q'],Vq dep q' (dep here+1) x<=dep here+1:=by
 have old:∀ x∈line,Vq dep q' (dep here+1) x=dep x:=fun x hx=>by
  unfold Vq;rw[if_neg (fun (z:x=q')=>hn (by rw[<- z];exact hx))]
 have new:Vq dep q' (dep here+1) q'=dep here+1:=by unfold Vq;rw[if_pos rfl]
 have hhm:=zu2 hh;have all:∀ x∈line++[q'],Vq dep q' (dep here+1) x<=dep here+1:=fun x hx=>by
  rcases zu8.mp hx with z|z
  ·rw[old x z];exact near x z
  ·rw[zu0.mp z,new];exact zu7 _
 refine⟨⟨D4 B.nodup hn,zvn _ B.memp,by rw[old p B.memp];exact B.d0,fun q hq=>?_,fun i j x y hij hx hy=>?_⟩,old,all⟩
 ·rcases zu8.mp hq with z|z
  ·rw[old q z];exact B.walk q z
  ·rw[zu0.mp z,new];exact .snoc (B.walk here hhm) a
 ·by_cases hj:j<line.length
  ·rw[zv3 hj] at hy;rw[zv3 ⋯] at hx;rw[old x (zu2 hx),old y (zu2 hy)];exact B.sorted i j x y hij hx hy
  ·rw[zvz ⋯] at hy;have:y=q':=by
    cases e:j-line.length with
    | zero=>rw[e] at hy;simpa using hy.symm
    | succ m=>rw[e] at hy;simp at hy
   subst this;rw[new];exact all x (zu2 hx)
theorem Done.app(D:Done rows gs line dep dn)(hd:dn<=line.length)(hl:∃ r,line'=line++r)(he:∀ x∈line,dep' x=dep x):Done rows gs line' dep' dn:=fun i q hi e n q' a=>by
 obtain⟨r,rfl⟩:=hl;rw[zv3 ⋯] at e;obtain⟨h1,h2⟩:=D i q hi e n q' a;exact⟨zvn _ h1,by rw[he q' h1,he q (zu2 e)];exact h2⟩
def Ti(rows:List (List Int))(gs:List V)(p:Nat)(line:List Nat)(dep:Nat->Nat)(fr:Nat->Option (Nat×Int)):Prop:=fr p=none/\∀ q∈line,q≠p->∃ par n,fr q=some (par,n)/\par∈line/\adjN rows gs par n q/\dep q=dep par+1
theorem Ti.back(d0:dep p=0)(F:Ti rows gs p line dep fr):∀ (d q e:Nat) (w:Option Int) (st:List (Nat×Option Int)),dep q=d->q∈line->Ch rows gs q st e w->∃ pre,Ch rows gs p (pre++st) e w/\pre.length=d:=fun d=>by
 induction d with
 | zero =>
   intro q e w st hd hq h;by_cases hp:q=p
   ·subst hp;exact⟨[],h,rfl⟩
   ·obtain⟨par,n,_,_,_,h4⟩:=F.2 q hq hp;omega
 | succ d ih =>
   intro q e w st hd hq h;by_cases hp:q=p
   ·subst hp;rw[d0] at hd;cases hd
   ·obtain⟨par,n,h1,h2,h3,h4⟩:=F.2 q hq hp;obtain⟨pre,h5,h6⟩:=ih par e w _ ⋯ h2 (.step h3 h);exact⟨pre++[(par,some n)],by rw[zwr];exact h5,by rw[zuz,h6];rfl⟩
theorem zbb{here:Nat}{n:Int}{st:List (Nat×Option Int)}(B:Bfs rows gs p line dep)(D:Done rows gs line dep dn)(hh:line[dn]?=some here)(hno:∀ (i q:Nat),i<dn->line[i]?=some q->¬ Ul rows gs q)(hf:O0 rows gs here n)(c:Ch rows gs p st here (some n))(hl:st.length=dep here+1):Xc rows gs p st here (some n) :=
 ⟨c,fun m e=>by cases e;exact⟨hf,fun q k hk hq=>by rw[hl];exact B.fewest D hh hno hk hq⟩,(fun z=>nomatch z)⟩
theorem zbc{e:Nat}{st:List (Nat×Option Int)}(B:Bfs rows gs p line dep)(D:Done rows gs line dep line.length)(hno:∀ q∈line,¬ Ul rows gs q)(he:∀ q∈line,q<=e)(c:Ch rows gs p st e none)(hl:st.length=dep e+1):Xc rows gs p st e none :=
 ⟨c,(fun m z=>nomatch z),fun _=>⟨fun q k hk=>hno q (B.full D hk).1,fun q k hk=>he q (B.full D hk).1,fun k hk=>by rw[hl];have:=(B.full D hk).2;omega⟩⟩
end
end G
namespace L2
open PySem PySem.Spec PyProof.Rows
inductive zjz(x:V)(vs:List V)(H:Hp)(Q:VK):Prop where
 | mk(l:Addr)(xs:List V)(y:V)(j:Nat)(_:x=.ref l)(_:vs=[y])(_:H l=some (.lst xs))(_:Qi y=true)(_:xs.all Qi=true)(_:(∃ z,xs[j]?=some z/\eqV z y=true))(_:(∀ m z,m<j->xs[m]?=some z->eqV z y=false))(_:Q (.int (j:Nat)) H)
theorem zf5:MtM X "list.index" zjz:=by
 intro pins s σ H x vs v us Q I rx rv h;obtain⟨l,xs,y,j,rfl,rfl,hH,fy,fs,⟨zj,hzj,hej⟩,hno,q⟩:=h;cases rx;obtain⟨u,rfl,ru⟩:=rv.one;obtain⟨z,its,n,r,hl,e⟩:=I.lstM hH;have hjx:j<xs.length:=(zux.mp hzj).1;have hj:j<its.toArray.size:=by rw[zvc];omega
 have hline:=Ov;have ev:∀ (m:Nat) (hm:m<its.toArray.size) (w:V),xs[m]?=some w->eqU y (its.toArray[m]'hm)=eqV w y:=fun m hm w hw=>by
  obtain⟨uu,hu,ruu⟩:=r.get hw;have:its.toArray[m]'hm=uu:=by
   have h1:its[m]?=some (its.toArray[m]'hm):=by simp
   rw[h1] at hu;exact Option.some.inj hu
  rw[this];refine za2 ruu ?_;exact List.all_eq_true.mp fs w (zu2 hw)
 refine call_meets PySem.F.slot_list_index ⟨_,e,rfl⟩ PySem.F.entry_list_index (PySem.F.args_list_index_2 _ _) (SeqAt.list_indexAt l its.toArray n none #[] u (eqU y) j hj ⋯ (by rw[ev j hj zj hzj];exact hej) (fun m hm hmj=>?_)) ⟨e,fun w hw=>Rc ru fy r fs w (by simpa using hw),?_⟩
 ·have hmx:m<xs.length:=by rw[zvc] at hm;omega
  have hw:xs[m]?=some (xs[m]'hmx):=zuy hmx;rw[ev m hm _ hw];exact hno m _ hmj hw
 ·exact⟨.int (j:Nat),H,I.tok _,⟨_,rfl⟩,q⟩
end L2
namespace G
open PySem PySem.Spec PyProof.Rows L2
theorem zit{H:Hp}{ts:List V}{st:List (Nat×Option Int)}{i:Nat}{s:Nat×Option Int}(h:Z8 H ts (st.map Wq))(e:st[i]?=some s):∃ t,ts[i]?=some (.ref t)/\H t=some (.tup (Wq s)):=by
 have e':(st.map Wq)[i]?=some (Wq s):=by rw[zu1,e];rfl
 exact h.getR e'
theorem Ju(ho:oneV z):eqV z (.int n)=true↔z=.int n:=by
 rcases ho with rfl|⟨i,rfl⟩
 ·constructor
  ·intro h;cases h
  ·intro h;cases h
 ·show (i == n)=true↔_;constructor
  ·intro h;rw[beq_iff_eq.mp h]
  ·intro h;cases h;simp
theorem zf6(ho:∀ x∈gs,oneV x):inV (.int n) gs=true↔∃ j:Nat,gs[j]?=some (V.int n):=by
 unfold inV;rw[List.any_eq_true];constructor
 ·rintro⟨z,hz,e⟩;obtain⟨j,hj,rfl⟩:=zv6 hz;exact⟨j,by rw[zuy hj,(Ju (ho _ hz)).mp e]⟩
 ·rintro⟨j,hj⟩;have:=zu2 hj;exact⟨_,this,(Ju (ho _ this)).mpr rfl⟩
theorem zhu(r:List Int):PyData.canLayAll0 (Xi (r.map Dt.int))=true/\PyData.depthAll (Xi (r.map Dt.int))<=1:=by
 induction r with
 | nil=>exact⟨rfl,by decide⟩
 | cons x r ih =>
   obtain⟨h1,h2⟩:=ih;refine⟨by rw[zu9,Xi,PyData.canLayAll0,h1];rfl,?_⟩;rw[zu9,Xi,PyData.depthAll];have:PyData.depth (toPy (Dt.int x))<=1:=by simp[toPy,PyData.depth]
   omega
theorem Cc(r:List Int):shD (.lst (r.map Dt.int)):=by
 obtain⟨a1,a2⟩:=zhu r;unfold shD SeqAt.shaped;rw[toPy,PyData.canLay0,a1,Bool.true_and];refine zu3 ?_;rw[PyData.depth];omega
theorem Py:shD (.lst []):=Cc []
theorem Jv(f:α->Dt)(xs:List α):eqD (.lst (xs.map f)) (.lst [])=xs.isEmpty:=by
 cases xs with
 | nil=>simp[eqD,Ob]
 | cons x xs=>simp[eqD,Ob]
structure zmo(rows:List (List Int))(gs:List V)(i:Nat):Prop where
 len:gs.length=i
 one:∀ x∈gs,oneV x
 may:∀ (k:Nat) (n:Int),gs[k]?=some (.int n)->∃ r,rows[k]?=some r/\n∈r
 inj:∀ (j k:Nat) (n:Int),gs[j]?=some (.int n)->gs[k]?=some (.int n)->j=k
theorem Ym.drop(F:Ym rows gs)(p:Nat):Ym rows (gs.set p .non):=by
 have cs:∀ (k:Nat) (n:Int),(gs.set p .non)[k]?=some (.int n)->k≠p/\gs[k]?=some (.int n):=fun k n h=>by
  by_cases e:k=p
  ·subst e;by_cases hk:k<gs.length
   ·rw[zv5 hk] at h;cases h
   ·rw[List.getElem?_eq_none (by rw[zwl];omega)] at h;cases h
  ·rw[zv4 (Ne.symm e)] at h;exact⟨e,h⟩
 refine⟨by rw[zwl];exact F.len,fun x hx=>?_,fun k n h=>F.may k n (cs k n h).2,fun j k n h1 h2=>F.inj j k n (cs j n h1).2 (cs k n h2).2⟩;rcases List.mem_or_eq_of_mem_set hx with z|z
 ·exact F.one x z
 ·exact .inl z
theorem Ym.without(F:Ym rows gs)(hx:gs[p]?=some x)(f:Int->Bool)(hf:∀ n,f n=false->x=.int n):Ym (rows.map fun r=>r.filter f) (gs.set p .non):=by
 have D:=F.drop p;refine⟨by rw[zuw];exact D.len,D.one,fun k n h=>?_,D.inj⟩;obtain⟨r,h1,h2⟩:=D.may k n h;refine⟨r.filter f,by rw[zu1,h1];rfl,zvx.mpr ⟨h2,?_⟩⟩;cases e:f n with
 | true=>rfl
 | false =>
   have hx':=hf n e;subst hx';have hk:k≠p:=fun z=>by
    subst z;rw[zv5 (zux.mp hx).1] at h;cases h
   rw[zv4 (Ne.symm hk)] at h;exact absurd (F.inj k p n h hx) hk
theorem B2(h1:Gr t σ H b)(h:∀ H1,Same H H1->if b=true then A D σ H1 else B D σ H1):G8 t A B D σ H:=h1 _ fun H1 s1=>h H1 s1
def Wt(xs:List Nat):List V:=xs.map fun k=>V.int (k:Nat)
theorem zct{K:Frag}{H:Hp}:∀ (r:List Nat),Tf K H (Wt r) ((r.map fun (k:Nat)=>((k:Nat):Int)).map Dt.int)
 | []=>.nil
 | x :: r=>.cons (.int _) (zct r)
end G
namespace G
open PySem PySem.Spec PyProof.Rows L2
inductive Cd(K:Frag)(vs:List V)(H:Hp)(Q:VK)(_:XK):Prop where
 | mk(l lg:Addr)(ls:List Addr)(rows:List (List Int))(nu:List Int)(gs:List V)(p:Nat)(_:vs=[.ref l,.ref lg,.int p])(_:H l=some (.lst (ls.map V.ref)))(_:ILs H ls rows)(_:Qk rows nu)(_:H lg=some (.lst gs))(_:Ym rows gs)(_:p<rows.length)(_:gs[p]?=some .non)(_:∀ lt ts st e w H',H' lt=some (.lst ts)->Z8 H' ts (st.map Wq)->Xc rows gs p st e w->Same H H'->H lt=none->Q (.ref lt) H')
theorem Xc.len{rows:List (List Int)}{gs:List V}{p e:Nat}{st:List (Nat×Option Int)}{w:Option Int}(FP:Ym rows gs)(hp:p<rows.length)(c:Xc rows gs p st e w):st.length<=rows.length:=by
 have hlt:=c.ch.lt FP hp;have:=c.nodup.length_le_of_subset (l₂:=List.range rows.length) fun x hx=>by
  obtain⟨s,hs,rfl⟩:=zu6.mp hx;exact zvy.mpr (hlt s hs)
 rw[zuw,zvu] at this;exact this
end G
namespace L2
open PySem PySem.Spec PyProof.Rows
section
variable{X:Cx}{pins:List (Addr×Obj)}{σ:List (Option V)}{H H':Hp}{s:Shared}{h':Heap}
theorem Inv.turnedL{t':Nat}{fp:List Addr}(I:Inv X pins σ H s)(hf:∀ b∈fp,FpOk X pins H b)(k:∀ b o,b∉fp->s.heap.get? b=some o->h'.get? b=some o):Inv X pins σ H { s with heap:=h',toks:=t' }:=by
 have nit:∀ b u,H b=some u->b∉fp:=fun b u e z=>by rw[(hf b z).1] at e;cases e
 refine I.step (g':=s.gens) (d':=s.drawn) (ch:=fp) (fun b hb=>?_) (fun b o _ _ hc e _=>k b o hc e) (fun b o _ _ hc e _=>⟨o.slots,k b o hc e⟩) (fun _ _ _ _ n=>n)
  (fun b o hc e=>⟨o,k b o hc e⟩) (fun _ _ e=>e) (fun _ _ _ e=>e) (fun b ps e=>⟨#[],by rw[e];simp⟩) (fun m hm=>?_) (fun b u e=>?_) I.bare
 ·obtain⟨f0,f1,f2,f3,f4,f5⟩:=hf b hb;exact⟨f3,f1,f4,f5⟩
 ·obtain⟨o,es,ep,ho,r⟩:=hm;exact⟨o,es,ep,k _ o (fun z=>(hf _ z).2.1 rfl) ho,r⟩
 ·refine(I.hok b u e).stay (fun c v hc q=>k c v ?_ q) (fun _ q=>q) fun _ _ q=>q;rcases hc with z|z
  ·rw[z];exact nit b u e
  ·exact nit c _ z
theorem Inv.turnLay{t':Nat}{fp:List Addr}{a:Addr}{o:HO}(I:Inv X pins σ H s)(hf:∀ b∈fp,FpOk X pins H b)(k:∀ b o,b∉fp->s.heap.get? b=some o->h'.get? b=some o)(hp:s.heap.objs.size<=a)(new:Y6 X.prog X.w (upd H a o) h' a o):Inv X pins σ (upd H a o) { s with heap:=h',toks:=t' }:=by
 have nit:∀ b u,H b=some u->b∉fp:=fun b u e z=>by rw[(hf b z).1] at e;cases e
 have hn:H a=none:=I.hok.fresh hp;have ne:∀ b u,s.heap.get? b=some u->b≠a:=fun b u e=>zvq (zvk (Heap.lt_size e) hp);refine I.step (g':=s.gens) (d':=s.drawn) (ch:=fp) (fun b hb=>?_) (fun b o _ _ hc e _=>k b o hc e) (fun b o _ _ hc e _=>⟨o.slots,k b o hc e⟩) (fun b u _ e n=>by rw[Zf (ne b u e)];exact n)
  (fun b o hc e=>⟨o,k b o hc e⟩) (fun b _ e=>by rw[Zf (Zh e hn)];exact e) (fun b _ _ e=>by rw[Zf (Zh e hn)];exact e) (fun b ps e=>⟨#[],by rw[Zf (Zh e hn),e];simp⟩) (fun m hm=>?_) (fun b u e=>?_) I.bare
 ·obtain⟨f0,f1,f2,f3,f4,f5⟩:=hf b hb;exact⟨f3,f1,f4,f5⟩
 ·obtain⟨o,es,ep,ho,r⟩:=hm;exact⟨o,es,ep,k _ o (fun z=>(hf _ z).2.1 rfl) ho,r⟩
 ·by_cases hb:b=a
  ·subst hb;rw[Ze] at e;cases e;exact new
  ·rw[Zf hb] at e;refine(I.hok b u e).stay (fun c v hc q=>k c v ?_ q) (fun c q=>by rw[Zf (Zh q hn)];exact q) fun c _ q=>by rw[Zf (Zh q hn)];exact q
   rcases hc with z|z
   ·rw[z];exact nit b u e
   ·exact nit c _ z
end
def Ite(K:Frag)(a:Addr):It :=
 ⟨fun i H=>∃ xs x,SqL K H a xs/\xs[i]?=some x,fun i H x H'=>∃ p y,H p=none/\(∀ xs,SqL K H a xs->xs[i]?=some y)/\x=.ref p/\H'=upd H p (.tup [.int (i:Nat),y]),fun i H=>∃ xs,SqL K H a xs/\xs.length<=i⟩
theorem zd9{P:Program}{w:World}{K:Frag}{elts:List Expr}{k:Nat}{tp:Pos}(a e it:Addr)(hne:e≠it):Bf P w K (.Tuple elts k tp) (Ite K a) [e,it] e (fun i h=>(∃ old,IsEnum h e it (i:Nat) old)/\h.IsListIter it a i) where
 mem:=by simp
 obj:=fun i h st b hb=>by
  obtain⟨⟨old,h1⟩,h2⟩:=st;have e:b=e\/b=it:=by simpa using hb
  rcases e with rfl|rfl
  ·exact⟨_,h1,fun v z=>by cases z⟩
  ·obtain⟨o,e,c,d⟩:=h2;exact⟨o,e,fun v z=>by rw[d] at z;cases z⟩
 keep:=fun i h h' st k=>⟨let ⟨old,h1⟩:=st.1;⟨old,k e (by simp) _ h1⟩,st.2.at fun o q=>k it (by simp) o q⟩
 item:=by
  intro X hP hw hK hc i pins s σ H E I hf st hg;subst hP hw hK;obtain⟨xs,x,hq,hx⟩:=hg;obtain⟨its,rv,p,hz⟩:=I.list hq;obtain⟨u,hu,ru⟩:=rv.get hx;obtain⟨⟨old,h1⟩,h2⟩:=st;refine wpAny_pyNext_enum_item h1 h2 p.isList (x:=u) (by simpa using hu) hne fun h' o1 o2 o3 o4 o5=>?_;refine⟨_,rfl,wpAny_letOwnedTupleGo_enum o1 fun h'' e1 sb=>?_⟩;have hes:e≠s.heap.objs.size:=fun z=>by
   exact zwn _ (z▸Heap.lt_size h1)
  have kk:∀ b o,b∉[e,it]->s.heap.get? b=some o->h''.get? b=some o:=fun b o hb q=>by
   have hb':b≠e/\b≠it:=by simpa using hb
   exact(sb.2 b hb'.1).trans (o5 b o hb'.1 hb'.2 q)
  have new:h''.get? s.heap.objs.size=some { cls:=Value.type "tuple",data:=Data.seq #[Value.int (i:Nat) s.toks,u] }:=(sb.2 _ (Ne.symm hes)).trans o3;have line:=Ov;refine⟨.ref s.heap.objs.size,_,I.turnLay (t':=s.toks+1) (o:=.tup [.int (i:Nat),x]) hf kk (zu7 _) ⟨?_,_,.cons ⟨s.toks,rfl⟩ (.cons ru .nil),⟨_,new,rfl,_,rfl⟩⟩,rfl,⟨_,x,I.hok.fresh (zu7 _),fun ys hy=>by rw[I.list_inj hy hq];exact hx,rfl,rfl⟩,⟨⟨u,e1⟩,o2.at fun o q=>(sb.2 it (Ne.symm hne)).trans q⟩,fun b hb=>?_⟩
  ·show 2<=sizeLine;rw[sizeLine_eq];decide
  ·have hb':b=e\/b=it:=by simpa using hb
   have hlt:b<s.heap.objs.size:=by
    rcases hb' with rfl|rfl
    ·exact Heap.lt_size h1
    ·obtain⟨o,q,_⟩:=h2;exact Heap.lt_size q
   rw[Zf (zvq hlt)];exact(hf b hb).1
 done:=by
  intro X hP hw hK hc i pins s σ H E I hf st hg;subst hP hw hK;obtain⟨xs,hq,hx⟩:=hg;obtain⟨its,rv,p,hz⟩:=I.list hq;obtain⟨⟨old,h1⟩,h2⟩:=st;have hl:=rv.length;exact wpAny_pyNext_enum_end (I.ok.hd hc) h1 h2 p.isList (by simp;omega) fun h' eb=>⟨rfl,I.turnedL (t':=s.toks) hf fun b o hb q=>eb b o (fun z=>hb (by simp[z])) q⟩
 self:=fun _ _ _ _ _ st h=>by
  obtain⟨⟨old,h1⟩,h2⟩:=st;exact wpAny_pyIter_enum h1 h
inductive zj0(K:Frag)(R:It->Hp->Prop)(vs:List V)(H1:Hp):Prop where
 | mk(a)(_:vs=[.ref a])(_:(∃ xs,SqL K H1 a xs))(_:R (Ite K a) H1)
def zli(K:Frag)(ta:TA):TI:=fun σ H R=>ta σ H fun vs H1=>zj0 K R vs H1
theorem zcu{X:Cx}{K:Frag}{elts:List Expr}{k:Nat}{tp:Pos}{a:Expr}{ta:TA}{p pos:Pos}(hK:X.K=K)(hg:Gl X "enumerate")(hm:X.mg "enumerate"=none)(ha:PA X [a] ta)(hs:starEach [a] X.env=[(false,eval a X.env)]:=by rfl):PI X (.Tuple elts k tp) (.Call (.Name "enumerate" p) [a] [] pos) (zli K ta):=by
 subst hK;intro pins s σ H R I h;refine Call_ (Ot I hg hm boot_enumerate (PyProof.Rows.callWith_type1 (thn (ha pos pins s σ H _ I h) fun us s1 ⟨vs,H1,I1,r1,q1⟩=>?_) hs rfl));obtain⟨a,e,⟨xs,hq⟩,q⟩:=q1;subst e;obtain⟨u,rfl,ru⟩:=Qg r1;cases ru;obtain⟨its,rv,pl,hz⟩:=I1.list hq;refine call_enumerate_list pl.isList fun h' e1 e2 e3 e4=>?_;refine wpAny_pyIter_enum e1 ?_;refine⟨_,[s1.heap.objs.size+1,s1.heap.objs.size],_,_,H1,rfl,I1.kept (t':=s1.toks) e4,zd9 a _ _ (Nat.succ_ne_self _),⟨⟨_,e1⟩,e2⟩,fun b hb=>?_,q⟩;have e:b=s1.heap.objs.size+1\/b=s1.heap.objs.size:=by simpa using hb
 rcases e with rfl|rfl
 ·exact I1.fpOk (Nat.le_succ _) (I1.hok.fresh (Nat.le_succ _))
 ·exact I1.fpOk (zu7 _) (I1.hok.fresh (zu7 _))
theorem zf7{K:Frag}{a:Addr}{xs:List V}{g:TG}{tb:TS}{D:Oa}{σ:St}{H:Hp}(Pv:Nat->St->Hp->Prop)(h0:Pv 0 σ H)(hl:∀ i σ H,i<=xs.length->Pv i σ H->SqL K H a xs)
  (hs:∀ i x p σ H,xs[i]?=some x->Pv i σ H->H p=none->g (.ref p) σ (upd H p (.tup [.int (i:Nat),x])) fun σ2 H2=>tb { D with nx:=Pv (i+1),ct:=Pv (i+1),bk:=D.nx } σ2 H2) (hd:∀ σ H,Pv xs.length σ H->D.nx σ H) :
  ∃ W:Nat->Nat->St->Hp->Prop,(∃ m,W 0 m σ H)/\∀ i m σ H,W i m σ H ->
    ((Ite K a).stop i H/\D.nx σ H)\/((Ite K a).go i H/\∃ N:St->Hp->Prop,(∀ σ' H',N σ' H'->∃ m',m' < m/\W (i+1) m' σ' H')/\∀ x H',(Ite K a).yld i H x H'->g x σ H' fun σ2 H2=>tb { D with nx:=N,ct:=N,bk:=D.nx } σ2 H2):=by
 refine⟨fun i m σ H=>m=xs.length-i/\i<=xs.length/\Pv i σ H,⟨xs.length,by simp,zvo _,h0⟩,?_⟩;rintro i m σ H ⟨rfl,hi,p⟩;have q:=hl i σ H hi p;by_cases hlt:i<xs.length
 ·refine .inr ⟨⟨xs,xs[i],q,by simp[hlt]⟩,Pv (i+1),fun σ' H' p'=>⟨xs.length-(i+1),by omega,rfl,hlt,p'⟩,fun x H' y=>?_⟩;obtain⟨t,y,h1,h2,rfl,rfl⟩:=y;exact hs i y t σ _ (h2 xs q) p h1
 ·have e:i=xs.length:=by omega
  subst e;exact .inl ⟨⟨xs,q,zu7 _⟩,hd σ H p⟩
def Itz(K:Frag)(a b:Addr):It :=
 ⟨fun i H=>∃ xs ys x y,SqL K H a xs/\SqL K H b ys/\xs[i]?=some x/\ys[i]?=some y,fun i H x H'=>∃ p y z,H p=none/\(∀ xs,SqL K H a xs->xs[i]?=some y)/\(∀ ys,SqL K H b ys->ys[i]?=some z)/\x=.ref p/\H'=upd H p (.tup [y,z]),
  fun i H=>∃ xs ys,SqL K H a xs/\SqL K H b ys/\(xs.length<=i\/ys.length<=i)⟩
theorem zf8{P:Program}{w:World}{K:Frag}{elts:List Expr}{k:Nat}{tp:Pos}(l1 l2 z TI TO i1 i2:Addr)(hz:ZipApart z TI TO i1 i2 l1 l2):Bf P w K (.Tuple elts k tp) (Itz K l1 l2) [z,TO,i1,i2,TI] z
  (fun i h=>IsZip h z TI TO Value.none/\IsPair h TI (Value.ref i1) (Value.ref i2)/\(∃ a b,IsPair h TO a b)/\h.IsListIter i1 l1 i/\h.IsListIter i2 l2 i) where
 mem:=by simp
 obj:=fun i h st b hb=>by
  obtain⟨h1,h2,⟨a,b',h3⟩,h4,h5⟩:=st;have e:b=z\/b=TO\/b=i1\/b=i2\/b=TI:=by simpa using hb
  rcases e with rfl|rfl|rfl|rfl|rfl
  ·exact⟨_,h1,fun v z=>by cases z⟩
  ·exact⟨_,h3,fun v z=>by cases z⟩
  ·obtain⟨o,e,c,d⟩:=h4;exact⟨o,e,fun v z=>by rw[d] at z;cases z⟩
  ·obtain⟨o,e,c,d⟩:=h5;exact⟨o,e,fun v z=>by rw[d] at z;cases z⟩
  ·exact⟨_,h2,fun v z=>by cases z⟩
 keep:=fun i h h' st k=>by
  obtain⟨h1,h2,⟨a,b',h3⟩,h4,h5⟩:=st;exact⟨k z (by simp) _ h1,k TI (by simp) _ h2,⟨a,b',k TO (by simp) _ h3⟩,h4.at fun o q=>k i1 (by simp) o q,h5.at fun o q=>k i2 (by simp) o q⟩
 item:=by
  intro X hP hw hK hc i pins s σ H E I hf st hg;subst hP hw hK;obtain⟨xs,ys,x,y,hq,hq2,hx,hy⟩:=hg;obtain⟨its,rv,p,_⟩:=I.list hq;obtain⟨its2,rv2,p2,_⟩:=I.list hq2;obtain⟨u,hu,ru⟩:=rv.get hx;obtain⟨u2,hu2,ru2⟩:=rv2.get hy;obtain⟨h1,h2,⟨a,b',h3⟩,h4,h5⟩:=id st;refine wpAny_pyNext_zip_item hz h1 h2 h3 h4 h5 p.isList p2.isList (x:=u) (y:=u2) (by simpa using hu) (by simpa using hu2) fun h' o1 o2 o3 o4 o5 o6 o7=>?_;refine⟨_,rfl,wpAny_letOwnedTupleGo_zip o1 fun h'' e1 sb=>?_⟩;have lt:∀ b o,s.heap.get? b=some o->b≠s.heap.objs.size:=fun b o q=>zvq (Heap.lt_size q);have kk:∀ b o,b∉[z,TO,i1,i2,TI]->s.heap.get? b=some o->h''.get? b=some o:=fun b o hb q=>by
   have hb':b≠z/\b≠TO/\b≠i1/\b≠i2/\b≠TI:=by simpa using hb
   exact(sb.2 b hb'.1).trans (o7 b o hb'.1 hb'.2.1 hb'.2.2.1 hb'.2.2.2.1 q)
  have new:h''.get? s.heap.objs.size=some { cls:=Value.type "tuple",data:=Data.seq #[u,u2] }:=(sb.2 _ (Ne.symm (lt _ _ h1))).trans o5;refine⟨.ref s.heap.objs.size,_,I.turnLay (t':=s.toks) (o:=.tup [x,y]) hf kk (zu7 _) ⟨?_,_,.cons ru (.cons ru2 .nil),⟨_,new,rfl,_,rfl⟩⟩,rfl,⟨_,x,y,I.hok.fresh (zu7 _),fun zs hy'=>by rw[I.list_inj hy' hq];exact hx,fun zs hy'=>by rw[I.list_inj hy' hq2];exact hy,rfl,rfl⟩,
   ⟨e1,(sb.2 _ hz.TIz).trans (o7 _ _ hz.TIz hz.TITO hz.TIi1 hz.TIi2 h2),⟨_,_,(sb.2 _ hz.TOz).trans o2⟩,o3.at fun o q=>(sb.2 _ hz.i1z).trans q,o4.at fun o q=>(sb.2 _ hz.i2z).trans q⟩,fun b hb=>?_⟩
  ·show 2<=sizeLine;rw[sizeLine_eq];decide
  ·have hne:b≠s.heap.objs.size:=by
    have e:b=z\/b=TO\/b=i1\/b=i2\/b=TI:=by simpa using hb
    rcases e with rfl|rfl|rfl|rfl|rfl
    ·exact lt _ _ h1
    ·exact lt _ _ h3
    ·obtain⟨o,q,_⟩:=h4;exact lt _ _ q
    ·obtain⟨o,q,_⟩:=h5;exact lt _ _ q
    ·exact lt _ _ h2
   rw[Zf hne];exact(hf b hb).1
 done:=by
  intro X hP hw hK hc i pins s σ H E I hf st hg;subst hP hw hK;obtain⟨xs,ys,hq,hq2,hx⟩:=hg;obtain⟨its,rv,p,_⟩:=I.list hq;obtain⟨its2,rv2,p2,_⟩:=I.list hq2;obtain⟨h1,h2,⟨a,b',h3⟩,h4,h5⟩:=st;have hl:=rv.length;have hl2:=rv2.length;exact wpAny_pyNext_zip_end (I.ok.hd hc) hz h1 h2 h3 h4 h5 p.isList p2.isList (hx.imp (fun z=>by simp;omega) fun z=>by simp;omega) fun h' eb=>⟨rfl,I.turnedL (t':=s.toks) hf fun b o hb q=>by
   have hb':b≠z/\b≠TO/\b≠i1/\b≠i2/\b≠TI:=by simpa using hb
   exact eb b o hb'.1 hb'.2.1 hb'.2.2.1 hb'.2.2.2.1 q⟩
 self:=fun _ _ _ _ _ st h=>wpAny_pyIter_zip st.1 h
inductive zlj(K:Frag)(R:It->Hp->Prop)(vs:List V)(H1:Hp):Prop where
 | mk(a)(b)(_:vs=[.ref a,.ref b])(_:(∃ xs,SqL K H1 a xs))(_:(∃ ys,SqL K H1 b ys))(_:R (Itz K a b) H1)
def zl8(K:Frag)(ta:TA):TI:=fun σ H R=>ta σ H fun vs H1=>zlj K R vs H1
theorem zj1{X:Cx}{K:Frag}{elts:List Expr}{k:Nat}{tp:Pos}{a b:Expr}{ta:TA}{p pos:Pos}(hK:X.K=K)(hg:Gl X "zip")(hm:X.mg "zip"=none)(ha:PA X [a,b] ta)(hs:starEach [a,b] X.env=[(false,eval a X.env),(false,eval b X.env)]:=by rfl)(hs2:starEach [b] X.env=[(false,eval b X.env)]:=by rfl):PI X (.Tuple elts k tp) (.Call (.Name "zip" p) [a,b] [] pos) (zl8 K ta):=by
 subst hK;intro pins s σ H R I h;refine Call_ (Ot I hg hm boot_zip (PyProof.Rows.callWith_type1 (thn (ha pos pins s σ H _ I h) fun us s1 ⟨vs,H1,I1,r1,q1⟩=>?_) (by rw[hs,hs2]) (by rw[hs2];rfl)));obtain⟨a,b,e,⟨xs,hq⟩,⟨ys,hq2⟩,q⟩:=q1;subst e;cases r1 with
 | cons r rr =>
   obtain⟨u,rfl,ru⟩:=Qg rr;cases r;cases ru;obtain⟨its,rv,pl,hz⟩:=I1.list hq;obtain⟨its2,rv2,pl2,hz2⟩:=I1.list hq2;have lt1:@LT.lt Nat _ a s1.heap.objs.size:=by obtain⟨_,e,_⟩:=pl.isList;exact Heap.lt_size e
   have lt2:@LT.lt Nat _ b s1.heap.objs.size:=by obtain⟨_,e,_⟩:=pl2.isList;exact Heap.lt_size e
   refine call_zip_2 pl.isList pl2.isList fun h' e1 e2 e3 e4 e5 e6 e7=>?_;refine wpAny_pyIter_zip e1 ?_;refine⟨_,[s1.heap.objs.size+4,s1.heap.objs.size+3,s1.heap.objs.size,s1.heap.objs.size+1,s1.heap.objs.size+2],_,_,H1,rfl,I1.kept (t':=s1.toks) e7,zf8 a b _ _ _ _ _ ?_,⟨e1,e2,⟨_,_,e3⟩,e4,e5⟩,fun c hb=>?_,q⟩
   ·refine⟨?_,?_,?_,?_,?_,?_,?_,?_,?_,?_,?_,?_,?_,?_,?_,?_,?_,?_⟩<;>(show @Ne Nat _ _;omega)
   have e:c=s1.heap.objs.size+4\/c=s1.heap.objs.size+3\/c=s1.heap.objs.size\/c=s1.heap.objs.size+1\/c=s1.heap.objs.size+2:=by simpa using hb
   have hle:s1.heap.objs.size<=c:=by rcases e with rfl|rfl|rfl|rfl|rfl<;>omega
   exact I1.fpOk hle (I1.hok.fresh hle)
section
variable{X:Cx}{pins:List (Addr×Obj)}{σ:List (Option V)}{H H':Hp}{s:Shared}{h':Heap}
theorem Inv.freeze(I:Inv X pins σ H s)(e:H a=some (.dK kvs))(ho:s.heap.get? a=some o):Inv X pins σ (upd H a (.frz o (.dK kvs))) s:=by
 have na:∀ b u,H b=some u->u≠.dK kvs->b≠a:=fun b u q n z=>by subst z;rw[q] at e;exact n (Option.some.inj e)
 refine I.un (h':=s.heap) (t':=s.toks) ⟨fun b o q _ _ _=>q,fun b o q _ _ _=>⟨o.slots,q⟩,fun b o q n _=>?_,fun b o q _=>⟨o,q⟩,fun b ys q=>?_,fun b o v q=>?_,fun b ps q=>⟨#[],?_⟩⟩ fun b u q=>?_
 ·rw[Zf (fun z=>by subst z;rw[n] at e;cases e)];exact n
 ·rw[Zf (na b _ q fun z=>nomatch z)];exact q
 ·rw[Zf (na b _ q fun z=>nomatch z)];exact q
 ·rw[Zf (na b _ q fun z=>nomatch z),q];simp
 ·have stay:∀ {b u},Y6 X.prog X.w H s.heap b u->Y6 X.prog X.w (upd H a (.frz o (.dK kvs))) s.heap b u:=fun {b u} k=>k.stay (fun _ _ _ q=>q) (fun c q=>by rw[Zf (na c _ q fun z=>nomatch z)];exact q) fun c _ q=>by rw[Zf (na c _ q fun z=>nomatch z)];exact q
  by_cases hb:b=a
  ·subst hb;rw[Ze] at q;cases q;exact⟨ho,stay (I.hok b _ e)⟩
  ·rw[Zf hb] at q;exact stay (I.hok b u q)
end
def Itk(a:Addr)(o:Obj)(kvs:List (Key×V)):It :=
 ⟨fun i H=>H a=some (.frz o (.dK kvs))/\i<kvs.length,fun i H x H'=>H'=H/\∃ p,kvs[i]?=some p/\x=kV p.1,fun i H=>H a=some (.frz o (.dK kvs))/\kvs.length<=i⟩
theorem zf9(I:Inv X pins σ H s)(e:H a=some (.frz o (.dK kvs))):∃ vs,KV kvs vs/\∃ es ep,o.data=.dict es ep/\s.heap.DictAt (Yn X.prog X.w) a vs ep:=by
 obtain⟨h1,hz,hm,vs,kv,o',es,ep,h2,h3,h4,h5⟩:=(show Y6 X.prog X.w H s.heap a (.frz o (.dK kvs)) from I.hok a _ e);rw[h1] at h2;cases h2;exact⟨vs,kv,es,ep,h4,o,es,h1,h3,h4,h5⟩
theorem zea{P:Program}{w:World}{K:Frag}{tg:Expr}(a it:Addr)(o:Obj)(kvs:List (Key×V))(es:Array DictEntry)(ep:Nat)(ho:o.data=.dict es ep):Bf P w K tg (Itk a o kvs) [it] it (fun i h=>h.IsKeyIter it a i kvs.length ep) where
 mem:=by simp
 obj:=fun i h st b hb=>by
  have e:b=it:=by simpa using hb
  subst e;obtain⟨o,e,c,d⟩:=st;exact⟨o,e,fun v z=>by rw[d] at z;cases z⟩
 keep:=fun i h h' st k=>by
  obtain⟨o,e,c,d⟩:=st;exact⟨o,k it (by simp) o e,c,d⟩
 item:=by
  intro X hP hw hK hc i pins s σ H E I hf st hg;subst hP hw hK;obtain⟨hq,hi⟩:=hg;obtain⟨vs,kv,es',ep',h1,h2⟩:=zf9 I hq;rw[ho] at h1;cases h1;obtain⟨f0,f1,f2,f3,f4,f5⟩:=hf it (by simp);have hl:kvs.length=vs.length:=KV.length kv;have hv:i<vs.length:=by omega
  obtain⟨⟨k,v⟩,hkv⟩:∃ kv,vs[i]'hv=kv:=⟨_,rfl⟩;rw[hl] at st;refine wpAny_pyNext_dict_item st h2 (k:=k) (v:=v) (by rw[zuy hv,hkv]) fun key h' hk st' sb=>?_;have I1:Inv X pins σ H { s with heap:=h' }:=I.turned (t':=s.toks) (fun b o hb e=>(sb.2 b hb).trans e) f0 f1 f3 f4 f5;obtain⟨o2,e2,c2,d2⟩:=id st';have ek:=congrArg (·[i]?) (KV.keys kv);simp only[zu1,zuy hv,zuy hi,hkv,zv0] at ek;refine⟨key,rfl,ze4 (s:={ s with heap:=h' }) e2 c2 d2 ⋯ ⟨kV (kvs[i]'hi).1,H,I1,?_,⟨rfl,_,zuy hi,rfl⟩,by rw[hl];exact st',fun b hb=>(hf b hb).1⟩⟩;have e3:(kvs[i]'hi).1=k:=Option.some.inj ek;rw[e3];rcases Yt hk with ⟨j,t,rfl,rfl⟩|⟨z,t,rfl,rfl⟩
  ·exact⟨t,rfl⟩
  ·exact⟨t,rfl⟩
 done:=by
  intro X hP hw hK hc i pins s σ H E I hf st hg;subst hP hw hK;obtain⟨hq,hi⟩:=hg;obtain⟨vs,kv,es',ep',h1,h2⟩:=zf9 I hq;rw[ho] at h1;cases h1;obtain⟨f0,f1,f2,f3,f4,f5⟩:=hf it (by simp);have hl:kvs.length=vs.length:=KV.length kv;rw[hl] at st;exact wpAny_pyNext_dict_end (I.ok.hd hc) st h2 (List.getElem?_eq_none ⋯) fun h' eb=>⟨rfl,I.turned (t':=s.toks) (fun b o hb e=>eb b o hb e) f0 f1 f3 f4 f5⟩
 self:=fun _ _ _ _ _ st h=>wpAny_pyIter_keyiter st h
inductive zj2(R:It->Hp->Prop)(x:V)(H1:Hp):Prop where
 | mk(a)(kvs)(_:x=.ref a)(_:H1 a=some (.dK kvs))(_:∀ o,R (Itk a o kvs) (upd H1 a (.frz o (.dK kvs))))
def zlk(tl:TE):TI:=fun σ H R=>tl σ H fun x H1=>zj2 R x H1
theorem zcv{X:Cx}{tg:Expr}{l:Expr}{tl:TE}(hl:PE X l tl):PI X tg l (zlk tl):=by
 intro pins s σ H R I h;refine thn (hl pins s σ H _ I h) fun v s1 ⟨x,H1,I1,r1,q1⟩=>?_;obtain⟨a,kvs,e,hq,q⟩:=q1;subst e;cases r1;obtain⟨hz,hm,vs,kv,o,es,ep,h2,h3,h4,h5⟩:=(show Y6 X.prog X.w H1 s1.heap a (.dK kvs) from I1.hok a _ hq);have hl:kvs.length=vs.length:=KV.length kv;have I2:=I1.freeze hq h2;refine wpAny_pyIter_dict hm ⟨o,es,h2,h3,h4,h5⟩ ?_;refine⟨s1.heap.objs.size,[s1.heap.objs.size],_,_,_,rfl,I2.kept (t':=s1.toks) fun b o e=>Heap.get?_push_of_some _ e,zea a _ o kvs es ep h4,⟨_,Heap.get?_push_size _ rfl,rfl,by rw[hl];rfl⟩,fun b hb=>?_,q o⟩;have e:b=s1.heap.objs.size:=by simpa using hb
 subst e;exact I2.fpOk (zu7 _) (I2.hok.fresh (zu7 _))
theorem B3{a:Addr}{o:Obj}{kvs:List (Key×V)}{g:TG}{tb:TS}{D:Oa}{σ:St}{H:Hp}(Pv:Nat->St->Hp->Prop)(h0:Pv 0 σ H)(hl:∀ i σ H,i<=kvs.length->Pv i σ H->H a=some (.frz o (.dK kvs)))
  (hs:∀ i k v σ H,kvs[i]?=some (k,v)->Pv i σ H->g (kV k) σ H fun σ2 H2=>tb { D with nx:=Pv (i+1),ct:=Pv (i+1),bk:=D.nx } σ2 H2) (hd:∀ σ H,Pv kvs.length σ H->D.nx σ H) :
  ∃ W:Nat->Nat->St->Hp->Prop,(∃ m,W 0 m σ H)/\∀ i m σ H,W i m σ H ->
    ((Itk a o kvs).stop i H/\D.nx σ H)\/((Itk a o kvs).go i H/\∃ N:St->Hp->Prop,(∀ σ' H',N σ' H'->∃ m',m' < m/\W (i+1) m' σ' H')/\∀ x H',(Itk a o kvs).yld i H x H'->g x σ H' fun σ2 H2=>tb { D with nx:=N,ct:=N,bk:=D.nx } σ2 H2):=by
 refine⟨fun i m σ H=>m=kvs.length-i/\i<=kvs.length/\Pv i σ H,⟨kvs.length,by simp,zvo _,h0⟩,?_⟩;rintro i m σ H ⟨rfl,hi,p⟩;have q:=hl i σ H hi p;by_cases hlt:i<kvs.length
 ·refine .inr ⟨⟨q,hlt⟩,Pv (i+1),fun σ' H' p'=>⟨kvs.length-(i+1),by omega,rfl,hlt,p'⟩,fun x H' y=>?_⟩;obtain⟨e,⟨k,v⟩,y,rfl⟩:=y;subst e;exact hs i k v σ _ y p
 ·have e:i=kvs.length:=by omega
  subst e;exact .inl ⟨⟨q,zu7 _⟩,hd σ H p⟩
theorem zeb(hc:X.calm=true):Vm X (.builtin "max") (fun xs H Q=>∃ (l:Addr) (kvs:List (Key×V)) (ns:List Int),xs=[.ref l]/\Rd H l (.dK kvs)/\kvs.map (·.1)=ns.map inl/\0<ns.length/\∀ M,M∈ns->(∀ a∈ns,a<=M)->Q (.int M) H):=by
 intro pins s σ H xs us Q I r h;obtain⟨l,kvs,ns,rfl,hl,hns,hpos,q⟩:=h;obtain⟨u,rfl,ru⟩:=Qg r;cases ru;obtain⟨hz,hm,vs,kv,o,es,ep,h2,h3,h4,h5⟩:=Qh I.hok hl;have hlen:vs.length=ns.length:=by
  have e1:=KV.length kv;have e2:=congrArg List.length hns;rw[zuw,zuw] at e2;omega
 have hlt:l<s.heap.objs.size:=Heap.lt_size h2;have da:s.heap.DictAt (Yn X.prog X.w) l vs ep:=⟨o,es,h2,h3,h4,h5⟩;have val:∀ (i:Nat) (v:Value),(∃ k y,vs[i]?=some (k,y)/\(Yn X.prog X.w).is k v=true)->∃ t,v=.int (ns.getD i 0) t:=fun i v ⟨k,y,hk,hv⟩=>by
  have e1:=congrArg (·[i]?) (KV.keys kv);have e2:=congrArg (·[i]?) hns;simp only[zu1,hk,zv0] at e1 e2;rw[e1] at e2;have hi:i<ns.length:=by
   rw[<- hlen];exact(zux.mp hk).1
  rw[zuy hi] at e2;have e3:k=inl (ns[i]'hi):=Option.some.inj e2;have e4:ns.getD i 0=ns[i]'hi:=by rw[zvp,zuy hi];rfl
  rw[e4];rcases Yt hv with ⟨j,t,rfl,rfl⟩|⟨z,t,rfl,rfl⟩
  ·cases e3;exact⟨t,rfl⟩
  ·cases e3
 refine call_max_walk (wpAny_pyIter_dict hm da ?_);refine⟨s.heap.objs.size,[s.heap.objs.size,l],[s.heap.objs.size],vs.length,_,_,_,rfl,Walks.dictKeys (knd:=Yn X.prog X.w) (A:=X.A.in1) (I.ok.hd hc) _ l (zvq hlt) vs ep,⟨⟨_,Heap.get?_push_size _ rfl,rfl,rfl⟩,da.push _⟩,fun b hb=>?_,by omega,CmpOf.ints_gt (fun i=>ns.getD i 0) (fun i v hv=>val i v hv),fun v h' tk hP hk=>?_⟩
 ·show b<(s.heap.push _).objs.size;rw[Heap.size_push];rcases zu4.mp hb with rfl|hb
  ·exact Nat.lt_succ_self _
  ·rcases zu4.mp hb with rfl|hb
   ·exact zw1 hlt
   ·cases hb
 ·obtain⟨h1,h2⟩:=argBest_gt (fun i=>ns.getD i 0) (vs.length-1);obtain⟨t,rfl⟩:=val _ v hP;rw[hlen] at h1 h2 ⊢;generalize argBest (fun i j=>decide ((fun i=>ns.getD i 0) i>(fun i=>ns.getD i 0) j)) (ns.length-1)=b at h1 h2 ⊢;have hb:b<ns.length:=by omega
  have eg:∀ (k:Nat) (hk:k<ns.length),ns.getD k 0=ns[k]'hk:=fun k hk=>by rw[zvp,zuy hk];rfl
  refine⟨.int (ns.getD b 0),H,I.kept fun c o e=>?_,⟨_,rfl⟩,q _ (by rw[eg b hb];exact zvs hb) fun x hx=>?_⟩
  ·refine hk c o (fun hm=>?_) (Heap.get?_push_of_some _ e);rw[zu0.mp hm] at e;exact zwn _ (Heap.lt_size e)
  ·obtain⟨k,hk',rfl⟩:=zv6 hx;have:=h2 k ⋯;show ns[k]<=_;rw[<- eg k hk'];exact this
theorem O1(I:Nat->Shared->Prop)
  (turn:∀ (n:Nat) (s:Shared),I n s->wpAny (model prog w) A (pyNext it) (fun r s₁=>match r with
   | none=>R (.ok .next) s₁
   | some v=>wpAny (model prog w) A (letOwnedTupleGo target it v) (fun _ s₁'=>wpAny (model prog w) A (assign target env v) (fun _ s₂=>wpAny (model prog w) A (forIn ifs true fun c r=>if r=true then do let ok <- isTrue c env (eval c env);pure (ForInStep.yield ok) else pure (ForInStep.yield r)) (fun ok s₃=>if ok=true then wpAny (model prog w) A (eval elt env) (fun x s₄=>wpAny (model prog w) A (call (.builtin "list.append") [acc,x]) (fun _ s₅=>∃ m,m<n/\I m s₅) (notedBy (model prog w) A env fun e s'=>R (.error e) s') s₄) (notedBy (model prog w) A env fun e s'=>R (.error e) s') s₃ else ∃ m,m<n/\I m s₃) (notedBy (model prog w) A env fun e s'=>R (.error e) s') s₂) (notedBy (model prog w) A env fun e s'=>R (.error e) s') s₁') (notedBy (model prog w) A env fun e s'=>R (.error e) s') s₁) (notedBy (model prog w) A env fun e s'=>R (.error e) s') s)
  (n:Nat) (h:I n s):codeAny (model prog w) A (.compLoop (.ListComp elt [⟨target,iter,ifs,0⟩] scope pos) 0 it acc env) R s:=by
 refine codeAny_loop rfl I (fun n s hI=>?_) n h;refine wpAny_noted ?_;rw[compTurn_list];refine wpAny_bind (wpAny_standAt (wpAny_bind (wpAny_mono (turn n s hI) (fun r s₁ h₁=>?_) fun _ _ z=>z)));cases r with
 | none=>exact wpAny_pure h₁
 | some v =>
   refine wpAny_bind (wpAny_mono h₁ (fun _ s₁' h₂=>wpAny_bind (wpAny_mono h₂ (fun _ s₂ h₃=>wpAny_bind (wpAny_mono h₃ (fun ok s₃ h₄=>?_) fun _ _ z=>z)) fun _ _ z=>z)) fun _ _ z=>z);cases ok with
   | false =>
     simp only[zww,if_false] at h₄ ⊢;exact wpAny_pure ⟨rfl,h₄⟩
   | true =>
     simp only[if_true] at h₄ ⊢;refine wpAny_bind (wpAny_bind (wpAny_mono h₄ (fun x s₄ h₅=>wpAny_bind (wpAny_mono h₅ (fun _ s₅ h₆=>wpAny_pure (wpAny_pure ⟨rfl,h₆⟩)) fun _ _ z=>z)) fun _ _ z=>z))
def cs0(xo:List Str)(js:List Nat)(σ:St):St:=(xo.map fun _=>none)++js.map fun j=>(σ[j]?).getD none
def Rw(xo:List Str)(js:List Nat)(σ σ2:St):Prop:=∃ os:St,os.length=xo.length/\σ2=os++js.map fun j=>(σ[j]?).getD none
theorem Rw.weak(o:Rw xo js σ σ2)(I:Inv X pins σ2 H s):Inv X pins (cs0 xo js σ) H s:=by
 obtain⟨os,hl,rfl⟩:=o;refine I.weak (by unfold cs0;simp[hl]) fun i v e=>?_;unfold cs0 at e;by_cases hi:i<xo.length
 ·rw[zv3 (by rw[zuw];exact hi),zu1,zuy hi] at e;cases e
 ·rw[zvz (by rw[zuw];omega),zuw] at e;rw[zvz ⋯,hl];exact e
def Ce(J:It)(xo:List Str)(js:List Nat)(g:TG)(tt:TT)(te:TE)(σ:St)(H:Hp)(Q:VK):Prop:=∃ W:Nat->Nat->List V->Hp->Prop,(∃ m,W 0 m [] H)/\∀ i m ys H,W i m ys H ->
 (J.stop i H/\ys.length<=sizeLine/\∀ p,H p=none->Q (.ref p) (upd H p (.lst ys))) \/
 (J.go i H/\ys.length<sizeLine/\∃ N:List V->Hp->Prop,(∀ ys' H',N ys' H'->∃ m',m' < m/\W (i+1) m' ys' H')/\∀ x H',J.yld i H x H'->g x (cs0 xo js σ) H' fun σ2 H1=>Rw xo js σ σ2/\tt σ2 H1 fun b H2=>if b=true then te σ2 H2 fun y H3=>N (ys++[y]) H3 else N ys H2)
def zj3(wi:TI)(xo:List Str)(js:List Nat)(g:TG)(tt:TT)(te:TE):TE:=fun σ H Q=>wi σ H fun J H1=>Ce J xo js g tt te σ H1 Q
section
variable{X:Cx}{elt iter tg:Expr}{xo:List Str}{pos:Pos}{ifs:List Expr}{scope:Scope}{cl:List (Str×Addr)}{ys:List Str}{js:List Nat}{g:TG}
structure Ma(X:Cx)(xo:List Str)(scope:Scope)(cl:List (Str×Addr))(ys:List Str)(js:List Nat):Prop where
 clos:closureFor scope X.env=pure cl
 kind:scope.kind=.function
 names:∀ y∈scope.names,y.2=.local->scope.names.lookup y.1=some .local
 nocell:∀ y∈scope.names,y.2≠.cell
 at_:js.map (X.N[·]?)=ys.map some
 free:Fe (fun y=>X.env.kindOf y=some .cell/\(relabel scope X.env).names.lookup y=some .cell/\cl.lookup y=X.env.cells.lookup y) ys
 only:Fe (fun p=>X.env.cells.lookup p.1=some p.2) cl
 vis:∀ y∈scope.names,y.2=.free->y.1∈ys
theorem Ma.same(c:Ma X xo scope cl ys js)(h:cl.lookup y=some a):X.env.cells.lookup y=some a:=c.only.get (PySem.mem_of_lookup h)
theorem zga(c:Ma X xo scope cl ys js)(I:Inv X pins σ H s)(hf:∀ b∈fp,FpOk X pins H b)(hex:∀ b∈fp,b<s.heap.objs.size)(hC:s.heap.objs.size<=C) :
  (Y0 X pn Nc scope cl s H fp C).Ok where
 mod:=I.ok.mod
 kind:=c.kind
 glob:=I.ok.glob
 blt:=I.ok.blt
 above:=hC
 inj:=fun y z a h1 h2=>I.ok.inj y z a (c.same h1) (c.same h2)
 has:=fun y h=>by
  obtain⟨k,m,q⟩:=N6 h;rcases q with rfl|rfl
  ·exact absurd rfl (c.nocell _ m)
  ·obtain⟨a1,a2,a3⟩:=c.free.get (c.vis _ m rfl);obtain⟨a,ha⟩:=I.ok.has y (.inl a1);exact⟨a,a3.trans ha⟩
 cab:=fun _ _ h=>by cases h
 hd:=I.ok.hd
 frames:=I.ok.frames
 stk:=.inl rfl
 exf:=fun b hb=>by
  obtain⟨f0,f1,f2,f3,f4,f5⟩:=hf b hb;exact⟨zvq (zvk (hex b hb) hC),fun y a h=>f4 y a (c.same h)⟩
 bs:=I.bs
 bsz:=zvb I.ok.bsz I.sz
 noex:=fun b o q hb=>by
  obtain⟨f0,f1,f2,f3,f4,f5⟩:=hf b hb;rcases f3 with z|z
  ·exact I.ok.noex b o q z
  ·exact absurd (zvk (Heap.lt_size (I.ok.bs b o q).1) z) (zwn _)
 exfs:=fun b hb m=>by
  obtain⟨f0,f1,f2,f3,f4,f5⟩:=hf b hb;exact(zu4.mp (I.stkSub b m)).elim f1 f2
 funs:=I.stack
 frf:=I.stkFree
theorem zec(c:Ma X xo scope cl ys js)(I:Inv X pins σ H s)(hf:∀ b∈fp,FpOk X pins H b)(hex:∀ b∈fp,b<s.heap.objs.size)(hC:s.heap.objs.size<=C)
  (hns:h1.Ns C m1) (old:∀ b o,s.heap.get? b=some o->h1.get? b=some o) :
  Inv (Y0 X (X.pn++pins) (xo++ys) scope cl s H fp C) [] (cs0 xo js σ) H { s with heap:=h1,toks:=t1 }:=by
 obtain⟨m,hn,hl⟩:=I.loc;have jl:js.length=ys.length:=by have:=congrArg List.length c.at_;simpa using this
 refine⟨zga c I hf hex hC,rfl,I.bare,Un.kept old,⟨m1,hns,fun i y v e1 e2 e3=>?_⟩,fun y a h=>?_,I.hok.fresh hC,fun y a h=>I.freeC y a (c.same h),fun p hp=>?_,I.hok.kept old,by simp[jl,Y0,cs0]⟩
 ·have e2:=e2.resolve_right (Wr _);unfold cs0 at e2;by_cases hi:i<xo.length
  ·rw[zv3 (by rw[zuw];exact hi),zu1,zuy hi] at e2;cases e2
  ·rw[zvz (by rw[zuw];omega),zuw] at e2;have e1:ys[i-xo.length]?=some y:=by
    have e1:(xo++ys)[i]?=some y:=e1;rw[zvz ⋯] at e1;exact e1
   generalize i-xo.length=k at e1 e2;rw[zu1] at e2;cases hj:js[k]? with
   | none=>rw[hj] at e2;cases e2
   | some j =>
     rw[hj] at e2;have ej:X.N[j]?=some y:=by
      have q:=congrArg (·[k]?) c.at_;simp only[zu1,hj,e1,zv0] at q;exact Option.some.inj q
     have ev:σ[j]?=some (some v):=by
      simp only[zv0,Option.some.injEq] at e2;cases hσ:σ[j]? with
      | none=>rw[hσ] at e2;cases e2
      | some o=>rw[hσ] at e2;rw[show o=some v from e2]
     obtain⟨a1,a2,a3⟩:=c.free.get (zu2 e1);obtain⟨u,r,l⟩:=hl j y v ej (.inl ev) (.inr (.inl a1));refine⟨u,r,.inr ⟨.inl a2,?_⟩⟩;rcases l with ⟨k1,_⟩|⟨_,b,e,z⟩
     ·rw[a1] at k1;cases k1
     ·obtain⟨o,ho,hd⟩:=z;exact⟨b,a3.trans e,o,old _ _ ho,hd⟩
 ·obtain⟨v,o,ho,hd⟩:=I.cell y a (c.same h);exact⟨v,o,old _ _ ho,hd⟩
 ·obtain⟨e,n,ne,nf,d⟩:=I.pin p (by simpa [Y0] using hp);refine⟨old _ _ e,n,zvq (zvk (Heap.lt_size e) hC),fun m=>?_,d⟩;exact(zu4.mp (I.stkSub _ m)).elim ne nf
theorem Ih{pins:List (Addr×Obj)}{σ:St}{H:Hp}{s:Shared}{tt:TT}{te:TE}{it:Addr}{fp:List Addr}{tn:Nat->Heap->Prop}{J:It}{W:Nat->Nat->List V->Hp->Prop}{m0:Nat}{Q:VK}{E:Value->Shared->Prop}{RR:Value->Addr->Result->Shared->Prop}
  (hcm:X.calm=true) (c:Ma X xo scope cl ys js) (ht:∀ pn s₀ H₀ fp C,PTs (Y0 X pn (xo++ys) scope cl s₀ H₀ fp C) ifs tt) (hgt:∀ pn s₀ H₀ fp C,PG (Y0 X pn (xo++ys) scope cl s₀ H₀ fp C) tg g) (he:∀ pn s₀ H₀ fp C,PE (Y0 X pn (xo++ys) scope cl s₀ H₀ fp C) elt te)
  (I:Inv X pins σ H s) (T:Bf X.prog X.w X.K tg J fp it tn) (st0:tn 0 s.heap) (hf:∀ b∈fp,FpOk X pins H b) (w0:W 0 m0 [] H)
  (turn:∀ i m ys H,W i m ys H->(J.stop i H/\ys.length<=sizeLine/\∀ p,H p=none->Q (.ref p) (upd H p (.lst ys))) \/
   (J.go i H/\ys.length<sizeLine/\∃ N:List V->Hp->Prop,(∀ ys' H',N ys' H'->∃ m',m' < m/\W (i+1) m' ys' H')/\∀ x H',J.yld i H x H'->g x (cs0 xo js σ) H' fun σ2 H1=>Rw xo js σ σ2/\tt σ2 H1 fun b H2=>if b=true then te σ2 H2 fun y H3=>N (ys++[y]) H3 else N ys H2))
  (hRR:∀ D C s' m,s'.heap.Ns C m->(∀ h',Heap.SameBut C s'.heap h'->∃ H',Inv X pins σ H' { s' with heap:=h' }/\Q (.ref D) H')->(∃ H',Inv X pins σ H' s'/\Q (.ref D) H'/\H' C=none)->s.heap.objs.size<=C->RR (.ref D) C (.ok .next) s') :
  wpAny (model X.prog X.w) X.A (newList []) (fun acc s₃=>wpAny (model X.prog X.w) X.A (newFunctionEnv scope X.env.globals cl [] X.env.qual none .none (some X.env)) (fun cenv s₄ =>
   codeAny (model X.prog X.w) X.A (.compStart (.ListComp elt [⟨tg,iter,ifs,0⟩] scope pos) 0 (.ref it) acc { cenv with scope:=relabel scope X.env }) (RR acc cenv.locals) s₄) E s₃) E s:=by
 refine wpAny_newObj_type (wpAny_newFunctionEnv c.nocell (by intro y hy;simp at hy) (fun h₁ hns₁ hsb₁=>?_) c.kind);dsimp only at hns₁ hsb₁ ⊢;generalize hH2:s.heap.push { cls:=.type "list",dict:=none,data:=.seq ([]:List Value).toArray }=G at hns₁ hsb₁ ⊢;generalize hD:s.heap.objs.size=D;have hC:G.objs.size=D+1:=by rw[<- hH2,Heap.size_push,hD]
 generalize hCe:G.objs.size=C at hns₁ hsb₁ ⊢;have hCD:C=D+1:=hCe.symm.trans hC;have hDC:D≠C:=by omega
 have below:∀ b o,s.heap.get? b=some o->b<D:=fun b o e=>by rw[<- hD];exact Heap.lt_size e
 have ltC:∀ b:Addr,b<D->b≠C:=fun b h=>zvq (hCD▸zw1 h);have ltD:∀ b:Addr,b<D->b≠D:=fun b h=>zvq h;have old:∀ b o,s.heap.get? b=some o->h₁.get? b=some o:=fun b o e=>hsb₁.extBut b o (ltC b (below b o e)) (Heap.get?_push_of_some _ (hH2▸Heap.get?_push_of_some _ e));have hacc:h₁.PlainList D #[]:=⟨_,hsb₁.extBut _ _ hDC (Heap.get?_push_of_some _ (by rw[<- hH2,<- hD];exact Heap.get?_push_size _ rfl))⟩;have hex:∀ b∈fp,b<s.heap.objs.size:=fun b hb=>by
  obtain⟨o,e,_⟩:=T.obj _ _ st0 b hb;exact Heap.lt_size e
 have lt0:∀ b∈fp,b<D:=fun b hb=>by rw[<- hD];exact hex b hb
 have freshD:s.heap.get? D=none:=Heap.get?_none_of_le ⋯;have freshC:s.heap.get? C=none:=Heap.get?_none_of_le ⋯;have frE:∀ {H':Hp},(∀ b∈fp,H' b=none)->∀ {o:Obj} {b:Addr},b∈fp->FpOk (Y0 X (X.pn++pins) (xo++ys) scope cl s H fp C) [(D,o)] H' b:=fun {H'} hn {o b} hb=>by
  obtain⟨f0,f1,f2,f3,f4,f5⟩:=hf b hb;refine⟨hn b hb,?_,?_,.inl hb,fun y a h=>f4 y a (c.same h),fun p hp=>?_⟩
  ·exact ltC b (lt0 b hb)
  ·exact fun m=>(zu4.mp (I.stkSub b m)).elim f1 f2
  ·rcases zu8.mp hp with z|z
   ·exact f5 p z
   ·rw[zu0.mp z];exact Ne.symm (ltD b (lt0 b hb))
 have pinD:∀ {σ':St} {H':Hp} {s':Shared} {o:Obj},Inv (Y0 X (X.pn++pins) (xo++ys) scope cl s H fp C) [] σ' H' s'->s'.heap.get? D=some o->(∀ v,o.data≠.cell v)->H' D=none->Inv (Y0 X (X.pn++pins) (xo++ys) scope cl s H fp C) [(D,o)] σ' H' s':=fun {σ' H' s' o} Ic e nc n =>
  Ic.pins_of fun p hp=>by
   rw[zu0.mp hp];refine⟨e,n,hDC,fun m=>?_,nc⟩;obtain⟨_,ob,hob,_⟩:=I.stack.mem m;exact absurd (below D ob hob) (zwn _)
 have loop:∀ s₃:Shared,s₃={ s with heap:=h₁,toks:=s.toks+([]:List (Str×Value)).length } ->
   codeAny (model X.prog X.w) X.A (.compLoop (.ListComp elt [⟨tg,iter,ifs,0⟩] scope pos) 0 (.ref it) (.ref D) (compEnvC scope cl C X.env)) (RR (.ref D) C) s₃:=by
  rintro s₃ rfl;have I0:=zec (t1:=s.toks+([]:List (Str×Value)).length) c I hf hex (by omega:s.heap.objs.size<=C) hns₁ old;refine O1 (fun n s'=>∃ i H' zs its,Inv (Y0 X (X.pn++pins) (xo++ys) scope cl s H fp C) [] (cs0 xo js σ) H' s'/\tn i s'.heap/\(∀ b∈fp,H' b=none)/\s'.heap.PlainList D (its:List Value).toArray/\Vals zs its/\H' D=none/\W i n zs H') ?_ m0
   ⟨0,H,[],[],I0,T.keep _ _ _ st0 fun b hb o e=>old b o e,fun b hb=>(hf b hb).1,hacc,.nil,I.hok.fresh ⋯,w0⟩
  rintro n s3 ⟨i,H3,zs,its,I3,st3,fr3,⟨n3,pl3⟩,rv3,fD3,w3⟩;have I3':=pinD I3 pl3 (by intro v z;cases z) fD3;rcases turn i n zs H3 w3 with ⟨stop,hsz,fin⟩|⟨go,hsz,Nx,hNx,step⟩
  ·refine wpAny_mono (T.done (Y0 X (X.pn++pins) (xo++ys) scope cl s H fp C) rfl rfl rfl hcm i _ s3 _ H3 (fun _ _=>False) I3' (fun b hb=>frE fr3 hb) st3 stop) (fun r s4 ⟨hr,I4⟩=>?_) fun _ _ z=>z.elim;subst hr;have plD:s4.heap.get? D=some _:=(I4.pin (D,{ cls:=Value.type "list",data:=.seq its.toArray n3 }) (zvj _ zvt)).1;obtain⟨m4,hn4,_⟩:=I4.loc;have okU:∀ h',(∀ b o,b≠C->s4.heap.get? b=some o->h'.get? b=some o)->Inv X pins σ (upd H3 D (.lst zs)) { s4 with heap:=h' }:=fun h' k1=>by
    have u4:Un (frs X.stack) fp H H3 s.heap s4.heap:=I4.base;have neC:∀ b o,s.heap.get? b=some o->b≠C:=fun b o e=>ltC b (below b o e);have neD:∀ b o,s.heap.get? b=some o->b≠D:=fun b o e=>ltD b (below b o e);have trD:∀ b u,H3 b=some u->b≠D:=fun b u e z=>by rw[z,fD3] at e;cases e
    have trC:∀ b u,H3 b=some u->b≠C:=fun b u e z=>by rw[z,show H3 C=none from I4.free] at e;cases e
    have un:Un (frs X.stack) fp H (upd H3 D (.lst zs)) s.heap h':=by
     refine⟨fun b o e n hb hx=>k1 b o (neC b o e) (u4.keep b o e n hb hx),fun b o e n hb hx=>?_,fun b o e n hx=>?_,fun b o e hx=>?_,fun b xs e=>?_,fun b ob u e=>?_,fun b ps e=>?_⟩
     ·obtain⟨sl,z⟩:=u4.slot b o e n hb hx;exact⟨sl,k1 b _ (neC b o e) z⟩
     ·rw[Zf (neD b o e)];exact u4.free b o e n hx
     ·obtain⟨o',z⟩:=u4.there b o e hx;exact⟨o',k1 b o' (neC b o e) z⟩
     ·have z:=u4.tups b xs e;rw[Zf (trD b _ z)];exact z
     ·have z:=u4.frzs b ob u e;rw[Zf (trD b _ z)];exact z
     ·obtain⟨more,z⟩:=u4.tbls b ps e;exact⟨more,by rw[Zf (trD b _ z)];exact z⟩
    refine I.call' (s':={ s4 with heap:=h' }) (ch:=fp) (show s4.os=s.os from I4.os) un (fun b u e=>?_) I4.bare fun b hb=>?_
    ·by_cases hb:b=D
     ·subst hb;rw[Ze] at e;cases e;exact⟨hsz,its,n3,rv3,k1 _ _ hDC plD⟩
     ·rw[Zf hb] at e;refine(I4.hok b u e).stay (fun d v hd q=>?_) (fun d q=>by rw[Zf (trD d _ q)];exact q) fun d xs q=>by rw[Zf (trD d _ q)];exact q
      rcases hd with z|z
      ·exact k1 d v (by rw[z];exact trC b u e) q
      ·exact k1 d v (trC d _ z) q
    ·obtain⟨f0,f1,f2,f3,f4,f5⟩:=hf b hb;exact⟨f3,f1,f4,f5⟩
   refine hRR D C s4 m4 hn4 (fun h' hs'=>⟨_,okU h' (fun b o hb e=>hs'.extBut b o hb e),fin D fD3⟩) ⟨_,okU s4.heap (fun _ _ _ e=>e),fin D fD3,?_⟩ ⋯
   ·rw[Zf (Ne.symm hDC)];exact I4.free
  ·refine wpAny_mono (T.item (Y0 X (X.pn++pins) (xo++ys) scope cl s H fp C) rfl rfl rfl hcm i _ s3 _ H3 (fun _ _=>False) I3' (fun b hb=>frE fr3 hb) st3 go) (fun r s4 ⟨u,hr,h4⟩=>?_) fun _ _ z=>z.elim;subst hr;refine wpAny_mono h4 (fun _ s5 h5=>?_) fun _ _ z=>z.elim;obtain⟨xv,H5,I5,r5,y5,st5,fr5⟩:=h5;have I5':=I5.pinned (fun b hb=>frE fr5 hb) (T.obj _ _ st5);refine wpAny_mono (hgt _ _ _ _ _ _ s5 _ H5 xv u _ I5' r5 (step xv H5 y5)) (fun _ s6 ⟨σ6,H6,I6,own6,q6⟩=>?_) fun _ _ z=>z.elim;refine wpAny_mono (ht _ _ _ _ _ _ s6 _ H6 _ I6 q6) (fun ok s7 ⟨H7,I7,q7⟩=>?_) fun _ _ z=>z.elim;have keepF:∀ {σ8:St} {H8:Hp} {s8:Shared},Inv (Y0 X (X.pn++pins) (xo++ys) scope cl s H fp C) ([(D,{ cls:=Value.type "list",data:=.seq its.toArray n3 })]++M0 fp s5.heap) σ8 H8 s8->tn (i+1) s8.heap/\(∀ b∈fp,H8 b=none)/\s8.heap.PlainList D its.toArray/\H8 D=none:=fun {σ8 H8 s8} I8=>by
    refine⟨T.keep _ _ _ st5 fun b hb o e=>(I8.pin (b,o) (zvj _ (zvj _ (Rt hb e)))).1,fun b hb=>?_,⟨n3,(I8.pin (D,_) (zvj _ zvt)).1⟩,(I8.pin (D,_) (zvj _ zvt)).2.1⟩;obtain⟨o,e,d⟩:=T.obj _ _ st5 b hb;exact(I8.pin (b,o) (zvj _ (zvj _ (Rt hb e)))).2.1
   have bare:∀ {σ8:St} {H8:Hp} {s8:Shared},Inv (Y0 X (X.pn++pins) (xo++ys) scope cl s H fp C) ([(D,{ cls:=Value.type "list",data:=.seq its.toArray n3 })]++M0 fp s5.heap) σ8 H8 s8->Inv (Y0 X (X.pn++pins) (xo++ys) scope cl s H fp C) [] σ8 H8 s8:=fun I8=>I8.pins_of fun _ z=>(nomatch z)
   cases ok with
   | false =>
     simp only[zww,if_false] at q7 ⊢;obtain⟨m',hm',w7⟩:=hNx _ _ q7;obtain⟨a1,a2,a3,a4⟩:=keepF I7;exact⟨m',hm',i+1,H7,zs,its,own6.weak (bare I7),a1,a2,a3,rv3,a4,w7⟩
   | true =>
     simp only[if_true] at q7 ⊢;refine wpAny_mono (he _ _ _ _ _ _ s7 _ H7 _ I7 q7) (fun y s8 ⟨yv,H8,I8,r8,q8⟩=>?_) fun _ _ z=>z.elim;obtain⟨m',hm',w8⟩:=hNx _ _ q8;obtain⟨a1,a2,a3,a4⟩:=keepF I8;have szI:its.toArray.size<=sizeLine:=by rw[zvc,<- rv3.length];omega
     refine wpAny_list_append_plain (hsz:=szI) a3 fun h9 pl9 sb9=>?_;have I8b:=own6.weak (bare I8);refine⟨m',hm',i+1,H8,zs++[yv],its++[y],?_,T.keep _ _ _ a1 fun b hb o e=>(sb9.2 b (ltD b (lt0 b hb))).trans e,a2,by rw[List.push_toArray] at pl9;exact pl9,rv3.append (.cons r8 .nil),a4,w8⟩;refine I8b.turned (t':=s8.toks) (it:=D) (fun b o hb e=>(sb9.2 b hb).trans e) a4 hDC (.inr (show s.heap.objs.size<=D by omega)) (fun y' a h=>?_) fun p hp=>?_
     ·obtain⟨v,o,ho,_⟩:=I.cell y' a (c.same h);exact ltD a (below a o ho)
     ·obtain⟨e,_⟩:=I.pin p (by simpa [Y0] using hp);exact ltD _ (below _ _ e)
 exact codeAny_compStart_list (loop _ rfl) (T.self _ 0 _ _ _ (T.keep _ _ _ st0 fun b hb o e=>old b o e) (loop _ rfl))
variable{wi:TI}{tt:TT}{te:TE}
theorem Ii(hcm:X.calm=true)(c:Ma X xo scope cl ys js)(hi:PI X tg iter wi)(ht:∀ pn s₀ H₀ fp C,PTs (Y0 X pn (xo++ys) scope cl s₀ H₀ fp C) ifs tt)(hgt:∀ pn s₀ H₀ fp C,PG (Y0 X pn (xo++ys) scope cl s₀ H₀ fp C) tg g)(he:∀ pn s₀ H₀ fp C,PE (Y0 X pn (xo++ys) scope cl s₀ H₀ fp C) elt te)
  (hs:∀ x,foldedSetIterable iter X.env x=pure x:=by intro _;rfl):PE X (.ListComp elt [⟨tg,iter,ifs,0⟩] scope pos) (zj3 wi xo js g tt te):=by
 intro pins s σ H Q I h;rw[eval_ListComp];refine wpAny_comprehension_free (use:=none) rfl hs c.clos c.kind c.names (thn (hi pins s σ H _ I h) fun v s1 h1=>thn h1 fun itv s2 h2=>?_);obtain⟨it,fp,tn,J,H2,e,I2,T,st2,f2,W,⟨m0,w0⟩,turn⟩:=h2;subst e;exact Ih (RR:=fun acc C=>compPost (model X.prog X.w) X.A X.xe none (EP X pins σ Q) acc C) hcm c ht hgt he I2 T st2 f2 w0 turn fun D C s' m hn hS _ _=>⟨m,hn,fun h' hs'=>let ⟨H',I',q⟩:=hS h' hs';⟨.ref D,H',I',rfl,q⟩⟩
end
end L2
namespace G
open PySem PySem.Spec PyProof.Rows L2
theorem zbd{K:Frag}{a:Addr}{xs:List V}{xo:List Str}{js:List Nat}{g:TG}{tt:TT}{te:TE}{σ:L2.St}{H:Hp}{Q:VK}(p:Nat->Bool)(f:Nat->V)(hz:xs.length<=1000)(hx:SqL K H a xs)
  (step:∀ (i:Nat) (x:V) (t:Addr) (H':Hp) (N:List V->Hp->Prop) (ys:List V),xs[i]?=some x->Same H H'->H' t=none->(∀ H2,Same H H2->N (if p i=true then ys++[f i] else ys) H2) ->
   g (.ref t) (cs0 xo js σ) (upd H' t (.tup [.int (i:Nat),x])) fun σ2 H1=>Rw xo js σ σ2/\tt σ2 H1 fun b H2=>if b=true then te σ2 H2 fun y H3=>N (ys++[y]) H3 else N ys H2)
  (fin:∀ (H':Hp) (l:Addr),Same H H'->H' l=none->Q (.ref l) (upd H' l (.lst (((List.range xs.length).filter p).map f)))):Ce (Ite K a) xo js g tt te σ H Q:=by
 have line:1000<sizeLine:=by rw[sizeLine_eq];decide
 refine⟨fun i m ys H'=>m=xs.length-i/\i<=xs.length/\Same H H'/\ys=((List.range i).filter p).map f,⟨xs.length,by simp,zvo _,fun _ _ q=>q,by simp⟩,?_⟩;rintro i m ys H' ⟨rfl,hi,hs,rfl⟩;have hq:=hs.seq hx;have hlen:(((List.range i).filter p).map f).length<=i:=by
  rw[zuw];exact zvb (zvr _ _) (by rw[zvu];exact zu7 _)
 by_cases hlt:i<xs.length
 ·refine .inr ⟨⟨xs,xs[i],hq,by simp[hlt]⟩,by omega,fun ys' H2=>Same H H2/\ys'=((List.range (i+1)).filter p).map f,fun ys' H2 ⟨h1,h2⟩=>⟨xs.length-(i+1),by omega,rfl,hlt,h1,h2⟩,fun x H2 y=>?_⟩;obtain⟨t,y,h1,h2,rfl,rfl⟩:=y;refine step i y t H' (fun ys' H2=>Same H H2/\ys'=((List.range (i+1)).filter p).map f) _ (h2 xs hq) hs h1 fun H2 s2=>⟨s2,?_⟩
  rw[List.range_succ,zv9,zu5];cases hp:p i with
  | true=>rw[if_pos rfl,zv7,if_pos hp];rfl
  | false=>rw[if_neg ⋯,zv7,if_neg (by rw[hp];decide)];simp
 ·have e:i=xs.length:=by omega
  subst e;exact .inl ⟨⟨xs,hq,zu7 _⟩,by omega,fun l hl=>fin H' l hs hl⟩
theorem Li:∀ (a b:List (Nat×Option Int)) (xs:List V),Yh (a++b) xs=Yh b (Yh a xs)
 | [],_,_=>rfl
 | (p,w) :: r,b,xs=>by rw[List.cons_append,Yh,Yh,Li r b]
structure Jw(kvs:List (Key×V))(gs:List V):Prop where
 has:∀ (n:Int) (j:Nat),gs[j]?=some (.int n)->valV kvs (inl n:Key)=some (.int (j:Nat))
 not:∀ n:Int,(∀ j:Nat,gs[j]?≠some (.int n))->valV kvs (inl n:Key)=none
theorem Jw.iff(t:Jw kvs gs)(n:Int):(∃ j:Nat,gs[j]?=some (.int n)/\valV kvs (inl n:Key)=some (.int (j:Nat)))\/((∀ j:Nat,gs[j]?≠some (.int n))/\valV kvs (inl n:Key)=none):=by
 by_cases h:∃ j:Nat,gs[j]?=some (.int n)
 ·obtain⟨j,hj⟩:=h;exact .inl ⟨j,hj,t.has n j hj⟩
 ·have h':∀ j:Nat,gs[j]?≠some (.int n):=fun j hj=>h ⟨j,hj⟩;exact .inr ⟨h',t.not n h'⟩
inductive Cf(K:Frag)(vs:List V)(H:Hp)(Q:VK)(_:XK):Prop where
 | mk(b:Addr)(gs:List V)(_:vs=[.ref b])(_:H b=some (.lst gs))(_:(∀ x∈gs,oneV x))(_:(∀ (j k:Nat) (n:Int),gs[j]?=some (.int n)->gs[k]?=some (.int n)->j=k))(_:gs.length<=100)(_:∀ d kvs H',H' d=some (.dK kvs)->Jw kvs gs->Same H H'->H d=none->Q (.ref d) H')
structure X1(H:Hp)(into:List (Key×V))(line:List Nat)(fr:Nat->Option (Nat×Int)):Prop where
 keys:into.map (·.1)=line.map fun q:Nat=>(inl (q:Int):Key)
 none:∀ q∈line,fr q=Option.none->valV into (inl (q:Int):Key)=some .non
 some:∀ q∈line,∀ par n,fr q=Option.some (par,n)->∃ t,valV into (inl (q:Int):Key)=Option.some (.ref t)/\H t=Option.some (.tup [.int (par:Nat),.int n])
theorem X1.same(e:Same H H')(h:X1 H into line fr):X1 H' into line fr :=
 ⟨h.keys,h.none,fun q hq par n hf=>let ⟨t,a,b⟩:=h.some q hq par n hf;⟨t,a,e _ _ b⟩⟩
theorem X1.len(h:X1 H into line fr):into.length=line.length:=by
 have:=congrArg List.length h.keys;rw[zuw,zuw] at this;exact this
theorem zgb{into:List (Key×V)}{k:Key}:(valV into k).isSome=true↔k∈into.map Prod.fst:=by
 unfold valV;rw[Option.isSome_map,List.find?_isSome];constructor
 ·rintro⟨p,hp,e⟩;exact zu6.mpr ⟨p,hp,of_decide_eq_true e⟩
 ·intro h;obtain⟨p,hp,rfl⟩:=zu6.mp h;exact⟨p,hp,zu3 rfl⟩
theorem X1.has{H:Hp}{into:List (Key×V)}{line:List Nat}{fr:Nat->Option (Nat×Int)}(h:X1 H into line fr)(q:Nat):(valV into (inl (q:Int):Key)).isSome=true↔q∈line:=by
 rw[zgb,h.keys];constructor
 ·intro z;obtain⟨q',h1,h2⟩:=zu6.mp z;have:(q':Int)=q:=inl.inj h2;have:q'=q:=by omega
  rw[<- this];exact h1
 ·intro hq;exact zu6.mpr ⟨q,hq,rfl⟩
inductive zbe(K:Frag)(vs:List V)(H:Hp)(Q:VK)(_:XK):Prop where
 | mk(l d:Addr)(ls:List Addr)(rows:List (List Int))(kvs:List (Key×V))(gs:List V)(p:Nat)(_:vs=[.ref l,.ref d,.int p])(_:H l=some (.lst (ls.map V.ref)))(_:ILs H ls rows)(_:rows.length<=100)(_:H d=some (.dK kvs))(_:Jw kvs gs)(_:Ym rows gs)(_:p<rows.length)(_:∀ t into line dep fr H',H' t=some (.dK into)->X1 H' into line fr->Bfs rows gs p line dep->Done rows gs line dep line.length->Ti rows gs p line dep fr->(∀ q∈line,q<rows.length)->Same H H'->H t=none->Q (.ref t) H')
inductive E6(K:Frag)(vs:List V)(H:Hp)(Q:VK)(_:XK):Prop where
 | mk(l d:Addr)(r:List Int)(kvs:List (Key×V))(_:vs=[.ref l,.ref d])(_:H l=some (.lst (r.map V.int)))(_:H d=some (.dK kvs))(_:∀ w:Option Int,(∀ n,w=some n->n∈r/\valV kvs (inl n:Key)=none)->(w=none->∀ n∈r,(valV kvs (inl n:Key)).isSome=true)->Q (oV w) H)
inductive B4(K:Frag)(vs:List V)(H:Hp)(Q:VK)(_:XK):Prop where
 | mk(t:Addr)(q p:Nat)(w:Option Int)(rows:List (List Int))(gs:List V)(into:List (Key×V))(line:List Nat)(dep:Nat->Nat)(fr:Nat->Option (Nat×Int))(_:vs=[.ref t,.int q,oV w])(_:Rd H t (.dK into))(_:X1 H into line fr)(_:Ti rows gs p line dep fr)(_:dep p=0)(_:p∈line)(_:q∈line)(_:dep q<=100)(_:∀ lt ts st H',H' lt=some (.lst ts)->Z8 H' ts (st.map Wq)->Ch rows gs p st q w->st.length=dep q+1->Same H H'->H lt=none->Q (.ref lt) H')
section
variable{rows:List (List Int)}{gs:List V}{p:Nat}{line:List Nat}{dep:Nat->Nat}{fr:Nat->Option (Nat×Int)}{H H':Hp}{into:List (Key×V)}
def Ks(fr:Nat->Option (Nat×Int))(q:Nat)(x:Nat×Int):Nat->Option (Nat×Int):=fun y=>if y=q then some x else fr y
theorem O2:Ks fr q x q=some x:=by unfold Ks;rw[if_pos rfl]
theorem Mb(h:y≠q):Ks fr q x y=fr y:=by unfold Ks;rw[if_neg h]
theorem Ti.app(F:Ti rows gs p line dep fr)(hn:q'∉line)(hp:p∈line)(hh:here∈line)(a:adjN rows gs here n q'):Ti rows gs p (line++[q']) (Vq dep q' (dep here+1)) (Ks fr q' (here,n)):=by
 have ne:∀ x∈line,x≠q':=fun x hx z=>hn (by rw[<- z];exact hx);have old:∀ x∈line,Vq dep q' (dep here+1) x=dep x:=fun x hx=>by unfold Vq;rw[if_neg (ne x hx)]
 have new:Vq dep q' (dep here+1) q'=dep here+1:=by unfold Vq;rw[if_pos rfl]
 refine⟨by rw[Mb (ne p hp)];exact F.1,fun q hq hqp=>?_⟩;rcases zu8.mp hq with z|z
 ·obtain⟨par,m,h1,h2,h3,h4⟩:=F.2 q z hqp;exact⟨par,m,by rw[Mb (ne q z)];exact h1,zvn _ h2,h3,by rw[old q z,old par h2];exact h4⟩
 ·rw[zu0.mp z];exact⟨here,n,O2,zvn _ hh,a,by rw[new,old here hh]⟩
theorem X1.mono(e:∀ t xs,H t=Option.some (.tup xs)->H' t=Option.some (.tup xs))(h:X1 H into line fr):X1 H' into line fr :=
 ⟨h.keys,h.none,fun q hq par n hf=>let ⟨t,a,b⟩:=h.some q hq par n hf;⟨t,a,e _ _ b⟩⟩
theorem X1.app(I:X1 H into line fr)(hn:q'∉line)(ht:H t=Option.some (.tup [.int (here:Nat),.int n])):X1 H (putK into (inl (q':Int)) (.ref t)) (line++[q']) (Ks fr q' (here,n)):=by
 have ne:∀ x∈line,x≠q':=fun x hx z=>hn (by rw[<- z];exact hx);have hv:valV into (inl (q':Int):Key)=Option.none:=by
  cases e:valV into (inl (q':Int):Key) with
  | none=>rfl
  | some y=>exact absurd ((I.has q').mp (by rw[e];rfl)) hn
 have val:∀ x∈line,valV (putK into (inl (q':Int)) (.ref t)) (inl (x:Int):Key)=valV into (inl (x:Int):Key):=fun x hx=>by
  rw[Up,if_neg (fun z=>ne x hx (by have:=inl.inj z;omega))]
 have valn:valV (putK into (inl (q':Int)) (.ref t)) (inl (q':Int):Key)=Option.some (.ref t):=by rw[Up,if_pos rfl]
 refine⟨?_,fun q hq hf=>?_,fun q hq par m hf=>?_⟩
 ·rw[zfh _ hv,zu5,zu5,I.keys];rfl
 ·rcases zu8.mp hq with z|z
  ·rw[Mb (ne q z)] at hf;rw[val q z];exact I.none q z hf
  ·rw[zu0.mp z,O2] at hf;cases hf
 ·rcases zu8.mp hq with z|z
  ·rw[Mb (ne q z)] at hf;rw[val q z];exact I.some q z par m hf
  ·rw[zu0.mp z,O2] at hf;cases hf;rw[zu0.mp z];exact⟨t,valn,ht⟩
theorem zbf(H:Hp)(p:Nat):X1 H [((inl (p:Int):Key),V.non)] [p] (fun _=>none) :=
 ⟨rfl,fun q hq _=>by rw[zu0.mp hq];exact Xg rfl,fun q _ par n hf=>nomatch hf⟩
theorem zbg:Ti rows gs p [p] (fun _=>0) (fun _=>none):=⟨rfl,fun q hq hne=>absurd (zu0.mp hq) hne⟩
end
section
variable{rows:List (List Int)}{gs:List V}
theorem Ch.somes{q e:Nat}{st:List (Nat×Option Int)}{w:Option Int}(h:Ch rows gs q st e w):w≠none->∀ s∈st,s.2≠none:=by
 induction h with
 | one q w=>intro hw s hs;simp at hs;subst hs;exact hw
 | step a h ih =>
   intro hw s hs;rcases zu4.mp hs with rfl|z
   ·exact fun z=>nomatch z
   ·exact ih hw s z
theorem Ch.near{q e:Nat}{st:List (Nat×Option Int)}{w:Option Int}(h:Ch rows gs q st e w):∀ s∈st,s.1=q\/∃ m,gs[s.1]?=some (V.int m):=by
 induction h with
 | one q w=>intro s hs;simp at hs;subst hs;exact .inl rfl
 | @step q q' e n st w a h ih =>
   intro s hs;rcases zu4.mp hs with rfl|z
   ·exact .inl rfl
   ·rcases ih s z with z|z
    ·exact .inr ⟨n,by rw[z];exact a.2⟩
    ·exact .inr z
theorem Ch.single{q e:Nat}{st:List (Nat×Option Int)}{w:Option Int}(h:Ch rows gs q st e w)(hl:st.length<=1):st=[(q,w)]/\e=q:=by
 cases h with
 | one=>exact⟨rfl,rfl⟩
 | step a h=>have:=h.pos;rw[zvi] at hl;omega
structure U8(rows:List (List Int))(gs:List V)(i:Nat):Prop where
 fill:Ym rows gs
 ahead:∀ q n,gs[q]?=some (V.int n)->q<i
 stuck:∀ p,p<i->gs[p]?=some .non->Px rows gs p
theorem U8.non(F:U8 rows gs i)(hk:i<=k)(hr:k<rows.length):gs[k]?=some .non:=by
 have hl:k<gs.length:=by rw[F.fill.len];exact hr
 have e:=zuy hl;rcases F.fill.one _ (zvs hl) with z|⟨n,z⟩
 ·rw[e,z]
 ·rw[z] at e;have:=F.ahead k n e;omega
theorem U8.step{i e:Nat}{st:List (Nat×Option Int)}{w:Option Int}(F:U8 rows gs i)(hi:i<rows.length)(c:Xc rows gs i st e w):U8 rows (Yh st gs) (i+1):=by
 have hnon:=F.non (zu7 i) hi;cases w with
 | none =>
   obtain⟨h1,h2,h3⟩:=c.none rfl;have hei:e=i:=by
    have hge:=h2 i 0 .nil;rcases(show e=i\/∃ m,gs[e]?=some (V.int m) by
     obtain⟨s,hs,rfl⟩:=zu6.mp c.ch.last;exact c.ch.near s hs) with z|⟨m,z⟩
    ·exact z
    ·have:=F.ahead e m z;omega
   have hst:st=[(i,none)]:=(c.ch.single (by have:=h3 0 (hei▸.nil);omega)).1;have hl:i<gs.length:=by rw[F.fill.len];exact hi
   have same:Yh st gs=gs:=by
    rw[hst];show gs.set i .non=gs;refine List.ext_getElem? fun k=>?_;by_cases hk:i=k
    ·subst hk;rw[zv5 hl,hnon]
    ·rw[zv4 hk]
   rw[same];refine⟨F.fill,fun q n hq=>zw1 (F.ahead q n hq),fun p hp hpn=>?_⟩;by_cases hpi:p=i
   ·subst hpi;exact zf4 F.fill hi F.ahead h1
   ·exact F.stuck p ⋯ hpn
 | some n0 =>
   obtain⟨hf,_⟩:=c.free n0 rfl;have nd:=c.nodup;have FP':=c.fill F.fill hi;have at_:∀ k,k<gs.length->(k∉st.map (·.1)/\(Yh st gs)[k]?=gs[k]?)\/∃ w,(k,w)∈st/\(Yh st gs)[k]?=some (oV w):=fun k hk=>Ws nd hk;have lt:∀ {k:Nat} {v:V},(Yh st gs)[k]?=some v->k<gs.length:=fun {k v} hk=>by
    have:=(zux.mp hk).1;rw[Xz] at this;exact this
   refine⟨FP',fun q n hq=>?_,fun p hp hpn=>?_⟩
   ·rcases at_ q (lt hq) with ⟨_,h2⟩|⟨w',h1,_⟩
    ·rw[h2] at hq;exact zw1 (F.ahead q n hq)
    ·rcases c.ch.near _ h1 with z|⟨m,z⟩
     ·have:q=i:=z;omega
     ·exact zw1 (F.ahead q m z)
   ·rcases at_ p (lt hpn) with ⟨h1,h2⟩|⟨w',h1,h2⟩
    ·rw[h2] at hpn;have hpi:p≠i:=fun z=>by
      obtain⟨x,r,e⟩:=c.ch.hd;exact h1 (by rw[z,e];simp)
     exact(F.stuck p ⋯ hpn).behind F.fill c.ch hf hi nd
    ·have:=c.ch.somes (by simp) _ h1;rw[h2] at hpn;cases w' with
     | none=>exact absurd rfl this
     | some m=>cases hpn
theorem Fi(rows:List (List Int)):U8 rows (rows.map fun _=>V.non) 0:=by
 have h0:∀ (k:Nat) (n:Int),(rows.map fun _=>V.non)[k]?≠some (V.int n):=fun k n h=>by
  rw[zu1] at h;cases e:rows[k]? with
  | none=>rw[e] at h;cases h
  | some r=>rw[e] at h;cases h
 exact⟨⟨by rw[zuw],fun x hx=>by obtain⟨_,_,rfl⟩:=zu6.mp hx;exact .inl rfl,fun k n h=>absurd h (h0 k n),fun j k n h=>absurd h (h0 j n)⟩,fun q n h=>absurd h (h0 q n),fun p hp=>absurd hp (Nat.not_lt_zero _)⟩
theorem U8.last(F:U8 rows gs rows.length):Vp rows gs:=fun p hp=>F.stuck p (by have:=(zux.mp hp).1;rw[F.fill.len] at this;exact this) hp
end
end G
namespace G
open PySem PySem.Spec PyProof.Rows L2
section
variable{rows:List (List Int)}{gs:List V}
theorem Ch.pred{q e:Nat}{st:List (Nat×Option Int)}{w:Option Int}(h:Ch rows gs q st e w):∀ q'∈st.map (·.1),q'=q\/∃ q0 n,(q0,some n)∈st/\gs[q']?=some (V.int n):=by
 induction h with
 | one q w=>intro q' hq;simp at hq;exact .inl hq
 | @step q q1 e n st w a h ih =>
   intro q' hq;rw[zu9] at hq;rcases zu4.mp hq with z|z
   ·exact .inl z
   ·rcases ih q' z with z|⟨q0,m,h1,h2⟩
    ·exact .inr ⟨q,n,zvt,by rw[z];exact a.2⟩
    ·exact .inr ⟨q0,m,zvg _ h1,h2⟩
theorem Ch.reach{q e:Nat}{st:List (Nat×Option Int)}{w:Option Int}(h:Ch rows gs q st e w):∀ q'∈st.map (·.1),∃ k,Walk rows gs q q' k:=by
 induction h with
 | one q w=>intro q' hq;simp at hq;rw[hq];exact⟨0,.nil⟩
 | @step q q1 e n st w a h ih =>
   intro q' hq;rw[zu9] at hq;rcases zu4.mp hq with z|z
   ·rw[z];exact⟨0,.nil⟩
   ·obtain⟨k,hk⟩:=ih q' z;exact⟨k+1,.cons a hk⟩
theorem Ch.noneLast{q e:Nat}{st:List (Nat×Option Int)}{w:Option Int}(h:Ch rows gs q st e w):∀ k,(k,none)∈st->k=e/\w=none:=by
 induction h with
 | one q w=>intro k hk;simp at hk;exact⟨hk.1,hk.2.symm⟩
 | @step q q1 e n st w a h ih =>
   intro k hk;rcases zu4.mp hk with z|z
   ·cases z
   ·exact ih k z
theorem Ch.along{R:Nat->Prop}(hs:∀ q n q',adjN rows gs q n q'->R q->R q'){q e:Nat}{st:List (Nat×Option Int)}{w:Option Int}(h:Ch rows gs q st e w):R q->R e:=by
 induction h with
 | one q w=>exact fun z=>z
 | step a h ih=>exact fun z=>ih (hs _ _ _ a z)
theorem Ch.lastMem{q e:Nat}{st:List (Nat×Option Int)}{w:Option Int}(h:Ch rows gs q st e w):(e,w)∈st:=by
 induction h with
 | one q w=>simp
 | step a h ih=>exact zvg _ ih
theorem zgc{st:List (Nat×Option Int)}(nd:(st.map (·.1)).Nodup){k:Nat}{w w':Option Int}(h:(k,w)∈st)(h':(k,w')∈st):w=w':=by
 induction st with
 | nil=>cases h
 | cons s r ih =>
   rw[zu9,zvm] at nd;rcases zu4.mp h with z|z<;>rcases zu4.mp h' with z'|z'
   ·rw[<- z] at z';exact(Prod.mk.inj z').2.symm
   ·exact absurd (zu6.mpr ⟨_,z',by rw[<- z]⟩) nd.1
   ·exact absurd (zu6.mpr ⟨_,z,by rw[<- z']⟩) nd.1
   ·exact ih nd.2 z z'
theorem zhv{st:List (Nat×Option Int)}{xs:List V}(nd:(st.map (·.1)).Nodup){k:Nat}{w:Option Int}(h:(k,w)∈st)(hk:k<xs.length):(Yh st xs)[k]?=some (oV w):=by
 rcases Ws nd hk with ⟨h1,_⟩|⟨w',h1,h2⟩
 ·exact absurd (zu6.mpr ⟨_,h,rfl⟩) h1
 ·rw[h2,zgc nd h1 h]
theorem Ch.moved{p e:Nat}{st:List (Nat×Option Int)}{w:Option Int}(FP:Ym rows gs)(h:Ch rows gs p st e w)(hp:p<rows.length)(hn:gs[p]?=some .non)(nd:(st.map (·.1)).Nodup){q':Nat}{n:Int}(hq:gs[q']?=some (V.int n)) :
  (q'∉st.map (·.1)/\(Yh st gs)[q']?=some (V.int n))\/∃ q0,(q0,some n)∈st/\(Yh st gs)[q0]?=some (V.int n):=by
 have hl:q' < gs.length:=(zux.mp hq).1;by_cases hm:q'∈st.map (·.1)
 ·rcases h.pred q' hm with z|⟨q0,m,h1,h2⟩
  ·rw[z,hn] at hq;cases hq
  ·rw[hq] at h2;cases h2;refine .inr ⟨q0,h1,?_⟩;have:=h.lt FP hp _ h1;exact zhv nd h1 (by rw[FP.len];exact this)
 ·rcases Ws nd hl with ⟨_,h2⟩|⟨w',h1,_⟩
  ·exact .inl ⟨hm,by rw[h2];exact hq⟩
  ·exact absurd (zu6.mpr ⟨_,h1,rfl⟩) hm
end
section
variable{rows:List (List Int)}{gs:List V}{p e:Nat}{x:Int}{st:List (Nat×Option Int)}{w:Option Int}
def without(rows:List (List Int))(x:Int):List (List Int):=rows.map fun r=>r.filter fun n=>decide (n≠x)
theorem Sg{q:Nat}{r':List Int}(h:(without rows x)[q]?=some r'):∃ r,rows[q]?=some r/\∀ n∈r',n∈r/\n≠x:=by
 unfold without at h;rw[zu1] at h;cases e:rows[q]? with
 | none=>rw[e] at h;cases h
 | some r =>
   rw[e] at h;cases h;exact⟨r,rfl,fun n hn=>⟨(zvx.mp hn).1,of_decide_eq_true (zvx.mp hn).2⟩⟩
theorem Vr(FP:Ym rows gs)(hx:gs[p]?=some (.int x)):Ym (without rows x) (gs.set p .non):=FP.without hx _ fun n hn=>by
 have:=of_decide_eq_false hn;rw[Classical.not_not.mp this]
theorem zgd(hx:gs[p]?=some (.int x)):(gs.set p V.non)[p]?=some .non:=by rw[zv5 (zux.mp hx).1]
theorem zcw(hx:gs[p]?=some (.int x))(h:(gs.set p V.non)[q]?=some (.int n)):gs[q]?=some (.int n)/\q≠p:=by
 by_cases e:p=q
 ·subst e;rw[zgd hx] at h;cases h
 ·rw[zv4 e] at h;exact⟨h,Ne.symm e⟩
theorem Mc{q:Nat}{n:Int}(hx:gs[p]?=some (.int x))(h:gs[q]?=some (.int n))(hn:n≠x):(gs.set p V.non)[q]?=some (.int n):=by
 rw[zv4 (fun z=>by subst z;rw[hx] at h;cases h;exact hn rfl)];exact h
theorem B5(FP:Ym rows gs)(SP:Vp rows gs)(hx:gs[p]?=some (.int x))(C:Xc (without rows x) (gs.set p .non) p st e w):Vp (without rows x) (Yh st (gs.set p .non)):=by
 have FP0:=Vr FP hx;have hRl:(without rows x).length=rows.length:=by unfold without;rw[zuw]
 have hp:p<rows.length:=by have:=(zux.mp hx).1;rw[FP.len] at this;exact this
 have hp0:p<(without rows x).length:=by rw[hRl];exact hp
 have nd:=C.nodup;have hpm:p∈st.map (·.1):=by obtain⟨y,r,e'⟩:=C.ch.hd;rw[e'];simp
 have moved:=fun {q':Nat} {n:Int} (hq:(gs.set p V.non)[q']?=some (V.int n))=>C.ch.moved FP0 hp0 (zgd hx) nd hq;have closedT:w=none->∀ q,(∃ k,Walk (without rows x) (gs.set p .non) p q k)->q<(without rows x).length/\∀ r,(without rows x)[q]?=some r->∀ n∈r,∃ q2,q2<e/\(Yh st (gs.set p .non))[q2]?=some (.int n)/\∃ k,Walk (without rows x) (gs.set p .non) p q2 k:=by
  rintro hw q ⟨k,hk⟩;obtain⟨c1,c2,c3⟩:=C.none hw;refine⟨?_,fun r hr n hn=>?_⟩
  ·cases hk with
   | nil=>exact hp0
   | snoc _ a =>
     have:=(zux.mp a.2).1;rw[FP0.len] at this;exact this
  ·by_cases hf:∃ j:Nat,(gs.set p V.non)[j]?=some (V.int n)
   ·obtain⟨q1,hq1⟩:=hf;have w1:Walk (without rows x) (gs.set p .non) p q1 (k+1):=.snoc hk ⟨⟨r,hr,hn⟩,hq1⟩;rcases moved hq1 with ⟨m1,m2⟩|⟨q0,m1,m2⟩
    ·refine⟨q1,?_,m2,_,w1⟩;have:=c2 q1 _ w1;have hne:q1≠e:=fun z=>m1 (by rw[z];exact C.ch.last);omega
    ·obtain⟨k0,hk0⟩:=C.ch.reach q0 (zu6.mpr ⟨_,m1,rfl⟩);refine⟨q0,?_,m2,k0,hk0⟩;have:=c2 q0 _ hk0;have hne:q0≠e:=fun z=>by
      have hl:=C.ch.lastMem;rw[z] at m1;rw[hw] at hl;have:=zgc nd m1 hl;cases this
     omega
   ·exact absurd ⟨n,⟨r,hr,hn⟩,fun j hj=>hf ⟨j,hj⟩⟩ (c1 q k hk)
 intro p0 hpn;have hl0:p0<(gs.set p V.non).length:=by have:=(zux.mp hpn).1;rw[Xz] at this;exact this
 rcases Ws nd hl0 with ⟨a1,a2⟩|⟨w',a1,a2⟩
 ·rw[a2] at hpn;have hpp:p≠p0:=fun z=>a1 (by rw[<- z];exact hpm);rw[zv4 hpp] at hpn;obtain⟨S0,hS,cl⟩:=SP p0 hpn;have inS:∀ q k,Walk rows gs p0 q k->S0 q:=fun q k hk=>by
   induction hk with
   | nil=>exact hS
   | @snoc q q' k n h a ih =>
     obtain⟨r,h1,h2⟩:=a.1;obtain⟨q'',_,h3,h4⟩:=(cl q ih).2 r h1 n h2;rw[<- FP.inj q'' q' n h3 a.2];exact h4
  have closed0:∀ q,(∃ k,Walk rows gs p0 q k)->q<rows.length/\∀ r,rows[q]?=some r->∀ n∈r,∃ q',q' < p0/\gs[q']?=some (.int n)/\∃ k,Walk rows gs p0 q' k:=by
   rintro q ⟨k,hk⟩;refine⟨(cl q (inS q k hk)).1,fun r hr n hn=>?_⟩;obtain⟨q',h1,h2,_⟩:=(cl q (inS q k hk)).2 r hr n hn;exact⟨q',h1,h2,k+1,.snoc hk ⟨⟨r,hr,hn⟩,h2⟩⟩
  have lt0:∀ q,(∃ k,Walk rows gs p0 q k)->q=p0\/q<p0:=by
   rintro q ⟨k,hk⟩;cases hk with
   | nil=>exact .inl rfl
   | @snoc q1 _ k n h a =>
     obtain⟨r,h1,h2⟩:=a.1;obtain⟨q',h3,h4,_⟩:=(closed0 q1 ⟨k,h⟩).2 r h1 n h2;rw[<- FP.inj q' q n h4 a.2];exact .inr h3
  have along:∀ {q:Nat} {st':List (Nat×Option Int)} {w':Option Int},Ch (without rows x) (gs.set p .non) q st' e w'->(∃ k,Walk rows gs p0 q k)->∃ k,Walk rows gs p0 e k:=fun {q st' w'} hc =>
   hc.along (R:=fun q=>∃ k,Walk rows gs p0 q k) fun q n q' a ⟨k,hk⟩=>by
    obtain⟨r',h1,h2⟩:=a.1;obtain⟨r,h3,h4⟩:=Sg h1;exact⟨k+1,.snoc hk ⟨⟨r,h3,(h4 n h2).1⟩,(zcw hx a.2).1⟩⟩
  by_cases hpath:∃ q∈st.map (·.1),∃ k,Walk rows gs p0 q k
  ·obtain⟨q1,hq1,hk1⟩:=hpath;obtain⟨st',c1,_⟩:=C.ch.drop q1 hq1;have hRe:=along c1 hk1;cases hw:w with
   | some n0 =>
     obtain⟨⟨r',f1,f2⟩,f3⟩:=(C.free n0 hw).1;obtain⟨r,g1,g2⟩:=Sg f1;obtain⟨q',_,h2,_⟩:=(closed0 e hRe).2 r g1 n0 (g2 n0 f2).1;exact absurd (Mc hx h2 (g2 n0 f2).2) (f3 q')
   | none =>
     have clT:=closedT hw;obtain⟨_,cmax,_⟩:=C.none hw;have hep:e<p0:=by
      have hfe:∃ m,gs[e]?=some (V.int m):=by
       obtain⟨s,hs,hse⟩:=zu6.mp C.ch.last;rcases C.ch.near s hs with z|⟨m,z⟩
       ·rw[<- hse,z];exact⟨x,hx⟩
       ·rw[hse] at z;exact⟨m,(zcw hx z).1⟩
      obtain⟨m,hm⟩:=hfe;rcases lt0 e hRe with z|z
      ·rw[z,hpn] at hm;cases hm
      ·exact z
     refine⟨fun q=>(∃ k,Walk rows gs p0 q k)\/∃ k,Walk (without rows x) (gs.set p .non) p q k,.inl ⟨0,.nil⟩,fun q hq=>?_⟩;rcases hq with hq|hq
     ·refine⟨by rw[hRl];exact(closed0 q hq).1,fun r' hr' n hn=>?_⟩;obtain⟨r,g1,g2⟩:=Sg hr';obtain⟨q',h1,h2,h3⟩:=(closed0 q hq).2 r g1 n (g2 n hn).1;rcases moved (Mc hx h2 (g2 n hn).2) with ⟨_,m2⟩|⟨q0,m1,m2⟩
      ·exact⟨q',h1,m2,.inl h3⟩
      ·obtain⟨k0,hk0⟩:=C.ch.reach q0 (zu6.mpr ⟨_,m1,rfl⟩);have:=cmax q0 k0 hk0;exact⟨q0,by omega,m2,.inr ⟨k0,hk0⟩⟩
     ·obtain⟨t1,t2⟩:=clT q hq;refine⟨t1,fun r hr n hn=>?_⟩;obtain⟨q2,h1,h2,h3⟩:=t2 r hr n hn;exact⟨q2,by omega,h2,.inr h3⟩
  ·refine⟨fun q=>∃ k,Walk rows gs p0 q k,⟨0,.nil⟩,fun q hq=>⟨by rw[hRl];exact(closed0 q hq).1,fun r' hr' n hn=>?_⟩⟩;obtain⟨r,g1,g2⟩:=Sg hr';obtain⟨q',h1,h2,h3⟩:=(closed0 q hq).2 r g1 n (g2 n hn).1;rcases moved (Mc hx h2 (g2 n hn).2) with ⟨_,m2⟩|⟨q0,m1,m2⟩
   ·exact⟨q',h1,m2,h3⟩
   ·rcases Ws nd (show q' < (gs.set p V.non).length from(zux.mp (Mc hx h2 (g2 n hn).2)).1) with ⟨_,b2⟩|⟨w2,b1,_⟩
    ·exact⟨q',h1,by rw[b2];exact Mc hx h2 (g2 n hn).2,h3⟩
    ·exact absurd ⟨q',zu6.mpr ⟨_,b1,rfl⟩,h3⟩ hpath
 ·rw[a2] at hpn;cases w' with
  | some n=>cases hpn
  | none =>
    obtain⟨b1,b2⟩:=C.ch.noneLast p0 a1;subst b1;exact⟨_,⟨0+(C.ch.reach p0 (zu6.mpr ⟨_,a1,rfl⟩)).choose,by rw[Nat.zero_add];exact(C.ch.reach p0 (zu6.mpr ⟨_,a1,rfl⟩)).choose_spec⟩,closedT b2⟩
end
end G
namespace L2
open PySem PySem.Spec PyProof.Rows
inductive zhw(x:V)(vs:List V)(H:Hp)(Q:VK):Prop where
 | mk(d e:Addr)(kvs more:List (Key×V))(_:x=.ref d)(_:vs=[.ref e])(_:d≠e)(_:H d=some (.dK kvs))(_:H e=some (.dK more))(_:kvs.length+more.length<=sizeLine)(_:Q .non (upd H d (.dK (Ua kvs more))))
theorem zed:MtM X "dict.update" zhw:=by
 intro pins s σ H x vs v us Q I rx rv h;obtain⟨d,e,kvs,more,rfl,rfl,ne,hd,he,hz,q⟩:=h;cases rx;obtain⟨u,rfl,ru⟩:=rv.one;cases (show u=Value.ref e from ru);obtain⟨z1,lo1,vs1,r1,dd1⟩:=Bn I.hok hd;obtain⟨z2,lo2,vs2,r2,dd2⟩:=Bn I.hok he;refine call_meetsIn PySem.F.slot_dict_update dd1.typeIs PySem.F.entry_dict_update (PySem.F.args_dict_update_2 _ _) (meets_dict_update (Yn X.prog X.w) d e ne lo2) ⟨vs1,vs2,dd1,dd2,by rw[<- r1.length,<- r2.length];exact hz,fun h' dd1' dd2' hs=>?_⟩;have hex:∃ q,h'.get? d=some q:=let ⟨q,_,_,hq,_⟩:=dd1';⟨q,hq⟩;refine⟨.non,_,Pt (t':=s.toks) I (by rw[hd];exact True.intro) hs hex (J3 ?_ lo1 (r2.merge r1) dd1'),rfl,q⟩;exact zvb (So more kvs) hz
section
variable{prog:Program}{w:World}{A:Around}{E:Value->Shared->Prop}{s:Shared}{T:String}{r d:Addr}{n:Nat}{P:Nat->Value->Prop}{OK:Heap->Prop}
open PySem.W in
theorem zge(K:KdlSrc prog w T r d n P OK)(hh:A.handled=none)(hok:OK s.heap)(hn:n<=sizeLine)
  (h:∀ h' tk (acc:Array Value),(∀ b o,s.heap.get? b=some o->h'.get? b=some o)->s.heap.objs.size<=h'.objs.size->ItemsOf P acc n->Q acc.toList { s with heap:=h',toks:=tk }) :
  wpAny (model prog w) A (collect (.ref r)) Q E s:=by
 unfold collect;have hlt:=K.there _ hok;refine wpAny_bind (wpAny_runValue (codeAny_builtin entry_proto_collect' ?_));show wpAny _ _ (do again (.builtin "list.__iadd__" ⟨[<- newList [],.ref r],[]⟩)) _ _ s;refine wpAny_bind (wpAny_newList (wpAny_pure ⟨Code.quiet_builtin _ ⋯,codeAny_builtin entry_list_iadd' ?_⟩));show wpAny _ _ (Builtin.List.listExtendWith (.ref s.heap.objs.size) (.ref r) (.ref s.heap.objs.size)) _ _ { s with heap:=s.heap.push (seqObj "list" #[] 0) };have hS:(s.heap.push (seqObj "list" #[] 0)).get? s.heap.objs.size=some { cls:=.type "list",data:=.seq #[] 0 }:=Heap.get?_push_size _ rfl;rw[Around.under_plainId (show plainId "list.__iadd__"=true by decide +kernel) _];refine kdl_extend (R:=fun r s'=>match r with
   | .ok (.ret v)=>wpAny (model prog w) A (match v with
         | Value.ref a=>do
           let o <- load a
           match o.data with
            | Data.seq xs _=>pure xs.toList
            | _=>unsupported "internal:collect"
         | _=>unsupported "internal:collect") Q E s'
   | .ok _=>False
   | .error e=>E e s') (s:={ s with heap:=s.heap.push (seqObj "list" #[] 0) }) K hh (K.keep _ _ hok fun b _ o e=>Heap.get?_push_of_some _ e) s.heap.objs.size (Nat.ne_of_gt hlt.1) (Nat.ne_of_gt hlt.2) _ 0 hS (fun h' tk acc c' hk hS' hacc=>?_) hn
 show wpAny (model prog w) A (do
   let o <- load s.heap.objs.size
   match o.data with
   | .seq xs _=>pure xs.toList
   | _=>unsupported "internal:collect") Q E _
 refine wpAny_bind (wpAny_load hS' ?_);exact wpAny_pure (h h' tk acc (fun b o e=>hk b o (zvq (Heap.lt_size e)) (Heap.get?_push_of_some _ e)) (zw5 (Heap.lt_size hS')) hacc)
theorem zcx:∀ {its:List Value} {ns:List Int},its.length=ns.length->(∀ (j:Nat) (v:Value),its[j]?=some v->∃ t,v=.int (ns.getD j 0) t)->IntsAre its ns
 | [],[],_,_=>.nil
 | v :: its,n :: ns,hl,h=>by
   obtain⟨t,e⟩:=h 0 v rfl;rw[e];exact .cons _ t (zcx (by simpa using hl) fun j u hu=>h (j+1) u hu)
 | [],_ :: _,hl,_=>by simp at hl
 | _ :: _,[],hl,_=>by simp at hl
theorem Rx(hc:X.calm=true):Vm X (.builtin "sorted") (fun xs H Q=>∃ (a:Addr) (kvs:List (Key×V)) (ns:List Int),xs=[.ref a]/\Rd H a (.dK kvs)/\kvs.map (·.1)=ns.map (inl:Int->Key)/\ns.length<64/\∀ (l:Addr) (ns':List Int),H l=none->ns'.Perm ns->ns'.Pairwise (·<=·)->Q (.ref l) (upd H l (.lst (ns'.map V.int)))):=by
 intro pins s σ H xs us Q I r h;obtain⟨a,kvs,ns,rfl,ha,hns,h64,q⟩:=h;obtain⟨u,rfl,ru⟩:=Qg r;cases (show u=Value.ref a from ru);obtain⟨hz,lo,vs,kv,o,es,ep,e1,e2⟩:=Qh I.hok ha;have hl:kvs.length=vs.length:=KV.length kv;have hnl:ns.length=kvs.length:=by have:=congrArg List.length hns;rw[zuw,zuw] at this;exact this.symm
 refine Calls.call_function_entry kind_sorted plain_sorted entry_sorted (args_sorted1 _) ?_;unfold Builtin.«sorted»;refine wpAny_bind (m:=checkCount "sorted" 1 1 _) (wpAny_pure ?_);refine wpAny_bind (zge (PySem.W.kdl_dict (knd:=Yn X.prog X.w) (kvs:=vs) (ep:=ep) lo) (I.ok.hd hc) ⟨o,es,e1,e2⟩ (by rw[<- hl];exact hz) fun h' tk acc hk hsz hacc=>?_);have hI:IntsAre acc.toList ns:=by
  refine zcx (by have:=hacc.1;simp only[Array.length_toList];omega) fun j v hv=>?_;obtain⟨k,y,hk1,hk2⟩:=hacc.2 j v (by rw[<- Array.getElem?_toList];exact hv);have ek:=congrArg (·[j]?) (KV.keys kv);have en:=congrArg (·[j]?) hns;simp only[zu1,hk1,zv0] at ek en;cases hkv:kvs[j]? with
  | none=>rw[hkv] at ek;cases ek
  | some p =>
    rw[hkv] at ek en;cases hn:ns[j]? with
    | none=>rw[hn] at en;cases en
    | some m =>
      rw[hn] at en;have e3:p.1=k:=Option.some.inj ek;have e4:p.1=inl m:=Option.some.inj en;rw[<- e3,e4] at hk2;rw[zvp,hn];rcases Yt (show Jy (inl m:Key) v=true from hk2) with ⟨i,t,e5,e6⟩|⟨z,t,e5,_⟩
      ·cases e5;exact⟨t,e6⟩
      ·cases e5
 refine wpAny_bind (wpAny_newList ?_);have hoL:(h'.push (seqObj "list" acc.toList.toArray 0)).get? h'.objs.size=some (seqObj "list" acc.toList.toArray 0):=Heap.get?_push_size _ rfl;show wpAny _ _ _ _ _ { s with heap:=h'.push (seqObj "list" acc.toList.toArray 0),toks:=tk };refine wpAny_bind (wpAny_holding (wpAny_call_entry slot_list_sort ⟨_,hoL,rfl⟩ entry_list_sort (list_sort_tree hoL hI (by simp only[Array.length_toList];have:=hacc.1;omega) fun out ns' a1 a2 a3=>⟨_,rfl,?_⟩) (args_list_sort _)));have hge:s.heap.objs.size<=h'.objs.size:=hsz;have hf:H h'.objs.size=none:=I.hok.fresh hge;refine wpAny_pure ⟨_,rfl,.ref h'.objs.size,upd H h'.objs.size (.lst (ns'.map V.int)),I.laid (t':=tk) (fun b u eb=>?_) hge ?_,rfl,q _ ns' hf a2 a3⟩
 ·have e0:=hk b u eb;have hb:b<(h'.push (seqObj "list" acc.toList.toArray 0)).objs.size:=Heap.lt_size (Heap.get?_push_of_some _ e0);rw[sortedHeap_old (zvq (Heap.lt_size e0)) hb];exact Heap.get?_push_of_some _ e0
 ·obtain⟨e9,h9⟩:=sortedHeap_at (out:=out) hoL;exact⟨by rw[zuw,a2.length_eq];exact zw5 (Ub ⋯),out.toList,e9,M8 a1,h9⟩
end
end L2
namespace G
open PySem PySem.Spec PyProof.Rows L2
section
variable{α:Type}[DecidableEq α]{f:α->Key}
def Ij(acc:List α)(x:α):List α:=if x∈acc then acc else acc++[x]
def E7(pl ml:List α):List α:=ml.foldl Ij pl
theorem Ik(hf:∀ a b,f a=f b->a=b)(h:kvs.map (·.1)=pl.map f)(x:α)(v:V):(putK kvs (f x) v).map (·.1)=(Ij pl x).map f:=by
 have ha:(kvs.any fun kv=>decide (kv.1=f x))=true↔x∈pl:=by
  rw[List.any_eq_true];constructor
  ·rintro⟨kv,h1,h2⟩;have:kv.1∈kvs.map (·.1):=zu6.mpr ⟨_,h1,rfl⟩;rw[h] at this;obtain⟨y,h3,h4⟩:=zu6.mp this;rw[<- hf _ _ (h4.trans (of_decide_eq_true h2))];exact h3
  ·intro hx;have:f x∈kvs.map (·.1):=by rw[h];exact zu6.mpr ⟨_,hx,rfl⟩
   obtain⟨kv,h1,h2⟩:=zu6.mp this;exact⟨kv,h1,zu3 h2⟩
 unfold putK Ij;by_cases hx:x∈pl
 ·rw[if_pos (ha.mpr hx),if_pos hx,<- h,zwe];refine zwh fun kv _=>?_;show (if kv.1=f x then (kv.1,v) else kv).1=kv.1;split<;>rfl
 ·rw[if_neg (fun z=>hx (ha.mp z)),if_neg hx,zu5,zu5,h];rfl
theorem Il(hf:∀ a b,f a=f b->a=b):∀ {more kvs:List (Key×V)} {pl ml:List α},kvs.map (·.1)=pl.map f->more.map (·.1)=ml.map f->(Ua kvs more).map (·.1)=(E7 pl ml).map f
 | [],kvs,pl,[],h,_=>h
 | p :: more,kvs,pl,x :: ml,h,h2=>by
   rw[zu9,zu9] at h2;injection h2 with e1 e2;have:=Ik hf h x p.2;rw[<- e1] at this;exact Il hf (kvs:=putK kvs p.1 p.2) (pl:=Ij pl x) (ml:=ml) this e2
 | [],_,_,_ :: _,_,h2=>by simp at h2
 | _ :: _,_,_,[],_,h2=>by simp at h2
theorem Im{pl:List α}{x y:α}:y∈Ij pl x↔y∈pl\/y=x:=by
 unfold Ij;by_cases h:x∈pl
 ·rw[if_pos h];exact⟨.inl,fun z=>z.elim id fun e=>by rw[e];exact h⟩
 ·rw[if_neg h];simp
theorem O3{pl:List α}{x:α}(h:pl.Nodup):(Ij pl x).Nodup:=by
 unfold Ij;by_cases hx:x∈pl
 ·rw[if_pos hx];exact h
 ·rw[if_neg hx,List.nodup_append];exact⟨h,by simp,fun a ha b hb e=>hx (by rw[zu0.mp hb] at e;rw[<- e];exact ha)⟩
theorem E8:∀ {ml pl:List α} {y:α},y∈E7 pl ml↔y∈pl\/y∈ml
 | [],pl,y=>by unfold E7;simp
 | x :: ml,pl,y=>by
   show y∈E7 (Ij pl x) ml↔_;rw[E8,Im,zu4,or_assoc]
theorem Kt:∀ {ml pl:List α},pl.Nodup->(E7 pl ml).Nodup
 | [],pl,h=>h
 | x :: ml,pl,h=>Kt (ml:=ml) (O3 h)
end
theorem zll:∀ a b:Int,(inl a:Key)=inl b->a=b:=fun a b h=>inl.inj h
theorem zl9:∀ a b:Nat,(inl (a:Int):Key)=inl (b:Int)->a=b:=fun a b h=>by have:=inl.inj h;omega
theorem Io{α:Type}[DecidableEq α]{a b:List α}(ha:a.Nodup)(hb:b.Nodup)(h:∀ x,x∈a↔x∈b):a.length=b.length :=
 Nat.le_antisymm (ha.length_le_of_subset fun x hx=>(h x).mp hx) (hb.length_le_of_subset fun x hx=>(h x).mpr hx)
section
variable{rows:List (List Int)}{gs:List V}
def E9(rows:List (List Int))(gs:List V):Prop:=∀ p,gs[p]?=some .non->∀ q k,Walk rows gs p q k->¬ Ul rows gs q
structure Lj(rows:List (List Int))(gs:List V)(ps:List Nat)(rs:List Int):Prop where
 up:ps.Pairwise (· < ·)
 lt:∀ p∈ps,p<rows.length
 rup:rs.Pairwise (· < ·)
 all:∀ n,n∈rs↔∃ p∈ps,∃ r,rows[p]?=some r/\n∈r
 cnt:ps.length=rs.length+(Xs gs).length
 nil:Xs gs=[]->ps=[]
 gap:∀ p,gs[p]?=some .non->p∈ps
 has:∀ n∈rs,∃ p∈ps,gs[p]?=some (.int n)
theorem Tj:p∈Xs gs↔gs[p]?=some .non:=by
 unfold Xs;rw[zvx,zvy];constructor
 ·exact fun h=>of_decide_eq_true h.2
 ·exact fun h=>⟨(zux.mp h).1,zu3 h⟩
theorem zbh:(Xs gs).Nodup:=List.nodup_range.filter _
def B6(x:Option V):Option Int:=match x with|some (.int n)=>some n|_=>none
theorem Ry:B6 x=some n↔x=some (.int n):=by
 unfold B6;constructor
 ·intro h;split at h
  ·cases h;rfl
  ·cases h
 ·intro h;rw[h]
theorem ziu:∀ {ps:List Nat},(∀ p∈ps,∃ x,gs[p]?=some x/\oneV x)->ps.length=(ps.filterMap fun p=>B6 gs[p]?).length+(ps.filter fun p=>decide (gs[p]?=some .non)).length
 | [],_=>rfl
 | p :: ps,h=>by
   have ih:=ziu (ps:=ps) fun q hq=>h q (zvg _ hq);obtain⟨x,hx,ho⟩:=h p zvt;rcases ho with rfl|⟨n,rfl⟩
   ·rw[List.filterMap_cons_none (by rw[hx];rfl),zwa (by rw[hx];simp),zvi,zvi,ih];omega
   ·rw[List.filterMap_cons_some (b:=n) (by rw[hx];rfl),zwb (by rw[hx];simp),zvi,zvi,ih];omega
theorem Uw(FP:Ym rows gs):∀ {ps:List Nat},ps.Nodup->(ps.filterMap fun p=>B6 gs[p]?).Nodup
 | [],_=>zwp
 | p :: ps,h=>by
   rw[zvm] at h;rw[zws];split
   ·exact Uw FP h.2
   ·rename_i n hn;rw[zvm];refine⟨fun hm=>?_,Uw FP h.2⟩;obtain⟨q,hq,e⟩:=zwo.mp hm;have:=FP.inj p q n (Ry.mp hn) (Ry.mp e);rw[this] at h;exact h.1 hq
theorem zgf(FP:Ym rows gs)(NA:E9 rows gs){pl:List Nat}{rl:List Int}(hpn:pl.Nodup)(hpm:∀ q,q∈pl↔∃ g k,gs[g]?=some .non/\Walk rows gs g q k)(hrn:rl.Nodup)(hrm:∀ n,n∈rl↔∃ p∈pl,∃ r,rows[p]?=some r/\n∈r)
  {pi rs:List Int} (h1:pi.Perm (pl.map fun q:Nat=>(q:Int))) (h2:pi.Pairwise (·<=·)) (h3:rs.Perm rl) (h4:rs.Pairwise (·<=·)):∃ ps:List Nat,pi=ps.map (fun q:Nat=>(q:Int))/\Lj rows gs ps rs:=by
 have hlt:∀ q∈pl,q<rows.length:=fun q hq=>by
  obtain⟨g,k,hg,hw⟩:=(hpm q).mp hq;cases hw with
  | nil=>rw[<- FP.len];exact(zux.mp hg).1
  | snoc _ a=>rw[<- FP.len];exact(zux.mp a.2).1
 have hpi:∀ x∈pi,0<=x:=fun x hx=>by
  obtain⟨q,_,e⟩:=zu6.mp (h1.mem_iff.mp hx);rw[<- e];omega
 have epi:pi=(pi.map Int.toNat).map (fun q:Nat=>(q:Int)):=by
  rw[zwe]
  conv=>lhs;rw[<- List.map_id pi]
  refine zwh fun x hx=>?_;show x=((x.toNat:Nat):Int);rw[zwt (hpi x hx)]
 have hpp:(pi.map Int.toNat).Perm pl:=by
  have:=h1.map Int.toNat;rw[zwe] at this;have e:pl.map (Int.toNat∘fun q:Nat=>(q:Int))=pl:=by
   conv=>rhs;rw[<- List.map_id pl]
   exact zwh fun q _=>zve q
  rw[e] at this;exact this
 have nps:(pi.map Int.toNat).Nodup:=hpp.nodup_iff.mpr hpn;have strictly:∀ {l:List Int},l.Pairwise (·<=·)->l.Nodup->l.Pairwise (· < ·):=fun {l} a b=>(List.Pairwise.and a b).imp fun ⟨x,y⟩=>by omega
 generalize hps:pi.map Int.toNat=ps at epi hpp nps;have npi:pi.Nodup:=h1.nodup_iff.mpr (List.pairwise_map.mpr (hpn.imp fun h z=>h ⋯));have mem:∀ q,q∈ps↔q∈pl:=fun q=>hpp.mem_iff;have rmem:∀ n,n∈rs↔n∈rl:=fun n=>h3.mem_iff;have nrs:rs.Nodup:=h3.nodup_iff.mpr hrn;have gap:∀ p,gs[p]?=some .non->p∈ps:=fun p hp=>(mem p).mpr ((hpm p).mpr ⟨p,0,hp,.nil⟩);have all:∀ n,n∈rs↔∃ p∈ps,∃ r,rows[p]?=some r/\n∈r:=fun n=>by
  rw[rmem,hrm];exact⟨fun ⟨p,a,b⟩=>⟨p,(mem p).mpr a,b⟩,fun ⟨p,a,b⟩=>⟨p,(mem p).mp a,b⟩⟩
 have has:∀ n∈rs,∃ p∈ps,gs[p]?=some (.int n):=fun n hn=>by
  obtain⟨p,hp,r,h5,h6⟩:=(all n).mp hn;obtain⟨g,k,hg,hw⟩:=(hpm p).mp ((mem p).mp hp);by_cases hx:∃ j:Nat,gs[j]?=some (V.int n)
  ·obtain⟨j,hj⟩:=hx;exact⟨j,(mem j).mpr ((hpm j).mpr ⟨g,k+1,hg,.snoc hw ⟨⟨r,h5,h6⟩,hj⟩⟩),hj⟩
  ·exact absurd ⟨n,⟨r,h5,h6⟩,fun j hj=>hx ⟨j,hj⟩⟩ (NA g hg p k hw)
 refine⟨ps,epi,?_,fun p hp=>hlt p ((mem p).mp hp),strictly h4 nrs,all,?_,fun hz=>?_,gap,has⟩
 ·have:=strictly h2 npi;rw[epi,List.pairwise_map] at this;exact this.imp fun h=>by omega
 ·have hone:∀ p∈ps,∃ x,gs[p]?=some x/\oneV x:=fun p hp=>by
   have hl:p<gs.length:=by rw[FP.len];exact hlt p ((mem p).mp hp)
   exact⟨_,zuy hl,FP.one _ (zvs hl)⟩
  rw[ziu hone]
  congr 1
  ·refine Io (Uw FP nps) nrs fun n=>?_;rw[zwo];constructor
   ·rintro⟨p,hp,e⟩;have e:=Ry.mp e;obtain⟨r,h5,h6⟩:=FP.may p n e;exact(all n).mpr ⟨p,hp,r,h5,h6⟩
   ·intro hn;obtain⟨p,hp,e⟩:=has n hn;exact⟨p,hp,Ry.mpr e⟩
  ·refine Io (nps.filter _) zbh fun p=>?_;rw[zvx,Tj];exact⟨fun h=>of_decide_eq_true h.2,fun h=>⟨gap p h,zu3 h⟩⟩
 ·cases hc:ps with
  | nil=>rfl
  | cons p r =>
    have hp:p∈ps:=by rw[hc];simp
    obtain⟨g,_,hg,_⟩:=(hpm p).mp ((mem p).mp hp);have:=Tj.mpr hg;rw[hz] at this;cases this
end
inductive zcy(K:Frag)(vs:List V)(H:Hp)(Q:VK)(_:XK):Prop where
 | mk(l lg:Addr)(ls:List Addr)(rows:List (List Int))(nu:List Int)(gs:List V)(_:vs=[.ref l,.ref lg])(_:H l=some (.lst (ls.map V.ref)))(_:ILs H ls rows)(_:Qk rows nu)(_:H lg=some (.lst gs))(_:Ym rows gs)(_:E9 rows gs)(_:∀ t lp lr ps rs H',H' t=some (.tup [.ref lp,.ref lr])->H' lp=some (.lst (Wt ps))->H' lr=some (.lst (rs.map V.int))->Lj rows gs ps rs->Same H H'->H t=none->H lp=none->H lr=none->lp≠lr->Q (.ref t) H')
section
variable{rows:List (List Int)}{gs:List V}{p:Nat}{line:List Nat}{dep:Nat->Nat}{fr:Nat->Option (Nat×Int)}
def byV(x:Option (Nat×Int)):V:=match x with|none=>.non|some y=>.int (y.1:Nat)
structure zmp(by_:List (Key×V))(line:List Nat)(fr:Nat->Option (Nat×Int)):Prop where
 keys:by_.map (·.1)=line.map fun q:Nat=>(inl (q:Int):Key)
 val:∀ q∈line,valV by_ (inl (q:Int):Key)=some (byV (fr q))
structure zmq(rows:List (List Int))(gs:List V)(dep:Nat->Nat)(q:Nat)(x:Int)(tl:List (Nat×Option Int))(e:Nat)(n:Int):Prop where
 ch:Ch rows gs q ((q,some x) :: tl) e (some n)
 nd:(((q,some x) :: tl).map (·.1)).Nodup
 far:∀ s∈tl,dep q<dep s.1
end
inductive Dc(K:Frag)(vs:List V)(H:Hp)(Q:VK)(_:XK):Prop where
 | mk(t l lp lr:Addr)(ls:List Addr)(rows:List (List Int))(nu:List Int)(gs:List V)(ps:List Nat)(rs:List Int)(_:vs=[.ref t,.ref l,.int ((Xs gs).length:Nat)])(_:H t=some (.tup [.ref lp,.ref lr]))(_:H l=some (.lst (ls.map V.ref)))(_:ILs H ls rows)(_:Qk rows nu)(_:H lp=some (.lst (Wt ps)))(_:H lr=some (.lst (rs.map V.int)))(_:Lj rows gs ps rs)(_:∀ H',Same H H'->Q (.bl true) H')
section
variable{rows:List (List Int)}{gs:List V}
def zj4(rows:List (List Int))(gs:List V)(p:Nat):Prop:=∀ q k,Walk rows gs p q k->¬ Ul rows gs q
structure zlm(rows:List (List Int))(f k:Nat)(gs:List V):Prop where
 fill:Ym rows gs
 seen:∀ j,j<k->(∃ n,gs[(f+j)%rows.length]?=some (.int n))\/zj4 rows gs ((f+j)%rows.length)
 later:∀ p,(∀ j,j<k->(f+j)%rows.length≠p)->p<rows.length->gs[p]?=some .non
theorem B7{a b c:List Int}(h1:a.Perm b)(h2:a.Pairwise (·<=·))(hb:b.Nodup)(hc:c.Pairwise (· < ·))(h:∀ n,n∈b↔n∈c):a=c:=by
 have nc:c.Nodup:=hc.imp fun h z=>by omega
 have p:b.Perm c:=(List.perm_ext_iff_of_nodup hb nc).mpr h;exact(h1.trans p).eq_of_pairwise (le:=fun a b=>a<=b) (fun a b _ _ x y=>by omega) h2 (hc.imp fun h=>by omega)
end
end G
namespace PySem
theorem Dd(f:α->β):∀ (l:List α) (j:Nat),(l.map f).eraseIdx j=(l.eraseIdx j).map f
 | [],_=>rfl
 | _ :: _,0=>rfl
 | x :: l,j+1=>by
   show f x :: (l.map f).eraseIdx j=f x :: (l.eraseIdx j).map f;rw[Dd f l j]
section
variable{prog:Program}{w:World}{K:Type}[DecidableEq K]{knd:HeapKind prog w K}{A:Around}{E:Value->Shared->Prop}{s:Shared}
theorem O4(hu:knd.room A)(hkey:knd.is s.heap k a)(hm:s.heap.DictOfH knd d xs)(hj:xs[j]?=some (k,p))(hsz:xs.length<=sizeLine)
  (hQ:∀ h',h'.DictOfH knd d (xs.eraseIdx j)->Heap.SameBut d s.heap h'->Q (some (entryOfKey knd (k,p))) { s with heap:=h',toks:=s.toks+knd.draws k }) :
  wpAny (model prog w) A (Builtin.Dict.takeOut d (.ref a)) Q E s:=by
 obtain⟨o,es,ep,ho,hc,hd,he,his,hn⟩:=hm;unfold Builtin.Dict.takeOut
 try with_reducible refine wpAny_holding ?_
 refine wpAny_bind (knd.pyHash hu hkey (wpAny_bind (wpAny_dictFind_heap (s:={ s with toks:=s.toks+knd.draws k }) hu hkey ho hd he his hn ?_ ?_)))
 ·intro hno;exact absurd hj (hno j p)
 ·intro j' p' hj';have ej:=idxH_unique hn hj' hj;subst ej;refine wpAny_bind (wpAny_dictEntries (s:={ s with toks:=s.toks+knd.draws k }) ho hd ?_);rw[entry_at he j',hj];refine wpAny_bind (wpAny_updateDictKeys (hz:=by have e:=size_of_entries he;omega) (s:={ s with toks:=s.toks+knd.draws k }) ho hd (wpAny_pure (hQ _ ⟨_,_,ep+1,Heap.get?_update_self _ ho (Obj.isFreed_of_dict (Obj.data_mapDictKeys hd _)),
   hc.mapDictKeys _,Obj.data_mapDictKeys hd _,?_,?_,?_⟩ (Heap.SameBut.update ..))))
  ·obtain⟨l⟩:=es;simp only at he;simp[he,Dd]
  ·intro x hx;exact knd.keeps (his x (List.mem_of_mem_eraseIdx hx)) ho hd (Heap.SameBut.update ..)
  ·have:=hn.sublist (List.Sublist.map (·.1) (List.eraseIdx_sublist xs j'));exact this
theorem K6(d a:Addr)(k:K) :
  MeetsIn prog w (Builtin.«dict.pop» ⟨[.ref d,.ref a],[]⟩) (fun A R s=>knd.room A.in1/\knd.is s.heap k a/\∃ xs j p,s.heap.DictOfH knd d xs/\xs.length<=sizeLine/\xs[j]?=some (k,p) /\
   ∀ h' t',h'.DictOfH knd d (xs.eraseIdx j)->Heap.SameBut d s.heap h'->R (.ok (.ret p.2)) { s with heap:=h',toks:=t' }) :=
 .of_wp fun A R s ⟨hu,hkey,xs,j,p,hm,hsz,hj,h⟩=>by
  obtain⟨o,es,ep,ho,hc,hd,he,his,hn⟩:=id hm;unfold Builtin.«dict.pop»;refine wpAny_bind ?_;unfold Builtin.Dict.keyAndDefault;refine wpAny_bind (wpAny_notOrdered_dict hm.typeIs ?_);show wpAny _ _ (pure (d,Value.ref a,none)) _ _ s;refine wpAny_pure ?_;have hp:(keyPart (Value.ref a)).isSome=false:=rfl;simp only[hp,zww,if_false];refine wpAny_bind (wpAny_dictEntries ho hd (wpAny_bind (wpAny_pure ?_)));have hne:es.isEmpty=false:=by
   have h1:=size_of_entries he;have h2:=(zux.mp hj).1;rw[Array.isEmpty_eq_false_iff_exists_mem];exact⟨es[0]'⋯,Array.getElem_mem _⟩
  simp only[hne,zww,if_false];refine wpAny_bind (O4 hu hkey hm hj hsz fun h' hm' hs'=>?_);simp only[Option.isNone_some,zww,if_false];exact wpAny_bind (wpAny_letGo (wpAny_pure ⟨p.2,rfl,h h' _ hm' hs'⟩))
end
end PySem
namespace L2
open PySem PySem.Spec PyProof.Rows
theorem KT.drop:∀ {kvs:List (List Key×V)} {xs:List (List Key×Addr×Value)},KT H kvs xs->(xs.map (·.1)).Nodup->valV kvs k=some v->∃ j p,xs[j]?=some (k,p)/\RelV v p.2/\KT H (X7 kvs k) (xs.eraseIdx j):=fun {kvs xs} r=>by
 induction r with
 | nil=>intro _ hv;cases hv
 | @cons p q kvs xs h t ih=>
     intro nd hv
     rw[zu9,zvm] at nd;obtain⟨h1,h2,h3⟩:=h;by_cases e:p.1=k
     ·rw[Xg e] at hv;cases hv;refine⟨0,q.2,by rw[<- e,h1];rfl,h3,?_⟩;show KT H (X7 (p :: kvs) k) xs;have hd:X7 (p :: kvs) k=kvs:=by
       unfold X7;rw[zwb (by simp[e])];rw[List.filter_eq_self];intro kv hkv;refine zu3 fun z=>nd.1 ?_;have:∀ {l:List (List Key×V)} {m:List (List Key×Addr×Value)},KT H l m->kv∈l->kv.1∈m.map (·.1):=by
        intro l m q
        induction q with
        | nil=>intro hx;cases hx
        | @cons p' q' ps qs hq t ih =>
          intro hx;rcases zu4.mp hx with z|z
          ·rw[z,hq.1];exact zvt
          ·exact zvg _ (ih z)
       have h9:=this t hkv;rw[z,<- e,h1] at h9;exact h9
      rw[hd];exact t
     ·rw[Xa e] at hv;obtain⟨j,pp,h4,h5,h6⟩:=ih nd.2 hv;refine⟨j+1,pp,h4,h5,?_⟩;have hd:X7 (p :: kvs) k=p :: X7 kvs k:=by
       unfold X7;rw[zwa (by simp[e])]
      rw[hd];exact .cons ⟨h1,h2,h3⟩ h6
inductive zhx(ty:TE)(σ:L2.St)(Q:VK)(x:V)(H1:Hp):Prop where
 | mk(a)(_:x=.ref a)(_:IsD H1 a)(_:ty σ H1 fun y H2=>∃ (kvs:List (List Key×V)) (k:List Key) (b:Addr) (v:V),H2 a=some (.dT kvs)/\y=.ref b/\H2 b=some (.tup (k.map kV))/\valV kvs k=some v/\Q v (upd H2 a (.dT (X7 kvs k))))
def zj5(td ty:TE):TE:=fun σ H Q=>td σ H fun x H1=>zhx ty σ Q x H1
theorem zgg(hu:X.A.units+1<cLine)(ho:PE X o td)(he:PE X e ty)(m:M1 X o "pop" apos e cpos):PE X (.Call (.Attribute o "pop" apos) [e] [] cpos) (zj5 td ty):=by
 intro pins s σ H Q I h;refine wpAny_Call_method m.base m.few m.line PySem.F.plainAttrs_dict PySem.F.slot_dict_pop PySem.F.type_dict_pop (thn (ho pins s σ H _ I h) fun u s1 ⟨x,H1,I1,rx,a,ex,d,q1⟩=>?_);subst ex;obtain rfl:u=Value.ref a:=rx;obtain⟨t1,t2,_⟩:=za0 I1 d;refine⟨t1,t2,?_⟩;rw[m.trees];refine Calls.callWith_builtin rfl (Calls.evalArgs_plain (Calls.spliced_cons (thn (he pins s1 σ H1 _ I1 q1) fun iv s2 ⟨y,H2,I2,ry,kvs,k,b,v,ea,ey,eb,l,q2⟩=>Calls.spliced_nil ?_)));subst ey;cases (show iv=Value.ref b from ry);obtain⟨z,hd,xs,rel,dd⟩:=zik I2.hok ea;have hz:xs.length<=sizeLine:=by rw[<- Paired.length rel];exact z
 obtain⟨j,p,hj,rv,rel'⟩:=KT.drop rel (by obtain⟨_,_,_,_,_,_,_,_,hn⟩:=dd;exact hn) l;refine call_meetsIn PySem.F.slot_dict_pop dd.typeIs PySem.F.entry_dict_pop (PySem.F.args_dict_pop_2 _ _) (K6 (knd:=tupleKind (Yn X.prog X.w)) a b k) ⟨tupleKind_room_in1 hu,Ow I2.hok eb,xs,j,p,dd,hz,hj,fun h' t' dd' hs=>⟨v,_,?_,rv,q2⟩⟩;obtain⟨q,es,ep,hq,h2,h3,h4,_,h5⟩:=dd';refine Pt I2 (by rw[ea];exact True.intro) hs ⟨q,hq⟩ ⟨zvb (Bm kvs k) z,hd,_,rel'.keeps fun c ys ec=>?_,q,es,ep,hq,h2,h3,h4,h5⟩;rw[Zf (Yw ec ea (fun z=>nomatch z))];exact ec
end L2
namespace G
open PySem PySem.Spec PyProof.Rows L2
structure CA where
 season:Addr
 sheet:Addr
 roster:Addr
 ledger:Addr
 out:Addr
 known:Addr
 many:Addr
 unk:Addr
 manyM:Addr
 same:Addr
 noMatch:Addr
 noRound:Addr
 over:Addr
 seaOver:Addr
 away:Addr
 drawn:Addr
 notDrawn:Addr
 nothing:Addr
 manyD:Addr
theorem Ur:1000000<sizeLine:=by rw[sizeLine_eq];decide
abbrev RL:=List (Int×Int×Int)
inductive Va(H:Hp):RL->List (Key×V)->Prop where
 | nil:Va H [] []
 | cons {n g c:Int} {t:Addr} {R:RL} {kvs:List (Key×V)} (h:H t=some (.tup [.int g,.int c])) (r:Va H R kvs):Va H ((n,g,c) :: R) ((.inl n,.ref t) :: kvs)
theorem Va.mono(k:∀ t xs,H t=some (.tup xs)->H' t=some (.tup xs)):∀ {R:RL} {kvs:List (Key×V)},Va H R kvs->Va H' R kvs
 | _,_,.nil=>.nil
 | _,_,.cons h r=>.cons (k _ _ h) (Va.mono k r)
theorem Va.length:∀ {R:RL} {kvs:List (Key×V)},Va H R kvs->kvs.length=R.length
 | _,_,.nil=>rfl
 | _,_,.cons _ r=>by simp[Va.length r]
theorem Va.keys:∀ {R:RL} {kvs:List (Key×V)},Va H R kvs->(kvs.map fun kv=>kV kv.1)=R.map fun x=>V.int x.1
 | _,_,.nil=>rfl
 | _,_,.cons _ r=>by rw[zu9,zu9,Va.keys r];rfl
theorem Va.snoc(h:H t=some (.tup [.int g,.int c])):∀ {R:RL} {kvs:List (Key×V)},Va H R kvs->Va H (R++[(n,g,c)]) (kvs++[(.inl n,.ref t)])
 | _,_,.nil=>.cons h .nil
 | _,_,.cons h' r=>.cons h' (Va.snoc h r)
theorem Va.val_none:∀ {R:RL} {kvs:List (Key×V)},Va H R kvs->n∉R.map (·.1)->valV kvs (inl n:Key)=none
 | _,_,.nil,_=>rfl
 | _,_,.cons (n:=m) _ r,h=>by
   rw[zu9,zu4,not_or] at h;rw[Xa (fun e=>h.1 (inl.inj e).symm)];exact Va.val_none r h.2
theorem Va.val_some:∀ {R:RL} {kvs:List (Key×V)},Va H R kvs->(R.map (·.1)).Nodup->(n,g,c)∈R->∃ t,valV kvs (inl n:Key)=some (.ref t)/\H t=some (.tup [.int g,.int c])
 | _,_,.nil,_,h=>by simp at h
 | _,_,.cons (n:=m) (g:=g') (c:=c') (t:=t) ht r,nd,h=>by
   rw[zu9,zvm] at nd;by_cases e:m=n
   ·subst e;rcases zu4.mp h with q|q
    ·cases q;exact⟨t,Xg rfl,ht⟩
    ·exact absurd (zu6.mpr ⟨_,q,rfl⟩) nd.1
   ·rcases zu4.mp h with q|q
    ·cases q;exact absurd rfl e
    ·obtain⟨t',h1,h2⟩:=Va.val_some r nd.2 q;exact⟨t',by rw[Xa (fun z=>e (inl.inj z))];exact h1,h2⟩
theorem Va.isSome(e:Va H R kvs)(nd:(R.map (·.1)).Nodup):(valV kvs (inl n:Key)).isSome=decide (n∈R.map (·.1)):=by
 by_cases h:n∈R.map (·.1)
 ·obtain⟨⟨m,g,c⟩,q,rfl⟩:=zu6.mp h;obtain⟨t,h1,_⟩:=e.val_some nd q;rw[h1,zu3 h];rfl
 ·rw[e.val_none h,zva h];rfl
theorem Va.unsnoc:∀ {R:RL} {kvs:List (Key×V)},Va H (R++[(n,g,c)]) kvs->n∉R.map (·.1)->Va H R (X7 kvs (inl n)):=fun {R}=>by
 induction R with
 | nil=>
  intro kvs q _;have q:Va H [(n,g,c)] kvs:=q;cases q with
  | cons h r=>
   cases r;unfold X7;rw[zwb (by simp)];exact .nil
 | cons p R ih=>
  obtain⟨m,g',c'⟩:=p;intro kvs q hn;have q:Va H ((m,g',c') :: (R++[(n,g,c)])) kvs:=q;cases q with
  | cons h r=>
    rw[zu9,zu4,not_or] at hn;unfold X7;rw[zwa (by
     refine zu3 fun z=>hn.1 ?_;exact(inl.inj z).symm)]
    exact .cons h (ih r hn.2)
structure Xj(C:Addr)(H:Hp)(p d:Addr)(R:RL):Prop where
 ex:∃ dx kvs,H p=some (.ins C dx [("entries",.ref d)])/\H d=some (.dK kvs)/\Va H R kvs
 nd:(R.map (·.1)).Nodup
theorem Vb:List.lookup ("entries":Str) ([("entries",V.ref d)]:List (Str×V))=some (.ref d):=by simp only[zvw,beq_self_eq_true]
theorem Xj.no{d:Addr}{m:Str}(h:¬ m="entries"):List.lookup m ([("entries",V.ref d)]:List (Str×V))=none:=by
 have e:(m == "entries")=false:=zvl.mpr h;simp only[zvw,e,List.lookup_nil]
theorem Xj.keep(h:Xj C H p d R)(kp:∀ o,H p=some o->H' p=some o)(kd:∀ o,H d=some o->H' d=some o)(kt:∀ t xs,H t=some (.tup xs)->H' t=some (.tup xs)):Xj C H' p d R:=by
 obtain⟨⟨dx,kvs,h1,h2,h3⟩,nd⟩:=h;exact⟨⟨dx,kvs,kp _ h1,kd _ h2,h3.mono kt⟩,nd⟩
theorem Xj.same(h:Xj C H p d R)(e:Same H H'):Xj C H' p d R:=h.keep (fun _ q=>e _ _ q) (fun _ q=>e _ _ q) fun _ _ q=>e _ _ q
def badI(n g c:Int):Prop:=n<1\/999<n\/g<1\/9<g\/c<1\/99<c
instance {n g c:Int}:Decidable (badI n g c):=by unfold badI;infer_instance
def Cg(n g c:Int):Prop:=Yi n/\Yi g/\Yi c
inductive Md(x:Addr)(vs:List V)(H:Hp)(Q:VK)(E:XK):Prop where
 | mk(v)(lo)(m)(_:vs=[.int v,.int lo,.int m])(_:Yi v)(_:Yi lo)(_:Yi m)(_:(if v<lo\/m<v then E (.ref x) none H else Q .non H))
inductive zcz(ca:CA)(vs:List V)(H:Hp)(Q:VK)(_:XK):Prop where
 | mk(p)(dx)(_:vs=[.ref p])(_:H p=some (.ins ca.roster dx []))(_:∀ d,H d=none->Q .non (upd (upd H d (.dK [])) p (.ins ca.roster dx [("entries",.ref d)])))
inductive O5(ca:CA)(vs:List V)(H:Hp)(Q:VK)(E:XK):Prop where
 | mk(p)(d)(R)(n)(g)(c)(_:vs=[.ref p,.int n,.int g,.int c])(_:Xj ca.roster H p d R)(_:Cg n g c)(_:if badI n g c then E (.ref ca.out) none H else if n∈R.map (·.1) then E (.ref ca.known) none H else if 30<=R.length then E (.ref ca.many) none H else Q .non H)
inductive U9(ca:CA)(vs:List V)(H:Hp)(Q:VK)(E:XK):Prop where
 | mk(p)(d)(R)(n)(_:vs=[.ref p,.int n])(_:Xj ca.roster H p d R)(_:Yi n)(_:if n∈R.map (·.1) then Q .non H else E (.ref ca.unk) none H)
inductive zgh(ca:CA)(vs:List V)(H:Hp)(Q:VK)(E:XK):Prop where
 | mk(p)(d)(R)(n)(g)(c)(_:vs=[.ref p,.int n,.int g,.int c])(_:Xj ca.roster H p d R)(_:Cg n g c)(_:R.length<=1000)(_:if badI n g c then E (.ref ca.out) none H else if n∈R.map (·.1) then E (.ref ca.known) none H else if 30<=R.length then E (.ref ca.many) none H else ∀ H',Xj ca.roster H' p d (R++[(n,g,c)])->(∀ b o,H b=some o->b≠d->H' b=some o)->Q .non H')
inductive B8(ca:CA)(vs:List V)(H:Hp)(Q:VK)(_:XK):Prop where
 | mk(p)(d)(R)(n)(g)(c)(_:vs=[.ref p,.int n])(_:Xj ca.roster H p d (R++[(n,g,c)]))(_:∀ H',Xj ca.roster H' p d R->(∀ b o,H b=some o->b≠d->H' b=some o)->Q .non H')
inductive Ip(ca:CA)(vs:List V)(H:Hp)(Q:VK)(_:XK):Prop where
 | mk(p)(d)(R)(_:vs=[.ref p])(_:Xj ca.roster H p d R)(_:∀ l,H l=none->Q (.ref l) (upd H l (.lst (R.map fun x=>V.int x.1))))
inductive B9(ca:CA)(vs:List V)(H:Hp)(Q:VK)(E:XK):Prop where
 | mk(p)(d)(R)(n)(_:vs=[.ref p,.int n])(_:Xj ca.roster H p d R)(_:Yi n)(_:(n∉R.map (·.1)->E (.ref ca.unk) none H))(_:∀ g c t,(n,g,c)∈R->H t=some (.tup [.int g,.int c])->Q (.ref t) H)
inductive Aa(ca:CA)(vs:List V)(H:Hp)(Q:VK)(E:XK):Prop where
 | mk(p)(d)(R)(n)(_:vs=[.ref p,.int n])(_:Xj ca.roster H p d R)(_:Yi n)(_:(n∉R.map (·.1)->∀ H',Same H H'->E (.ref ca.unk) none H'))(_:∀ g c t H',(n,g,c)∈R->H' t=some (.tup (pV (n,g,c)))->Same H H'->H t=none->Q (.ref t) H')
structure Zy where
 ms:List (Int×Int×Int)
 may:List (List Int)
 gv:List V
 gaps:List (Int×List (Nat×Option Int))
inductive X2(ok:Addr->Prop)(H:Hp):List V->List (Int×List (Nat×Option Int))->Prop where
 | nil:X2 ok H [] []
 | cons {t l:Addr} {n:Int} {us:List V} {st:List (Nat×Option Int)} {ts:List V} {G:List (Int×List (Nat×Option Int))} (h:H t=some (.tup [.int n,.ref l])) (hl:H l=some (.lst us)) (tl:Z8 H us (st.map Wq)) (o:ok l) (r:X2 ok H ts G):X2 ok H (.ref t :: ts) ((n,st) :: G)
theorem X2.keep(k:∀ x o,ok x->H x=some o->H' x=some o)(kt:∀ t xs,H t=some (.tup xs)->H' t=some (.tup xs)):∀ {ts:List V} {G:List (Int×List (Nat×Option Int))},X2 ok H ts G->X2 ok H' ts G
 | _,_,.nil=>.nil
 | _,_,.cons h hl tl o r=>.cons (kt _ _ h) (k _ _ o hl) (tl.mono kt) o (X2.keep k kt r)
theorem X2.imp(k:∀ x,(∃ o,H x=some o)->ok x->ok' x):∀ {ts:List V} {G:List (Int×List (Nat×Option Int))},X2 ok H ts G->X2 ok' H ts G
 | _,_,.nil=>.nil
 | _,_,.cons h hl tl o r=>.cons h hl tl (k _ ⟨_,hl⟩ o) (X2.imp k r)
theorem X2.length:∀ {ts:List V} {G:List (Int×List (Nat×Option Int))},X2 ok H ts G->ts.length=G.length
 | _,_,.nil=>rfl
 | _,_,.cons _ _ _ _ r=>by simp[X2.length r]
theorem X2.snoc{ok:Addr->Prop}{H:Hp}{t l:Addr}{n:Int}{us:List V}{st:List (Nat×Option Int)}(h:H t=some (.tup [.int n,.ref l]))(hl:H l=some (.lst us))(tl:Z8 H us (st.map Wq))(o:ok l):∀ {ts:List V} {G:List (Int×List (Nat×Option Int))},X2 ok H ts G->X2 ok H (ts++[.ref t]) (G++[(n,st)])
 | _,_,.nil=>.cons h hl tl o .nil
 | _,_,.cons h' hl' tl' o' r=>.cons h' hl' tl' o' (X2.snoc h hl tl o r)
theorem X2.get:∀ {ts:List V} {G:List (Int×List (Nat×Option Int))} {i:Nat} {x:V},X2 ok H ts G->ts[i]?=some x->∃ t l n us st,x=.ref t/\G[i]?=some (n,st)/\H t=some (.tup [.int n,.ref l])/\H l=some (.lst us)/\Z8 H us (st.map Wq)/\ok l
 | _,_,_,_,.nil,e=>by simp at e
 | _,_,0,_,.cons h hl tl o _,e=>by simp at e;subst e;exact⟨_,_,_,_,_,rfl,rfl,h,hl,tl,o⟩
 | _,_,i+1,x,.cons _ _ _ _ r,e=>by
   obtain⟨t,l,n,us,st,h1,h2,h3⟩:=X2.get (i:=i) (x:=x) r (by simpa using e);exact⟨t,l,n,us,st,h1,by simpa using h2,h3⟩
def shF(l1 l2 l3 l4:Addr):List (Str×V):=[("listed",.ref l1),("lists",.ref l2),("given",.ref l3),("gaps",.ref l4)]
structure ShAt(C:Addr)(ok:Addr->Prop)(H:Hp)(q:Addr)(s:Zy):Prop where
 ex:∃ dx l1 l2 l3 l4 ts ls gts,H q=some (.ins C dx (shF l1 l2 l3 l4))/\H l1=some (.lst ts)/\Z8 H ts (s.ms.map pV)/\H l2=some (.lst (ls.map V.ref))/\ILs H ls s.may/\H l3=some (.lst s.gv)/\H l4=some (.lst gts)/\X2 ok H gts s.gaps/\(ok q/\ok l1/\ok l2/\ok l3/\ok l4/\∀ x∈ls,ok x)
theorem ShAt.keep(h:ShAt C ok H q s)(k:∀ x o,ok x->H x=some o->H' x=some o)(kt:∀ t xs,H t=some (.tup xs)->H' t=some (.tup xs)):ShAt C ok H' q s:=by
 obtain⟨dx,l1,l2,l3,l4,ts,ls,gts,a1,a2,a3,a4,a5,a6,a7,a8,o1,o2,o3,o4,o5,o6⟩:=h;exact⟨dx,l1,l2,l3,l4,ts,ls,gts,k _ _ o1 a1,k _ _ o2 a2,a3.mono kt,k _ _ o3 a4,a5.keep fun x hx o q=>k _ _ (o6 x hx) q,k _ _ o4 a6,k _ _ o5 a7,a8.keep k kt,o1,o2,o3,o4,o5,o6⟩
theorem ShAt.imp(h:ShAt C ok H q s)(k:∀ x,(∃ o,H x=some o)->ok x->ok' x):ShAt C ok' H q s:=by
 obtain⟨dx,l1,l2,l3,l4,ts,ls,gts,a1,a2,a3,a4,a5,a6,a7,a8,o1,o2,o3,o4,o5,o6⟩:=h;exact⟨dx,l1,l2,l3,l4,ts,ls,gts,a1,a2,a3,a4,a5,a6,a7,a8.imp k,k _ ⟨_,a1⟩ o1,k _ ⟨_,a2⟩ o2,k _ ⟨_,a4⟩ o3,k _ ⟨_,a6⟩ o4,k _ ⟨_,a7⟩ o5,fun x hx=>k _ (let ⟨_,z⟩:=a5.has hx;⟨_,z⟩) (o6 x hx)⟩
theorem ShAt.same(h:ShAt C ok H q s)(e:Same H H'):ShAt C ok H' q s:=h.keep (fun _ _ _ q=>e _ _ q) fun _ _ q=>e _ _ q
def ShO(C:Addr)(ok:Addr->Prop)(H:Hp)(v:V)(s:Option Zy):Prop:=match s with|none=>v=.non|some s=>∃ q,v=.ref q/\ShAt C ok H q s
theorem ShO.keep(h:ShO C ok H v s)(k:∀ x o,ok x->H x=some o->H' x=some o)(kt:∀ t xs,H t=some (.tup xs)->H' t=some (.tup xs)):ShO C ok H' v s:=by
 cases s with
 | none=>exact h
 | some s=>obtain⟨q,e,h⟩:=h;exact⟨q,e,h.keep k kt⟩
theorem ShO.imp(h:ShO C ok H v s)(k:∀ x,(∃ o,H x=some o)->ok x->ok' x):ShO C ok' H v s:=by
 cases s with
 | none=>exact h
 | some s=>obtain⟨q,e,h⟩:=h;exact⟨q,e,h.imp k⟩
inductive ShL(C:Addr)(ok:Addr->Prop)(H:Hp):List V->List Zy->Prop where
 | nil:ShL C ok H [] []
 | cons {q:Addr} {s:Zy} {vs:List V} {ss:List Zy} (h:ShAt C ok H q s) (r:ShL C ok H vs ss):ShL C ok H (.ref q :: vs) (s :: ss)
theorem ShL.keep(k:∀ x o,ok x->H x=some o->H' x=some o)(kt:∀ t xs,H t=some (.tup xs)->H' t=some (.tup xs)):∀ {vs:List V} {ss:List Zy},ShL C ok H vs ss->ShL C ok H' vs ss
 | _,_,.nil=>.nil
 | _,_,.cons h r=>.cons (h.keep k kt) (ShL.keep k kt r)
theorem ShL.imp(k:∀ x,(∃ o,H x=some o)->ok x->ok' x):∀ {vs:List V} {ss:List Zy},ShL C ok H vs ss->ShL C ok' H vs ss
 | _,_,.nil=>.nil
 | _,_,.cons h r=>.cons (h.imp k) (ShL.imp k r)
theorem ShL.length:∀ {vs:List V} {ss:List Zy},ShL C ok H vs ss->vs.length=ss.length
 | _,_,.nil=>rfl
 | _,_,.cons _ r=>by simp[ShL.length r]
theorem ShL.snoc(h:ShAt C ok H q s):∀ {vs:List V} {ss:List Zy},ShL C ok H vs ss->ShL C ok H (vs++[.ref q]) (ss++[s])
 | _,_,.nil=>.cons h .nil
 | _,_,.cons h' r=>.cons h' (ShL.snoc h r)
theorem ShL.getR:∀ {vs:List V} {ss:List Zy} {i:Nat} {s:Zy},ShL C ok H vs ss->ss[i]?=some s->∃ q,vs[i]?=some (.ref q)/\ShAt C ok H q s
 | _,_,_,_,.nil,e=>by simp at e
 | _,_,0,_,.cons h _,e=>by simp at e;subst e;exact⟨_,rfl,h⟩
 | _,_,i+1,x,.cons _ r,e=>by
   obtain⟨t,h1,h2⟩:=ShL.getR (i:=i) (s:=x) r (by simpa using e);exact⟨t,by simpa using h1,h2⟩
abbrev Rh:=Str×Int×Int
def Ql(d:Rh):List V:=[.str d.1,.int d.2.1,.int d.2.2]
inductive Ux(C:Addr)(ok:Addr->Prop)(H:Hp):List V->List (Rh×Option Zy)->Prop where
 | nil:Ux C ok H [] []
 | cons {t u:Addr} {v:V} {d:Rh} {s:Option Zy} {vs:List V} {ss:List (Rh×Option Zy)} (h:H t=some (.tup [.ref u,v])) (hu:H u=some (.tup (Ql d))) (hs:ShO C ok H v s) (r:Ux C ok H vs ss):Ux C ok H (.ref t :: vs) ((d,s) :: ss)
theorem Ux.keep(k:∀ x o,ok x->H x=some o->H' x=some o)(kt:∀ t xs,H t=some (.tup xs)->H' t=some (.tup xs)):∀ {vs:List V} {ss:List (Rh×Option Zy)},Ux C ok H vs ss->Ux C ok H' vs ss
 | _,_,.nil=>.nil
 | _,_,.cons h hu hs r=>.cons (kt _ _ h) (kt _ _ hu) (hs.keep k kt) (Ux.keep k kt r)
theorem Ux.length:∀ {vs:List V} {ss:List (Rh×Option Zy)},Ux C ok H vs ss->vs.length=ss.length
 | _,_,.nil=>rfl
 | _,_,.cons _ _ _ r=>by simp[Ux.length r]
theorem Ux.snoc(h:H t=some (.tup [.ref u,v]))(hu:H u=some (.tup (Ql d)))(hs:ShO C ok H v s):∀ {vs:List V} {ss:List (Rh×Option Zy)},Ux C ok H vs ss->Ux C ok H (vs++[.ref t]) (ss++[(d,s)])
 | _,_,.nil=>.cons h hu hs .nil
 | _,_,.cons h' hu' hs' r=>.cons h' hu' hs' (Ux.snoc h hu hs r)
theorem Ux.unsnoc:∀ {vs:List V} {ss:List (Rh×Option Zy)},Ux C ok H vs (ss++[(d,s)])->∃ vs' t u v,vs=vs'++[.ref t]/\H t=some (.tup [.ref u,v])/\H u=some (.tup (Ql d))/\ShO C ok H v s/\Ux C ok H vs' ss:=fun {vs ss}=>by
 induction ss generalizing vs with
 | nil=>
  intro q;have q:Ux C ok H vs [(d,s)]:=q;cases q with
  | cons h hu hs r=>cases r;exact⟨[],_,_,_,rfl,h,hu,hs,.nil⟩
 | cons x ss ih=>
  intro q;have q:Ux C ok H vs (x :: (ss++[(d,s)])):=q;cases q with
  | cons h hu hs r=>obtain⟨vs',t,u,v,e,a1,a2,a3,a4⟩:=ih r;exact⟨_ :: vs',t,u,v,by rw[e];rfl,a1,a2,a3,.cons h hu hs a4⟩
structure Sea where
 len:Nat
 rest:Nat
 ppl:RL
 led:List (List Row)
 out:List (Int×Int)
 old:List Zy
 cur:Option Zy
 std:List (Rh×Option Zy)
structure SAd where
 p:Addr
 pr:Addr
 dr:Addr
 pl:Addr
 lr:Addr
 ld:Addr
 da:Addr
 ls:Addr
 lt:Addr
def SAd.fp(A:SAd):List Addr:=[A.p,A.dr,A.lr,A.ld,A.da,A.ls,A.lt]
def seaF(A:SAd)(len rest:Nat)(v:V):List (Str×V):=[("length",.int len),("rest",.int rest),("roster",.ref A.pr),("ledger",.ref A.pl),("absent",.ref A.da),("sheets",.ref A.ls),("sheet",v),("standing",.ref A.lt)]
def Q9(kvs:List (List Key×V))(out:List (Int×Int)):Prop:=(∀ at_ n:Int,(valV kvs [inl at_,inl n]).isSome=decide ((at_,n)∈out))/\kvs.length<=out.length
structure Zx(ca:CA)(H:Hp)(A:SAd)(S:Sea):Prop where
 obj:∃ dx v,H A.p=some (.ins ca.season dx (seaF A S.len S.rest v))/\ShO ca.sheet (·∉A.fp) H v S.cur
 ros:Xj ca.roster H A.pr A.dr S.ppl
 led:Uq ca.ledger H A.pl A.lr A.ld S.led
 out:∃ kvs,H A.da=some (.dT kvs)/\Q9 kvs S.out
 old:∃ vs,H A.ls=some (.lst vs)/\ShL ca.sheet (·∉A.fp) H vs S.old
 std:∃ vs,H A.lt=some (.lst vs)/\Ux ca.sheet (·∉A.fp) H vs S.std
 nd:A.fp.Nodup
 np:A.pr∉A.fp/\A.pl∉A.fp
def FrS(A:SAd)(H H':Hp):Prop:=∀ b o,H b=some o->b∉A.fp->H' b=some o
end G
namespace L2
open PySem PySem.Spec PyProof.Rows
theorem Ab{X:Cx}{K:Frag}(hK:X.K=K):OpR X (binaryOp .Add) (zin K):=hK▸zhl
end L2
namespace G
open PySem PySem.Spec PyProof.Rows L2
theorem it2{p:Prop}[Decidable p]{A B A' B':Prop}(h:if p then A else B)(h1:p->A->A')(h2:¬ p->B->B'):if p then A' else B':=by
 by_cases z:p
 ·rw[if_pos z] at h ⊢;exact h1 z h
 ·rw[if_neg z] at h ⊢;exact h2 z h
theorem zee{κ:Type}[DecidableEq κ]{kvs:List (κ×V)}{k:κ}{v:V}(h:valV kvs k=none):putK kvs k v=kvs++[(k,v)]:=by
 unfold putK;rw[if_neg];intro z;rw[Rb,h] at z;cases z
inductive Ac(C:Addr)(vs:List V)(H:Hp)(Q:VK)(_:XK):Prop where
 | mk(p lr ld:Addr)(Rs:List (List Row))(b:Addr)(ts:List V)(rs:List Row)(_:vs=[.ref p,.ref b])(_:Uq C H p lr ld Rs)(_:H b=some (.lst ts))(_:b≠lr)(_:Z8 H ts (rs.map Ca))(_:2*(tot Rs+rs.length)<=100000)(_:Rs.length<=1000)(_:∀ H',Uq C H' p lr ld (Rs++[rs])->(∀ b o,H b=some o->b≠lr->b≠ld->H' b=some o)->Q .non H')
def zc0(ok:Addr->Prop)(H:Hp):Prop:=∀ x,H x=none->ok x
inductive Me(ca:CA)(vs:List V)(H:Hp)(Q:VK)(_:XK):Prop where
 | mk(q)(dx)(l1)(l2)(l3)(l4)(_:vs=[.ref q,.ref l1,.ref l2,.ref l3,.ref l4])(_:H q=some (.ins ca.sheet dx []))(_:∀ H',H'=upd H q (.ins ca.sheet dx (shF l1 l2 l3 l4))->Q .non H')
theorem P4:List.lookup ("listed":Str) (shF l1 l2 l3 l4)=some (.ref l1):=by unfold shF;simp only[zvw,beq_self_eq_true]
theorem zgi:List.lookup ("lists":Str) (shF l1 l2 l3 l4)=some (.ref l2):=by
 have e:(("lists":Str) == "listed")=false:=by decide +kernel
 unfold shF;simp only[zvw,e,beq_self_eq_true]
theorem Tn:List.lookup ("given":Str) (shF l1 l2 l3 l4)=some (.ref l3):=by
 have e:(("given":Str) == "listed")=false:=by decide +kernel
 have e2:(("given":Str) == "lists")=false:=by decide +kernel
 unfold shF;simp only[zvw,e,e2,beq_self_eq_true]
theorem Ci:List.lookup ("gaps":Str) (shF l1 l2 l3 l4)=some (.ref l4):=by
 have e:(("gaps":Str) == "listed")=false:=by decide +kernel
 have e2:(("gaps":Str) == "lists")=false:=by decide +kernel
 have e3:(("gaps":Str) == "given")=false:=by decide +kernel
 unfold shF;simp only[zvw,e,e2,e3,beq_self_eq_true]
theorem Vs{l1 l2 l3 l4:Addr}{m:Str}(h1:¬ m="listed")(h2:¬ m="lists")(h3:¬ m="given")(h4:¬ m="gaps"):List.lookup m (shF l1 l2 l3 l4)=none:=by
 have e1:(m == "listed")=false:=zvl.mpr h1;have e2:(m == "lists")=false:=zvl.mpr h2;have e3:(m == "given")=false:=zvl.mpr h3;have e4:(m == "gaps")=false:=zvl.mpr h4;unfold shF;simp only[zvw,e1,e2,e3,e4,List.lookup_nil]
theorem zma:putF "lists" y [(("listed":Str),x)]=([("listed",x),("lists",y)]:List (Str×V)):=by
 have n1:¬ (("listed":Str)="lists"):=by decide +kernel
 simp only[putF,if_neg n1]
theorem zmb:putF "given" z [(("listed":Str),x),("lists",y)]=([("listed",x),("lists",y),("given",z)]:List (Str×V)):=by
 have n1:¬ (("listed":Str)="given"):=by decide +kernel
 have n2:¬ (("lists":Str)="given"):=by decide +kernel
 simp only[putF,if_neg n1,if_neg n2]
theorem zmc:putF "gaps" w [(("listed":Str),x),("lists",y),("given",z)]=([("listed",x),("lists",y),("given",z),("gaps",w)]:List (Str×V)):=by
 have n1:¬ (("listed":Str)="gaps"):=by decide +kernel
 have n2:¬ (("lists":Str)="gaps"):=by decide +kernel
 have n3:¬ (("given":Str)="gaps"):=by decide +kernel
 simp only[putF,if_neg n1,if_neg n2,if_neg n3]
theorem O6(hq:H1 q=none)(hdx:H1 dx=none)(ne:dx≠q):Same H1 (upd (upd (upd H1 dx (.own q)) q (.ins C dx [])) q (.ins C dx (shF l1 l2 l3 l4)))/\upd (upd (upd H1 dx (.own q)) q (.ins C dx [])) q (.ins C dx (shF l1 l2 l3 l4)) q=some (.ins C dx (shF l1 l2 l3 l4)):=by
 refine⟨fun b o e=>?_,Ze⟩;rw[Zf (Zh e hq),Zf (Zh e hq),Zf (Zh e hdx)];exact e
inductive Ae(ca:CA)(vs:List V)(H:Hp)(Q:VK)(_:XK):Prop where
 | mk(ok:Addr->Prop)(q l2:Addr)(ls:List Addr)(rows:List (List Int))(s:Zy)(_:vs=[.ref q,.ref l2])(_:ShAt ca.sheet ok H q s)(_:H l2=some (.lst (ls.map V.ref)))(_:ILs H ls rows)(_:ok l2)(_:(∀ x∈ls,ok x))(_:zc0 ok H)(_:∀ q' H',ShAt ca.sheet ok H' q' { s with may:=rows }->Same H H'->H q'=none->Q (.ref q') H')
inductive Af(ca:CA)(vs:List V)(H:Hp)(Q:VK)(_:XK):Prop where
 | mk(ok:Addr->Prop)(q l2:Addr)(ls:List Addr)(rows:List (List Int))(nu:List Int)(s:Zy)(n:Int)(p:Nat)(_:vs=[.ref q,.int n,.ref l2])(_:ShAt ca.sheet ok H q s)(_:H l2=some (.lst (ls.map V.ref)))(_:ILs H ls rows)(_:ok l2)(_:(∀ x∈ls,ok x))(_:zc0 ok H)(_:Qk rows nu)(_:(∀ x∈s.gv,oneV x))(_:s.gv[p]?=some (.int n))(_:(∀ j:Nat,s.gv[j]?=some (.int n)->j=p))(_:Ym rows (s.gv.set p .non))(_:s.gaps.length<=1000)(_:∀ q' st e w H',ShAt ca.sheet ok H' q' ⟨s.ms,rows,Yh st (s.gv.set p .non),s.gaps++[(n,st)]⟩->Xc rows (s.gv.set p .non) p st e w->Same H H'->H q'=none->Q (.ref q') H')
inductive zc1(ca:CA)(vs:List V)(H:Hp)(Q:VK)(_:XK):Prop where
 | mk(ok:Addr->Prop)(l1 l2:Addr)(ts:List V)(ls:List Addr)(ms:List (Int×Int×Int))(rows:List (List Int))(nu:List Int)(_:vs=[.ref l1,.ref l2])(_:H l1=some (.lst ts))(_:Z8 H ts (ms.map pV))(_:H l2=some (.lst (ls.map V.ref)))(_:ILs H ls rows)(_:ok l1)(_:ok l2)(_:(∀ x∈ls,ok x))(_:zc0 ok H)(_:Qk rows nu)(_:∀ q gv H',ShAt ca.sheet ok H' q ⟨ms,rows,gv,[]⟩->Ym rows gv->Vp rows gv->Same H H'->H q=none->Q (.ref q) H')
inductive Pa(ca:CA)(vs:List V)(H:Hp)(Q:VK)(_:XK):Prop where
 | mk(ok:Addr->Prop)(q:Addr)(s:Zy)(_:vs=[.ref q])(_:ShAt ca.sheet ok H q s)(_:∀ l ts H',H' l=some (.lst ts)->Z8 H' ts (s.ms.map pV)->Same H H'->H l=none->Q (.ref l) H')
inductive Iq(ca:CA)(vs:List V)(H:Hp)(Q:VK)(_:XK):Prop where
 | mk(ok:Addr->Prop)(q:Addr)(s:Zy)(_:vs=[.ref q])(_:ShAt ca.sheet ok H q s)(_:∀ l H',H' l=some (.lst s.gv)->Same H H'->H l=none->Q (.ref l) H')
inductive P5(ca:CA)(vs:List V)(H:Hp)(Q:VK)(_:XK):Prop where
 | mk(ok:Addr->Prop)(q:Addr)(s:Zy)(n:Int)(_:vs=[.ref q,.int n])(_:ShAt ca.sheet ok H q s)(_:(∀ x∈s.gv,oneV x))(_:s.gv.length<=100)(_:∀ H',Same H H'->Q (oN (Xt s.gv n)) H')
inductive Ag(ca:CA)(vs:List V)(H:Hp)(Q:VK)(_:XK):Prop where
 | mk(ok:Addr->Prop)(q:Addr)(s:Zy)(_:vs=[.ref q])(_:ShAt ca.sheet ok H q s)(_:(∀ x∈s.gv,oneV x))(_:s.gv.length<=100)(_:∀ l H',H' l=some (.lst ((Xs s.gv).map fun i=>V.int (i:Nat)))->Same H H'->H l=none->Q (.ref l) H')
inductive zc2(ca:CA)(vs:List V)(H:Hp)(Q:VK)(_:XK):Prop where
 | mk(ok:Addr->Prop)(q:Addr)(s:Zy)(nu:List Int)(_:vs=[.ref q])(_:ShAt ca.sheet ok H q s)(_:Qk s.may nu)(_:Ym s.may s.gv)(_:E9 s.may s.gv)(_:∀ t lp lr ps rs H',H' t=some (.tup [.ref lp,.ref lr])->H' lp=some (.lst (Wt ps))->H' lr=some (.lst (rs.map V.int))->Lj s.may s.gv ps rs->Same H H'->H t=none->H lp=none->H lr=none->lp≠lr->Q (.ref t) H')
def Ah(m:Int×Int×Int)(x:V):Row:=⟨m.1,m.2.1,m.2.2,B6 (some x)⟩
def Ye(s:Zy):List Row:=List.zipWith Ah s.ms s.gv
inductive Ai(ca:CA)(vs:List V)(H:Hp)(Q:VK)(_:XK):Prop where
 | mk(ok:Addr->Prop)(q:Addr)(s:Zy)(_:vs=[.ref q])(_:ShAt ca.sheet ok H q s)(_:(∀ x∈s.gv,oneV x))(_:s.gv.length=s.ms.length)(_:s.ms.length<=1000)(_:∀ l ts H',H' l=some (.lst ts)->Z8 H' ts ((Ye s).map Ca)->Same H H'->H l=none->Q (.ref l) H')
inductive O7(ca:CA)(vs:List V)(H:Hp)(Q:VK)(_:XK):Prop where
 | mk(ok:Addr->Prop)(q:Addr)(s:Zy)(_:vs=[.ref q])(_:ShAt ca.sheet ok H q s)(_:s.gaps.length<=1000)(_:∀ l ts H',H' l=some (.lst ts)->X2 (fun x=>H x=none/\x≠l) H' ts s.gaps->Same H H'->H l=none->Q (.ref l) H')
theorem zbi{K:Frag}{a:Addr}{xs:List V}{xo:List Str}{js:List Nat}{g:TG}{tt:TT}{te:TE}{σ:L2.St}{H:Hp}{Q:VK}(Pv:Nat->List V->Hp->Prop)(h0:Pv 0 [] H)(hl:∀ i ys H,i<=xs.length->Pv i ys H->SqL K H a xs)(hz:xs.length<=sizeLine)(hy:∀ i ys H,Pv i ys H->ys.length<=i)
  (hs:∀ i x ys H,xs[i]?=some x->Pv i ys H->g x (cs0 xo js σ) H fun σ2 H1=>Rw xo js σ σ2/\tt σ2 H1 fun b H2=>if b=true then te σ2 H2 fun y H3=>Pv (i+1) (ys++[y]) H3 else Pv (i+1) ys H2)
  (hd:∀ ys H,Pv xs.length ys H->∀ p,H p=none->Q (.ref p) (upd H p (.lst ys))):Ce (Itl K a) xo js g tt te σ H Q:=by
 refine⟨fun i m ys H=>m=xs.length-i/\i<=xs.length/\Pv i ys H,⟨xs.length,by simp,zvo _,h0⟩,?_⟩;rintro i m ys H ⟨rfl,hi,p⟩;have q:=hl i ys H hi p;have ly:=hy i ys H p;by_cases hlt:i<xs.length
 ·refine .inr ⟨⟨xs,xs[i],q,by simp[hlt]⟩,by omega,Pv (i+1),fun ys' H' p'=>⟨xs.length-(i+1),by omega,rfl,hlt,p'⟩,fun x H' y=>?_⟩;obtain⟨e,y⟩:=y;subst e;exact hs i x ys _ (y xs q) p
 ·have e:i=xs.length:=by omega
  subst e;exact .inl ⟨⟨xs,q,zu7 _⟩,by omega,hd ys H p⟩
theorem zef{K:Frag}{a b:Addr}{xs zs:List V}{xo:List Str}{js:List Nat}{g:TG}{tt:TT}{te:TE}{σ:L2.St}{H:Hp}{Q:VK}(Pv:Nat->List V->Hp->Prop)(h0:Pv 0 [] H)(he:xs.length=zs.length)(hl:∀ i ys H,i<=xs.length->Pv i ys H->SqL K H a xs/\SqL K H b zs)(hz:xs.length<=sizeLine)(hy:∀ i ys H,Pv i ys H->ys.length<=i)
  (hs:∀ i x z t ys H,xs[i]?=some x->zs[i]?=some z->Pv i ys H->H t=none->g (.ref t) (cs0 xo js σ) (upd H t (.tup [x,z])) fun σ2 H1=>Rw xo js σ σ2/\tt σ2 H1 fun b H2=>if b=true then te σ2 H2 fun y H3=>Pv (i+1) (ys++[y]) H3 else Pv (i+1) ys H2)
  (hd:∀ ys H,Pv xs.length ys H->∀ p,H p=none->Q (.ref p) (upd H p (.lst ys))):Ce (Itz K a b) xo js g tt te σ H Q:=by
 refine⟨fun i m ys H=>m=xs.length-i/\i<=xs.length/\Pv i ys H,⟨xs.length,by simp,zvo _,h0⟩,?_⟩;rintro i m ys H ⟨rfl,hi,p⟩;obtain⟨q1,q2⟩:=hl i ys H hi p;have ly:=hy i ys H p;by_cases hlt:i<xs.length
 ·refine .inr ⟨⟨xs,zs,xs[i],zs[i]'⋯,q1,q2,by simp[hlt],by rw[zuy ⋯]⟩,by omega,Pv (i+1),fun ys' H' p'=>⟨xs.length-(i+1),by omega,rfl,hlt,p'⟩,fun x H' y=>?_⟩;obtain⟨t,y,z,h1,h2,h3,rfl,rfl⟩:=y;exact hs i y z t ys _ (h2 xs q1) (h3 zs q2) p h1
 ·have e:i=xs.length:=by omega
  subst e;exact .inl ⟨⟨xs,zs,q1,q2,.inl (zu7 _)⟩,by omega,hd ys H p⟩
theorem zj6(m:Int×Int×Int)(h:oneV x):Ca (Ah m x)=[V.int m.1,V.int m.2.1,V.int m.2.2,x]:=by
 rcases h with rfl|⟨i,rfl⟩<;>rfl
theorem zeg(hm:s.ms[i]?=some m)(hx:s.gv[i]?=some x):(Ye s).take (i+1)=(Ye s).take i++[Ah m x]:=by
 have:(Ye s)[i]?=some (Ah m x):=by
  unfold Ye;rw[List.getElem?_zipWith,hm,hx]
 rw[zwg,this];rfl
theorem Aj(h:s.gv.length=s.ms.length):(Ye s).length=s.ms.length:=by
 unfold Ye;rw[List.length_zipWith,h,Nat.min_self]
section
variable{ca:CA}{H H':Hp}{A:SAd}{S:Sea}{l:Nat}{r:Nat}{v:V}
theorem Ak(A:SAd)(l r:Nat)(v:V):List.lookup ("length":Str) (seaF A l r v)=some (.int l)/\List.lookup ("rest":Str) (seaF A l r v)=some (.int r)/\List.lookup ("roster":Str) (seaF A l r v)=some (.ref A.pr)/\List.lookup ("ledger":Str) (seaF A l r v)=some (.ref A.pl)/\List.lookup ("absent":Str) (seaF A l r v)=some (.ref A.da)/\List.lookup ("sheets":Str) (seaF A l r v)=some (.ref A.ls)/\List.lookup ("sheet":Str) (seaF A l r v)=some v/\List.lookup ("standing":Str) (seaF A l r v)=some (.ref A.lt):=by
 have d:∀ a b:Str,decide (a=b)=false->(a == b)=false:=fun a b h=>zvl.mpr (of_decide_eq_false h);have e1:=d "rest" "length" ⋯;have e2:=d "roster" "length" ⋯;have e3:=d "roster" "rest" ⋯;have f1:=d "ledger" "length" ⋯;have f2:=d "ledger" "rest" ⋯;have f3:=d "ledger" "roster" ⋯;have g1:=d "absent" "length" ⋯;have g2:=d "absent" "rest" ⋯;have g3:=d "absent" "roster" ⋯;have g4:=d "absent" "ledger" ⋯;have h1:=d "sheets" "length" ⋯;have h2:=d "sheets" "rest" ⋯;have h3:=d "sheets" "roster" ⋯;have h4:=d "sheets" "ledger" ⋯;have h5:=d "sheets" "absent" ⋯;have i1:=d "sheet" "length" ⋯;have i2:=d "sheet" "rest" ⋯;have i3:=d "sheet" "roster" ⋯;have i4:=d "sheet" "ledger" ⋯;have i5:=d "sheet" "absent" ⋯;have i6:=d "sheet" "sheets" ⋯;have j1:=d "standing" "length" ⋯;have j2:=d "standing" "rest" ⋯;have j3:=d "standing" "roster" ⋯;have j4:=d "standing" "ledger" ⋯;have j5:=d "standing" "absent" ⋯;have j6:=d "standing" "sheets" ⋯;have j7:=d "standing" "sheet" ⋯;unfold seaF;refine⟨?_,?_,?_,?_,?_,?_,?_,?_⟩<;>simp only[zvw,beq_self_eq_true,e1,e2,e3,f1,f2,f3,g1,g2,g3,g4,h1,h2,h3,h4,h5,i1,i2,i3,i4,i5,i6,j1,j2,j3,j4,j5,j6,j7]
theorem De:List.lookup ("length":Str) (seaF A l r v)=some (.int l):=(Ak A l r v).1
theorem zhy:List.lookup ("rest":Str) (seaF A l r v)=some (.int r):=(Ak A l r v).2.1
theorem Vl:List.lookup ("roster":Str) (seaF A l r v)=some (.ref A.pr):=(Ak A l r v).2.2.1
theorem Tc:List.lookup ("ledger":Str) (seaF A l r v)=some (.ref A.pl):=(Ak A l r v).2.2.2.1
theorem P6:List.lookup ("absent":Str) (seaF A l r v)=some (.ref A.da):=(Ak A l r v).2.2.2.2.1
theorem Df:List.lookup ("sheets":Str) (seaF A l r v)=some (.ref A.ls):=(Ak A l r v).2.2.2.2.2.1
theorem Wu:List.lookup ("sheet":Str) (seaF A l r v)=some v:=(Ak A l r v).2.2.2.2.2.2.1
theorem Sh:List.lookup ("standing":Str) (seaF A l r v)=some (.ref A.lt):=(Ak A l r v).2.2.2.2.2.2.2
theorem Z6(h:(["length","rest","roster","ledger","absent","sheets","sheet","standing"]:List Str).all (fun x=>!decide (m=x))=true):List.lookup m (seaF A l r v)=none:=by
 simp only[List.all_cons,List.all_nil,Bool.and_true,zwd,Bool.not_eq_true',decide_eq_false_iff_not] at h;obtain⟨h1,h2,h3,h4,h5,h6,h7,h8⟩:=h;have e:∀ x:Str,¬ m=x->(m == x)=false:=fun x z=>zvl.mpr z;unfold seaF;simp only[zvw,e _ h1,e _ h2,e _ h3,e _ h4,e _ h5,e _ h6,e _ h7,e _ h8,List.lookup_nil]
theorem Zx.same(h:Zx ca H A S)(e:Same H H'):Zx ca H' A S:=by
 obtain⟨⟨dx,v,a1,a2⟩,b,c,⟨kvs,d1,d2⟩,⟨vs,f1,f2⟩,⟨us,g1,g2⟩,nd,np⟩:=h;have k:∀ x o,x∉A.fp->H x=some o->H' x=some o:=fun _ _ _ q=>e _ _ q;have kt:∀ t xs,H t=some (.tup xs)->H' t=some (.tup xs):=fun _ _ q=>e _ _ q;exact⟨⟨dx,v,e _ _ a1,a2.keep k kt⟩,b.same e,c.same e,⟨kvs,e _ _ d1,d2⟩,⟨vs,e _ _ f1,f2.keep k kt⟩,⟨us,e _ _ g1,g2.keep k kt⟩,nd,np⟩
theorem FrS.of(A:SAd)(e:Same H H'):FrS A H H':=fun b o q _=>e b o q
theorem FrS.trans(h1:FrS A H H')(h2:FrS A H' H2):FrS A H H2:=fun b o e n=>h2 b o (h1 b o e n) n
theorem Zx.there(h:Zx ca H A S):∀ x∈A.fp,∃ o,H x=some o:=by
 obtain⟨⟨dx,v,a1,_⟩,⟨⟨_,_,_,b2,_⟩,_⟩,⟨_,⟨rs,c2,_⟩,⟨ks,c3,_⟩⟩,⟨kvs,d1,_⟩,⟨vs,f1,_⟩,⟨us,g1,_⟩,nd,np⟩:=h;intro x hx;simp only[SAd.fp,zu4,zv1,or_false] at hx;rcases hx with rfl|rfl|rfl|rfl|rfl|rfl|rfl
 ·exact⟨_,a1⟩
 ·exact⟨_,b2⟩
 ·exact⟨_,c2⟩
 ·exact⟨_,c3⟩
 ·exact⟨_,d1⟩
 ·exact⟨_,f1⟩
 ·exact⟨_,g1⟩
theorem Zx.newOk(h:Zx ca H A S):zc0 (·∉A.fp) H:=fun x hx hm=>by
 obtain⟨o,e⟩:=h.there x hm;rw[e] at hx;cases hx
theorem Zx.tups(h:Zx ca H A S)(f:FrS A H H'):∀ t xs,H t=some (.tup xs)->H' t=some (.tup xs):=fun t xs e=>f t _ e fun hm=>by
 obtain⟨⟨dx,v,a1,_⟩,⟨⟨_,_,_,b2,_⟩,_⟩,⟨_,⟨rs,c2,_⟩,⟨ks,c3,_⟩⟩,⟨kvs,d1,_⟩,⟨vs,f1,_⟩,⟨us,g1,_⟩,nd,np⟩:=h;simp only[SAd.fp,zu4,zv1,or_false] at hm;rcases hm with rfl|rfl|rfl|rfl|rfl|rfl|rfl
 ·rw[a1] at e;cases e
 ·rw[b2] at e;cases e
 ·rw[c2] at e;cases e
 ·rw[c3] at e;cases e
 ·rw[d1] at e;cases e
 ·rw[f1] at e;cases e
 ·rw[g1] at e;cases e
end
def atV(S:Sea):Int:=(S.led.length:Int)+1
inductive Us(ca:CA)(vs:List V)(H:Hp)(Q:VK)(_:XK):Prop where
 | mk(A:SAd)(S:Sea)(_:vs=[.ref A.p])(_:Zx ca H A S)(_:Q (.int (atV S)) H)
inductive Ll(ca:CA)(vs:List V)(H:Hp)(Q:VK)(E:XK):Prop where
 | mk(A:SAd)(S:Sea)(_:vs=[.ref A.p])(_:Zx ca H A S)(_:if S.len<=S.led.length then E (.ref ca.seaOver) none H else Q .non H)
inductive Ln(ca:CA)(vs:List V)(H:Hp)(Q:VK)(E:XK):Prop where
 | mk(A:SAd)(S:Sea)(_:vs=[.ref A.p])(_:Zx ca H A S)(_:if S.len<=S.led.length then E (.ref ca.seaOver) none H else if S.cur.isSome then E (.ref ca.drawn) none H else Q .non H)
inductive Cj(ca:CA)(vs:List V)(H:Hp)(Q:VK)(E:XK):Prop where
 | mk(A:SAd)(S:Sea)(at_:Int)(_:vs=[.ref A.p,.int at_])(_:Zx ca H A S)(_:Yi at_)(_:if at_<1\/(S.len:Int)<at_ then E (.ref ca.noRound) none H else Q .non H)
inductive Ck(ca:CA)(vs:List V)(H:Hp)(Q:VK)(E:XK):Prop where
 | mk(A:SAd)(S:Sea)(_:vs=[.ref A.p])(_:Zx ca H A S)(_:if 100<=S.std.length then E (.ref ca.manyD) none H else Q .non H)
inductive Cm(ca:CA)(vs:List V)(H:Hp)(Q:VK)(_:XK):Prop where
 | mk(A:SAd)(S:Sea)(w:Str)(n at_:Int)(_:vs=[.ref A.p,.str w,.int n,.int at_])(_:Zx ca H A S)(_:S.std.length<=1000)(_:∀ H',Zx ca H' A { S with std:=S.std++[((w,n,at_),S.cur)] }->FrS A H H'->Q .non H')
inductive O8(ca:CA)(vs:List V)(H:Hp)(Q:VK)(E:XK):Prop where
 | mk(A:SAd)(S:Sea)(_:vs=[.ref A.p])(_:Zx ca H A S)(_:(S.cur=none->E (.ref ca.notDrawn) none H))(_:∀ s q,S.cur=some s->ShAt ca.sheet (·∉A.fp) H q s->Q (.ref q) H)
def Y4(S:Sea)(at_:Int):Option Zy:=if at_<=S.led.length then S.old[(at_-1).toNat]? else if (S.led.length:Int)+1<at_ then none else S.cur
inductive Uc(ca:CA)(vs:List V)(H:Hp)(Q:VK)(E:XK):Prop where
 | mk(A:SAd)(S:Sea)(at_:Int)(_:vs=[.ref A.p,.int at_])(_:Zx ca H A S)(_:Yi at_)(_:S.old.length=S.led.length)(_:if at_<1\/(S.len:Int)<at_ then E (.ref ca.noRound) none H else (Y4 S at_=none->E (.ref ca.notDrawn) none H)/\∀ s q,Y4 S at_=some s->ShAt ca.sheet (·∉A.fp) H q s->Q (.ref q) H)
def pIn(out:List (Int×Int))(at_:Int)(m:P3):Bool:=decide ((at_,m.1)∈out)
def Fj(S:Sea)(m:P3):List Int:=(S.ppl.filter fun x=>(whyS S.led x.1 x.2.1 x.2.2 m.1 m.2.1 m.2.2 (pIn S.out (atV S) x) S.rest).isEmpty).map (·.1)
def mayS(S:Sea)(ms:List P3):List (List Int):=ms.map (Fj S)
inductive O9(ca:CA)(vs:List V)(H:Hp)(Q:VK)(_:XK):Prop where
 | mk(A:SAd)(S:Sea)(l:Addr)(ts:List V)(ms:List P3)(_:vs=[.ref A.p,.ref l])(_:Zx ca H A S)(_:H l=some (.lst ts))(_:Z8 H ts (ms.map pV))(_:ms.length<=100)(_:S.ppl.length<=100)(_:(∀ x∈S.ppl,Yi x.1))(_:∀ l' ls H',H' l'=some (.lst (ls.map V.ref))->ILs H' ls (mayS S ms)->Same H H'->H l'=none->(∀ x∈ls,H x=none)->Q (.ref l') H')
def badM(m:P3):Prop:=m.1<1\/99<m.1\/m.2.1<1\/99<m.2.1\/m.2.2<1\/9<m.2.2
def Rz(Ms:List P3):Prop:=∃ m∈Ms,badM m
def R0(Ms:List P3):Prop:=∃ m∈Ms,m.1=m.2.1
def Ir(m:P3):Prop:=Yi m.1/\Yi m.2.1/\Yi m.2.2
theorem Dg{p:P3->Prop}{Ms:List P3}{i:Nat}{m:P3}(e:Ms[i]?=some m)(h:∀ x∈Ms.take i,¬ p x)(hm:¬ p m):∀ x∈Ms.take (i+1),¬ p x:=fun x hx=>by
 rw[zwg,e] at hx;rcases zu8.mp hx with q|q
 ·exact h x q
 ·simp at q;subst q;exact hm
inductive Al(K:Frag)(ca:CA)(vs:List V)(H:Hp)(Q:VK)(E:XK):Prop where
 | mk(b)(ts)(_:vs=[.ref b])(_:SqL K H b ts)(_:ts.length<=1000)(_:(20<ts.length->E (.ref ca.manyM) none H))(_:(ts.length<=20->Q .non H))
inductive Dh(K:Frag)(ca:CA)(vs:List V)(H:Hp)(Q:VK)(E:XK):Prop where
 | mk(b:Addr)(ts:List V)(Ms:List P3)(_:vs=[.ref b])(_:SqL K H b ts)(_:Z8 H ts (Ms.map pV))(_:(∀ m∈Ms,Ir m))(_:(Rz Ms->E (.ref ca.out) none H))(_:(¬ Rz Ms->Q .non H))
inductive Am(K:Frag)(ca:CA)(vs:List V)(H:Hp)(Q:VK)(E:XK):Prop where
 | mk(b:Addr)(ts:List V)(Ms:List P3)(_:vs=[.ref b])(_:SqL K H b ts)(_:Z8 H ts (Ms.map pV))(_:(∀ m∈Ms,Ir m))(_:(R0 Ms->E (.ref ca.same) none H))(_:(¬ R0 Ms->Q .non H))
inductive Iu(K:Frag)(ca:CA)(vs:List V)(H:Hp)(Q:VK)(E:XK):Prop where
 | mk(b:Addr)(ts:List V)(Ms:List P3)(_:vs=[.ref b])(_:SqL K H b ts)(_:Z8 H ts (Ms.map pV))(_:(∀ m∈Ms,Ir m))(_:Ms.length<=1000)(_:(20<Ms.length->E (.ref ca.manyM) none H))(_:(Ms.length<=20->Rz Ms->E (.ref ca.out) none H))(_:(Ms.length<=20->¬ Rz Ms->R0 Ms->E (.ref ca.same) none H))(_:(Ms.length<=20->¬ Rz Ms->¬ R0 Ms->∀ l,H l=none->Q (.ref l) (upd H l (.lst ts))))
theorem Q9.isSome(h:Q9 kvs out)(i n:Int):(valV kvs [inl i,inl n]).isSome=decide ((i,n)∈out):=h.1 i n
theorem Iv{A:SAd}(nd:A.fp.Nodup):(A.p≠A.dr/\A.p≠A.lr/\A.p≠A.ld/\A.p≠A.da/\A.p≠A.ls/\A.p≠A.lt)/\(A.dr≠A.lr/\A.dr≠A.ld/\A.dr≠A.da/\A.dr≠A.ls/\A.dr≠A.lt)/\(A.lr≠A.ld/\A.lr≠A.da/\A.lr≠A.ls/\A.lr≠A.lt)/\(A.ld≠A.da/\A.ld≠A.ls/\A.ld≠A.lt)/\(A.da≠A.ls/\A.da≠A.lt)/\A.ls≠A.lt:=by
 simp only[SAd.fp,zvm,zu4,zv1,or_false,not_or] at nd;obtain⟨⟨n1,n2,n3,n4,n5,n6⟩,⟨n7,n8,n9,n10,n11⟩,⟨n12,n13,n14,n15⟩,⟨n16,n17,n18⟩,⟨n19,n20⟩,n21,_⟩:=nd;exact⟨⟨n1,n2,n3,n4,n5,n6⟩,⟨n7,n8,n9,n10,n11⟩,⟨n12,n13,n14,n15⟩,⟨n16,n17,n18⟩,⟨n19,n20⟩,n21⟩
theorem zhz{R:RL}(nd:(R.map (·.1)).Nodup){x y:P3}(hx:x∈R)(hy:y∈R)(h:x.1=y.1):x=y:=by
 induction R with
 | nil=>cases hx
 | cons z R ih =>
   rw[zu9,zvm] at nd;rcases zu4.mp hx with e|e<;>rcases zu4.mp hy with e'|e'
   ·rw[e,e']
   ·exact absurd (zu6.mpr ⟨y,e',by rw[<- h,e]⟩) nd.1
   ·exact absurd (zu6.mpr ⟨x,e,by rw[h,e']⟩) nd.1
   ·exact ih nd.2 e e'
def outV(S:Sea):List V:=(S.ppl.filter (pIn S.out (atV S))).map fun x=>V.int x.1
theorem zgj(S:Sea):∀ x∈outV S,oneV x:=fun x hx=>by
 unfold outV at hx;obtain⟨m,_,rfl⟩:=zu6.mp hx;exact .inr ⟨_,rfl⟩
theorem zh0(hx:x∈S.ppl):inV (.int x.1) (outV S)=pIn S.out (atV S) x:=by
 unfold outV;rw[show ((S.ppl.filter (pIn S.out (atV S))).map fun x=>V.int x.1)=((S.ppl.filter (pIn S.out (atV S))).map (·.1)).map V.int by rw[zwe];rfl,zcs];unfold pIn;by_cases h:(atV S,x.1)∈S.out
 ·rw[zu3 h,zu3];exact zu6.mpr ⟨x,zvx.mpr ⟨hx,zu3 h⟩,rfl⟩
 ·rw[zva h,zva];intro z;obtain⟨y,h1,h2⟩:=zu6.mp z;have:=of_decide_eq_true (zvx.mp h1).2;rw[h2] at this;exact h this
theorem zj7(S:Sea)(m:P3):((S.ppl.filter (Q8 S.led m.1 m.2.1 m.2.2 (outV S) S.rest)).map fun x=>V.int x.1)=(Fj S m).map V.int:=by
 unfold Fj;rw[zwe];have:S.ppl.filter (Q8 S.led m.1 m.2.1 m.2.2 (outV S) S.rest)=S.ppl.filter fun x=>(whyS S.led x.1 x.2.1 x.2.2 m.1 m.2.1 m.2.2 (pIn S.out (atV S) x) S.rest).isEmpty:=by
  refine List.filter_congr fun x hx=>?_;unfold Q8;rw[zh0 hx]
 rw[this];rfl
theorem atI_last:atI (xs++[x]) (-1)=some x:=by
 have hl:(xs++[x]).length=xs.length+1:=by rw[zuz];rfl
 unfold atI ixN;rw[if_neg ⋯,if_pos ⋯];show (xs++[x])[((-1:Int)+(xs++[x]).length).toNat]?=_;rw[show ((-1:Int)+(xs++[x]).length).toNat=xs.length by omega,zvz (zu7 _),Nat.sub_self];rfl
theorem X2.unsnoc{ok:Addr->Prop}{H:Hp}{n:Int}{st:List (Nat×Option Int)}:∀ {vs:List V} {G:List (Int×List (Nat×Option Int))},X2 ok H vs (G++[(n,st)])->∃ vs' t l us,vs=vs'++[.ref t]/\H t=some (.tup [.int n,.ref l])/\H l=some (.lst us)/\Z8 H us (st.map Wq)/\ok l:=fun {vs G}=>by
 induction G generalizing vs with
 | nil=>
  intro q;have q:X2 ok H vs [(n,st)]:=q;cases q with
  | cons h hl tl o r=>cases r;exact⟨[],_,_,_,rfl,h,hl,tl,o⟩
 | cons x G ih=>
  intro q;have q:X2 ok H vs (x :: (G++[(n,st)])):=q;cases q with
  | cons h hl tl o r=>obtain⟨vs',t,l,us,e,a⟩:=ih r;exact⟨_ :: vs',t,l,us,by rw[e];rfl,a⟩
def Qm(S:Sea):Prop:=(∀ x∈S.ppl,¬ badI x.1 x.2.1 x.2.2)/\S.ppl.length<=30
theorem Qm.small(h:Qm S):∀ x∈S.ppl,Yi x.1:=fun x hx=>by
 have:=h.1 x hx;unfold badI at this;exact Yk ⋯ ⋯
theorem Qm.may(h:Qm S)(nd:(S.ppl.map (·.1)).Nodup)(hm:ms.length<=20):Qk (mayS S ms) (S.ppl.map (·.1)):=by
 refine⟨by unfold mayS;rw[zuw];exact hm,by rw[zuw];exact h.2,nd,fun n hn=>?_,fun r hr=>?_⟩
 ·obtain⟨x,hx,rfl⟩:=zu6.mp hn;have:=h.1 x hx;unfold badI at this;omega
 ·unfold mayS at hr;obtain⟨m,_,rfl⟩:=zu6.mp hr;unfold Fj;exact⟨nd.sublist (List.Sublist.map _ List.filter_sublist),fun n hn=>by
   obtain⟨x,hx,rfl⟩:=zu6.mp hn;exact zu6.mpr ⟨x,(zvx.mp hx).1,rfl⟩⟩
section
variable{ca:CA}{H H':Hp}{A:SAd}{S:Sea}
theorem Ku(h:Zx ca H A S)(hx:x∈A.fp):A.pr≠x/\A.pl≠x:=⟨fun z=>h.np.1 (by rw[z];exact hx),fun z=>h.np.2 (by rw[z];exact hx)⟩
theorem FrS.one(hx:x∈A.fp)(k:∀ b o,H b=some o->b≠x->H' b=some o):FrS A H H':=fun b o e hb=>k b o e fun z=>hb (by rw[z];exact hx)
theorem Zx.setRos(h:Zx ca H A S)(r:Xj ca.roster H' A.pr A.dr R)(k:∀ b o,H b=some o->b≠A.dr->H' b=some o):Zx ca H' A { S with ppl:=R }/\FrS A H H':=by
 have f:FrS A H H':=.one (by simp[SAd.fp]) k;have kt:=h.tups f;have ko:∀ x o,x∉A.fp->H x=some o->H' x=some o:=fun x o hx e=>f x o e hx;obtain⟨⟨n1,n2,n3,n4,n5,n6⟩,⟨n7,n8,n9,n10,n11⟩,⟨n12,n13,n14,n15⟩,⟨n16,n17,n18⟩,⟨n19,n20⟩,n21⟩:=Iv h.nd;have np:=Ku h (show A.dr∈A.fp by simp[SAd.fp]);obtain⟨⟨dx,v,a1,a2⟩,b,c,⟨kvs,d1,d2⟩,⟨vs,f1,f2⟩,⟨us,g1,g2⟩,nd,np'⟩:=h;exact⟨⟨⟨dx,v,k _ _ a1 n1,a2.keep ko kt⟩,r,c.keep (fun o e=>k _ o e np.2) (fun o e=>k _ o e (Ne.symm n7)) (fun o e=>k _ o e (Ne.symm n8)) kt,⟨kvs,k _ _ d1 (Ne.symm n9),d2⟩,⟨vs,k _ _ f1 (Ne.symm n10),f2.keep ko kt⟩,⟨us,k _ _ g1 (Ne.symm n11),g2.keep ko kt⟩,nd,np'⟩,f⟩
theorem Zx.setOut{out:List (Int×Int)}{kvs:List (List Key×V)}(h:Zx ca H A S)(hd:H' A.da=some (.dT kvs))(ok:Q9 kvs out)(k:∀ b o,H b=some o->b≠A.da->H' b=some o):Zx ca H' A { S with out:=out }/\FrS A H H':=by
 have f:FrS A H H':=.one (by simp[SAd.fp]) k;have kt:=h.tups f;have ko:∀ x o,x∉A.fp->H x=some o->H' x=some o:=fun x o hx e=>f x o e hx;obtain⟨⟨n1,n2,n3,n4,n5,n6⟩,⟨n7,n8,n9,n10,n11⟩,⟨n12,n13,n14,n15⟩,⟨n16,n17,n18⟩,⟨n19,n20⟩,n21⟩:=Iv h.nd;have np:=Ku h (show A.da∈A.fp by simp[SAd.fp]);obtain⟨⟨dx,v,a1,a2⟩,b,c,⟨kvs',d1,d2⟩,⟨vs,f1,f2⟩,⟨us,g1,g2⟩,nd,np'⟩:=h;exact⟨⟨⟨dx,v,k _ _ a1 n4,a2.keep ko kt⟩,b.keep (fun o e=>k _ o e np.1) (fun o e=>k _ o e n9) kt,c.keep (fun o e=>k _ o e np.2) (fun o e=>k _ o e n13) (fun o e=>k _ o e n16) kt,⟨kvs,hd,ok⟩,⟨vs,k _ _ f1 (Ne.symm n19),f2.keep ko kt⟩,⟨us,k _ _ g1 (Ne.symm n20),g2.keep ko kt⟩,nd,np'⟩,f⟩
theorem Zx.setCur(h:Zx ca H A S)(hp:∃ dx,H' A.p=some (.ins ca.season dx (seaF A S.len S.rest v)))(sh:ShO ca.sheet (·∉A.fp) H' v cur)(k:∀ b o,H b=some o->b≠A.p->H' b=some o):Zx ca H' A { S with cur:=cur }/\FrS A H H':=by
 have f:FrS A H H':=.one (by simp[SAd.fp]) k;have kt:=h.tups f;have ko:∀ x o,x∉A.fp->H x=some o->H' x=some o:=fun x o hx e=>f x o e hx;obtain⟨⟨n1,n2,n3,n4,n5,n6⟩,⟨n7,n8,n9,n10,n11⟩,⟨n12,n13,n14,n15⟩,⟨n16,n17,n18⟩,⟨n19,n20⟩,n21⟩:=Iv h.nd;have np:=Ku h (show A.p∈A.fp by simp[SAd.fp]);obtain⟨⟨dx,v',a1,a2⟩,b,c,⟨kvs',d1,d2⟩,⟨vs,f1,f2⟩,⟨us,g1,g2⟩,nd,np'⟩:=h;obtain⟨dx',hp⟩:=hp;exact⟨⟨⟨dx',v,hp,sh⟩,b.keep (fun o e=>k _ o e np.1) (fun o e=>k _ o e (Ne.symm n1)) kt,c.keep (fun o e=>k _ o e np.2) (fun o e=>k _ o e (Ne.symm n2)) (fun o e=>k _ o e (Ne.symm n3)) kt,⟨kvs',k _ _ d1 (Ne.symm n4),d2⟩,⟨vs,k _ _ f1 (Ne.symm n5),f2.keep ko kt⟩,⟨us,k _ _ g1 (Ne.symm n6),g2.keep ko kt⟩,nd,np'⟩,f⟩
theorem Zx.setStd{std:List (Rh×Option Zy)}{us:List V}(h:Zx ca H A S)(hd:H' A.lt=some (.lst us))(ok:Ux ca.sheet (·∉A.fp) H' us std)(k:∀ b o,H b=some o->b≠A.lt->H' b=some o):Zx ca H' A { S with std:=std }/\FrS A H H':=by
 have f:FrS A H H':=.one (by simp[SAd.fp]) k;have kt:=h.tups f;have ko:∀ x o,x∉A.fp->H x=some o->H' x=some o:=fun x o hx e=>f x o e hx;obtain⟨⟨n1,n2,n3,n4,n5,n6⟩,⟨n7,n8,n9,n10,n11⟩,⟨n12,n13,n14,n15⟩,⟨n16,n17,n18⟩,⟨n19,n20⟩,n21⟩:=Iv h.nd;have np:=Ku h (show A.lt∈A.fp by simp[SAd.fp]);obtain⟨⟨dx,v,a1,a2⟩,b,c,⟨kvs,d1,d2⟩,⟨vs,f1,f2⟩,⟨us',g1,g2⟩,nd,np'⟩:=h;exact⟨⟨⟨dx,v,k _ _ a1 n6,a2.keep ko kt⟩,b.keep (fun o e=>k _ o e np.1) (fun o e=>k _ o e n11) kt,c.keep (fun o e=>k _ o e np.2) (fun o e=>k _ o e n15) (fun o e=>k _ o e n18) kt,⟨kvs,k _ _ d1 n20,d2⟩,⟨vs,k _ _ f1 n21,f2.keep ko kt⟩,⟨us,hd,ok⟩,nd,np'⟩,f⟩
theorem Zx.setOld{old:List Zy}{us:List V}(h:Zx ca H A S)(hd:H' A.ls=some (.lst us))(ok:ShL ca.sheet (·∉A.fp) H' us old)(k:∀ b o,H b=some o->b≠A.ls->H' b=some o):Zx ca H' A { S with old:=old }/\FrS A H H':=by
 have f:FrS A H H':=.one (by simp[SAd.fp]) k;have kt:=h.tups f;have ko:∀ x o,x∉A.fp->H x=some o->H' x=some o:=fun x o hx e=>f x o e hx;obtain⟨⟨n1,n2,n3,n4,n5,n6⟩,⟨n7,n8,n9,n10,n11⟩,⟨n12,n13,n14,n15⟩,⟨n16,n17,n18⟩,⟨n19,n20⟩,n21⟩:=Iv h.nd;have np:=Ku h (show A.ls∈A.fp by simp[SAd.fp]);obtain⟨⟨dx,v,a1,a2⟩,b,c,⟨kvs,d1,d2⟩,⟨vs,f1,f2⟩,⟨us',g1,g2⟩,nd,np'⟩:=h;exact⟨⟨⟨dx,v,k _ _ a1 n5,a2.keep ko kt⟩,b.keep (fun o e=>k _ o e np.1) (fun o e=>k _ o e n10) kt,c.keep (fun o e=>k _ o e np.2) (fun o e=>k _ o e n14) (fun o e=>k _ o e n17) kt,⟨kvs,k _ _ d1 n19,d2⟩,⟨us,hd,ok⟩,⟨us',k _ _ g1 (Ne.symm n21),g2.keep ko kt⟩,nd,np'⟩,f⟩
theorem Zx.setLed(h:Zx ca H A S)(l:Uq ca.ledger H' A.pl A.lr A.ld Rs)(k:∀ b o,H b=some o->b≠A.lr->b≠A.ld->H' b=some o):Zx ca H' A { S with led:=Rs }/\FrS A H H':=by
 have f:FrS A H H':=fun b o e hb=>k b o e (fun z=>hb (by rw[z];simp[SAd.fp])) (fun z=>hb (by rw[z];simp[SAd.fp]));have kt:=h.tups f;have ko:∀ x o,x∉A.fp->H x=some o->H' x=some o:=fun x o hx e=>f x o e hx;obtain⟨⟨n1,n2,n3,n4,n5,n6⟩,⟨n7,n8,n9,n10,n11⟩,⟨n12,n13,n14,n15⟩,⟨n16,n17,n18⟩,⟨n19,n20⟩,n21⟩:=Iv h.nd;have np:=Ku h (show A.lr∈A.fp by simp[SAd.fp]);have np2:=Ku h (show A.ld∈A.fp by simp[SAd.fp]);obtain⟨⟨dx,v,a1,a2⟩,b,c,⟨kvs,d1,d2⟩,⟨vs,f1,f2⟩,⟨us',g1,g2⟩,nd,np'⟩:=h;exact⟨⟨⟨dx,v,k _ _ a1 n2 n3,a2.keep ko kt⟩,b.keep (fun o e=>k _ o e np.1 np2.1) (fun o e=>k _ o e n7 n8) kt,l,⟨kvs,k _ _ d1 (Ne.symm n13) (Ne.symm n16),d2⟩,⟨vs,k _ _ f1 (Ne.symm n14) (Ne.symm n17),f2.keep ko kt⟩,⟨us',k _ _ g1 (Ne.symm n15) (Ne.symm n18),g2.keep ko kt⟩,nd,np'⟩,f⟩
theorem Na:putF "sheet" v' (seaF A l r v)=seaF A l r v':=by
 have n1:¬ (("length":Str)="sheet"):=by decide +kernel
 have n2:¬ (("rest":Str)="sheet"):=by decide +kernel
 have n3:¬ (("roster":Str)="sheet"):=by decide +kernel
 have n4:¬ (("ledger":Str)="sheet"):=by decide +kernel
 have n5:¬ (("absent":Str)="sheet"):=by decide +kernel
 have n6:¬ (("sheets":Str)="sheet"):=by decide +kernel
 simp only[putF,seaF,if_neg n1,if_neg n2,if_neg n3,if_neg n4,if_neg n5,if_neg n6,if_true]
theorem FrS.free(f:FrS A H H')(h:Zx ca H' A S')(hl:H' l=none):H l=none:=by
 cases e:H l with
 | none=>rfl
 | some o =>
   by_cases hm:l∈A.fp
   ·obtain⟨o',e'⟩:=h.there l hm;rw[e'] at hl;cases hl
   ·rw[f l o e hm] at hl;cases hl
theorem ShAt.ins(h:ShAt ca.sheet (·∉A.fp) H q s):∃ dx l1 l2 l3 l4,H q=some (.ins ca.sheet dx (shF l1 l2 l3 l4)):=by
 obtain⟨dx,l1,l2,l3,l4,_,_,_,a1,_⟩:=h;exact⟨dx,l1,l2,l3,l4,a1⟩
theorem Zx.newSheet(h:Zx ca H A S)(hp:H A.p=some (.ins ca.season dx (seaF A S.len S.rest v)))(sh:ShAt ca.sheet (·∉A.fp) H q s) :
  Zx ca (upd H A.p (.ins ca.season dx (putF "sheet" (.ref q) (seaF A S.len S.rest v)))) A { S with cur:=some s }/\FrS A H (upd H A.p (.ins ca.season dx (putF "sheet" (.ref q) (seaF A S.len S.rest v))))/\ShAt ca.sheet (·∉A.fp) (upd H A.p (.ins ca.season dx (putF "sheet" (.ref q) (seaF A S.len S.rest v)))) q s:=by
 have k:∀ b o,H b=some o->b≠A.p->upd H A.p (.ins ca.season dx (putF "sheet" (.ref q) (seaF A S.len S.rest v))) b=some o:=fun b o e n=>by rw[Zf n];exact e
 have sh':=sh.keep (H':=upd H A.p (.ins ca.season dx (putF "sheet" (.ref q) (seaF A S.len S.rest v)))) (fun x o hx e=>k x o e fun z=>hx (by rw[z];simp[SAd.fp])) (fun t xs e=>k t _ e (Yw e hp (fun z=>nomatch z)));obtain⟨h1,h2⟩:=h.setCur (cur:=some s) (v:=.ref q) ⟨dx,by rw[Ze];exact congrArg (fun x=>some (HO.ins ca.season dx x)) Na⟩ ⟨q,rfl,sh'⟩ k;exact⟨h1,h2,sh'⟩
theorem Fl:putF "standing" (.ref x) (seaF A l r v)=seaF { A with lt:=x } l r v:=by
 have n1:¬ (("length":Str)="standing"):=by decide +kernel
 have n2:¬ (("rest":Str)="standing"):=by decide +kernel
 have n3:¬ (("roster":Str)="standing"):=by decide +kernel
 have n4:¬ (("ledger":Str)="standing"):=by decide +kernel
 have n5:¬ (("absent":Str)="standing"):=by decide +kernel
 have n6:¬ (("sheets":Str)="standing"):=by decide +kernel
 have n7:¬ (("sheet":Str)="standing"):=by decide +kernel
 simp only[putF,seaF,if_neg n1,if_neg n2,if_neg n3,if_neg n4,if_neg n5,if_neg n6,if_neg n7,if_true]
end
def zgk(r q:Nat):Sea:=⟨r,q,[],[],[],[],none,[]⟩
inductive zc3(ca:CA)(vs:List V)(H:Hp)(Q:VK)(E:XK):Prop where
 | mk(p dx:Addr)(r q:Int)(_:vs=[.ref p,.int r,.int q])(_:H p=some (.ins ca.season dx []))(_:Yi r)(_:Yi q)(_:if r<0\/60<r then E (.ref ca.out) none H else if q<0\/10<q then E (.ref ca.out) none H else ∀ A H',A.p=p->Zx ca H' A (zgk r.toNat q.toNat)->(∀ b o,H b=some o->b≠p->H' b=some o)->(∀ x∈A.fp,x≠p->H x=none)->Q .non H')
inductive zc4(ca:CA)(vs:List V)(H:Hp)(Q:VK)(E:XK):Prop where
 | mk(A:SAd)(S:Sea)(n g c:Int)(_:vs=[.ref A.p,.int n,.int g,.int c])(_:Zx ca H A S)(_:Cg n g c)(_:S.std.length<=1000)(_:S.ppl.length<=1000)(_:if S.len<=S.led.length then E (.ref ca.seaOver) none H else if S.cur.isSome then E (.ref ca.drawn) none H else if badI n g c then E (.ref ca.out) none H else if n∈S.ppl.map (·.1) then E (.ref ca.known) none H else if 30<=S.ppl.length then E (.ref ca.many) none H else if 100<=S.std.length then E (.ref ca.manyD) none H else ∀ H',Zx ca H' A { S with ppl:=S.ppl++[(n,g,c)],std:=S.std++[(((("enrol":Str),n,atV S):Rh),S.cur)] }->FrS A H H'->Q .non H')
def zgl(S:Sea)(ms:List P3)(gv:List V):Sea:={ S with cur:=some ⟨ms,mayS S ms,gv,[]⟩,std:=S.std++[(((("draw up":Str),(ms.length:Int),atV S):Rh),S.cur)] }
def Xk(S:Sea)(i n:Int):Sea:={ S with out:=S.out++[(i,n)],std:=S.std++[((("away":Str),n,i),S.cur)] }
theorem Q9.put(h:Q9 kvs out)(i n:Int):Q9 (putK kvs [inl i,inl n] (.bl true)) (out++[(i,n)]):=by
 refine⟨fun j m=>?_,?_⟩
 ·rw[Up];by_cases e:j=i/\m=n
  ·rw[if_pos (Pw.mpr e),zu3 (by rw[e.1,e.2];simp)];rfl
  ·rw[if_neg (fun z=>e (Pw.mp z)),h.1 j m];by_cases hm:(j,m)∈out
   ·rw[zu3 hm,zu3 (zvn _ hm)]
   ·rw[zva hm,zva];intro z;rcases zu8.mp z with q|q
    ·exact hm q
    ·have:=zu0.mp q;exact e (by cases this;exact⟨rfl,rfl⟩)
 ·have:=Xx kvs ([inl i,inl n]:List Key) (.bl true);have:=h.2;rw[zuz];show _<=out.length+1;omega
theorem Q9.drop(h:Q9 kvs (out++[(i,n)]))(hn:(i,n)∉out):Q9 (X7 kvs [inl i,inl n]) out:=by
 have hv:∀ k:List Key,valV (X7 kvs [inl i,inl n]) k=if k=[inl i,inl n] then none else valV kvs k:=fun k=>by
  clear h
  induction kvs with
  | nil=>unfold X7;simp[valV]
  | cons x kvs ih =>
    by_cases ex:x.1=[inl i,inl n]
    ·rw[zdx ex,ih];by_cases e:k=[inl i,inl n]
     ·rw[if_pos e,if_pos e]
     ·rw[if_neg e,if_neg e,Xa (fun z=>e (z.symm.trans ex))]
    ·rw[zdy ex];by_cases ek:x.1=k
     ·rw[Xg ek,Xg ek,if_neg (fun z=>ex (ek.trans z))]
     ·rw[Xa ek,Xa ek,ih]
 refine⟨fun j m=>?_,?_⟩
 ·rw[hv];by_cases e:j=i/\m=n
  ·rw[if_pos (Pw.mpr e),zva (by rw[e.1,e.2];exact hn)];rfl
  ·rw[if_neg (fun z=>e (Pw.mp z)),h.1 j m];by_cases hm:(j,m)∈out
   ·rw[zu3 hm,zu3 (zvn _ hm)]
   ·rw[zva hm,zva];intro z;rcases zu8.mp z with q|q
    ·exact hm q
    ·have:=zu0.mp q;exact e (by cases this;exact⟨rfl,rfl⟩)
 ·have h1:=h.1 i n;rw[zu3 (show (i,n)∈out++[(i,n)] by simp)] at h1;have h2:=h.2;rw[zuz] at h2;have h2:kvs.length<=out.length+1:=h2;have h3:(X7 kvs [inl i,inl n]).length<kvs.length:=by
   unfold X7;rw[List.length_filter_lt_length_iff_exists];obtain⟨v,hv'⟩:=zv8.mp h1;unfold valV at hv';obtain⟨x,hx,_⟩:=zwv.mp hv';refine⟨x,List.mem_of_find?_eq_some hx,?_⟩;have:=List.find?_some hx;intro z;exact of_decide_eq_true z (of_decide_eq_true this)
  omega
theorem To(h:Xt gv n=some p):gv[p]?=some (.int n):=by
 unfold Xt at h;have h2:decide (gv[p]?=some (V.int n))=true:=List.find?_some (p:=fun i=>decide (gv[i]?=some (V.int n))) h;exact of_decide_eq_true h2
theorem Vt:mayS (Xk S (atV S) n) ms=without (mayS S ms) n:=by
 unfold mayS without;rw[zwe];refine zwh fun m _=>?_;show Fj (Xk S (atV S) n) m=(Fj S m).filter fun x=>decide (x≠n);unfold Fj;rw[List.filter_map,List.filter_filter]
 congr 1
 refine List.filter_congr fun x _=>?_;show (whyS S.led x.1 x.2.1 x.2.2 m.1 m.2.1 m.2.2 (pIn (S.out++[(atV S,n)]) (atV S) x) S.rest).isEmpty=(decide (x.1≠n)&&(whyS S.led x.1 x.2.1 x.2.2 m.1 m.2.1 m.2.2 (pIn S.out (atV S) x) S.rest).isEmpty);unfold pIn;by_cases e:x.1=n
 ·have h1:decide ((atV S,x.1)∈S.out++[(atV S,n)])=true:=zu3 (by rw[e];simp);rw[h1,zva (fun z=>z e),Bool.false_and];unfold whyS bw;simp
 ·have h1:decide ((atV S,x.1)∈S.out++[(atV S,n)])=decide ((atV S,x.1)∈S.out):=by
   by_cases hm:(atV S,x.1)∈S.out
   ·rw[zu3 hm,zu3 (zvn _ hm)]
   ·rw[zva hm,zva];intro z;rcases zu8.mp z with q|q
    ·exact hm q
    ·have:=zu0.mp q;cases this;exact e rfl
  rw[h1,zu3 e,Bool.true_and]
def Cn(S:Sea)(s:Zy):Sea:={ S with led:=S.led++[Ye s],old:=S.old++[s],cur:=none,std:=[] }
inductive zc5(ca:CA)(vs:List V)(H:Hp)(Q:VK)(E:XK):Prop where
 | mk(A:SAd)(S:Sea)(_:vs=[.ref A.p])(_:Zx ca H A S)(_:2*(tot S.led+1000)<=100000)(_:S.led.length<=1000)(_:S.old.length<=1000)(_:(∀ s,S.cur=some s->(∀ x∈s.gv,oneV x)/\s.gv.length=s.ms.length/\s.ms.length<=1000))(_:if S.len<=S.led.length then E (.ref ca.seaOver) none H else (S.cur=none->E (.ref ca.notDrawn) none H)/\∀ s x H',S.cur=some s->Zx ca H' { A with lt:=x } (Cn S s)->FrS A H H'->H x=none->Q (.int (atV S)) H')
theorem Zx.freshStd(h:Zx ca H A S)(hx:H x=none)(hp:H A.p=some (.ins ca.season dx (seaF A S.len S.rest v)))(hv:ShO ca.sheet (·∉A.fp) H v S.cur)
  (e:H'=upd (upd H x (.lst [])) A.p (.ins ca.season dx (putF "standing" (.ref x) (seaF A S.len S.rest v)))):Zx ca H' { A with lt:=x } { S with std:=[] }/\FrS A H H':=by
 have hpx:A.p≠x:=Zh hp hx;have k:∀ b o,H b=some o->b≠A.p->H' b=some o:=fun b o q n=>by rw[e,Zf n,Zf (Zh q hx)];exact q
 have f:FrS A H H':=.one (by simp[SAd.fp]) k;have kt:=h.tups f;have hnx:∀ y,(∃ o,H y=some o)->y≠x:=fun y ⟨o,q⟩=>Zh q hx;have okk:∀ y,(∃ o,H' y=some o)->y∉A.fp->(∃ o,H y=some o)->y∉({ A with lt:=x }:SAd).fp:=fun y _ hy hH hm=>by
  simp only[SAd.fp,zu4,zv1,or_false] at hm hy;rcases hm with q|q|q|q|q|q|q
  ·exact hy (.inl q)
  ·exact hy (.inr (.inl q))
  ·exact hy (.inr (.inr (.inl q)))
  ·exact hy (.inr (.inr (.inr (.inl q))))
  ·exact hy (.inr (.inr (.inr (.inr (.inl q)))))
  ·exact hy (.inr (.inr (.inr (.inr (.inr (.inl q))))))
  ·exact hnx y hH q
 have ok2:∀ y,(∃ o,H y=some o)->y∉A.fp->y∉({ A with lt:=x }:SAd).fp:=fun y hH hy hm=>by
  simp only[SAd.fp,zu4,zv1,or_false] at hm hy;rcases hm with q|q|q|q|q|q|q
  ·exact hy (.inl q)
  ·exact hy (.inr (.inl q))
  ·exact hy (.inr (.inr (.inl q)))
  ·exact hy (.inr (.inr (.inr (.inl q))))
  ·exact hy (.inr (.inr (.inr (.inr (.inl q)))))
  ·exact hy (.inr (.inr (.inr (.inr (.inr (.inl q))))))
  ·exact hnx y hH q
 have ko:∀ y o,y∉({ A with lt:=x }:SAd).fp->H y=some o->H' y=some o:=fun y o hy q=>k y o q fun z=>hy (by rw[z];simp[SAd.fp]);have there:=h.there;obtain⟨⟨n1,n2,n3,n4,n5,n6⟩,⟨n7,n8,n9,n10,n11⟩,⟨n12,n13,n14,n15⟩,⟨n16,n17,n18⟩,⟨n19,n20⟩,n21⟩:=Iv h.nd;have np:=Ku h (show A.p∈A.fp by simp[SAd.fp]);have npp:=h.np;obtain⟨⟨dx',v',a1,a2⟩,b,c,⟨kvs',d1,d2⟩,⟨vs,f1,f2⟩,⟨us,g1,g2⟩,nd,np'⟩:=h;have hpr:∃ o,H A.pr=some o:=by obtain⟨⟨_,_,q,_⟩,_⟩:=b;exact⟨_,q⟩
 have hpl:∃ o,H A.pl=some o:=by obtain⟨⟨_,q⟩,_⟩:=c;exact⟨_,q⟩
 refine⟨⟨⟨dx,v,?_,(hv.imp ok2).keep ko kt⟩,b.keep (fun o q=>k _ o q np.1) (fun o q=>k _ o q (Ne.symm n1)) kt,c.keep (fun o q=>k _ o q np.2) (fun o q=>k _ o q (Ne.symm n2)) (fun o q=>k _ o q (Ne.symm n3)) kt,⟨kvs',k _ _ d1 (Ne.symm n4),d2⟩,⟨vs,k _ _ f1 (Ne.symm n5),(f2.imp ok2).keep ko kt⟩,⟨[],?_,?_⟩,?_,⟨ok2 _ hpr npp.1,ok2 _ hpl npp.2⟩⟩,f⟩
 ·rw[e,Ze];exact congrArg (fun z=>some (HO.ins ca.season dx z)) Fl
 ·show H' x=some (.lst []);rw[e,Zf (Ne.symm hpx),Ze]
 ·exact .nil
 ·show [A.p,A.dr,A.lr,A.ld,A.da,A.ls,x].Nodup;have m:∀ y∈A.fp,y≠x:=fun y hy=>hnx y (there y hy);simp only[zvm,zu4,zv1,or_false,not_or];exact⟨⟨n1,n2,n3,n4,n5,m _ (by simp[SAd.fp])⟩,⟨n7,n8,n9,n10,m _ (by simp[SAd.fp])⟩,⟨n12,n13,n14,m _ (by simp[SAd.fp])⟩,⟨n16,n17,m _ (by simp[SAd.fp])⟩,⟨n19,m _ (by simp[SAd.fp])⟩,m _ (by simp[SAd.fp]),by simp,zwp⟩
def zgm(S:Sea)(d:Rh)(ppl:RL)(out:List (Int×Int)):Prop:=(d.1="enrol"/\(∃ g c,S.ppl=ppl++[(d.2.1,g,c)])/\out=S.out)\/(d.1="away"/\ppl=S.ppl/\S.out=out++[(d.2.2,d.2.1)]/\(d.2.2,d.2.1)∉out)\/(d.1="draw up"/\ppl=S.ppl/\out=S.out)
inductive Iw(ca:CA)(vs:List V)(H:Hp)(Q:VK)(E:XK):Prop where
 | mk(A:SAd)(S:Sea)(_:vs=[.ref A.p])(_:Zx ca H A S)(_:(S.std=[]->E (.ref ca.nothing) none H))(_:∀ std d s,S.std=std++[(d,s)]->∃ ppl out,zgm S d ppl out/\∀ t H',H' t=some (.tup (Ql d))->Zx ca H' A { S with ppl:=ppl,out:=out,cur:=s,std:=std }->FrS A H H'->Q (.ref t) H')
def Um(ca:CA)(H:Hp)(S:Sea)(i:Int)(E:XK)(k:Zy->Prop):Prop:=Yi i/\S.old.length=S.led.length/\if i<1\/(S.len:Int)<i then E (.ref ca.noRound) none H else (Y4 S i=none->E (.ref ca.notDrawn) none H)/\∀ s,Y4 S i=some s->k s
inductive Lo(ca:CA)(vs:List V)(H:Hp)(Q:VK)(E:XK):Prop where
 | mk(A:SAd)(S:Sea)(i:Int)(_:vs=[.ref A.p,.int i])(_:Zx ca H A S)(_:Um ca H S i E fun s=>∀ l ts H',H' l=some (.lst ts)->Z8 H' ts (s.ms.map pV)->Same H H'->H l=none->Q (.ref l) H')
inductive zbj(ca:CA)(vs:List V)(H:Hp)(Q:VK)(E:XK):Prop where
 | mk(A:SAd)(S:Sea)(i:Int)(_:vs=[.ref A.p,.int i])(_:Zx ca H A S)(_:Um ca H S i E fun s=>∀ l H',H' l=some (.lst s.gv)->Same H H'->H l=none->Q (.ref l) H')
inductive Iy(ca:CA)(vs:List V)(H:Hp)(Q:VK)(E:XK):Prop where
 | mk(A:SAd)(S:Sea)(i:Int)(_:vs=[.ref A.p,.int i])(_:Zx ca H A S)(_:Um ca H S i E fun s=>(∀ x∈s.gv,oneV x)/\s.gv.length<=100/\∀ l H',H' l=some (.lst ((Xs s.gv).map fun i=>V.int (i:Nat)))->Same H H'->H l=none->Q (.ref l) H')
inductive zgn(ca:CA)(vs:List V)(H:Hp)(Q:VK)(E:XK):Prop where
 | mk(A:SAd)(S:Sea)(i:Int)(_:vs=[.ref A.p,.int i])(_:Zx ca H A S)(_:Um ca H S i E fun s=>(∃ nu,Qk s.may nu)/\Ym s.may s.gv/\E9 s.may s.gv/\∀ t lp lr ps rs H',H' t=some (.tup [.ref lp,.ref lr])->H' lp=some (.lst (Wt ps))->H' lr=some (.lst (rs.map V.int))->Lj s.may s.gv ps rs->Same H H'->H t=none->H lp=none->H lr=none->lp≠lr->Q (.ref t) H')
inductive Iz(ca:CA)(vs:List V)(H:Hp)(Q:VK)(E:XK):Prop where
 | mk(A:SAd)(S:Sea)(i:Int)(_:vs=[.ref A.p,.int i])(_:Zx ca H A S)(_:Um ca H S i E fun s=>s.gaps.length<=1000/\∀ l ts H',H' l=some (.lst ts)->X2 (fun x=>H x=none/\x≠l) H' ts s.gaps->Same H H'->H l=none->Q (.ref l) H')
inductive zc6(ca:CA)(vs:List V)(H:Hp)(Q:VK)(E:XK):Prop where
 | mk(A:SAd)(S:Sea)(i n:Int)(_:vs=[.ref A.p,.int i,.int n])(_:Zx ca H A S)(_:Yi n)(_:Um ca H S i E fun s=>(∀ x∈s.gv,oneV x)/\s.gv.length<=100/\if n∈S.ppl.map (·.1) then ∀ H',Same H H'->Q (oN (Xt s.gv n)) H' else E (.ref ca.unk) none H)
theorem Tp(ks:List Str):∀ {fs:List (Str×V)},fs.map (·.1)=ks->(ks.all fun x=>!decide (x=f))=true->putF f v fs=fs++[(f,v)]:=by
 intro fs hk h;subst hk
 induction fs with
 | nil=>rfl
 | cons x fs ih =>
   rw[zu9,List.all_cons,zwd,Bool.not_eq_true',decide_eq_false_iff_not] at h;obtain⟨k,y⟩:=x;show (if k=f then _ else _)=_;rw[if_neg h.1,ih h.2];rfl
def sF1(l:V):List (Str×V):=[("length",l)]
def sF2(l r:V):List (Str×V):=[("length",l),("rest",r)]
def sF3(l r a:V):List (Str×V):=[("length",l),("rest",r),("roster",a)]
def sF4(l r a b:V):List (Str×V):=[("length",l),("rest",r),("roster",a),("ledger",b)]
def sF5(l r a b c:V):List (Str×V):=[("length",l),("rest",r),("roster",a),("ledger",b),("absent",c)]
def sF6(l r a b c d:V):List (Str×V):=[("length",l),("rest",r),("roster",a),("ledger",b),("absent",c),("sheets",d)]
def sF7(l r a b c d e:V):List (Str×V):=[("length",l),("rest",r),("roster",a),("ledger",b),("absent",c),("sheets",d),("sheet",e)]
def sF8(l r a b c d e f:V):List (Str×V):=[("length",l),("rest",r),("roster",a),("ledger",b),("absent",c),("sheets",d),("sheet",e),("standing",f)]
theorem pF1:putF "length" l []=sF1 l:=rfl
theorem pF2:putF "rest" r (sF1 l)=sF2 l r:=Tp ["length"] rfl ⋯
theorem pF3:putF "roster" a (sF2 l r)=sF3 l r a:=Tp ["length","rest"] rfl ⋯
theorem pF4:putF "ledger" b (sF3 l r a)=sF4 l r a b:=Tp ["length","rest","roster"] rfl ⋯
theorem pF5:putF "absent" c (sF4 l r a b)=sF5 l r a b c:=Tp ["length","rest","roster","ledger"] rfl ⋯
theorem pF6:putF "sheets" d (sF5 l r a b c)=sF6 l r a b c d:=Tp ["length","rest","roster","ledger","absent"] rfl ⋯
theorem pF7:putF "sheet" e (sF6 l r a b c d)=sF7 l r a b c d e:=Tp ["length","rest","roster","ledger","absent","sheets"] rfl ⋯
theorem pF8:putF "standing" f (sF7 l r a b c d e)=sF8 l r a b c d e f:=Tp ["length","rest","roster","ledger","absent","sheets","sheet"] rfl ⋯
theorem Vu.free{p:Addr}{H H':Hp}{x:Addr}(hb:∀ b o,H b=some o->b≠p->H' b=some o)(hp:∃ o,H' p=some o)(hx:H' x=none):H x=none:=by
 cases e:H x with
 | none=>rfl
 | some o =>
   by_cases z:x=p
   ·subst z;obtain⟨o',q⟩:=hp;rw[q] at hx;cases hx
   ·rw[hb x o e z] at hx;cases hx
def Vu(p:Addr)(H H':Hp):Prop:=∀ b o,H b=some o->b≠p->H' b=some o
theorem Vu.trans(a:Vu p H1 H2)(b:Vu p H2 H3):Vu p H1 H3:=fun x o e n=>b x o (a x o e n) n
theorem Vu.of(a:Same H1 H2):Vu p H1 H2:=fun x o e _=>a x o e
theorem Vu.put:Vu p H (upd H p o):=fun x o e n=>by rw[Zf n];exact e
end G
namespace L2
open PySem PySem.Spec PyProof.Rows
theorem zbk:Vm X (.type "dict") (fun xs H Q=>∃ a kvs,xs=[.ref a]/\Rd H a (.dK kvs)/\∀ p,H p=none->Q (.ref p) (upd H p (.dK kvs))):=by
 intro pins s σ H xs us Q I r h;obtain⟨a,kvs,rfl,ha,q⟩:=h;obtain⟨u,rfl,ru⟩:=Qg r;cases (show u=Value.ref a from ru);exact zfm I ha fun p s' hp I'=>⟨.ref p,_,I',rfl,q p hp⟩
end L2
namespace G
open PySem PySem.Spec PyProof.Rows L2
def Kv:List Int:=[0,1,2,3,4,5,6,7,8,9,10,0,0,0,1,1,1,2,2,0,1,3]
inductive An(K:Frag)(vs:List V)(H:Hp)(Q:VK)(_:XK):Prop where
 | mk(b:Addr)(ns:List Int)(_:vs=[.ref b])(_:SqL K H b (ns.map V.int))(_:∀ (q:Nat) H',q=(Kv.getD (Xb ns 1%22).toNat 0).toNat->q<=10->Same H H'->Q (.int q) H')
def Pb(ns:List Int):Int:=if Xb ns 0/2%2=0 then 60 else 1+Xb ns 1/22%60
inductive I9(K:Frag)(vs:List V)(H:Hp)(Q:VK)(_:XK):Prop where
 | mk(b:Addr)(ns:List Int)(_:vs=[.ref b])(_:SqL K H b (ns.map V.int))(_:∀ (r:Nat) H',r=(Pb ns).toNat->1<=r->r<=60->Same H H'->Q (.int r) H')
inductive Ao(K:Frag)(vs:List V)(H:Hp)(Q:VK)(_:XK):Prop where
 | mk(b:Addr)(ns:List Int)(k:Nat)(_:vs=[.ref b,.int k])(_:SqL K H b (ns.map V.int))(_:k<ns.length)(_:∀ c H',Same H H'->Q (.int c) H')
structure Nb(H:Hp)(t lc ln:Addr)(cs nu:List Int):Prop where
 tup:H t=some (.tup [.ref lc,.ref ln])
 clubs:H lc=some (.lst (cs.map V.int))
 nums:H ln=some (.lst (nu.map V.int))
 few:3<=cs.length/\cs.length<=10
 cnd:cs.Nodup
 crng:∀ c∈cs,1<=c/\c<=99
 nfew:1<=nu.length/\nu.length<=30
 nnd:nu.Nodup
 nrng:∀ n∈nu,1<=n/\n<=999
theorem Nb.same{H H':Hp}{t lc ln:Addr}{cs nu:List Int}(h:Nb H t lc ln cs nu)(e:Same H H'):Nb H' t lc ln cs nu:=⟨e _ _ h.tup,e _ _ h.clubs,e _ _ h.nums,h.few,h.cnd,h.crng,h.nfew,h.nnd,h.nrng⟩
inductive Ap(K:Frag)(vs:List V)(H:Hp)(Q:VK)(_:XK):Prop where
 | mk(b:Addr)(ns:List Int)(cr:Nat)(_:vs=[.ref b,.int cr])(_:SqL K H b (ns.map V.int))(_:1<=cr)(_:cr<=30)(_:∀ t lc ln cs nu H',Nb H' t lc ln cs nu->nu.length=cr->Same H H'->H t=none->H lc=none->H ln=none->Q (.ref t) H')
theorem Aq(c:Int)(hi:i<10)(hj:j<10)(h:Ey c i=Ey c j):i=j:=by
 unfold Ey at h;have hs:D9 c=1\/D9 c=2\/D9 c=5\/D9 c=10\/D9 c=50\/D9 c=97\/D9 c=98:=by
  unfold D9;have h0:0<=c%7:=by omega
  have h1:c%7<7:=by omega
  generalize c%7=r at h0 h1;obtain⟨k,rfl⟩:∃ k:Nat,r=k:=⟨r.toNat,by omega⟩;rw[zve];have hk:k<7:=by omega
  match k,hk with
  | 0,_=>simp
  | 1,_=>simp
  | 2,_=>simp
  | 3,_=>simp
  | 4,_=>simp
  | 5,_=>simp
  | 6,_=>simp
 generalize c/7=x at h;rcases hs with e|e|e|e|e|e|e<;>rw[e] at h<;>omega +splitMinMax
theorem Ar(c:Int)(hm:m<=10):(Q6 c m).Nodup:=by
 unfold Q6;rw[zwm,List.pairwise_map];refine List.Pairwise.imp_of_mem (fun {i j} hi hj (hne:i≠j) z=>?_) (zwm.mp List.nodup_range);exact hne (Aq c (by have:=zvy.mp hi;omega) (by have:=zvy.mp hj;omega) z)
theorem zeh(c:Int)(m:Nat):∀ n∈Q6 c m,1<=n/\n<=99:=fun n hn=>by
 unfold Q6 at hn;obtain⟨j,_,rfl⟩:=zu6.mp hn;unfold Ey;omega
theorem As(c:Int)(hm:m<=40):(Kq c m).Nodup:=by
 unfold Kq;rw[zwm,List.pairwise_map];refine List.Pairwise.imp_of_mem (fun {i j} hi hj (hne:i≠j) z=>?_) (zwm.mp List.nodup_range);exact hne (zf0 c (by have:=zvy.mp hi;omega) (by have:=zvy.mp hj;omega) z)
theorem zei(c:Int)(m:Nat):∀ n∈Kq c m,1<=n/\n<=999:=fun n hn=>by
 unfold Kq at hn;obtain⟨j,_,rfl⟩:=zu6.mp hn;unfold zd0;omega
inductive X9 where
 | enrol (n g c:Int)|away (i n:Int)|draw (ms:List P3)|close|back
def Xp(ok:Addr->Prop)(H:Hp)(t:Addr):X9->Prop
 | .enrol n g c=>H t=some (.tup [.str "enrol",.int n,.int g,.int c])
 | .away i n=>H t=some (.tup [.str "away",.int i,.int n])
 | .draw ms=>∃ l ts,H t=some (.tup [.str "draw up",.ref l])/\H l=some (.lst ts)/\Z8 H ts (ms.map pV)/\ok l
 | .close=>H t=some (.tup [.str "close"])
 | .back=>H t=some (.tup [.str "take back"])
def zgo(S:Sea):Prop:=∀ s,S.cur=some s->s.ms.length<=20/\Ym s.may s.gv/\Vp s.may s.gv/\s.may=mayS S s.ms/\s.gaps.length<=S.std.length
def Ol(S S':Sea):Prop:=∃ d:Rh,S'.std=S.std++[(d,S.cur)]/\zgm S' d S.ppl S.out/\S'.len=S.len/\S'.rest=S.rest/\S'.led=S.led/\S'.old=S.old
def Mf(S:Sea):X9->Prop
 | .enrol n g c=>S.led.length<S.len/\S.cur=none/\¬ badI n g c/\n∉S.ppl.map (·.1)/\S.ppl.length<30
 | .away i n=>(S.led.length:Int)<i/\i<=S.len/\n∈S.ppl.map (·.1)/\(i,n)∉S.out
 | .draw ms=>S.led.length<S.len/\S.cur=none/\ms.length<=20/\(∀ m∈ms,¬ badM m)/\∀ m∈ms,m.1≠m.2.1
 | .close=>S.led.length<S.len/\S.cur≠none
 | .back=>S.std≠[]
inductive Si(H':Hp)(S:Sea):X9->Sea->V->Prop where
 | enrol (n g c:Int):Si H' S (.enrol n g c) { S with ppl:=S.ppl++[(n,g,c)],std:=S.std++[(((("enrol":Str),n,atV S):Rh),S.cur)] } .non
 | awayN {i n:Int} {l:Addr} (h:S.cur=none\/atV S<i) (hl:H' l=some (.lst [])):Si H' S (.away i n) (Xk S i n) (.ref l)
 | awayF {n:Int} {s:Zy} {l:Addr} (h:S.cur=some s) (hp:Xt s.gv n=none) (hl:H' l=some (.lst [])):Si H' S (.away (atV S) n) { Xk S (atV S) n with cur:=some { s with may:=mayS (Xk S (atV S) n) s.ms } } (.ref l)
 | awayC {n:Int} {s:Zy} {p e:Nat} {l:Addr} {us:List V} {st:List (Nat×Option Int)} {w:Option Int} (h:S.cur=some s) (hp:Xt s.gv n=some p) (hl:H' l=some (.lst us)) (tl:Z8 H' us (st.map Wq)) (CR:Xc (mayS (Xk S (atV S) n) s.ms) (s.gv.set p .non) p st e w) :
   Si H' S (.away (atV S) n) { Xk S (atV S) n with cur:=some ⟨s.ms,mayS (Xk S (atV S) n) s.ms,Yh st (s.gv.set p .non),s.gaps++[(n,st)]⟩ } (.ref l)
 | draw {ms:List P3} {gv:List V} {l:Addr} (hl:H' l=some (.lst gv)) (F:Ym (mayS S ms) gv) (T:Vp (mayS S ms) gv):Si H' S (.draw ms) (zgl S ms gv) (.ref l)
 | close {s:Zy} (h:S.cur=some s):Si H' S .close (Cn S s) (.int (atV S))
 | back {S0:Sea} {d:Rh} {t:Addr} (h:S.std=S0.std++[(d,S0.cur)]) (ht:H' t=some (.tup (Ql d))) (hs:Ol S0 S):Si H' S .back S0 (.ref t)
def Kw(A A':SAd)(H:Hp):Prop:=∃ x,A'={ A with lt:=x }/\(x=A.lt\/H x=none)
abbrev Xr(b:List Stmt)(i:Nat):Stmt:=b.getD i (.Pass ⟨0,0,0,0⟩)
def zh1:Stmt->Expr|.Return (some e) _=>e|_=>.Constant .none 0 ⟨0,0,0,0⟩
def stP:Stmt->Pos|.Return _ p=>p|.Assign _ _ p=>p|_=>⟨0,0,0,0⟩
def zgp:Stmt->List Expr|.Assign ts _ _=>ts|_=>[]
def Od:Stmt->Expr|.Assign _ v _=>v|_=>.Constant .none 0 ⟨0,0,0,0⟩
def Au:Expr->Expr|.Subscript a _ _=>a|e=>e
def zh2:Expr->Expr|.Subscript _ b _=>b|e=>e
def zh3:Expr->Pos|.Subscript _ _ p=>p|_=>⟨0,0,0,0⟩
def zej:Expr->List Expr|.List es _=>es|_=>[]
def zek:Expr->Pos|.List _ p=>p|_=>⟨0,0,0,0⟩
def Kx:List Int->TA
 | []=>zav
 | x :: xs=>zii (tC (.int x)) (Kx xs)
theorem Dj:∀ (xs:List Int) (σ:L2.St) (H:Hp) (Q:List V->Hp->Prop),Q (xs.map V.int) H->Kx xs σ H Q
 | [],_,_,_,h=>h
 | x :: xs,σ,H,Q,h=>Dj xs σ H (fun ys H2=>Q (.int x :: ys) H2) h
structure He(es:List Expr)(xs:List Int):Prop where
 len:es.length=xs.length
 same:List.zipWith (fun i (e:Expr)=>Expr.Constant (.int i) 0 e.pos) xs es=es
theorem P8(xs:List Int)(h:He es xs):PA X es (Kx xs):=by
 obtain⟨h1,h2⟩:=h
 induction xs generalizing es with
 | nil =>
   have:=zwc.mp h1;subst this;exact Zc
 | cons x xs ih =>
   cases es with
   | nil=>cases h1
   | cons e es =>
     rw[List.zipWith_cons_cons] at h2;obtain⟨e1,e2⟩:=List.cons.inj h2;rw[<- e1];exact Za Zg (ih (Nat.succ.inj h1) e2) rfl
theorem Av(xs:List Int)(hz:xs.length<=1000)(h:∀ l,H l=none->Q (.ref l) (upd H l (.lst (xs.map V.int)))):zaw (Kx xs) σ H Q:=by
 refine Dj xs σ H _ ⟨?_,h⟩;rw[zuw];exact szN hz
theorem zc7{K:Frag}(xs:List Int){ti:TE}{σ:L2.St}{H:Hp}{Q:VK}(hz:xs.length<=1000)(h:∀ l H1,H1 l=some (.lst (xs.map V.int))->Same H H1->H l=none->ti σ H1 fun y H2=>Dy K (.ref l) y H2 Q):tOp (Dy K) (zaw (Kx xs)) ti σ H Q :=
 Av xs hz fun l hl=>h l _ Ze (Zk hl) hl
theorem zj8{K:Frag}(xs:List Int){ti:TE}{D:Oa}{σ:L2.St}{H:Hp}(hz:xs.length<=1000)(h:∀ l H1,H1 l=some (.lst (xs.map V.int))->Same H H1->H l=none->ti σ H1 fun y H2=>Dy K (.ref l) y H2 D.rt):zkj (tOp (Dy K) (zaw (Kx xs)) ti) D σ H:=zc7 (Q:=D.rt) xs hz h
theorem zj9{K:Frag}(xs:List Int){ti:TE}{i:Nat}{u:TS}{D:Oa}{σ:L2.St}{H:Hp}(hz:xs.length<=1000)(h:∀ l H1,H1 l=some (.lst (xs.map V.int))->Same H H1->H l=none->ti σ H1 fun y H2=>Dy K (.ref l) y H2 fun x H3=>u D (σ.set i (some x)) H3):Zz (zdg (tOp (Dy K) (zaw (Kx xs)) ti) (W4 i)) u D σ H:=zc7 xs hz h
theorem Aw(xs:List Int)(hz:xs.length<=1000)(h:∀ l H1,H1 l=some (.lst (xs.map V.int))->Same H H1->H l=none->u D (σ.set i (some (.ref l))) H1):Zz (zdg (zaw (Kx xs)) (W4 i)) u D σ H :=
 Av (σ:=σ) (H:=H) (Q:=fun x H3=>u D (σ.set i (some x)) H3) xs hz fun l hl=>h l _ Ze (Zk hl) hl
theorem zbl:decide (V.str a=V.str a)=true:=zu3 rfl
theorem Ri(h:decide (a=b)=false):decide (V.str a=V.str b)=false:=zva fun z=>of_decide_eq_false h (V.str.inj z)
theorem Kw.refl(A:SAd)(H:Hp):Kw A A H:=⟨A.lt,rfl,.inl rfl⟩
abbrev zgq:=List (Int×List (Nat×Option Int))
structure Pg where
 len:Nat
 rest:Nat
 ppl:RL
 out:List (Int×Int)
 over:List Zy
 deed:Option Rh
 lis:Option (List P3)
 gv:List V
 mv:zgq
def pgF(len rest:Nat)(lp lo lv:Addr)(dv li:V)(lg lm:Addr):List (Key×V):=[(.inr "rounds",.int len),(.inr "rest",.int rest),(.inr "people",.ref lp),(.inr "out",.ref lo),(.inr "over",.ref lv),(.inr "deed",dv),(.inr "listed",li),(.inr "goes",.ref lg),(.inr "moves",.ref lm)]
def oiV(x:Int×Int):List V:=[.int x.1,.int x.2]
def Mg(ok:Addr->Prop)(H:Hp)(v:V):Option (List P3)->Prop
 | none=>v=.non
 | some ms=>∃ l ts,v=.ref l/\H l=some (.lst ts)/\Z8 H ts (ms.map pV)/\ok l
def Ax(H:Hp)(v:V):Option Rh->Prop
 | none=>v=.non
 | some d=>∃ t,v=.ref t/\H t=some (.tup (Ql d))
inductive Y7(ok:Addr->Prop)(H:Hp):List V->List Zy->Prop where
 | nil:Y7 ok H [] []
 | cons {t l g m y:Addr} {ts mts:List V} {ls:List Addr} {s:Zy} {vs:List V} {ss:List Zy} (h:H t=some (.tup [.ref l,.ref g,.ref m,.ref y])) (hl:H l=some (.lst ts)) (tl:Z8 H ts (s.ms.map pV)) (hg:H g=some (.lst s.gv)) (hm:H m=some (.lst mts)) (gm:X2 ok H mts s.gaps)
   (hy:H y=some (.lst (ls.map V.ref))) (iy:ILs H ls s.may) (o:ok l/\ok g/\ok m/\ok y/\∀ x∈ls,ok x) (r:Y7 ok H vs ss):Y7 ok H (.ref t :: vs) (s :: ss)
theorem Mg.keep(h:Mg ok H v x)(k:∀ x o,ok x->H x=some o->H' x=some o)(kt:∀ t xs,H t=some (.tup xs)->H' t=some (.tup xs)):Mg ok H' v x:=by
 cases x with
 | none=>exact h
 | some ms=>obtain⟨l,ts,e,a,b,o⟩:=h;exact⟨l,ts,e,k _ _ o a,b.mono kt,o⟩
theorem Mg.imp(h:Mg ok H v x)(k:∀ x,(∃ o,H x=some o)->ok x->ok' x):Mg ok' H v x:=by
 cases x with
 | none=>exact h
 | some ms=>obtain⟨l,ts,e,a,b,o⟩:=h;exact⟨l,ts,e,a,b,k _ ⟨_,a⟩ o⟩
theorem Ax.keep(h:Ax H v x)(kt:∀ t xs,H t=some (.tup xs)->H' t=some (.tup xs)):Ax H' v x:=by
 cases x with
 | none=>exact h
 | some d=>obtain⟨t,e,a⟩:=h;exact⟨t,e,kt _ _ a⟩
theorem Y7.keep(k:∀ x o,ok x->H x=some o->H' x=some o)(kt:∀ t xs,H t=some (.tup xs)->H' t=some (.tup xs)):∀ {vs:List V} {ss:List Zy},Y7 ok H vs ss->Y7 ok H' vs ss
 | _,_,.nil=>.nil
 | _,_,.cons h hl tl hg hm gm hy iy o r=>.cons (kt _ _ h) (k _ _ o.1 hl) (tl.mono kt) (k _ _ o.2.1 hg) (k _ _ o.2.2.1 hm) (gm.keep k kt) (k _ _ o.2.2.2.1 hy) (iy.keep fun x hx _ q=>k _ _ (o.2.2.2.2 x hx) q) o (Y7.keep k kt r)
theorem Y7.imp(k:∀ x,(∃ o,H x=some o)->ok x->ok' x):∀ {vs:List V} {ss:List Zy},Y7 ok H vs ss->Y7 ok' H vs ss
 | _,_,.nil=>.nil
 | _,_,.cons h hl tl hg hm gm hy iy o r=>.cons h hl tl hg hm (gm.imp k) hy iy ⟨k _ ⟨_,hl⟩ o.1,k _ ⟨_,hg⟩ o.2.1,k _ ⟨_,hm⟩ o.2.2.1,k _ ⟨_,hy⟩ o.2.2.2.1,fun x hx=>k _ (let ⟨_,z⟩:=iy.has hx;⟨_,z⟩) (o.2.2.2.2 x hx)⟩ (Y7.imp k r)
theorem Y7.length:∀ {vs:List V} {ss:List Zy},Y7 ok H vs ss->vs.length=ss.length
 | _,_,.nil=>rfl
 | _,_,.cons _ _ _ _ _ _ _ _ _ r=>by simp[Y7.length r]
theorem Y7.snoc(h:H t=some (.tup [.ref l,.ref g,.ref m,.ref y]))(hl:H l=some (.lst ts))(tl:Z8 H ts (s.ms.map pV))(hg:H g=some (.lst s.gv))(hm:H m=some (.lst mts))(gm:X2 ok H mts s.gaps)
   (hy:H y=some (.lst (ls.map V.ref))) (iy:ILs H ls s.may) (o:ok l/\ok g/\ok m/\ok y/\∀ x∈ls,ok x):∀ {vs:List V} {ss:List Zy},Y7 ok H vs ss->Y7 ok H (vs++[.ref t]) (ss++[s])
 | _,_,.nil=>.cons h hl tl hg hm gm hy iy o .nil
 | _,_,.cons h' hl' tl' hg' hm' gm' hy' iy' o' r=>.cons h' hl' tl' hg' hm' gm' hy' iy' o' (Y7.snoc h hl tl hg hm gm hy iy o r)
theorem Y7.get:∀ {vs:List V} {ss:List Zy} {i:Nat} {x:V},Y7 ok H vs ss->vs[i]?=some x->∃ t l g m y ts s,x=.ref t/\ss[i]?=some s/\H t=some (.tup [.ref l,.ref g,.ref m,.ref y])/\H l=some (.lst ts)/\Z8 H ts (s.ms.map pV)/\H g=some (.lst s.gv)/\ok l/\ok g
 | _,_,_,_,.nil,e=>by simp at e
 | _,_,0,_,.cons h hl tl hg _ _ _ _ o _,e=>by simp at e;subst e;exact⟨_,_,_,_,_,_,_,rfl,rfl,h,hl,tl,hg,o.1,o.2.1⟩
 | _,_,i+1,x,.cons _ _ _ _ _ _ _ _ _ r,e=>by
   obtain⟨t,l,g,m,y,ts,s,h1,h2,h3⟩:=Y7.get (i:=i) (x:=x) r (by simpa using e);exact⟨t,l,g,m,y,ts,s,h1,by simpa using h2,h3⟩
structure PgAt(ok:Addr->Prop)(H:Hp)(d:Addr)(P:Pg):Prop where
 ex:∃ lp lo lv dv li lg lm pts ots vts mts,H d=some (.dK (pgF P.len P.rest lp lo lv dv li lg lm))/\H lp=some (.lst pts)/\Z8 H pts (P.ppl.map pV)/\H lo=some (.lst ots)/\Z8 H ots (P.out.map oiV)/\H lv=some (.lst vts)/\Y7 ok H vts P.over/\Ax H dv P.deed/\Mg ok H li P.lis/\H lg=some (.lst P.gv)/\H lm=some (.lst mts)/\X2 ok H mts P.mv /\
  (ok d/\ok lp/\ok lo/\ok lv/\ok lg/\ok lm)
theorem PgAt.keep(h:PgAt ok H d P)(k:∀ x o,ok x->H x=some o->H' x=some o)(kt:∀ t xs,H t=some (.tup xs)->H' t=some (.tup xs)):PgAt ok H' d P:=by
 obtain⟨lp,lo,lv,dv,li,lg,lm,pts,ots,vts,mts,a1,a2,a3,a4,a5,a6,a7,a8,a9,b1,b2,b3,o1,o2,o3,o4,o5,o6⟩:=h;exact⟨lp,lo,lv,dv,li,lg,lm,pts,ots,vts,mts,k _ _ o1 a1,k _ _ o2 a2,a3.mono kt,k _ _ o3 a4,a5.mono kt,k _ _ o4 a6,a7.keep k kt,a8.keep kt,a9.keep k kt,k _ _ o5 b1,k _ _ o6 b2,b3.keep k kt,o1,o2,o3,o4,o5,o6⟩
theorem PgAt.imp(h:PgAt ok H d P)(k:∀ x,(∃ o,H x=some o)->ok x->ok' x):PgAt ok' H d P:=by
 obtain⟨lp,lo,lv,dv,li,lg,lm,pts,ots,vts,mts,a1,a2,a3,a4,a5,a6,a7,a8,a9,b1,b2,b3,o1,o2,o3,o4,o5,o6⟩:=h;exact⟨lp,lo,lv,dv,li,lg,lm,pts,ots,vts,mts,a1,a2,a3,a4,a5,a6,a7.imp k,a8,a9.imp k,b1,b2,b3.imp k,k _ ⟨_,a1⟩ o1,k _ ⟨_,a2⟩ o2,k _ ⟨_,a4⟩ o3,k _ ⟨_,a6⟩ o4,k _ ⟨_,b1⟩ o5,k _ ⟨_,b2⟩ o6⟩
theorem PgAt.same(h:PgAt ok H d P)(e:Same H H'):PgAt ok H' d P:=h.keep (fun _ _ _ q=>e _ _ q) fun _ _ q=>e _ _ q
section
variable{len rest:Nat}{lp lo lv lg lm:Addr}{dv li:V}
theorem zbm:putK (pgF len rest lp lo lv dv li lg lm) (.inr "people") (.ref x)=pgF len rest x lo lv dv li lg lm:=rfl
theorem zh4:putK (pgF len rest lp lo lv dv li lg lm) (.inr "out") (.ref x)=pgF len rest lp x lv dv li lg lm:=rfl
theorem zgr:putK (pgF len rest lp lo lv dv li lg lm) (.inr "over") (.ref x)=pgF len rest lp lo x dv li lg lm:=rfl
theorem Hf:putK (pgF len rest lp lo lv dv li lg lm) (.inr "deed") v=pgF len rest lp lo lv v li lg lm:=rfl
theorem Hg:putK (pgF len rest lp lo lv dv li lg lm) (.inr "listed") v=pgF len rest lp lo lv dv v lg lm:=rfl
theorem Ay:putK (pgF len rest lp lo lv dv li lg lm) (.inr "goes") (.ref x)=pgF len rest lp lo lv dv li x lm:=rfl
theorem Dk:putK (pgF len rest lp lo lv dv li lg lm) (.inr "moves") (.ref x)=pgF len rest lp lo lv dv li lg x:=rfl
end
theorem zbn{len rest:Nat}{lp lo lv lg lm:Addr}{dv li:V}:(pgF len rest lp lo lv dv li lg lm).length<sizeLine:=by rw[sizeLine_eq];show 9<_;decide
def pg6(len rest:Nat)(lp lo lv:Addr)(dv:V):List (Key×V):=[(.inr "rounds",.int len),(.inr "rest",.int rest),(.inr "people",.ref lp),(.inr "out",.ref lo),(.inr "over",.ref lv),(.inr "deed",dv)]
theorem zel{len rest:Nat}{lp lo lv:Addr}{dv:V}:Ua [] (pg6 len rest lp lo lv dv)=pg6 len rest lp lo lv dv:=rfl
theorem zh5{len rest:Nat}{lp lo lv:Addr}{dv x y z:V}:putK (putK (putK (pg6 len rest lp lo lv dv) (.inr "listed") x) (.inr "goes") y) (.inr "moves") z=pg6 len rest lp lo lv dv++[(.inr "listed",x),(.inr "goes",y),(.inr "moves",z)]:=rfl
theorem Lp{len rest:Nat}{lp lo lv:Addr}{dv x y:V}:(pg6 len rest lp lo lv dv).length<sizeLine/\(putK (pg6 len rest lp lo lv dv) (.inr "listed") x).length<sizeLine/\(putK (putK (pg6 len rest lp lo lv dv) (.inr "listed") x) (.inr "goes") y).length<sizeLine:=by
 rw[sizeLine_eq];exact⟨by show 6<_;decide,by show 7<_;decide,by show 8<_;decide⟩
def zbo(r q:Nat):Pg:=⟨r,q,[],[],[],none,none,[],[]⟩
inductive zc8(vs:List V)(H:Hp)(Q:VK)(_:XK):Prop where
 | mk(r q:Nat)(_:vs=[.int r,.int q])(_:∀ d H',PgAt (fun x=>H x=none) H' d (zbo r q)->Same H H'->H d=none->Q (.ref d) H')
def Hh(P:Pg):Prop:=P.over.length<=100/\P.rest<=100/\∀ s∈P.over,s.ms.length<=20/\s.gv.length=s.ms.length/\∀ x∈s.gv,oneV x
def zgs(kvs:List (List Key×V))(P:Pg):Prop:=∀ n c:Int,(valV kvs [inl n,inl c]).isSome=Qj (P.over.map Ye) n c P.rest
inductive zc9(K:Frag)(vs:List V)(H:Hp)(Q:VK)(_:XK):Prop where
 | mk(ok:Addr->Prop)(d:Addr)(P:Pg)(_:vs=[.ref d])(_:PgAt ok H d P)(_:Hh P)(_:∀ m kvs H',H' m=some (.dT kvs)->zgs kvs P->Same H H'->H m=none->Q (.ref m) H')
theorem zgt(xs:List V)(n r:Nat):G9 xs (some (if ((n:Int)-r)>0 then (n:Int)-r else 0)) none=xs.drop ((n:Int)-r).toNat:=by
 have e:(if ((n:Int)-r)>0 then (n:Int)-r else 0)=((((n:Int)-r).toNat:Nat):Int):=by split<;>omega
 rw[e];exact zd7 xs _
theorem Y7.drop:∀ (k:Nat) {vs:List V} {ss:List Zy},Y7 ok H vs ss->Y7 ok H (vs.drop k) (ss.drop k)
 | 0,_,_,h=>h
 | _+1,_,_,.nil=>.nil
 | k+1,_,_,.cons _ _ _ _ _ _ _ _ _ r=>Y7.drop k r
def HitI(ss:List Zy)(i j:Nat)(n c:Int):Prop:=(∃ s∈ss.take i,∃ r∈Ye s,hit n c r=true)\/∃ s,ss[i]?=some s/\∃ r∈(Ye s).take j,hit n c r=true
def Nd(kvs:List (List Key×V))(ss:List Zy)(i j:Nat):Prop:=∀ n c:Int,(valV kvs [inl n,inl c]).isSome=true↔HitI ss i j n c
theorem Wm{α:Type}{l:List α}{j:Nat}{x:α}(h:l[j]?=some x):l.take (j+1)=l.take j++[x]:=by rw[zwg,h];rfl
theorem Nd.zero(ss:List Zy):Nd [] ss 0 0:=fun n c=>by
 unfold HitI;simp[zfg]
theorem Nd.next{kvs:List (List Key×V)}{ss:List Zy}{i:Nat}{s:Zy}(h:Nd kvs ss i (Ye s).length)(hs:ss[i]?=some s):Nd kvs ss (i+1) 0:=fun n c=>by
 rw[h n c];unfold HitI;rw[Wm hs,hs];constructor
 ·rintro(⟨s',h1,h2⟩|⟨s',h1,r,h2,h3⟩)
  ·exact .inl ⟨s',zvn _ h1,h2⟩
  ·cases h1;exact .inl ⟨s,zvj _ (zwu _),r,zwq h2,h3⟩
 ·rintro(⟨s',h1,r,h2,h3⟩|⟨s',h1,r,h2,h3⟩)
  ·rcases zu8.mp h1 with h1|h1
   ·exact .inl ⟨s',h1,r,h2,h3⟩
   ·cases zu0.mp h1;exact .inr ⟨_,rfl,r,by rw[zvf];exact h2,h3⟩
  ·simp at h2
theorem HitI.succ{ss:List Zy}{i j:Nat}{n c:Int}{s:Zy}{r:Row}(hs:ss[i]?=some s)(hr:(Ye s)[j]?=some r):HitI ss i (j+1) n c↔HitI ss i j n c\/hit n c r=true:=by
 unfold HitI;rw[hs];constructor
 ·rintro(z|⟨s',h1,r',h2,h3⟩)
  ·exact .inl (.inl z)
  ·cases h1;rw[Wm hr] at h2;rcases zu8.mp h2 with h2|h2
   ·exact .inl (.inr ⟨_,rfl,r',h2,h3⟩)
   ·cases zu0.mp h2;exact .inr h3
 ·rintro((z|⟨s',h1,r',h2,h3⟩)|z)
  ·exact .inl z
  ·cases h1;exact .inr ⟨_,rfl,r',by rw[Wm hr];exact zvn _ h2,h3⟩
  ·exact .inr ⟨_,rfl,r,by rw[Wm hr];exact zvj _ (zwu _),z⟩
theorem Nd.none(h:Nd kvs ss i j)(hs:ss[i]?=some s)(hr:(Ye s)[j]?=some r)(hw:r.w=none):Nd kvs ss i (j+1):=fun n c=>by
 rw[h n c,HitI.succ hs hr];unfold hit;rw[hw];simp
theorem Nd.some(h:Nd kvs ss i j)(hs:ss[i]?=some s)(hr:(Ye s)[j]?=some r)(hw:r.w=some w):Nd (putK (putK kvs [inl w,inl r.h] v) [inl w,inl r.g] v') ss i (j+1):=fun n c=>by
 rw[HitI.succ hs hr,<- h n c,Up,Up];unfold hit;rw[hw];by_cases e1:([inl n,inl c]:List Key)=[inl w,inl r.g]
 ·rw[if_pos e1];have:=e1;simp at this;obtain⟨rfl,rfl⟩:=this;simp
 ·rw[if_neg e1];by_cases e2:([inl n,inl c]:List Key)=[inl w,inl r.h]
  ·rw[if_pos e2];have:=e2;simp at this;obtain⟨rfl,rfl⟩:=this;simp
  ·rw[if_neg e2];constructor
   ·exact .inl
   ·rintro(z|z)
    ·exact z
    ·exfalso
     simp at z e1 e2;obtain⟨z1,z2|z2⟩:=z
     ·exact e2 z1.symm z2.symm
     ·exact e1 z1.symm z2.symm
theorem Nd.all(h:Nd kvs (P.over.drop k) (P.over.drop k).length 0)(hk:k=((P.over.length:Int)-P.rest).toNat):zgs kvs P:=fun n c=>by
 apply zw3.mpr;rw[h n c,zd6 (Int.natCast_nonneg _),zuw,<- hk,<- List.map_drop];unfold HitI;rw[zvf];constructor
 ·rintro(⟨s,h1,h2⟩|⟨s,h1,r,h2,_⟩)
  ·exact⟨Ye s,zu6.mpr ⟨s,h1,rfl⟩,h2⟩
  ·simp at h2
 ·rintro⟨rs,h1,h2⟩;obtain⟨s,h3,rfl⟩:=zu6.mp h1;exact .inl ⟨s,h3,h2⟩
end G
namespace L2
open PySem PySem.Spec PyProof.Rows G
def V9(x:Int×Int):Dt:=.tup [.int x.1,.int x.2]
theorem Hi{K:Frag}{H:Hp}:∀ {ts:List V} {ps:List (Int×Int)},Z8 H ts (ps.map oiV)->Tf K H ts (ps.map V9)
 | _,[],h=>by cases h;exact .nil
 | _,p :: ps,h=>by
   rw[zu9] at h;cases h with
   | cons e r=>exact .cons (.tup (SqT.of e) (.cons (.int _) (.cons (.int _) .nil))) (Hi r)
theorem Lq:∀ ps:List (Int×Int),PyData.canLayAll0 (Xi (ps.map V9))=true
 | []=>rfl
 | p :: ps=>by
   rw[zu9,Xi,PyData.canLayAll0,Lq ps];rfl
theorem Lr:∀ ps:List (Int×Int),((Xi (ps.map V9)).any fun y=>PyData.eqv y (toPy (V9 (a,b))))=decide ((a,b)∈ps)
 | []=>by simp[Xi]
 | p :: ps=>by
   rw[zu9,Xi,zwz,Lr ps,N7];obtain⟨p1,p2⟩:=p;have e:eqD (V9 (p1,p2)) (V9 (a,b))=decide ((a,b)=(p1,p2)):=by
    rw[V9,V9,eqD,Ob,Ob,Ob,eqD,eqD];by_cases h1:p1=a
    ·by_cases h2:p2=b
     ·subst h1;subst h2;simp
     ·rw[zva (fun z=>h2 (Prod.mk.inj z).2.symm)];simp[h2]
    ·rw[zva (fun z=>h1 (Prod.mk.inj z).1.symm)];simp[h1]
   rw[e,<- Bool.decide_or];exact decide_eq_decide.mpr zu4.symm
inductive zh6(K:Frag)(neg:Bool)(x:V)(y:V)(H:Hp)(Q:VK):Prop where
 | mk(t p:Addr)(ts:List V)(a b:Int)(ps:List (Int×Int))(_:x=.ref t)(_:y=.ref p)(_:SqT K H t [.int a,.int b])(_:SqL K H p ts)(_:Z8 H ts (ps.map oiV))(_:Q (.bl (if neg then !decide ((a,b)∈ps) else decide ((a,b)∈ps))) H)
section
variable{X:Cx}{K:Frag}
theorem Az(hu:X.A.units+64<cLine):OpR X (compareOp .In) (zh6 X.K false):=by
 intro pins s σ H x y v u Q I rx ry h;obtain⟨t,p,ts,a,b,ps,rfl,rfl,ht,hp,tl,q⟩:=h;obtain⟨as,r1⟩:=Is.reads I (Is.tup ht (.cons (.int a) (.cons (.int b) .nil)):Is X.K H (.ref t) (V9 (a,b))) rx;have r1:Reads s.heap v (toPy (V9 (a,b))) as:=r1;obtain⟨bs,r2⟩:=Is.reads I (Is.lst hp (Hi tl)) ry;rw[toPy] at r2;have hd:(toPy (V9 (a,b))).depth=1:=rfl;refine SeqAt.in_list_reads r2 r1 (Lq ps) rfl ?_ ?_
 ·have:=Nat.min_le_right (PyData.depthAll (Xi (ps.map V9))) (toPy (V9 (a,b))).depth;rw[hd] at this ⊢;omega
 ·rw[Lr];exact⟨.bl _,H,I,rfl,q⟩
theorem Hj(hu:X.A.units+64<cLine):OpR X (compareOp .NotIn) (zh6 X.K true):=by
 intro pins s σ H x y v u Q I rx ry h;obtain⟨t,p,ts,a,b,ps,rfl,rfl,ht,hp,tl,q⟩:=h;obtain⟨as,r1⟩:=Is.reads I (Is.tup ht (.cons (.int a) (.cons (.int b) .nil)):Is X.K H (.ref t) (V9 (a,b))) rx;have r1:Reads s.heap v (toPy (V9 (a,b))) as:=r1;obtain⟨bs,r2⟩:=Is.reads I (Is.lst hp (Hi tl)) ry;rw[toPy] at r2;have hd:(toPy (V9 (a,b))).depth=1:=rfl;refine SeqAt.notIn_list_reads r2 r1 (Lq ps) rfl ?_ ?_
 ·have:=Nat.min_le_right (PyData.depthAll (Xi (ps.map V9))) (toPy (V9 (a,b))).depth;rw[hd] at this ⊢;omega
 ·rw[Lr];exact⟨.bl _,H,I,rfl,q⟩
theorem Co(hK:X.K=K)(hu:X.A.units+64<cLine):OpR X (compareOp .In) (zh6 K false):=hK▸Az hu
theorem K7(hK:X.K=K)(hu:X.A.units+64<cLine):OpR X (compareOp .NotIn) (zh6 K true):=hK▸Hj hu
end
end L2
namespace G
open PySem PySem.Spec PyProof.Rows L2
def Oe(P:Pg)(x m:P3):List Str:=whyS (P.over.map Ye) x.1 x.2.1 x.2.2 m.1 m.2.1 m.2.2 (decide (((P.over.length:Int)+1,x.1)∈P.out)) P.rest
inductive A0(K:Frag)(vs:List V)(H:Hp)(Q:VK)(_:XK):Prop where
 | mk(ok:Addr->Prop)(d m t1 t2:Addr)(P:Pg)(kvs:List (List Key×V))(x y:P3)(_:vs=[.ref d,.ref m,.ref t1,.ref t2])(_:PgAt ok H d P)(_:H m=some (.dT kvs))(_:zgs kvs P)(_:H t1=some (.tup (pV x)))(_:H t2=some (.tup (pV y)))(_:∀ l H',H' l=some (.lst ((Oe P x y).map V.str))->Same H H'->H l=none->Q (.ref l) H')
def Qt(P:Pg)(ms:List P3):List (List Int):=ms.map fun m=>(P.ppl.filter fun x=>(Oe P x m).isEmpty).map (·.1)
theorem zem(h1:P.ppl=S.ppl)(h2:P.over.map Ye=S.led)(h3:P.out=S.out)(h4:P.rest=S.rest)(h5:((P.over.length:Int)+1)=atV S)(ms:List P3):Qt P ms=mayS S ms:=by
 unfold Qt mayS;refine zwh fun m _=>?_;unfold Fj Oe pIn;rw[h1,h2,h3,h4,h5]
inductive zbp(K:Frag)(vs:List V)(H:Hp)(Q:VK)(_:XK):Prop where
 | mk(ok:Addr->Prop)(d:Addr)(P:Pg)(ms:List P3)(_:vs=[.ref d])(_:PgAt ok H d P)(_:Hh P)(_:P.lis=some ms)(_:ms.length<=100)(_:P.ppl.length<=100)(_:∀ l ls H',H' l=some (.lst (ls.map V.ref))->ILs H' ls (Qt P ms)->Same H H'->H l=none->(∀ x∈ls,H x=none)->Q (.ref l) H')
theorem zh7(r:List Str)(ok:∀ w∈r,PyData.strOk w=true):shD (.lst (r.map Dt.str)):=by
 have h:PyData.canLayAll0 (Xi (r.map Dt.str))=true/\PyData.depthAll (Xi (r.map Dt.str))<=1:=by
  induction r with
  | nil=>exact⟨rfl,by decide⟩
  | cons x r ih =>
    obtain⟨h1,h2⟩:=ih fun w hw=>ok w (zvg _ hw);have h0:=ok x (zvt);refine⟨?_,?_⟩
    ·rw[zu9,Xi,PyData.canLayAll0,h1];simp[toPy,PyData.canLay0,h0]
    ·rw[zu9,Xi,PyData.depthAll];have:PyData.depth (toPy (Dt.str x))<=1:=by simp[toPy,PyData.depth]
     omega
 unfold shD SeqAt.shaped;rw[toPy,PyData.canLay0,h.1,Bool.true_and];refine zu3 ?_;rw[PyData.depth];have:=h.2;omega
theorem Hk{K:Frag}{H:Hp}:∀ ws:List Str,Tf K H (ws.map V.str) (ws.map Dt.str)
 | []=>.nil
 | w :: ws=>.cons (.str w) (Hk ws)
theorem zka(h:x∈bw b w):x=w:=by
 cases b<;>simp[bw] at h;exact h
theorem zh8{Rs:List (List Row)}{n g c h gu d:Int}{o:Bool}{rest:Int}:∀ w∈whyS Rs n g c h gu d o rest,PyData.strOk w=true:=fun w hw=>by
 unfold whyS at hw;simp only[zu8] at hw;rcases hw with z|z|z|z<;>rw[zka z]<;>decide +kernel
def Wa(H H':Hp):Prop:=(∀ x ys,H x=some (.lst ys)->H' x=some (.lst ys))/\∀ x ys,H x=some (.tup ys)->H' x=some (.tup ys)
theorem Wa.dict(h:H d=some (.dK kvs)):Wa H (upd H d (.dK kvs')) :=
 ⟨fun x ys e=>by rw[Zf (Yw e h (by intro z;cases z))];exact e,fun x ys e=>by rw[Zf (Yw e h (by intro z;cases z))];exact e⟩
theorem Wa.trans(a:Wa H H')(b:Wa H' H''):Wa H H'':=⟨fun x ys e=>b.1 _ _ (a.1 _ _ e),fun x ys e=>b.2 _ _ (a.2 _ _ e)⟩
theorem Wa.of(e:Same H H'):Wa H H':=⟨fun x ys z=>e _ _ z,fun x ys z=>e _ _ z⟩
theorem X2.keepL(k:Wa H H'):∀ {ts:List V} {G:zgq},X2 ok H ts G->X2 ok H' ts G
 | _,_,.nil=>.nil
 | _,_,.cons h hl tl o r=>.cons (k.2 _ _ h) (k.1 _ _ hl) (tl.mono k.2) o (X2.keepL k r)
theorem ILs.keepL(k:Wa H H'):∀ {ls:List Addr} {R:List (List Int)},ILs H ls R->ILs H' ls R
 | _,_,.nil=>.nil
 | _,_,.cons h n=>.cons (k.1 _ _ h) (ILs.keepL k n)
theorem Mg.keepL(k:Wa H H')(h:Mg ok H v x):Mg ok H' v x:=by
 cases x with
 | none=>exact h
 | some ms=>obtain⟨l,ts,e,a,b,o⟩:=h;exact⟨l,ts,e,k.1 _ _ a,b.mono k.2,o⟩
theorem Y7.keepL(k:Wa H H'):∀ {vs:List V} {ss:List Zy},Y7 ok H vs ss->Y7 ok H' vs ss
 | _,_,.nil=>.nil
 | _,_,.cons h hl tl hg hm gm hy iy o r=>.cons (k.2 _ _ h) (k.1 _ _ hl) (tl.mono k.2) (k.1 _ _ hg) (k.1 _ _ hm) (gm.keepL k) (k.1 _ _ hy) (ILs.keepL k iy) o (Y7.keepL k r)
structure PgB(ok:Addr->Prop)(H:Hp)(P:Pg)(lp lo lv:Addr)(dv li:V)(lg lm:Addr):Prop where
 pp:∃ pts,H lp=some (.lst pts)/\Z8 H pts (P.ppl.map pV)/\ok lp
 oo:∃ ots,H lo=some (.lst ots)/\Z8 H ots (P.out.map oiV)/\ok lo
 vv:∃ vts,H lv=some (.lst vts)/\Y7 ok H vts P.over/\ok lv
 dd:Ax H dv P.deed
 li:Mg ok H li P.lis
 gg:H lg=some (.lst P.gv)/\ok lg
 mm:∃ mts,H lm=some (.lst mts)/\X2 ok H mts P.mv/\ok lm
theorem PgB.keepL{ok:Addr->Prop}{H H':Hp}{P:Pg}{lp lo lv:Addr}{dv li:V}{lg lm:Addr}(h:PgB ok H P lp lo lv dv li lg lm)(k:Wa H H'):PgB ok H' P lp lo lv dv li lg lm:=by
 obtain⟨⟨p1,p2,p3,p4⟩,⟨o1,o2,o3,o4⟩,⟨v1,v2,v3,v4⟩,dd,li,⟨g1,g2⟩,m1,m2,m3,m4⟩:=h;exact⟨⟨p1,k.1 _ _ p2,p3.mono k.2,p4⟩,⟨o1,k.1 _ _ o2,o3.mono k.2,o4⟩,⟨v1,k.1 _ _ v2,v3.keepL k,v4⟩,dd.keep k.2,li.keepL k,⟨k.1 _ _ g1,g2⟩,m1,k.1 _ _ m2,m3.keepL k,m4⟩
theorem PgB.imp{ok ok':Addr->Prop}{H:Hp}{P:Pg}{lp lo lv:Addr}{dv li:V}{lg lm:Addr}(h:PgB ok H P lp lo lv dv li lg lm)(k:∀ x,(∃ o,H x=some o)->ok x->ok' x):PgB ok' H P lp lo lv dv li lg lm:=by
 obtain⟨⟨p1,p2,p3,p4⟩,⟨o1,o2,o3,o4⟩,⟨v1,v2,v3,v4⟩,dd,li,⟨g1,g2⟩,m1,m2,m3,m4⟩:=h;exact⟨⟨p1,p2,p3,k _ ⟨_,p2⟩ p4⟩,⟨o1,o2,o3,k _ ⟨_,o2⟩ o4⟩,⟨v1,v2,v3.imp k,k _ ⟨_,v2⟩ v4⟩,dd,li.imp k,⟨g1,k _ ⟨_,g1⟩ g2⟩,m1,m2,m3.imp k,k _ ⟨_,m2⟩ m4⟩
theorem PgAt.split(h:PgAt ok H d P):∃ lp lo lv dv li lg lm,H d=some (.dK (pgF P.len P.rest lp lo lv dv li lg lm))/\PgB ok H P lp lo lv dv li lg lm/\ok d:=by
 obtain⟨lp,lo,lv,dv,li,lg,lm,pts,ots,vts,mts,a1,a2,a3,a4,a5,a6,a7,a8,a9,b1,b2,b3,o1,o2,o3,o4,o5,o6⟩:=h;exact⟨lp,lo,lv,dv,li,lg,lm,a1,⟨⟨_,a2,a3,o2⟩,⟨_,a4,a5,o3⟩,⟨_,a6,a7,o4⟩,a8,a9,⟨b1,o5⟩,_,b2,b3,o6⟩,o1⟩
theorem PgAt.join{ok:Addr->Prop}{H:Hp}{d:Addr}{P:Pg}{lp lo lv:Addr}{dv li:V}{lg lm:Addr}(hd:H d=some (.dK (pgF P.len P.rest lp lo lv dv li lg lm)))(h:PgB ok H P lp lo lv dv li lg lm)(o:ok d):PgAt ok H d P:=by
 obtain⟨⟨p1,p2,p3,p4⟩,⟨o1,o2,o3,o4⟩,⟨v1,v2,v3,v4⟩,dd,li',⟨g1,g2⟩,m1,m2,m3,m4⟩:=h;exact⟨lp,lo,lv,dv,li,lg,lm,p1,o1,v1,m1,hd,p2,p3,o2,o3,v2,v3,dd,li',g1,m2,m3,o,p4,o4,v4,g2,m4⟩
theorem PgAt.other(h:PgAt ok H d P)(n:d≠e)(he:H e=some (.dK kvs)):PgAt ok (upd H e (.dK kvs')) d P:=by
 obtain⟨lp,lo,lv,dv,li,lg,lm,a1,a2,a3⟩:=h.split;exact .join (by rw[Zf n];exact a1) (a2.keepL (.dict he)) a3
theorem PgAt.setGoes(h:PgAt ok H d P)(hl:H l=some (.lst xs))(ol:ok l):∃ kvs,H d=some (.dK kvs)/\kvs.length<sizeLine/\PgAt ok (upd H d (.dK (putK kvs (.inr "goes") (.ref l)))) d { P with gv:=xs }:=by
 obtain⟨lp,lo,lv,dv,li,lg,lm,a1,a2,a3⟩:=h.split;refine⟨_,a1,zbn,?_⟩;rw[Ay];have b:=a2.keepL (.dict a1 (kvs':=pgF P.len P.rest lp lo lv dv li l lm));exact .join (P:={ P with gv:=xs }) Ze ⟨b.pp,b.oo,b.vv,b.dd,b.li,⟨(Wa.dict a1).1 _ _ hl,ol⟩,b.mm⟩ a3
def Vc(P:Pg):X9->Pg
 | .enrol n g c=>{ P with ppl:=P.ppl++[(n,g,c)],deed:=some ("enrol",n,(P.over.length:Int)+1) }
 | .away i n=>{ P with out:=P.out++[(i,n)],deed:=some ("away",n,i) }
 | .draw ms=>{ P with lis:=some ms,deed:=some ("draw up",(ms.length:Int),(P.over.length:Int)+1) }
 | .close=>{ P with over:=P.over++[⟨P.lis.getD [],Qt P (P.lis.getD []),P.gv,P.mv⟩],lis:=none,gv:=[],mv:=[] }
 | .back=>P
def Ls(ds:List Addr)(d d':Addr):X9->List Addr
 | .back=>ds
 | .close=>[d']
 | _=>ds++[d]++[d']
inductive Cp(K:Frag)(vs:List V)(H:Hp)(Q:VK)(_:XK):Prop where
 | mk(ok:Addr->Prop)(l t:Addr)(ds:List Addr)(d:Addr)(P:Pg)(D:X9)(_:vs=[.ref l,.ref t])(_:H l=some (.lst ((ds++[d]).map V.ref)))(_:PgAt ok H d P)(_:Xp ok H t D)(_:Hh P)(_:P.ppl.length<=100)(_:P.out.length<=900)(_:ds.length<=900)(_:(D=.close->∃ ms,P.lis=some ms/\ms.length<=100))(_:∀ l' d' H',H' l'=some (.lst ((Ls ds d d' D).map V.ref))->(D≠.back->PgAt (fun x=>ok x\/H x=none) H' d' (Vc P D))->Same H H'->H l'=none->H d'=none->Q (.ref l') H')
theorem zgu(xs:List V)(x:V):G9 (xs++[x]) none (some (-1))=xs:=by
 unfold G9 HT.sIx;simp;rw[show (-1+((xs.length:Int)+1)).toNat=xs.length by omega,List.take_left]
def zbq(ms:List P3):Prop:=(∀ m∈ms,¬ badM m)/\∀ m∈ms,m.1≠m.2.1
inductive Ky(K:Frag)(vs:List V)(H:Hp)(Q:VK)(_:XK):Prop where
 | mk(b:Addr)(ns:List Int)(cell:Int)(most mixed:Nat)(_:vs=[.int cell,.ref b,.int most,.int mixed])(_:H b=some (.lst (ns.map V.int)))(_:2<=ns.length)(_:ns.length<=100)(_:ns.Nodup)(_:(∀ n∈ns,1<=n/\n<=99))(_:most<=20)(_:mixed<=1)(_:∀ l ts ms H',H' l=some (.lst ts)->Z8 H' ts (ms.map pV)->ms.length<=most->zbq ms->Same H H'->H l=none->Q (.ref l) H')
def enV(x:P3):List V:=[.str "enrol",.int x.1,.int x.2.1,.int x.2.2]
inductive Hl(K:Frag)(vs:List V)(H:Hp)(Q:VK)(_:XK):Prop where
 | mk(b t lc ln:Addr)(ns cs nu:List Int)(_:vs=[.ref b,.ref t])(_:SqL K H b (ns.map V.int))(_:Nb H t lc ln cs nu)(_:∀ l ts (es:List P3) H',H' l=some (.lst ts)->Z8 H' ts (es.map enV)->es.map (·.1)=nu.take es.length->es.length<=nu.length->(∀ x∈es,1<=x.2.1/\x.2.1<=9/\x.2.2∈cs)->Same H H'->H l=none->Q (.ref l) H')
def zgv(P:Pg)(ds:List Addr)(cs nu:List Int)(most:Nat):X9->Prop
 | .enrol n g c=>P.lis=none/\n∈nu/\n∉P.ppl.map (·.1)/\1<=g/\g<=9/\c∈cs
 | .away i n=>(P.over.length:Int)<i/\i<=P.len/\n∈P.ppl.map (·.1)/\(i,n)∉P.out
 | .draw ms=>P.lis=none/\ms.length<=most/\zbq ms
 | .close=>P.lis≠none
 | .back=>ds≠[]
inductive A4(K:Frag)(vs:List V)(H:Hp)(Q:VK)(_:XK):Prop where
 | mk(ok:Addr->Prop)(l t lc ln:Addr)(ds:List Addr)(d:Addr)(P:Pg)(cell:Int)(cs nu:List Int)(most mixed:Nat)(_:vs=[.ref l,.int cell,.ref t,.int most,.int mixed])(_:H l=some (.lst ((ds++[d]).map V.ref)))(_:PgAt ok H d P)(_:Nb H t lc ln cs nu)(_:most<=20)(_:mixed<=1)(_:P.over.length<P.len)(_:P.ppl.length<=100)(_:∀ t' D H',Xp (fun x=>H x=none) H' t' D->zgv P ds cs nu most D->Same H H'->H t'=none->Q (.ref t') H')
theorem Dl(h1:Gr t σ H b)(h2:∀ H1,Same H H1->Gr u σ H1 c):Gr (zi1 t u) σ H (b&&c):=fun Q h=>by
 refine h1 _ fun H1 s1=>?_;cases b with
 | true=>exact h2 H1 s1 _ fun H2 s2=>h H2 (s1.trans s2)
 | false=>exact h H1 s1
theorem Kz{K:Frag}{H:Hp}:∀ ns:List Int,Tf K H (ns.map V.int) (ns.map Dt.int)
 | []=>.nil
 | w :: ws=>.cons (.int w) (Kz ws)
theorem K0{K:Frag}{σ:L2.St}{H:Hp}{i:Nat}{l:Addr}{ns:List Int}(hv:σ[i]?=some (some (.ref l)))(hl:H l=some (.lst (ns.map V.int))):Gr (Bh (tOp (zft K true) (Bc i) (zaw zav))) σ H (!ns.isEmpty):=fun Q q=>by
 refine⟨_,hv,zvo _,fun le hle=>?_⟩;have s:=Zk (o:=.lst []) hle;refine⟨_,_,.lst (SqL.of (s _ _ hl)) (Kz _),.lst (SqL.of Ze) .nil,Cc _,Py,_,rfl,?_⟩;rw[if_pos rfl,Jv];exact q _ s
theorem Mg.some(h:Mg ok H v x):(!decide (v=V.non))=x.isSome:=by
 cases x with
 | none=>cases (show v=V.non from h);rfl
 | some ms=>obtain⟨l,ts,rfl,_⟩:=h;rfl
theorem zgw{h y n:Int}(h0:0<=h)(h1:h<n)(y0:1<=y)(y1:y<=n-1):0<=(h+y)%n/\(h+y)%n<n/\(h+y)%n≠h:=by
 have hn:0<n:=by omega
 refine⟨zv2 _ ⋯,zvv _ hn,?_⟩;by_cases c:h+y<n
 ·rw[Int.emod_eq_of_lt ⋯ c];omega
 ·have e:(h+y)%n=h+y-n:=by
   rw[<- Int.sub_emod_right,Int.emod_eq_of_lt ⋯ ⋯]
  omega
theorem at2(x y:Int){k:Nat}(h:k<=1):∃ z,atI [V.int x,V.int y] (k:Int)=some (.int z):=by
 match k,h with
 | 0,_=>exact⟨x,rfl⟩
 | 1,_=>exact⟨y,rfl⟩
def Cq:List Int:=[1,2,3,4,5,6,7,8,9,1,1,1,1,2,2,3,3,4]
theorem zbr:∀ k,k<18->1<=Cq.getD k 0/\Cq.getD k 0<=9:=by decide
def Cr:List Int:=[1,2,3,4,5,6,7,8,9,9,9,9,9,8,8,7,6,5]
theorem zbs:∀ k,k<18->1<=Cr.getD k 0/\Cr.getD k 0<=9:=by decide
theorem Cs{ns:List Int}{i:Nat}(hi:i<ns.length):ns.getD i 0=ns[i]:=by
 rw[zvp,zuy hi];rfl
theorem zgx{ns:List Int}(nd:ns.Nodup){i j:Nat}(hi:i<ns.length)(hj:j<ns.length)(h:ns.getD i 0=ns.getD j 0):i=j:=by
 rw[Cs hi,Cs hj] at h;exact(List.getElem_inj nd).mp h
theorem Td{ns:List Int}{i:Nat}(hi:i<ns.length):ns.getD i 0∈ns:=by
 rw[Cs hi];exact zvs hi
def Tq(mb:Bool)(s:Zy):Zy:=if mb then s else { s with gaps:=[] }
theorem zh9(h:Tq mb s=Tq mb s'):s.ms=s'.ms/\s.may=s'.may/\s.gv=s'.gv/\(mb=true->s=s'):=by
 unfold Tq at h;cases mb with
 | true=>simp at h;subst h;exact⟨rfl,rfl,rfl,fun _=>rfl⟩
 | false=>simp at h;exact⟨h.1,h.2.1,h.2.2,fun z=>nomatch z⟩
theorem zen(mb:Bool)(s:Zy):Ye (Tq mb s)=Ye s:=by
 unfold Tq;cases mb<;>rfl
structure RelB(mb:Bool)(P:Pg)(S:Sea):Prop where
 len:P.len=S.len
 rest:P.rest=S.rest
 ppl:P.ppl=S.ppl
 out:P.out=S.out
 over:P.over.map (Tq mb)=S.old.map (Tq mb)
 lis:P.lis=S.cur.map (·.ms)
def Qn(S:Sea):zgq:=match S.cur with|some s=>s.gaps|none=>[]
theorem Vd(h:S.cur=some s):Qn S=s.gaps:=by unfold Qn;rw[h]
theorem Tr(h:S.cur=none):Qn S=[]:=by unfold Qn;rw[h]
structure Rel(mb:Bool)(P:Pg)(S:Sea):Prop where
 b:RelB mb P S
 gv:∀ s,S.cur=some s->P.gv=s.gv
 mv:mb=true->P.mv=Qn S
structure SOk(nu:List Int)(n:Nat)(S:Sea):Prop where
 cur:zgo S
 nd:(S.ppl.map (·.1)).Nodup
 ppl:∀ x∈S.ppl,x.1∈nu/\¬ badI x.1 x.2.1 x.2.2
 few:S.ppl.length<=30
 led:S.led=S.old.map Ye
 old:∀ s∈S.old,s.ms.length<=20/\s.gv.length=s.ms.length/\∀ x∈s.gv,oneV x
 len:S.led.length<=S.len/\S.len<=60/\S.rest<=10
 lt:S.cur≠none->S.led.length<S.len
 num:S.out.length<=n/\S.std.length<=n
 gp:∀ s,S.cur=some s\/s∈S.old->s.gaps.length<=n/\∀ x∈s.gaps,x.2.length<=100
theorem SOk.mono(h:SOk nu n S)(e:n<=m):SOk nu m S:=⟨h.cur,h.nd,h.ppl,h.few,h.led,h.old,h.len,h.lt,⟨zvb h.num.1 e,zvb h.num.2 e⟩,fun s hs=>⟨zvb (h.gp s hs).1 e,(h.gp s hs).2⟩⟩
theorem SOk.pok(h:SOk nu n S):Qm S:=⟨fun x hx=>(h.ppl x hx).2,h.few⟩
theorem SOk.olen(h:SOk nu n S):S.old.length=S.led.length:=by rw[h.led,zuw]
theorem zgy:∀ (Rs:List (List Row)),(∀ rs∈Rs,rs.length<=k)->tot Rs<=k*Rs.length
 | [],_=>by simp[tot]
 | rs :: Rs,h=>by
   have h1:=h rs (zvt);have h2:=zgy Rs fun x hx=>h x (zvg _ hx);unfold tot at *;simp only[zu9,List.sum_cons,zvi,Nat.mul_succ];omega
theorem SOk.tot(h:SOk nu n S):G.tot S.led<=1200:=by
 have h1:=zgy (k:=20) S.led fun rs hrs=>by
  rw[h.led] at hrs;obtain⟨s,hs,rfl⟩:=zu6.mp hrs;have:=h.old s hs;unfold Ye;rw[List.length_zipWith];omega
 have:=h.len;omega
theorem RelB.rows(r:RelB mb P S):P.over.map Ye=S.old.map Ye:=by
 have e:∀ l:List Zy,l.map Ye=(l.map (Tq mb)).map Ye:=fun l=>by
  rw[zwe];exact zwh fun s _=>(zen mb s).symm
 rw[e,r.over,<- e]
theorem RelB.olen(r:RelB mb P S):P.over.length=S.old.length:=by
 have:=congrArg List.length r.over
 simpa using this
theorem RelB.ovok(r:RelB mb P S)(o:SOk nu n S):Hh P:=by
 have h1:=r.olen;have h2:=o.olen;have h3:=o.len;refine⟨by omega,by rw[r.rest];omega,fun s hs=>?_⟩;have:Tq mb s∈S.old.map (Tq mb):=by rw[<- r.over];exact zu6.mpr ⟨s,hs,rfl⟩
 obtain⟨s',hs',e⟩:=zu6.mp this;obtain⟨e1,e2,e3,_⟩:=zh9 e;rw[<- e1,<- e3];exact o.old s' hs'
theorem RelB.may(r:RelB mb P S)(o:SOk nu n S)(ms:List P3):Qt P ms=mayS S ms :=
 zem r.ppl (by rw[r.rows,o.led]) r.out r.rest (by unfold atV;rw[r.olen,o.olen]) ms
theorem RelB.at(r:RelB mb P S)(o:SOk nu n S):(P.over.length:Int)+1=atV S:=by unfold atV;rw[r.olen,o.olen]
theorem RelB.undrawn(r:RelB mb P S)(h:P.lis=none):S.cur=none:=by
 have:=r.lis;rw[h] at this;cases e:S.cur with
 | none=>rfl
 | some s=>rw[e] at this;cases this
theorem RelB.drawn(r:RelB mb P S)(h:P.lis=some ms):∃ s,S.cur=some s/\s.ms=ms:=by
 have:=r.lis;rw[h] at this;cases e:S.cur with
 | none=>rw[e] at this;cases this
 | some s=>rw[e] at this;exact⟨s,rfl,(Option.some.inj this).symm⟩
theorem Ct{l m:List Int}(nd:l.Nodup)(h:∀ x∈l,x∈m):l.length<=m.length:=by
 induction l generalizing m with
 | nil=>exact zvo _
 | cons x l ih =>
   have hx:=h x (zvt);obtain⟨h1,h2⟩:=zvm.mp nd;have:=ih (m:=m.erase x) h2 fun y hy=>(List.mem_erase_of_ne (fun z=>h1 (by rw[<- z];exact hy))).mpr (h y (zvg _ hy));rw[List.length_erase_of_mem hx] at this;have:=List.length_pos_of_mem hx;simp only[zvi];omega
theorem zia{mb:Bool}{P:Pg}{S:Sea}{nu cs:List Int}{n most:Nat}{ds:List Addr}{D:X9}(r:RelB mb P S)(o:SOk nu n S)(g:zgv P ds cs nu most D)(hlt:P.over.length<P.len)(hm:most<=20)(hnu:nu.length<=30/\∀ n∈nu,1<=n/\n<=999)(hcs:∀ c∈cs,1<=c/\c<=99)(hb:ds≠[]->S.std≠[]):Mf S D:=by
 have h1:=r.olen;have h2:=o.olen;have h3:=r.len;cases D with
 | enrol k gr c =>
   obtain⟨g1,g2,g3,g4,g5,g6⟩:=g;rw[r.ppl] at g3;refine⟨by omega,r.undrawn g1,?_,g3,?_⟩
   ·have:=hnu.2 k g2;have:=hcs c g6;unfold badI;omega
   ·have:=Ct (l:=k :: S.ppl.map (·.1)) (m:=nu) (zvm.mpr ⟨g3,o.nd⟩) fun x hx=>by
     rcases zu4.mp hx with rfl|hx
     ·exact g2
     ·obtain⟨y,hy,rfl⟩:=zu6.mp hx;exact(o.ppl y hy).1
    rw[zvi,zuw] at this;omega
 | away i k =>
   obtain⟨g1,g2,g3,g4⟩:=g;rw[r.ppl] at g3;rw[r.out] at g4;exact⟨by omega,by omega,g3,g4⟩
 | draw ms =>
   obtain⟨g1,g2,g3⟩:=g;exact⟨by omega,r.undrawn g1,by omega,g3.1,g3.2⟩
 | close =>
   refine⟨by omega,fun z=>g ?_⟩;rw[r.lis,z];rfl
 | back=>exact hb g
theorem zeo(F:Ym rows gs)(hn:∀ i:Nat,gs[i]?≠some (V.int n)):Ym (without rows n) gs:=by
 refine⟨by unfold without;rw[zuw];exact F.len,F.one,fun k m h=>?_,F.inj⟩;obtain⟨r,h1,h2⟩:=F.may k m h;refine⟨r.filter fun x=>decide (x≠n),by unfold without;rw[zu1,h1];rfl,zvx.mpr ⟨h2,?_⟩⟩;refine zu3 fun z=>hn k ?_;rw[h,z]
theorem zbt(T:Vp rows gs):Vp (without rows n) gs:=fun p hp=>by
 obtain⟨S,h1,h2⟩:=T p hp;refine⟨S,h1,fun q hq=>⟨by unfold without;rw[zuw];exact(h2 q hq).1,fun r hr m hm=>?_⟩⟩;unfold without at hr;rw[zu1] at hr;obtain⟨r0,e1,rfl⟩:=zwv.mp hr;exact(h2 q hq).2 r0 e1 m (zvx.mp hm).1
theorem zep(h:atV S<i)(ms:List P3):mayS (Xk S i n) ms=mayS S ms:=by
 unfold mayS;refine zwh fun m _=>?_;unfold Fj;have:∀ x:P3,pIn (Xk S i n).out (atV (Xk S i n)) x=pIn S.out (atV S) x:=fun x=>by
  show decide ((atV S,x.1)∈S.out++[(i,n)])=decide ((atV S,x.1)∈S.out);have:((atV S,x.1)∈S.out++[(i,n)])↔((atV S,x.1)∈S.out):=by
   simp only[zu8,zu0,Prod.mk.injEq];constructor
   ·rintro(h|⟨h,_⟩)
    ·exact h
    ·omega
   ·exact .inl
  exact decide_eq_decide.mpr this
 simp only[this];rfl
theorem A5(o:SOk nu n S)(g:Mf S D)(af:Si H' S D S' v)(hb:D≠.back)(hn:∀ k gr c,D=.enrol k gr c->k∈nu):SOk nu (n+1) S'/\((D=.close/\S'.std=[]/\S'.cur=none)\/(D≠.close/\Ol S S')):=by
 obtain⟨n1,n2⟩:=o.num;cases af with
 | enrol k gr c =>
   obtain⟨g1,g2,g3,g4,g5⟩:=g;refine⟨⟨fun s hs=>?_,?_,fun x hx=>?_,?_,o.led,o.old,o.len,fun _=>g1,⟨?_,?_⟩,fun s hs=>⟨zwi (o.gp s hs).1,(o.gp s hs).2⟩⟩,.inr ⟨nofun,(("enrol":Str),k,atV S),rfl,.inl ⟨rfl,⟨gr,c,rfl⟩,rfl⟩,rfl,rfl,rfl,rfl⟩⟩
   ·have hs:S.cur=some s:=hs;rw[g2] at hs;cases hs
   ·show (List.map (·.1) (S.ppl++[(k,gr,c)])).Nodup;rw[zu5,List.nodup_append];refine⟨o.nd,by simp,fun x hx y hy=>?_⟩;rw[zu9,List.map_nil,zu0] at hy;subst hy;rintro rfl;exact g4 hx
   ·rcases zu8.mp hx with hx|hx
    ·exact o.ppl x hx
    ·rw[zu0.mp hx];exact⟨hn k gr c rfl,g3⟩
   ·show (S.ppl++[(k,gr,c)]).length<=30;rw[zuz];show S.ppl.length+1<=30;omega
   ·show S.out.length<=n+1;omega
   ·show (S.std++[_]).length<=n+1;rw[zuz];show S.std.length+1<=n+1;omega
 | @awayN i k l h hl =>
   obtain⟨g1,g2,g3,g4⟩:=g;refine⟨⟨fun s hs=>?_,o.nd,o.ppl,o.few,o.led,o.old,o.len,o.lt,⟨?_,?_⟩,fun s hs=>⟨zwi (o.gp s hs).1,(o.gp s hs).2⟩⟩,.inr ⟨nofun,(("away":Str),k,i),rfl,.inr (.inl ⟨rfl,rfl,rfl,g4⟩),rfl,rfl,rfl,rfl⟩⟩
   ·have hs:S.cur=some s:=hs;rcases h with h|h
    ·rw[h] at hs;cases hs
    ·obtain⟨c1,c2,c3,c4,c5⟩:=o.cur s hs;refine⟨c1,c2,c3,by rw[zep h];exact c4,?_⟩;show s.gaps.length<=(S.std++[_]).length;rw[zuz];omega
   ·show (S.out++[_]).length<=n+1;rw[zuz];show S.out.length+1<=n+1;omega
   ·show (S.std++[_]).length<=n+1;rw[zuz];show S.std.length+1<=n+1;omega
 | @awayF k s l h hp hl =>
   obtain⟨g1,g2,g3,g4⟩:=g;obtain⟨c1,c2,c3,c4,c5⟩:=o.cur s h;refine⟨⟨fun s' hs=>?_,o.nd,o.ppl,o.few,o.led,o.old,o.len,fun _=>o.lt (by rw[h];exact nofun),⟨?_,?_⟩,fun s' hs=>?_⟩,.inr ⟨nofun,(("away":Str),k,atV S),rfl,.inr (.inl ⟨rfl,rfl,rfl,g4⟩),rfl,rfl,rfl,rfl⟩⟩
   ·have hs:some { s with may:=mayS (Xk S (atV S) k) s.ms }=some s':=hs;cases hs;have hno:∀ i:Nat,s.gv[i]?≠some (V.int k):=by
     rcases Kr s.gv k with z|⟨i,z,_⟩
     ·exact z.2
     ·rw[hp] at z;cases z
    refine⟨c1,?_,?_,rfl,?_⟩
    ·show Ym (mayS (Xk S (atV S) k) s.ms) s.gv;rw[Vt,<- c4];exact zeo c2 hno
    ·show Vp (mayS (Xk S (atV S) k) s.ms) s.gv;rw[Vt,<- c4];exact zbt c3
    ·show s.gaps.length<=(S.std++[_]).length;rw[zuz];omega
   ·show (S.out++[_]).length<=n+1;rw[zuz];show S.out.length+1<=n+1;omega
   ·show (S.std++[_]).length<=n+1;rw[zuz];show S.std.length+1<=n+1;omega
   ·have old:=o.gp s (.inl h);rcases hs with hs|hs
    ·have hs:some { s with may:=mayS (Xk S (atV S) k) s.ms }=some s':=hs;cases hs;exact⟨zwi old.1,old.2⟩
    ·have:=o.gp s' (.inr hs);exact⟨zwi this.1,this.2⟩
 | @awayC k s p e l us st w h hp hl tl CR =>
   obtain⟨g1,g2,g3,g4⟩:=g;obtain⟨c1,c2,c3,c4,c5⟩:=o.cur s h;refine⟨⟨fun s' hs=>?_,o.nd,o.ppl,o.few,o.led,o.old,o.len,fun _=>o.lt (by rw[h];exact nofun),⟨?_,?_⟩,fun s' hs=>?_⟩,.inr ⟨nofun,(("away":Str),k,atV S),rfl,.inr (.inl ⟨rfl,rfl,rfl,g4⟩),rfl,rfl,rfl,rfl⟩⟩
   ·have hs:some (⟨s.ms,mayS (Xk S (atV S) k) s.ms,Yh st (s.gv.set p .non),s.gaps++[(k,st)]⟩:Zy)=some s':=hs;cases hs;have hx:=To hp;rw[Vt,<- c4] at CR;have F0:=Vr c2 hx;have hpl:p<(without s.may k).length:=by
     unfold without;rw[zuw,<- c2.len];exact(zux.mp hx).1
    refine⟨c1,?_,?_,rfl,?_⟩
    ·show Ym (mayS (Xk S (atV S) k) s.ms) _;rw[Vt,<- c4];exact CR.fill F0 hpl
    ·show Vp (mayS (Xk S (atV S) k) s.ms) _;rw[Vt,<- c4];exact B5 c2 c3 hx CR
    ·show (s.gaps++[_]).length<=(S.std++[_]).length;rw[zuz,zuz];show s.gaps.length+1<=S.std.length+1;omega
   ·show (S.out++[_]).length<=n+1;rw[zuz];show S.out.length+1<=n+1;omega
   ·show (S.std++[_]).length<=n+1;rw[zuz];show S.std.length+1<=n+1;omega
   ·have old:=o.gp s (.inl h);rcases hs with hs|hs
    ·have hs:some (⟨s.ms,mayS (Xk S (atV S) k) s.ms,Yh st (s.gv.set p .non),s.gaps++[(k,st)]⟩:Zy)=some s':=hs;cases hs;have hx:=To hp;rw[Vt,<- c4] at CR;have hpl:p<(without s.may k).length:=by
      unfold without;rw[zuw,<- c2.len];exact(zux.mp hx).1
     have hcl:=CR.len (Vr c2 hx) hpl;have hwl:(without s.may k).length=s.may.length:=by unfold without;rw[zuw]
     have hml:s.may.length=s.ms.length:=by rw[c4];unfold mayS;rw[zuw]
     refine⟨by show (s.gaps++[_]).length<=n+1;rw[zuz];show s.gaps.length+1<=n+1;omega,fun x hx'=>?_⟩;rcases zu8.mp hx' with z|z
     ·exact old.2 x z
     ·rw[zu0.mp z];show st.length<=100;omega
    ·have:=o.gp s' (.inr hs);exact⟨zwi this.1,this.2⟩
 | @draw ms gv l hl F T =>
   obtain⟨g1,g2,g3,g4,g5⟩:=g;refine⟨⟨fun s' hs=>?_,o.nd,o.ppl,o.few,o.led,o.old,o.len,fun _=>g1,⟨?_,?_⟩,fun s' hs=>?_⟩,.inr ⟨nofun,(("draw up":Str),(ms.length:Int),atV S),rfl,.inr (.inr ⟨rfl,rfl,rfl⟩),rfl,rfl,rfl,rfl⟩⟩
   ·have hs:some (⟨ms,mayS S ms,gv,[]⟩:Zy)=some s':=hs;cases hs;exact⟨g3,F,T,rfl,zvo _⟩
   ·show S.out.length<=n+1;omega
   ·show (S.std++[_]).length<=n+1;rw[zuz];show S.std.length+1<=n+1;omega
   ·rcases hs with hs|hs
    ·have hs:some (⟨ms,mayS S ms,gv,[]⟩:Zy)=some s':=hs;cases hs;exact⟨zvo _,nofun⟩
    ·have:=o.gp s' (.inr hs);exact⟨zwi this.1,this.2⟩
 | @close s h =>
   obtain⟨g1,g2⟩:=g;obtain⟨c1,c2,c3,c4,c5⟩:=o.cur s h;refine⟨⟨fun s' hs=>(by cases hs),o.nd,o.ppl,o.few,?_,fun x hx=>?_,⟨?_,o.len.2⟩,fun z=>absurd rfl z,⟨?_,zvo _⟩,fun s' hs=>?_⟩,.inl ⟨rfl,rfl,rfl⟩⟩
   ·show S.led++[Ye s]=List.map Ye (S.old++[s]);rw[zu5,o.led];rfl
   ·rcases zu8.mp hx with hx|hx
    ·exact o.old x hx
    ·rw[zu0.mp hx];refine⟨c1,?_,c2.one⟩;rw[c2.len,c4];unfold mayS;rw[zuw]
   ·show (S.led++[_]).length<=S.len;rw[zuz];exact g1
   ·show S.out.length<=n+1;omega
   ·rcases hs with hs|hs
    ·cases hs
    ·have hs:s'∈S.old++[s]:=hs;rcases zu8.mp hs with z|z
     ·have:=o.gp s' (.inr z);exact⟨zwi this.1,this.2⟩
     ·rw[zu0.mp z];have:=o.gp s (.inl h);exact⟨zwi this.1,this.2⟩
 | back h ht hs=>exact absurd rfl hb
theorem Dm(r:Rel mb P S)(o:SOk nu n S)(g:Mf S D)(af:Si H' S D S' v)(hb:D≠.back):RelB mb (Vc P D) S':=by
 obtain⟨⟨r1,r2,r3,r4,r5,r6⟩,rg,rm⟩:=id r;cases af with
 | enrol k gr c=>exact⟨r1,r2,by show P.ppl++_=S.ppl++_;rw[r3],r4,r5,r6⟩
 | @awayN i k l h hl=>exact⟨r1,r2,r3,by show P.out++_=S.out++_;rw[r4],r5,r6⟩
 | @awayF k s l h hp hl=>exact⟨r1,r2,r3,by show P.out++_=S.out++_;rw[r4],r5,by show P.lis=_;rw[r6,h];rfl⟩
 | @awayC k s p e l us st w h hp hl tl CR=>exact⟨r1,r2,r3,by show P.out++_=S.out++_;rw[r4],r5,by show P.lis=_;rw[r6,h];rfl⟩
 | @draw ms gv l hl F T=>exact⟨r1,r2,r3,r4,r5,rfl⟩
 | @close s h =>
   have hl:P.lis=some s.ms:=by rw[r6,h];rfl
   refine⟨r1,r2,r3,r4,?_,rfl⟩;show List.map (Tq mb) (P.over++[⟨P.lis.getD [],Qt P (P.lis.getD []),P.gv,P.mv⟩])=List.map (Tq mb) (S.old++[s]);rw[zu5,zu5,r5,hl]
   congr 1
   have e1:=(o.cur s h).2.2.2.1;have e2:=r.b.may o s.ms;have e3:=rg s h;unfold Tq;cases mb with
   | true =>
     have e4:P.mv=s.gaps:=by rw[rm rfl,Vd h]
     show [(⟨s.ms,Qt P s.ms,P.gv,P.mv⟩:Zy)]=[s];rw[e2,e3,e4,<- e1]
   | false =>
     show [(⟨s.ms,Qt P s.ms,P.gv,[]⟩:Zy)]=[(⟨s.ms,s.may,s.gv,[]⟩:Zy)];rw[e2,e3,<- e1]
 | back h ht hs=>exact absurd rfl hb
theorem Dp(h1:Ol S1 S)(h2:Ol S2 S):S1=S2:=by
 obtain⟨d1,a1,a2,a3,a4,a5,a6⟩:=h1;obtain⟨d2,b1,b2,b3,b4,b5,b6⟩:=h2;have e:=a1.symm.trans b1;obtain⟨e1,e2⟩:=List.append_inj' e rfl;have e3:=List.cons.inj e2;obtain⟨e4,e5⟩:=Prod.mk.inj e3.1;subst e4;have w1:("enrol":Str)≠"away":=by decide +kernel
 have w2:("enrol":Str)≠"draw up":=by decide +kernel
 have w3:("away":Str)≠"draw up":=by decide +kernel
 have e6:S1.ppl=S2.ppl/\S1.out=S2.out:=by
  rcases a2 with ⟨x1,⟨g,c,x2⟩,x3⟩|⟨x1,x2,x3,_⟩|⟨x1,x2,x3⟩<;>rcases b2 with ⟨y1,⟨g',c',y2⟩,y3⟩|⟨y1,y2,y3,_⟩|⟨y1,y2,y3⟩
  ·exact⟨(List.append_inj' (x2.symm.trans y2) rfl).1,x3.trans y3.symm⟩
  ·exact absurd (x1.symm.trans y1) w1
  ·exact absurd (x1.symm.trans y1) w2
  ·exact absurd (y1.symm.trans x1) w1
  ·exact⟨x2.trans y2.symm,(List.append_inj' (x3.symm.trans y3) rfl).1⟩
  ·exact absurd (x1.symm.trans y1) w3
  ·exact absurd (y1.symm.trans x1) w2
  ·exact absurd (y1.symm.trans x1) w3
  ·exact⟨x2.trans y2.symm,x3.trans y3.symm⟩
 obtain⟨l1,q1,p1,d1',o1,ol1,c1,s1⟩:=S1;obtain⟨l2,q2,p2,d2',o2,ol2,c2,s2⟩:=S2;simp only at *;obtain⟨e7,e8⟩:=e6;subst e1 e5 e7 e8;rw[<- a3,<- b3,<- a4,<- b4,<- a5,<- b5,<- a6,<- b6]
structure FrN(A A':SAd)(H H':Hp):Prop where
 p:A'.p=A.p
 k:∀ b o,H b=some o->b∉A.fp->H' b=some o/\b∉A'.fp
 kt:∀ t xs,H t=some (.tup xs)->H' t=some (.tup xs)
theorem FrN.refl(A:SAd)(H:Hp):FrN A A H H:=⟨rfl,fun b o e n=>⟨e,n⟩,fun _ _ e=>e⟩
theorem FrN.of(e:Same H H'):FrN A A H H':=⟨rfl,fun b o z n=>⟨e _ _ z,n⟩,fun _ _ z=>e _ _ z⟩
theorem FrN.trans(h1:FrN A A1 H H1)(h2:FrN A1 A2 H1 H2):FrN A A2 H H2:=⟨h2.p.trans h1.p,fun b o e n=>by
 obtain⟨a1,a2⟩:=h1.k b o e n;exact h2.k b o a1 a2,fun t xs e=>h2.kt _ _ (h1.kt _ _ e)⟩
theorem Kw.out(nx:Kw A A' H)(e:H b=some o)(n:b∉A.fp):b∉A'.fp:=by
 obtain⟨x,rfl,hx⟩:=nx;simp only[SAd.fp,zu4,zv1,or_false] at n ⊢;rcases hx with rfl|hx
 ·exact n
 ·have:b≠x:=Zh e hx;rintro(z|z|z|z|z|z|z)
  ·exact n (.inl z)
  ·exact n (.inr (.inl z))
  ·exact n (.inr (.inr (.inl z)))
  ·exact n (.inr (.inr (.inr (.inl z))))
  ·exact n (.inr (.inr (.inr (.inr (.inl z)))))
  ·exact n (.inr (.inr (.inr (.inr (.inr (.inl z))))))
  ·exact this z
theorem FrN.next(SA:Zx ca H A S)(nx:Kw A A' H)(f:FrS A H H'):FrN A A' H H':=⟨by obtain⟨x,rfl,_⟩:=nx;rfl,fun b o e n=>⟨f b o e n,nx.out e n⟩,SA.tups f⟩
def Sj(K:Frag)(A:SAd)(H:Hp)(b:Addr)(xs:List V):Prop:=(Rd H b (.lst xs)/\b∉A.fp)\/∀ H',SqL K H' b xs
theorem Sj.sq{K:Frag}{A:SAd}{H:Hp}{b:Addr}{xs:List V}(h:Sj K A H b xs):SqL K H b xs:=by
 rcases h with h|h
 ·exact .inl h.1
 ·exact h H
theorem Sj.fr{K:Frag}{A A':SAd}{H H':Hp}{b:Addr}{xs:List V}(f:FrN A A' H H')(h:Sj K A H b xs):Sj K A' H' b xs:=by
 rcases h with ⟨h,n⟩|h
 ·rcases h with h|⟨o,h⟩
  ·exact .inl ⟨.inl (f.k _ _ h n).1,(f.k _ _ h n).2⟩
  ·exact .inl ⟨.inr ⟨o,(f.k _ _ h n).1⟩,(f.k _ _ h n).2⟩
 ·exact .inr h
theorem Sj.make{K:Frag}{H:Hp}{b:Addr}{xs:List V}(h:SqL K H b xs)(A:SAd)(H':Hp)(s:Same H H')(hf:∀ x∈A.fp,H x=none):Sj K A H' b xs:=by
 rcases h with h|h
 ·have hn:b∉A.fp:=fun z=>by
   have:=hf b z;rcases h with h|⟨o,h⟩<;>(rw[this] at h;cases h)
  rcases h with h|⟨o,h⟩
  ·exact .inl ⟨.inl (s _ _ h),hn⟩
  ·exact .inl ⟨.inr ⟨o,s _ _ h⟩,hn⟩
 ·exact .inr fun _=>.inr h
structure Mh(A:SAd)(H:Hp)(t lc ln:Addr)(cs nu:List Int):Prop where
 at_:Nb H t lc ln cs nu
 o:t∉A.fp/\lc∉A.fp/\ln∉A.fp
theorem Mh.fr{A A':SAd}{H H':Hp}{t lc ln:Addr}{cs nu:List Int}(f:FrN A A' H H')(h:Mh A H t lc ln cs nu):Mh A' H' t lc ln cs nu:=by
 obtain⟨⟨a1,a2,a3,a4,a5,a6,a7,a8,a9⟩,o1,o2,o3⟩:=h;exact⟨⟨(f.k _ _ a1 o1).1,(f.k _ _ a2 o2).1,(f.k _ _ a3 o3).1,a4,a5,a6,a7,a8,a9⟩,(f.k _ _ a1 o1).2,(f.k _ _ a2 o2).2,(f.k _ _ a3 o3).2⟩
inductive Bk(mb:Bool)(ok:Addr->Prop)(H:Hp)(nu:List Int)(n:Nat):List Addr->Sea->Prop where
 | one {d:Addr} {P:Pg} {S:Sea} (h:PgAt ok H d P) (r:Rel mb P S) (o:SOk nu n S) (e:S.std=[]):Bk mb ok H nu n [d] S
 | snoc {ds:List Addr} {d:Addr} {P:Pg} {S S':Sea} (b:Bk mb ok H nu n ds S) (nd:d∉ds) (h:PgAt ok H d P) (r:Rel mb P S') (o:SOk nu n S') (st:Ol S S') (hd:∃ x,P.deed=some x/\S'.std=S.std++[(x,S.cur)]):Bk mb ok H nu n (ds++[d]) S'
section
variable{mb:Bool}{ok ok':Addr->Prop}{H H':Hp}{nu:List Int}{n m:Nat}{ds:List Addr}{d:Addr}{P:Pg}{S S':Sea}
theorem Bk.keep(b:Bk mb ok H nu n ds S)(k:∀ x o,ok x->H x=some o->H' x=some o)(kt:∀ t xs,H t=some (.tup xs)->H' t=some (.tup xs)):Bk mb ok H' nu n ds S:=by
 induction b with
 | one h r o e=>exact .one (h.keep k kt) r o e
 | snoc b nd h r o st hd ih=>exact .snoc ih nd (h.keep k kt) r o st hd
theorem Bk.imp(b:Bk mb ok H nu n ds S)(k:∀ x,(∃ o,H x=some o)->ok x->ok' x):Bk mb ok' H nu n ds S:=by
 induction b with
 | one h r o e=>exact .one (h.imp k) r o e
 | snoc b nd h r o st hd ih=>exact .snoc ih nd (h.imp k) r o st hd
theorem Bk.mono(b:Bk mb ok H nu n ds S)(e:n<=m):Bk mb ok H nu m ds S:=by
 induction b with
 | one h r o e'=>exact .one h r (o.mono e) e'
 | snoc b nd h r o st hd ih=>exact .snoc ih nd h r (o.mono e) st hd
theorem Bk.there(b:Bk mb ok H nu n ds S):∀ d∈ds,∃ kvs,H d=some (.dK kvs):=by
 induction b with
 | one h r o e =>
   intro d hd;rw[zu0.mp hd];obtain⟨_,_,_,_,_,_,_,a,_⟩:=h.split;exact⟨_,a⟩
 | snoc b nd h r o st hd ih =>
   intro d' hd';rcases zu8.mp hd' with z|z
   ·exact ih d' z
   ·rw[zu0.mp z];obtain⟨_,_,_,_,_,_,_,a,_⟩:=h.split;exact⟨_,a⟩
theorem Bk.other(b:Bk mb ok H nu n ds S)(he:H e=some (.dK kvs))(hn:e∉ds):Bk mb ok (upd H e (.dK kvs')) nu n ds S:=by
 induction b with
 | one h r o e'=>exact .one (h.other (fun z=>hn (by rw[z];exact zwu _)) he) r o e'
 | snoc b nd h r o st hd ih=>exact .snoc (ih fun z=>hn (zvn _ z)) nd (h.other (fun z=>hn (by rw[z];exact zvj _ (zwu _))) he) r o st hd
structure zgz(mb:Bool)(ok:Addr->Prop)(H:Hp)(nu:List Int)(n:Nat)(ds:List Addr)(d:Addr)(dd:Option Rh)(S:Sea):Prop where
 nd:d∉ds
 ex:(ds=[]/\S.std=[])\/∃ S0,Bk mb ok H nu n ds S0/\Ol S0 S/\∃ x,dd=some x/\S.std=S0.std++[(x,S0.cur)]
structure Mi(mb:Bool)(ok:Addr->Prop)(H:Hp)(nu:List Int)(n:Nat)(ds:List Addr)(d:Addr)(P:Pg)(S:Sea):Prop where
 pg:PgAt ok H d P
 rb:RelB mb P S
 so:SOk nu n S
 tl:zgz mb ok H nu n ds d P.deed S
structure Ut(mb:Bool)(ok:Addr->Prop)(H:Hp)(nu:List Int)(n:Nat)(ds:List Addr)(d:Addr)(P:Pg)(S:Sea):Prop where
 pg:PgAt ok H d P
 re:Rel mb P S
 so:SOk nu n S
 tl:zgz mb ok H nu n ds d P.deed S
theorem Ut.pend(h:Ut mb ok H nu n ds d P S):Mi mb ok H nu n ds d P S:=⟨h.pg,h.re.b,h.so,h.tl⟩
theorem Ut.bk(h:Ut mb ok H nu n ds d P S):Bk mb ok H nu n (ds++[d]) S:=by
 obtain⟨nd,⟨rfl,e⟩|⟨S0,b,st,hd⟩⟩:=h.tl
 ·exact .one h.pg h.re h.so e
 ·exact .snoc b nd h.pg h.re h.so st hd
theorem Bk.full(b:Bk mb ok H nu n xs S):∃ ds d P,xs=ds++[d]/\Ut mb ok H nu n ds d P S:=by
 cases b with
 | one h r o e=>exact⟨[],_,_,rfl,h,r,o,nofun,.inl ⟨rfl,e⟩⟩
 | snoc b nd h r o st hd=>exact⟨_,_,_,rfl,h,r,o,nd,.inr ⟨_,b,st,hd⟩⟩
theorem zgz.keep(h:zgz mb ok H nu n ds d dd S)(k:∀ x o,ok x->H x=some o->H' x=some o)(kt:∀ t xs,H t=some (.tup xs)->H' t=some (.tup xs)):zgz mb ok H' nu n ds d dd S:=by
 obtain⟨nd,e|⟨S0,b,r⟩⟩:=h
 ·exact⟨nd,.inl e⟩
 ·exact⟨nd,.inr ⟨S0,b.keep k kt,r⟩⟩
theorem Mi.same(h:Mi mb ok H nu n ds d P S)(e:Same H H'):Mi mb ok H' nu n ds d P S:=⟨h.pg.same e,h.rb,h.so,h.tl.keep (fun _ _ _ q=>e _ _ q) fun _ _ q=>e _ _ q⟩
theorem Ut.same(h:Ut mb ok H nu n ds d P S)(e:Same H H'):Ut mb ok H' nu n ds d P S:=⟨h.pg.same e,h.re,h.so,h.tl.keep (fun _ _ _ q=>e _ _ q) fun _ _ q=>e _ _ q⟩
theorem Mi.full(h:Mi mb ok H nu n ds d P S)(hg:∀ s,S.cur=some s->P.gv=s.gv)(hm:mb=true->P.mv=Qn S):Ut mb ok H nu n ds d P S:=⟨h.pg,⟨h.rb,hg,hm⟩,h.so,h.tl⟩
end
theorem A6(r:RelB mb P S)(o:SOk nu n S)(af:Si H' S D S' v)(hb:D≠.back)(hc:D≠.close):∃ x,(Vc P D).deed=some x/\S'.std=S.std++[(x,S.cur)]:=by
 have e:=r.at o;cases af with
 | enrol k gr c=>exact⟨_,rfl,by rw[e]⟩
 | awayN h hl=>exact⟨_,rfl,rfl⟩
 | awayF h hp hl=>exact⟨_,rfl,rfl⟩
 | awayC h hp hl tl CR=>exact⟨_,rfl,rfl⟩
 | draw hl F T=>exact⟨_,rfl,by rw[e];rfl⟩
 | close h=>exact absurd rfl hc
 | back h ht hs=>exact absurd rfl hb
theorem turn(F:Ut mb (·∉A.fp) H nu n ds d P S)(SA:Zx ca H A S)(af:Si H1 S D S' v)(SA1:Zx ca H1 A' S')(nx:Kw A A' H)(fr:FrS A H H1)(g:Mf S D)(hn:∀ k gr c,D=.enrol k gr c->k∈nu)
  (pg:D≠.back->PgAt (fun x=>x∉A'.fp\/H1 x=none) H2 d' (Vc P D)) (s2:Same H1 H2) (fd:H1 d'=none) :
  ∃ ds2 d2 P2,Ls ds d d' D=ds2++[d2]/\Mi mb (·∉A'.fp) H2 nu (n+1) ds2 d2 P2 S'/\(D≠.back->P2=Vc P D)/\(D=.back\/D=.close->(∀ s,S'.cur=some s->P2.gv=s.gv)/\(mb=true->P2.mv=Qn S')):=by
 have mv:∀ {xs:List Addr} {S0:Sea},Bk mb (·∉A.fp) H nu n xs S0->Bk mb (·∉A'.fp) H2 nu (n+1) xs S0:=fun b=>by
  have b1:=b.imp (ok':=fun x=>x∉A.fp/\x∉A'.fp) fun x ⟨o,e⟩ z=>⟨z,nx.out e z⟩
  have b2:=b1.keep (H':=H2) (fun x o z e=>s2 _ _ (fr x o e z.1)) fun t xs e=>s2 _ _ (SA.tups fr t xs e);exact(b2.imp fun x _ z=>z.2).mono (Nat.le_succ n)
 have hd1:∀ x∈ds++[d],x≠d':=fun x hx z=>by
  have b1:=F.bk.imp (ok':=fun x=>x∉A.fp/\x∉A'.fp) fun x ⟨o,e⟩ z=>⟨z,nx.out e z⟩
  have b2:=b1.keep (H':=H1) (fun x o z e=>fr x o e z.1) fun t xs e=>SA.tups fr t xs e;obtain⟨kvs,e⟩:=b2.there x hx;rw[z,fd] at e;cases e
 by_cases hb:D=.back
 ·subst hb;cases af with
  | @back S0' dd t h ht hs =>
    obtain⟨nd,⟨_,e⟩|⟨S0,b,st,_⟩⟩:=F.tl
    ·exact absurd e g
    ·have es:=Dp hs st;subst es;obtain⟨ds2,d2,P2,e,F2⟩:=(mv b).full;exact⟨ds2,d2,P2,e,F2.pend,fun z=>absurd rfl z,fun _=>⟨F2.re.gv,F2.re.mv⟩⟩
 ·have pg':PgAt (·∉A'.fp) H2 d' (Vc P D):=(pg hb).imp fun x hx z=>by
   rcases z with z|z
   ·exact z
   ·exact SA1.newOk x z
  obtain⟨o',ho⟩:=A5 F.so g af hb hn;have rb:=Dm F.re F.so g af hb;rcases ho with ⟨rfl,e1,e2⟩|⟨hc,st⟩
  ·exact⟨[],d',_,rfl,⟨pg',rb,o',nofun,.inl ⟨rfl,e1⟩⟩,fun _=>rfl,fun _=>⟨fun s hs=>(by rw[e2] at hs;cases hs),fun _=>(by rw[Tr e2];rfl)⟩⟩
  ·have hk:Ls ds d d' D=(ds++[d])++[d']:=by
    cases D with
    | back=>exact absurd rfl hb
    | close=>exact absurd rfl hc
    | enrol _ _ _=>rfl
    | away _ _=>rfl
    | draw _=>rfl
   refine⟨ds++[d],d',_,hk,⟨pg',rb,o',fun z=>hd1 d' z rfl,.inr ⟨S,mv F.bk,st,A6 F.re.b F.so af hb hc⟩⟩,fun _=>rfl,?_⟩;rintro(z|z)
   ·exact absurd z hb
   ·exact absurd z hc
section
variable{mb:Bool}{ok ok':Addr->Prop}{A A':SAd}{H H':Hp}{nu:List Int}{n m:Nat}{ds:List Addr}{d:Addr}{P:Pg}{S S':Sea}{D:X9}
theorem PgAt.fr(f:FrN A A' H H')(h:PgAt (·∉A.fp) H d P):PgAt (·∉A'.fp) H' d P:=by
 have b1:=h.imp (ok':=fun x=>x∉A.fp/\x∉A'.fp) fun x ⟨o,e⟩ z=>⟨z,(f.k x o e z).2⟩
 have b2:=b1.keep (H':=H') (fun x o z e=>(f.k x o e z.1).1) f.kt;exact b2.imp fun x _ z=>z.2
theorem Xp.fr(f:FrN A A' H H')(h:Xp (·∉A.fp) H t D):Xp (·∉A'.fp) H' t D:=by
 cases D with
 | enrol a b c=>exact f.kt _ _ h
 | away a b=>exact f.kt _ _ h
 | draw ms =>
   obtain⟨l,ts,a1,a2,a3,a4⟩:=h;exact⟨l,ts,f.kt _ _ a1,(f.k _ _ a2 a4).1,a3.mono f.kt,(f.k _ _ a2 a4).2⟩
 | close=>exact f.kt _ _ h
 | back=>exact f.kt _ _ h
theorem Xp.same(e:Same H H')(h:Xp ok H t D):Xp ok H' t D:=by
 cases D with
 | enrol a b c=>exact e _ _ h
 | away a b=>exact e _ _ h
 | draw ms =>
   obtain⟨l,ts,a1,a2,a3,a4⟩:=h;exact⟨l,ts,e _ _ a1,e _ _ a2,a3.mono fun _ _ z=>e _ _ z,a4⟩
 | close=>exact e _ _ h
 | back=>exact e _ _ h
theorem Xp.imp(k:∀ x,ok x->ok' x)(h:Xp ok H t D):Xp ok' H t D:=by
 cases D with
 | enrol a b c=>exact h
 | away a b=>exact h
 | draw ms =>
   obtain⟨l,ts,a1,a2,a3,a4⟩:=h;exact⟨l,ts,a1,a2,a3,k _ a4⟩
 | close=>exact h
 | back=>exact h
theorem Bk.len(b:Bk mb ok H nu n ds S):ds.length=S.std.length+1:=by
 induction b with
 | one h r o e=>rw[e];rfl
 | snoc b nd h r o st hd ih =>
   obtain⟨x,_,e⟩:=hd;rw[e,zuz,zuz,ih];rfl
theorem Ut.len(F:Ut mb ok H nu n ds d P S):ds.length=S.std.length:=by
 have:=F.bk.len;rw[zuz] at this;have h1:[d].length=1:=rfl;omega
theorem Ut.pre(F:Ut mb ok H nu n ds d P S)(g:Mf S D)(hn:n<100):zgo S/\Qm S/\S.std.length<100/\S.out.length<=100000/\2*(tot S.led+1000)<=100000/\S.led.length<=1000/\S.old.length<=1000/\S.len<=1000/\(∀ i k,D=.away i k->Yi k)/\(D=.back->∃ S0,Ol S0 S):=by
 have h1:=F.so.num;have h2:=F.so.len;have h3:=F.so.olen;have h4:=F.so.tot;refine⟨F.so.cur,F.so.pok,by omega,by omega,by omega,by omega,by omega,by omega,?_,?_⟩
 ·rintro i k rfl;obtain⟨_,_,g3,_⟩:=g;obtain⟨x,hx,rfl⟩:=zu6.mp g3;exact F.so.pok.small x hx
 ·rintro rfl;obtain⟨nd,⟨_,e⟩|⟨S0,b,st,_⟩⟩:=F.tl
  ·exact absurd e g
  ·exact⟨S0,st⟩
theorem Ut.pre2(F:Ut mb ok H nu n ds d P S)(g:Mf S D)(hn:n<100):Hh P/\P.ppl.length<=100/\P.out.length<=900/\ds.length<=900/\(D=.close->∃ ms,P.lis=some ms/\ms.length<=100):=by
 have h1:=F.so.num;have h2:=F.len;have h3:=F.so.few;refine⟨F.re.b.ovok F.so,by rw[F.re.b.ppl];omega,by rw[F.re.b.out];omega,by omega,?_⟩;rintro rfl;obtain⟨_,g2⟩:=g;cases e:S.cur with
 | none=>exact absurd e g2
 | some s=>exact⟨s.ms,by rw[F.re.b.lis,e];rfl,zvb (F.so.cur s e).1 ⋯⟩
theorem Ut.back(F:Ut mb ok H nu n ds d P S)(h:ds≠[]):S.std≠[]:=by
 obtain⟨nd,⟨e,_⟩|⟨S0,b,st,x,_,e⟩⟩:=F.tl
 ·exact absurd e h
 ·rw[e];simp
end
inductive Hm(K:Frag)(ca:CA)(vs:List V)(H:Hp)(Q:VK)(_:XK):Prop where
 | mk(mb:Bool)(A:SAd)(l le:Addr)(ts:List V)(es:List P3)(ds:List Addr)(d:Addr)(P:Pg)(S:Sea)(nu:List Int)(n:Nat)(_:vs=[.ref A.p,.ref l,.ref le])(_:Zx ca H A S)(_:H l=some (.lst ((ds++[d]).map V.ref)))(_:l∉A.fp)(_:Ut mb (·∉A.fp) H nu n ds d P S)(_:H le=some (.lst ts))(_:le∉A.fp)(_:Z8 H ts (es.map enV))(_:(es.map (·.1)).Nodup)(_:(∀ x∈es,x.1∈nu/\¬ badI x.1 x.2.1 x.2.2/\x.1∉S.ppl.map (·.1)))(_:S.ppl.length+es.length<=30)(_:n+es.length<=90)(_:S.cur=none)(_:S.led.length<S.len)(_:∀ A' l' ds' d' P' S' H',Zx ca H' A' S'->H' l'=some (.lst ((ds'++[d']).map V.ref))->l'∉A'.fp->Ut mb (·∉A'.fp) H' nu (n+es.length) ds' d' P' S'->FrN A A' H H'->S'.cur=none->S'.led=S.led->S'.len=S.len->Q (.ref l') H')
theorem zbu(pg:PgAt ok H d (zbo r q))(hr:r<=60)(hq:q<=10):Ut mb ok H nu n [] d (zbo r q) (zgk r q) :=
 ⟨pg,⟨⟨rfl,rfl,rfl,rfl,rfl,rfl⟩,nofun,fun _=>rfl⟩,⟨nofun,.nil,nofun,zvo _,rfl,nofun,⟨zvo _,hr,hq⟩,fun z=>absurd rfl z,⟨zvo _,zvo _⟩,fun s hs=>(by rcases hs with z|z<;>cases z)⟩,nofun,.inl ⟨rfl,rfl⟩⟩
theorem Cu{lo:Int}{n:Nat}{g:TG}{tb:TS}{D:Oa}{σ:L2.St}{H:Hp}(Pv:Nat->L2.St->Hp->Prop)(h0:Pv 0 σ H)
  (hs:∀ N:L2.St->Hp->Prop,(∀ i σ H,Pv i σ H->N σ H)->∀ i σ H,i<n->Pv i σ H->g (.int (lo+i)) σ H fun σ2 H2=>tb { D with nx:=Pv (i+1),ct:=Pv (i+1),bk:=N } σ2 H2) (hd:∀ i σ H,Pv i σ H->D.nx σ H) :
  ∃ W:Nat->Nat->L2.St->Hp->Prop,(∃ m,W 0 m σ H)/\∀ i m σ H,W i m σ H ->
    ((Itr lo n).stop i H/\D.nx σ H)\/((Itr lo n).go i H/\∃ N:L2.St->Hp->Prop,(∀ σ' H',N σ' H'->∃ m',m' < m/\W (i+1) m' σ' H')/\∀ x H',(Itr lo n).yld i H x H'->g x σ H' fun σ2 H2=>tb { D with nx:=N,ct:=N,bk:=D.nx } σ2 H2) :=
 Wk Pv h0 (hs D.nx hd) (fun σ H p=>hd n σ H p)
theorem zeq(S:Sea):Y4 S (atV S)=S.cur:=by
 unfold Y4 atV;rw[if_neg ⋯,if_neg ⋯]
theorem zib(SA:Zx ca H A S)(h:Xp (fun x=>H x=none) H' t D):Xp (·∉A.fp) H' t D:=h.imp fun x hx=>SA.newOk x hx
def Hn(H H':Hp):Prop:=Wa H H'/\∀ x c e f,H x=some (.ins c e f)->H' x=some (.ins c e f)
theorem Hn.dict(h:H d=some (.dK kvs)):Hn H (upd H d (.dK kvs')) :=
 ⟨.dict h,fun x c e f z=>by rw[Zf (Yw z h (by intro z;cases z))];exact z⟩
theorem ShAt.keepI(k:Hn H H')(h:ShAt C ok H q s):ShAt C ok H' q s:=by
 obtain⟨dx,l1,l2,l3,l4,ts,ls,gts,a1,a2,a3,a4,a5,a6,a7,a8,o1,o2,o3,o4,o5,o6⟩:=h;exact⟨dx,l1,l2,l3,l4,ts,ls,gts,k.2 _ _ _ _ a1,k.1.1 _ _ a2,a3.mono k.1.2,k.1.1 _ _ a4,ILs.keepL k.1 a5,k.1.1 _ _ a6,k.1.1 _ _ a7,a8.keepL k.1,o1,o2,o3,o4,o5,o6⟩
theorem ShO.keepI(k:Hn H H')(h:ShO C ok H v s):ShO C ok H' v s:=by
 cases s with
 | none=>exact h
 | some s=>obtain⟨q,e,h⟩:=h;exact⟨q,e,h.keepI k⟩
theorem ShL.keepI(k:Hn H H'):∀ {vs:List V} {ss:List Zy},ShL C ok H vs ss->ShL C ok H' vs ss
 | _,_,.nil=>.nil
 | _,_,.cons h r=>.cons (h.keepI k) (ShL.keepI k r)
theorem Ux.keepI(k:Hn H H'):∀ {vs:List V} {ss:List (Rh×Option Zy)},Ux C ok H vs ss->Ux C ok H' vs ss
 | _,_,.nil=>.nil
 | _,_,.cons h hu hs r=>.cons (k.1.2 _ _ h) (k.1.2 _ _ hu) (hs.keepI k) (Ux.keepI k r)
theorem Zx.dictW(h:Zx ca H A S)(hd:H d=some (.dK kvs))(n:d∉A.fp):Zx ca (upd H d (.dK kvs')) A S:=by
 have k:=Hn.dict hd (kvs':=kvs');have hn:∀ x∈A.fp,∀ o,H x=some o->upd H d (.dK kvs') x=some o:=fun x hx o e=>by rw[Zf (fun z=>n (by rw[<- z];exact hx))];exact e
 obtain⟨⟨dx,v,a1,a2⟩,b,c,⟨kvs0,d1,d2⟩,⟨vs,f1,f2⟩,⟨us,g1,g2⟩,nd,np⟩:=h;have hp:A.p∈A.fp:=by simp[SAd.fp]
 have hdr:A.dr∈A.fp:=by simp[SAd.fp]
 have hlr:A.lr∈A.fp:=by simp[SAd.fp]
 have hld:A.ld∈A.fp:=by simp[SAd.fp]
 have hda:A.da∈A.fp:=by simp[SAd.fp]
 have hls:A.ls∈A.fp:=by simp[SAd.fp]
 have hlt:A.lt∈A.fp:=by simp[SAd.fp]
 obtain⟨⟨dxr,kvr,r1,r2,r3⟩,ndr⟩:=b;obtain⟨⟨dxl,l1⟩,l2,l3⟩:=id c;refine⟨⟨dx,v,hn _ hp _ a1,a2.keepI k⟩,⟨⟨dxr,kvr,k.2 _ _ _ _ r1,hn _ hdr _ r2,r3.mono k.1.2⟩,ndr⟩,c.keep (fun o e=>?_) (hn _ hlr) (hn _ hld) k.1.2,⟨kvs0,hn _ hda _ d1,d2⟩,⟨vs,hn _ hls _ f1,f2.keepI k⟩,⟨us,hn _ hlt _ g1,g2.keepI k⟩,nd,np⟩;rw[l1] at e;cases e;exact k.2 _ _ _ _ l1
theorem FrN.dictW{A:SAd}{H:Hp}{d:Addr}{kvs kvs':List (Key×V)}(hd:H d=some (.dK kvs)){b:Addr}{o:HO}(e:H b=some o)(h:∀ k,o≠.dK k):upd H d (.dK kvs') b=some o:=by
 rw[Zf (Yw e hd (by intro z;exact h _ z))];exact e
theorem Sj.dictW{K:Frag}{A:SAd}{H:Hp}{d b:Addr}{kvs kvs':List (Key×V)}{xs:List V}(h:Sj K A H b xs)(hd:H d=some (.dK kvs)):Sj K A (upd H d (.dK kvs')) b xs:=by
 rcases h with ⟨h|⟨o,h⟩,n⟩|h
 ·exact .inl ⟨.inl (FrN.dictW (A:=A) hd h (by intro k z;cases z)),n⟩
 ·exact .inl ⟨.inr ⟨o,FrN.dictW (A:=A) hd h (by intro k z;cases z)⟩,n⟩
 ·exact .inr h
theorem Mh.dictW{A:SAd}{H:Hp}{d t lc ln:Addr}{cs nu:List Int}{kvs kvs':List (Key×V)}(h:Mh A H t lc ln cs nu)(hd:H d=some (.dK kvs)):Mh A (upd H d (.dK kvs')) t lc ln cs nu:=by
 have k:=Wa.dict hd (kvs':=kvs');obtain⟨⟨a1,a2,a3,a4,a5,a6,a7,a8,a9⟩,o⟩:=h;exact⟨⟨k.2 _ _ a1,k.1 _ _ a2,k.1 _ _ a3,a4,a5,a6,a7,a8,a9⟩,o⟩
theorem K1(FP:Ym rows gs)(T:Vp rows gs):E9 rows gs:=fun p hp q k hw hf=>by
 obtain⟨S,h1,h2⟩:=T p hp;have hS:S q:=by
  clear hf
  induction hw with
  | nil=>exact h1
  | snoc w a ih =>
    obtain⟨⟨r,e1,e2⟩,e3⟩:=a;obtain⟨q',_,e4,e5⟩:=(h2 _ ih).2 r e1 _ e2;rw[FP.inj _ _ _ e3 e4];exact e5
 obtain⟨n,⟨r,e1,e2⟩,e3⟩:=hf;obtain⟨q',_,e4,_⟩:=(h2 q hS).2 r e1 n e2;exact e3 q' e4
theorem A7(F:Ym rows gs)(n:Int):(List.range gs.length).filter (fun k=>decide (gs[k]?=some (.int n)))=(Xt gs n).toList:=by
 cases hp:Xt gs n with
 | none =>
   rw[Option.toList_none,List.filter_eq_nil_iff];intro k hk;rcases Kr gs n with z|⟨i,z,_⟩
   ·have:=z.2 k
    simpa using this
   ·rw[hp] at z;cases z
 | some p =>
   have hx:=To hp;have:(fun k=>decide (gs[k]?=some (V.int n)))=fun k=>decide (k=p):=by
    funext k
    apply decide_eq_decide.mpr;exact⟨fun h=>F.inj k p n h hx,fun h=>by rw[h];exact hx⟩
   rw[this,Option.toList_some];have hlt:=(zux.mp hx).1;generalize gs.length=m at hlt;clear this hx hp
   induction m with
   | zero=>omega
   | succ m ih =>
     rw[List.range_succ,zv9];by_cases e:p=m
     ·subst e;have:(List.range p).filter (fun k=>decide (k=p))=[]:=by
       rw[List.filter_eq_nil_iff];intro k hk;have:=zvy.mp hk;simp;omega
      rw[this];simp
     ·rw[ih ⋯];have:¬ m=p:=fun z=>e z.symm;simp[this]
end G
namespace L2
open PySem PySem.Spec PyProof.Rows
theorem fnS(a:sc.kind=.function:=by rfl)(b:sc.isCoroutine=false:=by rfl)(c:sc.isGenerator=false:=by rfl)(d:N.Nodup:=by decide +kernel)(e:N.take P.length=P:=by rfl)(f:∀ x∈P,sc.names.lookup x=some .local\/sc.names.lookup x=some .cell:=by decide +kernel)(g:∀ y∈sc.names,y.2≠.free:=by decide +kernel):Zl N P sc:=⟨a,b,c,d,e,f,g⟩
section
variable{X:Cx}{k j:Nat}{C:Addr}{ps:List Str}{sp:Sp}{E:XK}{x m:Str}{p pos pos' apos:Pos}{e o a b:Expr}{es:List Expr}{ta tb te:TE}{t:TA}{r:R2}
theorem pS(i:Nat)(hN:X.N.Nodup)(he:PE X e te)(hi:X.N[i]?=some x:=by rfl)(hx:Loc X.env.scope x:=by first|exact Or.inl rfl|exact Or.inr rfl)(hs:swapsWith e (some (.Name x pos')) pos.line X.env=pure false:=by rfl)(hf:zam X i x:=by first|exact⟨.inl rfl,Wr⟩|exact⟨.inr rfl,Wr⟩|assumption|exact⟨.inl rfl,by assumption⟩|exact⟨.inr rfl,by assumption⟩) :
  PS X (.Assign [.Name x pos'] e pos) (zdg te (W4 i)):=zi7 hN hi hx he hs hf
theorem pN(i:Nat)(hN:X.N.Nodup)(hi:X.N[i]?=some x:=by rfl)(hx:Loc X.env.scope x:=by first|exact Or.inl rfl|exact Or.inr rfl)(hf:zam X i x:=by first|exact⟨.inl rfl,Wr⟩|exact⟨.inr rfl,Wr⟩|assumption|exact⟨.inl rfl,by assumption⟩|exact⟨.inr rfl,by assumption⟩):PG X (.Name x pos) (W4 i):=U5 hN hi hx hf
theorem pI(hr:IxR X r)(ha:PE X a ta)(hb:PE X b tb)(hs:zci b:=by exact fun _ _=>rfl):PE X (.Subscript a b pos) (tOp r ta tb):=zk4 hr ha hb hs
theorem pD(hu:X.A.units+1<cLine)(ho:PE X a ta)(hi:PE X b tb)(hs:zjd b:=by exact fun _ _=>rfl):PE X (.Subscript a b pos) (zil ta tb):=zhh hu ho hi hs
theorem pF(D:Z2 X.prog X.w X.K X.mg X.base x k ps sp)(hr:W5 j X.A)(ha:PA X (e :: es) t)(hk:k<=j:=by decide)(hx:W8 (CX1 X.prog X.w) X E:=by exact Zj)(hg:Gl X x:=by rfl)(hdb:(x == ("__debug__":Str))=false:=by decide)
  (he:starEach (e :: es) X.env=(false,eval e X.env) :: starEach es X.env:=by rfl) (hpl:(backTo pos (starEach es X.env)).any (·.1)=false:=by rfl):PE X (.Call (.Name x p) (e :: es) [] pos) (zfd sp [] E t):=zcl D (hr.mono hk) hx hg ha hdb he hpl
theorem iL(K:Frag)(h:X.K=K:=by rfl):IxR X (Dy K):=zfu h
theorem iU(K:Frag)(h:X.K=K:=by rfl):IxR X (zdr K):=zhr h
theorem cL(K:Frag)(h:X.K=K:=by rfl):Vm X (.builtin "len") (fun xs H Q=>∃ p ys,xs=[.ref p]/\(SqL K H p ys\/SqT K H p ys)/\Q (.int ys.length) H):=Ff h
end
theorem cT(ys:List Str)(js:List Nat)(a:closureFor scope X.env=pure cl:=by rfl)(b:scope.kind=.function:=by rfl)(c:∀ y∈scope.names,y.2=.local->scope.names.lookup y.1=some .local:=by decide +kernel)(d:∀ y∈scope.names,y.2≠.cell:=by decide +kernel)(e:scope.names.lookup x=some .local:=by rfl)(f:(x :: ys).Nodup:=by decide +kernel)(g:js.map (X.N[·]?)=ys.map some:=by rfl)
  (h:Fe (fun y=>X.env.kindOf y=some .cell/\(relabel scope X.env).names.lookup y=some .cell/\cl.lookup y=X.env.cells.lookup y) ys:=by repeat' (first|exact True.intro|apply And.intro|rfl)) (i:Fe (fun p=>X.env.cells.lookup p.1=some p.2) cl:=by repeat' (first|exact True.intro|apply And.intro|rfl)) (j:∀ y∈scope.names,y.2=.free->y.1∈ys:=by decide +kernel):zcj X x scope cl ys js:=⟨a,b,c,d,e,f,g,h,i,j⟩
abbrev LkF(K:Frag)(f:Addr)(x q:Str)(st:Stmt)(oc kV dc pm cd ct:Value)(od an:Option Addr)(sl:Array (Option Value)):Prop:=K.lookup f=some ⟨oc,od,.func (PySem.W.fnOf x q (Sd st) (Zv st) (Zi st) .none kV dc pm an cd ct),sl⟩
abbrev NsB(K:Frag)(x:Str)(f:Addr):Prop:=PySem.W.nsIn K mainGlobals x=some (some (.ref f))
abbrev FdB(K:Frag)(c:Addr)(x:Str)(f:Addr):Prop:=PySem.W.findIn K (.ref c) x=some (some (.ref f))
abbrev BnA(x q:Str)(st:Stmt)(ps:List Str):Prop:=∀ (kV doc pm:Value) (an:Option Addr) (cdv ct:Value) (us:List Value),us.length=ps.length->bindArgs (PySem.W.fnOf x q (Sd st) (Zv st) (Zi st) .none kV doc pm an cdv ct) ⟨us,[]⟩=pure (ps.zip us)
abbrev BnE(x q:Str)(st:Stmt)(ps:List Str)(us:List Value):Prop:=∀ (kV doc pm:Value) (an:Option Addr) (cdv ct:Value),bindArgs (PySem.W.fnOf x q (Sd st) (Zv st) (Zi st) .none kV doc pm an cdv ct) ⟨us,[]⟩=pure (ps.zip us)
section
variable{x q a b c d e g:Str}{st:Stmt}
theorem bnS{us:List Value}{n:Nat}(h:us.length=n+1):∃ u vs,us=u :: vs/\vs.length=n:=by
 cases us with
 | nil=>cases h
 | cons u vs=>exact⟨u,vs,rfl,Nat.succ.inj h⟩
theorem bn1(h:∀ u,BnE x q st [a] [u]:=by intros _ _ _ _ _ _ _;rfl):BnA x q st [a]:=fun _ _ _ _ _ _ us hl=>by obtain⟨_,us,rfl,l0⟩:=bnS hl;cases us with|nil=>exact h _ _ _ _ _ _ _|cons _ _=>cases l0
theorem bn2(h:∀ u v,BnE x q st [a,b] [u,v]:=by intros _ _ _ _ _ _ _ _;rfl):BnA x q st [a,b]:=fun _ _ _ _ _ _ us hl=>by obtain⟨_,us,rfl,l0⟩:=bnS hl;obtain⟨_,us,rfl,l1⟩:=bnS l0;cases us with|nil=>exact h _ _ _ _ _ _ _ _|cons _ _=>cases l1
theorem bn3(h:∀ u v w,BnE x q st [a,b,c] [u,v,w]:=by intros _ _ _ _ _ _ _ _ _;rfl):BnA x q st [a,b,c]:=fun _ _ _ _ _ _ us hl=>by obtain⟨_,us,rfl,l0⟩:=bnS hl;obtain⟨_,us,rfl,l1⟩:=bnS l0;obtain⟨_,us,rfl,l2⟩:=bnS l1;cases us with|nil=>exact h _ _ _ _ _ _ _ _ _|cons _ _=>cases l2
theorem bn4(h:∀ u v w y,BnE x q st [a,b,c,d] [u,v,w,y]:=by intros _ _ _ _ _ _ _ _ _ _;rfl):BnA x q st [a,b,c,d]:=fun _ _ _ _ _ _ us hl=>by obtain⟨_,us,rfl,l0⟩:=bnS hl;obtain⟨_,us,rfl,l1⟩:=bnS l0;obtain⟨_,us,rfl,l2⟩:=bnS l1;obtain⟨_,us,rfl,l3⟩:=bnS l2;cases us with|nil=>exact h _ _ _ _ _ _ _ _ _ _|cons _ _=>cases l3
theorem bn5(h:∀ u v w y z,BnE x q st [a,b,c,d,e] [u,v,w,y,z]:=by intros _ _ _ _ _ _ _ _ _ _ _;rfl):BnA x q st [a,b,c,d,e]:=fun _ _ _ _ _ _ us hl=>by obtain⟨_,us,rfl,l0⟩:=bnS hl;obtain⟨_,us,rfl,l1⟩:=bnS l0;obtain⟨_,us,rfl,l2⟩:=bnS l1;obtain⟨_,us,rfl,l3⟩:=bnS l2;obtain⟨_,us,rfl,l4⟩:=bnS l3;cases us with|nil=>exact h _ _ _ _ _ _ _ _ _ _ _|cons _ _=>cases l4
end
section
variable{K:Frag}{mg:Str->Option Value}{x y q m:Str}{k:Nat}{ps:List Str}{sp:Sp}{C:Addr}{st:Stmt}{f:Addr}{fd:FuncData}
theorem dMk(P:Program)(w:World)(base:Heap)(F:Fun K x q st f fd)(ok:FnOk P w K mg base (CX1 P w) k f fd ps sp)(b:mg y=some (.ref f))(hb:BnA x q st ps:=by first|exact bn1|exact bn2|exact bn3|exact bn4|exact bn5):Z2 P w K mg base y k ps sp:=⟨f,fd,ok,b,F.kp,F.binds hb⟩
theorem mMk(P:Program)(w:World)(base:Heap)(F:Fun K x q st f fd)(ok:FnOk P w K mg base (CX1 P w) k f fd ps sp)(b:zfc K C m f)(hb:BnA x q st ps:=by first|exact bn1|exact bn2|exact bn3|exact bn4|exact bn5):Zs P w K mg base C m k ps sp:=⟨f,fd,ok,b,F.binds hb⟩
theorem nMk(P:Program)(w:World)(base:Heap)(F:Fun K x q st f fd)(ok:FnOk P w K mg base (CX1 P w) k f fd ps sp)(b:Mk K C f)(c:mg y=some (.ref C))(hb:BnA x q st ps:=by first|exact bn1|exact bn2|exact bn3|exact bn4|exact bn5):Tg P w K mg base y C k ps sp:=⟨f,fd,ok,b,c,F.binds hb⟩
end
structure LN(K:Frag)(x q:Str)(st:Stmt)(f:Addr)(oc kV dc pm cd ct:Value)(od an:Option Addr)(sl:Array (Option Value)):Prop where
 b:NsB K x f
 l:LkF K f x q st oc kV dc pm cd ct od an sl
 c:PySem.W.codeIn K cd q=true
 k:PySem.W.keepIn K (.ref f)=true
structure LM(K:Frag)(C:Addr)(x q:Str)(st:Stmt)(f:Addr)(oc kV dc pm cd ct:Value)(od an:Option Addr)(sl:Array (Option Value)):Prop where
 b:FdB K C x f
 l:LkF K f x q st oc kV dc pm cd ct od an sl
 c:PySem.W.codeIn K cd q=true
 k:PySem.W.keepIn K (.ref f)=true
 i:PySem.W.isFn K (.ref f)=true
abbrev XcB(K:Frag)(c:Addr):Prop:=PySem.W.excIn K c [.type "ValueError",.type "Exception",.type "BaseException",.type "object"] "ValueError.__new__"=true
abbrev NzB(K:Frag)(x:Str):Prop:=PySem.W.nsIn K mainGlobals x=some none
structure XG(P:Program)(w:World)(base:Heap)(K:Frag)(mg:Str->Option Value)(h:Heap):Prop where
 X:K.In h
 G:h.Ns mainGlobals mg
section
variable{P:Program}{w:World}{base h:Heap}{K:Frag}{mg:Str->Option Value}{x y q:Str}{k:Nat}{ps:List Str}{sp:Sp}{C:Addr}{st:Stmt}{f:Addr}{oc kV dc pm cd ct:Value}{od an:Option Addr}{sl:Array (Option Value)}
theorem dN(Z:XG P w base K mg h)(l:LN K x q st f oc kV dc pm cd ct od an sl)(ok:∀ {fd},Fun K x q st f fd->FnOk P w K mg base (CX1 P w) k f fd ps sp)(hb:BnA x q st ps:=by first|exact bn1|exact bn2|exact bn3|exact bn4|exact bn5):Z2 P w K mg base x k ps sp :=
 dMk P w base (Oy l.l l.c l.k) (ok (Oy l.l l.c l.k)) (PySem.W.mg_of Z.X Z.G l.b) hb
theorem mM(_:XG P w base K mg h)(l:LM K C x q st f oc kV dc pm cd ct od an sl)(ok:∀ {fd},Fun K x q st f fd->FnOk P w K mg base (CX1 P w) k f fd ps sp)(hb:BnA x q st ps:=by first|exact bn1|exact bn2|exact bn3|exact bn4|exact bn5):Zs P w K mg base C x k ps sp :=
 mMk P w base (Oy l.l l.c l.k) (ok (Oy l.l l.c l.k)) ⟨l.b,l.i,l.k⟩ hb
theorem nM(Z:XG P w base K mg h)(l:LM K C "__init__" q st f oc kV dc pm cd ct od an sl)(m:PySem.W.makesIn K C=true)(kc:PySem.W.keepIn K (.ref C)=true)(c:PySem.W.nsIn K mainGlobals y=some (some (.ref C)))(ok:∀ {fd},Fun K "__init__" q st f fd->FnOk P w K mg base (CX1 P w) k f fd ps sp)(hb:BnA "__init__" q st ps:=by first|exact bn1|exact bn2|exact bn3|exact bn4|exact bn5):Tg P w K mg base y C k ps sp :=
 nMk P w base (Oy l.l l.c l.k) (ok (Oy l.l l.c l.k)) ⟨m,l.b,l.i,kc⟩ (PySem.W.mg_of Z.X Z.G c) hb
end
section
variable{X:Cx}{elt iter:Expr}{x:Str}{px pos:Pos}{ifs:List Expr}{scope:Scope}{cl:List (Str×Addr)}{ys:List Str}{js:List Nat}
theorem Ho{pins:List (Addr×Obj)}{σ:St}{H:Hp}{s:Shared}{tt:TT}{te:TE}{it:Addr}{fp:List Addr}{tn:Nat->Heap->Prop}{J:It}{W:Nat->Nat->List V->Hp->Prop}{m0:Nat}{Q:VK}{E:Value->Shared->Prop}{RR:Value->Addr->Result->Shared->Prop}
  (hcm:X.calm=true) (c:zcj X x scope cl ys js) (ht:∀ pn s₀ H₀ fp C,PTs (Y0 X pn (x :: ys) scope cl s₀ H₀ fp C) ifs tt) (hgt:∀ pn s₀ H₀ fp C,PG (Y0 X pn (x :: ys) scope cl s₀ H₀ fp C) (.Name x px) (W4 0)) (he:∀ pn s₀ H₀ fp C,PE (Y0 X pn (x :: ys) scope cl s₀ H₀ fp C) elt te)
  (I:Inv X pins σ H s) (T:Bf X.prog X.w X.K (.Name x px) J fp it tn) (st0:tn 0 s.heap) (hf:∀ b∈fp,FpOk X pins H b) (w0:W 0 m0 [] H)
  (turn:∀ i m ys H,W i m ys H->(J.stop i H/\ys.length<=sizeLine/\∀ p,H p=none->Q (.ref p) (upd H p (.lst ys))) \/
   (J.go i H/\ys.length<sizeLine/\∃ N:List V->Hp->Prop,(∀ ys' H',N ys' H'->∃ m',m' < m/\W (i+1) m' ys' H')/\∀ x H',J.yld i H x H'->tt (cs js σ x) H' fun b H2=>if b=true then te (cs js σ x) H2 fun y H3=>N (ys++[y]) H3 else N ys H2))
  (hRR:∀ D C s' m,s'.heap.Ns C m->(∀ h',Heap.SameBut C s'.heap h'->∃ H',Inv X pins σ H' { s' with heap:=h' }/\Q (.ref D) H')->(∃ H',Inv X pins σ H' s'/\Q (.ref D) H'/\H' C=none)->s.heap.objs.size<=C->RR (.ref D) C (.ok .next) s') :
  wpAny (model X.prog X.w) X.A (newList []) (fun acc s₃=>wpAny (model X.prog X.w) X.A (newFunctionEnv scope X.env.globals cl [] X.env.qual none .none (some X.env)) (fun cenv s₄ =>
   codeAny (model X.prog X.w) X.A (.compStart (.ListComp elt [⟨.Name x px,iter,ifs,0⟩] scope pos) 0 (.ref it) acc { cenv with scope:=relabel scope X.env }) (RR acc cenv.locals) s₄) E s₃) E s :=
 Ih (xo:=[x]) (g:=W4 0) hcm ⟨c.clos,c.kind,c.names,c.nocell,c.at_,c.free,c.only,c.vis⟩ ht hgt he I T st0 hf w0 (fun i m ys H w=>(turn i m ys H w).imp id fun ⟨a,b,N,n1,n2⟩=>⟨a,b,N,n1,fun y H' hy=>⟨⟨[some y],rfl,rfl⟩,n2 y H' hy⟩⟩) hRR
variable{wi:TI}{tt:TT}{te:TE}
theorem Vv(hcm:X.calm=true)(c:zcj X x scope cl ys js)(hi:PI X (.Name x px) iter wi)(ht:∀ pn s₀ H₀ fp C,PTs (Y0 X pn (x :: ys) scope cl s₀ H₀ fp C) ifs tt)(he:∀ pn s₀ H₀ fp C,PE (Y0 X pn (x :: ys) scope cl s₀ H₀ fp C) elt te)
  (hx:∀ C,(compEnvC scope cl C X.env).scope.names.lookup x=some .local:=by intro _;rfl) (hs:∀ x,foldedSetIterable iter X.env x=pure x:=by intro _;rfl):PE X (.ListComp elt [⟨.Name x px,iter,ifs,0⟩] scope pos) (zir wi js tt te):=by
 intro pins s σ H Q I h;rw[eval_ListComp];refine wpAny_comprehension_free (use:=none) rfl hs c.clos c.kind c.names (thn (hi pins s σ H _ I h) fun v s1 h1=>thn h1 fun itv s2 h2=>?_);obtain⟨it,fp,tn,J,H2,e,I2,T,st2,f2,W,⟨m0,w0⟩,turn⟩:=h2;subst e;exact Ho (RR:=fun acc C=>compPost (model X.prog X.w) X.A X.xe none (EP X pins σ Q) acc C) hcm c ht (fun _ _ _ _ C=>U5 (X:=Y0 X _ (x :: ys) scope cl _ _ _ C) c.nd rfl (.inl (hx C)) ⟨.inr (hx C),Wr⟩) he I2 T st2 f2 w0 turn fun D C s' m hn hS _ _=>⟨m,hn,fun h' hs'=>let ⟨H',I',q⟩:=hS h' hs';⟨.ref D,H',I',rfl,q⟩⟩
theorem Uu{y:Str}{py spos:Pos}{i:Nat}(hN:X.N.Nodup)(hy:X.N[i]?=some y)(hk:X.env.scope.names.lookup y=some .local)(hcm:X.calm=true)(c:zcj X x scope cl ys js)(hi:PI X (.Name x px) iter wi)(ht:∀ pn s₀ H₀ fp C,PTs (Y0 X pn (x :: ys) scope cl s₀ H₀ fp C) ifs tt)
  (he:∀ pn s₀ H₀ fp C,PE (Y0 X pn (x :: ys) scope cl s₀ H₀ fp C) elt te)
  (hx:∀ C,(compEnvC scope cl C X.env).scope.names.lookup x=some .local:=by intro _;rfl) (hsw:swapsWith (.ListComp elt [⟨.Name x px,iter,ifs,0⟩] scope pos) (some (.Name y py)) spos.line X.env=pure true:=by rfl) (hs:∀ x,foldedSetIterable iter X.env x=pure x:=by intro _;rfl)
  (hf:zam X i y:=by first|exact⟨.inr rfl,Wr⟩|assumption|exact⟨.inr rfl,by assumption⟩) :
  PS X (.Assign [.Name y py] (.ListComp elt [⟨.Name x px,iter,ifs,0⟩] scope pos) spos) (zdg (zir wi js tt te) (W4 i)):=by
 intro pins s σ H D0 I h;rw[exec_Assign_Name_used _ _ _ _ hsw];refine wpAny_bind (wpAny_standAt (wpAny_bind ?_));show wpAny _ X.A (do let _ <- comprehension (.ListComp elt [⟨.Name x px,iter,ifs,0⟩] scope pos) scope X.env _ (newList []) false (eval iter X.env) (some (assign (.Name y py) X.env))) _ _ s;refine wpAny_bind (wpAny_mono (wpAny_comprehension_free (use:=some (assign (.Name y py) X.env)) (Q:=fun _ s'=>SP X pins D0 .next s') rfl hs c.clos c.kind c.names
  (thn (hi pins s σ H _ I h) fun v s1 h1=>thn h1 fun itv s2 h2=>?_)) (fun _ s' hq=>wpAny_pure (wpAny_pure hq)) fun _ _ e=>e)
 obtain⟨it,fp,tn,J,H2,e,I2,T,st2,f2,W,⟨m0,w0⟩,turn⟩:=h2;subst e;refine Ho (Q:=fun x H1=>D0.nx (σ.set i (some x)) H1) (RR:=fun acc C=>compPost (model X.prog X.w) X.A X.xe (some (assign (.Name y py) X.env)) (fun _ s'=>SP X pins D0 .next s') acc C) hcm c ht (fun _ _ _ _ C=>U5 (X:=Y0 X _ (x :: ys) scope cl _ _ _ C) c.nd rfl (.inl (hx C)) ⟨.inr (hx C),Wr⟩) he I2 T st2 f2 w0 turn fun D C s' m hn _ hS hC=>?_;obtain⟨H',I',q,fC⟩:=hS;show wpAny _ X.A (assign (.Name y py) X.env (.ref D)) _ _ _;have ltC:∀ b o,s2.heap.get? b=some o->b≠C:=fun b o e=>zvq (zvk (Heap.lt_size e) hC);have neL:C≠X.env.locals:=by
  obtain⟨_,⟨o,_,_,ho,_⟩,_⟩:=I2.loc;exact Ne.symm (ltC _ o ho)
 have neK:∀ z a,X.env.cells.lookup z=some a->a≠C:=fun z a e=>by
  obtain⟨_,o,ho,_⟩:=I2.cell z a e;exact ltC a o ho
 refine wpAny_assign_Name (Ej I' hN hy (.inl hk) (v:=.ref D) (show RelV (.ref D) (.ref D) from rfl) (fun s4 I4 ⟨a,hs4,ha⟩=>?_) hf);have naC:C≠a:=by
  rcases ha with ha|ha
  ·rw[ha];exact neL
  ·exact Ne.symm (neK _ _ ha)
 refine⟨m,hn.sameBut hs4 naC,fun h5 hs5=>⟨_,H',?_,q⟩⟩;refine I4.turned (t':=s4.toks) (it:=C) (fun b o hb e=>hs5.extBut b o hb e) fC neL (.inr (zvb I2.sz hC)) neK fun p hp=>?_;obtain⟨e,_⟩:=I2.pin p hp;exact ltC _ _ e
end
end L2
namespace G
open PySem PySem.Spec PyProof.Rows L2
def Hq:X9->Str
 | .enrol _ _ _=>"enrol"
 | .away _ _=>"away"
 | .draw _=>"draw up"
 | .close=>"close"
 | .back=>"take back"
theorem Xp.word(h:Xp ok H t D):∃ r,H t=some (.tup (.str (Hq D) :: r)):=by
 cases D with
 | enrol a b c=>exact⟨_,h⟩
 | away a b=>exact⟨_,h⟩
 | draw ms=>obtain⟨l,ts,a1,_⟩:=h;exact⟨_,a1⟩
 | close=>exact⟨_,h⟩
 | back=>exact⟨_,h⟩
theorem Dq:decide (V.str (Hq D)=V.str "draw up")=match D with|.draw _=>true|_=>false:=by
 cases D with
 | draw ms=>exact zbl
 | enrol a b c=>exact Ri (show decide (("enrol":Str)="draw up")=false by decide +kernel)
 | away a b=>exact Ri (show decide (("away":Str)="draw up")=false by decide +kernel)
 | close=>exact Ri (show decide (("close":Str)="draw up")=false by decide +kernel)
 | back=>exact Ri (show decide (("take back":Str)="draw up")=false by decide +kernel)
theorem Dr:decide (V.str (Hq D)=V.str "away")=match D with|.away _ _=>true|_=>false:=by
 cases D with
 | away a b=>exact zbl
 | enrol a b c=>exact Ri (show decide (("enrol":Str)="away")=false by decide +kernel)
 | draw ms=>exact Ri (show decide (("draw up":Str)="away")=false by decide +kernel)
 | close=>exact Ri (show decide (("close":Str)="away")=false by decide +kernel)
 | back=>exact Ri (show decide (("take back":Str)="away")=false by decide +kernel)
inductive Hr(K:Frag)(vs:List V)(H:Hp)(Q:VK)(_:XK):Prop where
 | mk(ok ok':Addr->Prop)(b c:Addr)(ts us:List V)(G0:zgq)(_:vs=[.ref b,.ref c])(_:H b=some (.lst ts))(_:H c=some (.lst us))(_:X2 ok H ts G0)(_:X2 ok' H us G0)(_:G0.length<=1000)(_:(∀ x∈G0,x.2.length<=1000))(_:Q (.bl true) H)
theorem zer{rows:List (List Int)}{gs:List V}{p e:Nat}{st:List (Nat×Option Int)}{w:Option Int}(C:Xc rows (gs.set p .non) p st e w):Yh st (gs.set p .non)=Yh st gs/\st≠[]:=by
 obtain⟨x,r,rfl⟩:=C.ch.hd;refine⟨?_,by simp⟩;unfold Yh;rw[List.set_set]
theorem PgAt.setMoves(h:PgAt ok H d P)(hl:H l=some (.lst ts))(gl:X2 ok H ts G0)(ol:ok l):∃ kvs,H d=some (.dK kvs)/\kvs.length<sizeLine/\PgAt ok (upd H d (.dK (putK kvs (.inr "moves") (.ref l)))) d { P with mv:=G0 }:=by
 obtain⟨lp,lo,lv,dv,li,lg,lm,a1,a2,a3⟩:=h.split;refine⟨_,a1,zbn,?_⟩;rw[Dk];have b:=a2.keepL (.dict a1 (kvs':=pgF P.len P.rest lp lo lv dv li lg l));exact .join (P:={ P with mv:=G0 }) Ze ⟨b.pp,b.oo,b.vv,b.dd,b.li,b.gg,_,(Wa.dict a1).1 _ _ hl,gl.keepL (.dict a1),ol⟩ a3
theorem RelB.setGv(h:RelB mb P S)(gv:List V):RelB mb { P with gv:=gv } S:=⟨h.len,h.rest,h.ppl,h.out,h.over,h.lis⟩
theorem RelB.setMv(h:RelB mb P S)(mv:zgq):RelB mb { P with mv:=mv } S:=⟨h.len,h.rest,h.ppl,h.out,h.over,h.lis⟩
theorem Mi.setGoes(h:Mi mb ok H nu n ds d P S)(hl:H l=some (.lst xs))(ol:ok l):∃ kvs,H d=some (.dK kvs)/\kvs.length<sizeLine/\Mi mb ok (upd H d (.dK (putK kvs (.inr "goes") (.ref l)))) nu n ds d { P with gv:=xs } S:=by
 obtain⟨kvs,a1,a2,a3⟩:=h.pg.setGoes hl ol;refine⟨kvs,a1,a2,a3,h.rb.setGv xs,h.so,?_⟩;obtain⟨nd,e|⟨S0,b,r⟩⟩:=h.tl
 ·exact⟨nd,.inl e⟩
 ·exact⟨nd,.inr ⟨S0,b.other a1 nd,r⟩⟩
theorem Mi.setMoves(h:Mi mb ok H nu n ds d P S)(hl:H l=some (.lst ts))(gl:X2 ok H ts G0)(ol:ok l):∃ kvs,H d=some (.dK kvs)/\kvs.length<sizeLine/\Mi mb ok (upd H d (.dK (putK kvs (.inr "moves") (.ref l)))) nu n ds d { P with mv:=G0 } S:=by
 obtain⟨kvs,a1,a2,a3⟩:=h.pg.setMoves hl gl ol;refine⟨kvs,a1,a2,a3,h.rb.setMv G0,h.so,?_⟩;obtain⟨nd,e|⟨S0,b,r⟩⟩:=h.tl
 ·exact⟨nd,.inl e⟩
 ·exact⟨nd,.inr ⟨S0,b.other a1 nd,r⟩⟩
def stD(s:Nat×Option Int):Dt:=.tup [.int (s.1:Nat),match s.2 with|none=>.non|some n=>.int n]
theorem A8{K:Frag}{H:Hp}:∀ {us:List V} {st:List (Nat×Option Int)},Z8 H us (st.map Wq)->Tf K H us (st.map stD)
 | _,[],h=>by cases h;exact .nil
 | _,(p,w) :: st,h=>by
   cases h with
   | cons h1 h2 =>
     refine .cons (.tup (SqT.of h1) (.cons (.int _) (.cons ?_ .nil))) (A8 h2);cases w with
     | none=>exact .non
     | some n=>exact .int n
theorem zg0(st:List (Nat×Option Int)):shD (.lst (st.map stD)):=by
 have h:PyData.canLayAll0 (Xi (st.map stD))=true/\PyData.depthAll (Xi (st.map stD))<=2:=by
  induction st with
  | nil=>exact⟨rfl,by decide⟩
  | cons s r ih =>
    obtain⟨h1,h2⟩:=ih;obtain⟨p,w⟩:=s;refine⟨?_,?_⟩
    ·rw[zu9,Xi,PyData.canLayAll0,h1];cases w<;>simp[stD,toPy,Xi,PyData.canLay0,PyData.canLayAll0]
    ·rw[zu9,Xi,PyData.depthAll];have:PyData.depth (toPy (stD (p,w)))<=2:=by cases w<;>simp[stD,toPy,Xi,PyData.depth,PyData.depthAll]
     omega
 unfold shD SeqAt.shaped;rw[toPy,PyData.canLay0,h.1,Bool.true_and];refine zu3 ?_;rw[PyData.depth];have:=h.2;omega
theorem zda(h:¬ ∃ i n,D=.away i n):decide (V.str (Hq D)=V.str "away")=false:=by
 rw[Dr];cases D with
 | away i n=>exact absurd ⟨_,_,rfl⟩ h
 | enrol _ _ _=>rfl
 | draw _=>rfl
 | close=>rfl
 | back=>rfl
theorem zg1(h:¬ ∃ m0,D=.draw m0):decide (V.str (Hq D)=V.str "draw up")=false:=by
 rw[Dq];cases D with
 | draw m0=>exact absurd ⟨_,rfl⟩ h
 | enrol _ _ _=>rfl
 | away _ _=>rfl
 | close=>rfl
 | back=>rfl
end G
namespace G
open PySem PySem.Spec PyProof.Rows L2
inductive Ref where
 | out|known|many|unk|manyM|same|noMatch|noRound|over|seaOver|away|drawn|notDrawn|nothing|manyD
 deriving DecidableEq
def Ref.cls(ca:CA):Ref->Addr
 | .out=>ca.out|.known=>ca.known|.many=>ca.many|.unk=>ca.unk|.manyM=>ca.manyM|.same=>ca.same|.noMatch=>ca.noMatch|.noRound=>ca.noRound
 | .over=>ca.over|.seaOver=>ca.seaOver|.away=>ca.away|.drawn=>ca.drawn|.notDrawn=>ca.notDrawn|.nothing=>ca.nothing|.manyD=>ca.manyD
open Classical in
def zbv:X9->Prop
 | .enrol n g c=>Cg n g c
 | .away i n=>Yi i/\Yi n
 | .draw ms=>(∀ m∈ms,Ir m)/\ms.length<=1000
 | _=>True
end G
namespace G
open PySem PySem.Spec PyProof.Rows L2
structure I21(r i:Nat)(noted:List Int)(S:Sea):Prop where
 len:S.len=r
 led:S.led=[]
 cur:S.cur=none
 old:S.old=[]
 std:∀ x∈S.std,x.2=none
 sl:S.std.length<=i
 ol:S.out.length<=i
 z:(noted=[]/\S.ppl=[]/\S.std=[]/\S.out=[])\/∃ ds,noted=0 :: ds/\S.ppl=[(5,5,5)]/\S.out=ds.map fun i=>(i,5)
 e:i<=10->noted=[]
end G
namespace G
open PySem PySem.Spec PyProof.Rows L2
structure ShOk(n:Nat)(s:Zy):Prop where
 ms:s.ms.length<=20
 ml:s.may.length=s.ms.length
 fi:Ym s.may s.gv
 st:Vp s.may s.gv
 mo:∃ nu,Qk s.may nu
 gp:s.gaps.length<=n/\∀ x∈s.gaps,x.2.length<=100
theorem ShOk.mono(h:ShOk n s)(e:n<=m):ShOk m s:=⟨h.ms,h.ml,h.fi,h.st,h.mo,zvb h.gp.1 e,h.gp.2⟩
theorem SOk.shOk(o:SOk nu n S)(h:S.cur=some s):ShOk n s:=by
 obtain⟨k1,k2,k3,k4,k5⟩:=o.cur s h;exact⟨k1,by rw[k4];unfold mayS;rw[zuw],k2,k3,⟨_,by rw[k4];exact o.pok.may o.nd k1⟩,o.gp s (.inl h)⟩
def Om(n:Nat)(S:Sea):Prop:=∀ s∈S.old,ShOk n s
theorem Om.mono(h:Om n S)(e:n<=m):Om m S:=fun s hs=>(h s hs).mono e
theorem zes(o:SOk nu n S)(h:Om n S)(af:Si H S D S' v):Om n S':=by
 cases af with
 | enrol k g c=>exact h
 | awayN hh hl=>exact h
 | awayF hh hp hl=>exact h
 | awayC hh hp hl tl CR=>exact h
 | draw hl F T=>exact h
 | close hc =>
   intro s hs;rcases zu8.mp hs with z|z
   ·exact h s z
   ·rw[zu0.mp z];exact o.shOk hc
 | back hh ht hs =>
   obtain⟨d,a1,a2,a3,a4,a5,a6⟩:=hs;intro s hs';rw[<- a6] at hs';exact h s hs'
theorem Rj(h1:Yi i)(h2:S.old.length=S.led.length)(h3:1<=i/\i<=S.len)(h:Y4 S i=some s)(hk:k s):Um ca H S i E k:=by
 refine⟨h1,h2,?_⟩;rw[if_neg ⋯];exact⟨fun z=>(by rw[h] at z;cases z),fun s' hs=>(by rw[h] at hs;cases hs;exact hk)⟩
theorem Du{S:Sea}{j:Nat}{s:Zy}(h:S.old.length=S.led.length)(hs:S.old[j]?=some s):Y4 S ((j:Int)+1)=some s:=by
 have hj:=(zux.mp hs).1;unfold Y4;rw[if_pos ⋯,show (((j:Int)+1)-1).toNat=j by omega];exact hs
inductive Mj(K:Frag)(ca:CA)(vs:List V)(H:Hp)(Q:VK)(_:XK):Prop where
 | mk(ok:Addr->Prop)(A:SAd)(S:Sea)(i:Int)(t lp ll lg lm lw:Addr)(ts mts pts:List V)(ls:List Addr)(sh:Zy)(_:vs=[.ref A.p,.int i,.ref t,.ref lp])(_:Zx ca H A S)(_:(Yi i/\S.old.length=S.led.length/\1<=i/\i<=S.len))(_:Y4 S i=some sh)(_:H t=some (.tup [.ref ll,.ref lg,.ref lm,.ref lw]))(_:H ll=some (.lst ts))(_:Z8 H ts (sh.ms.map pV))(_:H lg=some (.lst sh.gv))(_:H lm=some (.lst mts))(_:X2 ok H mts sh.gaps)(_:H lw=some (.lst (ls.map V.ref)))(_:ILs H ls sh.may)(_:H lp=some (.lst pts))(_:Z8 H pts (S.ppl.map pV))(_:Qm S)(_:ShOk 500 sh)(_:∀ H',Same H H'->Q (.bl true) H')
theorem Y7.all:∀ {vs:List V} {ss:List Zy} {i:Nat} {s:Zy},Y7 ok H vs ss->ss[i]?=some s->∃ (t l g m y:Addr) (ts mts:List V) (ls:List Addr),vs[i]?=some (.ref t)/\H t=some (.tup [.ref l,.ref g,.ref m,.ref y])/\H l=some (.lst ts)/\Z8 H ts (s.ms.map pV)/\H g=some (.lst s.gv)/\H m=some (.lst mts)/\X2 ok H mts s.gaps/\H y=some (.lst (ls.map V.ref))/\ILs H ls s.may
 | _,_,_,_,.nil,e=>by simp at e
 | _,_,0,_,.cons h hl tl hg hm gm hy iy o r,e=>by
   simp at e;subst e;exact⟨_,_,_,_,_,_,_,_,rfl,h,hl,tl,hg,hm,gm,hy,iy⟩
 | _,_,i+1,s,.cons _ _ _ _ _ _ _ _ _ r,e=>by
   obtain⟨t,l,g,m,y,ts,mts,ls,h1,h2⟩:=Y7.all (i:=i) (s:=s) r (by simpa using e);exact⟨t,l,g,m,y,ts,mts,ls,by simpa using h1,h2⟩
theorem RelB.overT(h:RelB true P S):P.over=S.old:=by
 have e:=h.over;have k:∀ l:List Zy,l.map (Tq true)=l:=fun l=>by
  rw[show Tq true=id from funext fun s=>rfl,List.map_id]
 rwa [k,k] at e
end G
namespace G
open PySem PySem.Spec PyProof.Rows L2
section
variable{rows:List (List Int)}{gs0 hs:List V}{p:Nat}{n0:Int}
structure zmk(rows:List (List Int))(gs0 hs:List V)(p:Nat)(i:Nat)(L:List Nat)(q:Nat):Prop where
 len:L.length=i+1
 nd:L.Nodup
 mem:q∈L
 walk:Walk rows (gs0.set p .non) p q i
 df:∀ k∈L,k<gs0.length/\gs0[k]?≠hs[k]?
 back:∀ y∈L,y≠p->∃ x∈L,x≠q/\∃ n,hs[x]?=some (.int n)/\(gs0.set p .non)[y]?=some (.int n)
 full:∀ y∈L,gs0[y]?≠some .non
end
open Classical in
noncomputable def eq1(x y:V):Nat:=if x=y then 1 else 0
inductive StK(N:List Int):List (List Int)->List V->Nat->Nat->Nat->Prop where
 | nil:StK N [] [] 0 0 0
 | skip {rows:List (List Int)} {r:List Int} {ah:List V} {v:V} {f u k:Nat} (h:StK N rows ah f u k):StK N (rows++[r]) (ah++[v]) (2*f) u (k+eq1 .non v)
 | take {rows:List (List Int)} {r:List Int} {ah:List V} {v:V} {f u k b:Nat} {n:Int} (h:StK N rows ah f u k) (hb:N[b]?=some n) (hn:n∈r) (hu:u/2 ^ b%2=0):StK N (rows++[r]) (ah++[v]) (2*f+1) (u+2 ^ b) (k+eq1 (.int n) v)
structure zml(N:List Int)(rows:List (List Int))(ah:List V)(best kept:Nat):Prop where
 at_:∃ u,StK N rows ah best u kept
 top:∀ f u k,StK N rows ah f u k->f<=best
 most:∀ u k,StK N rows ah best u k->k<=kept
open Classical in
structure zmr(R:Nat×Nat->Nat->Prop)(ps:List (Nat×Nat))(g:Nat×Nat->Nat):Prop where
 mem:∀ q,q∈ps↔∃ k,R q k
 at_:∀ q∈ps,R q (g q)
 top:∀ q k,R q k->k<=g q
section
variable{mb:Bool}{ok ok':Addr->Prop}{A A':SAd}{H H':Hp}{nu:List Int}{n m:Nat}{ds:List Addr}{d:Addr}{P:Pg}{S S':Sea}{D:X9}
structure zmd(ok:Addr->Prop)(H:Hp)(ts:List V)(Ds:List X9):Prop where
 len:ts.length=Ds.length
 at_:∀ (i:Nat) x,ts[i]?=some x->∃ t D,x=.ref t/\Ds[i]?=some D/\Xp ok H t D
end
structure PgR(mb:Bool)(ok:Addr->Prop)(H:Hp)(nu:List Int)(n:Nat)(d:Addr)(P:Pg)(S:Sea):Prop where
 pg:PgAt ok H d P
 rb:RelB mb P S
 so:SOk nu n S
open Classical in
def zln(r o:Int)(dr:Bool)(lp ll:Addr):List (Key×V):=[(.inr "rounds",.int r),(.inr "over",.int o),(.inr "drawn",.bl dr),(.inr "people",.ref lp),(.inr "log",.ref ll)]
structure zme(H:Hp)(d lp ll:Addr)(S:Sea):Prop where
 dd:H d=some (.dK (zln S.len S.led.length S.cur.isSome lp ll))
 pp:∃ pts,H lp=some (.lst pts)/\Z8 H pts (S.ppl.map pV)
 gg:∃ lts,H ll=some (.lst lts)/\Z8 H lts (S.std.map fun x=>Ql x.1)
 ne:lp≠ll
structure I22(S:Sea):Prop where
 out:S.out=[]
 std:∀ x∈S.std,x.2=none/\(x.1.1=("enrol":Str)\/x.1.1=("draw up":Str))
 last:∀ std0 x,S.std=std0++[x]->x.1.1=("enrol":Str)->S.cur=none
def dxs:HO->List Addr
 | .ins _ dx _=>[dx]
 | .frz _ u=>dxs u
 | _=>[]
open Classical in
noncomputable def Ud(B:Addr->Prop)(H:Hp):Hp:=fun b=>if B b then none else H b
open Classical in
structure zmf(B:Addr->Prop)(H:Hp):Prop where
 th:∀ b,B b->H b≠none
 cl:∀ a o,H a=some o->B a->∀ dx∈dxs o,B dx
 own:∀ a b,H b=some (.own a)->B b->B a
 tup:∀ t xs,B t->H t≠some (.tup xs)
section
variable{B:Addr->Prop}{H H1:Hp}{b:Addr}{o:HO}
theorem Ts(h:B b):Ud B H b=none:=if_pos h
theorem X4(h:¬ B b):Ud B H b=H b:=if_neg h
theorem Rk(B:Addr->Prop)(H:Hp):Same (Ud B H) H:=fun b o e=>by
 by_cases h:B b
 ·rw[Ts h] at e;cases e
 ·rw[X4 h] at e;exact e
end
inductive zic(nu:List Int)(n:Nat):Sea->Prop where
 | nil {S:Sea} (e:S.std=[]) (o:SOk nu n S):zic nu n S
 | snoc {S0 S:Sea} (h:zic nu n S0) (st:Ol S0 S) (o:SOk nu n S):zic nu n S
theorem Rl(e:Same H H'):Same (Ud B H) (Ud B H'):=fun b o q=>by
 by_cases h:B b
 ·rw[Ts h] at q;cases q
 ·rw[X4 h] at q ⊢;exact e _ _ q
structure D22(nu:List Int)(D:X9):Prop where
 aw:∀ i n,D≠.away i n
 dr:∀ ms,D=.draw ms->ms=[]
 sm:zbv D
 en:∀ k g c,D=.enrol k g c->k∈nu\/badI k g c
def B22(d lp ll ln le:Addr):Addr->Prop:=fun x=>x=d\/x=lp\/x=ll\/x=ln\/x=le
structure zms(ca:CA)(nu:List Int)(d lp ll ln le:Addr)(A:SAd)(S:Sea)(n:Nat)(H:Hp):Prop where
 sea:Zx ca (Ud (B22 d lp ll ln le) H) A S
 st:zme H d lp ll S
 i:I22 S
 hi:zic nu n S
 lv:H ln=some (.lst (nu.map V.int))
 lw:∃ ys,H le=some (.lst ys)
 nl:lp≠ln/\ll≠ln
 ne:lp≠le/\ll≠le
end G
namespace G
open PySem PySem.Spec PyProof.Rows L2
def DrX(S0 S:Sea):Prop:=∀ d y,S.std=S0.std++[(d,y)]->(d.1=("draw up":Str)/\S0.cur=none)\/(d.1≠("draw up":Str)/\S0.cur.isSome=S.cur.isSome)
inductive zdb(E:Sea->Prop)(nu:List Int)(n:Nat):Sea->Prop where
 | nil {S:Sea} (e:S.std=[]) (o:SOk nu n S) (x:E S):zdb E nu n S
 | snoc {S0 S:Sea} (h:zdb E nu n S0) (st:Ol S0 S) (dr:DrX S0 S) (o:SOk nu n S) (x:E S):zdb E nu n S
def zlo(r o:Int)(dr:Bool)(lp lo ll:Addr):List (Key×V):=[(.inr "rounds",.int r),(.inr "over",.int o),(.inr "drawn",.bl dr),(.inr "people",.ref lp),(.inr "out",.ref lo),(.inr "log",.ref ll)]
structure zmg(H:Hp)(d lp lo ll:Addr)(S:Sea):Prop where
 dd:H d=some (.dK (zlo S.len S.led.length S.cur.isSome lp lo ll))
 pp:H lp=some (.lst ((S.ppl.map (·.1)).map V.int))
 oo:∃ ots,H lo=some (.lst ots)/\Z8 H ots (S.out.map oiV)
 gg:∃ lts,H ll=some (.lst lts)/\Z8 H lts (S.std.map fun x=>Ql x.1)
 n1:lp≠lo
 n2:lp≠ll
 n3:lo≠ll
def B23(d lp lo ll:Addr)(X:Addr->Prop):Addr->Prop:=fun x=>x=d\/x=lp\/x=lo\/x=ll\/X x
structure zmt(ca:CA)(E:Sea->Prop)(nu:List Int)(d lp lo ll:Addr)(X:Addr->Prop)(A:SAd)(S:Sea)(n:Nat)(H:Hp):Prop where
 sea:Zx ca (Ud (B23 d lp lo ll X) H) A S
 st:zmg H d lp lo ll S
 hi:zdb E nu n S
 xs:∀ x,X x->∃ ys,H x=some (.lst ys)
 nx:∀ x,X x->x≠lp/\x≠lo/\x≠ll
structure D23(nu:List Int)(j:Nat)(D:X9):Prop where
 dr:∀ ms,D=.draw ms->ms=[]
 sm:zbv D
 en:∀ k g c,D=.enrol k g c->nu[j]?=some k/\1<=g/\g<=9/\1<=c/\c<=99
structure E24(S:Sea):Prop where
 ppl:S.ppl=[]
 out:S.out=[]
 st:(S.cur=none/\S.std=[])\/∃ s,S.cur=some s/\S.std=[((("draw up":Str),(s.ms.length:Int),atV S),none)]
 gv:∀ s,S.cur=some s\/s∈S.old->s.gv=List.replicate s.ms.length V.non
inductive zid(ok:Addr->Prop)(H:Hp):List V->List Zy->Prop where
 | nil:zid ok H [] []
 | cons {l:Addr} {ts:List V} {ls:List V} {s:Zy} {ss:List Zy} (h:H l=some (.lst ts)) (q:Z8 H ts (s.ms.map pV)) (o:ok l) (r:zid ok H ls ss):zid ok H (.ref l :: ls) (s :: ss)
def zlp(r:Int)(lv:Addr)(v:V):List (Key×V):=[(.inr "rounds",.int r),(.inr "over",.ref lv),(.inr "listed",v)]
structure zmh(ok:Addr->Prop)(H:Hp)(d lv:Addr)(v:V)(S:Sea):Prop where
 dd:H d=some (.dK (zlp S.len lv v))
 vv:∃ ls,H lv=some (.lst ls)/\zid ok H ls S.old
 li:Mg ok H v (S.cur.map (·.ms))
def B24(d lv lc:Addr):Addr->Prop:=fun x=>x=d\/x=lv\/x=lc
structure zmu(K:Frag)(ca:CA)(d lv lc b:Addr)(cs ns:List Int)(v:V)(A:SAd)(S:Sea)(n:Nat)(H:Hp):Prop where
 sea:Zx ca (Ud (B24 d lv lc) H) A S
 st:zmh (fun x=>x∉A.fp/\¬ B24 d lv lc x) H d lv v S
 e:E24 S
 so:SOk [] n S
 cl:H lc=some (.lst (cs.map V.int))
 sc:Sj K A (Ud (B24 d lv lc) H) b (ns.map V.int)
section
variable{S S' S1:Sea}{D:X9}{Ds Es:List X9}{v:V}{H H':Hp}{nu:List Int}{n:Nat}
structure zmv(S S':Sea):Prop where
 len:S'.len=S.len
 led:S'.led=S.led
 ppl:S'.ppl=S.ppl
end
structure D25(nu:List Int)(D:X9):Prop where
 sm:zbv D
 dr:∀ ms,D=.draw ms->ms.length<=100
 en:∀ n g c,D=.enrol n g c->1<=n/\1<=g/\1<=c/\c<=99/\(¬ badI n g c->n∈nu)
structure zmm(S S1:Sea)(es:List P3)(k:Nat)(ps:List (Int×Int)):Prop where
 std:∃ std0 w1 w2,S1.std.map (·.1)=std0++[w1]++[w2]/\std0.length=98/\w1.1≠("enrol":Str)/\w2.1≠("enrol":Str)
 led:S1.led=S.led
 len:S1.len=S.len
 ppl:S1.ppl=es
 out:∀ p∈S1.out,p∈ps.take (k+1)
structure Sm(S:Sea):Prop where
 std:∀ x∈S.std,Yi x.1.2.1/\Yi x.1.2.2
 led:S.led.length<=S.len
 len:S.len<=60
end G
namespace G
open PySem PySem.Spec PyProof.Rows L2
def dueR(S:Sea)(i:Int)(r:Option Ref):Option Ref:=if i<1\/(S.len:Int)<i then some .noRound else if (Y4 S i).isSome=true then r else some .notDrawn
theorem ShOk.q(h:ShOk n s):(∀ x∈s.gv,oneV x)/\s.gv.length<=100/\E9 s.may s.gv:=⟨h.fi.one,by have h1:=h.fi.len;have h2:=h.ml;have h3:=h.ms;omega,K1 h.fi h.st⟩
theorem zbw(o:SOk nu n S)(h:Om n S)(e:Y4 S i=some s):ShOk n s:=by
 unfold Y4 at e;split at e
 ·exact h s (zu2 e)
 ·split at e
  ·cases e
  ·exact o.shOk e
theorem A9(si:Yi i)(o:S.old.length=S.led.length)(hE:∀ x,dueR S i r=some x->E (.ref (x.cls ca)) none H)(hk:∀ s,Y4 S i=some s->dueR S i r=r->k s):Um ca H S i E k:=by
 refine⟨si,o,?_⟩;unfold dueR at hE hk;by_cases c:i<1\/(S.len:Int)<i
 ·rw[if_pos c] at hE ⊢;exact hE _ rfl
 rw[if_neg c] at hE hk ⊢;refine⟨fun z=>?_,fun s hs=>hk s hs ?_⟩
 ·rw[z,if_neg ⋯] at hE;exact hE _ rfl
 ·rw[hs,if_pos (show (some s).isSome=true from rfl)]
section
variable{K:Frag}{σ:L2.St}{H:Hp}{t:Addr}{w w':Str}{rw:List V}{A y:TS}{D:Oa}
theorem Nf(hs:σ[1]?=some (some (.ref t)))(ht:H t=some (.tup (.str w :: rw)))(hw:decide (w=w')=false)(h:y D σ H):Zz (G8 (Bh (tOp rEq (tOp (zdr K) (Bc 1) (tC (V.int 0))) (tC (V.str w')))) A zb5) y D σ H :=
 Yp (Wf (b:=false) (fun Q q=>⟨_,hs,t,_,_,_,rfl,rfl,SqT.of ht,Z7 (j:=0) rfl,rfl,_,by rw[Ri hw],q⟩) (iteF (Z0 h)))
end
end G
namespace L2
open PySem PySem.Spec PyProof.Rows G
inductive LNe(K:Frag)(x:Str)(st:Stmt):Prop where
 | mk {f:Addr} {oc kV dc pm cd ct:Value} {od an:Option Addr} {sl:Array (Option Value)} (b:NsB K x f) (l:LkF K f x x st oc kV dc pm cd ct od an sl) (c:PySem.W.codeIn K cd x=true) (k:PySem.W.keepIn K (.ref f)=true)
inductive LMe(K:Frag)(C:Addr)(x q:Str)(st:Stmt):Prop where
 | mk {f:Addr} {oc kV dc pm cd ct:Value} {od an:Option Addr} {sl:Array (Option Value)} (b:FdB K C x f) (l:LkF K f x q st oc kV dc pm cd ct od an sl) (c:PySem.W.codeIn K cd q=true) (k:PySem.W.keepIn K (.ref f)=true) (i:PySem.W.isFn K (.ref f)=true)
structure zg2(K:Frag)(C:Addr):Prop where
 pg:PySem.W.plainGet K C Str.empty=true
 hd:PySem.W.hasDictIn K C=true
 po:PySem.W.plainOver K C=true
 sa:PySem.W.findIn K (.ref C) "__setattr__"=some (some (.builtin "object.__setattr__"))
 mk_:PySem.W.makesIn K C=true
 kc:PySem.W.keepIn K (.ref C)=true
structure zmw(K:Frag)(c:CA)(e:Addr)(N:Ref->Prop):Prop where
 ga:∀ r:Ref,N r->PySem.W.findIn K (.ref (r.cls c)) "__getattribute__"=some (some (.builtin "BaseException.__getattribute__"))
 gk:∀ r:Ref,N r->PySem.W.findIn K (.ref (r.cls c)) "__getattr__"=some none
 at_:∀ r:Ref,N r->PySem.W.findIn K (.ref (r.cls c)) "__class__"=some (some (.builtin "object.__class__"))
 mx:∀ r:Ref,N r->PySem.W.mroIn K (r.cls c) (.type "BaseException")=some true
 mo:∀ r:Ref,N r->PySem.W.mroIn K (r.cls c) (.type "object")=some true
 mB:∀ r:Ref,N r->PySem.W.mroIn K (r.cls c) (.ref e)=some true
 kit:∀ r t:Ref,N r->PySem.W.kitOne K (.ref (r.cls c)) (.ref (t.cls c))=some (decide (r=t))
 kitV:∀ r:Ref,N r->PySem.W.kitOne K (.ref (r.cls c)) (.type "ValueError")=some true
section
variable{P:Program}{w:World}{base h:Heap}{K:Frag}{mg:Str->Option Value}{x y q:Str}{k:Nat}{ps:List Str}{sp:Sp}{C:Addr}{st:Stmt}
theorem dE(Z:XG P w base K mg h)(l:LNe K x st)(ok:∀ {f fd},Fun K x x st f fd->FnOk P w K mg base (CX1 P w) k f fd ps sp)(hb:BnA x x st ps:=by first|exact bn1|exact bn2|exact bn3|exact bn4|exact bn5):Z2 P w K mg base x k ps sp:=by
 cases l with
 | mk b l c k=>exact dN Z ⟨b,l,c,k⟩ ok hb
theorem mE(Z:XG P w base K mg h)(l:LMe K C x q st)(ok:∀ {f fd},Fun K x q st f fd->FnOk P w K mg base (CX1 P w) k f fd ps sp)(hb:BnA x q st ps:=by first|exact bn1|exact bn2|exact bn3|exact bn4|exact bn5):Zs P w K mg base C x k ps sp:=by
 cases l with
 | mk b l c k i=>exact mM Z ⟨b,l,c,k,i⟩ ok hb
theorem nE(Z:XG P w base K mg h)(l:LMe K C "__init__" q st)(o:zg2 K C)(c:PySem.W.nsIn K mainGlobals y=some (some (.ref C)))(ok:∀ {f fd},Fun K "__init__" q st f fd->FnOk P w K mg base (CX1 P w) k f fd ps sp)(hb:BnA "__init__" q st ps:=by first|exact bn1|exact bn2|exact bn3|exact bn4|exact bn5):Tg P w K mg base y C k ps sp:=by
 cases l with
 | mk b l c' k i=>exact nM Z ⟨b,l,c',k,i⟩ o.mk_ o.kc c ok hb
end
end L2
namespace G
open PySem PySem.Spec PyProof.Rows L2
inductive Cv(vs:List V)(H:Hp)(Q:VK)(_:XK):Prop where
 | mk(l:Addr)(xs:List V)(_:vs=[.ref l])(_:H l=some (.lst xs))(_:xs.length<=2000)(_:∀ ys,ys.length=xs.length+1->Q .non (upd H l (.lst ys)))
@[elab_as_elim] theorem al{H:Hp}{l:Addr}{o:HO}{p:Hp->Prop}(X:Hp)(f:H l=none)(e:X=upd H l o)(h:∀ H',H' l=some o->Same H H'->p H'):p X:=e▸h _ Ze (Zk f)
section
variable{D:Oa}{σ:L2.St}{ok:Addr->Prop}{Hs H:Hp}{d:Addr}{P P':Pg}
theorem pgw(P':Pg)(hj:σ[j]?=some (some (.ref d)))(h:PgAt ok H d P)(fd:Hs d=none)(s:Same Hs H)
  (f:∀ {lp lo lv:Addr} {dv li:V} {lg lm:Addr} {H':Hp},Wa H H'->PgB ok H' P lp lo lv dv li lg lm->∃ lp' lo' lv' dv' li' lg' lm',putK (pgF P.len P.rest lp lo lv dv li lg lm) (.inr k) x=pgF P'.len P'.rest lp' lo' lv' dv' li' lg' lm'/\PgB ok H' P' lp' lo' lv' dv' li' lg' lm')
  (g:∀ H',PgAt ok H' d P'->Same Hs H'->D.nx σ H'):zim (Bc j) (tC (.str k)) (fun _ H Q=>Q x H) D σ H:=by
 obtain⟨lp,lo,lv,dv,li,lg,lm,a1,B,okd⟩:=h.split;have kk:=Wa.dict a1 (kvs':=putK (pgF P.len P.rest lp lo lv dv li lg lm) (.inr k) x);obtain⟨_,_,_,_,_,_,_,e,B'⟩:=f kk (B.keepL kk);exact⟨_,hj,d,_,rfl,DPut.k (k:=.inr k) a1 zbn,g _ (.join (by rw[Ze,e]) B' okd) (Yb fd s)⟩
variable{K:Frag}{t:Addr}{w w':Str}{rw:List V}{A B:TS}
theorem zkb(hs:σ[1]?=some (some (.ref t)))(ht:H t=some (.tup (.str w :: rw)))(hw:decide (w=w')=false)(h:B D σ H):G8 (Bh (tOp rEq (tOp (zdr K) (Bc 1) (tC (V.int 0))) (tC (V.str w')))) A B D σ H :=
 Wf (b:=false) (fun Q q=>⟨_,hs,t,_,_,_,rfl,rfl,SqT.of ht,Z7 (j:=0) rfl,rfl,_,by rw[Ri hw],q⟩) (iteF h)
theorem zdc(hs:σ[1]?=some (some (.ref t)))(ht:H t=some (.tup (.str w :: rw)))(h:A D σ H):G8 (Bh (tOp rEq (tOp (zdr K) (Bc 1) (tC (V.int 0))) (tC (V.str w)))) A B D σ H :=
 Wf (b:=true) (fun Q q=>⟨_,hs,t,_,_,_,rfl,rfl,SqT.of ht,Z7 (j:=0) rfl,rfl,_,by rw[zbl],q⟩) (iteT h)
end
def TL(ca:CA)(A:SAd)(S:Sea)(H H':Hp)(l:Addr):Prop:=∃ H0,Zx ca H0 A S/\Same H0 H'/\FrS A H H0/\H0 l=none
def ziv(ca:CA)(A A':SAd)(S':Sea)(H H':Hp)(v:V):Prop:=∃ H0,Zx ca H0 A' S'/\Same H0 H'/\FrS A H H0/\∀ l xs,v=.ref l->H' l=some (.lst xs)->H0 l=none
inductive Hu(K:Frag)(ca:CA)(vs:List V)(H:Hp)(Q:VK)(E:XK):Prop where
 | mk(A:SAd)(S:Sea)(b:Addr)(ts:List V)(ms:List P3)(_:vs=[.ref A.p,.ref b])(_:Zx ca H A S)(_:SqL K H b ts)(_:Z8 H ts (ms.map pV))(_:(∀ m∈ms,Ir m))(_:ms.length<=1000)(_:S.std.length<=1000)(_:Qm S)(_:if S.len<=S.led.length then E (.ref ca.seaOver) none H else if S.cur.isSome then E (.ref ca.drawn) none H else (20<ms.length->E (.ref ca.manyM) none H)/\(ms.length<=20->Rz ms->E (.ref ca.out) none H)/\(ms.length<=20->¬ Rz ms->R0 ms->E (.ref ca.same) none H)/\(ms.length<=20->¬ Rz ms->¬ R0 ms->(100<=S.std.length->∀ H',Same H H'->E (.ref ca.manyD) none H')/\(S.std.length<100->∀ l gv H',H' l=some (.lst gv)->TL ca A (zgl S ms gv) H H' l->Ym (mayS S ms) gv->Vp (mayS S ms) gv->Q (.ref l) H')))
inductive Hv(ca:CA)(vs:List V)(H:Hp)(Q:VK)(_:XK):Prop where
 | mk(A:SAd)(S:Sea)(n:Int)(s:Zy)(nu:List Int)(_:vs=[.ref A.p,.int n])(_:Zx ca H A S)(_:S.cur=some s)(_:Qm S)(_:s.ms.length<=20)(_:(∀ x∈s.gv,oneV x))(_:s.gv.length<=100)(_:s.gaps.length<=500)(_:Qk (mayS S s.ms) nu)(_:(Xt s.gv n=none->∀ l H',H' l=some (.lst [])->TL ca A { S with cur:=some { s with may:=mayS S s.ms } } H H' l->Q (.ref l) H'))(_:∀ p,Xt s.gv n=some p->s.gv[p]?=some (.int n)/\(∀ j:Nat,s.gv[j]?=some (.int n)->j=p)/\Ym (mayS S s.ms) (s.gv.set p .non)/\∀ l us st e w H',H' l=some (.lst us)->Z8 H' us (st.map Wq)->Xc (mayS S s.ms) (s.gv.set p .non) p st e w->TL ca A { S with cur:=some ⟨s.ms,mayS S s.ms,Yh st (s.gv.set p .non),s.gaps++[(n,st)]⟩ } H H' l->Q (.ref l) H')
inductive zaa(ca:CA)(vs:List V)(H:Hp)(Q:VK)(E:XK):Prop where
 | mk(A:SAd)(S:Sea)(i n:Int)(_:vs=[.ref A.p,.int i,.int n])(_:Zx ca H A S)(_:Yi i)(_:Yi n)(_:S.std.length<=1000)(_:S.out.length<=100000)(_:Qm S)(_:(∀ s,S.cur=some s->s.ms.length<=20/\Ym s.may s.gv/\s.may=mayS S s.ms/\s.gaps.length<=500))(_:if i<1\/(S.len:Int)<i then E (.ref ca.noRound) none H else if i<=S.led.length then E (.ref ca.over) none H else if n∈S.ppl.map (·.1) then (if (i,n)∈S.out then ∀ H',Same H H'->E (.ref ca.away) none H' else if 100<=S.std.length then ∀ H',Same H H'->E (.ref ca.manyD) none H' else (S.cur=none\/atV S<i->∀ l H',H' l=some (.lst [])->TL ca A (Xk S i n) H H' l->Q (.ref l) H')/\(∀ s,i=atV S->S.cur=some s->Xt s.gv n=none->∀ l H',H' l=some (.lst [])->TL ca A { Xk S i n with cur:=some { s with may:=mayS (Xk S i n) s.ms } } H H' l->Q (.ref l) H')/\(∀ s p,i=atV S->S.cur=some s->Xt s.gv n=some p->∀ l us st e w H',H' l=some (.lst us)->Z8 H' us (st.map Wq)->Xc (mayS (Xk S i n) s.ms) (s.gv.set p .non) p st e w->TL ca A { Xk S i n with cur:=some ⟨s.ms,mayS (Xk S i n) s.ms,Yh st (s.gv.set p .non),s.gaps++[(n,st)]⟩ } H H' l->Q (.ref l) H')) else E (.ref ca.unk) none H)
inductive zbx(K:Frag)(ca:CA)(vs:List V)(H:Hp)(Q:VK)(_:XK):Prop where
 | mk(A:SAd)(S:Sea)(t:Addr)(d:X9)(_:vs=[.ref A.p,.ref t])(_:Zx ca H A S)(_:Xp (·∉A.fp) H t d)(_:Mf S d)(_:zgo S)(_:Qm S)(_:S.std.length<100)(_:S.out.length<=100000)(_:2*(tot S.led+1000)<=100000)(_:S.led.length<=1000)(_:S.old.length<=1000)(_:S.len<=1000)(_:(∀ i n,d=.away i n->Yi n))(_:(d=.back->∃ S0,Ol S0 S))(_:∀ v A' S' H',Si H' S d S' v->Zx ca H' A' S'->Kw A A' H->FrS A H H'->ziv ca A A' S' H H' v->Q v H')
theorem zlq(F:Ut mb (·∉A.fp) H nu n ds d P S)(SA:Zx ca H A S)(af:Si Hx S D S' v)(SA1:Zx ca H1 A' S')(nx:Kw A A' H)(fr:FrS A H H1)(g:Mf S D)(hn:∀ k gr c,D=.enrol k gr c->k∈nu)
  (pg:D≠.back->PgAt (fun x=>x∉A'.fp\/H1 x=none) H2 d' (Vc P D)) (s2:Same H1 H2) (fd:H1 d'=none) :
  ∃ ds2 d2 P2,Ls ds d d' D=ds2++[d2]/\Mi mb (·∉A'.fp) H2 nu (n+1) ds2 d2 P2 S'/\(D≠.back->P2=Vc P D)/\(D=.back\/D=.close->(∀ s,S'.cur=some s->P2.gv=s.gv)/\(mb=true->P2.mv=Qn S')):=by
 have mv:∀ {xs:List Addr} {S0:Sea},Bk mb (·∉A.fp) H nu n xs S0->Bk mb (·∉A'.fp) H2 nu (n+1) xs S0:=fun b=>by
  have b1:=b.imp (ok':=fun x=>x∉A.fp/\x∉A'.fp) fun x ⟨o,e⟩ z=>⟨z,nx.out e z⟩
  have b2:=b1.keep (H':=H2) (fun x o z e=>s2 _ _ (fr x o e z.1)) fun t xs e=>s2 _ _ (SA.tups fr t xs e);exact(b2.imp fun x _ z=>z.2).mono (Nat.le_succ n)
 have hd1:∀ x∈ds++[d],x≠d':=fun x hx z=>by
  have b1:=F.bk.imp (ok':=fun x=>x∉A.fp/\x∉A'.fp) fun x ⟨o,e⟩ z=>⟨z,nx.out e z⟩
  have b2:=b1.keep (H':=H1) (fun x o z e=>fr x o e z.1) fun t xs e=>SA.tups fr t xs e;obtain⟨kvs,e⟩:=b2.there x hx;rw[z,fd] at e;cases e
 by_cases hb:D=.back
 ·subst hb;cases af with
  | @back S0' dd t h ht hs =>
    obtain⟨nd,⟨_,e⟩|⟨S0,b,st,_⟩⟩:=F.tl
    ·exact absurd e g
    ·have es:=Dp hs st;subst es;obtain⟨ds2,d2,P2,e,F2⟩:=(mv b).full;exact⟨ds2,d2,P2,e,F2.pend,fun z=>absurd rfl z,fun _=>⟨F2.re.gv,F2.re.mv⟩⟩
 ·have pg':PgAt (·∉A'.fp) H2 d' (Vc P D):=(pg hb).imp fun x hx z=>by
   rcases z with z|z
   ·exact z
   ·exact SA1.newOk x z
  obtain⟨o',ho⟩:=A5 F.so g af hb hn;have rb:=Dm F.re F.so g af hb;rcases ho with ⟨rfl,e1,e2⟩|⟨hc,st⟩
  ·exact⟨[],d',_,rfl,⟨pg',rb,o',nofun,.inl ⟨rfl,e1⟩⟩,fun _=>rfl,fun _=>⟨fun s hs=>(by rw[e2] at hs;cases hs),fun _=>(by rw[Tr e2];rfl)⟩⟩
  ·have hk:Ls ds d d' D=(ds++[d])++[d']:=by
    cases D with
    | back=>exact absurd rfl hb
    | close=>exact absurd rfl hc
    | enrol _ _ _=>rfl
    | away _ _=>rfl
    | draw _=>rfl
   refine⟨ds++[d],d',_,hk,⟨pg',rb,o',fun z=>hd1 d' z rfl,.inr ⟨S,mv F.bk,st,A6 F.re.b F.so af hb hc⟩⟩,fun _=>rfl,?_⟩;rintro(z|z)
   ·exact absurd z hb
   ·exact absurd z hc
theorem zie(h:PgAt ok H d P)(hb:∀ x,ok x->¬ B x)(ht:∀ t xs,H t=some (.tup xs)->¬ B t):PgAt ok (Ud B H) d P :=
 h.keep (fun x o z e=>by rw[X4 (hb x z)];exact e) fun t xs e=>by rw[X4 (ht t xs e)];exact e
theorem Xp.imp2(h:Xp ok H t D)(k:∀ x,(∃ o,H x=some o)->ok x->ok' x):Xp ok' H t D:=by
 cases D with
 | draw ms=>obtain⟨l,ts,a1,a2,a3,a4⟩:=h;exact⟨l,ts,a1,a2,a3,k _ ⟨_,a2⟩ a4⟩
 | enrol a b c=>exact h
 | away a b=>exact h
 | close=>exact h
 | back=>exact h
theorem Lu(hb:B b):Same (Ud B H) (upd H b o):=fun x u q=>by
 by_cases z:B x
 ·rw[Ts z] at q;cases q
 ·rw[X4 z] at q;rw[Zf (fun y=>z (by rw[y];exact hb))];exact q
theorem Lv(h:¬ B x):Ud B (upd H x o)=upd (Ud B H) x o:=funext fun y=>by
 by_cases w:y=x
 ·subst w;rw[X4 h,Ze,Ze]
 ·by_cases z:B y
  ·rw[Ts z,Zf w,Ts z]
  ·rw[X4 z,Zf w,Zf w,X4 z]
inductive Ml(ca:CA)(vs:List V)(H:Hp)(Q:VK)(_:XK):Prop where
 | mk(A:SAd)(S:Sea)(i:Int)(s:Zy)(nu:List Int)(n:Nat)(_:vs=[.ref A.p,.int i])(_:Zx ca H A S)(_:SOk nu n S)(_:Om n S)(_:n<=500)(_:Yi i)(_:1<=i)(_:Y4 S i=some s)(_:i<=S.len)(_:∀ H',Same H H'->Q .non H')
end G
namespace K28
open PySem PySem.Spec PyProof.Rows L2 G
def top(i:Nat):Stmt:=PySem.Challenge.pw_whistlebook_k28_told_lists_of_a_round.main.body.getD i (.Pass ⟨0,0,0,0⟩)
structure Ad where
 zqj:Addr
 znk:Addr
 znx:Addr
 znl:Addr
 znr:Addr
 znq:Addr
 zox:Addr
 zow:Addr
 zn5:Addr
 zop:Addr
 zod:Addr
 zn7:Addr
 zpt:Addr
 zo2:Addr
 znf:Addr
 zny:Addr
 zm2:Addr
 zm3:Addr
 zm1:Addr
 zmx:Addr
abbrev ca(a:Ad):CA:=⟨a.zmx,a.zm1,a.zm3,a.zm2,a.znk,a.znx,a.znl,a.znr,a.znq,a.zox,a.zow,a.zn5,a.zop,a.zod,a.zn7,a.zpt,a.zo2,a.znf,a.zny⟩
structure Tx(K:Frag)(mg:Str->Option Value)(a:Ad):Prop where
 znv:Cls K a.zm2
 zp9:X0 K a.zm2 "rounds"
 zo0:X0 K a.zm2 "meetings"
 zni:Cls K a.zm3
 zoa:X0 K a.zm3 "entries"
 zm6:Cls K a.zm1
 zpv:X0 K a.zm1 "listed"
 zrn:X0 K a.zm1 "lists"
 zo6:X0 K a.zm1 "given"
 zrj:X0 K a.zm1 "gaps"
 zmy:Cls K a.zmx
 zqr:X0 K a.zmx "length"
 zsa:X0 K a.zmx "rest"
 zof:X0 K a.zmx "roster"
 zov:X0 K a.zmx "ledger"
 zps:X0 K a.zmx "absent"
 zqt:X0 K a.zmx "sheets"
 znt:X0 K a.zmx "sheet"
 zoe:X0 K a.zmx "standing"
 zr9:Q5 K mg "OutOfRange" a.znk
 zrh:Q5 K mg "TooManyMatches" a.znq
 zsf:Q5 K mg "SameClub" a.zox
 zry:Q5 K mg "KnownReferee" a.znx
 zrd:Q5 K mg "TooManyReferees" a.znl
 zrg:Q5 K mg "UnknownReferee" a.znr
 zr8:Q5 K mg "SeasonOver" a.zod
 zsk:Q5 K mg "DrawnUp" a.zpt
 zr0:Q5 K mg "NoSuchRound" a.zn5
 zru:Q5 K mg "TooManyDeeds" a.zny
 zrx:Q5 K mg "NotDrawn" a.zo2
 zsc:Q5 K mg "RoundOver" a.zop
 zr1:Q5 K mg "AwayAlready" a.zn7
 zqy:Q5 K mg "NothingToTakeBack" a.znf
 zr5:mg "max"=none
 zm9:mg "len"=none
 zqw:mg "tuple"=none
 zol:mg "list"=none
 zpw:mg "enumerate"=none
 zn0:mg "range"=none
 zqp:mg "sorted"=none
 zsl:mg "zip"=none
 znj:mg "isinstance"=none
 zsj:mg "int"=none
 zse:mg "bool"=none
 zsh:mg "dict"=none
 zsi:mg "min"=none
 gc_BookError:mg "BookError"=some (.ref a.zqj)
 gc_OutOfRange:mg "OutOfRange"=some (.ref a.znk)
 gc_KnownReferee:mg "KnownReferee"=some (.ref a.znx)
 gc_TooManyReferees:mg "TooManyReferees"=some (.ref a.znl)
 gc_UnknownReferee:mg "UnknownReferee"=some (.ref a.znr)
 gc_TooManyMatches:mg "TooManyMatches"=some (.ref a.znq)
 gc_SameClub:mg "SameClub"=some (.ref a.zox)
 gc_NoSuchMatch:mg "NoSuchMatch"=some (.ref a.zow)
 gc_NoSuchRound:mg "NoSuchRound"=some (.ref a.zn5)
 gc_RoundOver:mg "RoundOver"=some (.ref a.zop)
 gc_SeasonOver:mg "SeasonOver"=some (.ref a.zod)
 gc_AwayAlready:mg "AwayAlready"=some (.ref a.zn7)
 gc_DrawnUp:mg "DrawnUp"=some (.ref a.zpt)
 gc_NotDrawn:mg "NotDrawn"=some (.ref a.zo2)
 gc_NothingToTakeBack:mg "NothingToTakeBack"=some (.ref a.znf)
 gc_TooManyDeeds:mg "TooManyDeeds"=some (.ref a.zny)
 gc_Ledger:mg "Ledger"=some (.ref a.zm2)
 gc_Roster:mg "Roster"=some (.ref a.zm3)
 gc_Sheet:mg "Sheet"=some (.ref a.zm1)
 gc_Season:mg "Season"=some (.ref a.zmx)
 zp6:∃ t,mg "MOST_NUMBER"=some (.int 999 t)
 zpe:∃ t,mg "MOST_GRADE"=some (.int 9 t)
 zo7:∃ t,mg "MOST_CLUB"=some (.int 99 t)
 zom:∃ t,mg "MOST_REFEREES"=some (.int 30 t)
 zot:∃ t,mg "MOST_MATCHES"=some (.int 20 t)
 zp8:∃ t,mg "MOST_ROUNDS"=some (.int 60 t)
 zqs:∃ t,mg "MOST_REST"=some (.int 10 t)
 zpg:∃ t,mg "MOST_DEEDS"=some (.int 100 t)
end K28
set_option maxHeartbeats 64000000
namespace K28
open PySem PySem.Spec PyProof.Rows L2 G
local macro_rules | `(tactic| walk_at "rd")=>`(tactic| repeat (first|(refine⟨_,rfl,?_⟩)|(refine⟨_,_,rfl,rfl,?_⟩)|(refine And.intro (show CMul _ _ from Or.inr (And.intro (by decide) (by decide))) ?_)|(refine And.intro (show CMul _ _ from Or.inl (And.intro (by decide) (by decide))) ?_)|(refine And.intro (show CDiv _ _ from(And.intro (by decide) (by decide))) ?_)|(refine And.intro (show CPow _ _ from(And.intro (by decide) (And.intro (by decide) (by decide)))) ?_)|(refine And.intro (show (0:Int)<_ from(by decide)) ?_)))
local macro_rules | `(tactic| walk_at "if")=>`(tactic| dsimp only[W4,List.set])
local macro_rules | `(tactic| walk_at "ar")=>`(tactic| (intro _ _ _ _ h;first|(cases h;subst_vars;rfl)|repeat (first|(obtain⟨h1,_⟩:=h;subst h1;rfl)|(obtain⟨_,h⟩:=h))))
section
variable{P:Program}{w:World}{K:Frag}{mg:Str->Option Value}{base:Heap}{a:Ad}{f:Addr}{fd:FuncData}
abbrev R1:Stmt:=top 2
theorem Oo:Zl ["number","club","ledger","rest","rested"] ["number","club","ledger","rest"] (Zi R1):=fnS
theorem Fm(F:Fun K "met_lately" "met_lately" R1 f fd)(T:Tx K mg a)(zm5:Zs P w K mg base a.zm2 "over" 1 ["self"] (Le a.zm2))(zql:Zs P w K mg base a.zm2 "met" 1 ["self","number","club"] (zis a.zm2)):FnOk P w K mg base (CX1 P w) 2 f fd ["number","club","ledger","rest"] (Bz a.zm2):=by
 refine F.okX Oo ⋯ fun _ _ _ _ H _ Q E hr h=>?_;obtain⟨p,lr,ld,Rs,n,c,rest,rfl,LA,h⟩:=h;refine⟨_,(Zb (pS 4 Oo.nd (Zn (M3 rfl) (by rfl) T.zr5 PyProof.Rows.boot_max (Za (Zt Qz (Yo (pv 2) T.znv zm5 (hr.mono ⋯) Zj) (pv 3)) (Za Zg Zc))))
 (Zd (Zm (Sb Sa (Yl (pv 2) T.znv zql (hr.mono ⋯) Zj (Za (pv 0) (Za (pv 1) Zc))) (pv 4) (Zu _))))),?_⟩
 obtain⟨⟨dx,hp⟩,_,_⟩:=id LA;refine⟨_,rfl,p,dx,_,rfl,hp,Ie ⋯ ⋯,p,lr,ld,Rs,rfl,LA,_,rfl,_,_,rfl,rfl,_,_,rfl,?_⟩;refine⟨_,rfl,p,dx,_,rfl,hp,Ie ⋯ ⋯,_,rfl,_,rfl,p,lr,ld,Rs,n,c,rfl,LA,fun H' s'=>⟨_,rfl,_,_,rfl,rfl,h H' s'⟩⟩
abbrev Lw:Stmt:=top 3
theorem Wv:Zl ["referee","match","out","ledger","rest","number","grade","club","home","guest","asked","told"] ["referee","match","out","ledger","rest"] (Zi Lw):=fnS
theorem zby(F:Fun K "reasons" "reasons" Lw f fd)(T:Tx K mg a)(zpc:Z2 P w K mg base "met_lately" 2 ["number","club","ledger","rest"] (Bz a.zm2)):FnOk P w K mg base (CX1 P w) 3 f fd ["referee","match","out","ledger","rest"] (E3 K a.zm2):=by
 refine F.okX Wv ⋯ fun _ _ _ _ H _ Q E hr h=>?_;obtain⟨t1,t2,p,lr,ld,Rs,n,g,c,h,gu,d,rest,o,rfl,h1,h2,LA,hq⟩:=h;refine⟨_,(Zb (pS 5 Wv.nd (pI (iU K) (pv 0) Zg))
 (Zb (pS 6 Wv.nd (pI (iU K) (pv 0) Zg))
 (Zb (pS 7 Wv.nd (pI (iU K) (pv 0) Zg))
 (Zb (pS 8 Wv.nd (pI (iU K) (pv 1) Zg))
 (Zb (pS 9 Wv.nd (pI (iU K) (pv 1) Zg))
 (Zb (pS 10 Wv.nd (pI (iU K) (pv 1) Zg))
 (Zb (pS 11 Wv.nd (Z9 Zc))
 (Zb (Z4 (Xh (pv 2))
  (Zd (Yu (pv 11) Zo))
  Zq)
 (Zb (Z4 (Zp Sa (pv 10) (pv 6) (Zu _))
  (Zd (Yu (pv 11) Zo))
  Zq)
 (Zb (Z4 (PW.pt (Vk (Zp Wd (pv 7) (pv 8) (Zu _)) (Wn (Zp Wd (pv 7) (pv 9) (Zu _)))))
  (Zd (Yu (pv 11) Zo))
  Zq)
 (Zb (Z4 (PW.pt (Vk (Xh (pF zpc hr (Za (pv 5) (Za (pv 8) (Za (pv 3) (Za (pv 4) Zc)))))) (Wn (Xh (pF zpc hr (Za (pv 5) (Za (pv 9) (Za (pv 3) (Za (pv 4) Zc)))))))))
  (Zd (Yu (pv 11) Zo))
  Zq)
 (Zd (Zm (pv 11)))))))))))))),?_⟩
 show let y1:TS:=_;let y2:TS:=Zz _ y1;let y3:TS:=Zz _ y2;let y4:TS:=Zz _ y3;let y5:TS:=Zz _ y4;let y6:TS:=Zz _ y5;let y7:TS:=Zz _ y6;let y8:TS:=Zz _ y7;let y9:TS:=Zz _ y8;let y10:TS:=Zz _ y9;let y11:TS:=Zz _ y10;Zz _ y11 _ _ _;intro y1 y2 y3 y4 y5 y6 y7 y8 y9 y10 y11;refine⟨_,rfl,t1,_,_,_,rfl,rfl,SqT.of h1,(show atI [V.int n,V.int g,V.int c] 0=some _ from rfl),_,rfl,t1,_,_,_,rfl,rfl,SqT.of h1,(show atI [V.int n,V.int g,V.int c] 1=some _ from rfl),_,rfl,t1,_,_,_,rfl,rfl,SqT.of h1,(show atI [V.int n,V.int g,V.int c] 2=some _ from rfl),?_⟩;refine⟨_,rfl,t2,_,_,_,rfl,rfl,SqT.of h2,(show atI [V.int h,V.int gu,V.int d] 0=some _ from rfl),_,rfl,t2,_,_,_,rfl,rfl,SqT.of h2,(show atI [V.int h,V.int gu,V.int d] 1=some _ from rfl),_,rfl,t2,_,_,_,rfl,rfl,SqT.of h2,(show atI [V.int h,V.int gu,V.int d] 2=some _ from rfl),?_⟩;refine⟨by show 0<=sizeLine;decide,fun l hl=>?_⟩;refine al (upd _ l _) hl rfl fun H1 TH1 s1=>?_;have q1:H1 l=some (.lst (([]:List Str).map V.str)):=TH1;walk_at "if";have b1:=Lh o "away";have b2:=Lh (decide (g<d)) "grade";have b3:=Lh (decide (c=h)||decide (c=gu)) "club";refine Sf (b:=o) (H0:=H) (Rv fun Q q=>⟨_,rfl,_,rfl,q⟩) hl s1 q1 ⋯ rfl (fun H2 s2 q2 _=>?_);rw[List.nil_append] at q2;refine Sf (b:=decide (g<d)) (H0:=H) (Rv fun Q q=>⟨_,rfl,_,rfl,_,_,rfl,rfl,_,rfl,q⟩) hl s2 q2 ⋯ rfl (fun H3 s3 q3 _=>?_);refine Sf (b:=decide (c=h)||decide (c=gu)) (H0:=H) (Rv (Th (fun Q q=>⟨_,rfl,_,rfl,rfl,_,rfl,Rf▸q⟩) (fun Q q=>⟨_,rfl,_,rfl,rfl,_,rfl,Rf▸q⟩))) hl s3 q3 (by rw[zuz];omega) rfl (fun H4 s4 q4 _=>?_);refine Sf (b:=Qj Rs n h rest||Qj Rs n gu rest) (H0:=H) (B0 (fun Q q=>⟨_,rfl,_,rfl,_,rfl,_,rfl,p,lr,ld,Rs,n,h,rest,rfl,LA.same s4,fun H5 s5=>⟨_,rfl,q H5 s5⟩⟩) (fun H5 s5 Q q=>⟨_,rfl,_,rfl,_,rfl,_,rfl,p,lr,ld,Rs,n,gu,rest,rfl,LA.same (s4.trans s5),fun H6 s6=>⟨_,rfl,q H6 s6⟩⟩)) hl s4 q4 (by rw[zuz,zuz];omega) rfl (fun H5 s5 q5 _=>?_);refine⟨_,rfl,hq l H5 ?_ s5 hl⟩;unfold whyS;rw[q5,zwr,zwr]
abbrev Vw:Stmt:=Z3 (top 23) 0
theorem Ng:Zl ["self"] ["self"] (Zi Vw):=fnS
theorem Nh(F:Fun K "__init__" "Ledger.__init__" Vw f fd)(T:Tx K mg a):FnOk P w K mg base (CX1 P w) 1 f fd ["self"] (zcr a.zm2):=by
 refine F.okX Ng ⋯ fun _ _ _ _ H _ Q E hr h=>?_;obtain⟨p,dx,rfl,hp,h⟩:=h;refine⟨_,(Zb (Y9 (K:=K) rfl (pv 0) (Z9 Zc) rfl)
 (Zd (Y9 (K:=K) rfl (pv 0) J4 rfl))),?_⟩
 refine⟨by show 0<=sizeLine;decide,fun lr hlr=>?_⟩;have np:p≠lr:=Zh hp hlr;refine⟨_,rfl,p,a.zm2,dx,[],rfl,(by rw[Zf np];exact hp),T.znv,T.zp9,⋯,?_⟩;intro ld hld;have n1:ld≠p:=fun z=>by rw[z,Ze] at hld;cases hld
 have n2:ld≠lr:=fun z=>by rw[z,Zf (Ne.symm np),Ze] at hld;cases hld
 have hld0:H ld=none:=by rw[Zf n1,Zf n2] at hld;exact hld
 refine⟨_,rfl,p,a.zm2,dx,[("rounds",.ref lr)],rfl,(by rw[Zf (Ne.symm n1),Ze];rfl),T.znv,T.zo0,(by show 1<1000;decide),?_⟩;rw[zlh];refine h lr ld _ ⟨⟨dx,Ze⟩,⟨[],?_,.nil⟩,⟨[],?_,fun n c=>rfl,zvo _⟩⟩ (fun b o e hb=>?_) hlr hld0 (Ne.symm n2)
 ·rw[Zf (Ne.symm np),Zf (Ne.symm n2),Zf (Ne.symm np),Ze]
 ·rw[Zf n1,Ze]
 ·rw[Zf hb,Zf (Zh e hld0),Zf hb,Zf (Zh e hlr)];exact e
abbrev Tt:Stmt:=Z3 (top 23) 1
theorem Xv:Zl ["self","rows","at","home","guest","grade","referee"] ["self","rows"] (Zi Tt):=fnS
theorem K8(F:Fun K "write" "Ledger.write" Tt f fd)(T:Tx K mg a):FnOk P w K mg base (CX1 P w) 1 f fd ["self","rows"] (Ac a.zm2):=by
 refine F.okX Xv ⋯ fun _ _ _ _ H _ Q E hr h=>?_;obtain⟨p,lr,ld,Rs,b,ts,rs,rfl,LA,hb,nb,tl,hl,hl2,h⟩:=h;have hu:=W0 hr;refine⟨_,(Zb (Yu (Zr (K:=K) rfl (pv 0) rfl) (Xl (J9 (K:=K) rfl) (by rfl) T.zqw PyProof.Rows.boot_tuple (Za (pv 1) Zc)))
 (Zb (pS 2 Xv.nd (Zn (cL K) (by rfl) T.zm9 PySem.boot_len (Za (Zr (K:=K) rfl (pv 0) rfl) Zc)))
 (Zd (Yy PassesOwn.leaving rfl (Yc (K:=K) rfl (pv 1)) (Xy (K:=K) (n:=4) rfl rfl (Zw (pN 3 Xv.nd) (Zw (pN 4 Xv.nd) (Zw (pN 5 Xv.nd) (Zw (pN 6 Xv.nd) Xw)))))
  (Zd (Z4 (Zp U6 (pv 6) Y3 (Zu _))
   (Zb (Yq hu (Zr (K:=K) rfl (pv 0) rfl) (Yd (Za (pv 6) (Za (pv 3) Zc))) (pv 2) rfl)
   (Zd (Yq hu (Zr (K:=K) rfl (pv 0) rfl) (Yd (Za (pv 6) (Za (pv 4) Zc))) (pv 2) rfl)))
   Zq)))))),?_⟩
 obtain⟨⟨dx,hp⟩,⟨rr,hlr,rl⟩,⟨kvs,hd,mt,kl⟩⟩:=LA;have hlen:ts.length=rs.length:=by rw[tl.length,zuw]
 have nrd:lr≠ld:=Yw hlr hd (by intro z;cases z);have nrp:p≠lr:=Yw hp hlr (by intro z;cases z);have npd:p≠ld:=Yw hp hd (by intro z;cases z);have nbd:b≠ld:=Yw hb hd (by intro z;cases z);refine⟨_,rfl,p,a.zm2,dx,_,_,rfl,hp,T.znv,T.zp9,Ld,lr,rr,rfl,hlr,_,rfl,b,ts,rfl,.inl ⟨SqL.of hb,fun t ht=>⟨rr,(by rw[Zf (Zh hlr ht)];exact hlr),Ub (by rw[rl.length];omega),?_⟩⟩⟩;have ntr:t≠lr:=Ne.symm (Zh hlr ht);have k1:∀ x o,H x=some o->x≠lr->upd (upd H t (.tup ts)) lr (.lst (rr++[.ref t])) x=some o:=fun x o e n=>by rw[Zf n,Zf (Zh e ht)];exact e
 have t1:∀ x xs,H x=some (.tup xs)->upd (upd H t (.tup ts)) lr (.lst (rr++[.ref t])) x=some (.tup xs):=fun x xs e=>k1 x _ e (Yw e hlr (by intro z;cases z));have r1:upd (upd H t (.tup ts)) lr (.lst (rr++[.ref t])) lr=some (.lst (rr++[.ref t])):=Ze;have rl1:Oc (upd (upd H t (.tup ts)) lr (.lst (rr++[.ref t]))) (rr++[.ref t]) (Rs++[rs]):=(rl.mono t1).snoc (by rw[Zf ntr,Ze]) (tl.mono t1);have tl1:=tl.mono t1;generalize upd (upd H t (.tup ts)) lr (.lst (rr++[.ref t]))=H1 at k1 t1 r1 rl1 tl1;have hp1:=k1 _ _ hp nrp;have hb1:=k1 _ _ hb nb;have hd1:=k1 _ _ hd (Ne.symm nrd);refine⟨_,rfl,p,a.zm2,dx,_,_,rfl,hp1,T.znv,T.zp9,Ld,lr,_,rfl,.inl (SqL.of r1),?_⟩;have hN:(((rr++[V.ref t]).length:Nat):Int)=((Rs.length+1:Nat):Int):=by rw[zuz,rl.length];rfl
 rw[hN];refine⟨_,rfl,b,rfl,⟨_,SqL.of hb1⟩,Xf (K:=K) (a:=b) (xs:=ts) (fun i σ H'=>(∃ v1 v2 v3 v4,σ=[some (.ref p),some (.ref b),some (.int ((Rs.length+1:Nat):Int)),v1,v2,v3,v4])/\(∀ x o,H1 x=some o->x≠ld->H' x=some o) /\
  ∃ kvs',H' ld=some (.dT kvs')/\By kvs' (Lg Rs rs i)/\kvs'.length<=2*(tot Rs+i)) ⟨⟨_,_,_,_,rfl⟩,fun _ _ e _=>e,kvs,hd1,by rw[zd2];exact mt,by omega⟩ (fun i σ H' _ ⟨_,k,_⟩=>SqL.of (k _ _ hb1 nbd)) ?_ ?_⟩
 ·rintro i x σ H' hx ⟨⟨v1,v2,v3,v4,rfl⟩,k2,kvs',hd2,mt2,kl2⟩;obtain⟨tr,r,rfl,hr3,htr⟩:=zjy tl1 hx;have hi:i<rs.length:=(zux.mp hr3).1;have htr2:=k2 _ _ htr (Yw htr hd1 (by intro z;cases z));refine⟨tr,_,rfl,SqT.of htr2,rfl,_,_,rfl,_,_,rfl,_,_,rfl,_,_,rfl,rfl,?_⟩;refine⟨_,rfl,rfl,_,rfl,?_⟩;cases hw:r.w with
  | none =>
    refine iteF ?_;exact⟨⟨_,_,_,_,rfl⟩,k2,kvs',hd2,by rw[zd3 hr3 hw];exact mt2,by omega⟩
  | some w =>
    refine iteT ?_;have hp2:=k2 _ _ hp1 npd;refine⟨_,rfl,_,rfl,p,a.zm2,dx,_,_,rfl,hp2,T.znv,T.zo0,Q7,_,rfl,_,rfl,sz2,fun t2 ht2=>⟨ld,_,rfl,DPut.t (k:=[inl w,inl r.h]) (by rw[Zf (Zh hd2 ht2)];exact hd2) Ze ((Nat.lt_trans (zwk (show _<=200000 by omega) ⋯) Ur)),?_⟩⟩;have k3:∀ x o,H1 x=some o->x≠ld->upd (upd H' t2 (.tup [oV (some w),.int r.h])) ld (.dT (putK kvs' [inl w,inl r.h] (.int ((Rs.length+1:Nat):Int)))) x=some o:=fun x o e n=>by
     have:=k2 x o e n;rw[Zf n,Zf (Zh this ht2)];exact this
    have hd3:upd (upd H' t2 (.tup [oV (some w),.int r.h])) ld (.dT (putK kvs' [inl w,inl r.h] (.int ((Rs.length+1:Nat):Int)))) ld=some (.dT (putK kvs' [inl w,inl r.h] (.int ((Rs.length+1:Nat):Int)))):=Ze;have l3:=Xx kvs' ([inl w,inl r.h]:List Key) (.int ((Rs.length+1:Nat):Int));generalize upd (upd H' t2 (.tup [oV (some w),.int r.h])) ld (.dT (putK kvs' [inl w,inl r.h] (.int ((Rs.length+1:Nat):Int))))=H3 at k3 hd3;have hp3:=k3 _ _ hp1 npd;refine⟨_,rfl,_,rfl,p,a.zm2,dx,_,_,rfl,hp3,T.znv,T.zo0,Q7,_,rfl,_,rfl,sz2,fun t4 ht4=>⟨ld,_,rfl,DPut.t (k:=[inl w,inl r.g]) (by rw[Zf (Zh hd3 ht4)];exact hd3) Ze ((Nat.lt_trans (zwk (show _<=200000 by omega) ⋯) Ur)),?_⟩⟩;refine⟨⟨_,_,_,_,rfl⟩,fun x o e n=>?_,_,Ze,?_,?_⟩
    ·have:=k3 x o e n;rw[Zf n,Zf (Zh this ht4)];exact this
    ·rw[<- zd4 hr3 hw];exact(mt2.put w r.h _ (Nat.succ_pos _)).put w r.g _ (Nat.succ_pos _)
    ·have:=Xx (putK kvs' ([inl w,inl r.h]:List Key) (.int ((Rs.length+1:Nat):Int))) ([inl w,inl r.g]:List Key) (.int ((Rs.length+1:Nat):Int));omega
 ·rintro σ H' ⟨⟨v1,v2,v3,v4,rfl⟩,k2,kvs',hd2,mt2,kl2⟩;rw[hlen] at mt2 kl2;rw[zfx] at mt2;refine h H' ⟨⟨dx,k2 _ _ hp1 npd⟩,⟨_,k2 _ _ r1 nrd,rl1.mono fun x xs e=>k2 _ _ e (Yw e hd1 (by intro z;cases z))⟩,kvs',hd2,mt2,by rw[zfw];exact kl2⟩ fun x o e n1 n2=>k2 x o (k1 x o e n1) n2
abbrev Sr:Stmt:=Z3 (top 23) 2
theorem Ga:Zl ["self"] ["self"] (Zi Sr):=fnS
theorem Gb(F:Fun K "over" "Ledger.over" Sr f fd)(T:Tx K mg a):FnOk P w K mg base (CX1 P w) 1 f fd ["self"] (Le a.zm2):=by
 refine F.okX Ga ⋯ fun _ _ _ _ H _ Q E hr h=>?_;obtain⟨p,lr,ld,Rs,rfl,LA,h⟩:=h;refine⟨_,(Zd (Zm (Zn (cL K) (by rfl) T.zm9 PySem.boot_len (Za (Zr (K:=K) rfl (pv 0) rfl) Zc)))),?_⟩;obtain⟨⟨dx,hp⟩,⟨rr,hlr,rl⟩,_⟩:=LA;refine⟨_,rfl,p,a.zm2,dx,_,_,rfl,hp,T.znv,T.zp9,Ld,lr,_,rfl,.inl (SqL.of hlr),?_⟩;rw[rl.length];exact h
abbrev R4:Stmt:=Z3 (top 23) 4
theorem Fn:Zl ["self","number","club"] ["self","number","club"] (Zi R4):=fnS
theorem Fo(F:Fun K "met" "Ledger.met" R4 f fd)(T:Tx K mg a):FnOk P w K mg base (CX1 P w) 1 f fd ["self","number","club"] (zis a.zm2):=by
 refine F.okX Fn ⋯ fun _ _ _ _ H _ Q E hr h=>?_;obtain⟨p,lr,ld,Rs,n,c,rfl,LA,h⟩:=h;have hu:=W0 hr;refine⟨_,(Zd (Zm (zfk hu (Zr (K:=K) rfl (pv 0) rfl) (Yd (Za (pv 1) (Za (pv 2) Zc))) Zg ⟨rfl,rfl,rfl,rfl⟩))),?_⟩;obtain⟨⟨dx,hp⟩,_,⟨kvs,hd,mt,kl⟩⟩:=LA;refine⟨_,rfl,p,a.zm2,dx,_,_,rfl,hp,T.znv,T.zo0,Q7,ld,rfl,.inr ⟨kvs,.inl hd⟩,_,rfl,_,rfl,sz2,fun t ht=>⟨_,DGet.t (k:=[inl n,inl c]) (by rw[Zf (Zh hd ht)];exact hd) Ze,?_⟩⟩;have e:((valV kvs ([inl n,inl c]:List Key)).getD (.int 0))=.int (metS Rs n c:Nat):=by
  rw[mt n c];split
  ·rename_i z;rw[z];rfl
  ·rfl
 rw[e];exact h _ (Zk ht)
abbrev Ss:Stmt:=top 25
theorem Gd:Zl ["value","least","most"] ["value","least","most"] (Zi Ss):=fnS
theorem Ge(F:Fun K "check_range" "check_range" Ss f fd)(T:Tx K mg a):FnOk P w K mg base (CX1 P w) 1 f fd ["value","least","most"] (Md a.znk):=by
 refine F.okX Gd ⋯ fun _ _ _ _ H _ Q E hr h=>?_;obtain⟨v,lo,m,rfl,s1,s2,s3,h⟩:=h;refine⟨_,(Zd (Z4 (PW.pt (Vk (Zp zb9 (pv 0) (pv 1) (Zu _)) (Wn (Zp Sa (pv 0) (pv 2) (Zu _)))))
  (Zd (Xo Xn rfl T.zr9 rfl (Za (Vo (Z5 (W9 (pv 0)) (Z5 (X8 ⋯) (Z5 (W9 (pv 1)) (Z5 (X8 ⋯) (Z5 (W9 (pv 2)) Vn))))) ⋯) Zc)))
  Zq)),?_⟩
 walk_at "rd";refine itD (fun h1=>?_) (fun h1=>?_)
 ·rw[if_pos (Or.inl h1)] at h;refine iteT ?_;walk_at "rd";refine⟨.inl ⟨_,rfl,s1⟩,_,rfl,.inl ⟨_,rfl,s2⟩,_,rfl,.inl ⟨_,rfl,s3⟩,fun z=>⟨sz1,h⟩⟩
 ·walk_at "rd";refine itD (fun h2=>?_) (fun h2=>?_)
  ·rw[if_pos (Or.inr h2)] at h;walk_at "rd";refine⟨.inl ⟨_,rfl,s1⟩,_,rfl,.inl ⟨_,rfl,s2⟩,_,rfl,.inl ⟨_,rfl,s3⟩,fun z=>⟨sz1,h⟩⟩
  ·rw[if_neg (fun z=>z.elim h1 h2)] at h;exact h
abbrev Su:Stmt:=top 35
theorem Pc:Zl ["matches","count"] ["matches"] (Zi Su):=fnS
theorem Gf(F:Fun K "check_count" "check_count" Su f fd)(T:Tx K mg a):FnOk P w K mg base (CX1 P w) 1 f fd ["matches"] (Al K (ca a)):=by
 refine F.okX Pc ⋯ fun _ _ _ _ H _ Q E hr h=>?_;obtain⟨b,ts,rfl,hs,hl,h1,h2⟩:=h;refine⟨_,(Zb (pS 1 Pc.nd (Zn (cL K) (by rfl) T.zm9 PySem.boot_len (Za (pv 0) Zc)))
 (Zd (Z4 (Zp Sa (pv 1) (Wo rfl T.zot) (Zu _))
  (Zd (Xo Xn rfl T.zrh rfl (Za (Vo (Z5 (W9 (pv 1)) (Z5 (X8 ⋯) (Z5 (W9 (Wo rfl T.zot)) Vn))) ⋯) Zc)))
  Zq))),?_⟩
 refine⟨_,rfl,b,_,rfl,.inl hs,?_⟩;walk_at "rd";refine itD (fun hc=>?_) (fun hc=>?_)
 ·walk_at "rd";exact⟨.inl ⟨_,rfl,Yk ⋯ ⋯⟩,.inl ⟨_,rfl,Yj ⋯⟩,fun z=>⟨sz1,h1 ⋯⟩⟩
 ·exact h2 ⋯
abbrev Tu:Stmt:=top 36
theorem W6:Zl ["matches","home","guest","grade"] ["matches"] (Zi Tu):=fnS
theorem K9(F:Fun K "check_ranges" "check_ranges" Tu f fd)(T:Tx K mg a)(zm8:Z2 P w K mg base "check_range" 1 ["value","least","most"] (Md a.znk)):FnOk P w K mg base (CX1 P w) 2 f fd ["matches"] (Dh K (ca a)):=by
 refine F.okX W6 ⋯ fun _ _ _ _ H _ Q E hr h=>?_;obtain⟨b,ts,Ms,rfl,hs,tl,sm,h1,h2⟩:=h;refine⟨_,(Zd (Yy PassesOwn.leaving rfl (Yc (K:=K) rfl (pv 0)) (Xy (K:=K) (n:=3) rfl rfl (Zw (pN 1 W6.nd) (Zw (pN 2 W6.nd) (Zw (pN 3 W6.nd) Xw))))
  (Zb (Z1 (pF zm8 hr (Za (pv 1) (Za Zg (Za (Wo rfl T.zo7) Zc)))))
  (Zb (Z1 (pF zm8 hr (Za (pv 2) (Za Zg (Za (Wo rfl T.zo7) Zc)))))
  (Zd (Z1 (pF zm8 hr (Za (pv 3) (Za Zg (Za (Wo rfl T.zpe) Zc)))))))))),?_⟩
 have hlen:ts.length=Ms.length:=by rw[tl.length,zuw]
 let jv1:Nat->L2.St->Hp->Prop:=fun i σ H'=>H'=H/\(∃ v1 v2 v3,σ=[some (.ref b),v1,v2,v3])/\∀ m∈Ms.take i,¬ badM m
 refine⟨_,rfl,b,rfl,⟨_,hs⟩,Xf (K:=K) (a:=b) (xs:=ts) jv1 ⟨rfl,⟨_,_,_,rfl⟩,by simp⟩ (fun i σ H' _ ⟨e,_⟩=>e▸hs) ?_ ?_⟩
 ·rintro i x σ H' hx ⟨rfl,⟨v1,v2,v3,rfl⟩,hi⟩;obtain⟨t,m,rfl,hm,ht⟩:=Ig tl hx;have hmem:=zu2 hm;obtain⟨s1,s2,s3⟩:=sm m hmem;have bad:badM m->E (.ref a.znk) none H':=fun hb=>h1 ⟨m,hmem,hb⟩;refine⟨t,_,rfl,SqT.of ht,rfl,_,_,rfl,_,_,rfl,_,_,rfl,rfl,?_⟩;refine⟨_,rfl,_,1,99,rfl,s1,Yj ⋯,Yj ⋯,?_⟩;refine Bs (fun b1=>bad (by unfold badM;omega)) (fun b1=>?_);refine⟨_,rfl,_,1,99,rfl,s2,Yj ⋯,Yj ⋯,?_⟩;refine Bs (fun b2=>bad (by unfold badM;omega)) (fun b2=>?_);refine⟨_,rfl,_,1,9,rfl,s3,Yj ⋯,Yj ⋯,?_⟩;refine Bs (fun b3=>bad (by unfold badM;omega)) (fun b3=>?_);exact⟨rfl,⟨_,_,_,rfl⟩,Dg hm hi (by unfold badM;omega)⟩
 ·rintro σ H' ⟨rfl,⟨v1,v2,v3,rfl⟩,hi⟩;rw[hlen,zvf] at hi;exact h2 fun ⟨m,hm,hb⟩=>hi m hm hb
abbrev Sv:Stmt:=top 37
theorem Vx:Zl ["matches","home","guest","grade"] ["matches"] (Zi Sv):=fnS
theorem Gg(F:Fun K "check_clubs" "check_clubs" Sv f fd)(T:Tx K mg a):FnOk P w K mg base (CX1 P w) 1 f fd ["matches"] (Am K (ca a)):=by
 refine F.okX Vx ⋯ fun _ _ _ _ H _ Q E hr h=>?_;obtain⟨b,ts,Ms,rfl,hs,tl,sm,h1,h2⟩:=h;refine⟨_,(Zd (Yy PassesOwn.leaving rfl (Yc (K:=K) rfl (pv 0)) (Xy (K:=K) (n:=3) rfl rfl (Zw (pN 1 Vx.nd) (Zw (pN 2 Vx.nd) (Zw (pN 3 Vx.nd) Xw))))
  (Zd (Z4 (Zp Wd (pv 1) (pv 2) (Zu _))
   (Zd (Xo Xn rfl T.zsf rfl (Za (Vo (Z5 (X8 ⋯) (Z5 (W9 (pv 1)) (Z5 (X8 ⋯) Vn))) ⋯) Zc)))
   Zq)))),?_⟩
 have hlen:ts.length=Ms.length:=by rw[tl.length,zuw]
 let jv2:Nat->L2.St->Hp->Prop:=fun i σ H'=>H'=H/\(∃ v1 v2 v3,σ=[some (.ref b),v1,v2,v3])/\∀ m∈Ms.take i,¬ (m.1=m.2.1)
 refine⟨_,rfl,b,rfl,⟨_,hs⟩,Xf (K:=K) (a:=b) (xs:=ts) jv2 ⟨rfl,⟨_,_,_,rfl⟩,by simp⟩ (fun i σ H' _ ⟨e,_⟩=>e▸hs) ?_ ?_⟩
 ·rintro i x σ H' hx ⟨rfl,⟨v1,v2,v3,rfl⟩,hi⟩;obtain⟨t,m,rfl,hm,ht⟩:=Ig tl hx;have hmem:=zu2 hm;obtain⟨s1,s2,s3⟩:=sm m hmem;refine⟨t,_,rfl,SqT.of ht,rfl,_,_,rfl,_,_,rfl,_,_,rfl,rfl,?_⟩;refine⟨_,rfl,_,rfl,rfl,_,rfl,?_⟩;refine itV (fun he=>?_) (fun he=>?_)
  ·exact⟨_,rfl,.inl ⟨_,rfl,s1⟩,fun z=>⟨sz1,h1 ⟨m,hmem,he⟩⟩⟩
  ·exact⟨rfl,⟨_,_,_,rfl⟩,Dg (p:=fun m=>m.1=m.2.1) hm hi he⟩
 ·rintro σ H' ⟨rfl,⟨v1,v2,v3,rfl⟩,hi⟩;rw[hlen,zvf] at hi;exact h2 fun ⟨m,hm,hb⟩=>hi m hm hb
abbrev Ly:Stmt:=top 38
theorem zbz:Zl ["matches"] ["matches"] (Zi Ly):=fnS
theorem zb0(F:Fun K "checked" "checked" Ly f fd)(T:Tx K mg a)(zp3:Z2 P w K mg base "check_count" 1 ["matches"] (Al K (ca a)))(zpl:Z2 P w K mg base "check_ranges" 2 ["matches"] (Dh K (ca a)))(zpy:Z2 P w K mg base "check_clubs" 1 ["matches"] (Am K (ca a))):FnOk P w K mg base (CX1 P w) 3 f fd ["matches"] (Iu K (ca a)):=by
 refine F.okX zbz ⋯ fun _ _ _ _ H _ Q E hr h=>?_;obtain⟨b,ts,Ms,rfl,hs,tl,sm,hl,h1,h2,h3,h4⟩:=h;refine⟨_,(Zb (Z1 (pF zp3 hr (Za (pv 0) Zc)))
 (Zb (Z1 (pF zpl hr (Za (pv 0) Zc)))
 (Zb (Z1 (pF zpy hr (Za (pv 0) Zc)))
 (Zd (Zm (Xl (Y8 (K:=K) rfl) (by rfl) T.zol PyProof.Rows.boot_list (Za (pv 0) Zc))))))),?_⟩
 have hlen:ts.length=Ms.length:=by rw[tl.length,zuw]
 refine⟨_,rfl,b,ts,rfl,hs,by omega,fun hc=>h1 ⋯,fun hc=>?_⟩;refine⟨_,rfl,b,ts,Ms,rfl,hs,tl,sm,fun hb=>h2 ⋯ hb,fun hb=>?_⟩;refine⟨_,rfl,b,ts,Ms,rfl,hs,tl,sm,fun hb2=>h3 ⋯ hb hb2,fun hb2=>?_⟩;exact⟨_,rfl,b,ts,rfl,.inl hs,h4 ⋯ hb hb2⟩
abbrev Vy:Stmt:=Z3 (top 40) 0
theorem Ni:Zl ["self"] ["self"] (Zi Vy):=fnS
theorem Nj(F:Fun K "__init__" "Roster.__init__" Vy f fd)(T:Tx K mg a):FnOk P w K mg base (CX1 P w) 1 f fd ["self"] (zcz (ca a)):=by
 refine F.okX Ni ⋯ fun _ _ _ _ H _ Q E hr h=>?_;obtain⟨p,dx,rfl,hp,h⟩:=h;refine⟨_,(Zd (Y9 (K:=K) rfl (pv 0) Q4 rfl)),?_⟩;intro d hd;exact⟨_,rfl,p,a.zm3,dx,[],rfl,(by rw[Zf (Zh hp hd)];exact hp),T.zni,T.zoa,⋯,h d hd⟩
abbrev Ve:Stmt:=Z3 (top 40) 1
theorem Of:Zl ["self","number","grade","club"] ["self","number","grade","club"] (Zi Ve):=fnS
theorem Og(F:Fun K "check_new" "Roster.check_new" Ve f fd)(T:Tx K mg a)(zm8:Z2 P w K mg base "check_range" 1 ["value","least","most"] (Md a.znk)):FnOk P w K mg base (CX1 P w) 2 f fd ["self","number","grade","club"] (O5 (ca a)):=by
 refine F.okX Of ⋯ fun _ _ _ _ H _ Q E hr h=>?_;obtain⟨p,d,R,n,g,c,rfl,RA,sm,h⟩:=h;have hu:=W0 hr;refine⟨_,(Zb (Z1 (pF zm8 hr (Za (pv 1) (Za Zg (Za (Wo rfl T.zp6) Zc)))))
 (Zb (Z1 (pF zm8 hr (Za (pv 2) (Za Zg (Za (Wo rfl T.zpe) Zc)))))
 (Zb (Z1 (pF zm8 hr (Za (pv 3) (Za Zg (Za (Wo rfl T.zo7) Zc)))))
 (Zb (Z4 (Rr (M6 hu (pv 1) (Zr (K:=K) rfl (pv 0) rfl)))
  (Zd (Xo Xn rfl T.zry rfl (Za (Vo (Z5 (X8 ⋯) (Z5 (W9 (pv 1)) (Z5 (X8 ⋯) Vn))) ⋯) Zc)))
  Zq)
 (Zd (Z4 (Zp ze7 (Zn zdw (by rfl) T.zm9 PySem.boot_len (Za (Zr (K:=K) rfl (pv 0) rfl) Zc)) (Wo rfl T.zom) (Zu _))
  (Zd (Xo Xn rfl T.zrd rfl (Za (Vo (Z5 (X8 ⋯) (Z5 (W9 (Wo rfl T.zom)) (Z5 (X8 ⋯) Vn))) ⋯) Zc)))
  Zq)))))),?_⟩
 obtain⟨sn,sg,sc⟩:=sm;obtain⟨⟨dx,kvs,hp,hd,en⟩,nd⟩:=id RA;have bad:∀ {A B:Prop},(badI n g c->(if badI n g c then A else B)->A):=fun hb z=>by rw[if_pos hb] at z;exact z
 refine⟨_,rfl,n,1,999,rfl,sn,Yj ⋯,Yj ⋯,?_⟩;refine Bs (fun b1=>bad (by unfold badI;omega) h) (fun b1=>?_);refine⟨_,rfl,g,1,9,rfl,sg,Yj ⋯,Yj ⋯,?_⟩;refine Bs (fun b2=>bad (by unfold badI;omega) h) (fun b2=>?_);refine⟨_,rfl,c,1,99,rfl,sc,Yj ⋯,Yj ⋯,?_⟩;refine Bs (fun b3=>bad (by unfold badI;omega) h) (fun b3=>?_);rw[if_neg (by unfold badI;omega)] at h;refine⟨_,rfl,_,rfl,p,a.zm3,dx,_,_,rfl,hp,T.zni,T.zoa,Vb,d,_,rfl,DGet.k (k:=inl n) hd,_,rfl,?_⟩;rw[en.isSome nd];refine itD (fun hn=>?_) (fun hn=>?_)
 ·rw[if_pos hn] at h;exact⟨_,rfl,.inl ⟨_,rfl,sn⟩,fun z=>⟨sz1,h⟩⟩
 rw[if_neg hn] at h;refine⟨_,rfl,p,a.zm3,dx,_,_,rfl,hp,T.zni,T.zoa,Vb,d,_,rfl,hd,_,_,rfl,rfl,_,rfl,?_⟩;rw[en.length];refine itD (fun hz=>?_) (fun hz=>?_)
 ·rw[if_pos ⋯] at h;exact⟨.inl ⟨_,rfl,Yj ⋯⟩,fun z=>⟨sz1,h⟩⟩
 rw[if_neg ⋯] at h;exact h
abbrev Ww:Stmt:=Z3 (top 40) 2
theorem Qu:Zl ["self","number"] ["self","number"] (Zi Ww):=fnS
theorem Qv(F:Fun K "check_known" "Roster.check_known" Ww f fd)(T:Tx K mg a):FnOk P w K mg base (CX1 P w) 1 f fd ["self","number"] (U9 (ca a)):=by
 refine F.okX Qu ⋯ fun _ _ _ _ H _ Q E hr h=>?_;obtain⟨p,d,R,n,rfl,RA,sn,h⟩:=h;have hu:=W0 hr;refine⟨_,(Zd (Z4 (Rr (M7 hu (pv 1) (Zr (K:=K) rfl (pv 0) rfl)))
  (Zd (Xo Xn rfl T.zrg rfl (Za (Vo (Z5 (X8 ⋯) (Z5 (W9 (pv 1)) (Z5 (X8 ⋯) Vn))) ⋯) Zc)))
  Zq)),?_⟩
 obtain⟨⟨dx,kvs,hp,hd,en⟩,nd⟩:=id RA;refine⟨_,rfl,_,rfl,p,a.zm3,dx,_,_,rfl,hp,T.zni,T.zoa,Vb,d,_,rfl,DGet.k (k:=inl n) hd,_,rfl,?_⟩;rw[en.isSome nd];by_cases hn:n∈R.map (·.1)
 ·rw[zu3 hn];rw[if_pos hn] at h;exact iteF h
 ·rw[zva hn];rw[if_neg hn] at h;exact iteT ⟨_,rfl,.inl ⟨_,rfl,sn⟩,fun z=>⟨sz1,h⟩⟩
abbrev R6:Stmt:=Z3 (top 40) 3
theorem Fp:Zl ["self","number","grade","club"] ["self","number","grade","club"] (Zi R6):=fnS
theorem Fq(F:Fun K "add" "Roster.add" R6 f fd)(T:Tx K mg a)(znm:Zs P w K mg base a.zm3 "check_new" 2 ["self","number","grade","club"] (O5 (ca a))):FnOk P w K mg base (CX1 P w) 3 f fd ["self","number","grade","club"] (zgh (ca a)):=by
 refine F.okX Fp ⋯ fun _ _ _ _ H _ Q E hr h=>?_;obtain⟨p,d,R,n,g,c,rfl,RA,sm,hl,h⟩:=h;have hu:=W0 hr;refine⟨_,(Zb (Z1 (Yl (pv 0) T.zni znm (hr.mono ⋯) Zj (Za (pv 1) (Za (pv 2) (Za (pv 3) Zc)))))
 (Zd (Yq hu (Zr (K:=K) rfl (pv 0) rfl) (pv 1) (Yd (Za (pv 2) (Za (pv 3) Zc))) rfl))),?_⟩
 obtain⟨⟨dx,kvs,hp,hd,en⟩,nd⟩:=id RA;refine⟨_,rfl,p,dx,_,rfl,hp,Xj.no ⋯,_,rfl,_,rfl,_,rfl,p,d,R,n,g,c,rfl,RA,sm,?_⟩;refine it2 h (fun _ z=>z) fun hb h=>it2 h (fun _ z=>z) fun hn h=>it2 h (fun _ z=>z) fun hz h=>?_;refine⟨_,rfl,_,rfl,sz2,fun t ht=>?_⟩;have ntp:p≠t:=Zh hp ht;have ntd:d≠t:=Zh hd ht;have npd:p≠d:=Yw hp hd (by intro z;cases z);refine⟨_,rfl,p,a.zm3,dx,_,_,rfl,(by rw[Zf ntp];exact hp),T.zni,T.zoa,Vb,_,rfl,d,_,rfl,DPut.k (k:=inl n) (by rw[Zf ntd];exact hd) (Ub (by rw[en.length];exact hl)),?_⟩;rw[zee (en.val_none hn)];refine h _ ⟨⟨dx,_,(by rw[Zf npd,Zf ntp];exact hp),Ze,?_⟩,?_⟩ fun b o e hb=>(by rw[Zf hb,Zf (Zh e ht)];exact e)
 ·refine Va.snoc (by rw[Zf (Ne.symm ntd)];exact Ze) (en.mono fun b xs e=>?_);rw[Zf (Yw e hd (by intro z;cases z)),Zf (Zh e ht)];exact e
 ·rw[zu5];exact D4 nd hn
abbrev Uy:Stmt:=Z3 (top 40) 4
theorem Lz:Zl ["self","number"] ["self","number"] (Zi Uy):=fnS
theorem L4(F:Fun K "strike" "Roster.strike" Uy f fd)(T:Tx K mg a):FnOk P w K mg base (CX1 P w) 1 f fd ["self","number"] (B8 (ca a)):=by
 refine F.okX Lz ⋯ fun _ _ _ _ H _ Q E hr h=>?_;obtain⟨p,d,R,n,g,c,rfl,RA,h⟩:=h;refine⟨_,(Zd (Z1 (zfl (Zr (K:=K) rfl (pv 0) rfl) (pv 1) ⟨rfl,rfl,rfl,rfl⟩))),?_⟩;obtain⟨⟨dx,kvs,hp,hd,en⟩,nd⟩:=id RA;have npd:p≠d:=Yw hp hd (by intro z;cases z);obtain⟨t,e1,e2⟩:=en.val_some nd (show (n,g,c)∈R++[(n,g,c)] by simp);have hn:n∉R.map (·.1):=by
  rw[zu5,List.nodup_append] at nd;exact fun z=>nd.2.2 n z n (by simp) rfl
 refine⟨_,rfl,p,a.zm3,dx,_,_,rfl,hp,T.zni,T.zoa,Vb,d,rfl,.inl ⟨kvs,.inl hd⟩,_,rfl,kvs,inl n,_,hd,rfl,e1,?_⟩;refine h _ ⟨⟨dx,_,(by rw[Zf npd];exact hp),Ze,(en.unsnoc hn).mono fun b xs e=>?_⟩,?_⟩ fun b o e hb=>(by rw[Zf hb];exact e)
 ·rw[Zf (Yw e hd (by intro z;cases z))];exact e
 ·rw[zu5,List.nodup_append] at nd;exact nd.1
abbrev Ue:Stmt:=Z3 (top 40) 6
theorem Mm:Zl ["self"] ["self"] (Zi Ue):=fnS
theorem Mn(F:Fun K "numbers" "Roster.numbers" Ue f fd)(T:Tx K mg a):FnOk P w K mg base (CX1 P w) 1 f fd ["self"] (Ip (ca a)):=by
 refine F.okX Mm ⋯ fun _ _ _ _ H _ Q E hr h=>?_;obtain⟨p,d,R,rfl,RA,h⟩:=h;refine⟨_,(Zd (Zm (Xl (za7 rfl) (by rfl) T.zol PyProof.Rows.boot_list (Za (Zr (K:=K) rfl (pv 0) rfl) Zc)))),?_⟩;obtain⟨⟨dx,kvs,hp,hd,en⟩,nd⟩:=id RA;refine⟨_,rfl,p,a.zm3,dx,_,_,rfl,hp,T.zni,T.zoa,Vb,d,kvs,rfl,.inl hd,fun l hl=>?_⟩;rw[en.keys];exact h l hl
abbrev Tv:Stmt:=Z3 (top 40) 7
theorem Ja:Zl ["self","number"] ["self","number"] (Zi Tv):=fnS
theorem Jb(F:Fun K "entry" "Roster.entry" Tv f fd)(T:Tx K mg a)(zm4:Zs P w K mg base a.zm3 "check_known" 1 ["self","number"] (U9 (ca a))):FnOk P w K mg base (CX1 P w) 2 f fd ["self","number"] (B9 (ca a)):=by
 refine F.okX Ja ⋯ fun _ _ _ _ H _ Q E hr h=>?_;obtain⟨p,d,R,n,rfl,RA,sn,h1,h2⟩:=h;have hu:=W0 hr;refine⟨_,(Zb (Z1 (Yl (pv 0) T.zni zm4 (hr.mono ⋯) Zj (Za (pv 1) Zc)))
 (Zd (Zm (pD hu (Zr (K:=K) rfl (pv 0) rfl) (pv 1))))),?_⟩
 obtain⟨⟨dx,kvs,hp,hd,en⟩,nd⟩:=id RA;refine⟨_,rfl,p,dx,_,rfl,hp,Xj.no ⋯,_,rfl,p,d,R,n,rfl,RA,sn,?_⟩;refine Bs (fun hn=>?_) (fun hn=>h1 hn);obtain⟨⟨m,g,c⟩,q,rfl⟩:=zu6.mp hn;obtain⟨t,e1,e2⟩:=en.val_some nd q;exact⟨_,rfl,p,a.zm3,dx,_,_,rfl,hp,T.zni,T.zoa,Vb,_,rfl,d,_,rfl,(by rw[<- e1];exact DGet.k (k:=inl m) hd),h2 g c t q e2⟩
abbrev Uz:Stmt:=Z3 (top 40) 10
theorem L6:Zl ["self","number"] ["self","number"] (Zi Uz):=fnS
theorem L7(F:Fun K "person" "Roster.person" Uz f fd)(T:Tx K mg a)(zpp:Zs P w K mg base a.zm3 "entry" 2 ["self","number"] (B9 (ca a))):FnOk P w K mg base (CX1 P w) 3 f fd ["self","number"] (Aa (ca a)):=by
 refine F.okX L6 ⋯ fun _ _ _ _ H _ Q E hr h=>?_;obtain⟨p,d,R,n,rfl,RA,sn,h1,h2⟩:=h;refine⟨_,(Zd (Zm (Zt (Ab (K:=K) rfl) (Yd (Za (pv 1) Zc)) (Yl (pv 0) T.zni zpp (hr.mono ⋯) Zj (Za (pv 1) Zc))))),?_⟩;obtain⟨⟨dx,kvs,hp,hd,en⟩,nd⟩:=id RA;refine⟨_,rfl,sz1,fun t1 ht1=>?_⟩;refine al (upd _ t1 _) ht1 rfl fun H1 q1 s1=>?_;refine⟨_,rfl,p,dx,_,rfl,s1 _ _ hp,Xj.no ⋯,_,rfl,p,d,R,n,rfl,RA.same s1,sn,fun hn=>h1 hn H1 s1,fun g c t q ht=>?_⟩;refine⟨t1,t,_,_,rfl,rfl,SqT.of q1,SqT.of ht,by simp,by show 1+2<=sizeLine;exact sz3,fun z=>absurd z (by simp),fun _ t2 ht2=>?_⟩;exact h2 g c t2 _ q Ze (s1.trans (Zk ht2)) (s1.free ht2)
abbrev Gh:Stmt:=top 4
theorem zet:Zl ["people","match","out","ledger","rest"] ["people","match","out","ledger","rest"] (Zi Gh):=fnS
theorem zeu(F:Fun K "takers" "takers" Gh f fd)(T:Tx K mg a)(zre:Z2 P w K mg base "reasons" 3 ["referee","match","out","ledger","rest"] (E3 K a.zm2)):FnOk P w K mg base (CX1 P w) 4 f fd ["people","match","out","ledger","rest"] (B1 K a.zm2):=by
 refine F.okX zet ⋯ fun _ _ _ _ H _ Q E hr h=>?_;obtain⟨lp,lo,tm,p,lr,ld,Rs,ts,Ms,os,h,gu,d,rest,rfl,hp,tl,ho,hoo,ht,LA,hl,hq⟩:=h;refine⟨_,(Zd (Zm (Vv rfl (cT ["match","ledger","rest","out"] [1,3,4,2]) (Yc (K:=K) rfl (pv 0)) (fun _ _ _ _ _=>Se (Xm (Ex (K:=K) rfl (zcl zre (hr.mono ⋯) zck rfl (Za (pv 0) (Za (pv 1) (Za (Sb (J8 (K:=K) rfl) (pI (iU K) (pv 0) Zg) (pv 4) (by with_unfolding_all rfl)) (Za (pv 2) (Za (pv 3) Zc)))))) (fun _=>rfl)))) (fun _ _ _ _ _=>(pI (iU K) (pv 0) Zg))))),?_⟩;have hlen:ts.length=Ms.length:=by rw[tl.length,zuw]
 refine⟨_,rfl,lp,rfl,⟨_,SqL.of hp⟩,?_⟩;refine Wl (K:=K) (a:=lp) (xs:=ts) (fun i ys H'=>Same H H'/\ys=((Ms.take i).filter (Q8 Rs h gu d os rest)).map fun m=>V.int m.1) ⟨Same.refl _,rfl⟩ (fun i ys H' _ ⟨s,_⟩=>SqL.of (s _ _ hp)) (by rw[hlen];exact szN hl) (fun i ys H' ⟨_,e⟩=>by rw[e,zuw];exact zvb (zvr _ _) (zwj _ _)) ?_ ?_
 ·rintro i x ys H' hx ⟨sm,rfl⟩;obtain⟨t,m,rfl,hm,htt⟩:=Ig tl hx;have htt':=sm _ _ htt;refine⟨_,rfl,_,rfl,_,rfl,t,_,_,_,rfl,rfl,SqT.of htt',(show atI (pV m) 0=some _ from rfl),_,rfl,lo,os,rfl,.inl (SqL.of (sm _ _ ho)),rfl,List.all_eq_true.mpr (fun y hy=>zfz (hoo y hy)),_,rfl,_,rfl,t,tm,p,lr,ld,Rs,m.1,m.2.1,m.2.2,h,gu,d,rest,inV (.int m.1) os,rfl,htt',sm _ _ ht,LA.same sm,fun l H2 hl2 s2 _=>?_⟩;refine⟨_,.inl ⟨_,SqL.of hl2,rfl⟩,?_⟩;have e:((whyS Rs m.1 m.2.1 m.2.2 h gu d (inV (.int m.1) os) rest).map V.str).isEmpty=Q8 Rs h gu d os rest m:=by unfold Q8;rw[List.isEmpty_map]
  have hys:∀ ys',((Ms.take (i+1)).filter (Q8 Rs h gu d os rest)).map (fun m=>V.int m.1)=((Ms.take i).filter (Q8 Rs h gu d os rest)).map (fun m=>V.int m.1)++ys'↔ys'=if Q8 Rs h gu d os rest m then [V.int m.1] else []:=fun ys'=>by
   rw[zwg,hm,zv9,zu5,List.append_cancel_left_eq];cases q:Q8 Rs h gu d os rest m<;>simp[q,eq_comm]
  dsimp only;rw[e];refine itB (fun hb=>?_) (fun hb=>?_)
  ·rw[Bool.not_not] at hb;refine⟨_,rfl,t,_,_,_,rfl,rfl,SqT.of (s2 _ _ htt'),(show atI (pV m) 0=some _ from rfl),sm.trans s2,?_⟩;exact((hys [V.int m.1]).mpr (by rw[hb];rfl)).symm
  ·rw[Bool.not_not] at hb;refine⟨sm.trans s2,?_⟩;have:=(hys []).mpr (by rw[hb];rfl);rw[zw4] at this;exact this.symm
 ·rintro ys H' ⟨sm,rfl⟩ l hl';rw[hlen,zvf];exact hq l _ Ze (sm.trans (Zk hl')) (sm.free hl')
abbrev Tw:Stmt:=top 42
theorem W7:Zl ["given","taken","place","number"] ["given"] (Zi Tw):=fnS
theorem Jc(F:Fun K "places_taken" "places_taken" Tw f fd)(T:Tx K mg a):FnOk P w K mg base (CX1 P w) 1 f fd ["given"] (Cf K):=by
 refine F.okX W7 ⋯ fun _ _ _ _ H _ Q E hr h=>?_;obtain⟨b,gs,rfl,hb,ho,hinj,hl,h⟩:=h;have hu:=W0 hr;refine⟨_,(Zb (pS 1 W7.nd Q4)
 (Zb (Yy PassesOwn.leaving rfl (zcu (K:=K) rfl rfl T.zpw (Za (pv 0) Zc)) (Xy (K:=K) (n:=2) rfl rfl (Zw (pN 2 W7.nd) (Zw (pN 3 W7.nd) Xw)))
  (Zd (Z4 (Zp U6 (pv 3) Y3 (Zu _))
   (Zd (Yq hu (pv 1) (pv 3) (pv 2) rfl))
   Zq)))
 (Zd (Zm (pv 1))))),?_⟩
 have line:100<sizeLine:=by rw[sizeLine_eq];decide
 intro d hd
 let jv1:Nat->L2.St->Hp->Prop:=fun i σ' H'=>(∃ u v,σ'=[some (.ref b),some (.ref d),u,v])/\Same H H'/\∃ kvs,H' d=some (.dK kvs)/\kvs.length<=i/\(∀ (n:Int) (j:Nat),j<i->gs[j]?=some (.int n)->valV kvs (inl n:Key)=some (.int (j:Nat)))/\(∀ n:Int,(∀ j:Nat,j<i->gs[j]?≠some (.int n))->valV kvs (inl n:Key)=none)
 refine⟨_,rfl,b,rfl,⟨gs,SqL.of (Zk hd _ _ hb)⟩,zf7 (xs:=gs) jv1
  ⟨⟨none,none,rfl⟩,Zk hd,[],Ze,zu7 _,fun n j hj=>absurd hj (Nat.not_lt_zero _),fun n _=>rfl⟩ (fun i σ' H' hi p=>SqL.of (p.2.1 _ _ hb)) (fun i x t σ' H' hx p htn=>?_) (fun σ' H' p=>?_)⟩
 ·obtain⟨⟨u,v,rfl⟩,hs,kvs,hk,hkl,h1,h2⟩:=p;have s2:=hs.trans (Zk (o:=.tup [.int (i:Nat),x]) htn);have hk2:=Zk (o:=.tup [.int (i:Nat),x]) htn _ _ hk;refine⟨t,_,rfl,SqT.of Ze,rfl,_,_,rfl,_,_,rfl,rfl,?_⟩;generalize upd H' t (.tup [.int (i:Nat),x])=H2 at s2 hk2;have hi:i<gs.length:=(zux.mp hx).1;refine Wf (b:=!decide (x=.non)) (fun Q k=>⟨_,rfl,rfl,_,rfl,k⟩) ?_;rcases ho x (zu2 hx) with rfl|⟨n,rfl⟩
  ·refine iteF (Z0 ⟨⟨_,_,rfl⟩,s2,kvs,hk2,by omega,fun n j hj hg=>?_,fun n hn=>h2 n fun j hj=>hn j ⋯⟩);by_cases e:j=i
   ·subst e;rw[hx] at hg;cases hg
   ·exact h1 n j ⋯ hg
  ·refine iteT ⟨_,rfl,_,rfl,_,rfl,d,_,rfl,DPut.k (k:=inl n) hk2 ⋯,⟨_,_,rfl⟩,?_,_,Ze,?_,fun m j hj hg=>?_,fun m hm=>?_⟩
   ·exact Yb hd s2
   ·exact zvb (Xx kvs _ _) ⋯
   ·rw[Up];by_cases e:j=i
    ·subst e;rw[hx] at hg;cases hg;rw[if_pos rfl]
    ·have hne:¬ ((inl m:Key)=inl n):=fun z=>by
      rw[inl.inj z] at hg;exact e (hinj j i n hg hx)
     rw[if_neg hne];exact h1 m j ⋯ hg
   ·have hne:¬ ((inl m:Key)=inl n):=fun z=>by
     rw[inl.inj z] at hm;exact hm i ⋯ hx
    rw[Up,if_neg hne];exact h2 m fun j hj=>hm j ⋯
 ·obtain⟨⟨u,v,rfl⟩,hs,kvs,hk,hkl,h1,h2⟩:=p;exact⟨_,rfl,h d kvs H' hk ⟨fun n j hj=>h1 n j (zux.mp hj).1 hj,fun n hn=>h2 n fun j _=>hn j⟩ hs hd⟩
abbrev R7:Stmt:=top 43
theorem X3:Zl ["may","taken","start","into","waiting","done","place","number"] ["may","taken","start"] (Zi R7):=fnS
theorem Fs(F:Fun K "steps_into" "steps_into" R7 f fd)(T:Tx K mg a):FnOk P w K mg base (CX1 P w) 1 f fd ["may","taken","start"] (zbe K):=by
 refine F.okX X3 ⋯ fun _ _ _ _ H _ Q E hr h=>?_;obtain⟨l,d,ls,rows,kvs,gs,p,rfl,hl,il,hrl,hd,tk,FP,hp,h⟩:=h;have hu:=W0 hr;refine⟨_,(Zb (pS 3 X3.nd (zcd (Te (pv 2) Y3 zcc) rfl rfl (by simp) ⋯))
 (Zb (pS 4 X3.nd (Z9 (Za (pv 2) Zc)))
 (Zb (pS 5 X3.nd Zg)
 (Zb (Be PassesOwn.leaving (Zp zb9 (pv 5) (Zn (cL K) (by rfl) T.zm9 PySem.boot_len (Za (pv 4) Zc)) (Zu _))
  (Zb (pS 6 X3.nd (pI (iL K) (pv 4) (pv 5)))
  (Zb (pS 5 X3.nd (Zt Yz (pv 5) Zg))
  (Zd (Yy PassesOwn.leaving rfl (Yc (K:=K) rfl (pI (iL K) (pv 0) (pv 6))) (pN 7 X3.nd)
   (Zd (Z4 (PW.pt (Jz (Rr (M6 hu (pv 7) (pv 1))) (N3 (Rr (M7 hu (pD hu (pv 1) (pv 7)) (pv 3))))))
    (Zb (Yq hu (pv 3) (pD hu (pv 1) (pv 7)) (Yd (Za (pv 6) (Za (pv 7) Zc))) rfl)
    (Zd (Yu (pv 4) (pD hu (pv 1) (pv 7)))))
    Zq)))))))
 (Zd (Zm (pv 3))))))),?_⟩
 show let y1:TS:=_;let y2:TS:=Zz _ y1;let y3:TS:=_;let y4:TS:=Zz (ze3 _ (Zz _ y2)) y3;let y5:TS:=Zz _ y4;let y6:TS:=Zz _ y5;Zz _ y6 _ _ _;intro y1 y2 y3 y4 y5 y6;have line0:200<sizeLine:=by rw[sizeLine_eq];decide
 intro ld hld;refine⟨_,rfl,Ze,[(inl (p:Int),.non)],rfl,(by show 1<=15;decide),?_⟩;have s0:Same H (upd (upd H ld (.dK [])) ld (.dK (Ua [] [(inl (p:Int),.non)]))):=Yb hld (Zk hld);have q0:upd (upd H ld (.dK [])) ld (.dK (Ua [] [(inl (p:Int),.non)])) ld=some (.dK [((inl (p:Int):Key),V.non)]):=Ze;generalize upd (upd H ld (.dK [])) ld (.dK (Ua [] [(inl (p:Int),.non)]))=H1 at s0 q0;refine⟨_,rfl,sz1,fun ln hln=>?_⟩;refine al (upd _ ln _) hln rfl fun H2 TH2 s1=>?_;have e1:H2 ln=some (.lst (Wt [p])):=TH2;have q1:=s1 _ _ q0;have s01:=s0.trans s1;have nln:ld≠ln:=Zh q0 hln;have fln:H ln=none:=s0.free hln;have hbound:∀ line:List Nat,line.Nodup->(∀ c∈line,c<rows.length)->line.length<=rows.length:=fun line nd hc=>by
  have:=nd.length_le_of_subset (l₂:=List.range rows.length) fun c hcc=>zvy.mpr (hc c hcc);rw[zvu] at this;exact this
 refine⟨fun m σ' H'=>∃ (line:List Nat) (dep:Nat->Nat) (fr:Nat->Option (Nat×Int)) (into:List (Key×V)) (dn:Nat) (v6 v7:Option V),m=rows.length-dn/\dn<=line.length/\σ'=[some (.ref l),some (.ref d),some (.int p),some (.ref ld),some (.ref ln),some (.int (dn:Nat)),v6,v7]/\Same H H'/\H' ld=some (.dK into)/\H' ln=some (.lst (Wt line))/\X1 H' into line fr/\Bfs rows gs p line dep/\Done rows gs line dep dn/\Ti rows gs p line dep fr/\(∀ q∈line,q<rows.length)/\∀ here,line[dn]?=some here->∀ x∈line,dep x<=dep here+1,
  ⟨_,[p],fun _=>0,fun _=>none,_,0,_,_,rfl,zvo _,rfl,s01,q1,e1,zbf _ _,zd8 rows gs p,fun i q hi=>absurd hi (Nat.not_lt_zero _),zbg,by simpa using hp,fun here _ x _=>zvo _⟩,?_⟩
 rintro m σ Ha ⟨line,dep,fr,into,dn,v6,v7,rfl,hdn,rfl,sa,hda,hna,io,B,Dn,fo,hlt,near⟩;have hll:=hbound _ B.nodup hlt;have hnl:(Wt line).length=line.length:=by unfold Wt;rw[zuw]
 refine⟨_,rfl,_,rfl,ln,_,rfl,.inl (SqL.of hna),_,_,rfl,rfl,_,rfl,?_⟩;rw[hnl];by_cases hlt2:dn<line.length
 ·rw[zu3 (show ((dn:Nat):Int)<(line.length:Nat) by omega)];refine iteT ?_;obtain⟨here,hh⟩:∃ here,line[dn]?=some here:=⟨_,zuy hlt2⟩;have hhm:=zu2 hh;have hhere:=hlt here hhm;have hhv:(Wt line)[dn]?=some (.int (here:Nat)):=by unfold Wt;rw[zu1,hh];rfl
  refine⟨fun σ' H'=>∃ (line:List Nat) (dep:Nat->Nat) (fr:Nat->Option (Nat×Int)) (into:List (Key×V)) (v6 v7:Option V),dn+1<=line.length/\σ'=[some (.ref l),some (.ref d),some (.int p),some (.ref ld),some (.ref ln),some (.int ((dn+1:Nat):Int)),v6,v7]/\Same H H'/\H' ld=some (.dK into)/\H' ln=some (.lst (Wt line))/\X1 H' into line fr/\Bfs rows gs p line dep/\Done rows gs line dep (dn+1)/\Ti rows gs p line dep fr/\(∀ q∈line,q<rows.length)/\∀ here,line[dn+1]?=some here->∀ x∈line,dep x<=dep here+1,
   (by rintro σ' H' ⟨line,dep,fr,into,v6,v7,a1,a2⟩;exact⟨rows.length-(dn+1),by omega,line,dep,fr,into,dn+1,v6,v7,rfl,a1,a2⟩),?_⟩
  have hr':rows[here]?=some (rows[here]'hhere):=zuy hhere;generalize (rows[here]'hhere)=r at hr';obtain⟨lr,e2,e3⟩:=il.getR hr';have hl':(ls.map V.ref)[here]?=some (.ref lr):=by rw[zu1,e2];rfl
  refine⟨_,rfl,_,rfl,ln,_,_,_,rfl,rfl,SqL.of hna,Z7 hhv,?_⟩;refine⟨_,rfl,_,_,rfl,rfl,?_⟩;refine⟨_,rfl,_,rfl,l,_,_,_,rfl,rfl,SqL.of (sa _ _ hl),Z7 hl',lr,rfl,⟨_,SqL.of (sa _ _ e3)⟩,?_⟩
  let jv2:Nat->L2.St->Hp->Prop:=fun j σ' H'=>∃ (line:List Nat) (dep:Nat->Nat) (fr:Nat->Option (Nat×Int)) (into:List (Key×V)) (v7:Option V),σ'=[some (.ref l),some (.ref d),some (.int p),some (.ref ld),some (.ref ln),some (.int ((dn+1:Nat):Int)),some (.int (here:Nat)),v7]/\Same H H'/\H' ld=some (.dK into)/\H' ln=some (.lst (Wt line))/\X1 H' into line fr/\Bfs rows gs p line dep/\Done rows gs line dep dn/\Ti rows gs p line dep fr/\(∀ q∈line,q<rows.length)/\line[dn]?=some here/\(∀ x∈line,dep x<=dep here+1)/\∀ n∈r.take j,∀ q':Nat,gs[q']?=some (.int n)->q'∈line
  refine Xf (K:=K) (a:=lr) (xs:=r.map V.int) jv2
   ⟨line,dep,fr,into,_,rfl,sa,hda,hna,io,B,Dn,fo,hlt,hh,near here hh,by simp⟩ (by rintro j σ' H' _ ⟨_,_,_,_,_,_,z,_⟩;exact SqL.of (z _ _ e3)) ?_ ?_
  ·rintro j y σ' Hx hy ⟨line,dep,fr,into,w7,rfl,sx,hdx,hnx,io,B,Dn,fo,hlt,hh,near,pr⟩;have hj:j<r.length:=by have:=(zux.mp hy).1;rw[zuw] at this;exact this
   have hhm:=zu2 hh;have hrj:r[j]?=some (r[j]'hj):=zuy hj;have etk:r.take (j+1)=r.take j++[r[j]'hj]:=zvd hj;generalize (r[j]'hj)=n at hrj etk;have ey:y=.int n:=by rw[zu1,hrj] at hy;exact(Option.some.inj hy).symm
   subst ey;have hnr:=zu2 hrj;have hll:=hbound _ B.nodup hlt;have prev:(∀ q':Nat,gs[q']?=some (.int n)->q'∈line)->∀ m∈r.take (j+1),∀ q':Nat,gs[q']?=some (.int m)->q'∈line:=fun k m hm=>by
    rw[etk] at hm;rcases zu8.mp hm with z|z
    ·exact pr m z
    ·rw[zu0.mp z];exact k
   rcases tk.iff n with ⟨q',hq',hv⟩|⟨hno,hv⟩
   ·by_cases hin:q'∈line
    ·refine Wf (b:=false) (fun Q k=>?_) (iteF (Z0 ⟨line,dep,fr,into,_,rfl,sx,hdx,hnx,io,B,Dn,fo,hlt,hh,near,prev fun q2 h2=>by rw[FP.inj q2 q' n h2 hq'];exact hin⟩));refine⟨_,rfl,_,rfl,d,_,rfl,DGet.k (k:=inl n) (sx _ _ hd),_,rfl,?_⟩;rw[hv];refine iteT ⟨_,rfl,_,rfl,d,_,rfl,hv▸DGet.k (k:=inl n) (sx _ _ hd),_,rfl,ld,_,rfl,DGet.k (k:=inl (q':Int)) hdx,_,rfl,?_⟩;rw[(io.has q').mpr hin];exact k
    ·have hnin:(valV into (inl (q':Int):Key)).isSome=false:=by
      rw[Bool.eq_false_iff];exact fun z=>hin ((io.has q').mp z)
     have hq'l:q' < rows.length:=by
      have:=(zux.mp hq').1;rw[FP.len] at this;exact this
     have ha:adjN rows gs here n q':=⟨⟨r,hr',hnr⟩,hq'⟩;obtain⟨B',old,all⟩:=B.app (dn:=dn) hh near ha hin;refine Wf (b:=true) (fun Q k=>?_) (iteT ?_)
     ·refine⟨_,rfl,_,rfl,d,_,rfl,DGet.k (k:=inl n) (sx _ _ hd),_,rfl,?_⟩;rw[hv];refine iteT ⟨_,rfl,_,rfl,d,_,rfl,hv▸DGet.k (k:=inl n) (sx _ _ hd),_,rfl,ld,_,rfl,DGet.k (k:=inl (q':Int)) hdx,_,rfl,?_⟩;rw[hnin];exact k
     ·refine⟨_,rfl,_,rfl,sz2,fun t ht=>?_⟩;refine al (upd _ t _) ht rfl fun Ht et t1=>?_;have st:=sx.trans t1;have hdt:=t1 _ _ hdx;have hnt:=t1 _ _ hnx;have iot:=io.same t1;refine⟨_,rfl,_,rfl,_,rfl,d,_,rfl,hv▸DGet.k (k:=inl n) (st _ _ hd),ld,_,rfl,DPut.k (k:=inl (q':Int)) hdt ?_,?_⟩
      ·have:=io.len;omega
      have sd:Same H (upd Ht ld (.dK (putK into (inl (q':Int)) (.ref t)))):=Yb hld st;have ed:upd Ht ld (.dK (putK into (inl (q':Int)) (.ref t))) ld=some (.dK (putK into (inl (q':Int)) (.ref t))):=Ze;have en:upd Ht ld (.dK (putK into (inl (q':Int)) (.ref t))) ln=some (.lst (Wt line)):=by rw[Zf (Ne.symm nln)];exact hnt
      have iod:X1 (upd Ht ld (.dK (putK into (inl (q':Int)) (.ref t)))) (putK into (inl (q':Int)) (.ref t)) (line++[q']) (Ks fr q' (here,n)) :=
       (iot.app hin et).mono fun c xs e=>by rw[Zf (Yw e hdt (fun z=>nomatch z))];exact e
      generalize upd Ht ld (.dK (putK into (inl (q':Int)) (.ref t)))=Hd at sd ed en iod;have hsz:(Wt line).length<sizeLine:=by unfold Wt;rw[zuw];omega
      refine⟨_,rfl,ln,_,rfl,en,_,rfl,_,rfl,d,_,rfl,hv▸DGet.k (k:=inl n) (sd _ _ hd),_,en,hsz,line++[q'],Vq dep q' (dep here+1),Ks fr q' (here,n),putK into (inl (q':Int)) (.ref t),_,rfl,Yb fln sd,?_,?_,?_,B',Dn.app ?_ ⟨_,rfl⟩ old,fo.app hin B.memp hhm ha,?_,?_,?_,?_⟩
      ·rw[Zf nln];exact ed
      ·rw[Ze];unfold Wt;rw[zu5];rfl
      ·exact iod.mono fun c xs e=>by rw[Zf (Yw e en (fun z=>nomatch z))];exact e
      ·have:=(zux.mp hh).1;omega
      ·intro q hq;rcases zu8.mp hq with z|z
       ·exact hlt q z
       ·rw[zu0.mp z];exact hq'l
      ·rw[zv3 (zux.mp hh).1];exact hh
      ·intro x hx;rw[old here hhm];exact all x hx
      ·intro m hm q2 h2;rw[etk] at hm;rcases zu8.mp hm with z|z
       ·exact zvn _ (pr m z q2 h2)
       ·rw[zu0.mp z] at h2;rw[FP.inj q2 q' n h2 hq'];exact zvj _ (zu0.mpr rfl)
   ·refine Wf (b:=false) (fun Q k=>?_) (iteF (Z0 ⟨line,dep,fr,into,_,rfl,sx,hdx,hnx,io,B,Dn,fo,hlt,hh,near,prev fun q2 h2=>absurd h2 (hno q2)⟩));refine⟨_,rfl,_,rfl,d,_,rfl,DGet.k (k:=inl n) (sx _ _ hd),_,rfl,?_⟩;rw[hv];exact iteF k
  ·rintro σ' Hx ⟨line,dep,fr,into,w7,rfl,sx,hdx,hnx,io,B,Dn,fo,hlt,hh,near,pr⟩;rw[zuw,zvf] at pr;have hlt3:=(zux.mp hh).1;refine⟨line,dep,fr,into,_,_,by omega,rfl,sx,hdx,hnx,io,B,fun i q hi hq n q' ha=>?_,fo,hlt,fun here2 hh2 x hx=>?_⟩
   ·by_cases e:i=dn
    ·rw[e,hh] at hq;cases hq;obtain⟨⟨r2,h1,h2⟩,h3⟩:=ha;rw[hr'] at h1;cases h1;have hm:=pr n h2 q' h3;exact⟨hm,near q' hm⟩
    ·exact Dn i q ⋯ hq n q' ha
   ·have:=B.sorted dn (dn+1) here here2 ⋯ hh hh2;have:=near x hx;omega
 ·rw[zva (show ¬ (((dn:Nat):Int)<(line.length:Nat)) by omega)];refine iteF ⟨_,rfl,?_⟩;have e:dn=line.length:=by omega
  subst e;exact h ld into line dep fr Ha hda io B Dn fo hlt sa hld
abbrev Tz:Stmt:=top 44
theorem Qo:Zl ["numbers","taken","number"] ["numbers","taken"] (Zi Tz):=fnS
theorem Jd(F:Fun K "free_referee" "free_referee" Tz f fd)(T:Tx K mg a):FnOk P w K mg base (CX1 P w) 1 f fd ["numbers","taken"] (E6 K):=by
 refine F.okX Qo ⋯ fun _ _ _ _ H _ Q E hr h=>?_;obtain⟨l,d,r,kvs,rfl,hl,hd,h⟩:=h;have hu:=W0 hr;refine⟨_,(Zb (Yy PassesOwn.leaving rfl (Yc (K:=K) rfl (pv 0)) (pN 2 Qo.nd)
  (Zd (Z4 (Rr (M7 hu (pv 2) (pv 1)))
   (Zd (Zm (pv 2)))
   Zq)))
 (Zd (Zm Y3))),?_⟩
 let jv3:Nat->L2.St->Hp->Prop:=fun i σ' H'=>(∃ u,σ'=[some (.ref l),some (.ref d),u])/\H'=H/\∀ n∈r.take i,(valV kvs (inl n:Key)).isSome=true
 refine⟨_,rfl,l,rfl,⟨_,SqL.of hl⟩,Xf (xs:=r.map V.int) jv3
  ⟨⟨none,rfl⟩,rfl,by simp⟩ (fun i σ' H' hi p=>by rw[p.2.1];exact SqL.of hl) (fun i x σ' H' hx p=>?_) (fun σ' H' p=>?_)⟩
 ·obtain⟨⟨u,rfl⟩,rfl,hp⟩:=p;have hi:i<r.length:=by have:=(zux.mp hx).1;rw[zuw] at this;exact this
  have e:x=.int (r[i]'hi):=by
   rw[zu1,zuy hi] at hx;exact(Option.some.inj hx).symm
  subst e;refine Wf (b:=!(valV kvs (inl (r[i]'hi):Key)).isSome) (fun Q k=>⟨_,rfl,_,rfl,d,_,rfl,DGet.k (k:=inl (r[i]'hi)) hd,_,rfl,k⟩) ?_;cases hv:valV kvs (inl (r[i]'hi):Key) with
  | none=>exact iteT ⟨_,rfl,h (some (r[i]'hi)) (fun n hn=>by cases hn;exact⟨zvs hi,hv⟩) (fun z=>nomatch z)⟩
  | some y =>
    refine iteF (Z0 ⟨⟨_,rfl⟩,rfl,fun n hn=>?_⟩);rw[zvd hi] at hn;rcases zu8.mp hn with z|z
    ·exact hp n z
    ·rw[zu0.mp z,hv];rfl
 ·obtain⟨⟨u,rfl⟩,rfl,hp⟩:=p;rw[zuw,zvf] at hp;exact h none (fun n z=>nomatch z) fun _=>hp
abbrev Gi:Stmt:=top 45
theorem P9:Zl ["into","place","number","steps","step"] ["into","place","number"] (Zi Gi):=fnS
theorem zew(F:Fun K "traced" "traced" Gi f fd)(T:Tx K mg a):FnOk P w K mg base (CX1 P w) 1 f fd ["into","place","number"] (B4 K):=by
 refine F.okX P9 ⋯ fun _ _ _ _ H _ Q E hr h=>?_;obtain⟨t,q,p,w,rows,gs,into,line,dep,fr,rfl,ht,io,fo,d0,hp,hq,hdq,h⟩:=h;have hu:=W0 hr;refine⟨_,(Zb (pS 3 P9.nd (Z9 (Za (Yd (Za (pv 1) (Za (pv 2) Zc))) Zc)))
 (Zb (pS 4 P9.nd (pD hu (pv 0) (pv 1)))
 (Zb (Be PassesOwn.leaving (Zp U6 (pv 4) Y3 (Zu _))
  (Zb (Yu (pv 3) (pv 4))
  (Zd (pS 4 P9.nd (pD hu (pv 0) (pI (iU K) (pv 4) Zg))))))
 (Zb (Z1 (zfn PySem.F.plainAttrs_list PySem.F.slot_list_reverse PySem.F.type_list_reverse za5 (pv 3)))
 (Zd (Zm (pv 3))))))),?_⟩
 have line0:200<sizeLine:=by rw[sizeLine_eq];decide
 have get:∀ {H':Hp},Same H H'->∀ k:Nat,DGet H' t (.int (k:Nat)) (valV into (inl (k:Int):Key)):=fun {H'} hs k=>.inl ⟨into,inl (k:Int),ht.imp (hs _ _) (fun ⟨o,e⟩=>⟨o,hs _ _ e⟩),rfl,rfl⟩;have fr0:∀ c∈line,fr c=none->c=p:=fun c hc hf=>by
  by_cases e:c=p
  ·exact e
  ·obtain⟨par,n,h1,_⟩:=fo.2 c hc e;rw[hf] at h1;cases h1
 have some_of:∀ c∈line,∃ v,valV into (inl (c:Int):Key)=some v:=fun c hc=>zv8.mp ((io.has c).mpr hc);refine⟨_,rfl,_,rfl,sz2,fun m hm=>⟨sz1,fun lt hlt=>?_⟩⟩;have s1:=Zk (o:=.tup [.int (q:Nat),oV w]) hm;have e1:upd H m (.tup [.int (q:Nat),oV w]) m=some (.tup (Wq (q,w))):=Ze;generalize upd H m (.tup [.int (q:Nat),oV w])=H1 at s1 e1 hlt;refine al (upd _ lt _) hlt rfl fun H2 e2 s2=>?_;have e3:=s2 _ _ e1;have s3:=s1.trans s2;have hltn:H lt=none:=s1.free hlt;obtain⟨v0,hv0⟩:=some_of q hq;refine⟨_,rfl,_,rfl,t,v0,rfl,hv0▸get s3 q,?_⟩;refine⟨fun mm σ' H'=>∃ (cur:Nat) (st:List (Nat×Option Int)) (ts:List V) (v:V),mm=dep cur/\cur∈line/\valV into (inl (cur:Int):Key)=some v/\σ'=[some (.ref t),some (.int (q:Nat)),some (oV w),some (.ref lt),some v]/\Same H H'/\H' lt=some (.lst ts)/\Z8 H' ts (st.reverse.map Wq)/\Ch rows gs cur st q w/\st.length+dep cur=dep q+1,
  ⟨_,q,[(q,w)],_,v0,rfl,hq,hv0,rfl,s3,e2,.cons e3 .nil,.one q w,by show 1+dep q=_;omega⟩,?_⟩
 rintro mm σ' Ha ⟨cur,st,ts,v,rfl,hc,hv,rfl,sa,hta,htl,hch,hlen⟩;have htsl:ts.length=st.length:=by have:=htl.length;rw[zuw,List.length_reverse] at this;exact this
 refine⟨_,rfl,rfl,_,rfl,?_⟩;cases hf:fr cur with
 | none =>
   have hcp:=fr0 cur hc hf;subst hcp;have hvn:=io.none cur hc hf;rw[hv] at hvn;cases hvn;refine iteF ?_;refine⟨_,rfl,.inl ⟨rfl,_,SqL.of hta⟩,lt,ts,rfl,rfl,hta,_,rfl,?_⟩;refine h lt ts.reverse st _ Ze ?_ hch ⋯ (Yb hltn sa) hltn;have hr:=htl.reverse;rw[<- List.map_reverse,List.reverse_reverse] at hr;exact hr.mono fun c xs e=>by rw[Zf (Yw e hta (fun z=>nomatch z))];exact e
 | some x =>
   obtain⟨par,n⟩:=x;obtain⟨tt,h1,h2⟩:=io.some cur hc par n hf;rw[hv] at h1;cases h1;have hcp:cur≠p:=fun z=>by rw[z,fo.1] at hf;cases hf
   obtain⟨par',n',h3,h4,h5,h6⟩:=fo.2 cur hc hcp;rw[hf] at h3;cases h3;obtain⟨v',hv'⟩:=some_of par h4;refine iteT ?_;refine⟨fun σ' H'=>∃ (st:List (Nat×Option Int)) (ts:List V),σ'=[some (.ref t),some (.int (q:Nat)),some (oV w),some (.ref lt),some v']/\Same H H'/\H' lt=some (.lst ts)/\Z8 H' ts (st.reverse.map Wq)/\Ch rows gs par st q w/\st.length+dep par=dep q+1,
    fun σ' H' ⟨st,ts,a1,a2,a3,a4,a5,a6⟩=>⟨dep par,by omega,par,st,ts,v',rfl,h4,hv',a1,a2,a3,a4,a5,a6⟩,?_⟩
   have s4:Same H (upd Ha lt (.lst (ts++[V.ref tt]))):=Yb hltn sa;refine⟨_,rfl,lt,_,rfl,hta,_,rfl,_,hta,by omega,?_⟩;refine⟨_,rfl,_,rfl,tt,_,_,_,rfl,rfl,SqT.of (s4 _ _ h2),rfl,t,v',rfl,hv'▸get s4 par,(par,some n) :: st,ts++[V.ref tt],rfl,s4,Ze,?_,.step h5 hch,?_⟩
   ·rw[zw0,zu5];exact(htl.mono fun c xs e=>by rw[Zf (Yw e hta (fun z=>nomatch z))];exact e).snoc (s4 _ _ h2)
   ·rw[zvi];omega
abbrev Cw:Stmt:=top 46
theorem Pd:Zl ["may","given","place","taken","into","reached","number"] ["may","given","place"] (Zi Cw):=fnS
theorem zg3(F:Fun K "chain" "chain" Cw f fd)(T:Tx K mg a)(zn2:Z2 P w K mg base "places_taken" 1 ["given"] (Cf K))(zoi:Z2 P w K mg base "steps_into" 1 ["may","taken","start"] (zbe K))(zpi:Z2 P w K mg base "free_referee" 1 ["numbers","taken"] (E6 K))(zrc:Z2 P w K mg base "traced" 1 ["into","place","number"] (B4 K)):FnOk P w K mg base (CX1 P w) 2 f fd ["may","given","place"] (Cd K):=by
 refine F.okX Pd ⋯ fun _ _ _ _ H _ Q E hr h=>?_;obtain⟨l,lg,ls,rows,nu,gs,p,rfl,hl,il,mo,hg,FP,hp,hgp,h⟩:=h;refine⟨_,(Zb (pS 3 Pd.nd (pF zn2 hr (Za (pv 1) Zc)))
 (Zb (pS 4 Pd.nd (pF zoi hr (Za (pv 0) (Za (pv 3) (Za (pv 2) Zc)))))
 (Zb (Yy PassesOwn.leaving rfl (zcv (pv 4)) (pN 5 Pd.nd)
  (Zb (pS 6 Pd.nd (pF zpi hr (Za (pI (iL K) (pv 0) (pv 5)) (Za (pv 3) Zc))))
  (Zd (Z4 (Zp U6 (pv 6) Y3 (Zu _))
   (Zd (Zm (pF zrc hr (Za (pv 4) (Za (pv 5) (Za (pv 6) Zc))))))
   Zq))))
 (Zd (Zm (pF zrc hr (Za (pv 4) (Za (Zn (zeb rfl) (by rfl) T.zr5 PyProof.Rows.boot_max (Za (pv 4) Zc)) (Za Y3 Zc))))))))),?_⟩
 have hrl:rows.length<=100:=zvb mo.few ⋯;refine⟨_,rfl,lg,gs,rfl,hg,FP.one,FP.inj,by rw[FP.len];exact hrl,fun d kvs H1 hd1 tk s1 hdn=>?_⟩;refine⟨_,rfl,_,rfl,_,rfl,l,d,ls,rows,kvs,gs,p,rfl,s1 _ _ hl,il.same s1,hrl,hd1,tk,FP,hp,fun t into line dep fr H2 ht io B Dn fo hlt s2 htn=>?_⟩;have hbound:line.length<=rows.length:=by
  have:=B.nodup.length_le_of_subset (l₂:=List.range rows.length) fun c hcc=>zvy.mpr (hlt c hcc);rw[zvu] at this;exact this
 have hd2:=s2 _ _ hd1;have s02:=s1.trans s2;have hfree:∀ q n,(∃ r,rows[q]?=some r/\n∈r)->valV kvs (inl n:Key)=none->O0 rows gs q n:=fun q n hr hv=>⟨hr,fun j hj=>by rw[tk.has n j hj] at hv;cases hv⟩
 have hdep:∀ q∈line,dep q<=100:=fun q hq=>by
  obtain⟨pre,hc,hlp⟩:=fo.back B.d0 (dep q) q q none [(q,none)] rfl hq (.one q none);have nd:=hc.nodup fun k hk=>by
   rw[zuz,hlp];have:=(B.full Dn hk).2;show dep q+1<=k+1;omega
  have hlt':=hc.lt FP hp;have:=nd.length_le_of_subset (l₂:=List.range rows.length) fun x hx=>by
   obtain⟨s,hs,rfl⟩:=zu6.mp hx;exact zvy.mpr (hlt' s hs)
  rw[zuw,zvu,zuz,hlp] at this;omega
 have htH:H t=none:=s1.free htn;refine⟨_,rfl,t,into,rfl,ht,fun o=>?_⟩;have e0:upd H2 t (.frz o (.dK into)) t=some (.frz o (.dK into)):=Ze;have s3:Same H (upd H2 t (.frz o (.dK into))):=Yb htH s02;have hd3:upd H2 t (.frz o (.dK into)) d=some (.dK kvs):=by rw[Zf (Zh hd1 htn)];exact hd2
 have io3:X1 (upd H2 t (.frz o (.dK into))) into line fr:=io.mono fun c xs e=>by rw[Zf (Yw e ht (fun z=>nomatch z))];exact e
 generalize upd H2 t (.frz o (.dK into))=H3 at e0 s3 hd3 io3;have hil:into.length=line.length:=io.len;have key:∀ (i:Nat) (k:Key) (v:V),into[i]?=some (k,v)->∃ q:Nat,line[i]?=some q/\k=inl (q:Int):=fun i k v e=>by
  have:=congrArg (·[i]?) io.keys;simp only[zu1,e,zv0] at this;cases hq:line[i]? with
  | none=>rw[hq] at this;cases this
  | some q=>rw[hq] at this;exact⟨q,rfl,Option.some.inj this⟩
 let jv4:Nat->L2.St->Hp->Prop:=fun i σ' H'=>(∃ u v,σ'=[some (.ref l),some (.ref lg),some (.int p),some (.ref d),some (.ref t),u,v])/\H'=H3/\∀ (j q:Nat),j<i->line[j]?=some q->¬ Ul rows gs q
 refine B3 (a:=t) (o:=o) (kvs:=into) jv4 ⟨⟨none,none,rfl⟩,rfl,fun j q hj=>absurd hj (Nat.not_lt_zero _)⟩ (fun i σ' H' _ p=>by rw[p.2.1];exact e0) (fun i k v σ' H' hk hP=>?_) (fun σ' H' hP=>?_)
 ·obtain⟨⟨u,v',rfl⟩,rfl,hno⟩:=hP;obtain⟨q,hq,rfl⟩:=key i k v hk;have hqm:=zu2 hq;have hqr:rows[q]?=some (rows[q]'(hlt q hqm)):=zuy (hlt q hqm);generalize (rows[q]'(hlt q hqm))=r at hqr;obtain⟨lr,e2,e3⟩:=il.getR hqr;have hl':(ls.map V.ref)[q]?=some (.ref lr):=by rw[zu1,e2];rfl
  refine⟨_,rfl,_,rfl,l,_,_,_,rfl,rfl,SqL.of (s3 _ _ hl),Z7 hl',_,rfl,lr,d,r,kvs,rfl,s3 _ _ e3,hd3,fun w hw1 hw2=>?_⟩;walk_at "if";refine Wf (b:=!decide (oV w=.non)) (fun Q k=>⟨_,rfl,rfl,_,rfl,k⟩) ?_;cases w with
  | none =>
    refine iteF (Z0 ⟨⟨_,_,rfl⟩,rfl,fun j q2 hj hq2=>?_⟩);by_cases e:j=i
    ·rw[e,hq] at hq2;cases hq2;rintro⟨n,⟨r2,h1,h2⟩,h3⟩;rw[hqr] at h1;cases h1;have:=hw2 rfl n h2;rw[tk.not n h3] at this;cases this
    ·exact hno j q2 ⋯ hq2
  | some n =>
    obtain⟨hn1,hn2⟩:=hw1 n rfl;refine iteT ⟨_,rfl,_,rfl,_,rfl,t,q,p,some n,rows,gs,into,line,dep,fr,rfl,.inr ⟨o,e0⟩,io3,fo,B.d0,B.memp,hqm,hdep q hqm,fun lt ts st H4 h1 h2 h3 h4 s4 hltn=>?_⟩;have hf:=hfree q n ⟨r,hqr,hn1⟩ hn2;have Di:Done rows gs line dep i:=fun j x hj=>Dn j x (Nat.lt_trans hj (zux.mp hq).1);exact h lt ts st q (some n) H4 h1 h2 (zbb B Di hq hno hf h3 h4) (s3.trans s4) (s3.free hltn)
 ·obtain⟨⟨u,v',rfl⟩,rfl,hno⟩:=hP;have hpos:0<line.length:=List.length_pos_of_mem B.memp;refine⟨_,rfl,⟨_,rfl,t,into,line.map fun q:Nat=>(q:Int),rfl,.inr ⟨o,e0⟩,by rw[io.keys,zwe];rfl,by rw[zuw];exact hpos,fun M hM hmax=>?_⟩⟩;obtain⟨e,he,rfl⟩:=zu6.mp hM;refine⟨t,e,p,none,rows,gs,into,line,dep,fr,rfl,.inr ⟨o,e0⟩,io3,fo,B.d0,B.memp,he,hdep e he,fun lt ts st H4 h1 h2 h3 h4 s4 hltn=>?_⟩;refine h lt ts st e none H4 h1 h2 (zbc B Dn (fun q hq=>?_) (fun q hq=>?_) h3 h4) (s3.trans s4) (s3.free hltn)
  ·obtain⟨j,hj,e2⟩:=zv6 hq;exact hno j q ⋯ (by rw[zuy hj,e2])
  ·have:=hmax _ (zu6.mpr ⟨q,hq,rfl⟩);omega
abbrev L8:Stmt:=top 47
theorem R8:Zl ["given","steps","behind","place","number"] ["given","steps"] (Zi L8):=fnS
theorem zb1(F:Fun K "stepped" "stepped" L8 f fd)(T:Tx K mg a):FnOk P w K mg base (CX1 P w) 1 f fd ["given","steps"] (Rg K):=by
 refine F.okX R8 ⋯ fun _ _ _ _ H _ Q E hr h=>?_;obtain⟨b,c,xs,ts,st,rfl,hb,hc,ht,hst,ho,hl,hls,h⟩:=h;refine⟨_,(Zb (pS 2 R8.nd (Xl (Y8 (K:=K) rfl) (by rfl) T.zol PyProof.Rows.boot_list (Za (pv 0) Zc)))
 (Zb (Yy PassesOwn.leaving rfl (Yc (K:=K) rfl (pv 1)) (Xy (K:=K) (n:=2) rfl rfl (Zw (pN 3 R8.nd) (Zw (pN 4 R8.nd) Xw)))
  (Zd (Qy (pv 4) (zao (pv 2) (pv 3) J6))))
 (Zd (Zm (pv 2))))),?_⟩
 have htl:ts.length=st.length:=by have:=ht.length;rw[zuw] at this;exact this
 refine⟨_,rfl,b,_,rfl,.inl (SqL.of hb),fun l hln=>?_⟩
 let jv5:Nat->L2.St->Hp->Prop:=fun i σ' H'=>(∃ u v,σ'=[some (.ref b),some (.ref c),some (.ref l),u,v])/\H' l=some (.lst (Yh (st.take i) xs))/\(∀ a o,H a=some o->H' a=some o)
 refine⟨_,rfl,c,rfl,⟨ts,SqL.of (Zk hln _ _ hc)⟩,Xf (xs:=ts) jv5 ⟨⟨none,none,rfl⟩,Ze,Zk hln⟩ (fun i σ' H' hi p=>SqL.of (p.2.2 _ _ hc)) (fun i x σ' H' hx p=>?_) (fun σ' H' p=>?_)⟩
 ·obtain⟨⟨u,v,rfl⟩,hl2,hs⟩:=p;have hi:i<st.length:=by rw[<- htl];exact(zux.mp hx).1
  obtain⟨t,e1,e2⟩:=zit ht (zuy hi);rw[hx] at e1;cases e1;refine⟨t,_,rfl,SqT.of (hs _ _ e2),rfl,_,_,rfl,_,_,rfl,rfl,?_⟩;have hlen:(Yh (st.take i) xs).length=xs.length:=Xz _ _;have hp:(st[i]'hi).1<xs.length:=hst _ (zvs hi);have e3:Yh (st.take (i+1)) xs=(Yh (st.take i) xs).set (st[i]'hi).1 (oV (st[i]'hi).2):=by
   rw[zvd hi,Li];rfl
  refine⟨_,rfl,_,rfl,_,rfl,l,_,_,(st[i]'hi).1,rfl,rfl,hl2,(show ixN _ (((st[i]'hi).1:Nat):Int)=some _ by unfold ixN;rw[if_pos ⋯,if_pos ⋯,zve]),⟨_,_,rfl⟩,?_,fun a o q=>?_⟩
  ·rw[e3];exact Ze
  ·rw[Zf (Zh q hln)];exact hs a o q
 ·obtain⟨⟨u,v,rfl⟩,hl2,hs⟩:=p;rw[htl,zvf] at hl2;exact⟨_,rfl,h l H' hl2 hs hln⟩
abbrev zb2:Stmt:=top 49
theorem Jx:Zl ["may","given","place"] ["may"] (Zi zb2):=fnS
theorem zif(F:Fun K "fill" "fill" zb2 f fd)(T:Tx K mg a)(zo4:Z2 P w K mg base "stepped" 1 ["given","steps"] (Rg K))(zqx:Z2 P w K mg base "chain" 2 ["may","given","place"] (Cd K)):FnOk P w K mg base (CX1 P w) 3 f fd ["may"] (zf1 K):=by
 refine F.okX Jx ⋯ fun _ _ _ _ H _ Q E hr h=>?_;obtain⟨l,ls,rows,nu,rfl,hl,il,mo,h⟩:=h;refine⟨_,(Zb (Uu (i:=1) Jx.nd rfl rfl rfl (cT [] []) (Yc (K:=K) rfl (pv 0)) (fun _ _ _ _ _=>U7) (fun _ _ _ _ _=>Y3))
 (Zb (Yy PassesOwn.leaving rfl (Xu rfl T.zn0 (Za (Zn (cL K) (by rfl) T.zm9 PySem.boot_len (Za (pv 0) Zc)) Zc)) (pN 2 Jx.nd)
  (Zd (pS 1 Jx.nd (pF zo4 hr (Za (pv 1) (Za (pF zqx hr (Za (pv 0) (Za (pv 1) (Za (pv 2) Zc)))) Zc))))))
 (Zd (Zm (pv 1))))),?_⟩
 have hlen:=il.length;have hrl:rows.length<=100:=zvb mo.few ⋯;refine⟨_,rfl,l,rfl,⟨_,SqL.of hl⟩,?_⟩;refine Wl (K:=K) (a:=l) (xs:=ls.map V.ref) (fun i ys H'=>H'=H/\ys=(rows.take i).map fun _=>V.non) ⟨rfl,by simp⟩ (fun i ys H' _ z=>by rw[z.1];exact SqL.of hl) (szN (by rw[zuw];omega)) (fun i ys H' z=>by rw[z.2,zuw,zw2];omega) ?_ ?_
 ·rintro i x ys H' hx ⟨rfl,rfl⟩;have hi:i<rows.length:=by
   have:=(zux.mp hx).1;rw[zuw] at this;omega
  unfold tYes;dsimp only;rw[if_pos rfl];refine⟨rfl,?_⟩;rw[zvd hi,zu5];rfl
 ·rintro ys H' ⟨rfl,rfl⟩ lg hlg;rw[zuw,hlen,zvf];refine al (upd _ lg _) hlg rfl fun H1 e1 s1=>?_;refine⟨_,rfl,l,_,rfl,.inl (SqL.of (s1 _ _ hl)),_,rfl,by omega,by rw[zuw];omega,?_⟩;rw[zuw,hlen,zve]
  let jv6:Nat->L2.St->Hp->Prop:=fun i σ' Hx=>∃ (lg:Addr) (gs:List V) (v2:Option V),σ'=[some (.ref l),some (.ref lg),v2]/\Same H' Hx/\Hx lg=some (.lst gs)/\U8 rows gs i/\H' lg=none
  refine Wk jv6 ⟨lg,_,_,rfl,s1,e1,Fi rows,hlg⟩ ?_ ?_
  ·rintro i σ' Hx hi ⟨lg,gs,v2,rfl,sx,hgx,F,hn⟩;rw[zwf];refine⟨_,rfl,⟨_,rfl,_,rfl,_,rfl,l,lg,ls,rows,nu,gs,i,rfl,sx _ _ hl,il.same sx,mo,hgx,F.fill,hi,F.non (zu7 _) hi,fun lt ts st e w H2 h1 h2 c s2 hltn=>?_⟩⟩;refine⟨lg,lt,gs,ts,st,rfl,s2 _ _ hgx,h1,h2,fun s hs=>?_,F.fill.one,by rw[F.fill.len];omega,?_,fun l' H3 h3 s3 hl'=>?_⟩
   ·rw[F.fill.len];exact c.ch.lt F.fill hi s hs
   ·have:=c.len F.fill hi;omega
   ·exact⟨l',_,_,rfl,(sx.trans s2).trans s3,h3,F.step hi c,(sx.trans s2).free hl'⟩
  ·rintro σ' Hx ⟨lg,gs,v2,rfl,sx,hgx,F,hn⟩;exact⟨_,rfl,h lg gs Hx hgx F.fill F.last sx hn⟩
abbrev T1:Stmt:=top 50
theorem Je:Zl ["given"] ["given"] (Zi T1):=fnS
theorem Jf(F:Fun K "left_without" "left_without" T1 f fd)(T:Tx K mg a):FnOk P w K mg base (CX1 P w) 1 f fd ["given"] (zba K):=by
 refine F.okX Je ⋯ fun _ _ _ _ H _ Q E hr h=>?_;obtain⟨b,xs,rfl,hb,ho,hl,h⟩:=h;refine⟨_,(Zd (Zm (Ii rfl (Ma.mk (xo:=["place","number"]) (ys:=[]) (js:=[]) rfl rfl ⋯ ⋯ rfl (by repeat' (first|exact True.intro|apply And.intro|rfl)) (by repeat' (first|exact True.intro|apply And.intro|rfl)) ⋯) (zcu (K:=K) rfl rfl T.zpw (Za (pv 0) Zc)) (fun _ _ _ _ _=>Se (Zp Ou (pv 1) Y3 (Zu _))) (fun _ _ _ _ _=>(Xy (K:=K) (n:=2) rfl rfl (Zw (U5 (i:=0) (show List.Nodup [("place":Str),("number":Str)] by decide +kernel) rfl (by first|exact Or.inl rfl|exact Or.inr rfl)) (Zw (U5 (i:=1) (show List.Nodup [("place":Str),("number":Str)] by decide +kernel) rfl (by first|exact Or.inl rfl|exact Or.inr rfl)) Xw)))) (fun _ _ _ _ _=>(pv 0))))),?_⟩;refine⟨_,rfl,b,rfl,⟨_,SqL.of hb⟩,zbd (fun i=>decide (xs[i]?=some .non)) (fun i=>.int (i:Nat)) ⋯ (SqL.of hb) (fun i x t H' N ys hx hs ht k=>?_) (fun H' l hs hl'=>?_)⟩
 ·refine⟨t,_,rfl,SqT.of Ze,rfl,?_⟩;have k':=k _ (hs.trans (Zk (o:=.tup [.int (i:Nat),x]) ht));refine⟨_,_,rfl,_,_,rfl,rfl,⟨[some (.int (i:Nat)),some x],rfl,rfl⟩,?_⟩;rw[hx] at k';have e2:decide (some x=some V.non)=decide (x=V.non):=by
   by_cases z:x=V.non
   ·rw[zu3 z,zu3 (congrArg some z)]
   ·rw[zva z,zva (fun q=>z (Option.some.inj q))]
  rw[e2] at k';refine⟨_,rfl,rfl,_,rfl,?_⟩;by_cases z:x=V.non
  ·rw[zu3 z] at k' ⊢;exact⟨_,rfl,k'⟩
  ·rw[zva z] at k' ⊢;exact k'
 ·exact h l _ Ze (hs.trans (Zk hl')) (hs.free hl')
abbrev Nk:Stmt:=top 51
theorem zab:Zl ["given","number"] ["given","number"] (Zi Nk):=fnS
theorem zac(F:Fun K "place_of" "place_of" Nk f fd)(T:Tx K mg a):FnOk P w K mg base (CX1 P w) 1 f fd ["given","number"] (E4 K):=by
 refine F.okX zab ⋯ fun _ _ _ _ H _ Q E hr h=>?_;obtain⟨b,xs,n,rfl,hb,ho,hl,h⟩:=h;refine⟨_,(Zd (Zm (Bd (Zp (J8 (K:=K) rfl) (pv 1) (pv 0) (by with_unfolding_all rfl)) (zio PySem.F.plainAttrs_list PySem.F.slot_list_index PySem.F.type_list_index zf5 (pv 0) (Za (pv 1) Zc)) Y3))),?_⟩;have fl:xs.all Qi=true:=List.all_eq_true.mpr fun x hx=>by rcases ho x hx with rfl|⟨_,rfl⟩<;>rfl
 refine⟨_,rfl,_,rfl,b,xs,rfl,.inl (SqL.of hb),rfl,fl,_,rfl,?_⟩;have key:=@zf6 xs n ho;show if inV (V.int n) xs=true then _ else _
 cases hp:Xt xs n with
 | none =>
   rw[hp] at h;have hno:¬ inV (V.int n) xs=true:=fun z=>by
    obtain⟨j,hj⟩:=key.mp z;have:=List.find?_eq_none.mp hp j (zvy.mpr (zux.mp hj).1);exact this (zu3 hj)
   rw[if_neg hno];exact h H (Same.refl H)
 | some j =>
   rw[hp] at h;obtain⟨h1,h2,h3⟩:=List.find?_range_eq_some.mp hp;have hj:xs[j]?=some (.int n):=of_decide_eq_true h1;rw[if_pos (key.mpr ⟨j,hj⟩)];refine⟨_,rfl,?_,_,rfl,b,xs,.int n,j,rfl,rfl,hb,rfl,fl,⟨_,hj,(Ju (.inr ⟨_,rfl⟩)).mpr rfl⟩,fun m z hm hz=>?_,h H (Same.refl H)⟩
   ·exact .inl ⟨rfl,xs,SqL.of hb⟩
   ·have:=h3 m hm;have hne:¬ z=.int n:=fun q=>by
     rw[q] at hz;rw[zu3 hz] at this;cases this
    cases hb2:eqV z (.int n) with
    | false=>rfl
    | true=>exact absurd ((Ju (ho z (zu2 hz))).mp hb2) hne
abbrev Nl:Stmt:=top 53
theorem Wx:Zl ["may","given","taken","places","gap","referees","place","number"] ["may","given"] (Zi Nl):=fnS
theorem zad(F:Fun K "shortage" "shortage" Nl f fd)(T:Tx K mg a)(zn2:Z2 P w K mg base "places_taken" 1 ["given"] (Cf K))(zn1:Z2 P w K mg base "left_without" 1 ["given"] (zba K))(zoi:Z2 P w K mg base "steps_into" 1 ["may","taken","start"] (zbe K)):FnOk P w K mg base (CX1 P w) 2 f fd ["may","given"] (zcy K):=by
 refine F.okX Wx ⋯ fun _ _ _ _ H _ Q E hr h=>?_;obtain⟨l,lg,ls,rows,nu,gs,rfl,hl,il,mo,hg,FP,NA,h⟩:=h;have hu:=W0 hr;refine⟨_,(Zb (pS 2 Wx.nd (pF zn2 hr (Za (pv 1) Zc)))
 (Zb (pS 3 Wx.nd Q4)
 (Zb (Yy PassesOwn.leaving rfl (Yc (K:=K) rfl (pF zn1 hr (Za (pv 1) Zc))) (pN 4 Wx.nd)
  (Zd (Z1 (zio PySem.F.plainAttrs_dict PySem.F.slot_dict_update PySem.F.type_dict_update zed (pv 3) (Za (pF zoi hr (Za (pv 0) (Za (pv 2) (Za (pv 4) Zc)))) Zc)))))
 (Zb (pS 5 Wx.nd Q4)
 (Zb (Yy PassesOwn.leaving rfl (zcv (pv 3)) (pN 6 Wx.nd)
  (Zd (Yy PassesOwn.leaving rfl (Yc (K:=K) rfl (pI (iL K) (pv 0) (pv 6))) (pN 7 Wx.nd)
   (Zd (Yq hu (pv 5) (pv 7) Wc rfl)))))
 (Zd (Zm (Yd (Za (Zn (Rx rfl) (by rfl) T.zqp PyProof.Rows.boot_sorted (Za (pv 3) Zc)) (Za (Zn (Rx rfl) (by rfl) T.zqp PyProof.Rows.boot_sorted (Za (pv 5) Zc)) Zc)))))))))),?_⟩
 have hrl:rows.length<=100:=zvb mo.few ⋯;have hgl:gs.length<=100:=by rw[FP.len];exact hrl
 have line0:1000<sizeLine:=Ub ⋯;refine⟨_,rfl,lg,gs,rfl,hg,FP.one,FP.inj,hgl,fun d kvs H1 hd1 tk s1 hdn=>?_⟩;intro lp hlp;refine al (upd _ lp _) hlp rfl fun H2 e2 s2=>?_;have hlpn:H lp=none:=s1.free hlp;have npd:lp≠d:=Ne.symm (Zh hd1 hlp);have s02:=s1.trans s2;have hd2:=s2 _ _ hd1;have hlft:=@Tj gs;refine⟨_,rfl,lg,gs,rfl,s02 _ _ hg,FP.one,hgl,fun ln H3 hln s3 fln=>?_⟩;refine⟨ln,rfl,⟨_,SqL.of hln⟩,?_⟩;have nln:ln≠lp:=Ne.symm (Zh e2 fln);have hbound:∀ line:List Nat,line.Nodup->(∀ c∈line,c<rows.length)->line.length<=rows.length:=fun line nd hc=>by
  have:=nd.length_le_of_subset (l₂:=List.range rows.length) fun c hcc=>zvy.mpr (hc c hcc);rw[zvu] at this;exact this
 have hwlt:∀ g q k,g<rows.length->Walk rows gs g q k->q<rows.length:=fun g q k hg' hw=>by
  cases hw with
  | nil=>exact hg'
  | snoc _ a=>rw[<- FP.len];exact(zux.mp a.2).1
 refine Xf (K:=K) (a:=ln) (xs:=(Xs gs).map fun i=>V.int (i:Nat)) (fun i σ' H'=>∃ (v4:Option V) (kp:List (Key×V)) (pl:List Nat),σ'=[some (.ref l),some (.ref lg),some (.ref d),some (.ref lp),v4,none,none,none]/\Same H H'/\(∀ b o,H3 b=some o->b≠lp->H' b=some o)/\H' lp=some (.dK kp)/\kp.map (·.1)=pl.map (fun q:Nat=>(inl (q:Int):Key))/\pl.Nodup/\∀ q,q∈pl↔∃ g k,g∈(Xs gs).take i/\Walk rows gs g q k)
  ⟨_,[],[],rfl,s02.trans s3,fun _ _ e _=>e,s3 _ _ e2,rfl,zwp,by simp⟩ (by rintro i σ' H' _ ⟨_,_,_,_,_,z,_⟩;exact SqL.of (z _ _ hln nln)) ?_ ?_
 ·rintro i x σ' Ha hx ⟨v4,kp,pl,rfl,sa,k3,hpa,kk,nd,mem⟩;have hi:i<(Xs gs).length:=by have:=(zux.mp hx).1;rw[zuw] at this;exact this
  have etk:(Xs gs).take (i+1)=(Xs gs).take i++[(Xs gs)[i]'hi]:=zvd hi;have hgm:(Xs gs)[i]'hi∈Xs gs:=zvs hi;have ex:x=.int (((Xs gs)[i]'hi:Nat):Int):=by rw[zu1,zuy hi] at hx;exact(Option.some.inj hx).symm
  generalize ((Xs gs)[i]'hi)=g at etk hgm ex;subst ex;have hgr:g<rows.length:=by rw[<- FP.len];exact(zux.mp (Tj.mp hgm)).1
  have hda:=k3 _ _ (s3 _ _ hd2) (Ne.symm npd);have hkl:kp.length<=100:=by
   have:=congrArg List.length kk;rw[zuw,zuw] at this;rw[this];refine zvb (hbound pl nd fun q hq=>?_) hrl;obtain⟨g',k,h1,h2⟩:=(mem q).mp hq;refine hwlt g' q k ?_ h2;rw[<- FP.len];exact(zux.mp (Tj.mp (zwq h1))).1
  refine⟨_,rfl,.inr (.inr (.inl ⟨rfl,.inl ⟨_,hpa⟩⟩)),_,rfl,_,rfl,_,rfl,l,d,ls,rows,kvs,gs,g,rfl,sa _ _ hl,il.same sa,hrl,hda,tk,FP,hgr,fun t into line dep fr Hb ht io B Dn fo hlt sb htn=>?_⟩;have hll:=hbound line B.nodup hlt;have hil:=io.len;have hpb:=sb _ _ hpa;refine⟨lp,t,kp,into,rfl,rfl,Zh hpa htn,hpb,ht,by omega,?_⟩;have kb:∀ b o,H3 b=some o->b≠lp->upd Hb lp (.dK (Ua kp into)) b=some o:=fun b o e n=>by rw[Zf n];exact sb _ _ (k3 b o e n)
  refine⟨_,Ua kp into,E7 pl line,rfl,Yb hlpn (sa.trans sb),kb,Ze,Il zl9 kk io.keys,Kt nd,fun q=>?_⟩;rw[E8,mem,etk];constructor
  ·rintro(⟨g',k,h1,h2⟩|hq)
   ·exact⟨g',k,zvn _ h1,h2⟩
   ·exact⟨g,dep q,by simp,B.walk q hq⟩
  ·rintro⟨g',k,h1,h2⟩;rcases zu8.mp h1 with z|z
   ·exact .inl ⟨g',k,z,h2⟩
   ·rw[zu0.mp z] at h2;exact .inr (B.full Dn h2).1
 ·rintro σ' Ha ⟨v4,kp,pl,rfl,sa,k3,hpa,kk,nd,mem⟩;rw[zuw,zvf] at mem;have mem:∀ q,q∈pl↔∃ g k,gs[g]?=some .non/\Walk rows gs g q k:=fun q=>by
   rw[mem q];exact⟨fun ⟨g,k,a,b⟩=>⟨g,k,Tj.mp a,b⟩,fun ⟨g,k,a,b⟩=>⟨g,k,Tj.mpr a,b⟩⟩
  have hplt:∀ q∈pl,q<rows.length:=fun q hq=>by
   obtain⟨g,k,h1,h2⟩:=(mem q).mp hq;exact hwlt g q k (by rw[<- FP.len];exact(zux.mp h1).1) h2
  have hpl20:pl.length<=20:=zvb (hbound pl nd hplt) mo.few;intro lr hlr;refine al (upd _ lr _) hlr rfl fun H5 e5 SH5=>?_;have s5:=sa.trans SH5;have hp5:=SH5 _ _ hpa;have nlr:lr≠lp:=Ne.symm (Zh hpa hlr);have hlrn:H lr=none:=sa.free hlr;refine⟨_,rfl,lp,kp,rfl,hp5,fun o=>?_⟩;have e6:upd H5 lp (.frz o (.dK kp)) lp=some (.frz o (.dK kp)):=Ze;have r6:upd H5 lp (.frz o (.dK kp)) lr=some (.dK []):=by rw[Zf nlr];exact e5
  have s6:Same H (upd H5 lp (.frz o (.dK kp))):=Yb hlpn s5;generalize upd H5 lp (.frz o (.dK kp))=H6 at e6 r6 s6;have key:∀ (i:Nat) (k:Key) (v:V),kp[i]?=some (k,v)->∃ q:Nat,pl[i]?=some q/\k=inl (q:Int):=fun i k v e=>by
   have:=congrArg (·[i]?) kk;simp only[zu1,e,zv0] at this;cases hq:pl[i]? with
   | none=>rw[hq] at this;cases this
   | some q=>rw[hq] at this;exact⟨q,rfl,Option.some.inj this⟩
  have hkpl:kp.length=pl.length:=by have:=congrArg List.length kk;rw[zuw,zuw] at this;exact this
  have rbound:∀ rl:List Int,rl.Nodup->(∀ n∈rl,n∈nu)->rl.length<=30:=fun rl n1 n2=>zvb (n1.length_le_of_subset n2) mo.crowd
  let jv7:Nat->L2.St->Hp->Prop:=fun i σ' H'=>∃ (v6 v7:Option V) (kr:List (Key×V)) (rl:List Int),σ'=[some (.ref l),some (.ref lg),some (.ref d),some (.ref lp),v4,some (.ref lr),v6,v7]/\Same H H'/\H' lp=some (.frz o (.dK kp))/\H' lr=some (.dK kr)/\kr.map (·.1)=rl.map (inl:Int->Key)/\rl.Nodup/\∀ n,n∈rl↔∃ p∈pl.take i,∃ r,rows[p]?=some r/\n∈r
  refine B3 (a:=lp) (o:=o) (kvs:=kp) jv7
   ⟨_,_,[],[],rfl,s6,e6,r6,rfl,zwp,by simp⟩ (by rintro i σ' H' _ ⟨_,_,_,_,_,_,z,_⟩;exact z) (fun i k v σ' Hc hk hP=>?_) (fun σ' Hc hP=>?_)
  ·obtain⟨v6,v7,kr,rl,rfl,sc,hpc,hrc,kkr,ndr,memr⟩:=hP;obtain⟨q,hq,rfl⟩:=key i k v hk;have hqm:=zu2 hq;have hi:i<pl.length:=(zux.mp hq).1;have etk:pl.take (i+1)=pl.take i++[q]:=by
    rw[zvd hi];rw[zuy hi] at hq;rw[Option.some.inj hq]
   have hqr:rows[q]?=some (rows[q]'(hplt q hqm)):=zuy (hplt q hqm);have hrm:rows[q]'(hplt q hqm)∈rows:=zvs _;generalize (rows[q]'(hplt q hqm))=r at hqr hrm;obtain⟨lq,e2',e3⟩:=il.getR hqr;have hl':(ls.map V.ref)[q]?=some (.ref lq):=by rw[zu1,e2'];rfl
   refine⟨_,rfl,_,rfl,l,_,_,_,rfl,rfl,SqL.of (sc _ _ hl),Z7 hl',lq,rfl,⟨_,SqL.of (sc _ _ e3)⟩,?_⟩
   let jv8:Nat->L2.St->Hp->Prop:=fun j σ' H'=>∃ (v7:Option V) (kr:List (Key×V)) (rl:List Int),σ'=[some (.ref l),some (.ref lg),some (.ref d),some (.ref lp),v4,some (.ref lr),some (.int (q:Nat)),v7]/\Same H H'/\H' lp=some (.frz o (.dK kp))/\H' lr=some (.dK kr)/\kr.map (·.1)=rl.map (inl:Int->Key)/\rl.Nodup/\∀ n,n∈rl↔(∃ p∈pl.take i,∃ r,rows[p]?=some r/\n∈r)\/n∈r.take j
   refine Xf (K:=K) (a:=lq) (xs:=r.map V.int) jv8
    ⟨_,kr,rl,rfl,sc,hpc,hrc,kkr,ndr,fun n=>by rw[memr];simp⟩ (by rintro j σ' H' _ ⟨_,_,_,_,z,_⟩;exact SqL.of (z _ _ e3)) ?_ ?_
   ·rintro j y σ' Hd hy ⟨w7,kr,rl,rfl,sd,hpd,hrd,kkr,ndr,memr⟩;have hj:j<r.length:=by have:=(zux.mp hy).1;rw[zuw] at this;exact this
    have hrj:r[j]?=some (r[j]'hj):=zuy hj;have etj:r.take (j+1)=r.take j++[r[j]'hj]:=zvd hj;generalize (r[j]'hj)=n at hrj etj;have ey:y=.int n:=by rw[zu1,hrj] at hy;exact(Option.some.inj hy).symm
    subst ey;have hsub:∀ m∈rl,m∈nu:=fun m hm=>by
     rcases(memr m).mp hm with ⟨p,_,r',h1,h2⟩|h1
     ·exact(mo.sub r' (zu2 h1)).2 m h2
     ·exact(mo.sub r hrm).2 m (zwq h1)
    have hkr:kr.length<=30:=by
     have:=congrArg List.length kkr;rw[zuw,zuw] at this;rw[this];exact rbound rl ndr hsub
    refine⟨_,rfl,_,rfl,lr,_,rfl,DPut.k (k:=inl n) hrd ⋯,_,putK kr (inl n) (.bl true),Ij rl n,rfl,Yb hlrn sd,by rw[Zf (Ne.symm nlr)];exact hpd,Ze,Ik zll kkr n _,O3 ndr,fun m=>?_⟩;rw[Im,memr,etj,zu8,zu0,or_assoc]
   ·rintro σ' Hd ⟨w7,kr,rl,rfl,sd,hpd,hrd,kkr,ndr,memr⟩;rw[zuw,zvf] at memr;refine⟨_,_,kr,rl,rfl,sd,hpd,hrd,kkr,ndr,fun n=>?_⟩;rw[memr,etk];constructor
    ·rintro(⟨p,h1,h2⟩|h1)
     ·exact⟨p,zvn _ h1,h2⟩
     ·exact⟨q,by simp,r,hqr,h1⟩
    ·rintro⟨p,h1,r',h2,h3⟩;rcases zu8.mp h1 with z|z
     ·exact .inl ⟨p,z,r',h2,h3⟩
     ·rw[zu0.mp z,hqr] at h2;cases h2;exact .inr h3
  ·obtain⟨v6,v7,kr,rl,rfl,sc,hpc,hrc,kkr,ndr,memr⟩:=hP;rw[hkpl,zvf] at memr;have hsub:∀ m∈rl,m∈nu:=fun m hm=>by
    obtain⟨p,_,r',h1,h2⟩:=(memr m).mp hm;exact(mo.sub r' (zu2 h1)).2 m h2
   have hrl30:=rbound rl ndr hsub;refine⟨_,rfl,lp,kp,pl.map (fun q:Nat=>(q:Int)),rfl,.inr ⟨o,hpc⟩,by rw[kk,zwe];rfl,by rw[zuw];omega,fun l1 pi hl1 p1 p2=>?_⟩;refine al (upd _ l1 _) hl1 rfl fun H7 q7 s7=>?_;have hr7:=s7 _ _ hrc;have sc7:=sc.trans s7;refine⟨_,rfl,lr,kr,rl,rfl,.inl hr7,kkr,by omega,fun l2 rs hl2 p3 p4=>?_⟩;obtain⟨ps,rfl,SP⟩:=zgf FP NA nd mem ndr memr p1 p2 p3 p4;refine⟨sz2,fun t ht=>?_⟩;have s8:=Zk (o:=.lst (rs.map V.int)) hl2;have q8:upd H7 l2 (.lst (rs.map V.int)) l2=some (.lst (rs.map V.int)):=Ze;have q78:=s8 _ _ q7;generalize upd H7 l2 (.lst (rs.map V.int))=H8 at s8 q8 q78 ht;have s9:=Zk (o:=.tup [.ref l1,.ref l2]) ht;refine h t l1 l2 ps rs _ Ze (s9 _ _ (by rw[q78];unfold Wt;rw[zwe];rfl)) (s9 _ _ q8) SP (sc7.trans (s8.trans s9)) ((sc7.trans s8).free ht) (sc.free hl1) (sc7.free hl2) (Zh q7 hl2)
abbrev Ug:Stmt:=Z3 (top 55) 0
theorem Mo:Zl ["self","listed","lists","given","gaps"] ["self","listed","lists","given","gaps"] (Zi Ug):=fnS
theorem Mp(F:Fun K "__init__" "Sheet.__init__" Ug f fd)(T:Tx K mg a):FnOk P w K mg base (CX1 P w) 1 f fd ["self","listed","lists","given","gaps"] (Me (ca a)):=by
 refine F.okX Mo ⋯ fun _ _ _ _ H _ Q E hr h=>?_;obtain⟨q,dx,l1,l2,l3,l4,rfl,hq,h⟩:=h;refine⟨_,(Zb (Y9 (K:=K) rfl (pv 0) (pv 1) rfl)
 (Zb (Y9 (K:=K) rfl (pv 0) (pv 2) rfl)
 (Zb (Y9 (K:=K) rfl (pv 0) (pv 3) rfl)
 (Zd (Y9 (K:=K) rfl (pv 0) (pv 4) rfl))))),?_⟩
 refine⟨_,rfl,_,rfl,q,a.zm1,dx,[],rfl,hq,T.zm6,T.zpv,⋯,?_⟩;refine⟨_,rfl,_,rfl,q,a.zm1,dx,[("listed",.ref l1)],rfl,Ze,T.zm6,T.zrn,(by show 1<1000;decide),?_⟩;rw[zma];refine⟨_,rfl,_,rfl,q,a.zm1,dx,_,rfl,Ze,T.zm6,T.zo6,(by show 2<1000;decide),?_⟩;rw[zmb];refine⟨_,rfl,_,rfl,q,a.zm1,dx,_,rfl,Ze,T.zm6,T.zrj,(by show 3<1000;decide),?_⟩;rw[zmc];refine h _ ?_;rw[N1,N1,N1];rfl
abbrev T2:Stmt:=Z3 (top 55) 1
theorem Jg:Zl ["self","lists"] ["self","lists"] (Zi T2):=fnS
theorem Jh(F:Fun K "barred" "Sheet.barred" T2 f fd)(T:Tx K mg a)(zpd:Tg P w K mg base "Sheet" a.zm1 1 ["self","listed","lists","given","gaps"] (Me (ca a))):FnOk P w K mg base (CX1 P w) 3 f fd ["self","lists"] (Ae (ca a)):=by
 refine F.okX Jg ⋯ fun _ _ _ _ H _ Q E hr h=>?_;obtain⟨ok,q,l2,ls,rows,s,rfl,SA,hl2,il,ok2,okl,no,h⟩:=h;refine⟨_,(Zd (Zm (D5 zpd (hr.mono ⋯) Zj rfl (Za (Zr (K:=K) rfl (pv 0) rfl) (Za (pv 1) (Za (Zr (K:=K) rfl (pv 0) rfl) (Za (Zr (K:=K) rfl (pv 0) rfl) Zc))))))),?_⟩;obtain⟨dx,m1,m2,m3,m4,ts,ms,gts,a1,a2,a3,a4,a5,a6,a7,a8,o1,o2,o3,o4,o5,o6⟩:=id SA;refine⟨_,rfl,q,a.zm1,dx,_,_,rfl,a1,T.zm6,T.zpv,P4,_,rfl,_,rfl,q,a.zm1,dx,_,_,rfl,a1,T.zm6,T.zo6,Tn,_,rfl,q,a.zm1,dx,_,_,rfl,a1,T.zm6,T.zrj,Ci,?_⟩;intro q' dx' hq' hdx' ne;refine⟨q',dx',m1,l2,m3,m4,rfl,Ze,fun H' e=>⟨rfl,?_⟩⟩;obtain⟨s1,q1⟩:=O6 (C:=a.zm1) (l1:=m1) (l2:=l2) (l3:=m3) (l4:=m4) hq' hdx' ne;rw[<- e] at s1 q1;exact h q' H' ⟨dx',m1,l2,m3,m4,ts,ls,gts,q1,s1 _ _ a2,a3.same s1,s1 _ _ hl2,il.same s1,s1 _ _ a6,s1 _ _ a7,a8.keep (fun _ _ _ z=>s1 _ _ z) (fun _ _ z=>s1 _ _ z),no _ hq',o2,ok2,o4,o5,okl⟩ s1 hq'
abbrev Vf:Stmt:=Z3 (top 55) 2
theorem X5:Zl ["self","number","lists","place","gap","steps"] ["self","number","lists"] (Zi Vf):=fnS
theorem Oh(F:Fun K "fallen_out" "Sheet.fallen_out" Vf f fd)(T:Tx K mg a)(zno:Zs P w K mg base a.zm1 "where" 2 ["self","number"] (P5 (ca a)))(zo4:Z2 P w K mg base "stepped" 1 ["given","steps"] (Rg K))(zqx:Z2 P w K mg base "chain" 2 ["may","given","place"] (Cd K))(zpd:Tg P w K mg base "Sheet" a.zm1 1 ["self","listed","lists","given","gaps"] (Me (ca a))):FnOk P w K mg base (CX1 P w) 3 f fd ["self","number","lists"] (Af (ca a)):=by
 refine F.okX X5 ⋯ fun _ _ _ _ H _ Q E hr h=>?_;obtain⟨ok,q,l2,ls,rows,nu,s,n,p,rfl,SA,hl2,il,ok2,okl,no,mo,ho,hgp,hun,FP,hgz,h⟩:=h;refine⟨_,(Zb (pS 3 X5.nd (Yl (pv 0) T.zm6 zno (hr.mono ⋯) Zj (Za (pv 1) Zc)))
 (Zb (pS 4 X5.nd (pF zo4 hr (Za (Zr (K:=K) rfl (pv 0) rfl) (Za (Z9 (Za (Yd (Za (pv 3) (Za Y3 Zc))) Zc)) Zc))))
 (Zb (pS 5 X5.nd (pF zqx hr (Za (pv 2) (Za (pv 4) (Za (pv 3) Zc)))))
 (Zd (Zm (D5 zpd (hr.mono ⋯) Zj rfl (Za (Zr (K:=K) rfl (pv 0) rfl) (Za (pv 2) (Za (pF zo4 hr (Za (pv 4) (Za (pv 5) Zc))) (Za (Zt Ox (Zr (K:=K) rfl (pv 0) rfl) (Z9 (Za (Yd (Za (pv 1) (Za (pv 5) Zc))) Zc))) Zc)))))))))),?_⟩
 obtain⟨dx,m1,m2,m3,m4,ts,ms,gts,a1,a2,a3,a4,a5,a6,a7,a8,o1,o2,o3,o4,o5,o6⟩:=id SA;have hrl:rows.length<=100:=zvb mo.few ⋯;have hgl:s.gv.length<=100:=by have:=FP.len;rw[zwl] at this;omega
 have hpl:p<s.gv.length:=(zux.mp hgp).1;have hpr:p<rows.length:=by have:=FP.len;rw[zwl] at this;omega
 have hplace:Xt s.gv n=some p:=by
  unfold Xt;rw[List.find?_eq_some_iff_getElem];refine⟨zu3 hgp,p,by rw[zvu];exact hpl,by rw[List.getElem_range],fun j hj=>?_⟩;rw[List.getElem_range,Bool.not_eq_true',decide_eq_false_iff_not];exact fun z=>absurd (hun j z) ⋯
 refine⟨_,rfl,q,dx,_,rfl,a1,Vs ⋯ ⋯ ⋯ ⋯,_,rfl,ok,q,s,n,rfl,SA,ho,hgl,fun H1 s1=>?_⟩;rw[hplace,show oN (some p)=V.int (p:Nat) from rfl];have SA1:=SA.same s1;refine⟨_,rfl,q,a.zm1,dx,_,_,rfl,s1 _ _ a1,T.zm6,T.zo6,Tn,_,rfl,sz2,fun t1 ht1=>⟨sz1,fun lx hlx=>?_⟩⟩;have s2:=Zk (o:=.tup [.int (p:Nat),.non]) ht1;have q2:upd H1 t1 (.tup [.int (p:Nat),.non]) t1=some (.tup (Wq (p,none))):=Ze;generalize upd H1 t1 (.tup [.int (p:Nat),.non])=H2 at s2 q2 hlx;refine al (upd _ lx _) hlx rfl fun H3 q3 s3=>?_;have q23:=s3 _ _ q2;have s13:=s1.trans (s2.trans s3);refine⟨m3,lx,s.gv,[V.ref t1],[(p,none)],rfl,s13 _ _ a6,q3,.cons q23 .nil,fun st hst=>by rw[zu0.mp hst];exact hpl,ho,hgl,by show 1<=100;decide,fun lg H4 hg4 s4 f4=>?_⟩;have s14:=s13.trans s4;have hg4:H4 lg=some (.lst (s.gv.set p .non)):=hg4;refine⟨_,rfl,_,rfl,_,rfl,l2,lg,ls,rows,nu,s.gv.set p .non,p,rfl,s14 _ _ hl2,il.same s14,mo,hg4,FP,hpr,by rw[zv5 hpl],fun lt us st e w H5 hlt tl CR s5 f5=>?_⟩;have s15:=s14.trans s5;have hst100:st.length<=100:=zvb (CR.len FP hpr) hrl;refine⟨_,rfl,q,a.zm1,dx,_,_,rfl,s15 _ _ a1,T.zm6,T.zpv,P4,_,rfl,_,rfl,_,rfl,lg,lt,s.gv.set p .non,us,st,rfl,s5 _ _ hg4,hlt,tl,fun x hx=>?_,FP.one,by rw[FP.len];exact hrl,hst100,fun l3 H6 h6 s6 f6=>?_⟩
 ·rw[FP.len];exact CR.ch.lt FP hpr x hx
 have s16:=s15.trans s6;refine⟨_,rfl,q,a.zm1,dx,_,_,rfl,s16 _ _ a1,T.zm6,T.zrj,Ci,_,rfl,_,rfl,sz2,fun t2 ht2=>⟨sz1,fun ly hly=>?_⟩⟩;have s7:=Zk (o:=.tup [.int n,.ref lt]) ht2;have q7:upd H6 t2 (.tup [.int n,.ref lt]) t2=some (.tup [.int n,.ref lt]):=Ze;generalize upd H6 t2 (.tup [.int n,.ref lt])=H7 at s7 q7 hly;refine al (upd _ ly _) hly rfl fun H8 q8 s8=>?_;have q78:=s8 _ _ q7;have s18:=s16.trans (s7.trans s8);refine⟨m4,ly,gts,[V.ref t2],rfl,rfl,s18 _ _ a7,q8,by have:=a8.length;show gts.length+1<=sizeLine;have:=Ur;omega,fun l4 hl4=>?_⟩;refine al (upd _ l4 _) hl4 rfl fun H9 q9 s9=>?_;have s19:=s18.trans s9;intro q' dx' hq' hdx' ne;refine⟨q',dx',m1,l2,l3,l4,rfl,Ze,fun H' e'=>⟨rfl,?_⟩⟩;obtain⟨s10,q10⟩:=O6 (C:=a.zm1) (l1:=m1) (l2:=l2) (l3:=l3) (l4:=l4) hq' hdx' ne;rw[<- e'] at s10 q10;have s:=s19.trans s10;have s6x:=s7.trans (s8.trans (s9.trans s10));have s5x:=s6.trans s6x;refine h q' st e w H' ⟨dx',m1,l2,l3,l4,ts,ls,gts++[V.ref t2],q10,s _ _ a2,a3.same s,s _ _ hl2,il.same s,s6x _ _ h6,s10 _ _ q9,?_,no _ (s19.free hq'),o2,ok2,no _ (s15.free f6),no _ (s18.free hl4),okl⟩ CR s (s19.free hq');exact(a8.keep (fun _ _ _ z=>s _ _ z) (fun _ _ z=>s _ _ z)).snoc ((s9.trans s10) _ _ q78) (s5x _ _ hlt) (tl.same s5x) (no _ (s14.free f5))
abbrev U0:Stmt:=Z3 (top 55) 3
theorem L9:Zl ["self"] ["self"] (Zi U0):=fnS
theorem Ka(F:Fun K "matches" "Sheet.matches" U0 f fd)(T:Tx K mg a):FnOk P w K mg base (CX1 P w) 1 f fd ["self"] (Pa (ca a)):=by
 refine F.okX L9 ⋯ fun _ _ _ _ H _ Q E hr h=>?_;obtain⟨ok,q,s,rfl,SA,h⟩:=h;refine⟨_,(Zd (Zm (Xl (Y8 (K:=K) rfl) (by rfl) T.zol PyProof.Rows.boot_list (Za (Zr (K:=K) rfl (pv 0) rfl) Zc)))),?_⟩;obtain⟨dx,m1,m2,m3,m4,ts,ms,gts,a1,a2,a3,a4,a5,a6,a7,a8,o1,o2,o3,o4,o5,o6⟩:=id SA;refine⟨_,rfl,q,a.zm1,dx,_,_,rfl,a1,T.zm6,T.zpv,P4,m1,_,rfl,.inl (SqL.of a2),fun l hl=>?_⟩;exact h l ts _ Ze (a3.same (Zk hl)) (Zk hl) hl
abbrev R9:Stmt:=Z3 (top 55) 7
theorem Ft:Zl ["self"] ["self"] (Zi R9):=fnS
theorem Fu(F:Fun K "goes" "Sheet.goes" R9 f fd)(T:Tx K mg a):FnOk P w K mg base (CX1 P w) 1 f fd ["self"] (Iq (ca a)):=by
 refine F.okX Ft ⋯ fun _ _ _ _ H _ Q E hr h=>?_;obtain⟨ok,q,s,rfl,SA,h⟩:=h;refine⟨_,(Zd (Zm (Xl (Y8 (K:=K) rfl) (by rfl) T.zol PyProof.Rows.boot_list (Za (Zr (K:=K) rfl (pv 0) rfl) Zc)))),?_⟩;obtain⟨dx,m1,m2,m3,m4,ts,ms,gts,a1,a2,a3,a4,a5,a6,a7,a8,o1,o2,o3,o4,o5,o6⟩:=id SA;refine⟨_,rfl,q,a.zm1,dx,_,_,rfl,a1,T.zm6,T.zo6,Tn,m3,_,rfl,.inl (SqL.of a6),fun l hl=>?_⟩;exact h l _ Ze (Zk hl) hl
abbrev Sw:Stmt:=Z3 (top 55) 8
theorem Gj:Zl ["self","number"] ["self","number"] (Zi Sw):=fnS
theorem Gk(F:Fun K "where" "Sheet.where" Sw f fd)(T:Tx K mg a)(zq4:Z2 P w K mg base "place_of" 1 ["given","number"] (E4 K)):FnOk P w K mg base (CX1 P w) 2 f fd ["self","number"] (P5 (ca a)):=by
 refine F.okX Gj ⋯ fun _ _ _ _ H _ Q E hr h=>?_;obtain⟨ok,q,s,n,rfl,SA,ho,hgl,h⟩:=h;refine⟨_,(Zd (Zm (pF zq4 hr (Za (Zr (K:=K) rfl (pv 0) rfl) (Za (pv 1) Zc))))),?_⟩;obtain⟨dx,m1,m2,m3,m4,ts,ms,gts,a1,a2,a3,a4,a5,a6,a7,a8,o1,o2,o3,o4,o5,o6⟩:=id SA;exact⟨_,rfl,q,a.zm1,dx,_,_,rfl,a1,T.zm6,T.zo6,Tn,_,rfl,m3,s.gv,n,rfl,a6,ho,hgl,fun H' s'=>h H' s'⟩
abbrev Qa:Stmt:=Z3 (top 55) 9
theorem Fv:Zl ["self"] ["self"] (Zi Qa):=fnS
theorem Fw(F:Fun K "left" "Sheet.left" Qa f fd)(T:Tx K mg a)(zn1:Z2 P w K mg base "left_without" 1 ["given"] (zba K)):FnOk P w K mg base (CX1 P w) 2 f fd ["self"] (Ag (ca a)):=by
 refine F.okX Fv ⋯ fun _ _ _ _ H _ Q E hr h=>?_;obtain⟨ok,q,s,rfl,SA,ho,hgl,h⟩:=h;refine⟨_,(Zd (Zm (pF zn1 hr (Za (Zr (K:=K) rfl (pv 0) rfl) Zc)))),?_⟩;obtain⟨dx,m1,m2,m3,m4,ts,ms,gts,a1,a2,a3,a4,a5,a6,a7,a8,o1,o2,o3,o4,o5,o6⟩:=id SA;exact⟨_,rfl,q,a.zm1,dx,_,_,rfl,a1,T.zm6,T.zo6,Tn,m3,s.gv,rfl,a6,ho,hgl,fun l H' h1 s' h2=>h l H' h1 s' h2⟩
abbrev Pf:Stmt:=Z3 (top 55) 10
theorem Cy:Zl ["self"] ["self"] (Zi Pf):=fnS
theorem Cz(F:Fun K "why" "Sheet.why" Pf f fd)(T:Tx K mg a)(zq7:Z2 P w K mg base "shortage" 2 ["may","given"] (zcy K)):FnOk P w K mg base (CX1 P w) 3 f fd ["self"] (zc2 (ca a)):=by
 refine F.okX Cy ⋯ fun _ _ _ _ H _ Q E hr h=>?_;obtain⟨ok,q,s,nu,rfl,SA,mo,FP,NA,h⟩:=h;refine⟨_,(Zd (Zm (pF zq7 hr (Za (Zr (K:=K) rfl (pv 0) rfl) (Za (Zr (K:=K) rfl (pv 0) rfl) Zc))))),?_⟩;obtain⟨dx,m1,m2,m3,m4,ts,ms,gts,a1,a2,a3,a4,a5,a6,a7,a8,o1,o2,o3,o4,o5,o6⟩:=id SA;exact⟨_,rfl,q,a.zm1,dx,_,_,rfl,a1,T.zm6,T.zrn,zgi,_,rfl,q,a.zm1,dx,_,_,rfl,a1,T.zm6,T.zo6,Tn,m2,m3,ms,s.may,nu,s.gv,rfl,a4,a5,mo,a6,FP,NA,fun t lp lr ps rs H'=>h t lp lr ps rs H'⟩
abbrev T3:Stmt:=Z3 (top 55) 11
theorem Ji:Zl ["self"] ["self"] (Zi T3):=fnS
theorem Jj(F:Fun K "chains" "Sheet.chains" T3 f fd)(T:Tx K mg a):FnOk P w K mg base (CX1 P w) 1 f fd ["self"] (O7 (ca a)):=by
 refine F.okX Ji ⋯ fun _ _ _ _ H _ Q E hr h=>?_;obtain⟨ok,q,s,rfl,SA,hgz,h⟩:=h;refine⟨_,(Zd (Zm (Ii rfl (Ma.mk (xo:=["number","steps"]) (ys:=[]) (js:=[]) rfl rfl ⋯ ⋯ rfl (by repeat' (first|exact True.intro|apply And.intro|rfl)) (by repeat' (first|exact True.intro|apply And.intro|rfl)) ⋯) (Yc (K:=K) rfl (Zr (K:=K) rfl (pv 0) rfl)) (fun _ _ _ _ _=>U7) (fun _ _ _ _ _=>(Xy (K:=K) (n:=2) rfl rfl (Zw (U5 (i:=0) (show List.Nodup [("number":Str),("steps":Str)] by decide +kernel) rfl (by first|exact Or.inl rfl|exact Or.inr rfl)) (Zw (U5 (i:=1) (show List.Nodup [("number":Str),("steps":Str)] by decide +kernel) rfl (by first|exact Or.inl rfl|exact Or.inr rfl)) Xw)))) (fun _ _ _ _ _=>(Yd (Za (pv 0) (Za (Xl (Y8 (K:=K) rfl) (by rfl) T.zol PyProof.Rows.boot_list (Za (pv 1) Zc)) Zc))))))),?_⟩;obtain⟨dx,m1,m2,m3,m4,ts,ms,gts,a1,a2,a3,a4,a5,a6,a7,a8,o1,o2,o3,o4,o5,o6⟩:=id SA;have hgts:=a8.length;refine⟨_,rfl,q,a.zm1,dx,_,_,rfl,a1,T.zm6,T.zrj,Ci,m4,rfl,⟨_,SqL.of a7⟩,?_⟩;refine zbi (K:=K) (xs:=gts) (fun i ys H'=>Same H H'/\X2 (fun x=>H x=none) H' ys (s.gaps.take i)/\ys.length=i) ⟨Same.refl _,.nil,rfl⟩ (fun i ys H' _ ⟨s',_⟩=>SqL.of (s' _ _ a7)) (szN ⋯) (fun i ys H' ⟨_,_,e⟩=>by omega) ?_ ?_
 ·rintro i x ys H' hx ⟨s1,gl,hyl⟩;obtain⟨t,l,n,us,st,rfl,hgi,ht,hl,tl,_⟩:=a8.get hx;have ht1:=s1 _ _ ht;have hl1:=s1 _ _ hl;refine⟨t,_,rfl,SqT.of ht1,rfl,_,_,rfl,_,_,rfl,rfl,⟨[some (.int n),some (.ref l)],rfl,rfl⟩,?_⟩;unfold tYes;dsimp only;rw[if_pos rfl];refine⟨_,rfl,_,rfl,l,_,rfl,.inl (SqL.of hl1),fun l2 hl2=>?_⟩;refine al (upd _ l2 _) hl2 rfl fun H2 q2 s2=>?_;have f2:H l2=none:=s1.free hl2;refine⟨sz2,fun t2 ht2=>?_⟩;have s3:=Zk (o:=.tup [.int n,.ref l2]) ht2;have s23:=s2.trans s3;refine⟨s1.trans s23,?_,by rw[zuz,hyl];rfl⟩;have e:s.gaps.take (i+1)=s.gaps.take i++[(n,st)]:=by rw[zwg,hgi];rfl
  rw[e];exact(gl.keep (fun _ _ _ z=>s23 _ _ z) (fun _ _ z=>s23 _ _ z)).snoc Ze (s3 _ _ q2) (tl.same (s1.trans s23)) f2
 ·rintro ys H' ⟨s1,gl,hyl⟩ l hl;rw[hgts,zvf] at gl;refine h l ys _ Ze ?_ (s1.trans (Zk hl)) (s1.free hl);exact(gl.imp (ok':=fun x=>H x=none/\x≠l) fun x ⟨o,e⟩ z=>⟨z,Zh e hl⟩).keep (fun _ _ _ z=>Zk hl _ _ z) (fun _ _ z=>Zk hl _ _ z)
abbrev Qb:Stmt:=Z3 (top 55) 12
theorem Fx:Zl ["self"] ["self"] (Zi Qb):=fnS
theorem F3(F:Fun K "rows" "Sheet.rows" Qb f fd)(T:Tx K mg a):FnOk P w K mg base (CX1 P w) 1 f fd ["self"] (Ai (ca a)):=by
 refine F.okX Fx ⋯ fun _ _ _ _ H _ Q E hr h=>?_;obtain⟨ok,q,s,rfl,SA,ho,hgl,hml,h⟩:=h;refine⟨_,(Zd (Zm (Ii rfl (Ma.mk (xo:=["match","number"]) (ys:=[]) (js:=[]) rfl rfl ⋯ ⋯ rfl (by repeat' (first|exact True.intro|apply And.intro|rfl)) (by repeat' (first|exact True.intro|apply And.intro|rfl)) ⋯) (zj1 (K:=K) rfl rfl T.zsl (Za (Zr (K:=K) rfl (pv 0) rfl) (Za (Zr (K:=K) rfl (pv 0) rfl) Zc))) (fun _ _ _ _ _=>U7) (fun _ _ _ _ _=>(Xy (K:=K) (n:=2) rfl rfl (Zw (U5 (i:=0) (show List.Nodup [("match":Str),("number":Str)] by decide +kernel) rfl (by first|exact Or.inl rfl|exact Or.inr rfl)) (Zw (U5 (i:=1) (show List.Nodup [("match":Str),("number":Str)] by decide +kernel) rfl (by first|exact Or.inl rfl|exact Or.inr rfl)) Xw)))) (fun _ _ _ _ _=>(Zt (Ab (K:=K) rfl) (pv 0) (Yd (Za (pv 1) Zc))))))),?_⟩;obtain⟨dx,m1,m2,m3,m4,ts,ms,gts,a1,a2,a3,a4,a5,a6,a7,a8,o1,o2,o3,o4,o5,o6⟩:=id SA;have hts:ts.length=s.ms.length:=by rw[a3.length,zuw]
 refine⟨_,rfl,q,a.zm1,dx,_,_,rfl,a1,T.zm6,T.zpv,P4,_,rfl,q,a.zm1,dx,_,_,rfl,a1,T.zm6,T.zo6,Tn,m1,m3,rfl,⟨_,SqL.of a2⟩,⟨_,SqL.of a6⟩,?_⟩;refine zef (K:=K) (xs:=ts) (zs:=s.gv) (fun i ys H'=>Same H H'/\Z8 H' ys (((Ye s).take i).map Ca)/\ys.length=i) ⟨Same.refl _,.nil,rfl⟩ ⋯ (fun i ys H' _ ⟨s',_⟩=>⟨SqL.of (s' _ _ a2),SqL.of (s' _ _ a6)⟩) (szN ⋯) (fun i ys H' ⟨_,_,e⟩=>by omega) ?_ ?_
 ·rintro i x z t ys H' hx hz ⟨s1,tl,hyl⟩ ht;obtain⟨tm,m,rfl,hm,htm⟩:=Ig a3 hx;have oz:=ho z (zu2 hz);refine al (upd _ t _) ht rfl fun H2 q2 SH2=>?_;have s2:=s1.trans SH2;have tl2:=tl.same SH2;refine⟨t,_,rfl,SqT.of q2,rfl,_,_,rfl,_,_,rfl,rfl,⟨[some (.ref tm),some z],rfl,rfl⟩,?_⟩;unfold tYes;dsimp only;rw[if_pos rfl];refine⟨_,rfl,_,rfl,sz1,fun t1 ht1=>?_⟩;refine al (upd _ t1 _) ht1 rfl fun H3 q3 s3=>?_;refine⟨tm,t1,_,_,rfl,rfl,SqT.of ((s2.trans s3) _ _ htm),SqT.of q3,by unfold pV;simp,by show 3+1<=sizeLine;exact sz4,fun z=>absurd z (by simp),fun _ t2 ht2=>?_⟩;have s4:=Zk (o:=.tup (pV m++[z])) ht2;refine⟨s2.trans (s3.trans s4),?_,by rw[zuz,hyl];rfl⟩;rw[zeg hm hz,zu5];refine((tl2.same s3).same s4).snoc ?_;rw[Ze,zj6 m oz];rfl
 ·rintro ys H' ⟨s1,tl,hyl⟩ l hl;rw[hts,<- Aj hgl,zvf] at tl;exact h l ys _ Ze (tl.same (Zk hl)) (s1.trans (Zk hl)) (s1.free hl)
abbrev Sx:Stmt:=top 56
theorem Gm:Zl ["listed","lists"] ["listed","lists"] (Zi Sx):=fnS
theorem Gn(F:Fun K "drawn_sheet" "drawn_sheet" Sx f fd)(T:Tx K mg a)(zpd:Tg P w K mg base "Sheet" a.zm1 1 ["self","listed","lists","given","gaps"] (Me (ca a)))(zsg:Z2 P w K mg base "fill" 3 ["may"] (zf1 K)):FnOk P w K mg base (CX1 P w) 4 f fd ["listed","lists"] (zc1 (ca a)):=by
 refine F.okX Gm ⋯ fun _ _ _ _ H _ Q E hr h=>?_;obtain⟨ok,l1,l2,ts,ls,ms,rows,nu,rfl,hl1,tl,hl2,il,ok1,ok2,okl,no,mo,h⟩:=h;refine⟨_,(Zd (Zm (D5 zpd (hr.mono ⋯) Zj rfl (Za (pv 0) (Za (pv 1) (Za (pF zsg hr (Za (pv 1) Zc)) (Za (Z9 Zc) Zc))))))),?_⟩;refine⟨_,rfl,_,rfl,_,rfl,l2,ls,rows,nu,rfl,hl2,il,mo,fun l3 gv H1 h3 FP SP s1 f3=>?_⟩;refine⟨by show 0<=sizeLine;decide,fun l4 hl4=>?_⟩;refine al (upd _ l4 _) hl4 rfl fun H2 q2 s2=>?_;have s12:=s1.trans s2;intro q dx hq hdx ne;refine⟨q,dx,l1,l2,l3,l4,rfl,Ze,fun H' e=>⟨rfl,?_⟩⟩;obtain⟨s3,q3⟩:=O6 (C:=a.zm1) (l1:=l1) (l2:=l2) (l3:=l3) (l4:=l4) hq hdx ne;rw[<- e] at s3 q3;have s:=s12.trans s3;exact h q gv H' ⟨dx,l1,l2,l3,l4,ts,ls,[],q3,s _ _ hl1,tl.same s,s _ _ hl2,il.same s,s3 _ _ (s2 _ _ h3),s3 _ _ q2,.nil,no _ (s12.free hq),ok1,ok2,no _ f3,no _ (s1.free hl4),okl⟩ FP SP s (s12.free hq)
abbrev Vz:Stmt:=Z3 (top 58) 0
theorem Nm:Zl ["self","rounds","rest"] ["self","rounds","rest"] (Zi Vz):=fnS
theorem Nn(F:Fun K "__init__" "Season.__init__" Vz f fd)(T:Tx K mg a)(zm8:Z2 P w K mg base "check_range" 1 ["value","least","most"] (Md a.znk))(zro:Tg P w K mg base "Roster" a.zm3 1 ["self"] (zcz (ca a)))(zrz:Tg P w K mg base "Ledger" a.zm2 1 ["self"] (zcr a.zm2)):FnOk P w K mg base (CX1 P w) 3 f fd ["self","rounds","rest"] (zc3 (ca a)):=by
 refine F.okX Nm ⋯ fun _ _ _ _ H _ Q E hr h=>?_;obtain⟨p,dx,r,q,rfl,hp,sr,sq,h⟩:=h;refine⟨_,(Zb (Z1 (pF zm8 hr (Za (pv 1) (Za Zg (Za (Wo rfl T.zp8) Zc)))))
 (Zb (Z1 (pF zm8 hr (Za (pv 2) (Za Zg (Za (Wo rfl T.zqs) Zc)))))
 (Zb (Y9 (K:=K) rfl (pv 0) (pv 1) rfl)
 (Zb (Y9 (K:=K) rfl (pv 0) (pv 2) rfl)
 (Zb (Y9 (K:=K) rfl (pv 0) (zcm zro (hr.mono ⋯) Zj rfl) rfl)
 (Zb (Y9 (K:=K) rfl (pv 0) (zcm zrz (hr.mono ⋯) Zj rfl) rfl)
 (Zb (Y9 (K:=K) rfl (pv 0) J4 rfl)
 (Zb (Y9 (K:=K) rfl (pv 0) (Z9 Zc) rfl)
 (Zb (Y9 (K:=K) rfl (pv 0) Y3 rfl)
 (Zd (Y9 (K:=K) rfl (pv 0) (Z9 Zc) rfl))))))))))),?_⟩
 show let y1:TS:=_;let y2:TS:=Zz _ y1;let y3:TS:=Zz _ y2;let y4:TS:=Zz _ y3;let y5:TS:=Zz _ y4;let y6:TS:=Zz _ y5;let y7:TS:=Zz _ y6;let y8:TS:=Zz _ y7;let y9:TS:=Zz _ y8;Zz _ y9 _ _ _;intro y1 y2 y3 y4 y5 y6 y7 y8 y9;refine⟨_,rfl,r,0,60,rfl,sr,Yj ⋯,Yj ⋯,?_⟩;refine it2 h (fun _ z=>z) fun h1 h=>?_;refine⟨_,rfl,q,0,10,rfl,sq,Yj ⋯,Yj ⋯,?_⟩;refine it2 h (fun _ z=>z) fun h2 hF=>?_;have er:r=((r.toNat:Nat):Int):=by omega
 have eq':q=((q.toNat:Nat):Int):=by omega
 generalize r.toNat=rn at hF er;generalize q.toNat=qn at hF eq';subst er eq';refine⟨_,rfl,_,rfl,p,a.zmx,dx,_,rfl,hp,T.zmy,T.zqr,(by show 0<1000;decide),?_⟩;rw[pF1];refine⟨_,rfl,_,rfl,p,a.zmx,dx,_,rfl,Ze,T.zmy,T.zsa,(by show 1<1000;decide),?_⟩;rw[pF2,N1];have b1:Vu p H (upd H p (.ins a.zmx dx (sF2 (.int rn) (.int qn)))):=.put;have q1:upd H p (.ins a.zmx dx (sF2 (.int rn) (.int qn))) p=some (.ins a.zmx dx (sF2 (.int rn) (.int qn))):=Ze;generalize upd H p (.ins a.zmx dx (sF2 (.int rn) (.int qn)))=H1 at b1 q1;intro pr dxr hpr hdxr ne;refine⟨pr,dxr,rfl,Ze,fun dr hdr=>⟨rfl,?_⟩⟩;have ndp:dr≠pr:=fun z=>by rw[z,Ze] at hdr;cases hdr
 have ndx:dr≠dxr:=fun z=>by rw[z,Zf ne,Ze] at hdr;cases hdr
 have hdr1:H1 dr=none:=by rw[Zf ndp,Zf ndx] at hdr;exact hdr
 have s2:Same H1 (upd (upd (upd (upd H1 dxr (.own pr)) pr (.ins a.zm3 dxr [])) dr (.dK [])) pr (.ins a.zm3 dxr [("entries",.ref dr)])):=fun b o e=>by
  rw[Zf (Zh e hpr),Zf (Zh e hdr1),Zf (Zh e hpr),Zf (Zh e hdxr)];exact e
 have R2:Xj a.zm3 (upd (upd (upd (upd H1 dxr (.own pr)) pr (.ins a.zm3 dxr [])) dr (.dK [])) pr (.ins a.zm3 dxr [("entries",.ref dr)])) pr dr []:=⟨⟨dxr,[],Ze,by rw[Zf ndp,Ze],.nil⟩,zwp⟩;generalize upd (upd (upd (upd H1 dxr (.own pr)) pr (.ins a.zm3 dxr [])) dr (.dK [])) pr (.ins a.zm3 dxr [("entries",.ref dr)])=H2 at s2 R2;refine⟨_,rfl,p,a.zmx,dx,_,rfl,s2 _ _ q1,T.zmy,T.zof,(by show 2<1000;decide),?_⟩;rw[pF3];have np2:pr≠p/\dr≠p:=⟨Ne.symm (Zh q1 hpr),Ne.symm (Zh q1 hdr1)⟩;have b3:Vu p H (upd H2 p (.ins a.zmx dx (sF3 (.int rn) (.int qn) (.ref pr)))):=b1.trans ((Vu.of s2).trans .put);have q3:upd H2 p (.ins a.zmx dx (sF3 (.int rn) (.int qn) (.ref pr))) p=some (.ins a.zmx dx (sF3 (.int rn) (.int qn) (.ref pr))):=Ze;have kt3:∀ t xs,H2 t=some (.tup xs)->upd H2 p (.ins a.zmx dx (sF3 (.int rn) (.int qn) (.ref pr))) t=some (.tup xs):=fun t xs e=>by rw[Zf (Yw e (s2 _ _ q1) (fun z=>nomatch z))];exact e
 have R3:=R2.keep (H':=upd H2 p (.ins a.zmx dx (sF3 (.int rn) (.int qn) (.ref pr)))) (fun o e=>by rw[Zf np2.1];exact e) (fun o e=>by rw[Zf np2.2];exact e) kt3;have fdr:H dr=none:=Vu.free b1 ⟨_,q1⟩ hdr1;have hr2:H2 dr=some (.dK [])/\∃ o,H2 pr=some o:=by
  obtain⟨⟨x,kv,z1,z2,z3⟩,_⟩:=R2;cases z3;exact⟨z2,_,z1⟩
 generalize upd H2 p (.ins a.zmx dx (sF3 (.int rn) (.int qn) (.ref pr)))=H3 at b3 q3 R3;intro pl dxl hpl hdxl nel;refine⟨pl,dxl,rfl,Ze,fun lr ld H4 L0 k0 f0 g0 n0=>⟨rfl,?_⟩⟩;obtain⟨s4,fr0,fd0⟩:=zfy hpl hdxl nel k0 f0 g0;refine⟨_,rfl,p,a.zmx,dx,_,rfl,s4 _ _ q3,T.zmy,T.zov,(by show 3<1000;decide),?_⟩;rw[pF4];have q4:=s4 _ _ q3;have np4:pl≠p/\lr≠p/\ld≠p:=⟨Ne.symm (Zh q3 hpl),Ne.symm (Zh q3 fr0),Ne.symm (Zh q3 fd0)⟩;have b5:Vu p H (upd H4 p (.ins a.zmx dx (sF4 (.int rn) (.int qn) (.ref pr) (.ref pl)))):=b3.trans ((Vu.of s4).trans .put);have q5:upd H4 p (.ins a.zmx dx (sF4 (.int rn) (.int qn) (.ref pr) (.ref pl))) p=some (.ins a.zmx dx (sF4 (.int rn) (.int qn) (.ref pr) (.ref pl))):=Ze;have kt5:∀ t xs,H4 t=some (.tup xs)->upd H4 p (.ins a.zmx dx (sF4 (.int rn) (.int qn) (.ref pr) (.ref pl))) t=some (.tup xs):=fun t xs e=>by rw[Zf (Yw e q4 (fun z=>nomatch z))];exact e
 have R5:=(R3.same s4).keep (H':=upd H4 p (.ins a.zmx dx (sF4 (.int rn) (.int qn) (.ref pr) (.ref pl)))) (fun o e=>by rw[Zf np2.1];exact e) (fun o e=>by rw[Zf np2.2];exact e) kt5;have L5:=L0.keep (H':=upd H4 p (.ins a.zmx dx (sF4 (.int rn) (.int qn) (.ref pr) (.ref pl)))) (fun o e=>by rw[Zf np4.1];exact e) (fun o e=>by rw[Zf np4.2.1];exact e) (fun o e=>by rw[Zf np4.2.2];exact e) kt5;have flr:H lr=none:=Vu.free b3 ⟨_,q3⟩ fr0;have fld:H ld=none:=Vu.free b3 ⟨_,q3⟩ fd0;have nrp:pr≠pl/\dr≠pl/\pr≠lr/\dr≠lr/\pr≠ld/\dr≠ld:=by
  obtain⟨⟨x,kv,z1,z2,_⟩,_⟩:=R3;exact⟨Zh z1 hpl,Zh z2 hpl,Zh z1 fr0,Zh z2 fr0,Zh z1 fd0,Zh z2 fd0⟩
 generalize upd H4 p (.ins a.zmx dx (sF4 (.int rn) (.int qn) (.ref pr) (.ref pl)))=H5 at b5 q5 R5 L5;intro da hda;have npa:da≠p:=Ne.symm (Zh q5 hda);refine⟨_,rfl,p,a.zmx,dx,_,rfl,Zk (o:=.dT []) hda _ _ q5,T.zmy,T.zps,(by show 4<1000;decide),?_⟩;rw[pF5];have b7:Vu p H5 (upd (upd H5 da (.dT [])) p (.ins a.zmx dx (sF5 (.int rn) (.int qn) (.ref pr) (.ref pl) (.ref da)))):=(Vu.of (Zk hda)).trans .put;have q7:upd (upd H5 da (.dT [])) p (.ins a.zmx dx (sF5 (.int rn) (.int qn) (.ref pr) (.ref pl) (.ref da))) p=some (.ins a.zmx dx (sF5 (.int rn) (.int qn) (.ref pr) (.ref pl) (.ref da))):=Ze;have d7:upd (upd H5 da (.dT [])) p (.ins a.zmx dx (sF5 (.int rn) (.int qn) (.ref pr) (.ref pl) (.ref da))) da=some (.dT []):=by rw[Zf npa,Ze]
 generalize upd (upd H5 da (.dT [])) p (.ins a.zmx dx (sF5 (.int rn) (.int qn) (.ref pr) (.ref pl) (.ref da)))=H7 at b7 q7 d7;refine⟨by show 0<=sizeLine;decide,fun ls hls=>?_⟩;have nps:ls≠p:=Ne.symm (Zh q7 hls);refine⟨_,rfl,p,a.zmx,dx,_,rfl,Zk (o:=.lst []) hls _ _ q7,T.zmy,T.zqt,(by show 5<1000;decide),?_⟩;rw[pF6];have b9:Vu p H7 (upd (upd H7 ls (.lst [])) p (.ins a.zmx dx (sF6 (.int rn) (.int qn) (.ref pr) (.ref pl) (.ref da) (.ref ls)))):=(Vu.of (Zk hls)).trans .put;have q9:upd (upd H7 ls (.lst [])) p (.ins a.zmx dx (sF6 (.int rn) (.int qn) (.ref pr) (.ref pl) (.ref da) (.ref ls))) p=some (.ins a.zmx dx (sF6 (.int rn) (.int qn) (.ref pr) (.ref pl) (.ref da) (.ref ls))):=Ze;have l9:upd (upd H7 ls (.lst [])) p (.ins a.zmx dx (sF6 (.int rn) (.int qn) (.ref pr) (.ref pl) (.ref da) (.ref ls))) ls=some (.lst []):=by rw[Zf nps,Ze]
 generalize upd (upd H7 ls (.lst [])) p (.ins a.zmx dx (sF6 (.int rn) (.int qn) (.ref pr) (.ref pl) (.ref da) (.ref ls)))=H9 at b9 q9 l9;refine⟨_,rfl,p,a.zmx,dx,_,rfl,q9,T.zmy,T.znt,(by show 6<1000;decide),?_⟩;rw[pF7];have b10:Vu p H9 (upd H9 p (.ins a.zmx dx (sF7 (.int rn) (.int qn) (.ref pr) (.ref pl) (.ref da) (.ref ls) .non))):=.put;have q10:upd H9 p (.ins a.zmx dx (sF7 (.int rn) (.int qn) (.ref pr) (.ref pl) (.ref da) (.ref ls) .non)) p=some (.ins a.zmx dx (sF7 (.int rn) (.int qn) (.ref pr) (.ref pl) (.ref da) (.ref ls) .non)):=Ze;generalize upd H9 p (.ins a.zmx dx (sF7 (.int rn) (.int qn) (.ref pr) (.ref pl) (.ref da) (.ref ls) .non))=H10 at b10 q10;refine⟨by show 0<=sizeLine;decide,fun lt hlt=>?_⟩;have npt:lt≠p:=Ne.symm (Zh q10 hlt);refine⟨_,rfl,p,a.zmx,dx,_,rfl,Zk (o:=.lst []) hlt _ _ q10,T.zmy,T.zoe,(by show 7<1000;decide),?_⟩;rw[pF8];have b12:Vu p H10 (upd (upd H10 lt (.lst [])) p (.ins a.zmx dx (sF8 (.int rn) (.int qn) (.ref pr) (.ref pl) (.ref da) (.ref ls) .non (.ref lt)))):=(Vu.of (Zk hlt)).trans .put;have q12:upd (upd H10 lt (.lst [])) p (.ins a.zmx dx (sF8 (.int rn) (.int qn) (.ref pr) (.ref pl) (.ref da) (.ref ls) .non (.ref lt))) p=some (.ins a.zmx dx (sF8 (.int rn) (.int qn) (.ref pr) (.ref pl) (.ref da) (.ref ls) .non (.ref lt))):=Ze;have l12:upd (upd H10 lt (.lst [])) p (.ins a.zmx dx (sF8 (.int rn) (.int qn) (.ref pr) (.ref pl) (.ref da) (.ref ls) .non (.ref lt))) lt=some (.lst []):=by rw[Zf npt,Ze]
 generalize upd (upd H10 lt (.lst [])) p (.ins a.zmx dx (sF8 (.int rn) (.int qn) (.ref pr) (.ref pl) (.ref da) (.ref ls) .non (.ref lt)))=H12 at b12 q12 l12;have b912:=b10.trans b12;have b712:=b9.trans b912;have b512:=b7.trans b712;have bb:=b5.trans b512;have kt:∀ t xs,H5 t=some (.tup xs)->H12 t=some (.tup xs):=fun t xs e=>b512 t _ e (Yw e q5 (fun z=>nomatch z));have R12:=R5.keep (fun o e=>b512 _ o e np2.1) (fun o e=>b512 _ o e np2.2) kt;have L12:=L5.keep (fun o e=>b512 _ o e np4.1) (fun o e=>b512 _ o e np4.2.1) (fun o e=>b512 _ o e np4.2.2) kt;have d12:=b712 _ _ d7 npa;have l912:=b912 _ _ l9 nps;have fda:H da=none:=Vu.free b5 ⟨_,q5⟩ hda;have fls:H ls=none:=Vu.free (b5.trans b7) ⟨_,q7⟩ hls;have flt:H lt=none:=Vu.free (b5.trans (b7.trans (b9.trans b10))) ⟨_,q10⟩ hlt;have ex5:(∃ o,H5 pr=some o)/\(∃ o,H5 dr=some o)/\(∃ o,H5 pl=some o)/\(∃ o,H5 lr=some o)/\(∃ o,H5 ld=some o):=by
  obtain⟨⟨x,kv,z1,z2,_⟩,_⟩:=id R5;obtain⟨⟨y,w1⟩,⟨rs,w2,_⟩,⟨ks,w3,_⟩⟩:=id L5;exact⟨⟨_,z1⟩,⟨_,z2⟩,⟨_,w1⟩,⟨_,w2⟩,⟨_,w3⟩⟩
 have n5:∀ {x y:Addr},(∃ o,H5 x=some o)->H5 y=none->x≠y:=fun ⟨o,e⟩ hy=>Zh e hy;have fls5:H5 ls=none:=Vu.free b7 ⟨_,q7⟩ hls;have flt5:H5 lt=none:=Vu.free (b7.trans (b9.trans b10)) ⟨_,q10⟩ hlt;have ndas:da≠ls:=Zh d7 hls;have ndat:da≠lt:=Zh (b10 _ _ (b9 _ _ d7 npa) npa) hlt;have nst:ls≠lt:=Zh (b10 _ _ l9 nps) hlt;obtain⟨e1,e2,e3,e4,e5⟩:=ex5;have nrl:lr≠ld:=n0;refine hF ⟨p,pr,dr,pl,lr,ld,da,ls,lt⟩ H12 rfl ⟨⟨dx,.non,q12,rfl⟩,R12,L12,⟨[],d12,fun i n=>rfl,zu7 _⟩,⟨[],l912,.nil⟩,⟨[],l12,.nil⟩,?_,?_⟩ bb ?_
 ·show [p,dr,lr,ld,da,ls,lt].Nodup;simp only[zvm,zu4,zv1,or_false,not_or];exact⟨⟨Ne.symm np2.2,Ne.symm np4.2.1,Ne.symm np4.2.2,Ne.symm npa,Ne.symm nps,Ne.symm npt⟩,⟨nrp.2.2.2.1,nrp.2.2.2.2.2,n5 e2 hda,n5 e2 fls5,n5 e2 flt5⟩,⟨nrl,n5 e4 hda,n5 e4 fls5,n5 e4 flt5⟩,⟨n5 e5 hda,n5 e5 fls5,n5 e5 flt5⟩,⟨ndas,ndat⟩,nst,by simp,zwp⟩
 ·have hpr5:∃ x fs,H5 pr=some (.ins a.zm3 x fs):=by obtain⟨⟨x,kv,z1,_⟩,_⟩:=R5;exact⟨_,_,z1⟩
  have hdr5:∃ kv,H5 dr=some (.dK kv):=by obtain⟨⟨x,kv,_,z2,_⟩,_⟩:=R5;exact⟨_,z2⟩
  have hpl5:∃ x fs,H5 pl=some (.ins a.zm2 x fs):=by obtain⟨⟨y,w1⟩,_⟩:=L5;exact⟨_,_,w1⟩
  obtain⟨x1,y1,z1⟩:=hpr5;obtain⟨y2,z2⟩:=hdr5;obtain⟨x3,y3,z3⟩:=hpl5;obtain⟨_,⟨rs,w2,_⟩,⟨ks,w3,_⟩⟩:=id L5;have nm:∀ m,m∈([p,dr,lr,ld,da,ls,lt]:List Addr)↔m=p\/m=dr\/m=lr\/m=ld\/m=da\/m=ls\/m=lt:=fun m=>by simp
  refine⟨fun hm=>?_,fun hm=>?_⟩
  ·rcases(nm _).mp hm with q|q|q|q|q|q|q
   ·exact np2.1 q
   ·exact Yw z1 z2 (fun z=>nomatch z) q
   ·exact nrp.2.2.1 q
   ·exact nrp.2.2.2.2.1 q
   ·exact n5 e1 hda q
   ·exact n5 e1 fls5 q
   ·exact n5 e1 flt5 q
  ·rcases(nm _).mp hm with q|q|q|q|q|q|q
   ·exact np4.1 q
   ·exact nrp.2.1 q.symm
   ·exact Yw z3 w2 (fun z=>nomatch z) q
   ·exact Yw z3 w3 (fun z=>nomatch z) q
   ·exact n5 e3 hda q
   ·exact n5 e3 fls5 q
   ·exact n5 e3 flt5 q
 ·intro x hx hxp;simp only[SAd.fp,zu4,zv1,or_false] at hx;rcases hx with q|q|q|q|q|q|q
  ·exact absurd q hxp
  ·rw[q];exact fdr
  ·rw[q];exact flr
  ·rw[q];exact fld
  ·rw[q];exact fda
  ·rw[q];exact fls
  ·rw[q];exact flt
abbrev Wb:Stmt:=Z3 (top 58) 1
theorem Sy:Zl ["self"] ["self"] (Zi Wb):=fnS
theorem Sz(F:Fun K "check_not_over" "Season.check_not_over" Wb f fd)(T:Tx K mg a)(zmz:Zs P w K mg base a.zmx "at_hand" 2 ["self"] (Us (ca a))):FnOk P w K mg base (CX1 P w) 3 f fd ["self"] (Ll (ca a)):=by
 refine F.okX Sy ⋯ fun _ _ _ _ H _ Q E hr h=>?_;obtain⟨A',S,rfl,SA,h⟩:=h;refine⟨_,(Zd (Z4 (Zp Sa (Yo (pv 0) T.zmy zmz (hr.mono ⋯) Zj) (Zr (K:=K) rfl (pv 0) rfl) (Zu _))
  (Zd (Xo Xn rfl T.zr8 rfl (Za Zo Zc)))
  Zq)),?_⟩
 obtain⟨⟨dx,v,a1,a2⟩,b,c,_⟩:=id SA;refine⟨_,rfl,A'.p,dx,_,rfl,a1,Z6 ⋯,A',S,rfl,SA,_,rfl,A'.p,a.zmx,dx,_,_,rfl,a1,T.zmy,T.zqr,De,_,_,rfl,rfl,_,rfl,?_⟩;refine itD (fun hc=>?_) (fun hc=>?_)
 ·rw[if_pos (by unfold atV at hc;omega)] at h;exact⟨sz1,h⟩
 ·rw[if_neg (by unfold atV at hc;omega)] at h;exact h
abbrev Wg:Stmt:=Z3 (top 58) 2
theorem Rm:Zl ["self"] ["self"] (Zi Wg):=fnS
theorem Rn(F:Fun K "check_undrawn" "Season.check_undrawn" Wg f fd)(T:Tx K mg a)(znc:Zs P w K mg base a.zmx "check_not_over" 3 ["self"] (Ll (ca a))):FnOk P w K mg base (CX1 P w) 4 f fd ["self"] (Ln (ca a)):=by
 refine F.okX Rm ⋯ fun _ _ _ _ H _ Q E hr h=>?_;obtain⟨A',S,rfl,SA,h⟩:=h;refine⟨_,(Zb (Z1 (Yo (pv 0) T.zmy znc (hr.mono ⋯) Zj))
 (Zd (Z4 (Zp U6 (Zr (K:=K) rfl (pv 0) rfl) Y3 (Zu _))
  (Zd (Xo Xn rfl T.zsk rfl (Za Zo Zc)))
  Zq))),?_⟩
 obtain⟨⟨dx,v,a1,a2⟩,b,c,_⟩:=id SA;refine⟨_,rfl,A'.p,dx,_,rfl,a1,Z6 ⋯,A',S,rfl,SA,?_⟩;refine it2 h (fun _ z=>z) fun hn h=>?_;refine⟨_,rfl,A'.p,a.zmx,dx,_,_,rfl,a1,T.zmy,T.znt,Wu,rfl,_,rfl,?_⟩;cases hc:S.cur with
 | none =>
   rw[hc] at a2 h;have a2:v=.non:=a2;rw[a2];exact iteF h
 | some s =>
   rw[hc] at a2 h;obtain⟨q,rfl,_⟩:=a2;exact iteT ⟨sz1,h⟩
abbrev Wy:Stmt:=Z3 (top 58) 3
theorem Qw:Zl ["self","at"] ["self","at"] (Zi Wy):=fnS
theorem Qx(F:Fun K "check_round" "Season.check_round" Wy f fd)(T:Tx K mg a):FnOk P w K mg base (CX1 P w) 1 f fd ["self","at"] (Cj (ca a)):=by
 refine F.okX Qw ⋯ fun _ _ _ _ H _ Q E hr h=>?_;obtain⟨A',S,i,rfl,SA,si,h⟩:=h;refine⟨_,(Zd (Z4 (PW.pt (Vk (Zp zb9 (pv 1) Zg (Zu _)) (Wn (Zp Sa (pv 1) (Zr (K:=K) rfl (pv 0) rfl) (Zu _)))))
  (Zd (Xo Xn rfl T.zr0 rfl (Za (Vo (Z5 (W9 (pv 1)) (Z5 (X8 ⋯) Vn)) ⋯) Zc)))
  Zq)),?_⟩
 obtain⟨⟨dx,v,a1,a2⟩,b,c,_⟩:=id SA;refine⟨_,rfl,_,_,rfl,rfl,_,rfl,?_⟩;refine itD (fun hc=>?_) (fun hc=>?_)
 ·rw[if_pos (.inl hc)] at h;refine iteT ?_;exact⟨_,rfl,.inl ⟨_,rfl,si⟩,fun z=>⟨sz1,h⟩⟩
 refine⟨_,rfl,_,rfl,A'.p,a.zmx,dx,_,_,rfl,a1,T.zmy,T.zqr,De,_,_,rfl,rfl,_,rfl,?_⟩;refine itD (fun hc2=>?_) (fun hc2=>?_)
 ·rw[if_pos (.inr hc2)] at h;exact⟨_,rfl,.inl ⟨_,rfl,si⟩,fun z=>⟨sz1,h⟩⟩
 ·rw[if_neg (fun z=>z.elim hc hc2)] at h;exact h
abbrev W2:Stmt:=Z3 (top 58) 4
theorem Ph:Zl ["self"] ["self"] (Zi W2):=fnS
theorem Pj(F:Fun K "check_room" "Season.check_room" W2 f fd)(T:Tx K mg a):FnOk P w K mg base (CX1 P w) 1 f fd ["self"] (Ck (ca a)):=by
 refine F.okX Ph ⋯ fun _ _ _ _ H _ Q E hr h=>?_;obtain⟨A',S,rfl,SA,h⟩:=h;refine⟨_,(Zd (Z4 (Zp ze7 (Zn (cL K) (by rfl) T.zm9 PySem.boot_len (Za (Zr (K:=K) rfl (pv 0) rfl) Zc)) (Wo rfl T.zpg) (Zu _))
  (Zd (Xo Xn rfl T.zru rfl (Za (Vo (Z5 (W9 (Wo rfl T.zpg)) (Z5 (X8 ⋯) Vn)) ⋯) Zc)))
  Zq)),?_⟩
 obtain⟨⟨dx,v,a1,a2⟩,b,c,d,f,⟨us,g1,g2⟩,nd,np⟩:=id SA;refine⟨_,rfl,A'.p,a.zmx,dx,_,_,rfl,a1,T.zmy,T.zoe,Sh,A'.lt,_,rfl,.inl (SqL.of g1),_,_,rfl,rfl,_,rfl,?_⟩;rw[g2.length];refine itD (fun hc=>?_) (fun hc=>?_)
 ·rw[if_pos ⋯] at h;exact⟨.inl ⟨_,rfl,Yj ⋯⟩,fun z=>⟨sz1,h⟩⟩
 ·rw[if_neg ⋯] at h;exact h
abbrev S4:Stmt:=Z3 (top 58) 5
theorem Gp:Zl ["self","word","number","at"] ["self","word","number","at"] (Zi S4):=fnS
theorem Gq(F:Fun K "note" "Season.note" S4 f fd)(T:Tx K mg a):FnOk P w K mg base (CX1 P w) 1 f fd ["self","word","number","at"] (Cm (ca a)):=by
 refine F.okX Gp ⋯ fun _ _ _ _ H _ Q E hr h=>?_;obtain⟨A',S,w',n,i,rfl,SA,hz,h⟩:=h;refine⟨_,(Zd (Yu (Zr (K:=K) rfl (pv 0) rfl) (Yd (Za (Yd (Za (pv 1) (Za (pv 2) (Za (pv 3) Zc)))) (Za (Zr (K:=K) rfl (pv 0) rfl) Zc))))),?_⟩;obtain⟨⟨dx,v,a1,a2⟩,b,c,⟨kvs,d1,d2⟩,⟨vs,f1,f2⟩,⟨us,g1,g2⟩,nd,np⟩:=id SA;refine⟨_,rfl,A'.p,a.zmx,dx,_,_,rfl,a1,T.zmy,T.zoe,Sh,A'.lt,us,rfl,g1,?_⟩;refine⟨_,rfl,_,rfl,_,rfl,sz3,fun t1 ht1=>?_⟩;refine al (upd _ t1 _) ht1 rfl fun H1 TH1 s1=>?_;have q1:H1 t1=some (.tup (Ql (w',n,i))):=TH1;refine⟨_,rfl,A'.p,a.zmx,dx,_,_,rfl,s1 _ _ a1,T.zmy,T.znt,Wu,sz2,fun t2 ht2=>?_⟩;refine al (upd _ t2 _) ht2 rfl fun H2 q2 s2=>?_;have q12:=s2 _ _ q1;have s12:=s1.trans s2;refine⟨us,s12 _ _ g1,by have:=g2.length;have:=Ur;omega,?_⟩;have fr:FrS A' H (upd H2 A'.lt (.lst (us++[.ref t2]))):=fun b o e hb=>by
  rw[Zf (fun z=>hb (by rw[z];simp[SAd.fp]))];exact s12 _ _ e
 have kt:=SA.tups fr;have kp:∀ x o,x≠A'.lt->H x=some o->upd H2 A'.lt (.lst (us++[.ref t2])) x=some o:=fun x o hx e=>by rw[Zf hx];exact s12 _ _ e
 have kt2:∀ t xs,H2 t=some (.tup xs)->upd H2 A'.lt (.lst (us++[.ref t2])) t=some (.tup xs):=fun t xs e=>by
  rw[Zf (Yw e (s12 _ _ g1) (fun z=>nomatch z))];exact e
 have ko:∀ x o,x∉A'.fp->H x=some o->upd H2 A'.lt (.lst (us++[.ref t2])) x=some o:=fun x o hx e=>fr x o e hx;have nd':=nd;simp only[SAd.fp,zvm,zu4,zv1,or_false,not_or] at nd';obtain⟨⟨n1,n2,n3,n4,n5,n6⟩,⟨n7,n8,n9,n10,n11⟩,⟨n12,n13,n14,n15⟩,⟨n16,n17,n18⟩,⟨n19,n20⟩,n21,_⟩:=nd';have npt:A'.pr≠A'.lt/\A'.pl≠A'.lt:=⟨fun z=>np.1 (by rw[z];simp[SAd.fp]),fun z=>np.2 (by rw[z];simp[SAd.fp])⟩;refine h _ ⟨⟨dx,v,kp _ _ n6 a1,a2.keep ko kt⟩,b.keep (fun o e=>kp _ o npt.1 e) (fun o e=>kp _ o n11 e) kt,c.keep (fun o e=>kp _ o npt.2 e) (fun o e=>kp _ o n15 e) (fun o e=>kp _ o n18 e) kt,⟨kvs,kp _ _ n20 d1,d2⟩,⟨vs,kp _ _ n21 f1,f2.keep ko kt⟩,⟨us++[.ref t2],Ze,?_⟩,nd,np⟩ fr;exact(g2.keep ko kt).snoc (kt2 _ _ q2) (kt2 _ _ q12) (a2.keep ko kt)
abbrev Wh:Stmt:=Z3 (top 58) 6
theorem Ro:Zl ["self"] ["self"] (Zi Wh):=fnS
theorem Rp(F:Fun K "sheet_at_hand" "Season.sheet_at_hand" Wh f fd)(T:Tx K mg a):FnOk P w K mg base (CX1 P w) 1 f fd ["self"] (O8 (ca a)):=by
 refine F.okX Ro ⋯ fun _ _ _ _ H _ Q E hr h=>?_;obtain⟨A',S,rfl,SA,h1,h2⟩:=h;refine⟨_,(Zb (Z4 (Zp Ou (Zr (K:=K) rfl (pv 0) rfl) Y3 (Zu _))
  (Zd (Xo Xn rfl T.zrx rfl (Za Zo Zc)))
  Zq)
 (Zd (Zm (Zr (K:=K) rfl (pv 0) rfl)))),?_⟩
 obtain⟨⟨dx,v,a1,a2⟩,b,c,_⟩:=id SA;refine⟨_,rfl,A'.p,a.zmx,dx,_,_,rfl,a1,T.zmy,T.znt,Wu,rfl,_,rfl,?_⟩;cases hc:S.cur with
 | none =>
   rw[hc] at a2;have a2:v=.non:=a2;rw[a2];exact iteT ⟨sz1,h1 hc⟩
 | some s =>
   rw[hc] at a2;obtain⟨q,rfl,hs⟩:=a2;refine iteF ?_;exact⟨_,rfl,A'.p,a.zmx,dx,_,_,rfl,a1,T.zmy,T.znt,Wu,h2 s q hc hs⟩
abbrev V0:Stmt:=Z3 (top 58) 7
theorem Np:Zl ["self","at"] ["self","at"] (Zi V0):=fnS
theorem Nq(F:Fun K "sheet_of" "Season.sheet_of" V0 f fd)(T:Tx K mg a)(zng:Zs P w K mg base a.zmx "check_round" 1 ["self","at"] (Cj (ca a)))(zm5:Zs P w K mg base a.zm2 "over" 1 ["self"] (Le a.zm2))(zmz:Zs P w K mg base a.zmx "at_hand" 2 ["self"] (Us (ca a)))(zne:Zs P w K mg base a.zmx "sheet_at_hand" 1 ["self"] (O8 (ca a))):FnOk P w K mg base (CX1 P w) 3 f fd ["self","at"] (Uc (ca a)):=by
 refine F.okX Np ⋯ fun _ _ _ _ H _ Q E hr h=>?_;obtain⟨A',S,i,rfl,SA,si,hol,h⟩:=h;refine⟨_,(Zb (Z1 (Yl (pv 0) T.zmy zng (hr.mono ⋯) Zj (Za (pv 1) Zc)))
 (Zb (Z4 (Zp ze6 (pv 1) (Yo (Zr (K:=K) rfl (pv 0) rfl) T.znv zm5 (hr.mono ⋯) Zj) (Zu _))
  (Zd (Zm (pI (iL K) (Zr (K:=K) rfl (pv 0) rfl) (Zt Qz (pv 1) Zg))))
  Zq)
 (Zb (Z4 (Zp Sa (pv 1) (Yo (pv 0) T.zmy zmz (hr.mono ⋯) Zj) (Zu _))
  (Zd (Xo Xn rfl T.zrx rfl (Za (Vo (Z5 (X8 ⋯) (Z5 (W9 (pv 1)) (Z5 (X8 ⋯) Vn))) ⋯) Zc)))
  Zq)
 (Zd (Zm (Yo (pv 0) T.zmy zne (hr.mono ⋯) Zj)))))),?_⟩
 obtain⟨⟨dx,v,a1,a2⟩,b,c,d,⟨vs,f1,f2⟩,_⟩:=id SA;obtain⟨⟨dxl,hpl⟩,_⟩:=id c;refine⟨_,rfl,A'.p,dx,_,rfl,a1,Z6 ⋯,_,rfl,A',S,i,rfl,SA,si,?_⟩;refine it2 h (fun _ z=>z) fun hn h=>?_;refine⟨_,rfl,_,rfl,A'.p,a.zmx,dx,_,_,rfl,a1,T.zmy,T.zov,Tc,A'.pl,dxl,_,rfl,hpl,Ie ⋯ ⋯,A'.pl,A'.lr,A'.ld,S.led,rfl,c,_,_,rfl,rfl,_,rfl,?_⟩;refine itD (fun hc=>?_) (fun hc=>?_)
 ·have hk:(i-1).toNat<S.old.length:=by omega
  have hs:Y4 S i=some (S.old[(i-1).toNat]'hk):=by unfold Y4;rw[if_pos hc];exact zuy hk
  obtain⟨q,e1,e2⟩:=f2.getR (zuy hk);exact⟨_,rfl,A'.p,a.zmx,dx,_,_,rfl,a1,T.zmy,T.zqt,Df,_,rfl,_,_,rfl,rfl,A'.ls,_,_,_,rfl,rfl,SqL.of f1,(show atI vs (i-1)=some (.ref q) by rw[show i-1=(((i-1).toNat:Nat):Int) by omega];exact Z7 e1),h.2 _ q hs e2⟩
 ·refine Z0 ?_;refine⟨_,rfl,_,rfl,A'.p,dx,_,rfl,a1,Z6 ⋯,A',S,rfl,SA,_,_,rfl,rfl,_,rfl,?_⟩;refine itD (fun hc2=>?_) (fun hc2=>?_)
  ·exact⟨_,rfl,.inl ⟨_,rfl,si⟩,fun z=>⟨sz1,h.1 (by unfold Y4;rw[if_neg hc,if_pos (by unfold atV at hc2;omega)])⟩⟩
  ·have hs:Y4 S i=S.cur:=by unfold Y4;rw[if_neg hc,if_neg (by unfold atV at hc2;omega)]
   exact⟨_,rfl,A'.p,dx,_,rfl,a1,Z6 ⋯,A',S,rfl,SA,fun hz=>h.1 (by rw[hs];exact hz),fun s q hz hq=>h.2 s q (by rw[hs];exact hz) hq⟩
abbrev Vg:Stmt:=Z3 (top 58) 8
theorem X6:Zl ["self","listed","people","at","out"] ["self","listed"] (Zi Vg):=fnS
theorem Oi(F:Fun K "takers_of" "Season.takers_of" Vg f fd)(T:Tx K mg a)(zoj:Zs P w K mg base a.zm3 "numbers" 1 ["self"] (Ip (ca a)))(zo9:Zs P w K mg base a.zm3 "person" 3 ["self","number"] (Aa (ca a)))(zmz:Zs P w K mg base a.zmx "at_hand" 2 ["self"] (Us (ca a)))(zrs:Z2 P w K mg base "takers" 4 ["people","match","out","ledger","rest"] (B1 K a.zm2)):FnOk P w K mg base (CX1 P w) 5 f fd ["self","listed"] (O9 (ca a)):=by
 refine F.okX X6 ⋯ fun _ _ _ _ H _ Q E hr h=>?_;obtain⟨A',S,l,ts,ms,rfl,SA,hl,tl,hml,hpl,hsm,h⟩:=h;have hu:=W0 hr;refine⟨_,(Zb (pS 2 X6.nd (Vv rfl (cT ["self"] [0]) (Yc (K:=K) rfl (Yo (Zr (K:=K) rfl (pv 0) rfl) T.zni zoj (hr.mono ⋯) Zj)) (fun _ _ _ _ _=>U7) (fun _ _ _ _ _=>(Yl (Zr (K:=K) rfl (pv 1) rfl) T.zni zo9 (hr.mono ⋯) zck (Za (pv 0) Zc)))))
 (Zb (pS 3 X6.nd (Yo (pv 0) T.zmy zmz (hr.mono ⋯) Zj))
 (Zb (pS 4 X6.nd (Vv rfl (cT ["at","self"] [3,0]) (Yc (K:=K) rfl (Yo (Zr (K:=K) rfl (pv 0) rfl) T.zni zoj (hr.mono ⋯) Zj)) (fun _ _ _ _ _=>Se (Rr (M6 hu (Yd (Za (pv 1) (Za (pv 0) Zc))) (Zr (K:=K) rfl (pv 2) rfl)))) (fun _ _ _ _ _=>(pv 0))))
 (Zd (Zm (Vv rfl (cT ["people","out","self"] [2,4,0]) (Yc (K:=K) rfl (pv 1)) (fun _ _ _ _ _=>U7) (fun _ _ _ _ _=>(zcl zrs (hr.mono ⋯) zck rfl (Za (pv 1) (Za (pv 0) (Za (pv 2) (Za (Zr (K:=K) rfl (pv 3) rfl) (Za (Zr (K:=K) rfl (pv 3) rfl) Zc))))))))))))),?_⟩
 obtain⟨⟨dx,v,a1,a2⟩,b,c,⟨kvs,d1,d2⟩,_⟩:=id SA;obtain⟨⟨dxr,kvr,hpr,hdr,en⟩,ndr⟩:=id b;refine⟨_,rfl,A'.p,a.zmx,dx,_,_,rfl,a1,T.zmy,T.zof,Vl,A'.pr,dxr,_,rfl,hpr,Xj.no ⋯,A'.pr,A'.dr,S.ppl,rfl,b,fun ln hln=>?_⟩;refine al (upd _ ln _) hln rfl fun H1 q1 s1=>?_;have hnl:(S.ppl.map fun x=>V.int x.1).length=S.ppl.length:=by rw[zuw]
 refine⟨ln,rfl,⟨_,SqL.of q1⟩,Wl (K:=K) (xs:=S.ppl.map fun x=>V.int x.1) (fun i ys H'=>Same H H'/\Same H1 H'/\Z8 H' ys ((S.ppl.take i).map pV)/\ys.length=i) ⟨s1,Same.refl _,.nil,rfl⟩ (fun i ys H' _ ⟨_,z,_⟩=>SqL.of (z _ _ q1)) (szN ⋯) (fun i ys H' ⟨_,_,_,e⟩=>by omega) ?_ ?_⟩
 ·rintro i x ys H' hx ⟨sh,s1',tl',hyl⟩;have hi:i<S.ppl.length:=by have:=(zux.mp hx).1;omega
  have hpi:S.ppl[i]?=some (S.ppl[i]'hi):=zuy hi;have etk:S.ppl.take (i+1)=S.ppl.take i++[S.ppl[i]'hi]:=zvd hi;have hmem:S.ppl[i]'hi∈S.ppl:=zvs hi;have ex:x=.int (S.ppl[i]'hi).1:=by rw[zu1,hpi] at hx;exact(Option.some.inj hx).symm
  generalize (S.ppl[i]'hi)=pp at hpi etk hmem ex;subst ex;unfold tYes;dsimp only;rw[if_pos rfl];refine⟨_,rfl,A'.p,a.zmx,dx,_,_,rfl,sh _ _ a1,T.zmy,T.zof,Vl,A'.pr,dxr,_,rfl,sh _ _ hpr,Xj.no ⋯,_,rfl,A'.pr,A'.dr,S.ppl,pp.1,rfl,b.same sh,hsm pp hmem,fun z=>absurd (zu6.mpr ⟨pp,hmem,rfl⟩) z,fun g c' t H2 hm ht s2 _=>?_⟩;have epp:=zhz b.nd hm hmem rfl;rw[epp] at ht;refine⟨sh.trans s2,s1'.trans s2,?_,by rw[zuz,hyl];rfl⟩;rw[etk,zu5];exact(tl'.same s2).snoc ht
 rintro ys H2 ⟨sh2,s12,tl2,hyl⟩ lp hlp;rw[hnl,zvf] at tl2;refine al (upd _ lp _) hlp rfl fun H3 q3 SH3=>?_;have s3:=sh2.trans SH3;have tl3:=tl2.same SH3;have SA3:=SA.same s3;refine⟨_,rfl,A'.p,dx,_,rfl,s3 _ _ a1,Z6 ⋯,A',S,rfl,SA3,?_⟩;refine⟨_,rfl,A'.p,a.zmx,dx,_,_,rfl,s3 _ _ a1,T.zmy,T.zof,Vl,A'.pr,dxr,_,rfl,s3 _ _ hpr,Xj.no ⋯,A'.pr,A'.dr,S.ppl,rfl,b.same s3,fun ln4 hln4=>?_⟩;refine al (upd _ ln4 _) hln4 rfl fun H4 q4 s4=>?_;refine⟨ln4,rfl,⟨_,SqL.of q4⟩,Wl (K:=K) (xs:=S.ppl.map fun x=>V.int x.1) (fun i ys H'=>Same H4 H'/\ys=((S.ppl.take i).filter (pIn S.out (atV S))).map fun x=>V.int x.1) ⟨Same.refl _,rfl⟩ (fun i ys H' _ ⟨z,_⟩=>SqL.of (z _ _ q4)) (szN ⋯) (fun i ys H' ⟨_,e⟩=>by rw[e,zuw];exact zvb (zvr _ _) (zwj _ _)) ?_ ?_⟩
 ·rintro i x zs H' hx ⟨s4',rfl⟩;have hi:i<S.ppl.length:=by have:=(zux.mp hx).1;omega
  have hpi:S.ppl[i]?=some (S.ppl[i]'hi):=zuy hi;have etk:S.ppl.take (i+1)=S.ppl.take i++[S.ppl[i]'hi]:=zvd hi;have ex:x=.int (S.ppl[i]'hi).1:=by rw[zu1,hpi] at hx;exact(Option.some.inj hx).symm
  generalize (S.ppl[i]'hi)=pp at hpi etk ex;subst ex;refine⟨_,rfl,_,rfl,sz2,fun t ht=>?_⟩;refine al (upd _ t _) ht rfl fun H5 TH5 s5=>?_;have q5:H5 t=some (.tup (([inl (atV S),inl pp.1]:List Key).map kV)):=TH5;have sh5:=s3.trans (s4.trans (s4'.trans s5));refine⟨_,rfl,A'.p,a.zmx,dx,_,_,rfl,sh5 _ _ a1,T.zmy,T.zps,P6,A'.da,_,rfl,DGet.t (k:=[inl (atV S),inl pp.1]) (sh5 _ _ d1) q5,_,rfl,?_⟩;rw[d2.isSome];have e2:∀ ws,((S.ppl.take (i+1)).filter (pIn S.out (atV S))).map (fun x=>V.int x.1)=((S.ppl.take i).filter (pIn S.out (atV S))).map (fun x=>V.int x.1)++ws↔ws=if pIn S.out (atV S) pp then [V.int pp.1] else []:=fun ws=>by
   rw[etk,zv9,zu5,List.append_cancel_left_eq];cases q:pIn S.out (atV S) pp<;>simp[q,eq_comm]
  refine itB (fun hb=>?_) (fun hb=>?_)
  ·exact⟨_,rfl,s4'.trans s5,((e2 [V.int pp.1]).mpr (by rw[show pIn S.out (atV S) pp=true from hb];rfl)).symm⟩
  ·refine⟨s4'.trans s5,?_⟩;have:=(e2 []).mpr (by rw[show pIn S.out (atV S) pp=false from hb];rfl);rw[zw4] at this;exact this.symm
 rintro zs H5 ⟨s45,rfl⟩ lo hlo;rw[hnl,zvf];have s6:=s45.trans (Zk (o:=.lst (outV S)) hlo);have q6:upd H5 lo (.lst (outV S)) lo=some (.lst (outV S)):=Ze;show W4 4 (V.ref lo) _ (upd H5 lo (.lst (outV S))) _;generalize upd H5 lo (.lst (outV S))=H6 at s6 q6;have s36:=s4.trans s6;have s06:=s3.trans s36;have hl6:=s06 _ _ hl;have hts:ts.length=ms.length:=by rw[tl.length,zuw]
 refine⟨_,rfl,l,rfl,⟨_,SqL.of hl6⟩,Wl (K:=K) (xs:=ts) (fun i ys H'=>Same H6 H'/\∃ ls,ys=ls.map V.ref/\ILs H' ls ((mayS S ms).take i)/\ls.length=i/\∀ x∈ls,H x=none) ⟨Same.refl _,[],rfl,.nil,rfl,by simp⟩ (fun i ys H' _ ⟨z,_⟩=>SqL.of (z _ _ hl6)) (szN ⋯) (fun i ys H' ⟨_,ls,e1,_,e2,_⟩=>by rw[e1,zuw];omega) ?_ ?_⟩
 ·rintro i x ys' H' hx ⟨s6',ls,rfl,il,hll,hfr⟩;obtain⟨tm,m,rfl,hm,htm⟩:=Ig tl hx;have s0:=s06.trans s6';unfold tYes;dsimp only;rw[if_pos rfl];refine⟨_,rfl,_,rfl,_,rfl,_,rfl,A'.p,a.zmx,dx,_,_,rfl,s0 _ _ a1,T.zmy,T.zov,Tc,_,rfl,A'.p,a.zmx,dx,_,_,rfl,s0 _ _ a1,T.zmy,T.zsa,zhy,lp,lo,tm,A'.pl,A'.lr,A'.ld,S.led,ys,S.ppl,outV S,m.1,m.2.1,m.2.2,S.rest,rfl,(s36.trans s6') _ _ q3,tl3.same (s36.trans s6'),s6' _ _ q6,zgj S,s0 _ _ htm,c.same s0,by omega,fun l2 H2 hl2 s2 f2=>?_⟩;rw[zj7] at hl2;refine⟨s6'.trans s2,ls++[l2],by rw[zu5];rfl,?_,by rw[zuz,hll];rfl,fun y hy=>?_⟩
  ·have e:(mayS S ms).take (i+1)=(mayS S ms).take i++[Fj S m]:=by
    unfold mayS;rw[zwg,zu1,hm];rfl
   rw[e];exact(il.same s2).snoc hl2
  ·rcases zu8.mp hy with z|z
   ·exact hfr y z
   ·rw[zu0.mp z];exact s0.free f2
 ·rintro ys' H' ⟨s6',ls,rfl,il,hll,hfr⟩ l' hl';have hmy:(mayS S ms).length=ms.length:=by unfold mayS;rw[zuw]
  rw[hts,<- hmy,zvf] at il;have s0:=s06.trans s6';exact h l' ls _ Ze (il.same (Zk hl')) (s0.trans (Zk hl')) (s0.free hl') hfr
abbrev T4:Stmt:=Z3 (top 58) 9
theorem Jk:Zl ["self","number","grade","club"] ["self","number","grade","club"] (Zi T4):=fnS
theorem Jl(F:Fun K "enrol" "Season.enrol" T4 f fd)(T:Tx K mg a)(znd:Zs P w K mg base a.zmx "check_undrawn" 4 ["self"] (Ln (ca a)))(znm:Zs P w K mg base a.zm3 "check_new" 2 ["self","number","grade","club"] (O5 (ca a)))(zm7:Zs P w K mg base a.zmx "check_room" 1 ["self"] (Ck (ca a)))(znp:Zs P w K mg base a.zmx "note" 1 ["self","word","number","at"] (Cm (ca a)))(zmz:Zs P w K mg base a.zmx "at_hand" 2 ["self"] (Us (ca a)))(zqh:Zs P w K mg base a.zm3 "add" 3 ["self","number","grade","club"] (zgh (ca a))):FnOk P w K mg base (CX1 P w) 5 f fd ["self","number","grade","club"] (zc4 (ca a)):=by
 refine F.okX Jk ⋯ fun _ _ _ _ H _ Q E hr h=>?_;obtain⟨A',S,n,g,c0,rfl,SA,sm,hz,hz2,h⟩:=h;refine⟨_,(Zb (Z1 (Yo (pv 0) T.zmy znd (hr.mono ⋯) Zj))
 (Zb (Z1 (Yl (Zr (K:=K) rfl (pv 0) rfl) T.zni znm (hr.mono ⋯) Zj (Za (pv 1) (Za (pv 2) (Za (pv 3) Zc)))))
 (Zb (Z1 (Yo (pv 0) T.zmy zm7 (hr.mono ⋯) Zj))
 (Zb (Z1 (Yl (pv 0) T.zmy znp (hr.mono ⋯) Zj (Za Zo (Za (pv 1) (Za (Yo (pv 0) T.zmy zmz (hr.mono ⋯) Zj) Zc)))))
 (Zd (Z1 (Yl (Zr (K:=K) rfl (pv 0) rfl) T.zni zqh (hr.mono ⋯) Zj (Za (pv 1) (Za (pv 2) (Za (pv 3) Zc)))))))))),?_⟩
 obtain⟨⟨dx,v,a1,a2⟩,b,c,_⟩:=id SA;obtain⟨⟨dxr,kvr,hpr,hdr,en⟩,ndr⟩:=id b;refine⟨_,rfl,A'.p,dx,_,rfl,a1,Z6 ⋯,A',S,rfl,SA,?_⟩;refine it2 h (fun _ z=>z) fun h1 h=>it2 h (fun _ z=>z) fun h2 h=>?_;refine⟨_,rfl,A'.p,a.zmx,dx,_,_,rfl,a1,T.zmy,T.zof,Vl,A'.pr,dxr,_,rfl,hpr,Xj.no ⋯,_,rfl,_,rfl,_,rfl,A'.pr,A'.dr,S.ppl,n,g,c0,rfl,b,sm,?_⟩;refine it2 h (fun _ z=>z) fun h3 h=>it2 h (fun _ z=>z) fun h4 h=>it2 h (fun _ z=>z) fun h5 h=>?_;refine⟨_,rfl,A'.p,dx,_,rfl,a1,Z6 ⋯,A',S,rfl,SA,?_⟩;refine it2 h (fun _ z=>z) fun h6 h=>?_;refine⟨_,rfl,A'.p,dx,_,rfl,a1,Z6 ⋯,_,rfl,_,rfl,A'.p,dx,_,rfl,a1,Z6 ⋯,A',S,rfl,SA,A',S,"enrol",n,atV S,rfl,SA,hz,fun H1 SA1 f1=>?_⟩;obtain⟨⟨dx1,v1,a11,a12⟩,b1,c1,_⟩:=id SA1;obtain⟨⟨dxr1,kvr1,hpr1,hdr1,en1⟩,ndr1⟩:=id b1;refine⟨_,rfl,A'.p,a.zmx,dx1,_,_,rfl,a11,T.zmy,T.zof,Vl,A'.pr,dxr1,_,rfl,hpr1,Xj.no ⋯,_,rfl,_,rfl,_,rfl,A'.pr,A'.dr,S.ppl,n,g,c0,rfl,b1,sm,hz2,?_⟩;rw[if_neg h3,if_neg h4,if_neg h5];intro H2 R2 k2;obtain⟨SA2,f2⟩:=SA1.setRos R2 k2;exact h H2 SA2 (f1.trans f2)
abbrev Uh:Stmt:=Z3 (top 58) 10
theorem Sk:Zl ["self","matches","listed"] ["self","matches"] (Zi Uh):=fnS
theorem Mq(F:Fun K "draw_up" "Season.draw_up" Uh f fd)(T:Tx K mg a)(znd:Zs P w K mg base a.zmx "check_undrawn" 4 ["self"] (Ln (ca a)))(zrf:Z2 P w K mg base "checked" 3 ["matches"] (Iu K (ca a)))(zm7:Zs P w K mg base a.zmx "check_room" 1 ["self"] (Ck (ca a)))(znp:Zs P w K mg base a.zmx "note" 1 ["self","word","number","at"] (Cm (ca a)))(zmz:Zs P w K mg base a.zmx "at_hand" 2 ["self"] (Us (ca a)))(zp0:Z2 P w K mg base "drawn_sheet" 4 ["listed","lists"] (zc1 (ca a)))(znn:Zs P w K mg base a.zmx "takers_of" 5 ["self","listed"] (O9 (ca a)))(zoh:Zs P w K mg base a.zm1 "goes" 1 ["self"] (Iq (ca a))):FnOk P w K mg base (CX1 P w) 6 f fd ["self","matches"] (Hu K (ca a)):=by
 refine F.okX Sk ⋯ fun _ _ _ _ H _ Q E hr h=>?_;obtain⟨A',S,b,ts,ms,rfl,SA,hs,tl,sm,hml,hz,po,h⟩:=h;refine⟨_,(Zb (Z1 (Yo (pv 0) T.zmy znd (hr.mono ⋯) Zj))
 (Zb (pS 2 Sk.nd (pF zrf hr (Za (pv 1) Zc)))
 (Zb (Z1 (Yo (pv 0) T.zmy zm7 (hr.mono ⋯) Zj))
 (Zb (Z1 (Yl (pv 0) T.zmy znp (hr.mono ⋯) Zj (Za Zo (Za (Zn (cL K) (by rfl) T.zm9 PySem.boot_len (Za (pv 2) Zc)) (Za (Yo (pv 0) T.zmy zmz (hr.mono ⋯) Zj) Zc)))))
 (Zb (Y9 (K:=K) rfl (pv 0) (pF zp0 hr (Za (pv 2) (Za (Yl (pv 0) T.zmy znn (hr.mono ⋯) Zj (Za (pv 2) Zc)) Zc))) rfl)
 (Zd (Zm (Yo (Zr (K:=K) rfl (pv 0) rfl) T.zm6 zoh (hr.mono ⋯) Zj)))))))),?_⟩
 obtain⟨⟨dx,v,a1,a2⟩,br,cl,_⟩:=id SA;have hts:ts.length=ms.length:=by rw[tl.length,zuw]
 refine⟨_,rfl,A'.p,dx,_,rfl,a1,Z6 ⋯,A',S,rfl,SA,?_⟩;refine it2 h (fun _ z=>z) fun h1 h=>it2 h (fun _ z=>z) fun h2 h=>?_;refine⟨_,rfl,b,ts,ms,rfl,hs,tl,sm,hml,h.1,h.2.1,h.2.2.1,fun g1 g2 g3 l1 hl1=>?_⟩;have h4:=h.2.2.2 g1 g2 g3;refine al (upd _ l1 _) hl1 rfl fun H1 q1 s1=>?_;have SA1:=SA.same s1;have a11:=s1 _ _ a1;refine⟨_,rfl,A'.p,dx,_,rfl,a11,Z6 ⋯,A',S,rfl,SA1,?_⟩;refine Bs (fun z=>h4.1 z H1 s1) (fun hroom=>?_);refine⟨_,rfl,A'.p,dx,_,rfl,a11,Z6 ⋯,_,rfl,l1,_,rfl,.inl (SqL.of q1),_,rfl,A'.p,dx,_,rfl,a11,Z6 ⋯,A',S,rfl,SA1,A',S,"draw up",(ts.length:Nat),atV S,rfl,SA1,hz,fun H2 SA2 f2=>?_⟩;rw[hts] at SA2;have ok1:l1∉A'.fp:=SA.newOk l1 hl1;have q12:=f2 _ _ q1 ok1;have tl2:=(tl.same s1).mono (SA1.tups f2);obtain⟨⟨dx2,v2,a21,a22⟩,br2,_⟩:=id SA2;refine⟨_,rfl,_,rfl,A'.p,dx2,_,rfl,a21,Z6 ⋯,_,rfl,A',_,l1,ts,ms,rfl,SA2,q12,tl2,by omega,zvb po.2 ⋯,po.small,fun l2 ls H3 h3 il3 s3 f3 fl3=>?_⟩;have SA3:=SA2.same s3;have mo:Qk (mayS S ms) (S.ppl.map (·.1)):=po.may br2.nd g1;refine⟨(·∉A'.fp),l1,l2,ts,ls,ms,mayS S ms,_,rfl,s3 _ _ q12,tl2.same s3,h3,il3,ok1,SA2.newOk l2 f3,fun x hx=>SA2.newOk x (fl3 x hx),SA3.newOk,mo,fun q gv H4 ShA FP SP s4 fq=>?_⟩;have SA4:=SA3.same s4;obtain⟨⟨dx4,v4,a41,a42⟩,_⟩:=id SA4;refine⟨_,rfl,A'.p,a.zmx,dx4,_,rfl,a41,T.zmy,T.znt,(by show 8<1000;decide),?_⟩;obtain⟨SA5,f5,Sh5⟩:=SA4.newSheet a41 ShA;generalize upd H4 A'.p (.ins a.zmx dx4 (putF "sheet" (.ref q) (seaF A' S.len S.rest v4)))=H5 at SA5 f5 Sh5;obtain⟨⟨dx5,v5,a51,a52⟩,_⟩:=id SA5;obtain⟨q',rfl,Sq⟩:=a52;obtain⟨dxq,m1,m2,m3,m4,hq'⟩:=ShAt.ins Sq;refine⟨_,rfl,A'.p,a.zmx,dx5,_,_,rfl,a51,T.zmy,T.znt,Wu,q',dxq,_,rfl,hq',Vs ⋯ ⋯ ⋯ ⋯,(·∉A'.fp),q',_,rfl,Sq,fun l H6 hl s6 fl=>?_⟩;have fr5:FrS A' H H5:=(FrS.of A' s1).trans (f2.trans ((FrS.of A' (s3.trans s4)).trans f5));exact h4.2 ⋯ l gv H6 hl ⟨H5,SA5,s6,fr5,fl⟩ FP SP
abbrev S5:Stmt:=Z3 (top 58) 11
theorem Gs:Zl ["self","at","number"] ["self","at","number"] (Zi S5):=fnS
theorem Gu(F:Fun K "away" "Season.away" S5 f fd)(T:Tx K mg a)(zng:Zs P w K mg base a.zmx "check_round" 1 ["self","at"] (Cj (ca a)))(zm5:Zs P w K mg base a.zm2 "over" 1 ["self"] (Le a.zm2))(zm4:Zs P w K mg base a.zm3 "check_known" 1 ["self","number"] (U9 (ca a)))(zm7:Zs P w K mg base a.zmx "check_room" 1 ["self"] (Ck (ca a)))(znp:Zs P w K mg base a.zmx "note" 1 ["self","word","number","at"] (Cm (ca a)))(zmz:Zs P w K mg base a.zmx "at_hand" 2 ["self"] (Us (ca a)))(zoy:Zs P w K mg base a.zmx "step_in" 6 ["self","number"] (Hv (ca a))):FnOk P w K mg base (CX1 P w) 7 f fd ["self","at","number"] (zaa (ca a)):=by
 refine F.okX Gs ⋯ fun _ _ _ _ H _ Q E hr h=>?_;obtain⟨A',S,i,n,rfl,SA,si,sn,hz,hoz,po,hcur,h⟩:=h;have hu:=W0 hr;refine⟨_,(Zb (Z1 (Yl (pv 0) T.zmy zng (hr.mono ⋯) Zj (Za (pv 1) Zc)))
 (Zb (Z4 (Zp ze6 (pv 1) (Yo (Zr (K:=K) rfl (pv 0) rfl) T.znv zm5 (hr.mono ⋯) Zj) (Zu _))
  (Zd (Xo Xn rfl T.zsc rfl (Za (Vo (Z5 (X8 ⋯) (Z5 (W9 (pv 1)) (Z5 (X8 ⋯) Vn))) ⋯) Zc)))
  Zq)
 (Zb (Z1 (Yl (Zr (K:=K) rfl (pv 0) rfl) T.zni zm4 (hr.mono ⋯) Zj (Za (pv 2) Zc)))
 (Zb (Z4 (Rr (M6 hu (Yd (Za (pv 1) (Za (pv 2) Zc))) (Zr (K:=K) rfl (pv 0) rfl)))
  (Zd (Xo Xn rfl T.zr1 rfl (Za (Vo (Z5 (X8 ⋯) (Z5 (W9 (pv 2)) (Z5 (X8 ⋯) (Z5 (W9 (pv 1)) (Z5 (X8 ⋯) Vn))))) ⋯) Zc)))
  Zq)
 (Zb (Z1 (Yo (pv 0) T.zmy zm7 (hr.mono ⋯) Zj))
 (Zb (Z1 (Yl (pv 0) T.zmy znp (hr.mono ⋯) Zj (Za Zo (Za (pv 2) (Za (pv 1) Zc)))))
 (Zb (Yq hu (Zr (K:=K) rfl (pv 0) rfl) (Yd (Za (pv 1) (Za (pv 2) Zc))) Wc rfl)
 (Zb (Z4 (PW.pt (Vk (Zp Sa (pv 1) (Yo (pv 0) T.zmy zmz (hr.mono ⋯) Zj) (Zu _)) (Wn (Zp Ou (Zr (K:=K) rfl (pv 0) rfl) Y3 (Zu _)))))
  (Zd (Zm (Z9 Zc)))
  Zq)
 (Zd (Zm (Yl (pv 0) T.zmy zoy (hr.mono ⋯) Zj (Za (pv 2) Zc)))))))))))),?_⟩
 show let y1:TS:=_;let y2:TS:=Zz _ y1;let y3:TS:=Zz _ y2;let y4:TS:=Zz _ y3;let y5:TS:=Zz _ y4;let y6:TS:=Zz _ y5;let y7:TS:=Zz _ y6;let y8:TS:=Zz _ y7;Zz _ y8 _ _ _;intro y1 y2 y3 y4 y5 y6 y7 y8;obtain⟨⟨dx,v,a1,a2⟩,br,cl,⟨kvs,d1,d2⟩,_⟩:=id SA;obtain⟨⟨dxl,hpl⟩,_⟩:=id cl;obtain⟨⟨dxr,kvr,hpr,hdr,en⟩,ndr⟩:=id br;refine⟨_,rfl,A'.p,dx,_,rfl,a1,Z6 ⋯,_,rfl,A',S,i,rfl,SA,si,?_⟩;refine it2 h (fun _ z=>z) fun h1 h=>?_;refine⟨_,rfl,_,rfl,A'.p,a.zmx,dx,_,_,rfl,a1,T.zmy,T.zov,Tc,A'.pl,dxl,_,rfl,hpl,Ie ⋯ ⋯,A'.pl,A'.lr,A'.ld,S.led,rfl,cl,_,_,rfl,rfl,_,rfl,?_⟩;refine itD (fun hc=>?_) (fun hc=>?_)
 ·rw[if_pos hc] at h;exact⟨_,rfl,.inl ⟨_,rfl,si⟩,fun z=>⟨sz1,h⟩⟩
 rw[if_neg hc] at h;refine Z0 ?_;refine⟨_,rfl,A'.p,a.zmx,dx,_,_,rfl,a1,T.zmy,T.zof,Vl,A'.pr,dxr,_,rfl,hpr,Xj.no ⋯,_,rfl,A'.pr,A'.dr,S.ppl,n,rfl,br,sn,?_⟩;refine it2 h (fun hk h=>?_) (fun _ z=>z);refine⟨_,rfl,_,rfl,sz2,fun t ht=>?_⟩;refine al (upd _ t _) ht rfl fun H1 TH1 s1=>?_;have q1:H1 t=some (.tup (([inl i,inl n]:List Key).map kV)):=TH1;have SA1:=SA.same s1;have a11:=s1 _ _ a1;refine⟨_,rfl,A'.p,a.zmx,dx,_,_,rfl,a11,T.zmy,T.zps,P6,A'.da,_,rfl,DGet.t (k:=[inl i,inl n]) (s1 _ _ d1) q1,_,rfl,?_⟩;rw[d2.isSome];refine itD (fun hm=>?_) (fun hm=>?_)
 ·rw[if_pos hm] at h;exact⟨_,rfl,.inl ⟨_,rfl,sn⟩,_,rfl,.inl ⟨_,rfl,si⟩,fun z=>⟨sz1,h H1 s1⟩⟩
 rw[if_neg hm] at h;refine Z0 ?_;refine⟨_,rfl,A'.p,dx,_,rfl,a11,Z6 ⋯,A',S,rfl,SA1,?_⟩;refine it2 h (fun _ z=>z H1 s1) fun h6 h=>?_;refine⟨_,rfl,A'.p,dx,_,rfl,a11,Z6 ⋯,_,rfl,_,rfl,A',S,"away",n,i,rfl,SA1,hz,fun H2 SA2 f2=>?_⟩;obtain⟨⟨dx2,v2,a21,a22⟩,br2,cl2,⟨kvs2,d21,d22⟩,_⟩:=id SA2;refine⟨_,rfl,A'.p,a.zmx,dx2,_,_,rfl,a21,T.zmy,T.zps,P6,_,rfl,_,rfl,sz2,fun t2 ht2=>?_⟩;refine al (upd _ t2 _) ht2 rfl fun H3 TH3 s3=>?_;have q3:H3 t2=some (.tup (([inl i,inl n]:List Key).map kV)):=TH3;have SA3:=SA2.same s3;refine⟨A'.da,_,rfl,DPut.t (k:=[inl i,inl n]) (s3 _ _ d21) q3 (by have:=d22.2;have h9:kvs2.length<=S.out.length:=this;have:=Ur;omega),?_⟩;obtain⟨SA4,f4⟩:=SA3.setOut (out:=S.out++[(i,n)]) Ze (d22.put i n) (fun b o e hb=>by rw[Zf hb];exact e);generalize upd H3 A'.da (.dT (putK kvs2 [inl i,inl n] (.bl true)))=H4 at SA4 f4;have SA4:Zx (ca a) H4 A' (Xk S i n):=SA4;have fr4:FrS A' H H4:=(FrS.of A' s1).trans (f2.trans ((FrS.of A' s3).trans f4));obtain⟨⟨dx4,v4,a41,a42⟩,br4,_⟩:=id SA4;have empty:(S.cur=none\/atV S<i)->∀ l,H4 l=none->Q (.ref l) (upd H4 l (.lst [])):=fun hz l hl=>h.1 hz l _ Ze ⟨H4,SA4,Zk hl,fr4,hl⟩;refine⟨_,rfl,_,rfl,A'.p,dx4,_,rfl,a41,Z6 ⋯,A',_,rfl,SA4,_,_,rfl,rfl,_,rfl,?_⟩;refine itD (fun hgt=>?_) (fun hle=>?_)
 ·refine iteT ?_;exact⟨by show 0<=sizeLine;decide,fun l hl=>empty (.inr hgt) l hl⟩
 have hat:i=atV S:=by
  have hle:¬ (atV S<i):=hle;unfold atV at hle ⊢;omega
 refine⟨_,rfl,A'.p,a.zmx,dx4,_,_,rfl,a41,T.zmy,T.znt,Wu,rfl,_,rfl,?_⟩;cases hc4:S.cur with
 | none =>
   have e4:v4=.non:=by
    have:ShO a.zm1 (·∉A'.fp) H4 v4 S.cur:=a42;rw[hc4] at this;exact this
   rw[e4];refine iteT ?_;exact⟨by show 0<=sizeLine;decide,fun l hl=>empty (.inl hc4) l hl⟩
 | some s =>
   have e4:∃ q,v4=.ref q:=by
    have:ShO a.zm1 (·∉A'.fp) H4 v4 S.cur:=a42;rw[hc4] at this;obtain⟨q,e,_⟩:=this;exact⟨q,e⟩
   obtain⟨q4,rfl⟩:=e4;refine iteF (Z0 ?_);obtain⟨hm20,FP,emay,hgz⟩:=hcur s hc4;have po4:Qm (Xk S i n):=po;have hgl:s.gv.length<=100:=by rw[FP.len,emay];unfold mayS;rw[zuw];omega
   refine⟨_,rfl,A'.p,dx4,_,rfl,a41,Z6 ⋯,_,rfl,A',Xk S i n,n,s,(Xk S i n).ppl.map (·.1),rfl,SA4,hc4,po4,hm20,FP.one,hgl,hgz,po4.may br4.nd hm20,fun hp l H5 hl tk=>?_,fun p hp=>?_⟩
   ·obtain⟨H0,t1,t2,t3,t4⟩:=tk;exact h.2.1 s hat hc4 hp l H5 hl ⟨H0,t1,t2,fr4.trans t3,t4⟩
   ·have hgp:=To hp;refine⟨hgp,fun j hj=>FP.inj j p n hj hgp,?_,fun l us st e w' H5 hl tl CR tk=>?_⟩
    ·rw[hat,Vt,<- emay];exact Vr FP hgp
    ·obtain⟨H0,t1,t2,t3,t4⟩:=tk;exact h.2.2 s p hat hc4 hp l us st e w' H5 hl tl CR ⟨H0,t1,t2,fr4.trans t3,t4⟩
abbrev Ui:Stmt:=Z3 (top 58) 12
theorem V1:Zl ["self","number","lists","fallen"] ["self","number"] (Zi Ui):=fnS
theorem Mr(F:Fun K "step_in" "Season.step_in" Ui f fd)(T:Tx K mg a)(znn:Zs P w K mg base a.zmx "takers_of" 5 ["self","listed"] (O9 (ca a)))(znw:Zs P w K mg base a.zm1 "matches" 1 ["self"] (Pa (ca a)))(zno:Zs P w K mg base a.zm1 "where" 2 ["self","number"] (P5 (ca a)))(zpn:Zs P w K mg base a.zm1 "barred" 3 ["self","lists"] (Ae (ca a)))(zon:Zs P w K mg base a.zm1 "fallen_out" 3 ["self","number","lists"] (Af (ca a)))(zn4:Zs P w K mg base a.zm1 "chains" 1 ["self"] (O7 (ca a))):FnOk P w K mg base (CX1 P w) 6 f fd ["self","number"] (Hv (ca a)):=by
 refine F.okX V1 ⋯ fun _ _ _ _ H _ Q E hr h=>?_;obtain⟨A',S,n,s,nu,rfl,SA,hc,po,hml,ho,hgl,hgz,mo,h1,h2⟩:=h;refine⟨_,(Zb (pS 2 V1.nd (Yl (pv 0) T.zmy znn (hr.mono ⋯) Zj (Za (Yo (Zr (K:=K) rfl (pv 0) rfl) T.zm6 znw (hr.mono ⋯) Zj) Zc)))
 (Zb (Z4 (Zp Ou (Yl (Zr (K:=K) rfl (pv 0) rfl) T.zm6 zno (hr.mono ⋯) Zj (Za (pv 1) Zc)) Y3 (Zu _))
  (Zb (Y9 (K:=K) rfl (pv 0) (Yl (Zr (K:=K) rfl (pv 0) rfl) T.zm6 zpn (hr.mono ⋯) Zj (Za (pv 2) Zc)) rfl)
  (Zd (Zm (Z9 Zc))))
  Zq)
 (Zb (Y9 (K:=K) rfl (pv 0) (Yl (Zr (K:=K) rfl (pv 0) rfl) T.zm6 zon (hr.mono ⋯) Zj (Za (pv 1) (Za (pv 2) Zc))) rfl)
 (Zb (pS 3 V1.nd (Yo (Zr (K:=K) rfl (pv 0) rfl) T.zm6 zn4 (hr.mono ⋯) Zj))
 (Zd (Zm (pI (iU K) (pI (iL K) (pv 3) (N4 Ru Zg)) Zg))))))),?_⟩
 obtain⟨⟨dx,v,a1,a2⟩,br,cl,_⟩:=id SA;rw[hc] at a2;obtain⟨q,rfl,Sq⟩:=a2;obtain⟨dxq,m1,m2,m3,m4,hq⟩:=ShAt.ins Sq;refine⟨_,rfl,A'.p,dx,_,rfl,a1,Z6 ⋯,_,rfl,A'.p,a.zmx,dx,_,_,rfl,a1,T.zmy,T.znt,Wu,q,dxq,_,rfl,hq,Vs ⋯ ⋯ ⋯ ⋯,(·∉A'.fp),q,s,rfl,Sq,fun l1 ts H1 hl1 tl s1 f1=>?_⟩;have SA1:=SA.same s1;refine⟨A',S,l1,ts,s.ms,rfl,SA1,hl1,tl,by omega,zvb po.2 ⋯,po.small,fun l2 ls H2 h3 il3 s2 f3 fl3=>?_⟩;have s12:=s1.trans s2;have SA2:=SA1.same s2;have Sq2:=Sq.same s12;refine⟨_,rfl,A'.p,a.zmx,dx,_,_,rfl,s12 _ _ a1,T.zmy,T.znt,Wu,q,dxq,_,rfl,s12 _ _ hq,Vs ⋯ ⋯ ⋯ ⋯,_,rfl,(·∉A'.fp),q,s,n,rfl,Sq2,ho,hgl,fun H3 s3=>?_⟩;have s13:=s12.trans s3;have SA3:=SA2.same s3;have Sq3:=Sq2.same s3;have il4:=il3.same s3;refine⟨rfl,_,rfl,?_⟩;cases hp:Xt s.gv n with
 | none =>
   refine iteT ?_;refine⟨_,rfl,A'.p,a.zmx,dx,_,_,rfl,s13 _ _ a1,T.zmy,T.znt,Wu,q,dxq,_,rfl,s13 _ _ hq,Vs ⋯ ⋯ ⋯ ⋯,_,rfl,(·∉A'.fp),q,l2,ls,mayS S s.ms,s,rfl,Sq3,s3 _ _ h3,il4,SA1.newOk l2 f3,fun x hx=>SA1.newOk x (fl3 x hx),SA3.newOk,fun q' H4 ShA s4 fq=>?_⟩;have SA4:=SA3.same s4;obtain⟨⟨dx4,v4,a41,a42⟩,_⟩:=id SA4;refine⟨_,rfl,A'.p,a.zmx,dx4,_,rfl,a41,T.zmy,T.znt,(by show 8<1000;decide),?_⟩;obtain⟨SA5,f5,Sh5⟩:=SA4.newSheet a41 ShA;generalize upd H4 A'.p (.ins a.zmx dx4 (putF "sheet" (.ref q') (seaF A' S.len S.rest v4)))=H5 at SA5 f5 Sh5;have fr5:FrS A' H H5:=(FrS.of A' (s13.trans s4)).trans f5;refine⟨by show 0<=sizeLine;decide,fun l hl=>?_⟩;exact h1 hp l _ Ze ⟨H5,SA5,Zk hl,fr5,hl⟩
 | some p =>
   refine iteF (Z0 ?_);obtain⟨hgp,hun,FP,h3'⟩:=h2 p hp;refine⟨_,rfl,A'.p,a.zmx,dx,_,_,rfl,s13 _ _ a1,T.zmy,T.znt,Wu,q,dxq,_,rfl,s13 _ _ hq,Vs ⋯ ⋯ ⋯ ⋯,_,rfl,_,rfl,(·∉A'.fp),q,l2,ls,mayS S s.ms,nu,s,n,p,rfl,Sq3,s3 _ _ h3,il4,SA1.newOk l2 f3,fun x hx=>SA1.newOk x (fl3 x hx),SA3.newOk,mo,ho,hgp,hun,FP,by omega,fun q' st e w' H4 ShA CR s4 fq=>?_⟩;have SA4:=SA3.same s4;obtain⟨⟨dx4,v4,a41,a42⟩,_⟩:=id SA4;refine⟨_,rfl,A'.p,a.zmx,dx4,_,rfl,a41,T.zmy,T.znt,(by show 8<1000;decide),?_⟩;obtain⟨SA5,f5,Sh5⟩:=SA4.newSheet a41 ShA;generalize upd H4 A'.p (.ins a.zmx dx4 (putF "sheet" (.ref q') (seaF A' S.len S.rest v4)))=H5 at SA5 f5 Sh5;have fr5:FrS A' H H5:=(FrS.of A' (s13.trans s4)).trans f5;obtain⟨⟨dx5,v5,a51,a52⟩,_⟩:=id SA5;obtain⟨q5,rfl,Sq5⟩:=a52;obtain⟨dxq5,m51,m52,m53,m54,hq5⟩:=ShAt.ins Sq5;refine⟨_,rfl,A'.p,a.zmx,dx5,_,_,rfl,a51,T.zmy,T.znt,Wu,q5,dxq5,_,rfl,hq5,Vs ⋯ ⋯ ⋯ ⋯,(·∉A'.fp),q5,_,rfl,Sq5,by show (s.gaps++[(n,st)]).length<=1000;rw[zuz];show s.gaps.length+1<=1000;omega,fun l us H6 hl gl s6 fl=>?_⟩;obtain⟨vs',t,l',us',rfl,ht,hl',tl',ok',_⟩:=X2.unsnoc gl;refine⟨_,rfl,_,rfl,l,_,_,_,rfl,rfl,SqL.of hl,atI_last,t,_,_,_,rfl,rfl,SqT.of ht,rfl,?_⟩;exact h3' l' us' st e w' H6 hl' tl' CR ⟨H5,SA5,s6,fr5,ok'⟩
abbrev T5:Stmt:=Z3 (top 58) 13
theorem Qp:Zl ["self","sheet"] ["self"] (Zi T5):=fnS
theorem Jm(F:Fun K "close" "Season.close" T5 f fd)(T:Tx K mg a)(znc:Zs P w K mg base a.zmx "check_not_over" 3 ["self"] (Ll (ca a)))(zne:Zs P w K mg base a.zmx "sheet_at_hand" 1 ["self"] (O8 (ca a)))(zpm:Zs P w K mg base a.zm2 "write" 1 ["self","rows"] (Ac a.zm2))(zqi:Zs P w K mg base a.zm1 "rows" 1 ["self"] (Ai (ca a)))(zm5:Zs P w K mg base a.zm2 "over" 1 ["self"] (Le a.zm2)):FnOk P w K mg base (CX1 P w) 4 f fd ["self"] (zc5 (ca a)):=by
 refine F.okX Qp ⋯ fun _ _ _ _ H _ Q E hr h=>?_;obtain⟨A',S,rfl,SA,ht,hl,hol,hcur,h⟩:=h;refine⟨_,(Zb (Z1 (Yo (pv 0) T.zmy znc (hr.mono ⋯) Zj))
 (Zb (pS 1 Qp.nd (Yo (pv 0) T.zmy zne (hr.mono ⋯) Zj))
 (Zb (Z1 (Yl (Zr (K:=K) rfl (pv 0) rfl) T.znv zpm (hr.mono ⋯) Zj (Za (Yo (pv 1) T.zm6 zqi (hr.mono ⋯) Zj) Zc)))
 (Zb (Yu (Zr (K:=K) rfl (pv 0) rfl) (pv 1))
 (Zb (Y9 (K:=K) rfl (pv 0) Y3 rfl)
 (Zb (Y9 (K:=K) rfl (pv 0) (Z9 Zc) rfl)
 (Zd (Zm (Yo (Zr (K:=K) rfl (pv 0) rfl) T.znv zm5 (hr.mono ⋯) Zj))))))))),?_⟩
 obtain⟨⟨dx,v,a1,a2⟩,br,cl,_⟩:=id SA;obtain⟨⟨dxl,hpl⟩,_⟩:=id cl;refine⟨_,rfl,A'.p,dx,_,rfl,a1,Z6 ⋯,A',S,rfl,SA,?_⟩;refine it2 h (fun _ z=>z) fun h1 h=>?_;refine⟨_,rfl,A'.p,dx,_,rfl,a1,Z6 ⋯,A',S,rfl,SA,h.1,fun s q hc Sq=>?_⟩;obtain⟨ho,hgl,hml⟩:=hcur s hc;obtain⟨dxq,m1,m2,m3,m4,hq⟩:=ShAt.ins Sq;refine⟨_,rfl,A'.p,a.zmx,dx,_,_,rfl,a1,T.zmy,T.zov,Tc,A'.pl,dxl,_,rfl,hpl,Ie ⋯ ⋯,_,rfl,q,dxq,_,rfl,hq,Vs ⋯ ⋯ ⋯ ⋯,(·∉A'.fp),q,s,rfl,Sq,ho,hgl,hml,fun l1 ts H1 hl1 tl s1 f1=>?_⟩;have SA1:=SA.same s1;have ok1:l1∉A'.fp:=SA.newOk l1 f1;refine⟨A'.pl,A'.lr,A'.ld,S.led,l1,ts,Ye s,rfl,SA1.led,hl1,fun z=>ok1 (by rw[z];simp[SAd.fp]),tl,by rw[Aj hgl];omega,hl,fun H2 L2' k2=>?_⟩;obtain⟨SA2,f2⟩:=SA1.setLed L2' k2;obtain⟨⟨dx2,v2,a21,a22⟩,br2,cl2,d2,⟨vs,f21,f22⟩,_⟩:=id SA2;have Sq2:=(Sq.same s1).keep (fun x o hx e=>f2 x o e hx) (SA1.tups f2);refine⟨_,rfl,A'.p,a.zmx,dx2,_,_,rfl,a21,T.zmy,T.zqt,Df,A'.ls,vs,rfl,f21,_,rfl,vs,f21,by have:=f22.length;have h9:vs.length=S.old.length:=this;have:=Ur;omega,?_⟩;have k3:∀ b o,H2 b=some o->b≠A'.ls->upd H2 A'.ls (.lst (vs++[.ref q])) b=some o:=fun b o e hb=>by rw[Zf hb];exact e
 have kt3:∀ t xs,H2 t=some (.tup xs)->upd H2 A'.ls (.lst (vs++[.ref q])) t=some (.tup xs):=fun t xs e=>k3 t _ e (Yw e f21 (fun z=>nomatch z));have ko3:∀ x o,x∉A'.fp->H2 x=some o->upd H2 A'.ls (.lst (vs++[.ref q])) x=some o:=fun x o hx e=>k3 x o e fun z=>hx (by rw[z];simp[SAd.fp]);obtain⟨SA3,f3⟩:=SA2.setOld (old:=S.old++[s]) Ze ((f22.keep ko3 kt3).snoc (Sq2.keep ko3 kt3)) k3;generalize upd H2 A'.ls (.lst (vs++[.ref q]))=H3 at SA3 f3;obtain⟨⟨dx3,v3,a31,a32⟩,_⟩:=id SA3;refine⟨_,rfl,A'.p,a.zmx,dx3,_,rfl,a31,T.zmy,T.znt,(by show 8<1000;decide),?_⟩;obtain⟨SA4,f4⟩:=SA3.setCur (H':=upd H3 A'.p (.ins a.zmx dx3 (putF "sheet" .non (seaF A' S.len S.rest v3)))) (cur:=none) (v:=.non) ⟨dx3,by rw[Ze];exact congrArg (fun x=>some (HO.ins a.zmx dx3 x)) Na⟩ rfl (fun b o e hb=>by rw[Zf hb];exact e);generalize upd H3 A'.p (.ins a.zmx dx3 (putF "sheet" .non (seaF A' S.len S.rest v3)))=H4 at SA4 f4;obtain⟨⟨dx4,v4,a41,a42⟩,_⟩:=id SA4;refine⟨by show 0<=sizeLine;decide,fun x hx=>?_⟩;have npx:A'.p≠x:=Zh a41 hx;refine⟨_,rfl,A'.p,a.zmx,dx4,_,rfl,(by rw[Zf npx];exact a41),T.zmy,T.zoe,(by show 8<1000;decide),?_⟩;obtain⟨SA5,f5⟩:=SA4.freshStd hx a41 a42 rfl;have fr4:FrS A' H H4:=(FrS.of A' s1).trans (f2.trans (f3.trans f4));have fx:H x=none:=fr4.free SA4 hx;generalize upd (upd H4 x (.lst [])) A'.p (.ins a.zmx dx4 (putF "standing" (.ref x) (seaF A' S.len S.rest v4)))=H5 at SA5 f5;have SA5:Zx (ca a) H5 { A' with lt:=x } (Cn S s):=SA5;obtain⟨⟨dx5,v5,a51,a52⟩,br5,cl5,_⟩:=id SA5;obtain⟨⟨dxl5,hpl5⟩,_⟩:=id cl5;refine⟨_,rfl,A'.p,a.zmx,dx5,_,_,rfl,a51,T.zmy,T.zov,Tc,A'.pl,dxl5,_,rfl,hpl5,Ie ⋯ ⋯,A'.pl,A'.lr,A'.ld,S.led++[Ye s],rfl,cl5,?_⟩;have hfin:=h.2 s x H5 hc SA5 (fr4.trans f5) fx;have e:(((S.led++[Ye s]).length:Nat):Int)=atV S:=by rw[zuz];rfl
 rw[e];exact hfin
abbrev Vh:Stmt:=Z3 (top 58) 14
theorem W3:Zl ["self","last","deed"] ["self"] (Zi Vh):=fnS
theorem Oj(F:Fun K "take_back" "Season.take_back" Vh f fd)(T:Tx K mg a)(zo8:Zs P w K mg base a.zm3 "strike" 1 ["self","number"] (B8 (ca a))):FnOk P w K mg base (CX1 P w) 2 f fd ["self"] (Iw (ca a)):=by
 refine F.okX W3 ⋯ fun _ _ _ _ H _ Q E hr h=>?_;obtain⟨A',S,rfl,SA,h1,h2⟩:=h;have hu:=W0 hr;refine⟨_,(Zb (Z4 (Xm (Ex (K:=K) rfl (Zr (K:=K) rfl (pv 0) rfl) (fun _=>rfl)))
  (Zd (Xo Xn rfl T.zqy rfl (Za Zo Zc)))
  Zq)
 (Zb (pS 1 W3.nd (zfn PySem.F.plainAttrs_list PySem.F.slot_list_pop PySem.F.type_list_pop zjo (Zr (K:=K) rfl (pv 0) rfl)))
 (Zb (pS 2 W3.nd (pI (iU K) (pv 1) Zg))
 (Zb (Y9 (K:=K) rfl (pv 0) (pI (iU K) (pv 1) Zg) rfl)
 (Zb (Z4 (Zp Wd (pI (iU K) (pv 2) Zg) Zo (Zu _))
  (Zd (Z1 (Yl (Zr (K:=K) rfl (pv 0) rfl) T.zni zo8 (hr.mono ⋯) Zj (Za (pI (iU K) (pv 2) Zg) Zc))))
  Zq)
 (Zb (Z4 (Zp Wd (pI (iU K) (pv 2) Zg) Zo (Zu _))
  (Zd (Z1 (zgg hu (Zr (K:=K) rfl (pv 0) rfl) (Yd (Za (pI (iU K) (pv 2) Zg) (Za (pI (iU K) (pv 2) Zg) Zc))) ⟨rfl,rfl,rfl,rfl⟩)))
  Zq)
 (Zd (Zm (pv 2))))))))),?_⟩
 show let y1:TS:=_;let y2:TS:=Zz _ y1;let y3:TS:=Zz _ y2;let y4:TS:=Zz _ y3;let y5:TS:=Zz _ y4;let y6:TS:=Zz _ y5;Zz _ y6 _ _ _;intro y1 y2 y3 y4 y5 y6;obtain⟨⟨dx,v,a1,a2⟩,br,cl,d0,f0,⟨us,g1,g2⟩,_⟩:=id SA;refine⟨_,rfl,A'.p,a.zmx,dx,_,_,rfl,a1,T.zmy,T.zoe,Sh,_,.inl ⟨_,SqL.of g1,rfl⟩,?_⟩;have hul:=g2.length;rcases List.eq_nil_or_concat S.std with hn|⟨std',⟨d,s⟩,he⟩
 ·rw[hn] at hul;have hu0:us=[]:=zwc.mp hul;rw[hu0];exact iteT ⟨sz1,h1 hn⟩
 have he:S.std=std'++[(d,s)]:=by rw[he,List.concat_eq_append]
 rw[he] at g2;obtain⟨vs',t,u,v',rfl,ht,hu',hs,g3⟩:=Ux.unsnoc g2;have hne:(vs'++[V.ref t]).isEmpty=false:=by cases vs'<;>rfl
 rw[hne];refine iteF (Z0 ?_);obtain⟨ppl,out,hbk,hfin⟩:=h2 std' d s he;refine⟨_,rfl,A'.p,a.zmx,dx,_,_,rfl,a1,T.zmy,T.zoe,Sh,.inl ⟨rfl,_,SqL.of g1⟩,A'.lt,_,V.ref t,rfl,rfl,g1,by simp,?_⟩;rw[List.dropLast_concat];have k1:∀ b o,H b=some o->b≠A'.lt->upd H A'.lt (.lst vs') b=some o:=fun b o e hb=>by rw[Zf hb];exact e
 have kt1:∀ t xs,H t=some (.tup xs)->upd H A'.lt (.lst vs') t=some (.tup xs):=fun t xs e=>k1 t _ e (Yw e g1 (fun z=>nomatch z));have ko1:∀ x o,x∉A'.fp->H x=some o->upd H A'.lt (.lst vs') x=some o:=fun x o hx e=>k1 x o e fun z=>hx (by rw[z];simp[SAd.fp]);obtain⟨SA1,f1⟩:=SA.setStd (std:=std') Ze (g3.keep ko1 kt1) k1;have ht1:=kt1 _ _ ht;have hu1:=kt1 _ _ hu';have hs1:=hs.keep ko1 kt1;generalize upd H A'.lt (.lst vs')=H1 at SA1 f1 ht1 hu1 hs1;refine⟨_,rfl,t,_,_,_,rfl,rfl,SqT.of ht1,rfl,?_⟩;obtain⟨⟨dx1,v1,a11,a12⟩,_⟩:=id SA1;refine⟨_,rfl,t,_,_,_,rfl,rfl,SqT.of ht1,rfl,_,rfl,A'.p,a.zmx,dx1,_,rfl,a11,T.zmy,T.znt,(by show 8<1000;decide),?_⟩;have k2:∀ b o,H1 b=some o->b≠A'.p->upd H1 A'.p (.ins a.zmx dx1 (putF "sheet" v' (seaF A' S.len S.rest v1))) b=some o:=fun b o e hb=>by rw[Zf hb];exact e
 have kt2:∀ t xs,H1 t=some (.tup xs)->upd H1 A'.p (.ins a.zmx dx1 (putF "sheet" v' (seaF A' S.len S.rest v1))) t=some (.tup xs):=fun t xs e=>k2 t _ e (Yw e a11 (fun z=>nomatch z));obtain⟨SA2,f2⟩:=SA1.setCur (cur:=s) (v:=v') ⟨dx1,by rw[Ze];exact congrArg (fun x=>some (HO.ins a.zmx dx1 x)) Na⟩ (hs1.keep (fun x o hx e=>k2 x o e fun z=>hx (by rw[z];simp[SAd.fp])) kt2) k2;have hu2:=kt2 _ _ hu1;generalize upd H1 A'.p (.ins a.zmx dx1 (putF "sheet" v' (seaF A' S.len S.rest v1)))=H2 at SA2 f2 hu2;have fr2:=f1.trans f2;have d0:atI (Ql d) 0=some (.str d.1):=rfl;have d1:atI (Ql d) 1=some (.int d.2.1):=rfl;have d2:atI (Ql d) 2=some (.int d.2.2):=rfl;have es:∀ w:Str,decide (V.str d.1=V.str w)=decide (d.1=w):=fun w=>by
  by_cases z:d.1=w
  ·rw[zu3 z,zu3 (congrArg V.str z)]
  ·rw[zva z,zva (fun q=>z (V.str.inj q))]
 walk_at "if";refine Yp ?_;refine⟨_,rfl,u,_,_,_,rfl,rfl,SqT.of hu2,d0,rfl,_,rfl,?_⟩;rw[es];obtain⟨⟨dx2,v2,a21,a22⟩,br2,cl2,⟨kvs2,e21,e22⟩,_⟩:=id SA2;have n1:¬ (("enrol":Str)="away"):=by decide +kernel
 have n2:¬ (("draw up":Str)="away"):=by decide +kernel
 have n3:¬ (("draw up":Str)="enrol"):=by decide +kernel
 have n4:¬ (("away":Str)="enrol"):=by decide +kernel
 rcases hbk with ⟨hd,⟨g,c0,hp⟩,ho⟩|⟨hd,hp,ho,hno⟩|⟨hd,hp,ho⟩
 ·rw[zu3 hd];refine iteT ?_;obtain⟨⟨dxr,kvr,hpr,hdr,en⟩,ndr⟩:=id br2;refine⟨_,rfl,A'.p,a.zmx,dx2,_,_,rfl,a21,T.zmy,T.zof,Vl,A'.pr,dxr,_,rfl,hpr,Xj.no ⋯,_,rfl,u,_,_,_,rfl,rfl,SqT.of hu2,d1,A'.pr,A'.dr,ppl,d.2.1,g,c0,rfl,(show Xj a.zm3 H2 A'.pr A'.dr (ppl++[(d.2.1,g,c0)]) by have:Xj a.zm3 H2 A'.pr A'.dr S.ppl:=br2;rw[hp] at this;exact this),fun H3 R3 k3=>?_⟩;obtain⟨SA3,f3⟩:=SA2.setRos R3 k3;have hu3:=SA2.tups f3 _ _ hu2;refine⟨_,rfl,u,_,_,_,rfl,rfl,SqT.of hu3,d0,rfl,_,rfl,?_⟩;rw[es,zva (by rw[hd];exact n1)];refine iteF (Z0 ⟨_,rfl,?_⟩);refine hfin u H3 hu3 ?_ (fr2.trans f3);rw[ho];exact SA3
 ·rw[zva (by rw[hd];exact n4)];refine iteF (Z0 ?_);refine⟨_,rfl,u,_,_,_,rfl,rfl,SqT.of hu2,d0,rfl,_,rfl,?_⟩;rw[es,zu3 hd];refine iteT ?_;refine⟨_,rfl,A'.p,a.zmx,dx2,_,_,rfl,a21,T.zmy,T.zps,P6,A'.da,rfl,.inr ⟨kvs2,.inl e21⟩,_,rfl,u,_,_,_,rfl,rfl,SqT.of hu2,d2,_,rfl,u,_,_,_,rfl,rfl,SqT.of hu2,d1,sz2,fun tk htk=>?_⟩;refine al (upd _ tk _) htk rfl fun H3 TH3 s3=>?_;have q3:H3 tk=some (.tup (([inl d.2.2,inl d.2.1]:List Key).map kV)):=TH3;have SA3:=SA2.same s3;have e22:Q9 kvs2 S.out:=e22;rw[ho] at e22;have hv:∃ vv,valV kvs2 [inl d.2.2,inl d.2.1]=some vv:=zv8.mp (by rw[e22.1,zu3 (by simp)]);obtain⟨vv,hv⟩:=hv;refine⟨kvs2,[inl d.2.2,inl d.2.1],tk,vv,s3 _ _ e21,rfl,q3,hv,?_⟩;obtain⟨SA4,f4⟩:=SA3.setOut (out:=out) Ze (e22.drop hno) (fun b o e hb=>by rw[Zf hb];exact e);have hu4:=SA3.tups f4 _ _ (s3 _ _ hu2);refine⟨_,rfl,hfin u _ hu4 ?_ (fr2.trans ((FrS.of A' s3).trans f4))⟩;rw[hp];exact SA4
 ·rw[zva (by rw[hd];exact n3)];refine iteF (Z0 ?_);refine⟨_,rfl,u,_,_,_,rfl,rfl,SqT.of hu2,d0,rfl,_,rfl,?_⟩;rw[es,zva (by rw[hd];exact n2)];refine iteF (Z0 ⟨_,rfl,hfin u H2 hu2 ?_ fr2⟩);rw[hp,ho];exact SA2
abbrev Uj:Stmt:=Z3 (top 58) 15
theorem Mt:Zl ["self"] ["self"] (Zi Uj):=fnS
theorem Mu(F:Fun K "at_hand" "Season.at_hand" Uj f fd)(T:Tx K mg a)(zm5:Zs P w K mg base a.zm2 "over" 1 ["self"] (Le a.zm2)):FnOk P w K mg base (CX1 P w) 2 f fd ["self"] (Us (ca a)):=by
 refine F.okX Mt ⋯ fun _ _ _ _ H _ Q E hr h=>?_;obtain⟨A',S,rfl,SA,h⟩:=h;refine⟨_,(Zd (Zm (Zt Yz (Yo (Zr (K:=K) rfl (pv 0) rfl) T.znv zm5 (hr.mono ⋯) Zj) Zg))),?_⟩;obtain⟨⟨dx,v,a1,a2⟩,b,c,_⟩:=id SA;obtain⟨⟨dxl,hpl⟩,_⟩:=id c;refine⟨_,rfl,A'.p,a.zmx,dx,_,_,rfl,a1,T.zmy,T.zov,Tc,A'.pl,dxl,_,rfl,hpl,Ie ⋯ ⋯,A'.pl,A'.lr,A'.ld,S.led,rfl,c,_,_,rfl,rfl,?_⟩;exact h
abbrev Uk:Stmt:=Z3 (top 58) 20
theorem Mv:Zl ["self","at"] ["self","at"] (Zi Uk):=fnS
theorem Mw(F:Fun K "matches" "Season.matches" Uk f fd)(T:Tx K mg a)(zm0:Zs P w K mg base a.zmx "sheet_of" 3 ["self","at"] (Uc (ca a)))(znw:Zs P w K mg base a.zm1 "matches" 1 ["self"] (Pa (ca a))):FnOk P w K mg base (CX1 P w) 4 f fd ["self","at"] (Lo (ca a)):=by
 refine F.okX Mv ⋯ fun _ _ _ _ H _ Q E hr h=>?_;obtain⟨A',S,i,rfl,SA,hr0⟩:=h;refine⟨_,(Zd (Zm (Yo (Yl (pv 0) T.zmy zm0 (hr.mono ⋯) Zj (Za (pv 1) Zc)) T.zm6 znw (hr.mono ⋯) Zj))),?_⟩;obtain⟨si,hol,h⟩:=hr0;obtain⟨⟨dx,v,a1,a2⟩,_⟩:=id SA;refine⟨_,rfl,A'.p,dx,_,rfl,a1,Z6 ⋯,_,rfl,A',S,i,rfl,SA,si,hol,it2 h (fun _ z=>z) fun hn h=>⟨h.1,fun s q hs Sq=>?_⟩⟩;obtain⟨dxq,m1,m2,m3,m4,hq⟩:=ShAt.ins Sq;exact⟨q,dxq,_,rfl,hq,Vs ⋯ ⋯ ⋯ ⋯,(·∉A'.fp),q,s,rfl,Sq,fun l ts H' a b c d=>h.2 s hs l ts H' a b c d⟩
abbrev S6:Stmt:=Z3 (top 58) 21
theorem Gv:Zl ["self","at"] ["self","at"] (Zi S6):=fnS
theorem Gw(F:Fun K "goes" "Season.goes" S6 f fd)(T:Tx K mg a)(zm0:Zs P w K mg base a.zmx "sheet_of" 3 ["self","at"] (Uc (ca a)))(zoh:Zs P w K mg base a.zm1 "goes" 1 ["self"] (Iq (ca a))):FnOk P w K mg base (CX1 P w) 4 f fd ["self","at"] (zbj (ca a)):=by
 refine F.okX Gv ⋯ fun _ _ _ _ H _ Q E hr h=>?_;obtain⟨A',S,i,rfl,SA,hr0⟩:=h;refine⟨_,(Zd (Zm (Yo (Yl (pv 0) T.zmy zm0 (hr.mono ⋯) Zj (Za (pv 1) Zc)) T.zm6 zoh (hr.mono ⋯) Zj))),?_⟩;obtain⟨si,hol,h⟩:=hr0;obtain⟨⟨dx,v,a1,a2⟩,_⟩:=id SA;refine⟨_,rfl,A'.p,dx,_,rfl,a1,Z6 ⋯,_,rfl,A',S,i,rfl,SA,si,hol,it2 h (fun _ z=>z) fun hn h=>⟨h.1,fun s q hs Sq=>?_⟩⟩;obtain⟨dxq,m1,m2,m3,m4,hq⟩:=ShAt.ins Sq;exact⟨q,dxq,_,rfl,hq,Vs ⋯ ⋯ ⋯ ⋯,(·∉A'.fp),q,s,rfl,Sq,fun l H' a b c=>h.2 s hs l H' a b c⟩
abbrev T6:Stmt:=Z3 (top 58) 22
theorem Qq:Zl ["self","at","number","sheet"] ["self","at","number"] (Zi T6):=fnS
theorem Jn(F:Fun K "where" "Season.where" T6 f fd)(T:Tx K mg a)(zm0:Zs P w K mg base a.zmx "sheet_of" 3 ["self","at"] (Uc (ca a)))(zm4:Zs P w K mg base a.zm3 "check_known" 1 ["self","number"] (U9 (ca a)))(zno:Zs P w K mg base a.zm1 "where" 2 ["self","number"] (P5 (ca a))):FnOk P w K mg base (CX1 P w) 4 f fd ["self","at","number"] (zc6 (ca a)):=by
 refine F.okX Qq ⋯ fun _ _ _ _ H _ Q E hr h=>?_;obtain⟨A',S,i,n,rfl,SA,sn,hr0⟩:=h;refine⟨_,(Zb (pS 3 Qq.nd (Yl (pv 0) T.zmy zm0 (hr.mono ⋯) Zj (Za (pv 1) Zc)))
 (Zb (Z1 (Yl (Zr (K:=K) rfl (pv 0) rfl) T.zni zm4 (hr.mono ⋯) Zj (Za (pv 2) Zc)))
 (Zd (Zm (Yl (pv 3) T.zm6 zno (hr.mono ⋯) Zj (Za (pv 2) Zc)))))),?_⟩
 obtain⟨si,hol,h⟩:=hr0;obtain⟨⟨dx,v,a1,a2⟩,br,_⟩:=id SA;obtain⟨⟨dxr,kvr,hpr,hdr,en⟩,ndr⟩:=id br;refine⟨_,rfl,A'.p,dx,_,rfl,a1,Z6 ⋯,_,rfl,A',S,i,rfl,SA,si,hol,it2 h (fun _ z=>z) fun hn h=>⟨h.1,fun s q hs Sq=>?_⟩⟩;obtain⟨dxq,m1,m2,m3,m4,hq⟩:=ShAt.ins Sq;obtain⟨k1,k2,k3⟩:=h.2 s hs;refine⟨_,rfl,A'.p,a.zmx,dx,_,_,rfl,a1,T.zmy,T.zof,Vl,A'.pr,dxr,_,rfl,hpr,Xj.no ⋯,_,rfl,A'.pr,A'.dr,S.ppl,n,rfl,br,sn,?_⟩;refine it2 k3 (fun hk k3=>?_) (fun _ z=>z);exact⟨_,rfl,q,dxq,_,rfl,hq,Vs ⋯ ⋯ ⋯ ⋯,_,rfl,(·∉A'.fp),q,s,n,rfl,Sq,k1,k2,fun H' s'=>k3 H' s'⟩
abbrev S7:Stmt:=Z3 (top 58) 23
theorem Gx:Zl ["self","at"] ["self","at"] (Zi S7):=fnS
theorem Gy(F:Fun K "left" "Season.left" S7 f fd)(T:Tx K mg a)(zm0:Zs P w K mg base a.zmx "sheet_of" 3 ["self","at"] (Uc (ca a)))(zqf:Zs P w K mg base a.zm1 "left" 2 ["self"] (Ag (ca a))):FnOk P w K mg base (CX1 P w) 4 f fd ["self","at"] (Iy (ca a)):=by
 refine F.okX Gx ⋯ fun _ _ _ _ H _ Q E hr h=>?_;obtain⟨A',S,i,rfl,SA,hr0⟩:=h;refine⟨_,(Zd (Zm (Yo (Yl (pv 0) T.zmy zm0 (hr.mono ⋯) Zj (Za (pv 1) Zc)) T.zm6 zqf (hr.mono ⋯) Zj))),?_⟩;obtain⟨si,hol,h⟩:=hr0;obtain⟨⟨dx,v,a1,a2⟩,_⟩:=id SA;refine⟨_,rfl,A'.p,dx,_,rfl,a1,Z6 ⋯,_,rfl,A',S,i,rfl,SA,si,hol,it2 h (fun _ z=>z) fun hn h=>⟨h.1,fun s q hs Sq=>?_⟩⟩;obtain⟨dxq,m1,m2,m3,m4,hq⟩:=ShAt.ins Sq;obtain⟨k1,k2,k3⟩:=h.2 s hs;exact⟨q,dxq,_,rfl,hq,Vs ⋯ ⋯ ⋯ ⋯,(·∉A'.fp),q,s,rfl,Sq,k1,k2,fun l H' a b c=>k3 l H' a b c⟩
abbrev Qc:Stmt:=Z3 (top 58) 24
theorem F5:Zl ["self","at"] ["self","at"] (Zi Qc):=fnS
theorem F7(F:Fun K "why" "Season.why" Qc f fd)(T:Tx K mg a)(zm0:Zs P w K mg base a.zmx "sheet_of" 3 ["self","at"] (Uc (ca a)))(zqo:Zs P w K mg base a.zm1 "why" 3 ["self"] (zc2 (ca a))):FnOk P w K mg base (CX1 P w) 4 f fd ["self","at"] (zgn (ca a)):=by
 refine F.okX F5 ⋯ fun _ _ _ _ H _ Q E hr h=>?_;obtain⟨A',S,i,rfl,SA,hr0⟩:=h;refine⟨_,(Zd (Zm (Yo (Yl (pv 0) T.zmy zm0 (hr.mono ⋯) Zj (Za (pv 1) Zc)) T.zm6 zqo (hr.mono ⋯) Zj))),?_⟩;obtain⟨si,hol,h⟩:=hr0;obtain⟨⟨dx,v,a1,a2⟩,_⟩:=id SA;refine⟨_,rfl,A'.p,dx,_,rfl,a1,Z6 ⋯,_,rfl,A',S,i,rfl,SA,si,hol,it2 h (fun _ z=>z) fun hn h=>⟨h.1,fun s q hs Sq=>?_⟩⟩;obtain⟨dxq,m1,m2,m3,m4,hq⟩:=ShAt.ins Sq;obtain⟨⟨nu,k0⟩,k1,k2,k3⟩:=h.2 s hs;exact⟨q,dxq,_,rfl,hq,Vs ⋯ ⋯ ⋯ ⋯,(·∉A'.fp),q,s,nu,rfl,Sq,k0,k1,k2,fun t lp lr ps rs H'=>k3 t lp lr ps rs H'⟩
abbrev U1:Stmt:=Z3 (top 58) 25
theorem Kb:Zl ["self","at"] ["self","at"] (Zi U1):=fnS
theorem Kc(F:Fun K "chains" "Season.chains" U1 f fd)(T:Tx K mg a)(zm0:Zs P w K mg base a.zmx "sheet_of" 3 ["self","at"] (Uc (ca a)))(zn4:Zs P w K mg base a.zm1 "chains" 1 ["self"] (O7 (ca a))):FnOk P w K mg base (CX1 P w) 4 f fd ["self","at"] (Iz (ca a)):=by
 refine F.okX Kb ⋯ fun _ _ _ _ H _ Q E hr h=>?_;obtain⟨A',S,i,rfl,SA,hr0⟩:=h;refine⟨_,(Zd (Zm (Yo (Yl (pv 0) T.zmy zm0 (hr.mono ⋯) Zj (Za (pv 1) Zc)) T.zm6 zn4 (hr.mono ⋯) Zj))),?_⟩;obtain⟨si,hol,h⟩:=hr0;obtain⟨⟨dx,v,a1,a2⟩,_⟩:=id SA;refine⟨_,rfl,A'.p,dx,_,rfl,a1,Z6 ⋯,_,rfl,A',S,i,rfl,SA,si,hol,it2 h (fun _ z=>z) fun hn h=>⟨h.1,fun s q hs Sq=>?_⟩⟩;obtain⟨dxq,m1,m2,m3,m4,hq⟩:=ShAt.ins Sq;obtain⟨k1,k3⟩:=h.2 s hs;exact⟨q,dxq,_,rfl,hq,Vs ⋯ ⋯ ⋯ ⋯,(·∉A'.fp),q,s,rfl,Sq,k1,fun l ts H' a b c d=>k3 l ts H' a b c d⟩
abbrev Pk:Stmt:=top 60
theorem C0:Zl ["_law_found"] ["_law_found"] (Zi Pk):=fnS
theorem C2(F:Fun K "_law_whole" "_law_whole" Pk f fd)(T:Tx K mg a):FnOk P w K mg base (CX1 P w) 1 f fd ["_law_found"] D8:=by
 refine F.okX C0 ⋯ fun _ _ _ _ H _ Q E hr h=>?_;obtain⟨i,rfl,h⟩:=h;refine⟨_,(Zd (Zm (zan (Zn (Wz (K:=K) rfl) (by rfl) T.znj PyProof.Rows.boot_isinstance (Za (pv 0) (Za (U4 rfl T.zsj PyProof.Rows.boot_int (show RelV (.ty "int") _ from rfl)) Zc))) (Dx (zi4 (Zn (Wz (K:=K) rfl) (by rfl) T.znj PyProof.Rows.boot_isinstance (Za (pv 0) (Za (U4 rfl T.zse PyProof.Rows.boot_bool (show RelV (.ty "bool") _ from rfl)) Zc)))))))),?_⟩;refine⟨_,rfl,_,_,_,_,rfl,.of (.int i),.inl ⟨_,rfl⟩,zju K,_,rfl,?_⟩;refine iteT ?_;exact⟨_,rfl,_,_,_,_,rfl,.of (.int i),.inl ⟨_,rfl⟩,zjv K,_,rfl,h⟩
abbrev Gz:Stmt:=top 61
theorem zex:Zl ["_law_script","_law_k"] ["_law_script","_law_k"] (Zi Gz):=fnS
theorem zey(F:Fun K "_law_at" "_law_at" Gz f fd)(T:Tx K mg a):FnOk P w K mg base (CX1 P w) 1 f fd ["_law_script","_law_k"] (za9 K):=by
 refine F.okX zex ⋯ fun _ _ _ _ H _ Q E hr h=>?_;obtain⟨b,ns,k,rfl,hs,h⟩:=h;refine⟨_,(Zb (Z4 (Zp zb9 (pv 1) (Zn (cL K) (by rfl) T.zm9 PySem.boot_len (Za (pv 0) Zc)) (Zu _))
  (Zd (Zm (pI (iL K) (pv 0) (pv 1))))
  Zq)
 (Zd (Zm Zg))),?_⟩
 refine⟨_,rfl,_,rfl,b,_,rfl,.inl hs,_,_,rfl,rfl,_,rfl,?_⟩;rw[zuw];refine itD (fun hk=>?_) (fun hk=>?_)
 ·have hk':k<ns.length:=by omega
  refine⟨_,rfl,_,rfl,b,_,_,_,rfl,rfl,hs,Z7 (show (ns.map V.int)[k]?=some (.int (Xb ns k)) from ?_),h⟩;unfold Xb;rw[zu1,zuy hk'];rfl
 ·have e:Xb ns k=0:=by unfold Xb;rw[List.getElem?_eq_none ⋯];rfl
  rw[e] at h;exact h
abbrev Kd:Stmt:=top 62
theorem Qd:Zl ["_law_cell_here","_law_k","_law_one","_law_two","_law_three"] ["_law_cell_here","_law_k"] (Zi Kd):=fnS
theorem zb3(F:Fun K "_law_mix" "_law_mix" Kd f fd)(T:Tx K mg a):FnOk P w K mg base (CX1 P w) 1 f fd ["_law_cell_here","_law_k"] zco:=by
 refine F.okX Qd ⋯ fun _ _ _ _ H _ Q E hr h=>?_;obtain⟨c,k,rfl,h⟩:=h;refine⟨_,(Zb (pS 2 Qd.nd (Zt Yv (Zt Yz (Zt Q0 (pv 0) Zg) (pv 1)) Zg))
 (Zb (pS 3 Qd.nd (Zt Yv (Zt Yz (Zt Q0 (pv 2) Zg) (Zt Q0 Zg (pv 1))) Zg))
 (Zb (pS 4 Qd.nd (Zt Yv (Zt Yz (Zt Q0 (pv 3) Zg) (pv 2)) Zg))
 (Zd (Zm (Zt Yz (Zt Q0 (Zt Yz (Zt Q0 (pv 2) Zg) (pv 3)) Zg) (pv 4))))))),?_⟩
 walk_at "rd";exact h
abbrev Ys:Stmt:=top 63
theorem Pl:Zl ["_law_cell_here","_law_many","_law_step"] ["_law_cell_here","_law_many"] (Zi Ys):=fnS
@[irreducible] def V2:List Expr:=zej (Au (Od (Xr (Zv Ys) 0)))
@[irreducible] def Pm:Pos:=zek (Au (Od (Xr (Zv Ys) 0)))
theorem Ke:Zv Ys=[.Assign (zgp (Xr (Zv Ys) 0)) (.Subscript (.List V2 Pm) (zh2 (Od (Xr (Zv Ys) 0))) (zh3 (Od (Xr (Zv Ys) 0)))) (stP (Xr (Zv Ys) 0)),Xr (Zv Ys) 1]:=by unfold V2 Pm;kernel_rfl
theorem Kf:He V2 [1,2,5,10,100,500,998]:=by unfold V2;exact⟨by kernel_rfl,by kernel_rfl⟩
theorem G1(F:Fun K "_law_numbers" "_law_numbers" Ys f fd)(T:Tx K mg a):FnOk P w K mg base (CX1 P w) 1 f fd ["_law_cell_here","_law_many"] Ia:=by
 refine F.okX Pl ⋯ fun _ _ _ _ H _ Q E hr h=>?_;obtain⟨c,m,rfl,hm,h⟩:=h;rw[Ke];refine⟨_,(Zb (pS 2 Pl.nd (pI (iL K) (Z9 (P8 [1,2,5,10,100,500,998] Kf)) (Zt Yv (pv 0) Zg)))
 (Zd (Zm (Vv rfl (cT ["_law_cell_here","_law_step"] [0,2]) (Xu rfl T.zn0 (Za (pv 1) Zc)) (fun _ _ _ _ _=>U7) (fun _ _ _ _ _=>(Zt Yz Zg (Zt Yv (Zt Yz (Zt Xe (pv 1) Zg) (Zt Q0 (pv 2) (pv 0))) Zg))))))),?_⟩
 refine⟨by show 7<=sizeLine;decide,fun p0 hp0=>?_⟩;walk_at "rd";refine⟨p0,_,_,_,rfl,rfl,SqL.of Ze,Wj (xs:=[1,2,5,10,100,500,998]) ⋯ (by show c%7<7;omega),?_⟩;refine⟨_,rfl,_,rfl,by omega,by omega,Ew (fun j=>V.int (zd0 c j)) (by rw[zve];exact zvb hm ⋯) (fun i R hi k=>?_) (fun p hp=>?_)⟩
 ·rw[zve] at hi;walk_at "rd";refine⟨.inr ⟨by omega,by omega⟩,?_⟩;walk_at "rd";rw[zwf];exact k
 ·rw[zve];refine h p _ ?_ ((Zk hp0).trans (Zk hp)) ((Zk hp0).free hp);rw[Ze];unfold Kq;rw[zwe];rfl
abbrev Xd:Stmt:=top 64
theorem Mx:Zl ["_law_cell_here","_law_many","_law_step"] ["_law_cell_here","_law_many"] (Zi Xd):=fnS
@[irreducible] def Ta:List Expr:=zej (Au (Od (Xr (Zv Xd) 0)))
@[irreducible] def My:Pos:=zek (Au (Od (Xr (Zv Xd) 0)))
theorem G2:Zv Xd=[.Assign (zgp (Xr (Zv Xd) 0)) (.Subscript (.List Ta My) (zh2 (Od (Xr (Zv Xd) 0))) (zh3 (Od (Xr (Zv Xd) 0)))) (stP (Xr (Zv Xd) 0)),Xr (Zv Xd) 1]:=by unfold Ta My;kernel_rfl
theorem G3:He Ta [1,2,5,10,50,97,98]:=by unfold Ta;exact⟨by kernel_rfl,by kernel_rfl⟩
theorem C3(F:Fun K "_law_clubs" "_law_clubs" Xd f fd)(T:Tx K mg a):FnOk P w K mg base (CX1 P w) 1 f fd ["_law_cell_here","_law_many"] zcp:=by
 refine F.okX Mx ⋯ fun _ _ _ _ H _ Q E hr h=>?_;obtain⟨c,m,rfl,hm,h⟩:=h;rw[G2];refine⟨_,(Zb (pS 2 Mx.nd (pI (iL K) (Z9 (P8 [1,2,5,10,50,97,98] G3)) (Zt Yv (pv 0) Zg)))
 (Zd (Zm (Vv rfl (cT ["_law_cell_here","_law_step"] [0,2]) (Xu rfl T.zn0 (Za (pv 1) Zc)) (fun _ _ _ _ _=>U7) (fun _ _ _ _ _=>(Zt Yz Zg (Zt Yv (Zt Yz (Zt Xe (pv 1) Zg) (Zt Q0 (pv 2) (pv 0))) Zg))))))),?_⟩
 refine⟨by show 7<=sizeLine;decide,fun p0 hp0=>?_⟩;walk_at "rd";refine⟨p0,_,_,_,rfl,rfl,SqL.of Ze,Wj (xs:=[1,2,5,10,50,97,98]) ⋯ (by show c%7<7;omega),?_⟩;refine⟨_,rfl,_,rfl,by omega,by omega,Ew (fun j=>V.int (Ey c j)) (by rw[zve];exact zvb hm ⋯) (fun i R hi k=>?_) (fun p hp=>?_)⟩
 ·rw[zve] at hi;walk_at "rd";refine⟨.inr ⟨by omega,by omega⟩,?_⟩;walk_at "rd";rw[zwf];exact k
 ·rw[zve];refine h p _ ?_ ((Zk hp0).trans (Zk hp)) ((Zk hp0).free hp);rw[Ze];unfold Q6;rw[zwe];rfl
abbrev Qe:Stmt:=top 65
theorem Ea:Zl ["_law_found","_law_due"] ["_law_found","_law_due"] (Zi Qe):=fnS
theorem Eb(F:Fun K "_law_one_is" "_law_one_is" Qe f fd)(T:Tx K mg a)(zor:Z2 P w K mg base "_law_whole" 1 ["_law_found"] D8):FnOk P w K mg base (CX1 P w) 2 f fd ["_law_found","_law_due"] Pu:=by
 refine F.okX Ea ⋯ fun _ _ _ _ H _ Q E hr h=>?_;obtain⟨x,rfl,hx,h⟩:=h;refine⟨_,(Zd (Zm (Bd (Zp Ou (pv 1) Y3 (Zu _)) (Sb Ou (pv 0) Y3 (Zu _)) (zan (pF zor hr (Za (pv 0) Zc)) (Dx (Sb Wd (pv 0) (pv 1) (Zu _))))))),?_⟩;rcases hx with rfl|⟨i,rfl⟩
 ·refine⟨_,rfl,rfl,_,rfl,?_⟩;refine iteT ?_;exact⟨_,rfl,rfl,h⟩
 ·refine⟨_,rfl,rfl,_,rfl,?_⟩;refine iteF ?_;refine⟨_,rfl,i,rfl,_,rfl,?_⟩;refine iteT ?_;refine⟨_,rfl,_,rfl,rfl,?_⟩;rw[zu3 rfl];exact h
abbrev S8:Stmt:=top 66
theorem Pn:Zl ["_law_found","_law_due","_law_k"] ["_law_found","_law_due"] (Zi S8):=fnS
theorem G4(F:Fun K "_law_list_is" "_law_list_is" S8 f fd)(T:Tx K mg a)(zna:Z2 P w K mg base "_law_one_is" 2 ["_law_found","_law_due"] Pu):FnOk P w K mg base (CX1 P w) 3 f fd ["_law_found","_law_due"] (Ib K):=by
 refine F.okX Pn ⋯ fun _ _ _ _ H _ Q E hr h=>?_;obtain⟨b,c,xs,rfl,hb,hc,ho,hl,h⟩:=h;refine⟨_,(Zb (Z4 (PW.pt (Vk (Xm (Xh (Zn (Wz (K:=K) rfl) (by rfl) T.znj PyProof.Rows.boot_isinstance (Za (pv 0) (Za (U4 rfl T.zol PyProof.Rows.boot_list (show RelV (.ty "list") _ from rfl)) Zc))))) (Wn (Zp El (Zn (cL K) (by rfl) T.zm9 PySem.boot_len (Za (pv 0) Zc)) (Zn (cL K) (by rfl) T.zm9 PySem.boot_len (Za (pv 1) Zc)) (Zu _)))))
  (Zd (Zm Wc))
  Zq)
 (Zb (Yy PassesOwn.leaving rfl (Xu rfl T.zn0 (Za (Zn (cL K) (by rfl) T.zm9 PySem.boot_len (Za (pv 1) Zc)) Zc)) (pN 2 Pn.nd)
  (Zd (Z4 (Xm (Xh (pF zna hr (Za (pI (iL K) (pv 0) (pv 2)) (Za (pI (iL K) (pv 1) (pv 2)) Zc)))))
   (Zd (Zm Wc))
   Zq)))
 (Zd (Zm Wc)))),?_⟩
 refine⟨_,rfl,_,_,_,_,rfl,.of (.lst hb),.inl ⟨_,rfl⟩,D7 K,_,rfl,?_⟩;refine iteF ?_;refine⟨_,rfl,b,_,rfl,.inl (SqL.of hb),_,rfl,c,_,rfl,.inl hc,rfl,_,rfl,?_⟩;rw[zu3 rfl];refine iteF ?_;refine⟨_,rfl,c,_,rfl,.inl hc,_,rfl,by omega,by omega,Wk (fun i σ H'=>H'=H/\(∃ v,σ=[some (.ref b),some (.ref c),v])) ⟨rfl,⟨_,rfl⟩⟩ (fun i σ H' hi ⟨e,⟨v,hv⟩⟩=>?_) (fun σ H' ⟨e,⟨v,hv⟩⟩=>?_)⟩
 ·subst e hv;rw[zve] at hi;have h1:xs[i]?=some (xs[i]'hi):=zuy hi;rw[zwf];refine⟨_,rfl,_,rfl,b,_,_,_,rfl,rfl,SqL.of hb,Z7 h1,_,rfl,_,rfl,c,_,_,_,rfl,rfl,hc,Z7 h1,_,rfl,ho _ (zvs hi),_,rfl,?_⟩;exact iteF ⟨rfl,⟨_,rfl⟩⟩
 ·subst e hv;exact h
abbrev T7:Stmt:=top 67
theorem Qr:Zl ["_law_found","_law_due","_law_k"] ["_law_found","_law_due"] (Zi T7):=fnS
theorem Jo(F:Fun K "_law_tuple_is" "_law_tuple_is" T7 f fd)(T:Tx K mg a)(zna:Z2 P w K mg base "_law_one_is" 2 ["_law_found","_law_due"] Pu):FnOk P w K mg base (CX1 P w) 3 f fd ["_law_found","_law_due"] (Ez K):=by
 refine F.okX Qr ⋯ fun _ _ _ _ H _ Q E hr h=>?_;obtain⟨b,c,xs,rfl,hb,hc,ho,hl,h⟩:=h;refine⟨_,(Zb (Z4 (PW.pt (Vk (Xm (Xh (Zn (Wz (K:=K) rfl) (by rfl) T.znj PyProof.Rows.boot_isinstance (Za (pv 0) (Za (U4 rfl T.zqw PyProof.Rows.boot_tuple (show RelV (.ty "tuple") _ from rfl)) Zc))))) (Wn (Zp El (Zn (cL K) (by rfl) T.zm9 PySem.boot_len (Za (pv 0) Zc)) (Zn (cL K) (by rfl) T.zm9 PySem.boot_len (Za (pv 1) Zc)) (Zu _)))))
  (Zd (Zm Wc))
  Zq)
 (Zb (Yy PassesOwn.leaving rfl (Xu rfl T.zn0 (Za (Zn (cL K) (by rfl) T.zm9 PySem.boot_len (Za (pv 1) Zc)) Zc)) (pN 2 Qr.nd)
  (Zd (Z4 (Xm (Xh (pF zna hr (Za (pI (iU K) (pv 0) (pv 2)) (Za (pI (iU K) (pv 1) (pv 2)) Zc)))))
   (Zd (Zm Wc))
   Zq)))
 (Zd (Zm Wc)))),?_⟩
 refine⟨_,rfl,_,_,_,_,rfl,.of (.tup hb),.inl ⟨_,rfl⟩,za8 K,_,rfl,?_⟩;refine iteF ?_;refine⟨_,rfl,b,_,rfl,.inr (SqT.of hb),_,rfl,c,_,rfl,.inr hc,rfl,_,rfl,?_⟩;rw[zu3 rfl];refine iteF ?_;refine⟨_,rfl,c,_,rfl,.inr hc,_,rfl,by omega,by omega,Wk (fun i σ H'=>H'=H/\(∃ v,σ=[some (.ref b),some (.ref c),v])) ⟨rfl,⟨_,rfl⟩⟩ (fun i σ H' hi ⟨e,⟨v,hv⟩⟩=>?_) (fun σ H' ⟨e,⟨v,hv⟩⟩=>?_)⟩
 ·subst e hv;rw[zve] at hi;have h1:xs[i]?=some (xs[i]'hi):=zuy hi;rw[zwf];refine⟨_,rfl,_,rfl,b,_,_,_,rfl,rfl,SqT.of hb,Z7 h1,_,rfl,_,rfl,c,_,_,_,rfl,rfl,hc,Z7 h1,_,rfl,ho _ (zvs hi),_,rfl,?_⟩;exact iteF ⟨rfl,⟨_,rfl⟩⟩
 ·subst e hv;exact h
abbrev T8:Stmt:=top 68
theorem Qs:Zl ["_law_found","_law_due","_law_k"] ["_law_found","_law_due"] (Zi T8):=fnS
theorem Jp(F:Fun K "_law_rows_are" "_law_rows_are" T8 f fd)(T:Tx K mg a)(zpj:Z2 P w K mg base "_law_tuple_is" 3 ["_law_found","_law_due"] (Ez K)):FnOk P w K mg base (CX1 P w) 4 f fd ["_law_found","_law_due"] (Lc K):=by
 refine F.okX Qs ⋯ fun _ _ _ _ H _ Q E hr h=>?_;obtain⟨b,c,ts,us,R,rfl,hb,hc,tl,ul,ho,hl,h⟩:=h;refine⟨_,(Zb (Z4 (PW.pt (Vk (Xm (Xh (Zn (Wz (K:=K) rfl) (by rfl) T.znj PyProof.Rows.boot_isinstance (Za (pv 0) (Za (U4 rfl T.zol PyProof.Rows.boot_list (show RelV (.ty "list") _ from rfl)) Zc))))) (Wn (Zp El (Zn (cL K) (by rfl) T.zm9 PySem.boot_len (Za (pv 0) Zc)) (Zn (cL K) (by rfl) T.zm9 PySem.boot_len (Za (pv 1) Zc)) (Zu _)))))
  (Zd (Zm Wc))
  Zq)
 (Zb (Yy PassesOwn.leaving rfl (Xu rfl T.zn0 (Za (Zn (cL K) (by rfl) T.zm9 PySem.boot_len (Za (pv 1) Zc)) Zc)) (pN 2 Qs.nd)
  (Zd (Z4 (Xm (Xh (pF zpj hr (Za (pI (iL K) (pv 0) (pv 2)) (Za (pI (iL K) (pv 1) (pv 2)) Zc)))))
   (Zd (Zm Wc))
   Zq)))
 (Zd (Zm Wc)))),?_⟩
 have el:ts.length=us.length:=by rw[tl.length,ul.length]
 have hul:=ul.length;refine⟨_,rfl,_,_,_,_,rfl,.of (.lst hb),.inl ⟨_,rfl⟩,D7 K,_,rfl,?_⟩;refine iteF ?_;refine⟨_,rfl,b,_,rfl,.inl (SqL.of hb),_,rfl,c,_,rfl,.inl hc,rfl,_,rfl,?_⟩;rw[el,zu3 rfl];refine iteF ?_;refine⟨_,rfl,c,_,rfl,.inl hc,_,rfl,by omega,by omega,Wk (fun i σ H'=>H'=H/\(∃ v,σ=[some (.ref b),some (.ref c),v])) ⟨rfl,⟨_,rfl⟩⟩ (fun i σ H' hi ⟨e,⟨v,hv⟩⟩=>?_) (fun σ H' ⟨e,⟨v,hv⟩⟩=>?_)⟩
 ·subst e hv;rw[zve] at hi;have hR:i<R.length:=by rw[<- ul.length];exact hi
  obtain⟨t1,e1,q1⟩:=tl.getR (zuy hR);obtain⟨t2,e2,q2⟩:=ul.getR (zuy hR);obtain⟨o1,o2⟩:=ho _ (zvs hR);rw[zwf];refine⟨_,rfl,_,rfl,b,_,_,_,rfl,rfl,SqL.of hb,Z7 e1,_,rfl,_,rfl,c,_,_,_,rfl,rfl,hc,Z7 e2,t1,t2,_,rfl,q1,SqT.of q2,o2,o1,_,rfl,?_⟩;exact iteF ⟨rfl,⟨_,rfl⟩⟩
 ·subst e hv;exact h
abbrev V3:Stmt:=top 69
theorem Y5:Zl ["_law_found","_law_may","_law_left","_law_past","_law_due","_law_place","_law_number"] ["_law_found","_law_may","_law_left"] (Zi V3):=fnS
theorem Nr(F:Fun K "_law_is_shortage" "_law_is_shortage" V3 f fd)(T:Tx K mg a)(zor:Z2 P w K mg base "_law_whole" 1 ["_law_found"] D8)(znz:Z2 P w K mg base "_law_list_is" 3 ["_law_found","_law_due"] (Ib K)):FnOk P w K mg base (CX1 P w) 4 f fd ["_law_found","_law_may","_law_left"] (Dc K):=by
 refine F.okX Y5 ⋯ fun _ _ _ _ H _ Q E hr h=>?_;obtain⟨t,l,lp,lr,ls,rows,nu,gs,ps,rs,rfl,ht,hl,il,mo,hp,hrs,SP,h⟩:=h;have hu:=W0 hr;refine⟨_,(Zb (Z4 (PW.pt (Vk (Xm (Xh (Zn (Wz (K:=K) rfl) (by rfl) T.znj PyProof.Rows.boot_isinstance (Za (pv 0) (Za (U4 rfl T.zqw PyProof.Rows.boot_tuple (show RelV (.ty "tuple") _ from rfl)) Zc))))) (Vk (Zp El (Zn (cL K) (by rfl) T.zm9 PySem.boot_len (Za (pv 0) Zc)) Zg (Zu _)) (Wn (Xm (Xh (Zn (Wz (K:=K) rfl) (by rfl) T.znj PyProof.Rows.boot_isinstance (Za (pI (iU K) (pv 0) Zg) (Za (U4 rfl T.zol PyProof.Rows.boot_list (show RelV (.ty "list") _ from rfl)) Zc)))))))))
  (Zd (Zm Wc))
  Zq)
 (Zb (pS 3 Y5.nd (N4 Ru Zg))
 (Zb (pS 4 Y5.nd Q4)
 (Zb (Yy PassesOwn.leaving rfl (Yc (K:=K) rfl (pI (iU K) (pv 0) Zg)) (pN 5 Y5.nd)
  (Zb (Z4 (PW.pt (Vk (Xm (Xh (pF zor hr (Za (pv 5) Zc)))) (Vk (Zp ze6 (pv 5) (pv 3) (Zu _)) (Wn (Zp ze7 (pv 5) (Zn (cL K) (by rfl) T.zm9 PySem.boot_len (Za (pv 1) Zc)) (Zu _))))))
   (Zd (Zm Wc))
   Zq)
  (Zb (pS 3 Y5.nd (pv 5))
  (Zd (Yy PassesOwn.leaving rfl (Yc (K:=K) rfl (pI (iL K) (pv 1) (pv 5))) (pN 6 Y5.nd)
   (Zd (Yq hu (pv 4) (pv 6) Wc rfl)))))))
 (Zb (Z4 (Xm (Xh (pF znz hr (Za (pI (iU K) (pv 0) Zg) (Za (Zn (Rx rfl) (by rfl) T.zqp PyProof.Rows.boot_sorted (Za (pv 4) Zc)) Zc)))))
  (Zd (Zm Wc))
  Zq)
 (Zd (Zm (zan (Sb Wd (Zn (cL K) (by rfl) T.zm9 PySem.boot_len (Za (pI (iU K) (pv 0) Zg) Zc)) (Zt Yz (Zn (cL K) (by rfl) T.zm9 PySem.boot_len (Za (pI (iU K) (pv 0) Zg) Zc)) (pv 2)) (Zu _)) (Dx (zkh (Sb Sa (pv 2) Zg (Zu _)) (Dx (Sb (zcn (K:=K) rfl hr.units) (pI (iU K) (pv 0) Zg) (Z9 Zc) (Zu _))))))))))))),?_⟩
 show let y1:TS:=_;let y2:TS:=Zz _ y1;let y3:TS:=_;let y4:TS:=Zz _ y3;let y5:TS:=Zz (zdi _ _ (Zz _ y2)) y4;let y6:TS:=Zz _ y5;let y7:TS:=Zz _ y6;Zz _ y7 _ _ _;intro y1 y2 y3 y4 y5 y6 y7;have line0:1000<sizeLine:=Ub ⋯;have hll:(ls.map V.ref).length=rows.length:=by rw[zuw];exact il.length
 have hnl:(Wt ps).length=ps.length:=by unfold Wt;rw[zuw]
 refine Yp (Wf (b:=false) (Th (b:=false) (c:=false) (fun Q k=>⟨_,rfl,_,_,_,_,rfl,.of (.tup ht),.inl ⟨_,rfl⟩,za8 K,_,rfl,k⟩) (Th (b:=false) (c:=false) (fun Q k=>⟨_,rfl,t,_,rfl,.inr (SqT.of ht),rfl,_,rfl,k⟩) (fun Q k=>⟨_,rfl,t,_,_,_,rfl,rfl,SqT.of ht,rfl,_,_,_,_,rfl,.of (.lst hp),.inl ⟨_,rfl⟩,D7 K,_,rfl,k⟩))) (iteF (Z0 ?_)));refine⟨_,rfl,fun ld hld=>?_⟩;refine al (upd _ ld _) hld rfl fun H1 q1 s1=>?_;have fld:H ld=none:=hld;refine⟨_,rfl,t,_,_,_,rfl,rfl,SqT.of (s1 _ _ ht),rfl,lp,rfl,⟨_,SqL.of (s1 _ _ hp)⟩,?_⟩
 let jv1:Nat->L2.St->Hp->Prop:=fun i σ' H'=>∃ (pst:Int) (kr:List (Key×V)) (rl:List Int) (v5 v6:Option V),σ'=[some (.ref t),some (.ref l),some (.int ((Xs gs).length:Nat)),some (.int pst),some (.ref ld),v5,v6]/\Same H H'/\H' ld=some (.dK kr)/\kr.map (·.1)=rl.map (inl:Int->Key)/\rl.Nodup/\(∀ p∈ps.drop i,pst<(p:Nat))/\∀ n,n∈rl↔∃ p∈ps.take i,∃ r,rows[p]?=some r/\n∈r
 refine Xf (K:=K) (a:=lp) (xs:=Wt ps) jv1
  ⟨-1,[],[],_,_,rfl,s1,q1,rfl,zwp,fun p _=>by omega,by simp⟩ (by rintro i σ' H' _ ⟨_,_,_,_,_,_,z,_⟩;exact SqL.of (z _ _ hp)) ?_ ?_
 ·rintro i x σ' Ha hx ⟨pst,kr,rl,v5,v6,rfl,sa,hda,kkr,ndr,past,memr⟩;have hi:i<ps.length:=by have:=(zux.mp hx).1;rw[hnl] at this;exact this
  have hq0:ps[i]?=some (ps[i]'hi):=zuy hi;have etk:ps.take (i+1)=ps.take i++[ps[i]'hi]:=zvd hi;have edr:ps.drop i=ps[i]'hi :: ps.drop (i+1):=List.drop_eq_getElem_cons hi;generalize (ps[i]'hi)=q at hq0 etk edr;have ex:x=.int (q:Nat):=by unfold Wt at hx;rw[zu1,hq0] at hx;exact(Option.some.inj hx).symm
  subst ex;have hqm:=zu2 hq0;have hqr0:=SP.lt q hqm;have hpast:pst<(q:Nat):=past q (by rw[edr];simp);have hnext:∀ p∈ps.drop (i+1),((q:Nat):Int)<(p:Nat):=fun p hp'=>by
   have h1:(ps.drop i).Pairwise (· < ·):=SP.up.sublist (List.drop_sublist _ _);rw[edr,List.pairwise_cons] at h1;have:=h1.1 p hp';omega
  have hqr:rows[q]?=some (rows[q]'hqr0):=zuy hqr0;have hrm:rows[q]'hqr0∈rows:=zvs _;generalize (rows[q]'hqr0)=r at hqr hrm;obtain⟨lq,e2',e3⟩:=il.getR hqr;have hl':(ls.map V.ref)[q]?=some (.ref lq):=by rw[zu1,e2'];rfl
  walk_at "if";refine Yp (Wf (b:=false) (Th (b:=false) (c:=false) (fun Q k=>⟨_,rfl,_,rfl,_,rfl,k⟩) (Th (b:=false) (c:=false) (fun Q k=>⟨_,rfl,_,rfl,_,_,rfl,rfl,_,rfl,by rw[zva (show ¬ (((q:Nat):Int)<=pst) by omega)];exact k⟩) (fun Q k=>⟨_,rfl,_,rfl,l,_,rfl,.inl (SqL.of (sa _ _ hl)),_,_,rfl,rfl,_,rfl,by rw[hll,zva (show ¬ (((rows.length:Nat):Int)<=(q:Nat)) by omega)];exact k⟩))) (iteF (Z0 ?_)));refine⟨_,rfl,?_⟩;refine⟨_,rfl,_,rfl,l,_,_,_,rfl,rfl,SqL.of (sa _ _ hl),Z7 hl',lq,rfl,⟨_,SqL.of (sa _ _ e3)⟩,?_⟩
  let jv2:Nat->L2.St->Hp->Prop:=fun j σ' H'=>∃ (kr:List (Key×V)) (rl:List Int) (v6:Option V),σ'=[some (.ref t),some (.ref l),some (.int ((Xs gs).length:Nat)),some (.int (q:Nat)),some (.ref ld),some (.int (q:Nat)),v6]/\Same H H'/\H' ld=some (.dK kr)/\kr.map (·.1)=rl.map (inl:Int->Key)/\rl.Nodup/\∀ n,n∈rl↔(∃ p∈ps.take i,∃ r,rows[p]?=some r/\n∈r)\/n∈r.take j
  refine Xf (K:=K) (a:=lq) (xs:=r.map V.int) jv2
   ⟨kr,rl,_,rfl,sa,hda,kkr,ndr,fun n=>by rw[memr];simp⟩ (by rintro j σ' H' _ ⟨_,_,_,_,z,_⟩;exact SqL.of (z _ _ e3)) ?_ ?_
  ·rintro j y σ' Hd hy ⟨kr,rl,w6,rfl,sd,hrd,kkr,ndr,memr⟩;have hj:j<r.length:=by have:=(zux.mp hy).1;rw[zuw] at this;exact this
   have hrj:r[j]?=some (r[j]'hj):=zuy hj;have etj:r.take (j+1)=r.take j++[r[j]'hj]:=zvd hj;generalize (r[j]'hj)=n at hrj etj;have ey:y=.int n:=by rw[zu1,hrj] at hy;exact(Option.some.inj hy).symm
   subst ey;have hsub:∀ m∈rl,m∈nu:=fun m hm=>by
    rcases(memr m).mp hm with ⟨p,_,r',h1,h2⟩|h1
    ·exact(mo.sub r' (zu2 h1)).2 m h2
    ·exact(mo.sub r hrm).2 m (zwq h1)
   have hkr:kr.length<=30:=by
    have:=congrArg List.length kkr;rw[zuw,zuw] at this;rw[this];exact zvb (ndr.length_le_of_subset hsub) mo.crowd
   refine⟨_,rfl,_,rfl,ld,_,rfl,DPut.k (k:=inl n) hrd ⋯,putK kr (inl n) (.bl true),Ij rl n,_,rfl,Yb fld sd,Ze,Ik zll kkr n _,O3 ndr,fun m=>?_⟩;rw[Im,memr,etj,zu8,zu0,or_assoc]
  ·rintro σ' Hd ⟨kr,rl,w6,rfl,sd,hrd,kkr,ndr,memr⟩;rw[zuw,zvf] at memr;refine⟨_,kr,rl,_,_,rfl,sd,hrd,kkr,ndr,hnext,fun n=>?_⟩;rw[memr,etk];constructor
   ·rintro(⟨p,h1,h2⟩|h1)
    ·exact⟨p,zvn _ h1,h2⟩
    ·exact⟨q,by simp,r,hqr,h1⟩
   ·rintro⟨p,h1,r',h2,h3⟩;rcases zu8.mp h1 with z|z
    ·exact .inl ⟨p,z,r',h2,h3⟩
    ·rw[zu0.mp z,hqr] at h2;cases h2;exact .inr h3
 ·rintro σ' Ha ⟨pst,kr,rl,v5,v6,rfl,sa,hda,kkr,ndr,past,memr⟩;rw[hnl,zvf] at memr;have hsub:∀ m∈rl,m∈nu:=fun m hm=>by
   obtain⟨p,_,r',h1,h2⟩:=(memr m).mp hm;exact(mo.sub r' (zu2 h1)).2 m h2
  have hrl30:rl.length<=30:=zvb (ndr.length_le_of_subset hsub) mo.crowd;have hrr:∀ n,n∈rl↔n∈rs:=fun n=>by rw[memr,SP.all]
  have hrs30:rs.length<=30:=by
   rw[<- Io ndr (SP.rup.imp fun h z=>by omega) hrr];exact hrl30
  refine⟨_,rfl,t,_,_,_,rfl,rfl,SqT.of (sa _ _ ht),rfl,_,rfl,ld,kr,rl,rfl,.inl hda,kkr,by omega,fun l2 ns hl2 p3 p4=>?_⟩;have ens:=B7 p3 p4 ndr SP.rup hrr;subst ens;refine al (upd _ l2 _) hl2 rfl fun H8 q8 s8=>?_;have s08:=sa.trans s8;refine⟨lr,l2,_,rfl,s08 _ _ hrs,SqL.of q8,zf2,by rw[zuw];omega,_,rfl,?_⟩;refine iteF (Z0 ?_);refine⟨_,rfl,t,_,_,_,rfl,rfl,SqT.of (s08 _ _ ht),rfl,lp,_,rfl,.inl (SqL.of (s08 _ _ hp)),_,rfl,t,_,_,_,rfl,rfl,SqT.of (s08 _ _ ht),rfl,lr,_,rfl,.inl (SqL.of (s08 _ _ hrs)),_,rfl,_,_,rfl,rfl,rfl,_,rfl,?_⟩;have hcnt:=SP.cnt;rw[hnl,zuw,Rf,zu3 (show ((ps.length:Nat):Int)=((ns.length:Nat):Int)+(((Xs gs).length:Nat):Int) by omega)];refine iteT ?_;refine⟨_,rfl,_,_,rfl,rfl,_,rfl,?_⟩;refine itD (fun hz=>h H8 s08) (fun hz=>?_);have hl0:Xs gs=[]:=zwc.mp ⋯;have hps:=SP.nil hl0;refine⟨_,rfl,t,_,_,_,rfl,rfl,SqT.of (s08 _ _ ht),rfl,by show 0<=sizeLine;decide,fun m0 hm0=>⟨.lst ((ps.map fun (k:Nat)=>((k:Nat):Int)).map Dt.int),.lst [],.lst (SqL.of (Zk hm0 _ _ (s08 _ _ hp))) (zct ps),.lst (SqL.of Ze) .nil,Cc _,Py,?_⟩⟩;rw[if_neg ⋯,Jv,hps];exact h _ (s08.trans (Zk hm0))
abbrev U2:Stmt:=top 70
theorem Rq:Zl ["_law_found","_law_due","_law_k"] ["_law_found","_law_due"] (Zi U2):=fnS
theorem Kg(F:Fun K "_law_moves_are" "_law_moves_are" U2 f fd)(T:Tx K mg a)(zna:Z2 P w K mg base "_law_one_is" 2 ["_law_found","_law_due"] Pu)(zn3:Z2 P w K mg base "_law_rows_are" 4 ["_law_found","_law_due"] (Lc K)):FnOk P w K mg base (CX1 P w) 5 f fd ["_law_found","_law_due"] (Hr K):=by
 refine F.okX Rq ⋯ fun _ _ _ _ H _ Q E hr h=>?_;obtain⟨ok,ok',b,c,ts,us,G0,rfl,hb,hc,g1,g2,hl1,hl2,h⟩:=h;refine⟨_,(Zb (Z4 (PW.pt (Vk (Xm (Xh (Zn (Wz (K:=K) rfl) (by rfl) T.znj PyProof.Rows.boot_isinstance (Za (pv 0) (Za (U4 rfl T.zol PyProof.Rows.boot_list (show RelV (.ty "list") _ from rfl)) Zc))))) (Wn (Zp El (Zn (cL K) (by rfl) T.zm9 PySem.boot_len (Za (pv 0) Zc)) (Zn (cL K) (by rfl) T.zm9 PySem.boot_len (Za (pv 1) Zc)) (Zu _)))))
  (Zd (Zm Wc))
  Zq)
 (Zb (Yy PassesOwn.leaving rfl (Xu rfl T.zn0 (Za (Zn (cL K) (by rfl) T.zm9 PySem.boot_len (Za (pv 1) Zc)) Zc)) (pN 2 Rq.nd)
  (Zb (Z4 (PW.pt (Vk (Xm (Xh (Zn (Wz (K:=K) rfl) (by rfl) T.znj PyProof.Rows.boot_isinstance (Za (pI (iL K) (pv 0) (pv 2)) (Za (U4 rfl T.zqw PyProof.Rows.boot_tuple (show RelV (.ty "tuple") _ from rfl)) Zc))))) (Wn (Zp El (Zn (cL K) (by rfl) T.zm9 PySem.boot_len (Za (pI (iL K) (pv 0) (pv 2)) Zc)) Zg (Zu _)))))
   (Zd (Zm Wc))
   Zq)
  (Zd (Z4 (PW.pt (Vk (Xm (Xh (pF zna hr (Za (pI (iU K) (pI (iL K) (pv 0) (pv 2)) Zg) (Za (pI (iU K) (pI (iL K) (pv 1) (pv 2)) Zg) Zc))))) (Wn (Xm (Xh (pF zn3 hr (Za (pI (iU K) (pI (iL K) (pv 0) (pv 2)) Zg) (Za (pI (iU K) (pI (iL K) (pv 1) (pv 2)) Zg) Zc))))))))
   (Zd (Zm Wc))
   Zq))))
 (Zd (Zm Wc)))),?_⟩
 have e1:=g1.length;have e2:=g2.length;have el:ts.length=us.length:=by omega
 refine⟨_,rfl,_,_,_,_,rfl,.of (.lst hb),.inl ⟨_,rfl⟩,D7 K,_,rfl,?_⟩;refine iteF ?_;refine⟨_,rfl,b,_,rfl,.inl (SqL.of hb),_,rfl,c,_,rfl,.inl (SqL.of hc),rfl,_,rfl,?_⟩;rw[el,zu3 rfl];refine iteF (Z0 ?_);dsimp only;refine⟨_,rfl,c,_,rfl,.inl (SqL.of hc),_,rfl,by omega,by omega,Wk (fun i σ H'=>H'=H/\(∃ v,σ=[some (.ref b),some (.ref c),v])) ⟨rfl,⟨_,rfl⟩⟩ (fun i σ H' hi ⟨e,⟨v,hv⟩⟩=>?_) (fun σ H' ⟨e,⟨v,hv⟩⟩=>?_)⟩
 ·subst e hv;rw[zve] at hi;have hi1:i<ts.length:=by omega
  obtain⟨t1,l1,n1,us1,st1,x1,x2,x3,x4,x5,_⟩:=g1.get (zuy hi1);obtain⟨t2,l2,n2,us2,st2,y1,y2,y3,y4,y5,_⟩:=g2.get (zuy hi);rw[x2] at y2;cases y2;have w1:ts[i]?=some (.ref t1):=by rw[zuy hi1,x1]
  have w2:us[i]?=some (.ref t2):=by rw[zuy hi,y1]
  have hsl:=hl2 _ (zu2 x2);rw[zwf];walk_at "if";refine Yp ?_;refine⟨_,rfl,_,rfl,b,_,_,_,rfl,rfl,SqL.of hb,Z7 w1,_,_,_,_,rfl,.of (.tup x3),.inl ⟨_,rfl⟩,za8 K,_,rfl,?_⟩;refine iteF ?_;refine⟨_,rfl,_,rfl,b,_,_,_,rfl,rfl,SqL.of hb,Z7 w1,t1,_,rfl,.inr (SqT.of x3),rfl,_,rfl,?_⟩;refine(show if (!decide (V.int ((2:Nat):Int)=V.int 2))=true then _ else _ from ?_);rw[zu3 (show V.int ((2:Nat):Int)=V.int 2 from rfl)];refine iteF (Z0 ?_);dsimp only;refine⟨_,rfl,_,rfl,b,_,_,_,rfl,rfl,SqL.of hb,Z7 w1,t1,_,_,_,rfl,rfl,SqT.of x3,rfl,_,rfl,_,rfl,c,_,_,_,rfl,rfl,SqL.of hc,Z7 w2,t2,_,_,_,rfl,rfl,SqT.of y3,rfl,.int n1,rfl,.inr ⟨_,rfl⟩,true,rfl,?_⟩;refine iteF ?_;refine⟨_,rfl,_,rfl,b,_,_,_,rfl,rfl,SqL.of hb,Z7 w1,t1,_,_,_,rfl,rfl,SqT.of x3,rfl,_,rfl,_,rfl,c,_,_,_,rfl,rfl,SqL.of hc,Z7 w2,t2,_,_,_,rfl,rfl,SqT.of y3,rfl,l1,l2,us1,us2,st1.map Wq,rfl,x4,SqL.of y4,x5,y5,fun r hr=>?_,by rw[zuw];omega,true,rfl,?_⟩
  ·obtain⟨s,_,rfl⟩:=zu6.mp hr;refine⟨by show 2<=1000;decide,fun x hx=>?_⟩;simp[Wq] at hx;rcases hx with rfl|rfl
   ·exact .inr ⟨_,rfl⟩
   ·cases s.2 with
    | none=>exact .inl rfl
    | some n=>exact .inr ⟨_,rfl⟩
  exact iteF (Z0 ⟨rfl,⟨_,rfl⟩⟩)
 ·subst e hv;exact h
abbrev Po:Stmt:=top 71
theorem Mz:Zl ["_law_rounds_here","_law_rest_here","_law_page"] ["_law_rounds_here","_law_rest_here"] (Zi Po):=fnS
theorem C4(F:Fun K "_law_first" "_law_first" Po f fd)(T:Tx K mg a):FnOk P w K mg base (CX1 P w) 1 f fd ["_law_rounds_here","_law_rest_here"] zc8:=by
 refine F.okX Mz ⋯ fun _ _ _ _ H _ Q E hr h=>?_;obtain⟨r,q,rfl,h⟩:=h;have hu:=W0 hr;refine⟨_,(Zb (pS 2 Mz.nd (zcd (Te Zo (pv 0) (Te Zo (pv 1) (Te Zo (Z9 Zc) (Te Zo (Z9 Zc) (Te Zo (Z9 Zc) (Te Zo Y3 zcc)))))) rfl rfl (by simp) ⋯))
 (Zb (Yq hu (pv 2) Zo Y3 rfl)
 (Zb (Yq hu (pv 2) Zo (Z9 Zc) rfl)
 (Zb (Yq hu (pv 2) Zo (Z9 Zc) rfl)
 (Zd (Zm (pv 2))))))),?_⟩
 have sz0:([]:List V).length<=sizeLine:=zvo _;refine fun p fp=>?_;refine al (upd _ p _) fp rfl fun H1 p1 s1=>?_;refine⟨_,rfl,_,rfl,sz0,fun l1 f1=>?_⟩;refine al (upd _ l1 _) f1 rfl fun H2 a1 s2=>?_;have n1:l1≠p:=fun z=>by rw[z,p1] at f1;cases f1
 refine⟨sz0,fun l2 f2=>?_⟩;refine al (upd _ l2 _) f2 rfl fun H3 a2 s3=>?_;have n2:l2≠p:=fun z=>by rw[z,s2 _ _ p1] at f2;cases f2
 refine⟨sz0,fun l3 f3=>?_⟩;refine al (upd _ l3 _) f3 rfl fun H4 a3 s4=>?_;have n3:l3≠p:=fun z=>by rw[z,s3 _ _ (s2 _ _ p1)] at f3;cases f3
 refine⟨s4 _ _ (s3 _ _ (s2 _ _ p1)),pg6 r q l1 l2 l3 .non,rfl,(show 6<=15 by decide),?_⟩;rw[zel];have s5:=Yb (o:=.dK (pg6 r q l1 l2 l3 .non)) fp (s1.trans (s2.trans (s3.trans s4)));have p5:(upd H4 p (.dK (pg6 r q l1 l2 l3 .non))) p=some (.dK (pg6 r q l1 l2 l3 .non)):=Ze;have b1:(upd H4 p (.dK (pg6 r q l1 l2 l3 .non))) l1=some (.lst []):=by rw[Zf n1];exact s4 _ _ (s3 _ _ a1)
 have b2:(upd H4 p (.dK (pg6 r q l1 l2 l3 .non))) l2=some (.lst []):=by rw[Zf n2];exact s4 _ _ a2
 have b3:(upd H4 p (.dK (pg6 r q l1 l2 l3 .non))) l3=some (.lst []):=by rw[Zf n3];exact a3
 generalize upd H4 p (.dK (pg6 r q l1 l2 l3 .non))=H5 at s5 p5 b1 b2 b3 ⊢;walk_at "if";refine⟨_,rfl,p,_,rfl,DPut.k (k:=inr "listed") p5 (Lp (x:=.non) (y:=.non)).1,?_⟩;have s6:=Yb (o:=.dK (putK (pg6 r q l1 l2 l3 .non) (.inr "listed") .non)) fp s5;have p6:(upd H5 p (.dK (putK (pg6 r q l1 l2 l3 .non) (.inr "listed") .non))) p=some (.dK (putK (pg6 r q l1 l2 l3 .non) (.inr "listed") .non)):=Ze;have c1:=(Zf (H:=H5) (o:=.dK (putK (pg6 r q l1 l2 l3 .non) (.inr "listed") .non)) n1).trans b1;have c2:=(Zf (H:=H5) (o:=.dK (putK (pg6 r q l1 l2 l3 .non) (.inr "listed") .non)) n2).trans b2;have c3:=(Zf (H:=H5) (o:=.dK (putK (pg6 r q l1 l2 l3 .non) (.inr "listed") .non)) n3).trans b3;generalize upd H5 p (.dK (putK (pg6 r q l1 l2 l3 .non) (.inr "listed") .non))=H6 at s6 p6 c1 c2 c3 ⊢;refine⟨sz0,fun l4 f4=>?_⟩;refine al (upd _ l4 _) f4 rfl fun H7 a4 s7=>?_;have n4:l4≠p:=fun z=>by rw[z,p6] at f4;cases f4
 refine⟨_,rfl,p,_,rfl,DPut.k (k:=inr "goes") (s7 _ _ p6) (Lp (y:=.non)).2.1,?_⟩;have s8:=Yb (o:=.dK (putK (putK (pg6 r q l1 l2 l3 .non) (.inr "listed") .non) (.inr "goes") (.ref l4))) fp (s6.trans s7);have p8:(upd H7 p (.dK (putK (putK (pg6 r q l1 l2 l3 .non) (.inr "listed") .non) (.inr "goes") (.ref l4)))) p=some (.dK (putK (putK (pg6 r q l1 l2 l3 .non) (.inr "listed") .non) (.inr "goes") (.ref l4))):=Ze;have d1:=(Zf (H:=H7) (o:=.dK (putK (putK (pg6 r q l1 l2 l3 .non) (.inr "listed") .non) (.inr "goes") (.ref l4))) n1).trans (s7 _ _ c1);have d2:=(Zf (H:=H7) (o:=.dK (putK (putK (pg6 r q l1 l2 l3 .non) (.inr "listed") .non) (.inr "goes") (.ref l4))) n2).trans (s7 _ _ c2);have d3:=(Zf (H:=H7) (o:=.dK (putK (putK (pg6 r q l1 l2 l3 .non) (.inr "listed") .non) (.inr "goes") (.ref l4))) n3).trans (s7 _ _ c3);have d4:=(Zf (H:=H7) (o:=.dK (putK (putK (pg6 r q l1 l2 l3 .non) (.inr "listed") .non) (.inr "goes") (.ref l4))) n4).trans a4;generalize upd H7 p (.dK (putK (putK (pg6 r q l1 l2 l3 .non) (.inr "listed") .non) (.inr "goes") (.ref l4)))=H8 at s8 p8 d1 d2 d3 d4 ⊢;refine⟨sz0,fun l5 f5=>?_⟩;refine al (upd _ l5 _) f5 rfl fun H9 a5 s9=>?_;have n5:l5≠p:=fun z=>by rw[z,p8] at f5;cases f5
 refine⟨_,rfl,p,_,rfl,DPut.k (k:=inr "moves") (s9 _ _ p8) Lp.2.2,?_⟩;rw[zh5];refine⟨_,rfl,h p _ ?_ (Yb fp (s8.trans s9)) fp⟩;have fr:∀ x,H4 x=none->H x=none:=fun x hx=>s1.free (s2.free (s3.free (s4.free hx)));exact⟨l1,l2,l3,.non,.non,l4,l5,[],[],[],[],Ze,(Zf n1).trans (s9 _ _ d1),.nil,(Zf n2).trans (s9 _ _ d2),.nil,(Zf n3).trans (s9 _ _ d3),.nil,rfl,rfl,(Zf n4).trans (s9 _ _ d4),(Zf n5).trans a5,.nil,
  fp,s1.free f1,s1.free (s2.free f2),s1.free (s2.free (s3.free f3)),s6.free f4,s8.free f5⟩
abbrev Kh:Stmt:=top 72
theorem Vi:Zl ["_law_page","_law_met_here","_law_listed","_law_goes","_law_moves","_law_may","_law_k"] ["_law_page"] (Zi Kh):=fnS
theorem zb4(F:Fun K "_law_met" "_law_met" Kh f fd)(T:Tx K mg a):FnOk P w K mg base (CX1 P w) 1 f fd ["_law_page"] (zc9 K):=by
 refine F.okX Vi ⋯ fun _ _ _ _ H _ Q E hr h=>?_;obtain⟨ok,d,P0,rfl,PA,PO,h⟩:=h;have hu:=W0 hr;refine⟨_,(Zb (pS 1 Vi.nd J4)
 (Zb (Yy PassesOwn.leaving rfl (Yc (K:=K) rfl (Bq (Bx (K:=K) rfl) (pD hu (pv 0) Zo) (zcf (Zn (M3 rfl) (by rfl) T.zr5 PyProof.Rows.boot_max (Za Zg (Za (Zt Qz (Zn (cL K) (by rfl) T.zm9 PySem.boot_len (Za (pD hu (pv 0) Zo) Zc)) (pD hu (pv 0) Zo)) Zc)))) zce)) (Xy (K:=K) (n:=4) rfl rfl (Zw (pN 2 Vi.nd) (Zw (pN 3 Vi.nd) (Zw (pN 4 Vi.nd) (Zw (pN 5 Vi.nd) Xw)))))
  (Zd (Yy PassesOwn.leaving rfl (Xu rfl T.zn0 (Za (Zn (cL K) (by rfl) T.zm9 PySem.boot_len (Za (pv 2) Zc)) Zc)) (pN 6 Vi.nd)
   (Zd (Z4 (Zp U6 (pI (iL K) (pv 3) (pv 6)) Y3 (Zu _))
    (Zb (Yq hu (pv 1) (Yd (Za (pI (iL K) (pv 3) (pv 6)) (Za (pI (iU K) (pI (iL K) (pv 2) (pv 6)) Zg) Zc))) Wc rfl)
    (Zd (Yq hu (pv 1) (Yd (Za (pI (iL K) (pv 3) (pv 6)) (Za (pI (iU K) (pI (iL K) (pv 2) (pv 6)) Zg) Zc))) Wc rfl)))
    Zq)))))
 (Zd (Zm (pv 1))))),?_⟩
 obtain⟨lp,lo,lv,dv,li,lg,lm,pts,ots,vts,mts,a1,a2,a3,a4,a5,a6,a7,a8,a9,b1,b2,b3,o1,o2,o3,o4,o5,o6⟩:=PA;refine fun m fm=>?_;refine al (upd _ m _) fm rfl fun H1 m1 s1=>?_;walk_at "if";refine⟨_,rfl,d,_,rfl,DGet.k (k:=.inr "over") (s1 _ _ a1),?_⟩;refine⟨_,rfl,d,_,rfl,DGet.k (k:=.inr "over") (s1 _ _ a1),lv,vts,rfl,.inl (SqL.of (s1 _ _ a6)),_,rfl,d,_,rfl,DGet.k (k:=.inr "rest") (s1 _ _ a1),_,_,rfl,rfl,_,_,rfl,_,rfl,lv,vts,rfl,SqL.of (s1 _ _ a6),fun c fc=>?_⟩;have e0:=zgt vts vts.length P0.rest;rw[a7.length] at e0;have ez:(vts.length:Int)=(P0.over.length:Int):=by rw[a7.length]
 rw[ez,e0];obtain⟨k0,hk0⟩:∃ k:Nat,k=((P0.over.length:Int)-P0.rest).toNat:=⟨_,rfl⟩;rw[<- hk0];refine al (upd _ c _) fc rfl fun H2 c2 s2=>?_;have ncm:c≠m:=fun z=>by rw[z,m1] at fc;cases fc
 have OV:Y7 ok H2 (vts.drop k0) (P0.over.drop k0):=(a7.drop k0).keep (fun x o _ z=>s2 _ _ (s1 _ _ z)) (fun x o z=>s2 _ _ (s1 _ _ z));have m2:=s2 _ _ m1;have hin:∀ s∈P0.over.drop k0,s∈P0.over:=fun s hs=>List.mem_of_mem_drop hs;have hlen:(P0.over.drop k0).length<=100:=by rw[List.length_drop];have:=PO.1;omega
 generalize vts.drop k0=ds at c2 OV ⊢;refine⟨c,rfl,⟨_,SqL.of c2⟩,Xf (K:=K) (a:=c) (xs:=ds) (fun i σ H'=>(∃ v1 v2 v3 v4 v5,σ=[some (.ref d),some (.ref m),v1,v2,v3,v4,v5])/\(∀ x o,H2 x=some o->x≠m->H' x=some o) /\
  ∃ kvs,H' m=some (.dT kvs)/\Nd kvs (P0.over.drop k0) i 0/\kvs.length<=40*i) ⟨⟨_,_,_,_,_,rfl⟩,fun _ _ e _=>e,[],m2,.zero _,by simp⟩ (fun i σ H' _ ⟨_,k,_⟩=>SqL.of (k _ _ c2 ncm)) ?_ ?_⟩
 ·rintro i x σ H' hx ⟨⟨v1,v2,v3,v4,v5,rfl⟩,k2,kvs,hm,mi,kl⟩;obtain⟨t,l,g,mm,y,ts,s,rfl,hs,ht,hl,tl,hg,_,_⟩:=OV.get hx;have htn:t≠m:=Yw ht m2 (by intro z;cases z);have hln:l≠m:=Yw hl m2 (by intro z;cases z);have hgn:g≠m:=Yw hg m2 (by intro z;cases z);refine⟨t,_,rfl,SqT.of (k2 _ _ ht htn),rfl,_,_,rfl,_,_,rfl,_,_,rfl,_,_,rfl,rfl,?_⟩;have hsz:=PO.2.2 s (hin s (zu2 hs));have hi:i<ds.length:=(zux.mp hx).1;have hdl:=OV.length;have tln:ts.length=s.ms.length:=by rw[tl.length,zuw]
  have rln:(Ye s).length=s.ms.length:=by unfold Ye;rw[List.length_zipWith,hsz.2.1,Nat.min_self]
  refine⟨_,rfl,l,ts,rfl,.inl (SqL.of (k2 _ _ hl hln)),_,rfl,by omega,by omega,Wk (fun j σ H'=>(∃ v,σ=[some (.ref d),some (.ref m),some (.ref l),some (.ref g),some (.ref mm),some (.ref y),v])/\(∀ x o,H2 x=some o->x≠m->H' x=some o) /\
   ∃ kvs,H' m=some (.dT kvs)/\Nd kvs (P0.over.drop k0) i j/\kvs.length<=40*i+2*j) ⟨⟨_,rfl⟩,k2,kvs,hm,mi,by omega⟩ ?_ ?_⟩
  ·rintro j σ H3 hj ⟨⟨v,rfl⟩,k3,kvs3,hm3,mi3,kl3⟩;rw[zve] at hj;rw[zwf];have hj2:j<s.gv.length:=by omega
   have hg3:s.gv[j]?=some (s.gv[j]'hj2):=zuy hj2;have hone:=hsz.2.2 _ (zvs hj2);generalize s.gv[j]'hj2=xv at hg3 hone;have ht3:ts[j]?=some (ts[j]'hj):=zuy hj;obtain⟨tj,mj,e1,hmj,htj⟩:=Ig tl ht3;rw[e1] at ht3;have htjn:tj≠m:=Yw htj m2 (by intro z;cases z);have hr3:(Ye s)[j]?=some (Ah mj xv):=by unfold Ye;rw[List.getElem?_zipWith,hmj,hg3]
   refine⟨_,rfl,_,rfl,g,_,_,_,rfl,rfl,SqL.of (k3 _ _ hg hgn),Z7 hg3,rfl,_,rfl,?_⟩;rcases hone with rfl|⟨w,rfl⟩
   ·refine iteF ?_;exact⟨⟨_,rfl⟩,k3,kvs3,hm3,mi3.none hs hr3 rfl,by omega⟩
   ·refine iteT ?_;refine⟨_,rfl,_,rfl,_,rfl,g,_,_,_,rfl,rfl,SqL.of (k3 _ _ hg hgn),Z7 hg3,?_⟩;have big:∀ n:Nat,n<=200000->n<sizeLine:=fun n hn=>Nat.lt_trans (zwk hn ⋯) Ur;refine⟨_,rfl,_,rfl,l,_,_,_,rfl,rfl,SqL.of (k3 _ _ hl hln),Z7 ht3,tj,_,_,_,rfl,rfl,SqT.of (k3 _ _ htj htjn),rfl,sz2,fun t2 ht2=>⟨m,_,rfl,DPut.t (k:=[inl w,inl mj.1]) (by rw[Zf (Zh hm3 ht2)];exact hm3) Ze (big _ ⋯),?_⟩⟩;have k4:∀ x o,H2 x=some o->x≠m->upd (upd H3 t2 (.tup [.int w,.int mj.1])) m (.dT (putK kvs3 [inl w,inl mj.1] (.bl true))) x=some o:=fun x o e n=>by
     have:=k3 x o e n;rw[Zf n,Zf (Zh this ht2)];exact this
    have hm4:upd (upd H3 t2 (.tup [.int w,.int mj.1])) m (.dT (putK kvs3 [inl w,inl mj.1] (.bl true))) m=some (.dT (putK kvs3 [inl w,inl mj.1] (.bl true))):=Ze;have l4:=Xx kvs3 ([inl w,inl mj.1]:List Key) (.bl true);generalize upd (upd H3 t2 (.tup [.int w,.int mj.1])) m (.dT (putK kvs3 [inl w,inl mj.1] (.bl true)))=H4 at k4 hm4 ⊢;refine⟨_,rfl,_,rfl,_,rfl,g,_,_,_,rfl,rfl,SqL.of (k4 _ _ hg hgn),Z7 hg3,?_⟩;refine⟨_,rfl,_,rfl,l,_,_,_,rfl,rfl,SqL.of (k4 _ _ hl hln),Z7 ht3,tj,_,_,_,rfl,rfl,SqT.of (k4 _ _ htj htjn),rfl,sz2,fun t4 ht4=>⟨m,_,rfl,DPut.t (k:=[inl w,inl mj.2.1]) (by rw[Zf (Zh hm4 ht4)];exact hm4) Ze (big _ ⋯),?_⟩⟩;have l5:=Xx (putK kvs3 ([inl w,inl mj.1]:List Key) (.bl true)) ([inl w,inl mj.2.1]:List Key) (.bl true);refine⟨⟨_,rfl⟩,fun x o e n=>?_,_,Ze,mi3.some hs hr3 rfl,by omega⟩;have:=k4 x o e n;rw[Zf n,Zf (Zh this ht4)];exact this
  ·rintro σ H3 ⟨⟨v,rfl⟩,k3,kvs3,hm3,mi3,kl3⟩;rw[zve] at mi3 kl3;rw[tln,<- rln] at mi3;exact⟨⟨_,_,_,_,_,rfl⟩,k3,kvs3,hm3,mi3.next hs,by omega⟩
 ·rintro σ H' ⟨⟨v1,v2,v3,v4,v5,rfl⟩,k2,kvs,hm,mi,kl⟩;rw[OV.length] at mi;refine⟨_,rfl,h m kvs H' hm (mi.all hk0) (fun x o e=>k2 _ _ (s2 _ _ (s1 _ _ e)) (Zh e fm)) fm⟩
abbrev Nt:Stmt:=top 73
theorem We:Zl ["_law_page","_law_met_here","_law_person","_law_match","_law_number","_law_grade","_law_club","_law_home","_law_guest","_law_asked","_law_told"] ["_law_page","_law_met_here","_law_person","_law_match"] (Zi Nt):=fnS
theorem zae(F:Fun K "_law_bars" "_law_bars" Nt f fd)(T:Tx K mg a):FnOk P w K mg base (CX1 P w) 1 f fd ["_law_page","_law_met_here","_law_person","_law_match"] (A0 K):=by
 refine F.okX We ⋯ fun _ _ _ _ H _ Q E hr h=>?_;obtain⟨ok,d,m,t1,t2,P0,kvs,x,y,rfl,PA,hm,mo,h1,h2,h⟩:=h;have hu:=W0 hr;refine⟨_,(Zb (Qy (pv 2) (Xy (K:=K) (n:=3) rfl rfl (Zw (pN 4 We.nd) (Zw (pN 5 We.nd) (Zw (pN 6 We.nd) Xw)))))
 (Zb (Qy (pv 3) (Xy (K:=K) (n:=3) rfl rfl (Zw (pN 7 We.nd) (Zw (pN 8 We.nd) (Zw (pN 9 We.nd) Xw)))))
 (Zb (pS 10 We.nd (Z9 Zc))
 (Zb (Z4 (Zp (Co (K:=K) rfl hr.units) (Yd (Za (Zt Yz (Zn (cL K) (by rfl) T.zm9 PySem.boot_len (Za (pD hu (pv 0) Zo) Zc)) Zg) (Za (pv 4) Zc))) (pD hu (pv 0) Zo) (by with_unfolding_all rfl))
  (Zd (Yu (pv 10) Zo))
  Zq)
 (Zb (Z4 (Zp Sa (pv 9) (pv 5) (Zu _))
  (Zd (Yu (pv 10) Zo))
  Zq)
 (Zb (Z4 (PW.pt (Vk (Zp Wd (pv 6) (pv 7) (Zu _)) (Wn (Zp Wd (pv 6) (pv 8) (Zu _)))))
  (Zd (Yu (pv 10) Zo))
  Zq)
 (Zb (Z4 (PW.pt (Vk (Rr (M6 hu (Yd (Za (pv 4) (Za (pv 7) Zc))) (pv 1))) (Wn (Rr (M6 hu (Yd (Za (pv 4) (Za (pv 8) Zc))) (pv 1))))))
  (Zd (Yu (pv 10) Zo))
  Zq)
 (Zd (Zm (pv 10)))))))))),?_⟩
 show let y1:TS:=_;let y2:TS:=Zz _ y1;let y3:TS:=Zz _ y2;let y4:TS:=Zz _ y3;let y5:TS:=Zz _ y4;let y6:TS:=Zz _ y5;let y7:TS:=Zz _ y6;Zz _ y7 _ _ _;intro y1 y2 y3 y4 y5 y6 y7;obtain⟨n,g,c⟩:=x;obtain⟨ho,gu,as⟩:=y;have h1:H t1=some (.tup [.int n,.int g,.int c]):=h1;have h2:H t2=some (.tup [.int ho,.int gu,.int as]):=h2;obtain⟨lp,lo,lv,dv,li,lg,lm,pts,ots,vts,mts,a1,a2,a3,a4,a5,a6,a7,a8,a9,c1,c2,c3,o1,o2,o3,o4,o5,o6⟩:=PA;refine⟨_,rfl,t1,_,rfl,SqT.of h1,rfl,_,_,rfl,_,_,rfl,_,_,rfl,rfl,?_⟩;refine⟨_,rfl,t2,_,rfl,SqT.of h2,rfl,_,_,rfl,_,_,rfl,_,_,rfl,rfl,?_⟩;refine⟨by show 0<=sizeLine;decide,fun l hl=>?_⟩;refine al (upd _ l _) hl rfl fun H1 TH1 s1=>?_;have q1:H1 l=some (.lst (([]:List Str).map V.str)):=TH1;walk_at "if";have b1:=Lh (decide (((P0.over.length:Int)+1,n)∈P0.out)) "away";have b2:=Lh (decide (g<as)) "grade";have b3:=Lh (decide (c=ho)||decide (c=gu)) "club";refine Sf (b:=decide (((P0.over.length:Int)+1,n)∈P0.out)) (H0:=H) (fun Q q=>?_) hl s1 q1 ⋯ rfl (fun H2 s2 q2 _=>?_)
 ·refine⟨_,rfl,d,_,rfl,DGet.k (k:=.inr "over") (s1 _ _ a1),lv,vts,rfl,.inl (SqL.of (s1 _ _ a6)),_,_,rfl,rfl,_,rfl,sz2,fun t ht=>?_⟩;have s3:=Zk (o:=.tup [.int ((vts.length:Int)+1),.int n]) ht;refine⟨_,rfl,d,_,rfl,DGet.k (k:=.inr "out") (s3 _ _ (s1 _ _ a1)),t,lo,ots,_,_,P0.out,rfl,rfl,SqT.of Ze,SqL.of (s3 _ _ (s1 _ _ a4)),(a5.mono fun _ _ z=>s3 _ _ (s1 _ _ z)),_,rfl,?_⟩;rw[a7.length] at s3 ⊢;exact q _ s3
 rw[List.nil_append] at q2;have din:∀ (H3:Hp) (cc:Int) (Q3:Bool->Hp->Prop),Same H H3->(∀ H4,Same H3 H4->Q3 (Qj (P0.over.map Ye) n cc P0.rest) H4)->∀ t,H3 t=none->Q3 (valV kvs [inl n,inl cc]).isSome (upd H3 t (.tup [.int n,.int cc])):=fun H3 cc Q3 s3 q3 t ht=>by
  rw[mo n cc];exact q3 _ (Zk ht)
 refine Sf (b:=decide (g<as)) (H0:=H) (Rv fun Q q=>⟨_,rfl,_,rfl,_,_,rfl,rfl,_,rfl,q⟩) hl s2 q2 ⋯ rfl (fun H3 s3 q3 _=>?_);refine Sf (b:=decide (c=ho)||decide (c=gu)) (H0:=H) (Rv (Th (fun Q q=>⟨_,rfl,_,rfl,rfl,_,rfl,Rf▸q⟩) (fun Q q=>⟨_,rfl,_,rfl,rfl,_,rfl,Rf▸q⟩))) hl s3 q3 (by rw[zuz];omega) rfl (fun H4 s4 q4 _=>?_);refine Sf (b:=Qj (P0.over.map Ye) n ho P0.rest||Qj (P0.over.map Ye) n gu P0.rest) (H0:=H) (B0 (fun Q q=>?_) (fun H5 s5 Q q=>?_)) hl s4 q4 (by rw[zuz,zuz];omega) rfl (fun H5 s5 q5 _=>?_)
 ·exact⟨_,rfl,_,rfl,sz2,fun t ht=>⟨_,rfl,m,_,rfl,DGet.t (k:=[inl n,inl ho]) (Zk ht _ _ (s4 _ _ hm)) Ze,_,rfl,din _ ho _ s4 q t ht⟩⟩
 ·exact⟨_,rfl,_,rfl,sz2,fun t ht=>⟨_,rfl,m,_,rfl,DGet.t (k:=[inl n,inl gu]) (Zk ht _ _ (s5 _ _ (s4 _ _ hm))) Ze,_,rfl,din _ gu _ (s4.trans s5) q t ht⟩⟩
 refine⟨_,rfl,h l H5 ?_ s5 hl⟩;unfold Oe whyS;rw[q5,zwr,zwr]
abbrev Nu:Stmt:=top 74
theorem Uv:Zl ["_law_page","_law_met_here","_law_may","_law_match","_law_fit"] ["_law_page"] (Zi Nu):=fnS
theorem zaf(F:Fun K "_law_open" "_law_open" Nu f fd)(T:Tx K mg a)(zri:Z2 P w K mg base "_law_met" 1 ["_law_page"] (zc9 K))(zq5:Z2 P w K mg base "_law_bars" 1 ["_law_page","_law_met_here","_law_person","_law_match"] (A0 K)):FnOk P w K mg base (CX1 P w) 2 f fd ["_law_page"] (zbp K):=by
 refine F.okX Uv ⋯ fun _ _ _ _ H _ Q E hr h=>?_;obtain⟨ok,d,P0,ms,rfl,PA,PO,hms,hl1,hl2,h⟩:=h;have hu:=W0 hr;refine⟨_,(Zb (pS 1 Uv.nd (pF zri hr (Za (pv 0) Zc)))
 (Zb (pS 2 Uv.nd (Z9 Zc))
 (Zb (Yy PassesOwn.leaving rfl (Yc (K:=K) rfl (pD hu (pv 0) Zo)) (pN 3 Uv.nd)
  (Zb (Uu (i:=4) Uv.nd rfl rfl rfl (cT ["_law_page","_law_met_here","_law_match"] [0,1,3]) (Yc (K:=K) rfl (pD hu (pv 0) Zo)) (fun _ _ _ _ _=>Se (Zp (zcn (K:=K) rfl hr.units) (zcl zq5 (hr.mono ⋯) zck rfl (Za (pv 1) (Za (pv 2) (Za (pv 0) (Za (pv 3) Zc))))) (Z9 Zc) (Zu _))) (fun _ _ _ _ _=>(pv 0)))
  (Zd (Yu (pv 2) (Vv rfl (cT [] []) (Yc (K:=K) rfl (pv 4)) (fun _ _ _ _ _=>U7) (fun _ _ _ _ _=>(pI (iU K) (pv 0) Zg)))))))
 (Zd (Zm (pv 2)))))),?_⟩
 refine⟨_,rfl,ok,d,P0,rfl,PA,PO,fun m kvs H1 hm mo s1 fm=>?_⟩;obtain⟨lp,lo,lv,dv,li,lg,lm,pts,ots,vts,mts,a1,a2,a3,a4,a5,a6,a7,a8,a9,c1,c2,c3,o1,o2,o3,o4,o5,o6⟩:=id PA;refine⟨by show 0<=sizeLine;decide,fun r hr'=>?_⟩;have s2:=s1.trans (Zk (o:=.lst []) hr');have q2:upd H1 r (.lst []) r=some (.lst []):=Ze;have hm2:upd H1 r (.lst []) m=some (.dT kvs):=Zk hr' _ _ hm;have fr:=s1.free hr';walk_at "if";generalize upd H1 r (.lst [])=H2 at s2 q2 hm2 ⊢;rw[hms] at a9;obtain⟨ll,ts,rfl,hll,tl,_⟩:=a9;have htl:ts.length=ms.length:=by rw[tl.length,zuw]
 have hpl:pts.length=P0.ppl.length:=by rw[a3.length,zuw]
 have hmr:m≠r:=fun z=>by rw[z,q2] at hm2;cases hm2
 refine⟨_,rfl,d,_,rfl,DGet.k (k:=.inr "listed") (s2 _ _ a1),ll,rfl,⟨_,SqL.of (s2 _ _ hll)⟩,Xf (K:=K) (a:=ll) (xs:=ts) (fun i σ H'=>(∃ v1 v2,σ=[some (.ref d),some (.ref m),some (.ref r),v1,v2])/\(∀ x o,H2 x=some o->x≠r->H' x=some o) /\
  ∃ ls,H' r=some (.lst (ls.map V.ref))/\ILs H' ls ((Qt P0 ms).take i)/\ls.length=i/\∀ x∈ls,H x=none/\x≠r) ⟨⟨_,_,rfl⟩,fun _ _ e _=>e,[],q2,.nil,rfl,by simp⟩ (fun i σ H' _ ⟨_,k,_⟩=>SqL.of (k _ _ (s2 _ _ hll) (Zh hll fr))) ?_ ?_⟩
 ·rintro i x σ H' hx ⟨⟨v1,v2,rfl⟩,k2,ls,hr3,il,hln,hfr⟩;obtain⟨t,mm,rfl,hmm,ht⟩:=Ig tl hx;have sh:Same H H':=fun x o e=>k2 _ _ (s2 _ _ e) (Zh e fr);refine⟨_,rfl,d,_,rfl,DGet.k (k:=.inr "people") (sh _ _ a1),lp,rfl,⟨_,SqL.of (sh _ _ a2)⟩,?_⟩;refine Wl (K:=K) (a:=lp) (xs:=pts) (fun i ys H''=>Same H' H''/\Z8 H'' ys (((P0.ppl.take i).filter fun x=>(Oe P0 x mm).isEmpty).map pV)) ⟨Same.refl _,.nil⟩ (fun i ys H'' _ ⟨z,_⟩=>SqL.of (z _ _ (sh _ _ a2))) (szN ⋯) (fun i ys H' ⟨_,e⟩=>by rw[e.length,zuw];exact zvb (zvr _ _) (zwj _ _)) ?_ ?_
  ·rintro j x ys H3 hx3 ⟨s3,tl3⟩;obtain⟨tp,pp,rfl,hpp,htp⟩:=Ig a3 hx3;have sh3:=sh.trans s3;refine⟨_,rfl,_,rfl,_,rfl,_,rfl,ok,d,m,tp,t,P0,kvs,pp,mm,rfl,PA.same sh3,s3 _ _ (k2 _ _ hm2 hmr),mo,sh3 _ _ htp,sh3 _ _ ht,fun lw H4 hlw s4 fw=>?_⟩;refine⟨by show 0<=sizeLine;decide,fun le hle=>?_⟩;have s5:=s4.trans (Zk (o:=.lst []) hle);refine⟨_,_,.lst (SqL.of (Zk hle _ _ hlw)) (Hk _),.lst (SqL.of Ze) .nil,zh7 _ zh8,Py,_,rfl,?_⟩;generalize upd H4 le (.lst [])=H5 at s5 ⊢;rw[if_neg (show ¬ false=true by decide),Jv];have e:P0.ppl.take (j+1)=P0.ppl.take j++[pp]:=Wm hpp;rw[e,zv9,zu5];refine itB (fun hb=>?_) (fun hb=>?_)
   ·refine⟨_,rfl,s3.trans s5,?_⟩;rw[zwa (p:=fun x=>(Oe P0 x mm).isEmpty) (a:=pp) hb,zwy];exact(tl3.same s5).snoc (s5 _ _ (sh3 _ _ htp))
   ·refine⟨s3.trans s5,?_⟩;rw[zwb (p:=fun x=>(Oe P0 x mm).isEmpty) (a:=pp) (by rw[hb];decide),zwy,List.map_nil,zw4];exact tl3.same s5
  ·rintro ys H3 ⟨s3,tl3⟩ lf hlf;rw[hpl,zvf] at tl3;have s4:=s3.trans (Zk (o:=.lst ys) hlf);have q4:upd H3 lf (.lst ys) lf=some (.lst ys):=Ze;have tl4:=tl3.same (Zk (o:=.lst ys) hlf);show W4 4 (V.ref lf) _ (upd H3 lf (.lst ys)) _;generalize upd H3 lf (.lst ys)=H4 at s4 q4 tl4 ⊢;have hfl:ys.length<=100:=by rw[tl3.length,zuw];exact zvb (zvr _ _) hl2
   walk_at "if";refine⟨_,rfl,r,_,rfl,s4 _ _ hr3,_,rfl,lf,rfl,⟨_,SqL.of q4⟩,Wl (K:=K) (a:=lf) (xs:=ys) (fun i zs H''=>Same H4 H''/\zs=((P0.ppl.filter fun x=>(Oe P0 x mm).isEmpty).take i).map fun x=>V.int x.1) ⟨Same.refl _,rfl⟩ (fun i zs H'' _ ⟨z,_⟩=>SqL.of (z _ _ q4)) (szN ⋯) (fun i zs H'' ⟨_,e⟩=>by rw[e,zuw];exact zwj _ _) ?_ ?_⟩
   ·rintro j x zs H5 hx5 ⟨s5,rfl⟩;obtain⟨tp,pp,rfl,hpp,htp⟩:=Ig tl4 hx5;unfold tYes;dsimp only;rw[if_pos rfl];refine⟨_,rfl,tp,_,_,_,rfl,rfl,SqT.of (s5 _ _ htp),(show atI (pV pp) 0=some _ from rfl),s5,?_⟩;rw[Wm hpp,zu5];rfl
   ·rintro zs H5 ⟨s5,rfl⟩ ln hln';have hyl:ys.length=(P0.ppl.filter fun x=>(Oe P0 x mm).isEmpty).length:=by rw[tl3.length,zuw]
    rw[hyl,zvf];have er:(P0.ppl.filter fun x=>(Oe P0 x mm).isEmpty).map (fun x=>V.int x.1)=((P0.ppl.filter fun x=>(Oe P0 x mm).isEmpty).map (·.1)).map V.int:=by rw[zwe];rfl
    rw[er];have s6:=(s4.trans s5).trans (Zk (o:=.lst (((P0.ppl.filter fun x=>(Oe P0 x mm).isEmpty).map (·.1)).map V.int)) hln');have q6:upd H5 ln (.lst (((P0.ppl.filter fun x=>(Oe P0 x mm).isEmpty).map (·.1)).map V.int)) ln=some (.lst (((P0.ppl.filter fun x=>(Oe P0 x mm).isEmpty).map (·.1)).map V.int)):=Ze;have fl:H' ln=none:=(s4.trans s5).free hln';dsimp only;generalize upd H5 ln (.lst (((P0.ppl.filter fun x=>(Oe P0 x mm).isEmpty).map (·.1)).map V.int))=H6 at s6 q6 ⊢;refine⟨_,s6 _ _ hr3,szN (by rw[zuw];have:=(zux.mp hx).1;omega),⟨_,_,rfl⟩,fun x o e n=>by rw[Zf n];exact s6 _ _ (k2 _ _ e n),ls++[ln],by rw[zu5];exact Ze,?_,by rw[zuz,hln];rfl,fun y hy=>?_⟩
    ·have e:(Qt P0 ms).take (i+1)=(Qt P0 ms).take i++[(P0.ppl.filter fun x=>(Oe P0 x mm).isEmpty).map (·.1)]:=by
      unfold Qt;rw[zwg,zu1,hmm];rfl
     rw[e];refine ILs.snoc (by rw[Zf (Zh hr3 fl).symm];exact q6) (il.keep fun x hx' o q=>?_);rw[Zf (hfr x hx').2];exact s6 _ _ q
    ·rcases zu8.mp hy with z|z
     ·exact hfr y z
     ·rw[zu0.mp z];exact⟨sh.free fl,(Zh hr3 fl).symm⟩
 ·rintro σ H' ⟨⟨v1,v2,rfl⟩,k2,ls,hr3,il,hln,hfr⟩;have sh:Same H H':=fun x o e=>k2 _ _ (s2 _ _ e) (Zh e fr);have hml:(Qt P0 ms).length=ms.length:=by unfold Qt;rw[zuw]
  rw[htl,<- hml,zvf] at il;exact⟨_,rfl,h r ls H' hr3 il sh fr fun x hx=>(hfr x hx).1⟩
abbrev Pp:Stmt:=top 75
theorem Tb:Zl ["_law_pages","_law_deed_here","_law_page","_law_at_here","_law_kept"] ["_law_pages","_law_deed_here"] (Zi Pp):=fnS
theorem C5(F:Fun K "_law_paged" "_law_paged" Pp f fd)(T:Tx K mg a)(zoz:Z2 P w K mg base "_law_open" 2 ["_law_page"] (zbp K)):FnOk P w K mg base (CX1 P w) 3 f fd ["_law_pages","_law_deed_here"] (Cp K):=by
 refine F.okX Tb ⋯ fun _ _ _ _ H _ Q E hr h=>?_;obtain⟨ok,l,t,ds,d,P0,D,rfl,hl,PA,hD,PO,hpl,hol,hdl,hcl,h⟩:=h;have hu:=W0 hr;refine⟨_,(Zb (pS 2 Tb.nd (Xl zbk (by rfl) T.zsh PyProof.Rows.boot_dict (Za (pI (iL K) (pv 0) (N4 Ru Zg)) Zc)))
 (Zb (pS 3 Tb.nd (Zt Yz (Zn (cL K) (by rfl) T.zm9 PySem.boot_len (Za (pD hu (pv 2) Zo) Zc)) Zg))
 (Zb (Z4 (Zp Wd (pI (iU K) (pv 1) Zg) Zo (Zu _))
  (Zd (Zm (Bq (Bx (K:=K) rfl) (pv 0) zce (zcf (N4 Ru Zg)))))
  Zq)
 (Zb (Z4 (Zp Wd (pI (iU K) (pv 1) Zg) Zo (Zu _))
  (Zb (pS 4 Tb.nd (Yd (Za (pD hu (pv 2) Zo) (Za (pD hu (pv 2) Zo) (Za (pD hu (pv 2) Zo) (Za (pF zoz hr (Za (pv 2) Zc)) Zc))))))
  (Zb (Yq hu (pv 2) Zo (Zt Ox (pD hu (pv 2) Zo) (Z9 (Za (pv 4) Zc))) rfl)
  (Zb (Yq hu (pv 2) Zo Y3 rfl)
  (Zb (Yq hu (pv 2) Zo (Z9 Zc) rfl)
  (Zb (Yq hu (pv 2) Zo (Z9 Zc) rfl)
  (Zd (Zm (Z9 (Za (pv 2) Zc)))))))))
  Zq)
 (Zb (Z4 (Zp Wd (pI (iU K) (pv 1) Zg) Zo (Zu _))
  (Zb (Yq hu (pv 2) Zo (Zt Ox (pD hu (pv 2) Zo) (Z9 (Za (Yd (Za (pI (iU K) (pv 1) Zg) (Za (pI (iU K) (pv 1) Zg) (Za (pI (iU K) (pv 1) Zg) Zc)))) Zc))) rfl)
  (Zd (Yq hu (pv 2) Zo (Yd (Za Zo (Za (pI (iU K) (pv 1) Zg) (Za (pv 3) Zc)))) rfl)))
  (Zd (Z4 (Zp Wd (pI (iU K) (pv 1) Zg) Zo (Zu _))
   (Zb (Yq hu (pv 2) Zo (pI (iU K) (pv 1) Zg) rfl)
   (Zd (Yq hu (pv 2) Zo (Yd (Za Zo (Za (Zn (cL K) (by rfl) T.zm9 PySem.boot_len (Za (pI (iU K) (pv 1) Zg) Zc)) (Za (pv 3) Zc)))) rfl)))
   (Zb (Yq hu (pv 2) Zo (Zt Ox (pD hu (pv 2) Zo) (Z9 (Za (Yd (Za (pI (iU K) (pv 1) Zg) (Za (pI (iU K) (pv 1) Zg) Zc))) Zc))) rfl)
   (Zd (Yq hu (pv 2) Zo (Yd (Za Zo (Za (pI (iU K) (pv 1) Zg) (Za (pI (iU K) (pv 1) Zg) Zc)))) rfl))))))
 (Zd (Zm (Zt Ox (pv 0) (Z9 (Za (pv 2) Zc)))))))))),?_⟩
 show let y1:TS:=_;let y2:TS:=Zz _ y1;let y3:TS:=Zz _ y2;let y4:TS:=Zz _ y3;let y5:TS:=Zz _ y4;let y6:TS:=_;let y7:TS:=Zz _ y6;let y8:TS:=Zz (G8 _ (Zz _ y5) _) y7;let y9:TS:=Zz _ y8;let y10:TS:=Zz _ y9;Zz _ y10 _ _ _;intro y1 y2 y3 y4 y5 y6 y7 y8 y9 y10;obtain⟨lp,lo,lv,dv,li,lg,lm,a1,PB,okd⟩:=id PA.split;have hat:atI ((ds++[d]).map V.ref) (-1)=some (V.ref d):=by rw[zu5];exact L2.atI_last _ _
 refine⟨_,rfl,_,rfl,l,_,_,_,rfl,rfl,SqL.of hl,hat,d,_,rfl,.inl a1,fun d' fd'=>al (upd _ d' _) fd' rfl fun H1 q1 s1=>?_⟩;obtain⟨ok1,hok1⟩:∃ ok1:Addr->Prop,ok1=fun x=>ok x\/H x=none:=⟨_,rfl⟩;have okf:∀ x,H x=none->ok1 x:=fun x hx=>by rw[hok1];exact .inr hx
 have oko:∀ x,ok x->ok1 x:=fun x hx=>by rw[hok1];exact .inl hx
 rw[<- hok1] at h;have PB1:=(PB.imp (fun x _ o=>oko x o)).keepL (.of s1);walk_at "if";have PA1:PgAt ok1 H1 d' P0:=.join q1 PB1 (okf _ fd');obtain⟨vts,v1,v2,v3⟩:=PB1.vv;refine⟨_,rfl,d',_,rfl,DGet.k (k:=.inr "over") q1,lv,vts,rfl,.inl (SqL.of v1),_,_,rfl,rfl,?_⟩;rw[v2.length];have sz0:([]:List V).length<=sizeLine:=zvo _;have sz3:∀ {x y z:V},[x,y,z].length<=sizeLine:=fun {x y z}=>by show 3<=sizeLine;rw[sizeLine_eq];decide
 have sz1:∀ x:V,[x].length<=sizeLine:=fun x=>by show 1<=sizeLine;rw[sizeLine_eq];decide
 walk_at "if";have fin:Ls ds d d' D=ds++[d]++[d']->∀ v Hx,PgAt ok1 Hx d' (Vc P0 D)->Same H Hx->y6 { nx:=fun x H'=>Q V.non H',rt:=Q } [some (.ref l),some (.ref t),some (.ref d'),some (.int ((P0.over.length:Int)+1)),v] Hx:=fun ek v Hx PAx sx=>by
  refine⟨_,rfl,_,rfl,sz1 _,fun l2 f2=>al (upd _ l2 _) f2 rfl fun H8 t8 s8=>⟨l,l2,_,_,rfl,rfl,(sx.trans s8) _ _ hl,t8,szN (by rw[zuw,zuz];show ds.length+1+1<=1000;omega),fun lr flr=>al (upd _ lr _) flr rfl fun H9 t9 s9=>?_⟩⟩;have s89:=s8.trans s9;exact h lr d' H9 (by rw[ek,t9,zu5 (l₁:=ds++[d])];rfl) (fun _=>PAx.same s89) (sx.trans s89) (sx.free (s8.free flr)) fd'
 cases D with
 | back =>
   have ht:H t=some (.tup [.str "take back"]):=hD;refine Yp (zdc rfl (s1 _ _ ht) ⟨_,rfl,_,rfl,_,rfl,l,_,rfl,SqL.of (s1 _ _ hl),fun c fc=>?_⟩);rw[zu5,show G9 (ds.map V.ref++[d].map V.ref) none (some (-1))=ds.map V.ref from zgu _ _];exact h c d' _ Ze (fun z=>absurd rfl z) (s1.trans (Zk fc)) (s1.free fc) fd'
 | close =>
   have ht:H t=some (.tup [.str "close"]):=hD;obtain⟨ms,hms,hml⟩:=hcl rfl;refine Nf rfl (s1 _ _ ht) ⋯ (Yp (zdc rfl (s1 _ _ ht) ⟨_,rfl,d',_,rfl,DGet.k (k:=.inr "listed") q1,_,rfl,d',_,rfl,DGet.k (k:=.inr "goes") q1,_,rfl,d',_,rfl,DGet.k (k:=.inr "moves") q1,_,rfl,ok1,d',P0,ms,rfl,PA1,PO,hms,hml,hpl,fun ly ls H2 hly ily s2 fly fls=>⟨by show 4<=sizeLine;rw[sizeLine_eq];decide,fun tk ftk=>al (upd _ tk _) ftk rfl fun H3 t3 s3=>?_⟩⟩));obtain⟨ll,ts,rfl,b1,b2,b3⟩:∃ l ts,li=.ref l/\H1 l=some (.lst ts)/\Z8 H1 ts (ms.map pV)/\ok1 l:=by have:=PB1.li;rw[hms] at this;exact this
   obtain⟨mts,c1,c2,c3⟩:=PB1.mm;obtain⟨g1,g2⟩:=PB1.gg;have s13:=s2.trans s3;walk_at "if";refine⟨_,rfl,d',_,rfl,DGet.k (k:=.inr "over") (s13 _ _ q1),_,rfl,sz1 _,fun l1 f1=>al (upd _ l1 _) f1 rfl fun H4 t4 s4=>⟨lv,l1,vts,_,rfl,rfl,(s13.trans s4) _ _ v1,t4,szN (by rw[v2.length];have:=PO.1;show P0.over.length+1<=1000;omega),fun lv' fv'=>al (upd _ lv' _) fv' rfl fun H5 t5 s5=>?_⟩⟩;have s35:=s4.trans s5;have s15:=s13.trans s35;refine pgw { P0 with over:=P0.over++[⟨ms,Qt P0 ms,P0.gv,P0.mv⟩] } rfl (PA1.same s15) fd' (s1.trans s15) (fun {_ _ _ _ _ _ _ H'} kk b=>?_) fun H6 PA6 s6=>?_
   ·have k1:=(Wa.of s15).trans kk;have k3:=(Wa.of s35).trans kk;exact⟨_,_,lv',_,_,_,_,zgr,b.pp,b.oo,⟨_,kk.1 _ _ t5,Y7.snoc (s:=⟨ms,Qt P0 ms,P0.gv,P0.mv⟩) (k3.2 _ _ t3) (k1.1 _ _ b1) (b2.mono k1.2) (k1.1 _ _ g1) (k1.1 _ _ c1) (c2.keepL k1) (k3.1 _ _ (s3 _ _ hly)) (ILs.keepL k3 (ily.same s3)) ⟨b3,g2,c3,okf _ (s1.free fly),fun x hx=>okf _ (s1.free (fls x hx))⟩ (v2.keepL k1),okf _ (s1.free (s13.free (s4.free fv')))⟩,b.dd,b.li,b.gg,b.mm⟩
   refine pgw { P0 with over:=P0.over++[⟨ms,Qt P0 ms,P0.gv,P0.mv⟩],lis:=none } rfl PA6 fd' s6 (fun kk b=>⟨_,_,_,_,.non,_,_,Hg,b.pp,b.oo,b.vv,b.dd,rfl,b.gg,b.mm⟩) fun H7 PA7 s7=>⟨sz0,fun lg' fg'=>al (upd _ lg' _) fg' rfl fun H8 t8 s8=>?_⟩
   refine pgw { P0 with over:=P0.over++[⟨ms,Qt P0 ms,P0.gv,P0.mv⟩],lis:=none,gv:=[] } rfl (PA7.same s8) fd' (s7.trans s8) (fun kk b=>⟨_,_,_,_,_,lg',_,Ay,b.pp,b.oo,b.vv,b.dd,b.li,⟨kk.1 _ _ t8,okf _ (s7.free fg')⟩,b.mm⟩) fun H9 PA9 s9=>⟨sz0,fun lm' fm'=>al (upd _ lm' _) fm' rfl fun H10 t10 s10=>?_⟩
   refine pgw (Vc P0 .close) rfl (PA9.same s10) fd' (s9.trans s10) (fun kk b=>⟨_,_,_,_,_,_,lm',Dk,b.pp,b.oo,(by unfold Vc;rw[hms];exact b.vv),b.dd,b.li,b.gg,[],kk.1 _ _ t10,.nil,okf _ (s9.free fm')⟩) fun H11 PA11 s11=>⟨_,rfl,sz1 _,fun lr flr=>?_⟩
   exact h lr d' _ Ze (fun _=>PA11.same (Zk flr)) (s11.trans (Zk flr)) (s11.free flr) fd'
 | enrol n g c =>
   have ht:H t=some (.tup [.str "enrol",.int n,.int g,.int c]):=hD;obtain⟨pts,p1,p2,p3⟩:=PB1.pp;refine Nf rfl (s1 _ _ ht) ⋯ (Nf rfl (s1 _ _ ht) ⋯ (Yp (zdc rfl (s1 _ _ ht) ⟨_,rfl,d',_,rfl,DGet.k (k:=.inr "people") q1,_,rfl,t,_,_,_,rfl,rfl,SqT.of (s1 _ _ ht),rfl,_,rfl,t,_,_,_,rfl,rfl,SqT.of (s1 _ _ ht),rfl,_,rfl,t,_,_,_,rfl,rfl,SqT.of (s1 _ _ ht),rfl,sz3,fun tp ftp=>al (upd _ tp _) ftp rfl fun H2 t2 s2=>⟨sz1 _,fun l1 f1=>al (upd _ l1 _) f1 rfl fun H3 t3 s3=>⟨lp,l1,pts,_,rfl,rfl,(s2.trans s3) _ _ p1,t3,szN (by rw[p2.length,zuw];show _+1<=1000;omega),fun lp' fp'=>al (upd _ lp' _) fp' rfl fun H4 t4 s4=>?_⟩⟩⟩)));have s13:=s2.trans s3;have s14:=s13.trans s4;refine pgw { P0 with ppl:=P0.ppl++[(n,g,c)] } rfl (PA1.same s14) fd' (s1.trans s14) (fun kk b=>⟨lp',_,_,_,_,_,_,zbm,⟨_,kk.1 _ _ t4,?_,okf _ (s1.free (s13.free fp'))⟩,b.oo,b.vv,b.dd,b.li,b.gg,b.mm⟩) fun H5 PA5 s5=>⟨_,rfl,t,_,_,_,rfl,rfl,SqT.of (s5 _ _ ht),rfl,_,rfl,sz3,fun td ftd=>al (upd _ td _) ftd rfl fun H6 t6 s6=>?_⟩
   ·rw[zu5];exact((p2.same s14).mono kk.2).snoc (kk.2 _ _ (s4 _ _ (s3 _ _ t2)))
   exact pgw (Vc P0 (.enrol n g c)) rfl (PA5.same s6) fd' (s5.trans s6) (fun kk b=>⟨_,_,_,.ref td,_,_,_,Hf,b.pp,b.oo,b.vv,⟨td,rfl,kk.2 _ _ t6⟩,b.li,b.gg,b.mm⟩) fun H7 PA7 s7=>fin rfl _ H7 PA7 s7
 | draw ms =>
   obtain⟨ll,ts,ht,hll,tl,okl⟩:∃ l ts,H t=some (.tup [.str "draw up",.ref l])/\H l=some (.lst ts)/\Z8 H ts (ms.map pV)/\ok l:=hD;have ez:(ts.length:Int)=(ms.length:Int):=by rw[tl.length,zuw]
   refine Nf rfl (s1 _ _ ht) ⋯ (Nf rfl (s1 _ _ ht) ⋯ (Yp (zkb rfl (s1 _ _ ht) ⋯ (zdc rfl (s1 _ _ ht) ⟨_,rfl,t,_,_,_,rfl,rfl,SqT.of (s1 _ _ ht),rfl,?_⟩))));refine pgw { P0 with lis:=some ms } rfl PA1 fd' s1 (fun kk b=>⟨_,_,_,_,.ref ll,_,_,Hg,b.pp,b.oo,b.vv,b.dd,⟨ll,ts,rfl,kk.1 _ _ (s1 _ _ hll),(tl.same s1).mono kk.2,oko _ okl⟩,b.gg,b.mm⟩) fun H5 PA5 s5=>⟨_,rfl,t,_,_,_,rfl,rfl,SqT.of (s5 _ _ ht),rfl,ll,ts,rfl,.inl (SqL.of (s5 _ _ hll)),_,rfl,sz3,fun td ftd=>al (upd _ td _) ftd rfl fun H6 t6 s6=>?_⟩
   rw[ez] at t6;exact pgw (Vc P0 (.draw ms)) rfl (PA5.same s6) fd' (s5.trans s6) (fun kk b=>⟨_,_,_,.ref td,_,_,_,Hf,b.pp,b.oo,b.vv,⟨td,rfl,kk.2 _ _ t6⟩,b.li,b.gg,b.mm⟩) fun H7 PA7 s7=>fin rfl _ H7 PA7 s7
 | away i n =>
   have ht:H t=some (.tup [.str "away",.int i,.int n]):=hD;obtain⟨pts,p1,p2,p3⟩:=PB1.oo;refine Nf rfl (s1 _ _ ht) ⋯ (Nf rfl (s1 _ _ ht) ⋯ (Yp (zkb rfl (s1 _ _ ht) ⋯ (zkb rfl (s1 _ _ ht) ⋯ ⟨_,rfl,d',_,rfl,DGet.k (k:=.inr "out") q1,_,rfl,t,_,_,_,rfl,rfl,SqT.of (s1 _ _ ht),rfl,_,rfl,t,_,_,_,rfl,rfl,SqT.of (s1 _ _ ht),rfl,sz2,fun tp ftp=>al (upd _ tp _) ftp rfl fun H2 t2 s2=>⟨sz1 _,fun l1 f1=>al (upd _ l1 _) f1 rfl fun H3 t3 s3=>⟨lo,l1,pts,_,rfl,rfl,(s2.trans s3) _ _ p1,t3,szN (by rw[p2.length,zuw];show _+1<=1000;omega),fun lo' fp'=>al (upd _ lo' _) fp' rfl fun H4 t4 s4=>?_⟩⟩⟩))));have s13:=s2.trans s3;have s14:=s13.trans s4;refine pgw { P0 with out:=P0.out++[(i,n)] } rfl (PA1.same s14) fd' (s1.trans s14) (fun kk b=>⟨_,lo',_,_,_,_,_,zh4,b.pp,⟨_,kk.1 _ _ t4,?_,okf _ (s1.free (s13.free fp'))⟩,b.vv,b.dd,b.li,b.gg,b.mm⟩) fun H5 PA5 s5=>⟨_,rfl,t,_,_,_,rfl,rfl,SqT.of (s5 _ _ ht),rfl,_,rfl,t,_,_,_,rfl,rfl,SqT.of (s5 _ _ ht),rfl,sz3,fun td ftd=>al (upd _ td _) ftd rfl fun H6 t6 s6=>?_⟩
   ·rw[zu5];exact((p2.same s14).mono kk.2).snoc (kk.2 _ _ (s4 _ _ (s3 _ _ t2)))
   exact pgw (Vc P0 (.away i n)) rfl (PA5.same s6) fd' (s5.trans s6) (fun kk b=>⟨_,_,_,.ref td,_,_,_,Hf,b.pp,b.oo,b.vv,⟨td,rfl,kk.2 _ _ t6⟩,b.li,b.gg,b.mm⟩) fun H7 PA7 s7=>fin rfl _ H7 PA7 s7
abbrev Yg:Stmt:=top 76
theorem Y1:Zl ["_law_cell_here","_law_clubs_here","_law_most","_law_mixed","_law_matches_here","_law_many","_law_grades","_law_rest_here","_law_k","_law_home","_law_guest"] ["_law_cell_here","_law_clubs_here","_law_most","_law_mixed"] (Zi Yg):=fnS
@[irreducible] def V4:List Expr:=zej (Od (Xr (Zv Yg) 2))
@[irreducible] def Pq:Pos:=zek (Od (Xr (Zv Yg) 2))
theorem Ki:Zv Yg=[Xr (Zv Yg) 0,Xr (Zv Yg) 1,.Assign (zgp (Xr (Zv Yg) 2)) (.List V4 Pq) (stP (Xr (Zv Yg) 2)),Xr (Zv Yg) 3,Xr (Zv Yg) 4,Xr (Zv Yg) 5]:=by unfold V4 Pq;kernel_rfl
theorem Kj:He V4 [1,2,3,4,5,6,7,8,9,1,1,1,1,2,2,3,3,4]:=by unfold V4;exact⟨by kernel_rfl,by kernel_rfl⟩
theorem G5(F:Fun K "_law_matches" "_law_matches" Yg f fd)(T:Tx K mg a)(zog:Z2 P w K mg base "_law_mix" 1 ["_law_cell_here","_law_k"] zco):FnOk P w K mg base (CX1 P w) 2 f fd ["_law_cell_here","_law_clubs_here","_law_most","_law_mixed"] (Ky K):=by
 refine F.okX Y1 ⋯ fun _ _ _ _ H _ Q E hr h=>?_;obtain⟨b,ns,cell,most,mixed,rfl,hb,hl1,hl2,nd,rng,hm1,hmx,h⟩:=h;rw[Ki];refine⟨_,(Zb (pS 4 Y1.nd (Z9 Zc))
 (Zb (pS 5 Y1.nd (Zn (cL K) (by rfl) T.zm9 PySem.boot_len (Za (pv 1) Zc)))
 (Zb (pS 6 Y1.nd (Z9 (P8 [1,2,3,4,5,6,7,8,9,1,1,1,1,2,2,3,3,4] Kj)))
 (Zb (pS 7 Y1.nd (Zt Xe (pv 0) (Zt Yz (pv 2) Zg)))
 (Zb (Yy PassesOwn.leaving rfl (Xu rfl T.zn0 (Za (Zt Yv (pv 0) (Zt Yz (pv 2) Zg)) Zc)) (pN 8 Y1.nd)
  (Zb (pS 9 Y1.nd (Zt Yv (pv 7) (pv 5)))
  (Zb (pS 10 Y1.nd (Zt Yv (Zt Yz (Zt Yz (pv 9) Zg) (Zt Yv (Zt Xe (pv 7) (pv 5)) (Zt Qz (pv 5) Zg))) (pv 5)))
  (Zb (Yu (pv 4) (Yd (Za (pI (iL K) (pv 1) (pv 9)) (Za (pI (iL K) (pv 1) (pv 10)) (Za (pI (iL K) (pv 6) (Zt Yv (Zt Xe (Zt Xe (pv 7) (pv 5)) (Zt Qz (pv 5) Zg)) Zg)) Zc)))))
  (Zd (pS 7 Y1.nd (pI (iL K) (Z9 (Za (Zt Xe (Zt Xe (Zt Xe (pv 7) (pv 5)) (Zt Qz (pv 5) Zg)) Zg) (Za (pF zog hr (Za (pv 7) (Za (pv 8) Zc))) Zc))) (pv 3))))))))
 (Zd (Zm (pv 4)))))))),?_⟩
 show let y1:TS:=_;let y2:TS:=Zz _ y1;let y3:TS:=Zz _ y2;let y4:TS:=_;let y5:TS:=Zz (zdi _ _ (Zz _ y3)) y4;let y6:TS:=Zz _ y5;let y7:TS:=Zz _ y6;let y8:TS:=Zz _ y7;Zz _ y8 _ _ _;intro y1 y2 y3 y4 y5 y6 y7 y8;have sz0:([]:List V).length<=sizeLine:=zvo _;have sz3:∀ x y z:V,[x,y,z].length<=sizeLine:=fun x y z=>by show 3<=sizeLine;rw[sizeLine_eq];decide
 refine⟨sz0,fun r fr=>?_⟩;have s1:=Zk (o:=.lst []) fr;have q1:=Ze (H:=H) (a:=r) (o:=.lst []);walk_at "if";generalize upd H r (.lst [])=H1 at s1 q1 ⊢;refine⟨_,rfl,b,_,rfl,.inl (SqL.of (s1 _ _ hb)),?_⟩;rw[zuw];walk_at "if";refine Aw [1,2,3,4,5,6,7,8,9,1,1,1,1,2,2,3,3,4] ⋯ fun lg H2 hg s2 fg=>?_;have frg:lg≠r:=(Zh q1 fg).symm;have hc:(0:Int)<(most:Int)+1:=by omega
 refine⟨_,rfl,_,rfl,_,_,rfl,rfl,_,_,rfl,rfl,⟨hc,by omega⟩,?_⟩;walk_at "if";refine⟨_,rfl,_,rfl,_,_,rfl,rfl,_,_,rfl,rfl,hc,_,rfl,?_⟩;have c0:=zv2 cell (show ((most:Int)+1)≠0 by omega);have c1:=zvv cell hc;have hn0:(0:Int)<(ns.length:Int):=by omega
 have hn1:(0:Int)<(ns.length:Int)-1:=by omega
 let jv3:Nat->L2.St->Hp->Prop:=fun i σ H'=>(∃ v8 v9 v10 R,σ=[some (.int cell),some (.ref b),some (.int most),some (.int mixed),some (.ref r),some (.int ns.length),some (.ref lg),some (.int R),v8,v9,v10])/\(∀ x o,H2 x=some o->x≠r->H' x=some o)/\∃ ts ms,H' r=some (.lst ts)/\Z8 H' ts (ms.map pV)/\ms.length=i/\zbq ms
 refine⟨by omega,by omega,Wk jv3
  ⟨⟨_,_,_,_,rfl⟩,fun _ _ e _=>e,[],[],s2 _ _ q1,.nil,rfl,(fun m z=>nomatch z),(fun m z=>nomatch z)⟩ ?_ ?_⟩
 ·rintro i σ H' hi ⟨⟨v8,v9,v10,R,rfl⟩,k,ts,ms,hr',tl,hml,gm⟩;have hb':=k _ _ (s2 _ _ (s1 _ _ hb)) (Zh hb fr);have hg':=k _ _ hg frg;have e0:=zv2 R (show (ns.length:Int)≠0 by omega);have e1:=zvv R hn0;have f0:=zv2 (R/(ns.length:Int)) (show (ns.length:Int)-1≠0 by omega);have f1:=zvv (R/(ns.length:Int)) hn1;have w0:=zv2 (R/(ns.length:Int)/((ns.length:Int)-1)) (show (18:Int)≠0 by omega);have w1:=zvv (R/(ns.length:Int)/((ns.length:Int)-1)) (show (0:Int)<18 by omega);obtain⟨g0,g1,g2⟩:=zgw e0 e1 (y:=1+R/(ns.length:Int)%((ns.length:Int)-1)) ⋯ ⋯;rw[<- Int.add_assoc] at g0 g1 g2;refine⟨_,rfl,_,rfl,_,_,rfl,rfl,hn0,?_⟩;walk_at "if";refine⟨_,rfl,_,_,rfl,rfl,_,rfl,_,rfl,_,_,rfl,rfl,⟨hn0,by omega⟩,_,rfl,_,_,rfl,rfl,_,_,rfl,rfl,hn1,_,_,rfl,rfl,_,rfl,_,_,rfl,rfl,hn0,?_⟩;walk_at "if";generalize hG:(R%(ns.length:Int)+1+R/(ns.length:Int)%((ns.length:Int)-1))%(ns.length:Int)=gu at g0 g1 g2 ⊢;generalize hHo:R%(ns.length:Int)=ho at e0 e1 g2 ⊢;refine⟨_,rfl,r,_,rfl,hr',?_⟩;have hgr:=Wj (xs:=Cq) w0 (by show _<((18:Nat):Int);omega);have rgr:=zbr (R/(ns.length:Int)/((ns.length:Int)-1)%18).toNat ⋯;generalize hgv:Cq.getD (R/(ns.length:Int)/((ns.length:Int)-1)%18).toNat 0=gv at hgr rgr;have hho:=Wj (xs:=ns) e0 ⋯;have hgu:=Wj (xs:=ns) g0 ⋯;have mho:=Td (ns:=ns) (i:=ho.toNat) ⋯;have mgu:=Td (ns:=ns) (i:=gu.toNat) ⋯;have hne:ns.getD ho.toNat 0≠ns.getD gu.toNat 0:=fun z=>by
   have:=zgx nd ⋯ ⋯ z;omega
  generalize ns.getD ho.toNat 0=a1 at hho mho hne;generalize ns.getD gu.toNat 0=a2 at hgu mgu hne;refine⟨_,rfl,_,rfl,b,_,_,_,rfl,rfl,SqL.of hb',hho,_,rfl,_,rfl,b,_,_,_,rfl,rfl,SqL.of hb',hgu,?_⟩;refine⟨_,rfl,_,rfl,_,rfl,_,_,rfl,rfl,⟨hn0,by omega⟩,_,rfl,_,_,rfl,rfl,_,_,rfl,rfl,⟨hn1,by omega⟩,_,_,rfl,rfl,⋯,lg,_,_,_,rfl,rfl,SqL.of hg',hgr,sz3 _ _ _,fun t ft=>?_⟩;refine al (upd _ t _) ft rfl fun H3 q3 s3=>?_;have tln:=tl.length;rw[zuw] at tln;refine⟨ts,s3 _ _ hr',szN ⋯,?_⟩;have hi':i<101:=by omega
  have k4:∀ x o,H3 x=some o->x≠r->upd H3 r (.lst (ts++[.ref t])) x=some o:=fun x o e n=>by rw[Zf n];exact e
  have q4:=Ze (H:=H3) (a:=r) (o:=.lst (ts++[.ref t]));have kt4:∀ x ys,H3 x=some (.tup ys)->upd H3 r (.lst (ts++[.ref t])) x=some (.tup ys):=fun x ys e=>k4 _ _ e (Yw e (s3 _ _ hr') (by intro z;cases z));dsimp only;generalize upd H3 r (.lst (ts++[.ref t]))=H4 at k4 q4 kt4 ⊢;obtain⟨z,hz⟩:=at2 (R/(ns.length:Int)/((ns.length:Int)-1)/18) (zhs R (0+(i:Int))) hmx;refine⟨_,rfl,_,rfl,_,_,rfl,rfl,⟨hn0,by omega⟩,_,rfl,_,_,rfl,rfl,_,_,rfl,rfl,⟨hn1,by omega⟩,_,_,rfl,rfl,⟨by omega,by omega⟩,_,rfl,_,rfl,_,_,rfl,sz2,fun l2 f2=>⟨_,rfl,l2,_,_,_,rfl,rfl,SqL.of Ze,hz,?_⟩⟩;have s5:=Zk (o:=.lst [.int (R/(ns.length:Int)/((ns.length:Int)-1)/18),.int (zhs R (0+(i:Int)))]) f2;refine⟨⟨_,_,_,_,rfl⟩,fun x o e n=>s5 _ _ (k4 _ _ (s3 _ _ (k _ _ e n)) n),ts++[.ref t],ms++[(a1,a2,gv)],s5 _ _ q4,?_,by rw[zuz,hml];rfl,?_,?_⟩
  ·rw[zu5];exact(tl.mono fun x ys e=>s5 _ _ (kt4 _ _ (s3 _ _ e))).snoc (s5 _ _ (kt4 _ _ q3))
  ·intro m hm;rcases zu8.mp hm with hm|hm
   ·exact gm.1 m hm
   ·rw[zu0.mp hm];have:=rng _ mho;have:=rng _ mgu;unfold badM;dsimp only;omega
  ·intro m hm;rcases zu8.mp hm with hm|hm
   ·exact gm.2 m hm
   ·rw[zu0.mp hm];exact hne
 ·rintro σ H' ⟨⟨v8,v9,v10,R,rfl⟩,k,ts,ms,hr',tl,hml,gm⟩;refine⟨_,rfl,h r ts ms H' hr' tl ⋯ gm (fun x o e=>k _ _ (s2 _ _ (s1 _ _ e)) (Zh e fr)) fr⟩
abbrev G6:Stmt:=top 77
theorem zez:Zl ["_law_season","_law_deed_here"] ["_law_season","_law_deed_here"] (Zi G6):=fnS
theorem ze0(F:Fun K "_law_do" "_law_do" G6 f fd)(T:Tx K mg a)(zpo:Zs P w K mg base a.zmx "enrol" 5 ["self","number","grade","club"] (zc4 (ca a)))(zp5:Zs P w K mg base a.zmx "away" 7 ["self","at","number"] (zaa (ca a)))(zo3:Zs P w K mg base a.zmx "draw_up" 6 ["self","matches"] (Hu K (ca a)))(zpr:Zs P w K mg base a.zmx "close" 4 ["self"] (zc5 (ca a)))(zoo:Zs P w K mg base a.zmx "take_back" 2 ["self"] (Iw (ca a))):FnOk P w K mg base (CX1 P w) 8 f fd ["_law_season","_law_deed_here"] (zbx K (ca a)):=by
 refine F.okX zez ⋯ fun _ _ _ _ H _ Q E hr h=>?_;obtain⟨A',S,t,d,rfl,SA,hd,gd,co,po,hz,hoz,htot,hl,hol,hln,hsn,hbk,h⟩:=h;refine⟨_,(Zb (Z4 (Zp Wd (pI (iU K) (pv 1) Zg) Zo (Zu _))
  (Zd (Zm (Yl (pv 0) T.zmy zpo (hr.mono ⋯) Zj (Za (pI (iU K) (pv 1) Zg) (Za (pI (iU K) (pv 1) Zg) (Za (pI (iU K) (pv 1) Zg) Zc))))))
  Zq)
 (Zb (Z4 (Zp Wd (pI (iU K) (pv 1) Zg) Zo (Zu _))
  (Zd (Zm (Yl (pv 0) T.zmy zp5 (hr.mono ⋯) Zj (Za (pI (iU K) (pv 1) Zg) (Za (pI (iU K) (pv 1) Zg) Zc)))))
  Zq)
 (Zb (Z4 (Zp Wd (pI (iU K) (pv 1) Zg) Zo (Zu _))
  (Zd (Zm (Yl (pv 0) T.zmy zo3 (hr.mono ⋯) Zj (Za (Xl (Y8 (K:=K) rfl) (by rfl) T.zol PyProof.Rows.boot_list (Za (pI (iU K) (pv 1) Zg) Zc)) Zc))))
  Zq)
 (Zb (Z4 (Zp Wd (pI (iU K) (pv 1) Zg) Zo (Zu _))
  (Zd (Zm (Yo (pv 0) T.zmy zpr (hr.mono ⋯) Zj)))
  Zq)
 (Zd (Zm (Yo (pv 0) T.zmy zoo (hr.mono ⋯) Zj))))))),?_⟩
 obtain⟨⟨dx,v,a1,a2⟩,_⟩:=id SA;cases d with
 | enrol n g c0 =>
   have ht:H t=some (.tup [.str "enrol",.int n,.int g,.int c0]):=hd;obtain⟨g1,g2,g3,g4,g5⟩:=gd;have hb:=g3;unfold badI at hb;refine⟨_,rfl,t,_,_,_,rfl,rfl,SqT.of ht,rfl,rfl,_,rfl,?_⟩;rw[zbl];refine iteT ?_;refine⟨_,rfl,A'.p,dx,_,rfl,a1,Z6 ⋯,_,rfl,t,_,_,_,rfl,rfl,SqT.of ht,rfl,_,rfl,t,_,_,_,rfl,rfl,SqT.of ht,rfl,_,rfl,t,_,_,_,rfl,rfl,SqT.of ht,rfl,A',S,n,g,c0,rfl,SA,⟨Yk ⋯ ⋯,Yk ⋯ ⋯,Yk ⋯ ⋯⟩,by omega,by omega,?_⟩;rw[if_neg ⋯,if_neg (by rw[g2];decide),if_neg g3,if_neg g4,if_neg ⋯,if_neg ⋯];exact fun H' SA' f'=>h .non A' _ H' (.enrol n g c0) SA' (.refl A' H) f' ⟨H',SA',.refl _,f',fun l xs z=>nomatch z⟩
 | away i n =>
   have ht:H t=some (.tup [.str "away",.int i,.int n]):=hd;obtain⟨g1,g2,g3,g4⟩:=gd;refine⟨_,rfl,t,_,_,_,rfl,rfl,SqT.of ht,rfl,rfl,_,rfl,?_⟩;rw[Ri ⋯];refine iteF (Z0 ?_);refine⟨_,rfl,t,_,_,_,rfl,rfl,SqT.of ht,rfl,rfl,_,rfl,?_⟩;rw[zbl];refine iteT ?_;have si:Yi i:=Yk ⋯ ⋯;refine⟨_,rfl,A'.p,dx,_,rfl,a1,Z6 ⋯,_,rfl,t,_,_,_,rfl,rfl,SqT.of ht,rfl,_,rfl,t,_,_,_,rfl,rfl,SqT.of ht,rfl,A',S,i,n,rfl,SA,si,hsn i n rfl,by omega,hoz,po,fun s hs=>?_,?_⟩
   ·obtain⟨c1,c2,c3,c4,c5⟩:=co s hs;exact⟨c1,c2,c4,by omega⟩
   rw[if_neg ⋯,if_neg ⋯,if_pos g3,if_neg g4,if_neg ⋯];have told:∀ {X:Sea} {H':Hp} {l:Addr},TL (ca a) A' X H H' l->Zx (ca a) H' A' X/\FrS A' H H'/\ziv (ca a) A' A' X H H' (.ref l):=fun {X H' l} ⟨H0,t1,t2,t3,t4⟩=>⟨t1.same t2,t3.trans (.of A' t2),H0,t1,t2,t3,fun l2 xs z _=>by cases z;exact t4⟩
   refine⟨fun hc l H' hl' tk=>h _ A' _ H' (.awayN hc hl') (told tk).1 (.refl A' H) (told tk).2.1 (told tk).2.2,fun s hi hs hp l H' hl' tk=>?_,fun s p hi hs hp l us st e w' H' hl' tl CR tk=>?_⟩
   ·subst hi;exact h _ A' _ H' (.awayF hs hp hl') (told tk).1 (.refl A' H) (told tk).2.1 (told tk).2.2
   ·subst hi;exact h _ A' _ H' (.awayC hs hp hl' tl CR) (told tk).1 (.refl A' H) (told tk).2.1 (told tk).2.2
 | draw ms =>
   obtain⟨l0,ts,ht,hl0,tl,okl⟩:∃ l ts,H t=some (.tup [.str "draw up",.ref l])/\H l=some (.lst ts)/\Z8 H ts (ms.map pV)/\l∉A'.fp:=hd;obtain⟨g1,g2,g3,g4,g5⟩:=gd;refine⟨_,rfl,t,_,_,_,rfl,rfl,SqT.of ht,rfl,rfl,_,rfl,?_⟩;rw[Ri ⋯];refine iteF (Z0 ?_);refine⟨_,rfl,t,_,_,_,rfl,rfl,SqT.of ht,rfl,rfl,_,rfl,?_⟩;rw[Ri ⋯];refine iteF (Z0 ?_);refine⟨_,rfl,t,_,_,_,rfl,rfl,SqT.of ht,rfl,rfl,_,rfl,?_⟩;rw[zbl];refine iteT ?_;refine⟨_,rfl,A'.p,dx,_,rfl,a1,Z6 ⋯,_,rfl,t,_,_,_,rfl,rfl,SqT.of ht,rfl,l0,ts,rfl,.inl (SqL.of hl0),fun l1 hl1=>?_⟩;refine al (upd _ l1 _) hl1 rfl fun H1 q1 s1=>?_;have nb:¬ Rz ms:=fun ⟨m,hm,hb⟩=>g4 m hm hb;have ns:¬ R0 ms:=fun ⟨m,hm,hb⟩=>g5 m hm hb;refine⟨A',S,l1,ts,ms,rfl,SA.same s1,SqL.of q1,tl.same s1,fun m hm=>?_,by omega,by omega,po,?_⟩
   ·have:=g4 m hm;unfold badM at this;exact⟨Yk ⋯ ⋯,Yk ⋯ ⋯,Yk ⋯ ⋯⟩
   rw[if_neg ⋯,if_neg (by rw[g2];decide)];refine⟨fun z=>absurd z ⋯,fun _ z=>absurd z nb,fun _ _ z=>absurd z ns,fun _ _ _=>⟨fun z=>absurd z ⋯,fun _ l gv H' hl' tk FP SP=>?_⟩⟩;obtain⟨H0,t1,t2,t3,t4⟩:=tk;have f':=(FrS.of A' s1).trans t3;exact h _ A' _ H' (.draw hl' FP SP) (t1.same t2) (.refl A' H) (f'.trans (.of A' t2)) ⟨H0,t1,t2,f',fun l2 xs z _=>by cases z;exact t4⟩
 | close =>
   have ht:H t=some (.tup [.str "close"]):=hd;obtain⟨g1,g2⟩:=gd;refine⟨_,rfl,t,_,_,_,rfl,rfl,SqT.of ht,rfl,rfl,_,rfl,?_⟩;rw[Ri ⋯];refine iteF (Z0 ?_);refine⟨_,rfl,t,_,_,_,rfl,rfl,SqT.of ht,rfl,rfl,_,rfl,?_⟩;rw[Ri ⋯];refine iteF (Z0 ?_);refine⟨_,rfl,t,_,_,_,rfl,rfl,SqT.of ht,rfl,rfl,_,rfl,?_⟩;rw[Ri ⋯];refine iteF (Z0 ?_);refine⟨_,rfl,t,_,_,_,rfl,rfl,SqT.of ht,rfl,rfl,_,rfl,?_⟩;rw[zbl];refine iteT ?_;refine⟨_,rfl,A'.p,dx,_,rfl,a1,Z6 ⋯,A',S,rfl,SA,htot,hl,hol,fun s hs=>?_,?_⟩
   ·obtain⟨c1,c2,c3,c4,c5⟩:=co s hs;refine⟨c2.one,?_,by omega⟩;rw[c2.len,c4];unfold mayS;rw[zuw]
   rw[if_neg ⋯];exact⟨fun z=>absurd z g2,fun s x H' hs SA' f' fx=>h _ { A' with lt:=x } _ H' (.close hs) SA' ⟨x,rfl,.inr fx⟩ f' ⟨H',SA',.refl _,f',fun l2 xs z=>nomatch z⟩⟩
 | back =>
   have ht:H t=some (.tup [.str "take back"]):=hd;refine⟨_,rfl,t,_,_,_,rfl,rfl,SqT.of ht,rfl,rfl,_,rfl,?_⟩;rw[Ri ⋯];refine iteF (Z0 ?_);refine⟨_,rfl,t,_,_,_,rfl,rfl,SqT.of ht,rfl,rfl,_,rfl,?_⟩;rw[Ri ⋯];refine iteF (Z0 ?_);refine⟨_,rfl,t,_,_,_,rfl,rfl,SqT.of ht,rfl,rfl,_,rfl,?_⟩;rw[Ri ⋯];refine iteF (Z0 ?_);refine⟨_,rfl,t,_,_,_,rfl,rfl,SqT.of ht,rfl,rfl,_,rfl,?_⟩;rw[Ri ⋯];refine iteF (Z0 ?_);obtain⟨S0,hs0⟩:=hbk rfl;obtain⟨d0,e1,e2,e3,e4,e5,e6⟩:=id hs0;refine⟨_,rfl,A'.p,dx,_,rfl,a1,Z6 ⋯,A',S,rfl,SA,fun z=>absurd z gd,fun std d s he=>?_⟩;rw[e1] at he;obtain⟨he1,he2⟩:=List.append_inj' he rfl;have he2:(d0,S0.cur)=(d,s):=by simpa using he2
   cases he2;subst he1;refine⟨S0.ppl,S0.out,e2,fun t' H' ht' SA' f'=>?_⟩;have eS:{ S with ppl:=S0.ppl,out:=S0.out,cur:=S0.cur,std:=S0.std }=S0:=by
    cases S;cases S0;simp only at e3 e4 e5 e6 ⊢;subst e3 e4 e5 e6;rfl
   rw[eS] at SA';exact h _ A' S0 H' (.back e1 ht' hs0) SA' (.refl A' H) f' ⟨H',SA',.refl _,f',fun l2 xs z hx=>by cases z;rw[ht'] at hx;cases hx⟩
abbrev S9:Stmt:=top 78
theorem V5:Zl ["_law_goes","_law_steps","_law_out","_law_place","_law_number"] ["_law_goes","_law_steps"] (Zi S9):=fnS
theorem G7(F:Fun K "_law_stepped" "_law_stepped" S9 f fd)(T:Tx K mg a):FnOk P w K mg base (CX1 P w) 1 f fd ["_law_goes","_law_steps"] (Rg K):=by
 refine F.okX V5 ⋯ fun _ _ _ _ H _ Q E hr h=>?_;obtain⟨b,c,xs,ts,st,rfl,hb,hc,ht,hst,ho,hl,hls,h⟩:=h;refine⟨_,(Zb (pS 2 V5.nd (Xl (Y8 (K:=K) rfl) (by rfl) T.zol PyProof.Rows.boot_list (Za (pv 0) Zc)))
 (Zb (Yy PassesOwn.leaving rfl (Yc (K:=K) rfl (pv 1)) (Xy (K:=K) (n:=2) rfl rfl (Zw (pN 3 V5.nd) (Zw (pN 4 V5.nd) Xw)))
  (Zd (Qy (pv 4) (zao (pv 2) (pv 3) J6))))
 (Zd (Zm (pv 2))))),?_⟩
 have htl:ts.length=st.length:=by have:=ht.length;rw[zuw] at this;exact this
 refine⟨_,rfl,b,_,rfl,.inl (SqL.of hb),fun l hln=>?_⟩
 let jv4:Nat->L2.St->Hp->Prop:=fun i σ' H'=>(∃ u v,σ'=[some (.ref b),some (.ref c),some (.ref l),u,v])/\H' l=some (.lst (Yh (st.take i) xs))/\(∀ a o,H a=some o->H' a=some o)
 refine⟨_,rfl,c,rfl,⟨ts,SqL.of (Zk hln _ _ hc)⟩,Xf (xs:=ts) jv4 ⟨⟨none,none,rfl⟩,Ze,Zk hln⟩ (fun i σ' H' hi p=>SqL.of (p.2.2 _ _ hc)) (fun i x σ' H' hx p=>?_) (fun σ' H' p=>?_)⟩
 ·obtain⟨⟨u,v,rfl⟩,hl2,hs⟩:=p;have hi:i<st.length:=by rw[<- htl];exact(zux.mp hx).1
  obtain⟨t,e1,e2⟩:=zit ht (zuy hi);rw[hx] at e1;cases e1;refine⟨t,_,rfl,SqT.of (hs _ _ e2),rfl,_,_,rfl,_,_,rfl,rfl,?_⟩;have hlen:(Yh (st.take i) xs).length=xs.length:=Xz _ _;have hp:(st[i]'hi).1<xs.length:=hst _ (zvs hi);have e3:Yh (st.take (i+1)) xs=(Yh (st.take i) xs).set (st[i]'hi).1 (oV (st[i]'hi).2):=by
   rw[zvd hi,Li];rfl
  refine⟨_,rfl,_,rfl,_,rfl,l,_,_,(st[i]'hi).1,rfl,rfl,hl2,(show ixN _ (((st[i]'hi).1:Nat):Int)=some _ by unfold ixN;rw[if_pos ⋯,if_pos ⋯,zve]),⟨_,_,rfl⟩,?_,fun a o q=>?_⟩
  ·rw[e3];exact Ze
  ·rw[Zf (Zh q hln)];exact hs a o q
 ·obtain⟨⟨u,v,rfl⟩,hl2,hs⟩:=p;rw[htl,zvf] at hl2;exact⟨_,rfl,h l H' hl2 hs hln⟩
abbrev Nv:Stmt:=top 79
theorem Y2:Zl ["_law_pages","_law_cell_here","_law_pool_here","_law_most","_law_mixed","_law_clubs_here","_law_numbers_here","_law_page","_law_at_here","_law_kind","_law_rest_here","_law_day","_law_here","_law_known","_law_fresh","_law_club"] ["_law_pages","_law_cell_here","_law_pool_here","_law_most","_law_mixed"] (Zi Nv):=fnS
theorem zag(F:Fun K "_law_deed" "_law_deed" Nv f fd)(T:Tx K mg a)(zp1:Z2 P w K mg base "_law_matches" 2 ["_law_cell_here","_law_clubs_here","_law_most","_law_mixed"] (Ky K)):FnOk P w K mg base (CX1 P w) 3 f fd ["_law_pages","_law_cell_here","_law_pool_here","_law_most","_law_mixed"] (A4 K):=by
 refine F.okX Y2 ⋯ fun _ _ _ _ H _ Q E hr h=>?_;obtain⟨ok,l,t,lc,ln,ds,d,P0,cell,cs,nu,most,mixed,rfl,hl,PA,PL,hm1,hmx,hov,hpp,h⟩:=h;have hu:=W0 hr;refine⟨_,(Zb (Qy (pv 2) (Xy (K:=K) (n:=2) rfl rfl (Zw (pN 5 Y2.nd) (Zw (pN 6 Y2.nd) Xw))))
 (Zb (pS 7 Y2.nd (pI (iL K) (pv 0) (N4 Ru Zg)))
 (Zb (pS 8 Y2.nd (Zt Yz (Zn (cL K) (by rfl) T.zm9 PySem.boot_len (Za (pD hu (pv 7) Zo) Zc)) Zg))
 (Zb (pS 9 Y2.nd (Zt Yv (pv 1) Zg))
 (Zb (pS 10 Y2.nd (Zt Xe (pv 1) Zg))
 (Zb (Z4 (PW.pt (Jz (Zp Wd (pv 9) Zg (Zu _)) (N3 (Zp Sa (Zn (cL K) (by rfl) T.zm9 PySem.boot_len (Za (pv 0) Zc)) Zg (Zu _)))))
  (Zd (Zm (Yd (Za Zo Zc))))
  Zq)
 (Zb (pS 11 Y2.nd (Zn (Em rfl) (by rfl) T.zsi PyProof.Rows.boot_min (Za (pD hu (pv 7) Zo) (Za (Zt Yz (pv 8) (pI (iL K) (Z9 (Za Zg (Za (Zt Yz Zg (Zt Yv (Zt Xe (pv 10) Zg) Zg)) Zc))) (Xl zdk (by rfl) T.zsj PyProof.Rows.boot_int (Za (Sb Wd (pv 9) Zg (Zu _)) Zc)))) Zc))))
 (Zb (Uu (i:=12) Y2.nd rfl rfl rfl (cT ["_law_day","_law_page"] [11,7]) (Yc (K:=K) rfl (pD hu (pv 7) Zo)) (fun _ _ _ _ _=>Se (Zp (K7 (K:=K) rfl hr.units) (Yd (Za (pv 1) (Za (pI (iU K) (pv 0) Zg) Zc))) (pD hu (pv 2) Zo) (by with_unfolding_all rfl))) (fun _ _ _ _ _=>(pI (iU K) (pv 0) Zg)))
 (Zb (Z4 (PW.pt (Jz (Zp (D6 (K:=K) rfl hr.units) (pv 12) (Z9 Zc) (Zu _)) (N3 (PW.pt (Vk (Zp Sa (pv 9) Zg (Zu _)) (Wn (PW.pt (Jz (Zp Sa (pv 9) Zg (Zu _)) (N3 (Zp U6 (pD hu (pv 7) Zo) Y3 (Zu _)))))))))))
  (Zd (Zm (Yd (Za Zo (Za (pv 11) (Za (pI (iL K) (pv 12) (Zt Yv (pv 10) (Zn (cL K) (by rfl) T.zm9 PySem.boot_len (Za (pv 12) Zc)))) Zc))))))
  Zq)
 (Zb (Z4 (Zp U6 (pD hu (pv 7) Zo) Y3 (Zu _))
  (Zd (Zm (Yd (Za Zo Zc))))
  Zq)
 (Zb (pS 13 Y2.nd (Vv rfl (cT [] []) (Yc (K:=K) rfl (pD hu (pv 7) Zo)) (fun _ _ _ _ _=>U7) (fun _ _ _ _ _=>(pI (iU K) (pv 0) Zg))))
 (Zb (Uu (i:=14) Y2.nd rfl rfl rfl (cT ["_law_known"] [13]) (Yc (K:=K) rfl (pv 6)) (fun _ _ _ _ _=>Se (Zp (Fg (K:=K) rfl) (pv 0) (pv 1) (by with_unfolding_all rfl))) (fun _ _ _ _ _=>(pv 0)))
 (Zb (Z4 (PW.pt (Jz (Zp Wd (pv 9) Zg (Zu _)) (N3 (Zp (D6 (K:=K) rfl hr.units) (pv 14) (Z9 Zc) (Zu _)))))
  (Zb (pS 15 Y2.nd (pI (iL K) (pv 5) (Zt Yv (Zt Xe (pv 10) Zg) (Zn (cL K) (by rfl) T.zm9 PySem.boot_len (Za (pv 5) Zc)))))
  (Zd (Zm (Yd (Za Zo (Za (pI (iL K) (pv 14) (Zt Yv (pv 10) (Zn (cL K) (by rfl) T.zm9 PySem.boot_len (Za (pv 14) Zc)))) (Za (Zt Yz Zg (Zt Yv (Zt Xe (pv 10) Zg) Zg)) (Za (pv 15) Zc))))))))
  Zq)
 (Zd (Zm (Yd (Za Zo (Za (pF zp1 hr (Za (pv 10) (Za (pv 5) (Za (pv 3) (Za (pv 4) Zc))))) Zc)))))))))))))))))),?_⟩
 show let y1:TS:=_;let y2:TS:=Zz _ y1;let y3:TS:=Zz _ y2;let y4:TS:=Zz _ y3;let y5:TS:=Zz _ y4;let y6:TS:=Zz _ y5;let y7:TS:=Zz _ y6;let y8:TS:=Zz _ y7;let y9:TS:=Zz _ y8;let y10:TS:=Zz _ y9;let y11:TS:=Zz _ y10;let y12:TS:=Zz _ y11;let y13:TS:=Zz _ y12;Zz _ y13 _ _ _;intro y1 y2 y3 y4 y5 y6 y7 y8 y9 y10 y11 y12 y13;have sz0:([]:List V).length<=sizeLine:=zvo _;obtain⟨lp,lo,lv,dv,li,lg,lm,a1,PB,okd⟩:=id PA.split;have hat:atI ((ds++[d]).map V.ref) (-1)=some (V.ref d):=by rw[zu5];exact L2.atI_last _ _
 obtain⟨vts,v1,v2,v3⟩:=PB.vv;refine⟨_,rfl,t,_,rfl,SqT.of PL.tup,rfl,_,_,rfl,_,_,rfl,rfl,?_⟩;walk_at "if";refine⟨_,rfl,_,rfl,l,_,_,_,rfl,rfl,SqL.of hl,hat,?_⟩;walk_at "if";refine⟨_,rfl,d,_,rfl,DGet.k (k:=.inr "over") a1,lv,vts,rfl,.inl (SqL.of v1),_,_,rfl,rfl,?_⟩;rw[v2.length];walk_at "if";refine⟨_,rfl,_,_,rfl,rfl,⋯,?_⟩;walk_at "if";refine⟨_,rfl,_,_,rfl,rfl,⟨by omega,by omega⟩,?_⟩;walk_at "if";obtain⟨kd,hkd⟩:∃ kd,kd=cell%8:=⟨_,rfl⟩;obtain⟨R,hR⟩:∃ R,R=cell/8:=⟨_,rfl⟩;rw[<- hkd,<- hR];show Zz _ _ _ [some (.ref l),some (.int cell),some (.ref t),some (.int most),some (.int mixed),some (.ref lc),some (.ref ln),some (.ref d),some (.int ((P0.over.length:Int)+1)),some (.int kd),some (.int R),none,none,none,none,none] H;have hdl:((((ds++[d]).map V.ref).length:Nat):Int)=(ds.length:Int)+1:=by rw[zuw,zuz];rfl
 have tup1:∀ (w:Str),([V.str w]).length<=sizeLine:=fun w=>by show 1<=sizeLine;rw[sizeLine_eq];decide
 refine Yp (Wf (b:=decide (V.int kd=V.int 7)&&decide (1<(ds.length:Int)+1)) (E2 (fun Q q=>⟨_,rfl,rfl,_,rfl,q⟩) (fun Q q=>⟨_,rfl,l,_,rfl,.inl (SqL.of hl),_,_,rfl,rfl,_,rfl,by rw[hdl];exact q⟩)) (itB (fun hb=>?_) (fun _=>Z0 ?_)))
 ·refine⟨tup1 _,fun tt ft=>?_⟩;refine h tt .back _ (show upd H tt _ tt=_ from Ze) ?_ (Zk ft) ft;rw[zwd,decide_eq_true_eq,decide_eq_true_eq] at hb;intro z;rw[z] at hb;have:=hb.2;simp at this
 refine⟨_,rfl,d,_,rfl,DGet.k (k:=.inr "rounds") a1,_,rfl,_,rfl,_,_,rfl,rfl,⟨by omega,by omega⟩,_,_,rfl,rfl,⋯,_,_,rfl,rfl,sz2,fun l2 f2=>?_⟩;refine al (upd _ l2 _) f2 rfl fun H2 q2 s2=>?_;obtain⟨z,hz,hz0⟩:∃ z:Int,atI [V.int 0,V.int (1+R/60%3)] (if decide (V.int kd=V.int 6)=true then 1 else 0)=some (.int z)/\0<=z:=by
  cases decide (V.int kd=V.int 6) with
  | true=>exact⟨_,rfl,by omega⟩
  | false=>exact⟨0,rfl,by omega⟩
 refine⟨_,rfl,rfl,.inr ⟨_,rfl,l2,_,_,_,rfl,rfl,SqL.of q2,hz,_,_,rfl,rfl,_,_,rfl,?_⟩⟩;obtain⟨day,hday,hd1,hd2⟩:∃ day:Int,(if ((P0.over.length:Int)+1+z)<(P0.len:Int) then ((P0.over.length:Int)+1+z) else (P0.len:Int))=day/\(P0.over.length:Int)<day/\day<=P0.len:=⟨_,rfl,by split<;>omega,by split<;>omega⟩;rw[hday];walk_at "if";obtain⟨pts,p1,p2,p3⟩:=PB.pp;obtain⟨ots,o1,o2,o3⟩:=PB.oo;have hpl:pts.length=P0.ppl.length:=by rw[p2.length,zuw]
 have hls:=PB.li.some;refine⟨_,rfl,d,_,rfl,DGet.k (k:=.inr "people") (s2 _ _ a1),lp,rfl,⟨_,SqL.of (s2 _ _ p1)⟩,Wl (K:=K) (a:=lp) (xs:=pts) (fun i ys H'=>Same H2 H'/\ys=(((P0.ppl.take i).filter fun x=>!decide ((day,x.1)∈P0.out)).map (·.1)).map V.int) ⟨Same.refl _,rfl⟩ (fun i ys H' _ ⟨z,_⟩=>SqL.of (z _ _ (s2 _ _ p1))) (szN ⋯) (fun i ys H' ⟨_,e⟩=>by rw[e,zuw,zuw];exact zvb (zvr _ _) (zwj _ _)) ?_ ?_⟩
 ·rintro j x ys H3 hx3 ⟨s3,rfl⟩;obtain⟨tp,pp,rfl,hpp',htp⟩:=Ig p2 hx3;have sh3:=s2.trans s3;refine⟨_,rfl,_,rfl,tp,_,_,_,rfl,rfl,SqT.of (sh3 _ _ htp),(show atI (pV pp) 0=some _ from rfl),sz2,fun t3 f3=>?_⟩;refine al (upd _ t3 _) f3 rfl fun H4 q4 s4=>?_;have sh4:=sh3.trans s4;refine⟨_,rfl,d,_,rfl,DGet.k (k:=.inr "out") (sh4 _ _ a1),t3,lo,ots,_,_,P0.out,rfl,rfl,SqT.of q4,SqL.of (sh4 _ _ o1),o2.same sh4,_,rfl,?_⟩;rw[if_pos rfl,Wm hpp',zv9,zu5,zu5];refine itB (fun hb=>?_) (fun hb=>?_)
  ·refine⟨_,rfl,tp,_,_,_,rfl,rfl,SqT.of (sh4 _ _ htp),(show atI (pV pp) 0=some _ from rfl),s3.trans s4,?_⟩;rw[zwa (p:=fun x:P3=>!decide ((day,x.1)∈P0.out)) (a:=pp) hb,zwy];rfl
  ·refine⟨s3.trans s4,?_⟩;rw[zwb (p:=fun x:P3=>!decide ((day,x.1)∈P0.out)) (a:=pp) (by rw[hb];decide),zwy];simp
 rintro ys H3 ⟨s3,rfl⟩ lh flh;rw[hpl,zvf];obtain⟨he,hhe⟩:∃ he,he=(P0.ppl.filter fun x=>!decide ((day,x.1)∈P0.out)).map (·.1):=⟨_,rfl⟩;rw[<- hhe];have hel:he.length<=100:=by rw[hhe,zuw];exact zvb (zvr _ _) hpp
 have hem:∀ n∈he,n∈P0.ppl.map (·.1)/\(day,n)∉P0.out:=fun n hn=>by
  rw[hhe] at hn;obtain⟨x,hx,rfl⟩:=zu6.mp hn;obtain⟨hx1,hx2⟩:=zvx.mp hx;exact⟨zu6.mpr ⟨x,hx1,rfl⟩,by simpa using hx2⟩
 have s4:=(s2.trans s3).trans (Zk (o:=.lst (he.map V.int)) flh);have q4:=Ze (H:=H3) (a:=lh) (o:=.lst (he.map V.int));show W4 12 (V.ref lh) _ (upd H3 lh (.lst (he.map V.int))) _;generalize upd H3 lh (.lst (he.map V.int))=H4 at s4 q4 ⊢;walk_at "if";refine Yp (B2 (b:=!he.isEmpty&&(decide (3<kd)||(decide (0<kd)&&P0.lis.isSome))) (Dl (K0 rfl q4) (fun H5 s5=>Rv (Th (fun Q q=>⟨_,rfl,_,_,rfl,rfl,_,rfl,q⟩) (E2 (fun Q q=>⟨_,rfl,_,_,rfl,rfl,_,rfl,q⟩) (fun Q q=>⟨_,rfl,d,_,rfl,DGet.k (k:=.inr "listed") (s5 _ _ (s4 _ _ a1)),rfl,_,rfl,by rw[hls];exact q⟩))))) (fun H5 s5=>itB (fun hb=>?_) (fun _=>Z0 ?_)))
 ·rw[zwd] at hb;have hne:he.length≠0:=by have:=hb.1;intro z;rw[zwc.mp z] at this;exact absurd this ⋯
  have hpos:(0:Int)<(he.length:Int):=by omega
  have y0:=zv2 R (show (he.length:Int)≠0 by omega);have y1:=zvv R hpos;have hix:=Wj (xs:=he) y0 ⋯;have mix:=Td (ns:=he) (i:=(R%(he.length:Int)).toNat) ⋯;generalize he.getD (R%(he.length:Int)).toNat 0=n at hix mix;refine⟨_,rfl,_,rfl,_,rfl,_,rfl,lh,_,rfl,.inl (SqL.of (s5 _ _ q4)),?_⟩;rw[zuw];refine⟨_,_,rfl,rfl,hpos,lh,_,_,_,rfl,rfl,SqL.of (s5 _ _ q4),hix,(by show 3<=sizeLine;rw[sizeLine_eq];decide),fun tt ft=>?_⟩;exact h tt (.away day n) _ (show upd H5 tt _ tt=_ from Ze) ⟨hd1,hd2,(hem n mix).1,(hem n mix).2⟩ ((s4.trans s5).trans (Zk ft)) ((s4.trans s5).free ft)
 have s05:=s4.trans s5;dsimp only;refine Yp (Wf (b:=P0.lis.isSome) (fun Q q=>⟨_,rfl,d,_,rfl,DGet.k (k:=.inr "listed") (s05 _ _ a1),rfl,_,rfl,by rw[hls];exact q⟩) (itB (fun hb=>?_) (fun hb=>Z0 ?_)))
 ·refine⟨tup1 _,fun tt ft=>?_⟩;exact h tt .close _ (show upd H5 tt _ tt=_ from Ze) (fun z=>by rw[z] at hb;cases hb) (s05.trans (Zk ft)) (s05.free ft)
 have hno:P0.lis=none:=by
  cases hq:P0.lis with
  | none=>rfl
  | some ms=>rw[hq] at hb;cases hb
 dsimp only;have nul:=PL.nfew;have csl:=PL.few;refine⟨_,rfl,d,_,rfl,DGet.k (k:=.inr "people") (s05 _ _ a1),lp,rfl,⟨_,SqL.of (s05 _ _ p1)⟩,Wl (K:=K) (a:=lp) (xs:=pts) (fun i ys H'=>Same H5 H'/\ys=((P0.ppl.take i).map (·.1)).map V.int) ⟨Same.refl _,rfl⟩ (fun i ys H' _ ⟨z,_⟩=>SqL.of (z _ _ (s05 _ _ p1))) (szN ⋯) (fun i ys H' ⟨_,e⟩=>by rw[e,zuw,zuw];exact zwj _ _) ?_ ?_⟩
 ·rintro j x ys H6 hx6 ⟨s6,rfl⟩;obtain⟨tp,pp,rfl,hpp',htp⟩:=Ig p2 hx6;unfold tYes;dsimp only;rw[if_pos rfl];refine⟨_,rfl,tp,_,_,_,rfl,rfl,SqT.of (s6 _ _ (s05 _ _ htp)),(show atI (pV pp) 0=some _ from rfl),s6,?_⟩;rw[Wm hpp',zu5,zu5];rfl
 rintro ys H6 ⟨s6,rfl⟩ lk flk;rw[hpl,zvf];obtain⟨kn,hkn⟩:∃ kn,kn=P0.ppl.map (·.1):=⟨_,rfl⟩;rw[<- hkn];have s7:=(s05.trans s6).trans (Zk (o:=.lst (kn.map V.int)) flk);have q7:=Ze (H:=H6) (a:=lk) (o:=.lst (kn.map V.int));show W4 13 (V.ref lk) _ (upd H6 lk (.lst (kn.map V.int))) _;generalize upd H6 lk (.lst (kn.map V.int))=H7 at s7 q7 ⊢;walk_at "if";refine⟨_,rfl,ln,rfl,⟨_,SqL.of (s7 _ _ PL.nums)⟩,Wl (K:=K) (a:=ln) (xs:=nu.map V.int) (fun i ys H'=>H'=H7/\ys=((nu.take i).filter fun n=>!decide (n∈kn)).map V.int) ⟨rfl,rfl⟩ (fun i ys H' _ ⟨z,_⟩=>by rw[z];exact SqL.of (s7 _ _ PL.nums)) (szN (by rw[zuw];omega)) (fun i ys H' ⟨_,e⟩=>by rw[e,zuw];exact zvb (zvr _ _) (zwj _ _)) ?_ ?_⟩
 ·rintro j x ys H8 hx8 ⟨rfl,rfl⟩;rw[zu1] at hx8;obtain⟨n,hn,rfl⟩:=zwv.mp hx8;refine⟨_,rfl,_,rfl,lk,_,rfl,.inl (SqL.of q7),rfl,(List.all_eq_true.mpr fun y hy=>by obtain⟨i,_,rfl⟩:=zu6.mp hy;rfl),_,rfl,?_⟩;rw[if_pos rfl,zcs,Wm hn,zv9,zu5];refine itB (fun hb=>?_) (fun hb=>?_)
  ·refine⟨_,rfl,rfl,?_⟩;rw[zwa (p:=fun n:Int=>!decide (n∈kn)) (a:=n) hb,zwy];rfl
  ·refine⟨rfl,?_⟩;rw[zwb (p:=fun n:Int=>!decide (n∈kn)) (a:=n) (by rw[hb];decide),zwy];simp
 rintro ys H8 ⟨rfl,rfl⟩ lf flf;rw[zuw,zvf];obtain⟨fs,hfs⟩:∃ fs,fs=nu.filter fun n=>!decide (n∈kn):=⟨_,rfl⟩;rw[<- hfs];have hfm:∀ n∈fs,n∈nu/\n∉P0.ppl.map (·.1):=fun n hn=>by
  rw[hfs] at hn;obtain⟨hx1,hx2⟩:=zvx.mp hn;exact⟨hx1,by rw[<- hkn];simpa using hx2⟩
 have hfl:fs.length<=100:=by rw[hfs];exact zvb (zvr _ _) ⋯
 have s9:=s7.trans (Zk (o:=.lst (fs.map V.int)) flf);have q9:=Ze (H:=H8) (a:=lf) (o:=.lst (fs.map V.int));show W4 14 (V.ref lf) _ (upd H8 lf (.lst (fs.map V.int))) _;generalize upd H8 lf (.lst (fs.map V.int))=H9 at s9 q9 ⊢;walk_at "if";refine Yp (B2 (b:=decide (V.int kd=V.int 3) && !fs.isEmpty) (Dl (Rv (fun Q q=>⟨_,rfl,rfl,_,rfl,q⟩)) (fun H10 s10=>K0 rfl (s10 _ _ q9))) (fun H10 s10=>itB (fun hb=>?_) (fun _=>Z0 ?_)))
 ·rw[zwd] at hb;have hne:fs.length≠0:=by have:=hb.2;intro z;rw[zwc.mp z] at this;exact absurd this ⋯
  have hpos:(0:Int)<(fs.length:Int):=by omega
  have y0:=zv2 R (show (fs.length:Int)≠0 by omega);have y1:=zvv R hpos;have hix:=Wj (xs:=fs) y0 ⋯;have mix:=Td (ns:=fs) (i:=(R%(fs.length:Int)).toNat) ⋯;generalize fs.getD (R%(fs.length:Int)).toNat 0=n at hix mix;have hcl:(0:Int)<(cs.length:Int):=by omega
  have w0:=zv2 (R/360) (show (cs.length:Int)≠0 by omega);have w1:=zvv (R/360) hcl;have hcs:=Wj (xs:=cs) w0 ⋯;have mcs:=Td (ns:=cs) (i:=(R/360%(cs.length:Int)).toNat) ⋯;generalize cs.getD (R/360%(cs.length:Int)).toNat 0=c at hcs mcs;have s010:=s9.trans s10;refine⟨_,rfl,_,rfl,_,_,rfl,rfl,⟨by omega,by omega⟩,_,rfl,lc,_,rfl,.inl (SqL.of (s010 _ _ PL.clubs)),?_⟩;rw[zuw];refine⟨_,_,rfl,rfl,hcl,lc,_,_,_,rfl,rfl,SqL.of (s010 _ _ PL.clubs),hcs,?_⟩;walk_at "if";refine⟨_,rfl,_,rfl,_,rfl,lf,_,rfl,.inl (SqL.of (s10 _ _ q9)),?_⟩;rw[zuw];refine⟨_,_,rfl,rfl,hpos,lf,_,_,_,rfl,rfl,SqL.of (s10 _ _ q9),hix,_,rfl,_,_,rfl,rfl,⟨by omega,by omega⟩,_,_,rfl,rfl,⋯,_,_,rfl,rfl,_,rfl,(by show 4<=sizeLine;rw[sizeLine_eq];decide),fun tt ft=>?_⟩;exact h tt (.enrol n (1+R/40%9) c) _ (show upd H10 tt _ tt=_ from Ze) ⟨hno,(hfm n mix).1,(hfm n mix).2,by omega,by omega,mcs⟩ (s010.trans (Zk ft)) (s010.free ft)
 have s010:=s9.trans s10;dsimp only;refine⟨_,rfl,_,rfl,_,rfl,_,rfl,lc,cs,R,most,mixed,rfl,s010 _ _ PL.clubs,by omega,by omega,PL.cnd,PL.crng,hm1,hmx,fun lm' ts ms H11 hlm tl hml gm s11 flm=>⟨sz2,fun tt ft=>?_⟩⟩;have s12:=Zk (o:=.tup [.str "draw up",.ref lm']) ft;exact h tt (.draw ms) _ ⟨lm',ts,Ze,s12 _ _ hlm,tl.same s12,s010.free flm⟩ ⟨hno,hml,gm⟩ ((s010.trans s11).trans s12) ((s010.trans s11).free ft)
abbrev Xq:Stmt:=top 80
theorem K2:Zl ["_law_script","_law_crowd","_law_many"] ["_law_script","_law_crowd"] (Zi Xq):=fnS
@[irreducible] def Sl:List Expr:=zej (Au (Od (Xr (Zv Xq) 0)))
@[irreducible] def K3:Pos:=zek (Au (Od (Xr (Zv Xq) 0)))
theorem Ec:Zv Xq=[.Assign (zgp (Xr (Zv Xq) 0)) (.Subscript (.List Sl K3) (zh2 (Od (Xr (Zv Xq) 0))) (zh3 (Od (Xr (Zv Xq) 0)))) (stP (Xr (Zv Xq) 0)),Xr (Zv Xq) 1]:=by unfold Sl K3;kernel_rfl
theorem Ed:He Sl [4,3,5,4,6,10,4,8]:=by unfold Sl;exact⟨by kernel_rfl,by kernel_rfl⟩
theorem zah(F:Fun K "_law_pool" "_law_pool" Xq f fd)(T:Tx K mg a)(znb:Z2 P w K mg base "_law_at" 1 ["_law_script","_law_k"] (za9 K))(zqq:Z2 P w K mg base "_law_clubs" 1 ["_law_cell_here","_law_many"] zcp)(zp4:Z2 P w K mg base "_law_numbers" 1 ["_law_cell_here","_law_many"] Ia):FnOk P w K mg base (CX1 P w) 2 f fd ["_law_script","_law_crowd"] (Ap K):=by
 refine F.okX K2 ⋯ fun _ _ _ _ H _ Q E hr h=>?_;obtain⟨b,ns,cr,rfl,hS,hc1,hc2,h⟩:=h;rw[Ec];refine⟨_,(Zb (pS 2 K2.nd (pI (iL K) (Z9 (P8 [4,3,5,4,6,10,4,8] Ed)) (Zt Yv (Zt Xe (pF znb hr (Za (pv 0) (Za Zg Zc))) Zg) Zg)))
 (Zd (Zm (Yd (Za (pF zqq hr (Za (pF znb hr (Za (pv 0) (Za Zg Zc))) (Za (pv 2) Zc))) (Za (pF zp4 hr (Za (pF znb hr (Za (pv 0) (Za Zg Zc))) (Za (pv 1) Zc))) Zc)))))),?_⟩
 refine zj9 [4,3,5,4,6,10,4,8] ⋯ fun l H1 q1 s1 fl=>?_;have h0:=zv2 (Xb ns 0/4) (show (8:Int)≠0 by decide);have h1:=zvv (Xb ns 0/4) (show (0:Int)<8 by decide);refine⟨_,rfl,b,ns,0,rfl,s1.seq hS,_,_,rfl,rfl,⟨by decide,by decide⟩,_,_,rfl,rfl,(show (0:Int)<8 by decide),l,_,_,_,rfl,rfl,SqL.of q1,Wj (xs:=[4,3,5,4,6,10,4,8]) h0 (by show _<((8:Nat):Int);omega),?_⟩;obtain⟨m,hm,hm1,hm2⟩:∃ m:Nat,([4,3,5,4,6,10,4,8]:List Int).getD (Xb ns 0/4%8).toNat 0=m/\3<=m/\m<=10:=by
  have hk:(Xb ns 0/4%8).toNat<8:=by omega
  generalize (Xb ns 0/4%8).toNat=k at hk
  match k,hk with
  | 0,_=>exact⟨4,rfl,by decide,by decide⟩
  | 1,_=>exact⟨3,rfl,by decide,by decide⟩
  | 2,_=>exact⟨5,rfl,by decide,by decide⟩
  | 3,_=>exact⟨4,rfl,by decide,by decide⟩
  | 4,_=>exact⟨6,rfl,by decide,by decide⟩
  | 5,_=>exact⟨10,rfl,by decide,by decide⟩
  | 6,_=>exact⟨4,rfl,by decide,by decide⟩
  | 7,_=>exact⟨8,rfl,by decide,by decide⟩
 rw[hm];refine⟨_,rfl,b,ns,3,rfl,s1.seq hS,_,rfl,_,m,rfl,by omega,fun lc H2 hlc s2 f2=>?_⟩;refine⟨_,rfl,b,ns,2,rfl,(s1.trans s2).seq hS,_,rfl,_,cr,rfl,by omega,fun ln H3 hln s3 f3=>?_⟩;refine⟨sz2,fun t ht=>?_⟩;have s4:=Zk (o:=.tup [.ref lc,.ref ln]) ht;have s13:=s1.trans (s2.trans s3);refine h t lc ln _ _ _ ⟨Ze,s4 _ _ (s3 _ _ hlc),s4 _ _ hln,by rw[Fh];exact⟨hm1,hm2⟩,Ar _ hm2,zeh _ _,by rw[N8];exact⟨hc1,hc2⟩,As _ ⋯,zei _ _⟩ (N8 _ _) (s13.trans s4) (s13.free ht) (s1.free f2) ((s1.trans s2).free f3)
abbrev Yf:Stmt:=top 81
theorem Yx:Zl ["_law_script","_law_pool_here","_law_clubs_here","_law_numbers_here","_law_many","_law_grades","_law_rest_here","_law_deeds","_law_k"] ["_law_script","_law_pool_here"] (Zi Yf):=fnS
@[irreducible] def Uo:List Expr:=zej (Od (Xr (Zv Yf) 3))
@[irreducible] def Oq:Pos:=zek (Od (Xr (Zv Yf) 3))
theorem Jq:Zv Yf=[Xr (Zv Yf) 0,Xr (Zv Yf) 1,Xr (Zv Yf) 2,.Assign (zgp (Xr (Zv Yf) 3)) (.List Uo Oq) (stP (Xr (Zv Yf) 3)),Xr (Zv Yf) 4,Xr (Zv Yf) 5,Xr (Zv Yf) 6,Xr (Zv Yf) 7]:=by unfold Uo Oq;kernel_rfl
theorem Jr:He Uo [1,2,3,4,5,6,7,8,9,9,9,9,9,8,8,7,6,5]:=by unfold Uo;exact⟨by kernel_rfl,by kernel_rfl⟩
theorem Ee(F:Fun K "_law_people" "_law_people" Yf f fd)(T:Tx K mg a)(znb:Z2 P w K mg base "_law_at" 1 ["_law_script","_law_k"] (za9 K))(zog:Z2 P w K mg base "_law_mix" 1 ["_law_cell_here","_law_k"] zco):FnOk P w K mg base (CX1 P w) 2 f fd ["_law_script","_law_pool_here"] (Hl K):=by
 refine F.okX Yx ⋯ fun _ _ _ _ H _ Q E hr h=>?_;obtain⟨b,t,lc,ln,ns,cs,nu,rfl,hS,PA,h⟩:=h;rw[Jq];refine⟨_,(Zb (Qy (pv 1) (Xy (K:=K) (n:=2) rfl rfl (Zw (pN 2 Yx.nd) (Zw (pN 3 Yx.nd) Xw))))
 (Zb (pS 4 Yx.nd (Zt Yv (pF znb hr (Za (pv 0) (Za Zg Zc))) (Zt Yz (Zn (cL K) (by rfl) T.zm9 PySem.boot_len (Za (pv 3) Zc)) Zg)))
 (Zb (Z4 (Zp Wd (Zt Yv (Zt Xe (pF znb hr (Za (pv 0) (Za Zg Zc))) (Zt Yz (Zn (cL K) (by rfl) T.zm9 PySem.boot_len (Za (pv 3) Zc)) Zg)) Zg) Zg (Zu _))
  (Zd (pS 4 Yx.nd (Zt Qz (Zn (cL K) (by rfl) T.zm9 PySem.boot_len (Za (pv 3) Zc)) (Zt Yv (pv 4) Zg))))
  Zq)
 (Zb (pS 5 Yx.nd (Z9 (P8 [1,2,3,4,5,6,7,8,9,9,9,9,9,8,8,7,6,5] Jr)))
 (Zb (pS 6 Yx.nd (pF znb hr (Za (pv 0) (Za Zg Zc))))
 (Zb (pS 7 Yx.nd (Z9 Zc))
 (Zb (Yy PassesOwn.leaving rfl (Xu rfl T.zn0 (Za (pv 4) Zc)) (pN 8 Yx.nd)
  (Zb (Yu (pv 7) (Yd (Za Zo (Za (pI (iL K) (pv 3) (pv 8)) (Za (pI (iL K) (pv 5) (Zt Yv (pv 6) Zg)) (Za (pI (iL K) (pv 2) (Zt Yv (Zt Xe (pv 6) Zg) (Zn (cL K) (by rfl) T.zm9 PySem.boot_len (Za (pv 2) Zc)))) Zc))))))
  (Zd (pS 6 Yx.nd (pI (iL K) (Z9 (Za (Zt Xe (Zt Xe (pv 6) Zg) (Zn (cL K) (by rfl) T.zm9 PySem.boot_len (Za (pv 2) Zc))) (Za (pF zog hr (Za (pv 6) (Za (pv 8) Zc))) Zc))) (Zt Yv (pF znb hr (Za (pv 0) (Za Zg Zc))) Zg))))))
 (Zd (Zm (pv 7)))))))))),?_⟩
 show let y1:TS:=_;let y2:TS:=Zz _ y1;let y3:TS:=Zz _ y2;let y4:TS:=Zz _ y3;let y5:TS:=Zz _ y4;let y6:TS:=Zz _ y5;let y7:TS:=Zz _ y6;Zz _ y7 _ _ _;intro y1 y2 y3 y4 y5 y6 y7;have sz0:([]:List V).length<=sizeLine:=zvo _;have hw:(0:Int)<(nu.length:Int)+1:=by omega
 obtain⟨c1,c2⟩:=PA.few;obtain⟨n1,n2⟩:=PA.nfew;refine⟨_,rfl,t,_,rfl,SqT.of PA.tup,rfl,_,_,rfl,_,_,rfl,rfl,?_⟩;walk_at "if";refine⟨_,rfl,b,ns,4,rfl,hS,_,rfl,ln,_,rfl,.inl (SqL.of PA.nums),_,_,rfl,rfl,?_⟩;rw[zuw];refine⟨_,_,rfl,rfl,hw,?_⟩;walk_at "if";have u0:=zv2 (Xb ns 4) (show (nu.length:Int)+1≠0 by omega);have u1:=zvv (Xb ns 4) hw
 let jv5:L2.St->Hp->Prop:=fun σ' H'=>H'=H/\∃ m:Nat,σ'=[some (.ref b),some (.ref t),some (.ref lc),some (.ref ln),some (.int m),none,none,none,none]/\m<=nu.length
 refine Kp (b:=decide (V.int (Xb ns 4/((nu.length:Int)+1)%2)=V.int 1)) jv5 (fun Q q=>?_) (fun _ N hN=>?_) (fun _ N hN=>?_) ?_
 ·refine⟨_,rfl,b,ns,4,rfl,hS,_,rfl,ln,_,rfl,.inl (SqL.of PA.nums),_,_,rfl,rfl,?_⟩;rw[zuw];exact⟨_,_,rfl,rfl,⟨hw,by omega⟩,_,_,rfl,rfl,by omega,rfl,_,rfl,q⟩
 ·refine⟨_,rfl,ln,_,rfl,.inl (SqL.of PA.nums),?_⟩;rw[zuw];refine⟨_,rfl,_,_,rfl,rfl,by omega,_,_,rfl,rfl,hN _ _ ⟨rfl,((nu.length:Int)-Xb ns 4%((nu.length:Int)+1)%2).toNat,?_,by omega⟩⟩;rw[zwt ⋯];rfl
 ·refine Z0 (hN _ _ ⟨rfl,(Xb ns 4%((nu.length:Int)+1)).toNat,?_,by omega⟩);rw[zwt ⋯];rfl
 rintro σ H' ⟨rfl,m,rfl,hm⟩;refine Aw [1,2,3,4,5,6,7,8,9,9,9,9,9,8,8,7,6,5] ⋯ fun lg H2 hg s2 fg=>?_;refine⟨_,rfl,b,ns,5,rfl,s2.seq hS,sz0,fun r fr=>?_⟩;have s1:=s2.trans (Zk (o:=.lst []) fr);have q1:=Ze (H:=H2) (a:=r) (o:=.lst []);have hg1:=Zk (o:=.lst []) fr _ _ hg;walk_at "if";generalize upd H2 r (.lst [])=H1 at s1 q1 hg1 ⊢;have fr0:=s2.free fr;have frg:lg≠r:=Zh hg fr
 let jv6:Nat->L2.St->Hp->Prop:=fun i σ H3=>(∃ v8 R,σ=[some (.ref b),some (.ref t),some (.ref lc),some (.ref ln),some (.int m),some (.ref lg),some (.int R),some (.ref r),v8])/\(∀ x o,H1 x=some o->x≠r->H3 x=some o)/\∃ ts es,H3 r=some (.lst ts)/\Z8 H3 ts ((es:List P3).map enV)/\es.length=i/\es.map (·.1)=nu.take i/\(∀ x∈es,1<=x.2.1/\x.2.1<=9/\x.2.2∈cs)
 refine⟨_,rfl,_,rfl,by omega,by omega,Wk jv6
  ⟨⟨_,_,rfl⟩,fun _ _ e _=>e,[],[],q1,.nil,rfl,rfl,(fun m z=>nomatch z)⟩ ?_ ?_⟩
 ·rintro i σ H3 hi ⟨⟨v8,R,rfl⟩,k,ts,es,hr',tl,hml,enu,eok⟩;rw[zve] at hi;rw[zwf];have s3:Same H' H3:=fun x o e=>k _ _ (s1 _ _ e) (Zh e fr0);have hg3:=k _ _ hg1 frg;have PA3:=PA.same s3;have hcl:(0:Int)<(cs.length:Int):=by omega
  have w0:=zv2 R (show (18:Int)≠0 by omega);have w1:=zvv R (show (0:Int)<18 by omega);have y0:=zv2 (R/18) (show (cs.length:Int)≠0 by omega);have y1:=zvv (R/18) hcl;have hgr:=Wj (xs:=Cr) w0 (by show _<((18:Nat):Int);omega);have rgr:=zbs (R%18).toNat ⋯;generalize hgv:Cr.getD (R%18).toNat 0=gv at hgr rgr;have hcs:=Wj (xs:=cs) y0 ⋯;have mcs:=Td (ns:=cs) (i:=(R/18%(cs.length:Int)).toNat) ⋯;generalize cs.getD (R/18%(cs.length:Int)).toNat 0=c at hcs mcs;have hni:i<nu.length:=by omega
  have hnu:nu[i]?=some (nu[i]'hni):=zuy hni;have etk:nu.take (i+1)=nu.take i++[nu[i]'hni]:=zvd hni;generalize nu[i]'hni=n at hnu etk;walk_at "if";refine⟨_,rfl,r,_,rfl,hr',?_⟩;refine⟨_,rfl,_,rfl,ln,_,_,_,rfl,rfl,SqL.of PA3.nums,Z7 (by rw[zu1,hnu];rfl),_,rfl,_,rfl,_,_,rfl,rfl,⋯,lg,_,_,_,rfl,rfl,SqL.of hg3,hgr,?_⟩;refine⟨_,rfl,_,rfl,_,_,rfl,rfl,⟨by omega,by omega⟩,_,rfl,lc,_,rfl,.inl (SqL.of PA3.clubs),?_⟩;rw[zuw];refine⟨_,_,rfl,rfl,hcl,lc,_,_,_,rfl,rfl,SqL.of PA3.clubs,hcs,(by show 4<=sizeLine;rw[sizeLine_eq];decide),fun tt ft=>?_⟩;refine al (upd _ tt _) ft rfl fun H4 q4 s4=>?_;have tln:=tl.length;rw[zuw] at tln;refine⟨ts,s4 _ _ hr',szN ⋯,?_⟩;have k5:∀ x o,H4 x=some o->x≠r->upd H4 r (.lst (ts++[.ref tt])) x=some o:=fun x o e n=>by rw[Zf n];exact e
  have q5:=Ze (H:=H4) (a:=r) (o:=.lst (ts++[.ref tt]));have kt5:∀ x ys,H4 x=some (.tup ys)->upd H4 r (.lst (ts++[.ref tt])) x=some (.tup ys):=fun x ys e=>k5 _ _ e (Yw e (s4 _ _ hr') (by intro z;cases z));dsimp only;generalize upd H4 r (.lst (ts++[.ref tt]))=H5 at k5 q5 kt5 ⊢;have s05:Same H' H5:=fun x o e=>k5 _ _ (s4 _ _ (s3 _ _ e)) (Zh e fr0);have PA5:=PA.same s05;obtain⟨mx,hmx,hmx1⟩:∃ mx:Nat,Xb ns 0%2=mx/\mx<=1:=⟨(Xb ns 0%2).toNat,by omega,by omega⟩;obtain⟨z,hz⟩:=at2 (R/18/(cs.length:Int)) (zhs R (i:Int)) hmx1;refine⟨_,rfl,_,_,rfl,rfl,⟨by omega,by omega⟩,_,rfl,lc,_,rfl,.inl (SqL.of PA5.clubs),?_⟩;rw[zuw];refine⟨_,_,rfl,rfl,⟨hcl,by omega⟩,_,rfl,_,rfl,_,_,rfl,sz2,fun l2 f2=>?_⟩;refine al (upd _ l2 _) f2 rfl fun H6 q6 s6=>?_;refine⟨_,rfl,b,ns,0,rfl,(s05.trans s6).seq hS,_,_,rfl,rfl,⋯,l2,_,_,_,rfl,rfl,SqL.of q6,(by rw[hmx];exact hz),?_⟩;refine⟨⟨_,_,rfl⟩,fun x o e n=>s6 _ _ (k5 _ _ (s4 _ _ (k _ _ e n)) n),ts++[.ref tt],es++[(n,gv,c)],s6 _ _ q5,?_,by rw[zuz,hml];rfl,?_,?_⟩
  ·rw[zu5];exact(tl.mono fun x ys e=>s6 _ _ (kt5 _ _ (s4 _ _ e))).snoc (s6 _ _ (kt5 _ _ q4))
  ·rw[zu5,enu,etk];rfl
  ·intro m hm;rcases zu8.mp hm with hm|hm
   ·exact eok m hm
   ·rw[zu0.mp hm];exact⟨rgr.1,rgr.2,mcs⟩
 ·rintro σ H3 ⟨⟨v8,R,rfl⟩,k,ts,es,hr',tl,hml,enu,eok⟩;rw[zve] at hml enu;refine⟨_,rfl,h r ts es H3 hr' tl (by rw[hml];exact enu) ⋯ eok (fun x o e=>k _ _ (s1 _ _ e) (Zh e fr0)) fr0⟩
abbrev T9:Stmt:=top 82
theorem U3:Zl ["_law_season","_law_pages","_law_deeds","_law_deed_here"] ["_law_season","_law_pages","_law_deeds"] (Zi T9):=fnS
theorem Js(F:Fun K "_law_enrolled" "_law_enrolled" T9 f fd)(T:Tx K mg a)(zqb:Z2 P w K mg base "_law_do" 8 ["_law_season","_law_deed_here"] (zbx K (ca a)))(zoq:Z2 P w K mg base "_law_paged" 3 ["_law_pages","_law_deed_here"] (Cp K)):FnOk P w K mg base (CX1 P w) 9 f fd ["_law_season","_law_pages","_law_deeds"] (Hm K (ca a)):=by
 refine F.okX U3 ⋯ fun _ _ _ _ H _ Q E hr h=>?_;obtain⟨mb,A',l,le,ts,es,ds,d,P0,S,nu,n,rfl,SA,hl,hlo,F,hle,hlf,tl,nd,eok,hp30,hn90,hcur,hlen,h⟩:=h;refine⟨_,(Zb (Yy PassesOwn.leaving rfl (Yc (K:=K) rfl (pv 2)) (pN 3 U3.nd)
  (Zb (Z1 (pF zqb hr (Za (pv 0) (Za (pv 3) Zc))))
  (Zd (pS 1 U3.nd (pF zoq hr (Za (pv 1) (Za (pv 3) Zc)))))))
 (Zd (Zm (pv 1)))),?_⟩
 have tln:=tl.length;rw[zuw] at tln
 let jv7:Nat->L2.St->Hp->Prop:=fun i σ H1=>∃ A1 l1 ds1 d1 P1 S1 v,σ=[some (.ref A'.p),some (.ref l1),some (.ref le),v]/\Zx (ca a) H1 A1 S1/\H1 l1=some (.lst ((ds1++[d1]).map V.ref))/\l1∉A1.fp/\Ut mb (·∉A1.fp) H1 nu (n+i) ds1 d1 P1 S1/\FrN A' A1 H H1/\S1.cur=none/\S1.led=S.led/\S1.len=S.len/\S1.ppl=S.ppl++es.take i
 refine⟨_,rfl,le,rfl,⟨_,SqL.of hle⟩,Xf (K:=K) (a:=le) (xs:=ts) jv7
  ⟨A',l,ds,d,P0,S,_,rfl,SA,hl,hlo,F,.refl _ _,hcur,rfl,rfl,by simp⟩ (by rintro i σ H1 _ ⟨A1,_,_,_,_,_,_,_,_,_,_,_,f,_⟩;exact SqL.of (f.k _ _ hle hlf).1) ?_ ?_⟩
 ·rintro i x σ H1 hx ⟨A1,l1,ds1,d1,P1,S1,v,rfl,SA1,hl1,ho1,F1,f1,e1,e2,e3,e4⟩;have hi:i<ts.length:=(zux.mp hx).1;have hie:i<es.length:=by omega
  have hex:es[i]?=some (es[i]'hie):=zuy hie;have etk:=Wm hex;have hmem:es[i]'hie∈es:=zvs hie;obtain⟨t,ht1,ht2⟩:∃ t,x=.ref t/\H t=some (.tup (enV (es[i]'hie))):=by
   obtain⟨t,r,z1,z2,z3⟩:=tl.get hx;rw[zu1,hex] at z2;cases z2;exact⟨t,z1,z3⟩
  have hfr:(es[i]'hie).1∉(es.take i).map (·.1):=fun z=>by
   obtain⟨y,hy,ey⟩:=zu6.mp z;obtain⟨j,hj,rfl⟩:=zv6 hy;rw[zw2] at hj;rw[List.getElem_take] at ey;have h1:(es.map (·.1))[j]'(by rw[zuw];omega)=(es.map (·.1))[i]'(by rw[zuw];omega):=by rw[List.getElem_map,List.getElem_map];exact ey
   have:=(List.getElem_inj nd).mp h1;omega
  have hok:=eok _ hmem;generalize es[i]'hie=x0 at hex etk hmem ht2 hfr hok;obtain⟨k,gr,c⟩:=x0;subst ht1;have hD:Xp (·∉A1.fp) H1 t (.enrol k gr c):=f1.kt _ _ ht2;have g:Mf S1 (.enrol k gr c):=by
   refine⟨by rw[e2,e3];exact hlen,e1,hok.2.1,?_,?_⟩
   ·rw[e4,zu5];intro z;rcases zu8.mp z with z|z
    ·exact hok.2.2 z
    ·exact hfr z
   ·rw[e4,zuz,zw2];omega
  obtain⟨b1,b2,b3,b4,b5,b6,b7,b8,b9,b10⟩:=F1.pre g ⋯;refine⟨_,rfl,_,rfl,A1,S1,t,_,(by rw[f1.p];rfl),SA1,hD,g,b1,b2,b3,b4,b5,b6,b7,b8,b9,b10,fun v' A2 S2 H2 af SA2 nx fr _=>?_⟩;have f12:=FrN.next SA1 nx fr;obtain⟨c1,c2,c3,c4,c5⟩:=F1.pre2 g ⋯
  refine⟨_,rfl,_,rfl,(·∉A2.fp),l1,t,ds1,d1,P1,.enrol k gr c,rfl,(f12.k _ _ hl1 ho1).1,F1.pg.fr f12,hD.fr f12,c1,c2,c3,c4,c5,fun l3 d3 H3 hl3 pg s3 fl3 fd3=>?_⟩;obtain⟨ds2,d2,P2,ek,Pe,eP,_⟩:=turn F1 SA1 af SA2 nx fr g (fun k' gr' c' z=>by cases z;exact hok.1) pg s3 fd3;cases af with
  | enrol k gr c =>
    rw[ek] at hl3;refine⟨A2,l3,ds2,d2,P2,_,_,rfl,SA2.same s3,hl3,SA2.newOk _ fl3,Pe.full (fun s hs=>?_) (fun z=>?_),f1.trans (f12.trans (.of s3)),e1,e2,e3,?_⟩
    ·have hs:S1.cur=some s:=hs;rw[e1] at hs;cases hs
    ·rw[eP nofun];show P1.mv=_;rw[F1.re.mv z,Tr e1];exact(Tr e1).symm
    ·show S1.ppl++[(k,gr,c)]=_;rw[e4,etk,zwr]
 ·rintro σ H1 ⟨A1,l1,ds1,d1,P1,S1,v,rfl,SA1,hl1,ho1,F1,f1,e1,e2,e3,e4⟩;rw[tln] at F1;exact⟨_,rfl,h A1 l1 ds1 d1 P1 S1 H1 SA1 hl1 ho1 F1 f1 e1 e2 e3⟩
abbrev Wi:Stmt:=top 83
theorem zai:Zl ["_law_script"] ["_law_script"] (Zi Wi):=fnS
@[irreducible] def Sn:List Expr:=zej (Au (zh1 (Xr (Zv Wi) 0)))
@[irreducible] def K4:Pos:=zek (Au (zh1 (Xr (Zv Wi) 0)))
theorem Ef:Zv Wi=[.Return (some (.Subscript (.List Sn K4) (zh2 (zh1 (Xr (Zv Wi) 0))) (zh3 (zh1 (Xr (Zv Wi) 0))))) (stP (Xr (Zv Wi) 0))]:=by unfold Sn K4;kernel_rfl
theorem Eg:He Sn [0,1,2,3,4,5,6,7,8,9,10,0,0,0,1,1,1,2,2,0,1,3]:=by unfold Sn;exact⟨by kernel_rfl,by kernel_rfl⟩
theorem zaj(F:Fun K "_law_rest" "_law_rest" Wi f fd)(T:Tx K mg a)(znb:Z2 P w K mg base "_law_at" 1 ["_law_script","_law_k"] (za9 K)):FnOk P w K mg base (CX1 P w) 2 f fd ["_law_script"] (An K):=by
 refine F.okX zai ⋯ fun _ _ _ _ H _ Q E hr h=>?_;obtain⟨b,ns,rfl,hS,h⟩:=h;rw[Ef];refine⟨_,(Zd (Zm (pI (iL K) (Z9 (P8 [0,1,2,3,4,5,6,7,8,9,10,0,0,0,1,1,1,2,2,0,1,3] Eg)) (Zt Yv (pF znb hr (Za (pv 0) (Za Zg Zc))) Zg)))),?_⟩;refine zj8 Kv ⋯ fun l H1 q1 s1 fl=>?_;have h0:=zv2 (Xb ns 1) (show (22:Int)≠0 by decide);have h1:=zvv (Xb ns 1) (show (0:Int)<22 by decide);have hat:=Wj (xs:=Kv) h0 (show _<((22:Nat):Int) by omega);have hb:0<=Kv.getD (Xb ns 1%22).toNat 0/\Kv.getD (Xb ns 1%22).toNat 0<=10:=by
  generalize (Xb ns 1%22).toNat=k;rw[zvp];cases e:Kv[k]? with
  | none=>exact⟨by decide,by decide⟩
  | some x =>
    have hm:=zu2 e;have:∀ x∈Kv,0<=x/\x<=10:=by decide
    exact this x hm
 have hfin:=h (Kv.getD (Xb ns 1%22).toNat 0).toNat H1 rfl ⋯ s1;rw[zwt hb.1] at hfin;exact⟨_,rfl,b,ns,1,rfl,s1.seq hS,_,_,rfl,rfl,(show (0:Int)<22 by decide),l,_,_,_,rfl,rfl,SqL.of q1,hat,hfin⟩
abbrev Qf:Stmt:=top 84
theorem Eh:Zl ["_law_script"] ["_law_script"] (Zi Qf):=fnS
theorem Ei(F:Fun K "_law_rounds" "_law_rounds" Qf f fd)(T:Tx K mg a)(znb:Z2 P w K mg base "_law_at" 1 ["_law_script","_law_k"] (za9 K)):FnOk P w K mg base (CX1 P w) 2 f fd ["_law_script"] (I9 K):=by
 refine F.okX Eh ⋯ fun _ _ _ _ H _ Q E hr h=>?_;obtain⟨b,ns,rfl,hS,h⟩:=h;refine⟨_,(Zd (Zm (pI (iL K) (Z9 (Za Zg (Za (Zt Yz Zg (Zt Yv (Zt Xe (pF znb hr (Za (pv 0) (Za Zg Zc))) Zg) Zg)) Zc))) (Zt Yv (Zt Xe (pF znb hr (Za (pv 0) (Za Zg Zc))) Zg) Zg)))),?_⟩;refine⟨_,rfl,b,ns,1,rfl,hS,?_⟩;refine⟨_,_,rfl,rfl,⟨by decide,by decide⟩,_,_,rfl,rfl,(show (0:Int)<60 by decide),_,_,rfl,rfl,sz2,fun l hl=>?_⟩;have s1:=Zk (o:=.lst [V.int 60,V.int (1+Xb ns 1/22%60)]) hl;have q1:upd H l (.lst [V.int 60,V.int (1+Xb ns 1/22%60)]) l=some (.lst [V.int 60,V.int (1+Xb ns 1/22%60)]):=Ze;refine⟨_,rfl,b,ns,0,rfl,s1.seq hS,_,_,rfl,rfl,⟨by decide,by decide⟩,_,_,rfl,rfl,(show (0:Int)<2 by decide),?_⟩;have h01:Xb ns 0/2%2=0\/Xb ns 0/2%2=1:=by omega
 have hat:atI [V.int 60,V.int (1+Xb ns 1/22%60)] (Xb ns 0/2%2)=some (.int (((Pb ns).toNat:Nat):Int))/\1<=(Pb ns).toNat/\(Pb ns).toNat<=60:=by
  unfold Pb;rcases h01 with e|e
  ·rw[e,if_pos rfl];exact⟨rfl,by decide,by decide⟩
  ·rw[e,if_neg ⋯,zwt ⋯];exact⟨rfl,by omega,by omega⟩
 exact⟨l,_,_,_,rfl,rfl,SqL.of q1,hat.1,h _ _ rfl hat.2.1 hat.2.2 s1⟩
abbrev Nw:Stmt:=top 85
theorem zak:Zl ["_law_script","_law_k"] ["_law_script","_law_k"] (Zi Nw):=fnS
theorem zal(F:Fun K "_law_cell" "_law_cell" Nw f fd)(T:Tx K mg a)(znb:Z2 P w K mg base "_law_at" 1 ["_law_script","_law_k"] (za9 K))(zog:Z2 P w K mg base "_law_mix" 1 ["_law_cell_here","_law_k"] zco):FnOk P w K mg base (CX1 P w) 2 f fd ["_law_script","_law_k"] (Ao K):=by
 refine F.okX zak ⋯ fun _ _ _ _ H _ Q E hr h=>?_;obtain⟨b,ns,k,rfl,hS,hk,h⟩:=h;refine⟨_,(Zb (Z4 (Zp Wd (Zt Yv (pF znb hr (Za (pv 0) (Za Zg Zc))) Zg) Zg (Zu _))
  (Zd (Zm (pF zog hr (Za (pI (iL K) (pv 0) (pv 1)) (Za (pv 1) Zc)))))
  Zq)
 (Zd (Zm (pI (iL K) (pv 0) (pv 1))))),?_⟩
 have hk':(ns.map V.int)[k]?=some (.int (ns[k]'hk)):=by rw[zu1,zuy hk];rfl
 refine⟨_,rfl,b,ns,0,rfl,hS,_,_,rfl,rfl,(show (0:Int)<2 by decide),rfl,_,rfl,?_⟩;refine itB (fun _=>?_) (fun _=>?_)
 ·exact⟨_,rfl,_,rfl,b,_,_,_,rfl,rfl,hS,Z7 hk',_,rfl,_,_,rfl,h _ H (Same.refl _)⟩
 ·exact⟨_,rfl,_,rfl,b,_,_,_,rfl,rfl,hS,Z7 hk',h _ H (Same.refl _)⟩
abbrev V6:Stmt:=top 86
theorem Ya:Zl ["_law_season","_law_at_here","_law_kept","_law_people_here","_law_listed","_law_goes","_law_moves","_law_may","_law_left","_law_number","_law_grade","_law_club","_law_spots"] ["_law_season","_law_at_here","_law_kept","_law_people_here"] (Zi V6):=fnS
theorem Ny(F:Fun K "_law_shows_round" "_law_shows_round" V6 f fd)(T:Tx K mg a)(zn3:Z2 P w K mg base "_law_rows_are" 4 ["_law_found","_law_due"] (Lc K))(znu:Zs P w K mg base a.zmx "matches" 4 ["self","at"] (Lo (ca a)))(znz:Z2 P w K mg base "_law_list_is" 3 ["_law_found","_law_due"] (Ib K))(zn8:Zs P w K mg base a.zmx "goes" 4 ["self","at"] (zbj (ca a)))(zn9:Zs P w K mg base a.zmx "left" 4 ["self","at"] (Iy (ca a)))(zpa:Z2 P w K mg base "_law_moves_are" 5 ["_law_found","_law_due"] (Hr K))(zns:Zs P w K mg base a.zmx "chains" 4 ["self","at"] (Iz (ca a)))(zna:Z2 P w K mg base "_law_one_is" 2 ["_law_found","_law_due"] Pu)(zpq:Zs P w K mg base a.zmx "where" 4 ["self","at","number"] (zc6 (ca a)))(zos:Z2 P w K mg base "_law_is_shortage" 4 ["_law_found","_law_may","_law_left"] (Dc K))(zn6:Zs P w K mg base a.zmx "why" 4 ["self","at"] (zgn (ca a))):FnOk P w K mg base (CX1 P w) 6 f fd ["_law_season","_law_at_here","_law_kept","_law_people_here"] (Mj K (ca a)):=by
 refine F.okX Ya ⋯ fun _ _ _ _ H _ Q E hr h=>?_;obtain⟨ok,A',S,i,t,lp,ll,lg,lm,lw,ts,mts,pts,ls,sh,rfl,SA,⟨i1,i2,i3,i4⟩,hsh,ht,hl,tl,hg,hm,gm,hw,iw,hp,tp,po,so,h⟩:=h;refine⟨_,(Zb (Qy (pv 2) (Xy (K:=K) (n:=4) rfl rfl (Zw (pN 4 Ya.nd) (Zw (pN 5 Ya.nd) (Zw (pN 6 Ya.nd) (Zw (pN 7 Ya.nd) Xw))))))
 (Zb (Uu (i:=8) Ya.nd rfl rfl rfl (cT ["_law_goes"] [5]) (Xu rfl T.zn0 (Za (Zn (cL K) (by rfl) T.zm9 PySem.boot_len (Za (pv 5) Zc)) Zc)) (fun _ _ _ _ _=>Se (Zp Ou (pI (iL K) (pv 1) (pv 0)) Y3 (Zu _))) (fun _ _ _ _ _=>(pv 0)))
 (Zb (Z4 (PW.pt (Vk (Xm (Xh (pF zn3 hr (Za (Yl (pv 0) T.zmy znu (hr.mono ⋯) Zj (Za (pv 1) Zc)) (Za (pv 4) Zc))))) (Wn (Xm (Xh (pF znz hr (Za (Yl (pv 0) T.zmy zn8 (hr.mono ⋯) Zj (Za (pv 1) Zc)) (Za (pv 5) Zc))))))))
  (Zd (Zm Wc))
  Zq)
 (Zb (Z4 (PW.pt (Vk (Xm (Xh (pF znz hr (Za (Yl (pv 0) T.zmy zn9 (hr.mono ⋯) Zj (Za (pv 1) Zc)) (Za (pv 8) Zc))))) (Wn (Xm (Xh (pF zpa hr (Za (Yl (pv 0) T.zmy zns (hr.mono ⋯) Zj (Za (pv 1) Zc)) (Za (pv 6) Zc))))))))
  (Zd (Zm Wc))
  Zq)
 (Zb (Yy PassesOwn.leaving rfl (Yc (K:=K) rfl (pv 3)) (Xy (K:=K) (n:=3) rfl rfl (Zw (pN 9 Ya.nd) (Zw (pN 10 Ya.nd) (Zw (pN 11 Ya.nd) Xw))))
  (Zb (pS 12 Ya.nd (Zt Ox (Vv rfl (cT ["_law_number","_law_goes"] [9,5]) (Xu rfl T.zn0 (Za (Zn (cL K) (by rfl) T.zm9 PySem.boot_len (Za (pv 5) Zc)) Zc)) (fun _ _ _ _ _=>Se (Zp Wd (pI (iL K) (pv 2) (pv 0)) (pv 1) (Zu _))) (fun _ _ _ _ _=>(pv 0))) (Z9 (Za Y3 Zc))))
  (Zd (Z4 (Xm (Xh (pF zna hr (Za (Yl (pv 0) T.zmy zpq (hr.mono ⋯) Zj (Za (pv 1) (Za (pv 9) Zc))) (Za (pI (iL K) (pv 12) Zg) Zc)))))
   (Zd (Zm Wc))
   Zq))))
 (Zd (Zm (pF zos hr (Za (Yl (pv 0) T.zmy zn6 (hr.mono ⋯) Zj (Za (pv 1) Zc)) (Za (pv 7) (Za (Zn (cL K) (by rfl) T.zm9 PySem.boot_len (Za (pv 8) Zc)) Zc))))))))))),?_⟩
 show let y1:TS:=_;let y2:TS:=_;let y3:TS:=Zz (zdi _ _ (Zz _ y1)) y2;let y4:TS:=Zz _ y3;let y5:TS:=Zz _ y4;let y6:TS:=Zz _ y5;Zz _ y6 _ _ _;intro y1 y2 y3 y4 y5 y6;obtain⟨g1,g2,g3,g4,⟨nu,g5⟩,g6,g7⟩:=so;have hgl:sh.gv.length=sh.may.length:=g3.len;obtain⟨⟨dx,vv,ob,_⟩,_⟩:=id SA;have i34:=And.intro i3 i4;refine⟨_,rfl,t,_,rfl,SqT.of ht,rfl,_,_,rfl,_,_,rfl,_,_,rfl,_,_,rfl,rfl,?_⟩;walk_at "if";refine⟨_,rfl,lg,_,rfl,.inl (SqL.of hg),?_⟩;refine⟨_,rfl,by omega,by omega,?_⟩;rw[zve];refine N9 (fun i=>decide (sh.gv[i]?=some .non)) (fun i=>.int (i:Nat)) ⋯ (fun j R hj k'=>?_) (fun j R hj _ k'=>?_) (fun lz flz=>?_)
 ·rw[zwf];have hgj:sh.gv[j]?=some (sh.gv[j]'hj):=zuy hj;refine⟨_,rfl,_,rfl,lg,_,_,_,rfl,rfl,SqL.of hg,Z7 hgj,rfl,_,rfl,?_⟩;rw[hgj] at k';have e2:decide (some (sh.gv[j]'hj)=some V.non)=decide ((sh.gv[j]'hj)=V.non):=decide_eq_decide.mpr ⟨fun z=>Option.some.inj z,fun z=>by rw[z]⟩;rw[e2] at k';exact k'
 ·rw[zwf];exact⟨_,rfl,k'⟩
 have hlft:(Xs sh.gv).length<=100:=by
  unfold Xs;exact zvb (zvr _ _) (by rw[zvu];omega)
 have s1:Same H (upd H lz (.lst ((Xs sh.gv).map fun i=>V.int (i:Nat)))):=Zk flz;have q1:upd H lz (.lst ((Xs sh.gv).map fun i=>V.int (i:Nat))) lz=some (.lst ((Xs sh.gv).map fun i=>V.int (i:Nat))):=Ze;show W4 8 _ _ (upd H lz (.lst ((Xs sh.gv).map fun i=>V.int (i:Nat)))) _;generalize upd H lz (.lst ((Xs sh.gv).map fun i=>V.int (i:Nat)))=H1 at s1 q1 ⊢;walk_at "if";refine Yp ?_;refine⟨_,rfl,A'.p,dx,_,rfl,s1 _ _ ob,Z6 ⋯,_,rfl,A',S,i,rfl,SA.same s1,Rj i1 i2 i34 hsh fun lq ts2 H2 hlq tq s2 _=>?_⟩;have s12:=s1.trans s2;refine⟨_,rfl,lq,ll,ts2,ts,_,rfl,hlq,SqL.of (s12 _ _ hl),tq,tl.same s12,fun r hr=>?_,by rw[zuw];omega,true,rfl,iteF ?_⟩
 ·obtain⟨m,_,rfl⟩:=zu6.mp hr;refine⟨by show 3<=1000;decide,fun x hx=>?_⟩;simp only[pV,zu4,zv1,or_false] at hx;rcases hx with rfl|rfl|rfl<;>exact .inr ⟨_,rfl⟩
 refine⟨_,rfl,A'.p,dx,_,rfl,s12 _ _ ob,Z6 ⋯,_,rfl,A',S,i,rfl,SA.same s12,Rj i1 i2 i34 hsh fun lq2 H3 hlq2 s3 _=>?_⟩;have s13:=s12.trans s3;refine⟨_,rfl,lq2,lg,sh.gv,rfl,hlq2,SqL.of (s13 _ _ hg),g3.one,by omega,true,rfl,iteF (Z0 ?_)⟩;dsimp only;refine Yp ?_;refine⟨_,rfl,A'.p,dx,_,rfl,s13 _ _ ob,Z6 ⋯,_,rfl,A',S,i,rfl,SA.same s13,Rj i1 i2 i34 hsh ⟨g3.one,by omega,fun l3 H4 hl3 s4 _=>?_⟩⟩;have s14:=s13.trans s4;have q4:=(s2.trans (s3.trans s4)) _ _ q1;refine⟨_,rfl,l3,lz,_,rfl,hl3,SqL.of q4,fun x hx=>?_,by rw[zuw];omega,true,rfl,iteF ?_⟩
 ·obtain⟨k,_,rfl⟩:=zu6.mp hx;exact .inr ⟨_,rfl⟩
 refine⟨_,rfl,A'.p,dx,_,rfl,s14 _ _ ob,Z6 ⋯,_,rfl,A',S,i,rfl,SA.same s14,Rj i1 i2 i34 hsh ⟨by omega,fun l4 ts4 H5 hl4 gl4 s5 _=>?_⟩⟩;have s15:=s14.trans s5;refine⟨_,rfl,_,ok,l4,lm,ts4,mts,sh.gaps,rfl,hl4,s15 _ _ hm,gl4,gm.keepL (.of s15),by omega,fun x hx=>zvb (g7 x hx) ⋯,true,rfl,iteF (Z0 ?_)⟩;have q5:=s5 _ _ q4;dsimp only;clear q4 q1 hlq tq hlq2 hl3 hl4 gl4 s14 s13 s12 s1 s2 s3 s4 s5
 let jv8:Nat->L2.St->Hp->Prop:=fun j σ H'=>(∃ v9 v10 v11 v12,σ=[some (.ref A'.p),some (.int i),some (.ref t),some (.ref lp),some (.ref ll),some (.ref lg),some (.ref lm),some (.ref lw),some (.ref lz),v9,v10,v11,v12])/\Same H5 H'
 refine⟨_,rfl,lp,rfl,⟨_,SqL.of (s15 _ _ hp)⟩,Xf (K:=K) (a:=lp) (xs:=pts) jv8 ⟨⟨_,_,_,_,rfl⟩,Same.refl _⟩ (fun j σ H' _ ⟨_,z⟩=>SqL.of (z _ _ (s15 _ _ hp))) ?_ ?_⟩
 ·rintro j x σ H6 hx ⟨⟨v9,v10,v11,v12,rfl⟩,s6⟩;obtain⟨t',r,rfl,hr,ht'⟩:=tp.get hx;obtain⟨pp,hpp,rfl⟩:∃ pp,S.ppl[j]?=some pp/\pV pp=r:=by
   rw[zu1] at hr;cases e:S.ppl[j]? with
   | none=>rw[e] at hr;cases hr
   | some y=>rw[e] at hr;exact⟨y,rfl,Option.some.inj hr⟩
  have hin:=zu2 hpp;have hinn:pp.1∈S.ppl.map (·.1):=zu6.mpr ⟨pp,hin,rfl⟩;have s16:=s15.trans s6;refine⟨t',_,rfl,SqT.of (s16 _ _ ht'),rfl,_,_,rfl,_,_,rfl,_,_,rfl,rfl,?_⟩;walk_at "if";refine⟨_,rfl,lg,_,rfl,.inl (SqL.of (s16 _ _ hg)),?_⟩;refine⟨_,rfl,by omega,by omega,?_⟩;rw[zve];refine N9 (fun i=>decide (sh.gv[i]?=some (.int pp.1))) (fun i=>.int (i:Nat)) ⋯ (fun j R hj k'=>?_) (fun j R hj _ k'=>?_) (fun l7 fl7=>?_)
  ·rw[zwf];have hgj:sh.gv[j]?=some (sh.gv[j]'hj):=zuy hj;refine⟨_,rfl,_,rfl,lg,_,_,_,rfl,rfl,SqL.of (s16 _ _ hg),Z7 hgj,_,rfl,?_,_,rfl,?_⟩
   ·rcases g3.one _ (zvs hj) with z|⟨_,z⟩<;>rw[z]<;>rfl
   ·rw[hgj] at k';have e2:decide (some (sh.gv[j]'hj)=some (V.int pp.1))=decide ((sh.gv[j]'hj)=V.int pp.1):=decide_eq_decide.mpr ⟨fun z=>Option.some.inj z,fun z=>by rw[z]⟩;rw[e2] at k';exact k'
  ·rw[zwf];exact⟨_,rfl,k'⟩
  rw[A7 g3];obtain⟨op,hop⟩:∃ op,op=Xt sh.gv pp.1:=⟨_,rfl⟩;rw[<- hop];refine al (upd _ l7 _) fl7 rfl fun H7 q7 s7=>?_;have hol:(op.toList.map fun i=>V.int (i:Nat)).length<=1:=by cases op<;>simp
  refine⟨(by show 1<=sizeLine;rw[sizeLine_eq];decide),fun le fe=>?_⟩;refine al (upd _ le _) fe rfl fun H8 q8 SH8=>?_;have s8:=s7.trans SH8;have q78:=SH8 _ _ q7;refine⟨l7,le,_,_,rfl,rfl,q78,q8,szN (by show _+1<=1000;omega),fun lc fc=>?_⟩;refine al (upd _ lc _) fc rfl fun H9 q9 SH9=>?_;have s9:=s8.trans SH9;have hz0:atI ((op.toList.map fun i=>V.int (i:Nat))++[.non]) 0=some (oN op):=by cases op<;>rfl
  have s19:=s16.trans s9;walk_at "if";refine⟨_,rfl,A'.p,dx,_,rfl,s19 _ _ ob,Z6 ⋯,_,rfl,_,rfl,A',S,i,pp.1,rfl,SA.same s19,po.small pp hin,Rj i1 i2 i34 hsh ⟨g3.one,by omega,?_⟩⟩;rw[if_pos hinn,<- hop];intro H10 s10;refine⟨_,rfl,lc,_,_,_,rfl,rfl,SqL.of (s10 _ _ q9),hz0,oN op,rfl,(by cases op with|none=>exact .inl rfl|some i=>exact .inr ⟨_,rfl⟩),true,rfl,iteF (Z0 ?_)⟩;exact⟨⟨_,_,_,_,rfl⟩,s6.trans (s9.trans s10)⟩
 ·rintro σ H6 ⟨⟨v9,v10,v11,v12,rfl⟩,s6⟩;have s16:=s15.trans s6;refine⟨_,rfl,A'.p,dx,_,rfl,s16 _ _ ob,Z6 ⋯,_,rfl,A',S,i,rfl,SA.same s16,Rj i1 i2 i34 hsh ⟨⟨_,g5⟩,g3,K1 g3 g4,fun tw lp9 lr9 ps rs H7 htw hp9 hr9 SP s7 _ _ _ _=>?_⟩⟩;have s17:=s16.trans s7;refine⟨_,rfl,_,rfl,lz,_,rfl,.inl (SqL.of ((s6.trans s7) _ _ q5)),?_⟩;rw[zuw];exact⟨tw,lw,lp9,lr9,ls,sh.may,nu,sh.gv,ps,rs,rfl,htw,s17 _ _ hw,iw.same s17,g5,hp9,hr9,SP,fun H8 s8=>h H8 (s17.trans s8)⟩
abbrev Pr:Stmt:=top 87
theorem C6:Zl ["_law_found"] ["_law_found"] (Zi Pr):=fnS
theorem C7(F:Fun K "_law_spoil" "_law_spoil" Pr f fd)(T:Tx K mg a):FnOk P w K mg base (CX1 P w) 1 f fd ["_law_found"] Cv:=by
 refine F.okX C6 ⋯ fun _ _ _ _ H _ Q E hr h=>?_;obtain⟨l,xs,rfl,hl,hz,h⟩:=h;refine⟨_,(Zb (Z4 (Zp Sa (Zn (cL K) (by rfl) T.zm9 PySem.boot_len (Za (pv 0) Zc)) Zg (Zu _))
  (Zd (Qy Zg (zao (pv 0) Zg J6)))
  Zq)
 (Zd (Yu (pv 0) Zg))),?_⟩
 let jv1:L2.St->Hp->Prop:=fun σ' H'=>σ'=[some (.ref l)]/\∃ zs,zs.length=xs.length/\H'=upd H l (.lst zs)
 refine Kp (b:=decide ((0:Int)<(xs.length:Int))) jv1 (fun Q q=>⟨_,rfl,l,_,rfl,.inl (SqL.of hl),_,_,rfl,rfl,_,rfl,q⟩) (fun hb N hN=>?_) (fun hb N hN=>Z0 (hN _ _ ⟨rfl,xs,rfl,?_⟩)) ?_
 ·cases xs with
  | nil=>exact absurd (of_decide_eq_true hb) ⋯
  | cons x xs=>exact⟨_,rfl,l,x :: xs,0,0,rfl,rfl,hl,(by unfold ixN;simp),hN _ _ ⟨rfl,(x :: xs).set 0 (.int 12345),by simp,rfl⟩⟩
 ·exact funext fun y=>by
   by_cases z:y=l
   ·rw[z,Ze];exact hl
   ·rw[Zf z]
 ·rintro σ' H' ⟨rfl,zs,hzs,rfl⟩;refine⟨_,rfl,l,zs,rfl,Ze,zs,Ze,by have:=Ur;omega,?_⟩;rw[N1];exact h _ (by rw[zuz,hzs];rfl)
theorem zig{H:Hp}{S:Sea}{i:Int}{s:Zy}{E:XK}{k:Zy->Prop}(si:Yi i)(ol:S.old.length=S.led.length)(h1:1<=i)(h2:i<=S.len)(hs:Y4 S i=some s)(hk:k s):Um (ca a) H S i E k :=
 A9 (r:=none) si ol (fun x e=>by unfold dueR at e;rw[if_neg ⋯,hs,if_pos (show (some s).isSome=true from rfl)] at e;cases e) fun s' hs' _=>by rw[hs] at hs';cases hs';exact hk
abbrev V7:Stmt:=top 88
theorem Vj:Zl ["_law_season","_law_at_here","_law_number","_law_steps"] ["_law_season","_law_at_here"] (Zi V7):=fnS
theorem Nz(F:Fun K "_law_spoil_round" "_law_spoil_round" V7 f fd)(T:Tx K mg a)(znh:Z2 P w K mg base "_law_spoil" 1 ["_law_found"] Cv)(znu:Zs P w K mg base a.zmx "matches" 4 ["self","at"] (Lo (ca a)))(zn8:Zs P w K mg base a.zmx "goes" 4 ["self","at"] (zbj (ca a)))(zn9:Zs P w K mg base a.zmx "left" 4 ["self","at"] (Iy (ca a)))(zn6:Zs P w K mg base a.zmx "why" 4 ["self","at"] (zgn (ca a)))(zns:Zs P w K mg base a.zmx "chains" 4 ["self","at"] (Iz (ca a))):FnOk P w K mg base (CX1 P w) 5 f fd ["_law_season","_law_at_here"] (Ml (ca a)):=by
 refine F.okX Vj ⋯ fun _ _ _ _ H _ Q E hr h=>?_;obtain⟨A',S,i,s,nu,n,rfl,SA,so,oo,hn,si,h1,hs,h2,h⟩:=h;refine⟨_,(Zb (Z1 (pF znh hr (Za (Yl (pv 0) T.zmy znu (hr.mono ⋯) Zj (Za (pv 1) Zc)) Zc)))
 (Zb (Z1 (pF znh hr (Za (Yl (pv 0) T.zmy zn8 (hr.mono ⋯) Zj (Za (pv 1) Zc)) Zc)))
 (Zb (Z1 (pF znh hr (Za (Yl (pv 0) T.zmy zn9 (hr.mono ⋯) Zj (Za (pv 1) Zc)) Zc)))
 (Zb (Z1 (pF znh hr (Za (pI (iU K) (Yl (pv 0) T.zmy zn6 (hr.mono ⋯) Zj (Za (pv 1) Zc)) Zg) Zc)))
 (Zb (Z1 (pF znh hr (Za (pI (iU K) (Yl (pv 0) T.zmy zn6 (hr.mono ⋯) Zj (Za (pv 1) Zc)) Zg) Zc)))
 (Zb (Yy PassesOwn.leaving rfl (Yc (K:=K) rfl (Yl (pv 0) T.zmy zns (hr.mono ⋯) Zj (Za (pv 1) Zc))) (Xy (K:=K) (n:=2) rfl rfl (Zw (pN 2 Vj.nd) (Zw (pN 3 Vj.nd) Xw)))
  (Zd (Z1 (pF znh hr (Za (pv 3) Zc)))))
 (Zd (Z1 (pF znh hr (Za (Yl (pv 0) T.zmy zns (hr.mono ⋯) Zj (Za (pv 1) Zc)) Zc)))))))))),?_⟩
 have ol:=so.olen;have sk:=zbw so oo hs;obtain⟨⟨dx,vv,ob,_⟩,_⟩:=id SA;have ofs:∀ {H:Hp} {E:XK} {k:Zy->Prop},k s->Um (ca a) H S i E k:=fun hk=>zig si ol h1 h2 hs hk;have hms:=sk.ms;have hml:=sk.ml;have hgl:=sk.fi.len;have hgp:=sk.gp;have s0:=Same.refl H;have shl:∀ {ps:List Nat} {rs:List Int},Lj s.may s.gv ps rs->ps.length<=20/\rs.length<=20:=fun {ps rs} z=>by
  have nd:ps.Nodup:=z.up.imp fun h=>zvq h;have:=nd.length_le_of_subset (l₂:=List.range s.may.length) fun c hc=>zvy.mpr (z.lt c hc);rw[zvu] at this;have:=z.cnt;omega
 refine Yp ⟨_,rfl,A'.p,dx,_,rfl,ob,Z6 ⋯,_,rfl,A',S,i,rfl,SA,ofs fun l ts H1 hl1 tl s1 fl=>⟨l,_,rfl,hl1,by have:=tl.length;rw[zuw] at this;omega,fun ys _=>?_⟩⟩
 replace s1:=Yb (o:=.lst ys) fl s1
 generalize upd H1 l (.lst ys)=H1 at s1 ⊢;clear hl1 tl fl;refine Yp ⟨_,rfl,A'.p,dx,_,rfl,s1 _ _ ob,Z6 ⋯,_,rfl,A',S,i,rfl,SA.same s1,ofs fun l H2 hl2 s2 fl=>⟨l,_,rfl,hl2,by omega,fun ys _=>?_⟩⟩
 replace s2:=s1.trans (Yb (o:=.lst ys) fl s2)
 generalize upd H2 l (.lst ys)=H2 at s2 ⊢;clear hl2 fl;refine Yp ⟨_,rfl,A'.p,dx,_,rfl,s2 _ _ ob,Z6 ⋯,_,rfl,A',S,i,rfl,SA.same s2,ofs ⟨sk.q.1,sk.q.2.1,fun l H3 hl3 s3 fl=>⟨l,_,rfl,hl3,by rw[zuw];exact zvb (zvr _ _) (by rw[zvu];omega),fun ys _=>?_⟩⟩⟩
 replace s3:=s2.trans (Yb (o:=.lst ys) fl s3)
 generalize upd H3 l (.lst ys)=H3 at s3 ⊢;clear hl3 fl;refine Yp ⟨_,rfl,A'.p,dx,_,rfl,s3 _ _ ob,Z6 ⋯,_,rfl,A',S,i,rfl,SA.same s3,ofs ⟨sk.mo,sk.fi,sk.q.2.2,fun t lp lr ps rs H4 ht4 hp4 hr4 sp s4 _ fp fr _=>⟨t,_,_,_,rfl,rfl,SqT.of ht4,Z7 (j:=0) rfl,lp,_,rfl,hp4,by unfold Wt;rw[zuw];have:=(shl sp).1;omega,fun ys _=>?_⟩⟩⟩
 replace s4:=s3.trans (Yb (o:=.lst ys) fp s4)
 generalize upd H4 lp (.lst ys)=H4 at s4 ⊢;clear ht4 hp4 hr4 fp fr;refine Yp ⟨_,rfl,A'.p,dx,_,rfl,s4 _ _ ob,Z6 ⋯,_,rfl,A',S,i,rfl,SA.same s4,ofs ⟨sk.mo,sk.fi,sk.q.2.2,fun t lp lr ps rs H5 ht5 hp5 hr5 sp s5 _ fp fr _=>⟨t,_,_,_,rfl,rfl,SqT.of ht5,Z7 (j:=1) rfl,lr,_,rfl,hr5,by rw[zuw];have:=(shl sp).2;omega,fun ys _=>?_⟩⟩⟩
 replace s5:=s4.trans (Yb (o:=.lst ys) fr s5)
 generalize upd H5 lr (.lst ys)=H5 at s5 ⊢;clear ht5 hp5 hr5 fp fr;refine Yp ⟨_,rfl,A'.p,dx,_,rfl,s5 _ _ ob,Z6 ⋯,_,rfl,A',S,i,rfl,SA.same s5,ofs ⟨by omega,fun l ts H6 hl6 gl s6 fl=>⟨l,rfl,⟨_,SqL.of hl6⟩,?_⟩⟩⟩;have gln:=gl.length
 let jv2:Nat->L2.St->Hp->Prop:=fun j σ H'=>(∃ v2 v3,σ=[some (.ref A'.p),some (.int i),v2,v3])/\Same H5 H'/\H' l=some (.lst ts)/\∀ x∈ts,∃ t l2 n us,x=.ref t/\H' t=some (.tup [.int n,.ref l2])/\H' l2=some (.lst us)/\us.length<=100+j/\H5 l2=none/\l2≠l
 refine Xf (xs:=ts) jv2 ⟨⟨_,_,rfl⟩,s6,hl6,fun x hx=>?_⟩ (fun _ _ _ _ z=>SqL.of z.2.2.1) (fun j x σ H7 hx hP=>?_) fun σ H7 hP=>?_
 ·obtain⟨j,hj,rfl⟩:=zv6 hx;obtain⟨t,l2,n2,us,st,e1,e2,e3,e4,e5,e6⟩:=gl.get (zuy hj);have:=hgp.2 _ (zu2 e2);have e7:=e5.length;rw[zuw] at e7;exact⟨t,l2,n2,us,e1,e3,e4,by show us.length<=100+0;have:st.length<=100:=this;omega,e6.1,e6.2⟩
 ·obtain⟨⟨v2,v3,rfl⟩,s7,hl7,li7⟩:=hP;have hj:=(zux.mp hx).1;obtain⟨t,l2,n2,us,rfl,e3,e4,e5,e6,e7⟩:=li7 x (zu2 hx);refine⟨t,_,rfl,SqT.of e3,rfl,_,_,rfl,_,_,rfl,rfl,?_⟩;walk_at "if";refine⟨_,rfl,l2,us,rfl,e4,by omega,fun ys hys=>⟨⟨_,_,rfl⟩,Yb e6 s7,?_,fun z hz=>?_⟩⟩
  ·rw[Zf (Ne.symm e7)];exact hl7
  ·obtain⟨t',l2',n2',us',rfl,f3,f4,f5,f6,f7⟩:=li7 z hz;have ft:upd H7 l2 (.lst ys) t'=some (.tup [.int n2',.ref l2']):=by rw[Zf (Yw f3 e4 (fun z=>nomatch z))];exact f3
   by_cases c:l2'=l2
   ·subst c;exact⟨t',l2',n2',ys,rfl,ft,Ze,by omega,f6,f7⟩
   ·exact⟨t',l2',n2',us',rfl,ft,by rw[Zf c];exact f4,by omega,f6,f7⟩
 obtain⟨⟨v2,v3,rfl⟩,s7,_,_⟩:=hP
 replace s7:=s5.trans s7
 refine⟨_,rfl,A'.p,dx,_,rfl,s7 _ _ ob,Z6 ⋯,_,rfl,A',S,i,rfl,SA.same s7,ofs ⟨by omega,fun l ts H8 hl8 gl8 s8 fl=>⟨l,_,rfl,hl8,by have:=gl8.length;omega,fun ys _=>h _ (s7.trans (Yb fl s8))⟩⟩⟩
abbrev Dv:Stmt:=top 89
theorem V8:Zl ["_law_script","_law_mixed","_law_season","_law_pool_here","_law_pages","_law_k","_law_deed_here","_law_told","_law_page","_law_at_here","_law_j","_law_kept"] ["_law_script"] (Zi Dv):=fnS
theorem zkc(F:Fun K "law" "law" Dv f fd)(T:Tx K mg a)(znb:Z2 P w K mg base "_law_at" 1 ["_law_script","_law_k"] (za9 K))(zrw:Tg P w K mg base "Season" a.zmx 3 ["self","rounds","rest"] (zc3 (ca a)))(zqd:Z2 P w K mg base "_law_rest" 2 ["_law_script"] (An K))(zpf:Z2 P w K mg base "_law_rounds" 2 ["_law_script"] (I9 K))(zq8:Z2 P w K mg base "_law_pool" 2 ["_law_script","_law_crowd"] (Ap K))(zqn:Z2 P w K mg base "_law_first" 1 ["_law_rounds_here","_law_rest_here"] zc8)(zpk:Z2 P w K mg base "_law_enrolled" 9 ["_law_season","_law_pages","_law_deeds"] (Hm K (ca a)))(zqg:Z2 P w K mg base "_law_people" 2 ["_law_script","_law_pool_here"] (Hl K))(zq3:Z2 P w K mg base "_law_deed" 3 ["_law_pages","_law_cell_here","_law_pool_here","_law_most","_law_mixed"] (A4 K))(zq2:Z2 P w K mg base "_law_cell" 2 ["_law_script","_law_k"] (Ao K))(zqb:Z2 P w K mg base "_law_do" 8 ["_law_season","_law_deed_here"] (zbx K (ca a)))(zoq:Z2 P w K mg base "_law_paged" 3 ["_law_pages","_law_deed_here"] (Cp K))(znh:Z2 P w K mg base "_law_spoil" 1 ["_law_found"] Cv)(zp2:Z2 P w K mg base "_law_stepped" 1 ["_law_goes","_law_steps"] (Rg K))(zob:Z2 P w K mg base "_law_spoil_round" 5 ["_law_season","_law_at_here"] (Ml (ca a)))(zoc:Z2 P w K mg base "_law_shows_round" 6 ["_law_season","_law_at_here","_law_kept","_law_people_here"] (Mj K (ca a)))(zoz:Z2 P w K mg base "_law_open" 2 ["_law_page"] (zbp K))(zna:Z2 P w K mg base "_law_one_is" 2 ["_law_found","_law_due"] Pu)(zmz:Zs P w K mg base a.zmx "at_hand" 2 ["self"] (Us (ca a))):FnOk P w K mg base (CX1 P w) 10 f fd ["_law_script"] (zcq K):=by
 refine F.okX V8 ⋯ fun _ _ _ _ H _ Q E hr h=>?_;obtain⟨b,ns,rfl,hS,hlen,h⟩:=h;have hu:=W0 hr;refine⟨_,(Zb (pS 1 V8.nd (Zt Yv (pF znb hr (Za (pv 0) (Za Zg Zc))) Zg))
 (Zb (pS 2 V8.nd (D5 zrw (hr.mono ⋯) Zj rfl (Za (pF zpf hr (Za (pv 0) Zc)) (Za (pF zqd hr (Za (pv 0) Zc)) Zc))))
 (Zb (pS 3 V8.nd (pF zq8 hr (Za (pv 0) (Za Zg Zc))))
 (Zb (pS 4 V8.nd (Z9 (Za (pF zqn hr (Za (pF zpf hr (Za (pv 0) Zc)) (Za (pF zqd hr (Za (pv 0) Zc)) Zc))) Zc)))
 (Zb (pS 4 V8.nd (pF zpk hr (Za (pv 2) (Za (pv 4) (Za (pF zqg hr (Za (pv 0) (Za (pv 3) Zc))) Zc)))))
 (Zb (Yy PassesOwn.leaving rfl (Ek rfl T.zn0 (Za Zg (Za (Zn (Em rfl) (by rfl) T.zsi PyProof.Rows.boot_min (Za Zg (Za (Zn (cL K) (by rfl) T.zm9 PySem.boot_len (Za (pv 0) Zc)) Zc))) Zc))) (pN 5 V8.nd)
  (Zb (Z4 (Zp Wd (Zn (cL K) (by rfl) T.zm9 PySem.boot_len (Za (pD hu (pI (iL K) (pv 4) (N4 Ru Zg)) Zo) Zc)) (pD hu (pI (iL K) (pv 4) (N4 Ru Zg)) Zo) (Zu _))
   (Zd ze2)
   Zq)
  (Zb (pS 6 V8.nd (pF zq3 hr (Za (pv 4) (Za (pF zq2 hr (Za (pv 0) (Za (pv 5) Zc))) (Za (pv 3) (Za Zg (Za (pv 1) Zc)))))))
  (Zb (pS 7 V8.nd (pF zqb hr (Za (pv 2) (Za (pv 6) Zc))))
  (Zb (pS 4 V8.nd (pF zoq hr (Za (pv 4) (Za (pv 6) Zc))))
  (Zb (pS 8 V8.nd (pI (iL K) (pv 4) (N4 Ru Zg)))
  (Zb (pS 9 V8.nd (Zt Yz (Zn (cL K) (by rfl) T.zm9 PySem.boot_len (Za (pD hu (pv 8) Zo) Zc)) Zg))
  (Zb (Z4 (Zp Wd (pI (iU K) (pv 6) Zg) Zo (Zu _))
   (Zb (Yq hu (pv 8) Zo (Xl (Y8 (K:=K) rfl) (by rfl) T.zol PyProof.Rows.boot_list (Za (pv 7) Zc)) rfl)
   (Zd (Z1 (pF znh hr (Za (pv 7) Zc)))))
   Zq)
  (Zb (Z4 (Zp Wd (pI (iU K) (pv 6) Zg) Zo (Zu _))
   (Zb (Z4 (Zp (D6 (K:=K) rfl hr.units) (pv 7) (Z9 Zc) (Zu _))
    (Zb (Yq hu (pv 8) Zo (pF zp2 hr (Za (pD hu (pv 8) Zo) (Za (pv 7) Zc))) rfl)
    (Zd (Yq hu (pv 8) Zo (Zt Ox (pD hu (pv 8) Zo) (Z9 (Za (Yd (Za (pI (iU K) (pv 6) Zg) (Za (Xl (Y8 (K:=K) rfl) (by rfl) T.zol PyProof.Rows.boot_list (Za (pv 7) Zc)) Zc))) Zc))) rfl)))
    Zq)
   (Zd (Z1 (pF znh hr (Za (pv 7) Zc)))))
   Zq)
  (Zb (Yy PassesOwn.leaving rfl (Ek rfl T.zn0 (Za (Zn (M3 rfl) (by rfl) T.zr5 PyProof.Rows.boot_max (Za Zg (Za (Zt Qz (Zn (cL K) (by rfl) T.zm9 PySem.boot_len (Za (pD hu (pv 8) Zo) Zc)) Zg) Zc))) (Za (Zn (cL K) (by rfl) T.zm9 PySem.boot_len (Za (pD hu (pv 8) Zo) Zc)) Zc))) (pN 10 V8.nd)
   (Zb (Z1 (pF zob hr (Za (pv 2) (Za (Zt Yz (pv 10) Zg) Zc))))
   (Zd (Z4 (Xm (Xh (pF zoc hr (Za (pv 2) (Za (Zt Yz (pv 10) Zg) (Za (pI (iL K) (pD hu (pv 8) Zo) (pv 10)) (Za (pD hu (pv 8) Zo) Zc)))))))
    (Zd (Zm Wc))
    Zq))))
  (Zd (Z4 (Zp U6 (pD hu (pv 8) Zo) Y3 (Zu _))
   (Zb (pS 11 V8.nd (Yd (Za (pD hu (pv 8) Zo) (Za (pD hu (pv 8) Zo) (Za (pD hu (pv 8) Zo) (Za (pF zoz hr (Za (pv 8) Zc)) Zc))))))
   (Zb (Z1 (pF zob hr (Za (pv 2) (Za (pv 9) Zc))))
   (Zd (Z4 (Xm (Xh (pF zoc hr (Za (pv 2) (Za (pv 9) (Za (pv 11) (Za (pD hu (pv 8) Zo) Zc)))))))
    (Zd (Zm Wc))
    Zq))))
   Zq))))))))))))
 (Zd (Zm (pF zna hr (Za (Yo (pv 2) T.zmy zmz (hr.mono ⋯) Zj) (Za (Zt Yz (Zn (cL K) (by rfl) T.zm9 PySem.boot_len (Za (pD hu (pI (iL K) (pv 4) (N4 Ru Zg)) Zo) Zc)) Zg) Zc))))))))))),?_⟩
 show let y1:TS:=_;let y2:TS:=_;let y3:TS:=Zz _ y2;let y4:TS:=(G8 _ (Zz _ y3) _);let y5:TS:=Zz (zdi _ _ (Zz _ y1)) y4;let y6:TS:=Zz _ y5;let y7:TS:=Zz _ y6;let y8:TS:=Zz _ y7;let y9:TS:=Zz _ y8;let y10:TS:=Zz _ y9;let y11:TS:=Zz _ y10;let y12:TS:=Zz _ y11;let y13:TS:=_;let y14:TS:=Zz (zdi _ _ (Zz _ y12)) y13;let y15:TS:=Zz _ y14;let y16:TS:=Zz _ y15;let y17:TS:=Zz _ y16;let y18:TS:=Zz _ y17;Zz _ y18 _ _ _;intro y1 y2 y3 y4 y5 y6 y7 y8 y9 y10 y11 y12 y13 y14 y15 y16 y17 y18;refine⟨_,rfl,b,ns,0,rfl,hS,_,_,rfl,rfl,(show (0:Int)<2 by decide),?_⟩;obtain⟨mx,hmx,hmx1⟩:∃ mx:Nat,Xb ns 0%2=(mx:Int)/\mx<=1:=⟨(Xb ns 0%2).toNat,by omega,by omega⟩;walk_at "if";rw[hmx];refine⟨_,rfl,b,ns,rfl,hS,fun rr H1 hrr hr1 hr60 s1=>?_⟩;refine⟨_,rfl,b,ns,rfl,s1.seq hS,fun rq H2 hrq hq10 s2=>?_⟩;have s12:=s1.trans s2;have hS2:=s12.seq hS;intro p0 dx0 hp0 hdx0 ne0;refine⟨p0,dx0,rr,rq,rfl,Ze,Yk ⋯ ⋯,Yk ⋯ ⋯,?_⟩;rw[if_neg ⋯,if_neg ⋯];intro A1 H4 hAp SA4 k4 f4;rw[zve,zve] at SA4;have s4:Same H2 H4:=fun x o e=>k4 x o (by rw[Zf (Zh e hp0),Zf (Zh e hdx0)];exact e) (Zh e hp0);have ff:∀ x∈A1.fp,H2 x=none:=fun x hx=>by
  by_cases z:x=p0
  ·rw[z];exact hp0
  ·have:=f4 x hx z;rw[Zf z] at this;by_cases w:x=dx0
   ·rw[w];exact hdx0
   ·rw[Zf w] at this;exact this
 have SC4:Sj K A1 H4 b (ns.map V.int):=.make hS2 A1 H4 s4 ff;clear f4 k4;subst hAp;refine⟨rfl,?_⟩;walk_at "if";refine⟨_,rfl,b,ns,7,rfl,SC4.sq,by decide,by decide,fun t lc ln cs nu H6 PL hnu s6 ft flc fln=>?_⟩;have SA6:=SA4.same s6;have SC6:=SC4.fr (.of s6);have no5:=SA4.newOk;have PO6:Mh A1 H6 t lc ln cs nu:=⟨PL,no5 _ ft,no5 _ flc,no5 _ fln⟩;walk_at "if";refine⟨_,rfl,b,ns,rfl,SC6.sq,fun rr' H7 hrr' _ _ s7=>?_⟩;have SC7:=SC6.fr (.of s7);refine⟨_,rfl,b,ns,rfl,SC7.sq,fun rq' H8 hrq' _ s8=>?_⟩;cases (hrr'.trans hrr.symm);cases (hrq'.trans hrq.symm);refine⟨rr,rq,rfl,fun d9 H9 pg9 s9 fd9=>⟨(by show 1<=sizeLine;rw[sizeLine_eq];decide),fun l10 fl10=>?_⟩⟩;have SC9:=((SC7.fr (.of s8)).fr (.of s9));have SA9:=((SA6.same s7).same s8).same s9;have PO9:=((PO6.fr (.of s7)).fr (.of s8)).fr (.of s9);have no8:=((SA6.same s7).same s8).newOk;have F9:=zbu (mb:=true) (nu:=nu) (n:=0) (pg9.imp (ok':=(·∉A1.fp)) fun x _ hx=>no8 x hx) hr60 hq10;have s10:=Zk (o:=.lst [.ref d9]) fl10;have q10:=Ze (H:=H9) (a:=l10) (o:=.lst [.ref d9]);have o10:=SA9.newOk _ fl10;walk_at "if";generalize upd H9 l10 (.lst [.ref d9])=H10 at s10 q10 ⊢;have SA10:=SA9.same s10;have SC10:=SC9.fr (.of s10);have PO10:=PO9.fr (.of s10);have F10:=F9.same s10;show Zz _ _ _ [some (.ref b),some (.int mx),some (.ref A1.p),some (.ref t),some (.ref l10),none,none,none,none,none,none,none] H10;clear SA9 SC9 PO9 F9 SA6 SC6 PO6 PL SC7 SC4 SA4 no5 no8 pg9 hS hS2 s12;have nfew:=PO10.at_.nfew;refine⟨_,rfl,_,rfl,_,rfl,_,rfl,b,t,lc,ln,ns,cs,nu,rfl,SC10.sq,PO10.at_,fun le ts es H11 hle tl en el eok s11 fle=>?_⟩;have SA11:=SA10.same s11;have nd11:(es.map (·.1)).Nodup:=by rw[en];exact PO10.at_.nnd.sublist (List.take_sublist _ _)
 refine⟨true,A1,l10,le,ts,es,[],d9,_,_,nu,0,rfl,SA11,s11 _ _ q10,o10,F10.same s11,hle,SA10.newOk _ fle,tl,nd11,fun x hx=>?_,(by show 0+es.length<=30;omega),by omega,rfl,(by show 0<rr;omega),fun A2 l2 ds2 d2 P2 S2 H12 SA12 hl12 ho12 F12 f12 hc12 he12 hn12=>?_⟩
 ·obtain⟨x1,x2,x3⟩:=eok x hx;have hxn:x.1∈nu:=by
   have:x.1∈es.map (·.1):=zu6.mpr ⟨x,hx,rfl⟩;rw[en] at this;exact zwq this
  refine⟨hxn,?_,nofun⟩;have:=PO10.at_.nrng _ hxn;have:=PO10.at_.crng _ x3;unfold badI;omega
 have SC12:=(SC10.fr (.of s11)).fr f12;have PO12:=(PO10.fr (.of s11)).fr f12;have OO12:Om 30 S2:=fun s hs=>by
  have h1:=F12.so.olen;rw[he12] at h1;have:S2.old=[]:=zwc.mp h1;rw[this] at hs;cases hs
 have hAp:=f12.p;walk_at "if";refine⟨_,rfl,b,_,rfl,.inl SC12.sq,?_⟩;rw[zuw];refine⟨_,_,rfl,6,_,rfl,⟨by omega,by omega,by split<;>omega,by split<;>omega⟩,?_⟩;obtain⟨N0,hN0,hN1⟩:∃ N0:Nat,((if (ns.length:Int)<63 then (ns.length:Int) else 63)-6).toNat=N0/\∀ i:Nat,i<N0->6+i<ns.length:=⟨_,rfl,fun i hi=>by split at hi<;>omega⟩;have hN57:N0<=57:=by rw[<- hN0];split<;>omega
 rw[hN0]
 let jv1:Nat->L2.St->Hp->Prop:=fun i σ H'=>∃ A2 l2 ds2 d2 P2 S2 v6 v7 v8 v9 v10 v11 v12,σ=[some (.ref b),some (.int mx),some (.ref A1.p),some (.ref t),some (.ref l2),v6,v7,v8,v9,v10,v11,v12]/\Zx (ca a) H' A2 S2/\H' l2=some (.lst ((ds2++[d2]).map V.ref))/\l2∉A2.fp/\Ut true (·∉A2.fp) H' nu (30+i) ds2 d2 P2 S2/\Sj K A2 H' b (ns.map V.int)/\Mh A2 H' t lc ln cs nu/\A2.p=A1.p/\Om (30+i) S2/\i<=57
 refine Cu jv1
  ⟨A2,l2,ds2,d2,P2,S2,_,_,_,_,_,_,_,rfl,SA12,hl12,ho12,⟨F12.pg,F12.re,F12.so.mono ⋯,?_⟩,SC12,PO12,hAp,OO12,zvo _⟩ ?_ ?_
 ·obtain⟨nd,e|⟨S0,bb,rr'⟩⟩:=F12.tl
  ·exact⟨nd,.inl e⟩
  ·exact⟨nd,.inr ⟨S0,bb.mono ⋯,rr'⟩⟩
 ·rintro N hN i σ H1 hi ⟨A2,l2,ds2,d2,P2,S2,v6,v7,v8,v9,v10,v11,v12,rfl,SA,hl2,ho2,F,SC,PO,eAp,OO,hi57⟩;have hki:=hN1 i hi;have e6:(6:Int)+(i:Int)=((6+i:Nat):Int):=by omega
  rw[e6];walk_at "if";obtain⟨lp,lo,lv,dv,li,lg,lm,a1,PB,okd⟩:=id F.pg.split;have hat:atI ((ds2++[d2]).map V.ref) (-1)=some (V.ref d2):=by rw[zu5];exact L2.atI_last _ _
  obtain⟨vts,u1,u2,u3⟩:=PB.vv;have hvl:(vts.length:Int)=(P2.over.length:Int):=by rw[u2.length]
  refine Yp (Wf (b:=decide (V.int (P2.over.length:Int)=V.int (P2.len:Int))) (fun Q q=>⟨_,rfl,_,rfl,l2,_,_,_,rfl,rfl,SqL.of hl2,hat,d2,_,rfl,DGet.k (k:=.inr "over") a1,lv,vts,rfl,.inl (SqL.of u1),_,rfl,_,rfl,l2,_,_,_,rfl,rfl,SqL.of hl2,hat,d2,_,rfl,DGet.k (k:=.inr "rounds") a1,rfl,_,rfl,by rw[hvl];exact q⟩) (itB (fun _=>hN i _ _ ⟨A2,l2,ds2,d2,P2,S2,_,_,_,_,_,_,_,rfl,SA,hl2,ho2,F,SC,PO,eAp,OO,hi57⟩) (fun hb=>Z0 ?_)));have hlt:P2.over.length<P2.len:=by
   have h1:=F.re.b.olen;have h2:=F.so.olen;have h3:=F.so.len;have h4:=F.re.b.len;have h5:=of_decide_eq_false hb;have h6:P2.over.length≠P2.len:=fun z=>h5 (by rw[z]);omega
  dsimp only;refine⟨_,rfl,_,rfl,_,rfl,b,ns,6+i,rfl,SC.sq,hki,fun cell H2 s2=>?_⟩;have s3:=s2;refine⟨_,rfl,_,rfl,(·∉A2.fp),l2,t,lc,ln,ds2,d2,P2,cell,cs,nu,5,mx,rfl,s3 _ _ hl2,F.pg.same s3,PO.at_.same s3,by decide,hmx1,hlt,(by rw[F.re.b.ppl];have:=F.so.few;omega),fun t' D H4 hD gD s4 ft'=>?_⟩;have s34:=s3.trans s4;have SA4:=SA.same s34;have F4:=F.same s34;have SC4:=SC.fr (.of s34);have PO4:=PO.fr (.of s34);have hD4:=zib (SA.same s3) hD;have g:=zia F.re.b F.so gD hlt ⋯ ⟨nfew.2,PO.at_.nrng⟩ PO.at_.crng F.back;have hkn:∀ k gr c,D=.enrol k gr c->k∈nu:=fun k gr c z=>by rw[z] at gD;exact gD.2.1
  walk_at "if";obtain⟨w1,w2,w3,w4,w5,w6,w7,w8,w9,w10⟩:=F4.pre g ⋯;obtain⟨gg1,gg2⟩:=PB.gg;refine⟨_,rfl,_,rfl,A2,S2,t',D,(by rw[<- eAp];rfl),SA4,hD4,g,w1,w2,w3,w4,w5,w6,w7,w8,w9,w10,fun v' A3 S3 H5 af SA5 nx fr told=>?_⟩;obtain⟨H0,SA0,s05,fr0,hfree⟩:=told;have f5:=FrN.next SA4 nx fr0;obtain⟨c1,c2,c3,c4,c5⟩:=F4.pre2 g ⋯
  walk_at "if";obtain⟨B,hB⟩:∃ B:Addr->Prop,B=fun x=>H0 x=none/\v'=.ref x/\∃ xs,H5 x=some (.lst xs):=⟨_,rfl⟩;have b0:∀ {x:Addr} {o:HO},H0 x=some o->¬ B x:=fun {x o} e z=>by rw[hB] at z;rw[z.1] at e;cases e
  have b5:∀ {x:Addr},H5 x=none->¬ B x:=fun {x} e z=>by rw[hB] at z;obtain⟨_,_,xs,q⟩:=z;rw[q] at e;cases e
  have bt:∀ {H':Hp} {y:Addr} {o:HO},Same H5 H'->H' y=some o->(∀ xs,o≠.lst xs)->¬ B y:=fun {H' y o} s e n z=>by rw[hB] at z;obtain⟨_,_,xs,q⟩:=z;rw[s _ _ q] at e;exact n xs (Option.some.inj e).symm
  have bl:∀ {l:Addr} {xs:List V},v'=.ref l->H5 l=some (.lst xs)->B l:=fun {l xs} e q=>by rw[hB];exact⟨hfree l xs e q,e,xs,q⟩
  clear hB hfree;have pg5:PgAt (fun x=>x∉A3.fp/\¬ B x) H5 d2 P2:=((F4.pg.fr f5).imp (ok':=fun x=>x∉A3.fp/\¬ B x) fun x ⟨o,e⟩ z=>⟨z,b0 e⟩).same s05;have hD5:Xp (fun x=>x∉A3.fp/\¬ B x) H5 t' D:=((hD4.fr f5).imp2 (ok':=fun x=>x∉A3.fp/\¬ B x) fun x ⟨o,e⟩ z=>⟨z,b0 e⟩).same s05;refine⟨_,rfl,_,rfl,(fun x=>x∉A3.fp/\¬ B x),l2,t',ds2,d2,P2,D,rfl,s05 _ _ (f5.k _ _ (s34 _ _ hl2) ho2).1,pg5,hD5,c1,c2,c3,c4,c5,fun l6 d6 H6 hl6 pg6 s6 fl6 fd6=>?_⟩;have sh:Same H0 (Ud B H6):=fun x o e=>by rw[X4 (b0 e)];exact s6 _ _ (s05 _ _ e)
  have z6:=Rk B H6;obtain⟨ds7,d7,P7,ek,Pe,eP,eR⟩:=zlq F4 SA4 af SA0 nx fr0 g hkn (fun z=>(zie (pg6 z) (fun x hx=>by
   rcases hx with hx|hx
   ·exact hx.2
   ·exact b5 hx) fun t xs e=>bt s6 e (fun _=>nofun)).imp fun x _ hx=>by
    rcases hx with hx|hx
    ·exact .inl hx.1
    ·exact .inr (s05.free hx)) sh (s05.free fd6)
  have SA6:=SA0.same sh;have SC6:=(SC4.fr f5).fr (.of sh);have PO6:=(PO4.fr f5).fr (.of sh);have o6:=SA0.newOk _ (s05.free fl6);have eAp6:=f5.p.trans eAp;have OO3:Om (30+(i+1)) S3:=(zes F.so OO af).mono ⋯;have hD6:Xp (·∉A3.fp) (Ud B H6) t' D:=(hD4.fr f5).same sh;obtain⟨rw6,hw6⟩:=hD6.word;have hw0:atI (V.str (Hq D) :: rw6) 0=some (V.str (Hq D)):=Z7 (j:=0) rfl;rw[ek] at hl6;have hl6h:Ud B H6 l6=some (.lst ((ds7++[d7]).map V.ref)):=by rw[X4 (b5 fl6)];exact hl6
  have hat7:atI ((ds7++[d7]).map V.ref) (-1)=some (V.ref d7):=by rw[zu5];exact L2.atI_last _ _
  have eN:30+i+1=30+(i+1):=by omega
  rw[eN] at Pe;have re2:=F4.re;have so2:=F4.so;walk_at "if";refine⟨_,rfl,_,rfl,l6,_,_,_,rfl,rfl,SqL.of hl6,hat7,?_⟩;walk_at "if";obtain⟨lp7,lo7,lv7,dv7,li7,lg7,lm7,y1_,y2_,y3_⟩:=id Pe.pg.split;obtain⟨vts7,z1,z2,z3⟩:=y2_.vv;have hvl7:(vts7.length:Int)+1=atV S3:=by rw[z2.length];exact Pe.rb.at Pe.so
  have hpl7:P7.ppl.length<=100:=by rw[Pe.rb.ppl];have:=Pe.so.few;omega
  refine⟨_,rfl,d7,_,rfl,DGet.k (k:=.inr "over") (z6 _ _ y1_),lv7,vts7,rfl,.inl (SqL.of (z6 _ _ z1)),_,_,rfl,rfl,?_⟩;walk_at "if";rw[hvl7];clear SA F SA4 F4 SC4 PO4 SC PO hD4 hD pg5 hD5 pg6;have fin:∀ {Hz:Hp} {Pz:Pg},Zx (ca a) Hz A3 S3->Ut true (·∉A3.fp) Hz nu (30+(i+1)) ds7 d7 Pz S3->Hz l6=some (.lst ((ds7++[d7]).map V.ref))->Sj K A3 Hz b (ns.map V.int)->Mh A3 Hz t lc ln cs nu ->
    y5 { nx:=jv1 (i+1),rt:=Q,bk:=N,ct:=jv1 (i+1) } [some (.ref b),some (.int mx),some (.ref A1.p),some (.ref t),some (.ref l6),some (.int (6+i:Nat)),some (.ref t'),some v',some (.ref d7),some (.int (atV S3)),v11,v12] Hz:=by
   intro Hz Pz SAz Fz lz SCz POz;obtain⟨lpx,lox,lvx,dvx,lix,lgx,lmx,x1,x2,x3⟩:=id Fz.pg.split;obtain⟨ptx,p1,p2,p3⟩:=x2.pp;obtain⟨vtx,o1,o2,o3⟩:=x2.vv;have eov:=Fz.re.b.overT;have hvx:vtx.length=S3.old.length:=by rw[o2.length,eov]
   have hol:=Fz.so.olen;have hlen3:=Fz.so.len;have hlsx:=x2.li.some;rw[Fz.re.b.ppl] at p2;refine⟨_,rfl,d7,_,rfl,DGet.k (k:=.inr "over") x1,lvx,vtx,rfl,.inl (SqL.of o1),_,_,rfl,rfl,_,_,rfl,_,rfl,d7,_,rfl,DGet.k (k:=.inr "over") x1,lvx,vtx,rfl,.inl (SqL.of o1),_,_,rfl,⟨by split<;>omega,by split<;>omega,by omega,by omega⟩,?_⟩;obtain⟨lo,hlo,hlo2⟩:∃ lo:Nat,(if (vtx.length:Int)-2>0 then (vtx.length:Int)-2 else 0)=(lo:Int)/\lo<=vtx.length:=by
    split
    ·exact⟨((vtx.length:Int)-2).toNat,by omega,by omega⟩
    ·exact⟨0,rfl,zvo _⟩
   rw[hlo]
   let jv2:Nat->L2.St->Hp->Prop:=fun j σ' Hy=>(∃ v w,σ'=[some (.ref b),some (.int mx),some (.ref A1.p),some (.ref t),some (.ref l6),some (.int (6+i:Nat)),some (.ref t'),some v',some (.ref d7),some (.int (atV S3)),v,w])/\Same Hz Hy
   refine Wk jv2 ⟨⟨_,_,rfl⟩,.refl _⟩ (fun j σ' Hy hj hP=>?_) (fun σ' Hy hP=>?_)
   ·obtain⟨⟨v,w,rfl⟩,sy⟩:=hP;have hjo:lo+j<S3.old.length:=by omega
    have ej:(lo:Int)+(j:Nat)=((lo+j:Nat):Int):=by omega
    rw[ej];have hsj:S3.old[lo+j]?=some (S3.old[lo+j]'hjo):=zuy hjo;generalize S3.old[lo+j]'hjo=shj at hsj;generalize lo+j=jj at hjo hsj;obtain⟨tj,lj,gj,mj,yj,tsj,mtsj,lsj,c1',c2',c3',c4',c5',c6',c7',c8',c9'⟩:=o2.all (by rw[eov];exact hsj);walk_at "if";refine Yp ?_;refine⟨_,rfl,_,rfl,_,_,rfl,rfl,A3,S3,(jj:Int)+1,shj,nu,30+(i+1),(by rw[eAp6];rfl),SAz.same sy,Fz.so,OO3,by omega,Yk ⋯ ⋯,by omega,Du hol hsj,by omega,fun Hs ss=>?_⟩;have sz:=sy.trans ss;dsimp only;refine⟨_,rfl,_,rfl,_,_,rfl,rfl,_,rfl,d7,_,rfl,DGet.k (k:=.inr "over") (sz _ _ x1),_,rfl,lvx,_,_,_,rfl,rfl,SqL.of (sz _ _ o1),Z7 c1',_,rfl,d7,_,rfl,DGet.k (k:=.inr "people") (sz _ _ x1),?_⟩;exact⟨(·∉A3.fp),A3,S3,(jj:Int)+1,tj,lpx,lj,gj,mj,yj,tsj,mtsj,ptx,lsj,shj,(by rw[eAp6];rfl),SAz.same sz,⟨Yk ⋯ ⋯,hol,by omega,by omega⟩,Du hol hsj,sz _ _ c2',sz _ _ c3',c4'.same sz,sz _ _ c5',sz _ _ c6',c7'.keepL (.of sz),sz _ _ c8',c9'.same sz,sz _ _ p1,p2.same sz,Fz.so.pok,(OO3 shj (zu2 hsj)).mono ⋯,fun Hw sw=>⟨true,rfl,iteF (Z0 ⟨⟨_,_,rfl⟩,sz.trans sw⟩)⟩⟩
   obtain⟨⟨v,w,rfl⟩,sy⟩:=hP;have inv:∀ {Hw:Hp} (u:Option V),Same Hy Hw->jv1 (i+1) [some (.ref b),some (.int mx),some (.ref A1.p),some (.ref t),some (.ref l6),some (.int (6+i:Nat)),some (.ref t'),some v',some (.ref d7),some (.int (atV S3)),v,u] Hw:=fun {Hw} u sw=>by
    have s:=sy.trans sw;exact⟨A3,l6,ds7,d7,Pz,S3,_,_,_,_,_,_,_,rfl,SAz.same s,s _ _ lz,o6,Fz.same s,SCz.fr (.of s),POz.fr (.of s),eAp6,OO3,by omega⟩
   show y4 _ _ _;refine Wf (b:=Pz.lis.isSome) (fun Q q=>⟨_,rfl,d7,_,rfl,DGet.k (k:=.inr "listed") (sy _ _ x1),rfl,_,rfl,by rw[hlsx];exact q⟩) (itB (fun hb'=>?_) (fun hb'=>Z0 (inv _ (.refl _))));obtain⟨ms,hms⟩:=zv8.mp hb';obtain⟨sh3,hcur,hshm⟩:=Fz.re.b.drawn hms;subst hshm;obtain⟨k1,k2,k3,k4,k5⟩:=Fz.so.cur sh3 hcur;have hml:sh3.may.length=sh3.ms.length:=by rw[k4];unfold mayS;rw[zuw]
   have SAy:=SAz.same sy;have Fy:=Fz.same sy;have xy:=sy _ _ x1;obtain⟨ll,ts,rfl,b1_,b2_,b3_⟩:∃ l ts,lix=.ref l/\Hz l=some (.lst ts)/\Z8 Hz ts (sh3.ms.map pV)/\l∉A3.fp:=by have:=x2.li;rw[hms] at this;exact this
   obtain⟨mts,m1,m2,m3⟩:=x2.mm;have hg:=x2.gg.1;rw[Fz.re.gv sh3 hcur] at hg;rw[Fz.re.mv rfl,Vd hcur] at m2;have hpz:Pz.ppl.length<=100:=by rw[Fz.re.b.ppl];have:=Fz.so.few;omega
   refine Yp ⟨_,rfl,d7,_,rfl,DGet.k (k:=.inr "listed") xy,_,rfl,d7,_,rfl,DGet.k (k:=.inr "goes") xy,_,rfl,d7,_,rfl,DGet.k (k:=.inr "moves") xy,_,rfl,(·∉A3.fp),d7,Pz,sh3.ms,rfl,Fy.pg,Fy.re.b.ovok Fy.so,hms,by omega,hpz,fun lw ls H7 hlw ilw s7 flw _=>⟨by show 4<=sizeLine;rw[sizeLine_eq];decide,fun tk ftk=>al (upd _ tk _) ftk rfl fun H8 t8 s8=>?_⟩⟩;rw[Fz.re.b.may Fz.so,<- k4] at ilw;have s78:=s7.trans s8;have sz8:=sy.trans s78;have esh:Y4 S3 (atV S3)=some sh3:=(zeq S3).trans hcur;have hlt3:=Fz.so.lt (by rw[hcur];exact nofun);have hat3:atV S3=(S3.led.length:Int)+1:=rfl;walk_at "if";refine Yp ⟨_,rfl,_,rfl,A3,S3,atV S3,sh3,nu,30+(i+1),(by rw[eAp6];rfl),SAz.same sz8,Fz.so,OO3,by omega,Yk ⋯ ⋯,by omega,esh,by omega,fun H9 s9=>?_⟩;have s89:=s8.trans s9;have sz9:=sz8.trans s9;dsimp only;exact⟨_,rfl,_,rfl,_,rfl,_,rfl,d7,_,rfl,DGet.k (k:=.inr "people") (sz9 _ _ x1),(·∉A3.fp),A3,S3,atV S3,tk,lpx,ll,lgx,lmx,lw,ts,mts,ptx,ls,sh3,(by rw[eAp6];rfl),SAz.same sz9,⟨Yk ⋯ ⋯,hol,by omega,by omega⟩,esh,s9 _ _ t8,sz9 _ _ b1_,b2_.same sz9,sz9 _ _ hg,sz9 _ _ m1,m2.keepL (.of sz9),s89 _ _ hlw,ilw.same s89,sz9 _ _ p1,p2.same sz9,Fz.so.pok,(Fz.so.shOk hcur).mono ⋯,fun Hw sw=>⟨true,rfl,iteF (Z0 (inv _ ((s78.trans s9).trans sw)))⟩⟩
  by_cases hdr:∃ m0,D=.draw m0
  ·obtain⟨m0,rfl⟩:=hdr;obtain⟨lt,gv,hv,hlt,hc3,hc2⟩:∃ lt gv,v'=.ref lt/\H5 lt=some (.lst gv)/\S3.cur=some ⟨m0,mayS S2 m0,gv,[]⟩/\S2.cur=none:=by
    cases af with
    | @draw _ gv l hl FP SP=>exact⟨l,gv,rfl,hl,rfl,g.2.1⟩
   subst hv;have blt:=bl rfl hlt;have hlt6:=s6 _ _ hlt;have hP:=eP nofun;have hna:¬ ∃ i n,X9.draw m0=.away i n:=fun ⟨_,_,z⟩=>nomatch z;have hgl:gv.length<=100:=by
    obtain⟨k1,k2,k3,k4,k5⟩:=Pe.so.cur _ hc3;have:=k2.len;have h5:(mayS S2 m0).length=m0.length:=by unfold mayS;rw[zuw]
    have h6:gv.length=(mayS S2 m0).length:=this;have h7:m0.length<=20:=k1;omega
   refine Yp ⟨_,rfl,t',_,_,_,rfl,rfl,SqT.of (z6 _ _ hw6),hw0,rfl,_,rfl,?_⟩;rw[Dq];refine iteT (Yp ⟨_,rfl,lt,_,rfl,.inl (SqL.of hlt6),fun lg' flg=>al (upd _ lg' _) flg rfl fun H7 q7 s7=>?_⟩);have q7h:Ud B H7 lg'=some (.lst gv):=by rw[X4 (b5 (s6.free flg))];exact q7
   have sh7:=Rl (B:=B) s7;obtain⟨kvs,e1,e2,Pe8⟩:=(Pe.same sh7).setGoes q7h (SA0.newOk _ (s05.free (s6.free flg)));have e1':=Rk _ _ _ _ e1;have nbd:¬ B d7:=fun z=>by rw[Ts z] at e1;cases e1
   refine⟨_,rfl,d7,_,rfl,DPut.k (k:=.inr "goes") e1' e2,?_⟩;have SA8:=(SA6.same sh7).dictW (kvs':=putK kvs (.inr "goes") (.ref lg')) e1 y3_;have kl:=Wa.dict e1 (kvs':=putK kvs (.inr "goes") (.ref lg'));have l8:=kl.1 _ _ (sh7 _ _ hl6h);have SC8:=(SC6.fr (.of sh7)).dictW (kvs':=putK kvs (.inr "goes") (.ref lg')) e1;have PO8:=(PO6.fr (.of sh7)).dictW (kvs':=putK kvs (.inr "goes") (.ref lg')) e1;have w8':=kl.2 _ _ (sh7 _ _ hw6);have lt8:=(Wa.dict e1' (kvs':=putK kvs (.inr "goes") (.ref lg'))).1 _ _ (s7 _ _ hlt6);rw[<- Lv nbd] at Pe8 SA8 l8 SC8 PO8 w8';generalize upd H7 d7 (.dK (putK kvs (.inr "goes") (.ref lg')))=H8 at Pe8 SA8 l8 SC8 PO8 w8' lt8 ⊢;have F8:=Pe8.full (fun s hs=>by rw[hc3] at hs;cases hs;rfl) (fun _=>by rw[Vd hc3,hP];show P2.mv=[];rw[re2.mv rfl,Tr hc2]);dsimp only;refine⟨_,rfl,lt,gv,rfl,lt8,by omega,fun ys _=>?_⟩;have sF:Same (Ud B H8) (upd H8 lt (.lst ys)):=Lu blt;dsimp only;refine Yp ⟨_,rfl,t',_,_,_,rfl,rfl,SqT.of (sF _ _ w8'),hw0,rfl,_,rfl,?_⟩;rw[zda hna];exact iteF (Z0 (fin (SA8.same sF) (F8.same sF) (sF _ _ l8) (SC8.fr (.of sF)) (PO8.fr (.of sF))))
  refine Yp ⟨_,rfl,t',_,_,_,rfl,rfl,SqT.of (z6 _ _ hw6),hw0,rfl,_,rfl,?_⟩;rw[zg1 hdr];refine iteF (Z0 ?_);by_cases haw:∃ i0 n0,D=.away i0 n0
  ·obtain⟨i0,n0,rfl⟩:=haw;have hP:=eP nofun;have hgv7:P7.gv=P2.gv:=by rw[hP];rfl
   have hmv7:P7.mv=Qn S2:=by rw[hP];exact re2.mv rfl
   have ht6:Ud B H6 t'=some (.tup [.str "away",.int i0,.int n0]):=hD6;have hab:(∃ lt,v'=.ref lt/\H5 lt=some (.lst [])/\(∀ s,S3.cur=some s->P7.gv=s.gv)/\Qn S3=Qn S2) \/
     ∃ lt us s0 p e st w',v'=.ref lt/\H5 lt=some (.lst us)/\Z8 H5 us (st.map Wq)/\S2.cur=some s0/\Xt s0.gv n0=some p/\Xc (mayS S3 s0.ms) (s0.gv.set p .non) p st e w'/\S3.cur=some ⟨s0.ms,mayS S3 s0.ms,Yh st (s0.gv.set p .non),s0.gaps++[(n0,st)]⟩/\Ym (mayS S3 s0.ms) (s0.gv.set p .non)/\p<(mayS S3 s0.ms).length:=by
    cases af with
    | @awayN _ _ l hc hl=>exact .inl ⟨l,rfl,hl,fun s hs=>by rw[hgv7];exact re2.gv s hs,rfl⟩
    | @awayF _ s l hc hp hl =>
      refine .inl ⟨l,rfl,hl,fun s' hs=>?_,by rw[Vd hc];rfl⟩;have hs:some { s with may:=mayS (Xk S2 (atV S2) n0) s.ms }=some s':=hs;cases hs;rw[hgv7];exact re2.gv s hc
    | @awayC _ s p e l us st w0 hc hp hl tl CR =>
      obtain⟨x1,x2,x3,x4,x5⟩:=so2.cur s hc;have hx:=To hp;have F0:Ym (mayS (Xk S2 (atV S2) n0) s.ms) (s.gv.set p .non):=by rw[Vt,<- x4];exact Vr x2 hx
      have hpl:p<(mayS (Xk S2 (atV S2) n0) s.ms).length:=by
       rw[Vt,<- x4];unfold G.without;rw[zuw,<- x2.len];exact(zux.mp hx).1
      exact .inr ⟨l,us,s,p,e,st,w0,rfl,hl,tl,hc,hp,CR,rfl,F0,hpl⟩
   refine Yp ⟨_,rfl,t',_,_,_,rfl,rfl,SqT.of (z6 _ _ hw6),hw0,rfl,_,rfl,?_⟩;rw[Dr];refine iteT (Yp ?_);rcases hab with ⟨lt,rfl,hlt,hgA,hmA⟩|⟨lt,us,s0,p,e,st,w0,rfl,hlt,tl,hc0,hp0,CR,hc3,FP,hpl⟩
   ·have blt:=bl rfl hlt;have hlt6:=s6 _ _ hlt;refine⟨_,rfl,zvo _,fun l9 f9=>al (upd _ l9 _) f9 rfl fun H7 q7 s7=>⟨.lst [],.lst [],.lst (SqL.of (s7 _ _ hlt6)) .nil,.lst (SqL.of q7) .nil,Py,Py,false,by rw[if_pos rfl,Bw];rfl,iteF (Z0 ?_)⟩⟩;dsimp only;refine⟨_,rfl,lt,[],rfl,s7 _ _ hlt6,by decide,fun ys _=>?_⟩;have sF:Same (Ud B H6) (upd H7 lt (.lst ys)):=(Rl s7).trans (Lu blt);have F6:=Pe.full hgA (fun _=>hmv7.trans hmA.symm);exact fin (SA6.same sF) (F6.same sF) (sF _ _ hl6h) (SC6.fr (.of sF)) (PO6.fr (.of sF))
   ·have blt:=bl rfl hlt;have hlt6:=s6 _ _ hlt;obtain⟨hst1,hst2⟩:=zer CR;have hg2:=re2.gv s0 hc0;have hs20:s0.ms.length<=20:=(so2.cur s0 hc0).1;have hml:(mayS S3 s0.ms).length=s0.ms.length:=by unfold mayS;rw[zuw]
    have hstl:st.length<=100:=by have:=CR.len FP hpl;omega
    have hgl2:P7.gv.length=s0.ms.length:=by
     have:=FP.len;rw[zwl] at this;rw[hgv7,hg2];omega
    have hone:∀ x∈P7.gv,oneV x:=by
     rw[hgv7,hg2];exact(so2.cur s0 hc0).2.1.one
    have hus:us.length<=100:=by have:=tl.length;rw[zuw] at this;omega
    have tl6:=tl.same s6;refine⟨_,rfl,zvo _,fun l9 f9=>al (upd _ l9 _) f9 rfl fun H7 q7 s7=>⟨.lst (st.map stD),.lst [],.lst (SqL.of (s7 _ _ hlt6)) (A8 (tl6.same s7)),.lst (SqL.of q7) .nil,zg0 st,Py,true,?_,iteT ?_⟩⟩
    ·rw[if_pos rfl,Jv];cases st with
     | nil=>exact absurd rfl hst2
     | cons x r=>rfl
    have sh7:=Rl (B:=B) s7;obtain⟨gg7,gg8⟩:=y2_.gg;refine Yp ⟨_,rfl,d7,_,rfl,DGet.k (k:=.inr "goes") (s7 _ _ (z6 _ _ y1_)),_,rfl,lg7,lt,P7.gv,us,st,rfl,s7 _ _ (z6 _ _ gg7),s7 _ _ hlt6,tl6.same s7,fun x hx=>by rw[hgl2,<- hml];exact CR.ch.lt FP hpl x hx,hone,by omega,hstl,fun l10 H10 hl10 s10 fl10=>?_⟩;have s610:=s7.trans s10;have sh10:=Rl (B:=B) s610;have f10:H6 l10=none:=s7.free fl10;have q10h:Ud B H10 l10=some (.lst (Yh st P7.gv)):=by rw[X4 (b5 (s6.free f10))];exact hl10
    obtain⟨kvs,e1,e2,Pe11⟩:=(Pe.same sh10).setGoes q10h (SA0.newOk _ (s05.free (s6.free f10)));have e1':=Rk _ _ _ _ e1;have nbd:¬ B d7:=fun z=>by rw[Ts z] at e1;cases e1
    refine⟨_,rfl,d7,_,rfl,DPut.k (k:=.inr "goes") e1' e2,?_⟩;have SA11:=(SA6.same sh10).dictW (kvs':=putK kvs (.inr "goes") (.ref l10)) e1 y3_;have kl:=Wa.dict e1 (kvs':=putK kvs (.inr "goes") (.ref l10));have kl':=Wa.dict e1' (kvs':=putK kvs (.inr "goes") (.ref l10));have l11:=kl.1 _ _ (sh10 _ _ hl6h);have SC11:=(SC6.fr (.of sh10)).dictW (kvs':=putK kvs (.inr "goes") (.ref l10)) e1;have PO11:=(PO6.fr (.of sh10)).dictW (kvs':=putK kvs (.inr "goes") (.ref l10)) e1;have t11:=kl.2 _ _ (sh10 _ _ ht6);have lt11:=kl'.1 _ _ (s610 _ _ hlt6);have tl11:Z8 (upd H10 d7 (.dK (putK kvs (.inr "goes") (.ref l10)))) us (st.map Wq):=(tl6.same s610).mono kl'.2;have fr11:∀ x,upd H10 d7 (.dK (putK kvs (.inr "goes") (.ref l10))) x=none->H6 x=none:=fun x hx=>by
     by_cases c:x=d7
     ·rw[c,Ze] at hx;cases hx
     ·rw[Zf c] at hx;exact s610.free hx
    have bt11:∀ y ys,upd H10 d7 (.dK (putK kvs (.inr "goes") (.ref l10))) y=some (.tup ys)->¬ B y:=fun y ys e=>by
     by_cases c:y=d7
     ·rw[c,Ze] at e;cases e
     ·rw[Zf c] at e;exact bt (s6.trans s610) e (fun _=>nofun)
    rw[<- Lv nbd] at Pe11 SA11 l11 SC11 PO11 t11;generalize upd H10 d7 (.dK (putK kvs (.inr "goes") (.ref l10)))=H11 at Pe11 SA11 l11 SC11 PO11 t11 lt11 tl11 fr11 bt11 ⊢;clear kl kl';dsimp only;obtain⟨lp8,lo8,lv8,dv8,li8,lg8,lm8,r1,r2,r3⟩:=id Pe11.pg.split;obtain⟨mts,m1,m2,m3⟩:=r2.mm;have z11:=Rk B H11;have hmt:mts.length<=600:=by
     have h1:=m2.length;have h2:=(Pe.so.gp _ (.inl hc3)).1;have h3:(s0.gaps++[(n0,st)]).length<=30+(i+1):=h2;rw[zuz] at h3;have h4:mts.length=P7.mv.length:=h1;rw[hmv7,Vd hc0] at h4;omega
    have sz1:∀ x:V,[x].length<=sizeLine:=fun x=>by show 1<=sizeLine;rw[sizeLine_eq];decide
    refine⟨_,rfl,d7,_,rfl,DGet.k (k:=.inr "moves") (z11 _ _ r1),_,rfl,t',_,_,_,rfl,rfl,SqT.of (z11 _ _ t11),rfl,_,rfl,lt,_,rfl,.inl (SqL.of lt11),fun lk fk=>al (upd _ lk _) fk rfl fun H12 q12 s12=>⟨sz2,fun tk ftk=>al (upd _ tk _) ftk rfl fun H13 q13 s13=>⟨sz1 _,fun lz flz=>al (upd _ lz _) flz rfl fun H14 q14 s14=>⟨lm8,lz,mts,_,rfl,rfl,(s12.trans (s13.trans s14)) _ _ (z11 _ _ m1),q14,szN (by show mts.length+1<=1000;omega),fun lx flx=>al (upd _ lx _) flx rfl fun H15 q15 s15=>?_⟩⟩⟩⟩;have s1215:=s13.trans (s14.trans s15);have s1115:=s12.trans s1215;have sh15:=Rl (B:=B) s1115;have s1114:=s12.trans (s13.trans s14);have nk:¬ B lk:=b5 (s6.free (fr11 _ fk));have nx15:¬ B lx:=b5 (s6.free (fr11 _ (s1114.free flx)));have q15h:Ud B H15 lx=some (.lst (mts++[.ref tk])):=by rw[X4 nx15];exact q15
    have q12h:Ud B H15 lk=some (.lst us):=by rw[X4 nk];exact s1215 _ _ q12
    have q13h:Ud B H15 tk=some (.tup [.int n0,.ref lk]):=by
     rw[X4 (b5 (s6.free (fr11 _ (s12.free ftk))))];exact(s14.trans s15) _ _ q13
    have tlh:Z8 (Ud B H15) us (st.map Wq):=tl11.mono fun y ys e=>by rw[X4 (bt11 _ _ e)];exact s1115 _ _ e
    obtain⟨kvs2,e3,e4,Pe16⟩:=(Pe11.same sh15).setMoves q15h ((m2.keepL (.of sh15)).snoc q13h q12h tlh (SA0.newOk _ (s05.free (s6.free (fr11 _ fk))))) (SA0.newOk _ (s05.free (s6.free (fr11 _ (s1114.free flx)))));have e3':=Rk _ _ _ _ e3;refine⟨_,rfl,d7,_,rfl,DPut.k (k:=.inr "moves") e3' e4,?_⟩;have SA16:=(SA11.same sh15).dictW (kvs':=putK kvs2 (.inr "moves") (.ref lx)) e3 y3_;have kl:=Wa.dict e3 (kvs':=putK kvs2 (.inr "moves") (.ref lx));have l16:=kl.1 _ _ (sh15 _ _ l11);have SC16:=(SC11.fr (.of sh15)).dictW (kvs':=putK kvs2 (.inr "moves") (.ref lx)) e3;have PO16:=(PO11.fr (.of sh15)).dictW (kvs':=putK kvs2 (.inr "moves") (.ref lx)) e3;have lt16:=(Wa.dict e3' (kvs':=putK kvs2 (.inr "moves") (.ref lx))).1 _ _ (s1115 _ _ lt11);rw[<- Lv nbd] at Pe16 SA16 l16 SC16 PO16;generalize upd H15 d7 (.dK (putK kvs2 (.inr "moves") (.ref lx)))=H16 at Pe16 SA16 l16 SC16 PO16 lt16 ⊢;have F16:=Pe16.full (fun s hs=>by
     rw[hc3] at hs;cases hs;show Yh st P7.gv=_;rw[hgv7,hg2,<- hst1]) (fun _=>by
     rw[Vd hc3];show P7.mv++[(n0,st)]=_;rw[hmv7,Vd hc0])
    dsimp only;refine⟨_,rfl,lt,us,rfl,lt16,by omega,fun ys _=>?_⟩;have sF:Same (Ud B H16) (upd H16 lt (.lst ys)):=Lu blt;exact fin (SA16.same sF) (F16.same sF) (sF _ _ l16) (SC16.fr (.of sF)) (PO16.fr (.of sF))
  ·have F6:Ut true (·∉A3.fp) (Ud B H6) nu (30+(i+1)) ds7 d7 P7 S3:=by
    cases af with
    | enrol k gr c =>
      have hcn:S2.cur=none:=g.2.1;refine Pe.full (fun s hs=>?_) (fun _=>?_)
      ·have hs:S2.cur=some s:=hs;rw[hcn] at hs;cases hs
      ·rw[eP nofun];show P2.mv=Qn S2;exact re2.mv rfl
    | close h=>exact Pe.full (eR (.inr rfl)).1 (eR (.inr rfl)).2
    | back h ht hs=>exact Pe.full (eR (.inl rfl)).1 (eR (.inl rfl)).2
    | awayN h hl=>exact absurd ⟨_,_,rfl⟩ haw
    | awayF h hp hl=>exact absurd ⟨_,_,rfl⟩ haw
    | awayC h hp hl tl CR=>exact absurd ⟨_,_,rfl⟩ haw
    | draw hl F T=>exact absurd ⟨_,rfl⟩ hdr
   refine Yp ⟨_,rfl,t',_,_,_,rfl,rfl,SqT.of (z6 _ _ hw6),hw0,rfl,_,rfl,?_⟩;rw[zda haw];exact iteF (Z0 (fin (SA6.same z6) (F6.same z6) (z6 _ _ hl6h) (SC6.fr (.of z6)) (PO6.fr (.of z6))))
 ·rintro i σ H1 ⟨A2,l2,ds2,d2,P2,S2,v6,v7,v8,v9,v10,v11,v12,rfl,SA,hl2,ho2,F,SC,PO,eAp,OO,hi57⟩;obtain⟨lp,lo,lv,dv,li,lg,lm,a1,PB,okd⟩:=id F.pg.split;have hat:atI ((ds2++[d2]).map V.ref) (-1)=some (V.ref d2):=by rw[zu5];exact L2.atI_last _ _
  obtain⟨vts,u1,u2,u3⟩:=PB.vv;obtain⟨⟨dx2,vv2,ob2,_⟩,_⟩:=id SA;rw[eAp] at ob2;refine⟨_,rfl,A1.p,dx2,_,rfl,ob2,Z6 ⋯,A2,S2,(by rw[eAp];rfl),SA,?_⟩;refine⟨_,rfl,_,rfl,l2,_,_,_,rfl,rfl,SqL.of hl2,hat,d2,_,rfl,DGet.k (k:=.inr "over") a1,lv,vts,rfl,.inl (SqL.of u1),_,_,rfl,rfl,?_⟩;have hvl:(vts.length:Int)+1=atV S2:=by rw[u2.length];exact F.re.b.at F.so
  dsimp only;rw[hvl];exact⟨_,rfl,.inr ⟨_,rfl⟩,h H1⟩
end
end K28
namespace K28
open PySem PySem.Spec PyProof.Rows L2 G PySem.W
theorem zkd{l:OpenLaw}{w:World}{K:Frag}{h:Heap}{mg:Str->Option Value}{fa zqj znk znx znl znr znq zox zow zn5 zop zod zn7 zpt zo2 znf zny zm2 zm3 zm1 zmx f92:Addr}{tk0 tk1 tk2 tk3 tk4 tk5 tk6 tk7:Tok}{u92 n92:Option Addr}{z92:Array (Option Value)}{o92 v92 d92 m92 c92 t92:Value}(X:K.In h)(G:h.Ns mainGlobals mg)(hfa:mg "law"=some (.ref fa))
  (zrl:NsB K "BookError" zqj)
  (zqe:NsB K "OutOfRange" znk)
  (zpu:NsB K "KnownReferee" znx)
  (zou:NsB K "TooManyReferees" znl)
  (zo1:NsB K "UnknownReferee" znr)
  (zo5:NsB K "TooManyMatches" znq)
  (zq9:NsB K "SameClub" zox)
  (zq0:NsB K "NoSuchMatch" zow)
  (zp7:NsB K "NoSuchRound" zn5)
  (zqu:NsB K "RoundOver" zop)
  (zqk:NsB K "SeasonOver" zod)
  (zpz:NsB K "AwayAlready" zn7)
  (zrk:NsB K "DrawnUp" zpt)
  (zq6:NsB K "NotDrawn" zo2)
  (zok:NsB K "NothingToTakeBack" znf)
  (zph:NsB K "TooManyDeeds" zny)
  (zrt:NsB K "Ledger" zm2)
  (zrr:NsB K "Roster" zm3)
  (zr7:NsB K "Sheet" zm1)
  (zrv:NsB K "Season" zmx)
  (zr3:zg2 K zm2)
  (zp9:findIn K (.ref zm2) "rounds"=some none)
  (zo0:findIn K (.ref zm2) "meetings"=some none)
  (zr4:zg2 K zm3)
  (zoa:findIn K (.ref zm3) "entries"=some none)
  (zsd:zg2 K zm1)
  (zpv:findIn K (.ref zm1) "listed"=some none)
  (zrn:findIn K (.ref zm1) "lists"=some none)
  (zo6:findIn K (.ref zm1) "given"=some none)
  (zrj:findIn K (.ref zm1) "gaps"=some none)
  (zr2:zg2 K zmx)
  (zqr:findIn K (.ref zmx) "length"=some none)
  (zsa:findIn K (.ref zmx) "rest"=some none)
  (zof:findIn K (.ref zmx) "roster"=some none)
  (zov:findIn K (.ref zmx) "ledger"=some none)
  (zps:findIn K (.ref zmx) "absent"=some none)
  (zqt:findIn K (.ref zmx) "sheets"=some none)
  (znt:findIn K (.ref zmx) "sheet"=some none)
  (zoe:findIn K (.ref zmx) "standing"=some none)
  (zrb:XcB K znk)
  (zqa:XcB K znq)
  (zrp:XcB K zox)
  (zqm:XcB K znx)
  (zpx:XcB K znl)
  (zqc:XcB K znr)
  (zra:XcB K zod)
  (zr6:XcB K zpt)
  (zq1:XcB K zn5)
  (zqv:XcB K zny)
  (zrq:XcB K zo2)
  (zrm:XcB K zop)
  (zqz:XcB K zn7)
  (zpb:XcB K znf)
  (zr5:NzB K "max")
  (zm9:NzB K "len")
  (zqw:NzB K "tuple")
  (zol:NzB K "list")
  (zpw:NzB K "enumerate")
  (zn0:NzB K "range")
  (zqp:NzB K "sorted")
  (zsl:NzB K "zip")
  (znj:NzB K "isinstance")
  (zsj:NzB K "int")
  (zse:NzB K "bool")
  (zsh:NzB K "dict")
  (zsi:NzB K "min")
  (zp6:nsIn K mainGlobals "MOST_NUMBER"=some (some (.int 999 tk0)))
  (zpe:nsIn K mainGlobals "MOST_GRADE"=some (some (.int 9 tk1)))
  (zo7:nsIn K mainGlobals "MOST_CLUB"=some (some (.int 99 tk2)))
  (zom:nsIn K mainGlobals "MOST_REFEREES"=some (some (.int 30 tk3)))
  (zot:nsIn K mainGlobals "MOST_MATCHES"=some (some (.int 20 tk4)))
  (zp8:nsIn K mainGlobals "MOST_ROUNDS"=some (some (.int 60 tk5)))
  (zqs:nsIn K mainGlobals "MOST_REST"=some (some (.int 10 tk6)))
  (zpg:nsIn K mainGlobals "MOST_DEEDS"=some (some (.int 100 tk7)))
  (l0:LNe K "met_lately" R1)
  (l1:LNe K "reasons" Lw)
  (l2:LNe K "takers" Gh)
  (l3:LMe K zm2 "__init__" "Ledger.__init__" Vw)
  (l4:LMe K zm2 "write" "Ledger.write" Tt)
  (l5:LMe K zm2 "over" "Ledger.over" Sr)
  (l6:LMe K zm2 "met" "Ledger.met" R4)
  (l7:LNe K "check_range" Ss)
  (l8:LNe K "check_count" Su)
  (l9:LNe K "check_ranges" Tu)
  (l10:LNe K "check_clubs" Sv)
  (l11:LNe K "checked" Ly)
  (l12:LMe K zm3 "__init__" "Roster.__init__" Vy)
  (l13:LMe K zm3 "check_new" "Roster.check_new" Ve)
  (l14:LMe K zm3 "check_known" "Roster.check_known" Ww)
  (l15:LMe K zm3 "add" "Roster.add" R6)
  (l16:LMe K zm3 "strike" "Roster.strike" Uy)
  (l17:LMe K zm3 "numbers" "Roster.numbers" Ue)
  (l18:LMe K zm3 "entry" "Roster.entry" Tv)
  (l19:LMe K zm3 "person" "Roster.person" Uz)
  (l20:LNe K "places_taken" Tw)
  (l21:LNe K "steps_into" R7)
  (l22:LNe K "free_referee" Tz)
  (l23:LNe K "traced" Gi)
  (l24:LNe K "chain" Cw)
  (l25:LNe K "stepped" L8)
  (l26:LNe K "fill" zb2)
  (l27:LNe K "left_without" T1)
  (l28:LNe K "place_of" Nk)
  (l29:LNe K "shortage" Nl)
  (l30:LMe K zm1 "__init__" "Sheet.__init__" Ug)
  (l31:LMe K zm1 "barred" "Sheet.barred" T2)
  (l32:LMe K zm1 "fallen_out" "Sheet.fallen_out" Vf)
  (l33:LMe K zm1 "matches" "Sheet.matches" U0)
  (l34:LMe K zm1 "goes" "Sheet.goes" R9)
  (l35:LMe K zm1 "where" "Sheet.where" Sw)
  (l36:LMe K zm1 "left" "Sheet.left" Qa)
  (l37:LMe K zm1 "why" "Sheet.why" Pf)
  (l38:LMe K zm1 "chains" "Sheet.chains" T3)
  (l39:LMe K zm1 "rows" "Sheet.rows" Qb)
  (l40:LNe K "drawn_sheet" Sx)
  (l41:LMe K zmx "__init__" "Season.__init__" Vz)
  (l42:LMe K zmx "check_not_over" "Season.check_not_over" Wb)
  (l43:LMe K zmx "check_undrawn" "Season.check_undrawn" Wg)
  (l44:LMe K zmx "check_round" "Season.check_round" Wy)
  (l45:LMe K zmx "check_room" "Season.check_room" W2)
  (l46:LMe K zmx "note" "Season.note" S4)
  (l47:LMe K zmx "sheet_at_hand" "Season.sheet_at_hand" Wh)
  (l48:LMe K zmx "sheet_of" "Season.sheet_of" V0)
  (l49:LMe K zmx "takers_of" "Season.takers_of" Vg)
  (l50:LMe K zmx "enrol" "Season.enrol" T4)
  (l51:LMe K zmx "draw_up" "Season.draw_up" Uh)
  (l52:LMe K zmx "away" "Season.away" S5)
  (l53:LMe K zmx "step_in" "Season.step_in" Ui)
  (l54:LMe K zmx "close" "Season.close" T5)
  (l55:LMe K zmx "take_back" "Season.take_back" Vh)
  (l56:LMe K zmx "at_hand" "Season.at_hand" Uj)
  (l57:LMe K zmx "matches" "Season.matches" Uk)
  (l58:LMe K zmx "goes" "Season.goes" S6)
  (l59:LMe K zmx "where" "Season.where" T6)
  (l60:LMe K zmx "left" "Season.left" S7)
  (l61:LMe K zmx "why" "Season.why" Qc)
  (l62:LMe K zmx "chains" "Season.chains" U1)
  (l63:LNe K "_law_whole" Pk)
  (l64:LNe K "_law_at" Gz)
  (l65:LNe K "_law_mix" Kd)
  (l66:LNe K "_law_numbers" Ys)
  (l67:LNe K "_law_clubs" Xd)
  (l68:LNe K "_law_one_is" Qe)
  (l69:LNe K "_law_list_is" S8)
  (l70:LNe K "_law_tuple_is" T7)
  (l71:LNe K "_law_rows_are" T8)
  (l72:LNe K "_law_is_shortage" V3)
  (l73:LNe K "_law_moves_are" U2)
  (l74:LNe K "_law_first" Po)
  (l75:LNe K "_law_met" Kh)
  (l76:LNe K "_law_bars" Nt)
  (l77:LNe K "_law_open" Nu)
  (l78:LNe K "_law_paged" Pp)
  (l79:LNe K "_law_matches" Yg)
  (l80:LNe K "_law_do" G6)
  (l81:LNe K "_law_stepped" S9)
  (l82:LNe K "_law_deed" Nv)
  (l83:LNe K "_law_pool" Xq)
  (l84:LNe K "_law_people" Yf)
  (l85:LNe K "_law_enrolled" T9)
  (l86:LNe K "_law_rest" Wi)
  (l87:LNe K "_law_rounds" Qf)
  (l88:LNe K "_law_cell" Nw)
  (l89:LNe K "_law_shows_round" V6)
  (l90:LNe K "_law_spoil" Pr)
  (l91:LNe K "_law_spoil_round" V7)
  (l92:LN K "law" "law" Dv f92 o92 v92 d92 m92 c92 t92 u92 n92 z92)
  : ∃ fd:FuncData,(∀ (s:Shared) (v:Value),BindsTo s fd ⟨[v],[]⟩ [("_law_script",v)])/\∀ base:Heap,K.In base->base.Ns mainGlobals mg->FnOk l.prog w K mg base (CX1 l.prog w) 10 fa fd ["_law_script"] (zcq K):=by
 have e:=hfa.symm.trans (mg_of X G l92.b);cases e
 let a:Ad:=⟨zqj,znk,znx,znl,znr,znq,zox,zow,zn5,zop,zod,zn7,zpt,zo2,znf,zny,zm2,zm3,zm1,zmx⟩
 obtain⟨pg_Ledger,hd_Ledger,po_Ledger,sa_Ledger,_,_⟩:=id zr3;obtain⟨pg_Roster,hd_Roster,po_Roster,sa_Roster,_,_⟩:=id zr4;obtain⟨pg_Sheet,hd_Sheet,po_Sheet,sa_Sheet,_,_⟩:=id zsd;obtain⟨pg_Season,hd_Season,po_Season,sa_Season,_,_⟩:=id zr2;have T:Tx K mg a:=⟨⟨pg_Ledger,hd_Ledger,po_Ledger,sa_Ledger⟩,
  zp9,
  zo0,
  ⟨pg_Roster,hd_Roster,po_Roster,sa_Roster⟩,
  zoa,
  ⟨pg_Sheet,hd_Sheet,po_Sheet,sa_Sheet⟩,
  zpv,
  zrn,
  zo6,
  zrj,
  ⟨pg_Season,hd_Season,po_Season,sa_Season⟩,
  zqr,
  zsa,
  zof,
  zov,
  zps,
  zqt,
  znt,
  zoe,
  ⟨mg_of X G zqe,zrb⟩,
  ⟨mg_of X G zo5,zqa⟩,
  ⟨mg_of X G zq9,zrp⟩,
  ⟨mg_of X G zpu,zqm⟩,
  ⟨mg_of X G zou,zpx⟩,
  ⟨mg_of X G zo1,zqc⟩,
  ⟨mg_of X G zqk,zra⟩,
  ⟨mg_of X G zrk,zr6⟩,
  ⟨mg_of X G zp7,zq1⟩,
  ⟨mg_of X G zph,zqv⟩,
  ⟨mg_of X G zq6,zrq⟩,
  ⟨mg_of X G zqu,zrm⟩,
  ⟨mg_of X G zpz,zqz⟩,
  ⟨mg_of X G zok,zpb⟩,
  mg_none_of X G zr5,
  mg_none_of X G zm9,
  mg_none_of X G zqw,
  mg_none_of X G zol,
  mg_none_of X G zpw,
  mg_none_of X G zn0,
  mg_none_of X G zqp,
  mg_none_of X G zsl,
  mg_none_of X G znj,
  mg_none_of X G zsj,
  mg_none_of X G zse,
  mg_none_of X G zsh,
  mg_none_of X G zsi,
  mg_of X G zrl,
  mg_of X G zqe,
  mg_of X G zpu,
  mg_of X G zou,
  mg_of X G zo1,
  mg_of X G zo5,
  mg_of X G zq9,
  mg_of X G zq0,
  mg_of X G zp7,
  mg_of X G zqu,
  mg_of X G zqk,
  mg_of X G zpz,
  mg_of X G zrk,
  mg_of X G zq6,
  mg_of X G zok,
  mg_of X G zph,
  mg_of X G zrt,
  mg_of X G zrr,
  mg_of X G zr7,
  mg_of X G zrv,
  ⟨_,mg_of X G zp6⟩,
  ⟨_,mg_of X G zpe⟩,
  ⟨_,mg_of X G zo7⟩,
  ⟨_,mg_of X G zom⟩,
  ⟨_,mg_of X G zot⟩,
  ⟨_,mg_of X G zp8⟩,
  ⟨_,mg_of X G zqs⟩,
  ⟨_,mg_of X G zpg⟩⟩
 refine⟨fnOf "law" "law" (Sd Dv) (Zv Dv) (Zi Dv) .none v92 d92 m92 n92 c92 t92,fun s v=>.of_eq rfl,fun base KX NX=>?_⟩;have Z:XG l.prog w base K mg h:=⟨X,G⟩;have zrz:=nE Z l3 zr3 zrt fun F=>Nh F T;have zpm:=mE Z l4 fun F=>K8 F T;have zm5:=mE Z l5 fun F=>Gb F T;have zql:=mE Z l6 fun F=>Fo F T;have zm8:=dE Z l7 fun F=>Ge F T;have zp3:=dE Z l8 fun F=>Gf F T;have zpy:=dE Z l10 fun F=>Gg F T;have zro:=nE Z l12 zr4 zrr fun F=>Nj F T;have zm4:=mE Z l14 fun F=>Qv F T;have zo8:=mE Z l16 fun F=>L4 F T;have zoj:=mE Z l17 fun F=>Mn F T;have zn2:=dE Z l20 fun F=>Jc F T;have zoi:=dE Z l21 fun F=>Fs F T;have zpi:=dE Z l22 fun F=>Jd F T;have zrc:=dE Z l23 fun F=>zew F T;have zo4:=dE Z l25 fun F=>zb1 F T;have zn1:=dE Z l27 fun F=>Jf F T;have zq4:=dE Z l28 fun F=>zac F T;have zpd:=nE Z l30 zsd zr7 fun F=>Mp F T;have znw:=mE Z l33 fun F=>Ka F T;have zoh:=mE Z l34 fun F=>Fu F T;have zn4:=mE Z l38 fun F=>Jj F T;have zqi:=mE Z l39 fun F=>F3 F T;have zng:=mE Z l44 fun F=>Qx F T;have zm7:=mE Z l45 fun F=>Pj F T;have znp:=mE Z l46 fun F=>Gq F T;have zne:=mE Z l47 fun F=>Rp F T;have zor:=dE Z l63 fun F=>C2 F T;have znb:=dE Z l64 fun F=>zey F T;have zog:=dE Z l65 fun F=>zb3 F T;have zp4:=dE Z l66 fun F=>G1 F T;have zqq:=dE Z l67 fun F=>C3 F T;have zqn:=dE Z l74 fun F=>C4 F T;have zri:=dE Z l75 fun F=>zb4 F T;have zq5:=dE Z l76 fun F=>zae F T;have zp2:=dE Z l81 fun F=>G7 F T;have znh:=dE Z l90 fun F=>C7 F T;have zpc:=dE Z l0 fun F=>Fm F T zm5 zql;have zpl:=dE Z l9 fun F=>K9 F T zm8;have znm:=mE Z l13 fun F=>Og F T zm8;have zpp:=mE Z l18 fun F=>Jb F T zm4;have zqx:=dE Z l24 fun F=>zg3 F T zn2 zoi zpi zrc;have zq7:=dE Z l29 fun F=>zad F T zn2 zn1 zoi;have zno:=mE Z l35 fun F=>Gk F T zq4;have zqf:=mE Z l36 fun F=>Fw F T zn1;have zoo:=mE Z l55 fun F=>Oj F T zo8;have zmz:=mE Z l56 fun F=>Mu F T zm5;have zna:=dE Z l68 fun F=>Eb F T zor;have zoz:=dE Z l77 fun F=>zaf F T zri zq5;have zp1:=dE Z l79 fun F=>G5 F T zog;have zq8:=dE Z l83 fun F=>zah F T znb zqq zp4;have zqg:=dE Z l84 fun F=>Ee F T znb zog;have zqd:=dE Z l86 fun F=>zaj F T znb;have zpf:=dE Z l87 fun F=>Ei F T znb;have zq2:=dE Z l88 fun F=>zal F T znb zog;have zre:=dE Z l1 fun F=>zby F T zpc;have zrf:=dE Z l11 fun F=>zb0 F T zp3 zpl zpy;have zqh:=mE Z l15 fun F=>Fq F T znm;have zo9:=mE Z l19 fun F=>L7 F T zpp;have zsg:=dE Z l26 fun F=>zif F T zo4 zqx;have zpn:=mE Z l31 fun F=>Jh F T zpd;have zon:=mE Z l32 fun F=>Oh F T zno zo4 zqx zpd;have zqo:=mE Z l37 fun F=>Cz F T zq7;have zrw:=nE Z l41 zr2 zrv fun F=>Nn F T zm8 zro zrz;have znc:=mE Z l42 fun F=>Sz F T zmz;have zm0:=mE Z l48 fun F=>Nq F T zng zm5 zmz zne;have znz:=dE Z l69 fun F=>G4 F T zna;have zpj:=dE Z l70 fun F=>Jo F T zna;have zoq:=dE Z l78 fun F=>C5 F T zoz;have zq3:=dE Z l82 fun F=>zag F T zp1;have zrs:=dE Z l2 fun F=>zeu F T zre;have zp0:=dE Z l40 fun F=>Gn F T zpd zsg;have znd:=mE Z l43 fun F=>Rn F T znc;have zpr:=mE Z l54 fun F=>Jm F T znc zne zpm zqi zm5;have znu:=mE Z l57 fun F=>Mw F T zm0 znw;have zn8:=mE Z l58 fun F=>Gw F T zm0 zoh;have zpq:=mE Z l59 fun F=>Jn F T zm0 zm4 zno;have zn9:=mE Z l60 fun F=>Gy F T zm0 zqf;have zn6:=mE Z l61 fun F=>F7 F T zm0 zqo;have zns:=mE Z l62 fun F=>Kc F T zm0 zn4;have zn3:=dE Z l71 fun F=>Jp F T zpj;have zos:=dE Z l72 fun F=>Nr F T zor znz;have znn:=mE Z l49 fun F=>Oi F T zoj zo9 zmz zrs;have zpo:=mE Z l50 fun F=>Jl F T znd znm zm7 znp zmz zqh;have zpa:=dE Z l73 fun F=>Kg F T zna zn3;have zob:=dE Z l91 fun F=>Nz F T znh znu zn8 zn9 zn6 zns;have zo3:=mE Z l51 fun F=>Mq F T znd zrf zm7 znp zmz zp0 znn zoh;have zoy:=mE Z l53 fun F=>Mr F T znn znw zno zpn zon zn4;have zoc:=dE Z l89 fun F=>Ny F T zn3 znu znz zn8 zn9 zpa zns zna zpq zos zn6;have zp5:=mE Z l52 fun F=>Gu F T zng zm5 zm4 zm7 znp zmz zoy;have zqb:=dE Z l80 fun F=>ze0 F T zpo zp5 zo3 zpr zoo;have zpk:=dE Z l85 fun F=>Js F T zqb zoq;exact zkc (Oy l92.l l92.c l92.k) T znb zrw zqd zpf zq8 zqn zpk zqg zq3 zq2 zqb zoq znh zp2 zob zoc zoz zna zmz
theorem walk{l:OpenLaw}{q:Program}{loose:List Str}{XP:(Str->Option Value)->Heap->Prop}{YP:World->Heap->Prop}{d:DefRec}{K:Params->Frag}(hn:l.most=some 63)(hdf:d.params.defaults=[])
  (hY:∀ (w:World) (h:Heap),YP w h->(K w.params).In h)
  (F:∀ (w:World) (mg:Str->Option Value) (fa:Addr) (h:Heap),(K w.params).In h->h.Ns mainGlobals mg->mg d.name=some (.ref fa) ->
   ∃ fd:FuncData,(∀ (s:Shared) (u:Value),BindsTo s fd ⟨[u],[]⟩ [("_law_script",u)])/\∀ base:Heap,(K w.params).In base->base.Ns mainGlobals mg->FnOk l.prog w (K w.params) mg base (CX1 l.prog w) 10 fa fd ["_law_script"] (zcq (K w.params))) :
  WalkO q loose XP YP l.row.toRowW d [] (fun f vs=>PySem.call f vs) :=
 L2.zhp (n:=63) (k:=10) (x:="_law_script") (CX:=fun w=>CX1 l.prog w) (sp:=fun w=>zcq (K w.params)) hn ⋯ hdf ⟨rfl,by decide,by decide⟩ hY F (fun _ _ a ns hl _ hS=>⟨a,ns,rfl,hS,hl,fun _=>rfl⟩) fun _ _ _ _ _ z=>by obtain⟨_,_,_,_,_,_,_,_,_,_,z⟩:=z;exact z
end K28
open PySem PySem.W PyProof.Rows
local macro_rules|`(command|universe $x*)=>do
 let t:="0123456789ABCDEFGHIJKLMNOPQRSTUVWXYZabcdefghijklmnopqrstuvwxyz!$%&*+,.:;<=>?^_|~".toList;let mut a:=0;let mut r:=#[];let mut s:=x[0]!.getId.getString!.toList
 while !s.isEmpty do
  a:=a+(s.take 9).foldl (fun n c=>n*80+t.idxOf c) 0;s:=s.drop 9;let i:=Lean.mkIdent (.mkSimple s!"tw{a}");r:=r.push (<-`(command|def $i:ident:=Nat))
 return Lean.mkNullNode r
namespace PySem.W.Fast
universe «G2dj;*hV.KBoYA|<C7E*kut|+p>1~3Era3nsA+ZZgC_I>6CTxXFXeFOZ:O451pp3xAkZ0%R02tIac2A;BN=pGLZ.;n5etG&$~Ph7:U~0<wbqE<p>q~oT_Axpt469f2Rw>lVm>%D0je6&B?q*6k.r79?kQ0HF&!<=Wh9s_v5bNfp2Q+r66aqUFYX.,mC>RKgJFxGm=8AJQa7eXN_2*C5DqB=D9!>b%ZtF&CAkx6!dPz0V0T97wg~0ZvL>|uZeJv;8trFV?193Om6spM2fk9x0,>;7s,hznDShFYLfOq_Bm8dWzv+%YsMFXZ~A|BH5wpg:M+.x1Ej0n+x1Q18G=0nlaD4>;=+0!&p9WLn!M~0i8W_^..L^%5O&wN;a%d1%2;ixsaOJ.T4FVgt60Xe%pY,E:Gc;++^Cho0L.HTA<Z%1Q=$rcZITBUomq%<Q%MB5tj;qTm8QBf8X9wj0v>FC8~usCggQt~w<c2M?t?&Di,412t3DIyeLt1Wrl>KG75w!l9$w3X$27U~,+;KK*R|WFQI2a8G?x59n2i=vT<_q35=HfR6f1.3de;Kz9bE4h2$>,2BL05WWk,wRt1VFHT8_?80.fE7H4VC6?Tmy0MT84,9Bug%>,5KL6zTNYDFu8?b0uKM92TgQdt&zTEYwF&HYI8=_v=QU94GQ.y*MX>V7%>JzTW$A3GNPletLD0J7+HHYHLPP|~FE|qP1dNZ>|k4q0kiAh:MR=K+fCXy>P70hi~h?wGnT>>1VaI3j30;|Eo,Sz3IuOYYEce2CBPfgR0y7iQ8%ZS%c1,4nR5sSW16M>C&d*ZIaH3>K3ZkAD;4t~f=YYpyFf1EmpA*Fyx.QqC98Ql3!a%o4:fcOBQIx5RUXyojIl0Bu:7V63p18a,LpKZTCME6zuZSV7q;7Vj7l+0~tnzWLE~3CiI5bVdwAdv4apQXMApV+9h;%19fG,pIzB2AitsHa2lFHCI+Bw_r;28G1pa|b<7v;ckYXh$G<lGx&95_7ee,:i|A7I1LesARq>1EJqIVWlCH4N6eJ,.s9J18bq.Y;0D&apu72h2B!kHP5,wGAFx^r!N$AncQ0$ulsBdu3oy!_iAQ9DCxl1D5_lCE+>?oPmqQ*qpo|cPWG&azRHBYn>2g*ZG1G8=r.Z,+CCmRVO^rS1Z6W*v~0+QvX;~$wQ51yGlsy_qP9PqH?W+|n5Vb=9W&L:8$6qvHR^^3:AhH?fK$IQRcGY,=|2sEroJrS42*Y6A?2=+5yEraPU&x1uMP42Hj.DFY68z++m2bes_=cGW2!rm^TRJY3V8V^IZ+A0DjajJoPLDy%VW4~2!0PFT^nL%YDQxzm^B:I7EAD4SW4.3bM%6A!L3IgoEzxp+62mSN71.F=W4g*?r=fy49864;*!p0oa:9*qsB4B~D;I+%DExAcK.^&Y8PPS~gZzN9.e=gh~m89YoW&jyz%8M;%3eRKx4SlYj%J++0xAo51^TB3v~wef0ls67H=a2qOsAlb!UdR?i9,qa^Q_6GHGjakpZQjDvWN*?+1X3dnP+Y?KX0gZ4O6SKWSZw$Cz8D~S%f3B%i^I85incQ|ZQ1XxXE4~|62X8PM.nDP5?fY|%|6_9hlB%9iF13u8uX4??A1jN0xWR=_9;xnTZh0*Cl&1G$c*91d0t_UH~XAXEO8j$&eL5+DoId>80eKEiLX~w0>fHcW^V!YivDfr8C=3<1,JLMoY7c&EAxETpG<>y$:rd=3.Wjlkek<5Z$XJsuUqCjK^5nxSQCiN^OgE|26a^u?Z69F9D9n<pl~u6%o:r;2eD3x&GT&up$1pXbu:A&p78UG3D%_h6,,J4^auua8;M<G3%63lgTPFLkw3?o3P1gBN5oPgVU9U?2<A8P;BAx2l8sB&d8f6Ke.IKN3oSZfg7ghtT7~EP=;u+q62k=bsGtQ0~;crT;tlEQD$7<cHDH27YK6$mV2^*iE?9hYB%3g013lU7b6bJu8C&7r.RpP<<!3O?=^3+?V4Z,e!rYUj8VYu&!Vn*2,CPU;b~QN|;2~.~=982*g1u.ME3?A7lzW0IDnG^XqX1xQxC8PG>AE0x1K+1GIQCSsWpG^!x6?z.U?up78I*09qR?jLVKVR6C<JCO1<lmPopOYt?az!8A52!K<Dq~>EGCK4bJ%56n.p3P8FzQ4g8?6lyA0eBdACO.sB?NyZ6q=T6%^%rDrbR4RLpwT2wfOkYoDxEq$7Zsco5r>hTVp*>|wH~B*$nFV1?K2:EC2_TNd76W00JyX<2uFf=I5_gG;nCd~n>0FC=y5gFuC26cV8LInp0xgknNs~663rJyK_WL2yG=kDl|i48WqCHqWFMA3<~>61t3p5Hm2mcGGVxDLUbep1d8j_fBT$D;yKy1Ni97fVZjMS*^1JxSHcigN1+u+XhW|~13?z_Cxnj8p.$7rsJ:5$Kc$VWOmQ=g*%!DQqCqbJT&%QBPFNHE2$2aCnMo.JRdkDyf;TxOPt5c1FIjBqz6%DCNZloMA:qum&CJKR<r5o:<FwEXfMH4QiF4npylu;SlbD92SHHbC1H96dI?wjGzMn?TFP,0uM9:wJFVIYoPaZ52$05O3w=D>:1i.&tpKe.BB1i6|iBCI&$+$vigVI+b;s_iQmGcD|0*q.SHUq+>xb5q0<MNPaZ*H5Ba5?ysKR7GvF|oTKK3v+0ewkSkAqKfr737:M87_0*MMXEeZ3==qLd6IkW5do*wRrBg&o,8T55At+MU?f0QbJ9oeSZ3nyli&HY^K9HnH|=kG7_A~I1jyR188XFZz<40S;_63Ssk7LfY2NF+N2Q8tAa%do4BoAeK?sc4iv7O,xhP0_YXbYphJ7y$AI*AZA0<|Apu,;?2+Z|03XG>5K*9vz&UJ3ESN4_Bbh7+8bWuFgBBPBW:54Y+JZCd64HiuA*82^=XGaB=:,rD|KYMwsZV5>,U56nqppQwO7&*U*%nYCIR5k0P=z&OA<KjR|f386e,<POInKoOAV|cir1I~$OS?^52R=GhAB7i1gxT97jZC0eh1UN*ELEW_m$ieS?2KuG6;AfKF&_~DDEQK1HG4*9qp0CZE<^qnJ;2&K~o9gO?11tq3XLW28j9Y?U>jsYYTMX:i>HWtEmEAsz=A+Uv_0T_:15Nk|^ZvqA|8oeBCe42dhb9|OO_5opX&1<;g9r9rq5=wy3yKV%XWEZ0Qlz=y.7,1gf.N!AW+5sE~;hTDB5kD!h+6=K00fG1w0s&ckYAOU:xYDY4^Q6HkQPYJqmgSfr17uS^GTIy6%xe*1a%^47dE^485J2ETZ02;cj8?H.Rl5V?0nSSPpBhv37QBmaroyOC55l8apj8ETDQsfeeEW++TLaR%F5Sjnk2pdD%U1KdMG+3Hwq%d+7_Y3lm;M|$30eh9,TB8EK<;?PZ_8+1r8M_zW3gGfIX1QNoiQ:u4lpysLCTu_OQ~Ty9|0UmBw?HGo=;K>nPJ3<,Nls1b*F:TyFWVVwCqT8<fqsrAoR=uB%HDAXxrpELZtFL0?,JZ0iB&9MfCsK&P0VI89RQ952oDz4PvG8_V*P*&bV9B*XE!kHX7yKX~YZ9g5T6|Hjj3.2ms!,JyE;Pw+Wz~Oj6S%E2xytp.2&$t7yM6U8z17nBI&i7nzxR^ioU4Pn;0ln34AW0mRh%6h4^,XZUOs:15qu<E;;PIh=yqUKjj5i+nbiMd;C!PSz4$Y>1~4&N0aVN1=aO|EZAp1hHU4q%ZYB<YHd4~><5;9Pm$B$=3wwh<My0dGP&p866K24bwb|BC5lNKId$RCEB2?>7:%82qKzLo!C!L6Aty3Q6DtJ8eiO~1FBb3AdqT+kA_CIN$H$.4e2_OyxD%nV2GoO*~zqD5Q?*!dL7yEdy<bZ6|H1SqoGCKna8lD%~mKN!Flys:?;+b1Q<L|Y;3o8!8FQNG_j47nOCb|1pe3nA>7=cWGZ_dAXR!KDCmlqty^QG9af&XX+$Cr=^X,YbDP%&<G1DUg7K0L<CVA!6AY.$G$AhAvx,CooiK67zN<,D_&FPcK:o%!5EEgBIf8DJ2X~DJrs!IR.>QQBLAc8eGvqU_VjF93C|mCJU66?h4W_4.7wyg5Hb56A2I9dbE%wA!<+%eNYH3;H&d<ao$3vEQ1$;*=FB%>praK&1YgUia;rs5pmh!w<R_cVHqqz%dL1;6_1i*KpH6WW8GUuQ1%t2d!4U=1:G?!X*=^8tdVho2^+7RMJnweCW05aV~G3U?2B+DVxSAh71WHyOXy&trQ|6:0t56dGx~XFsE04W3tbjlH0&=<z:Xu+8X>KKfDj%1FCCG4k=RNofpP^BDF0,Lk!V.Rz1TY<*~PTT3tbBO0VtC3J<BsIje79wme:f6y=8C^,0B&U5E?a1&Yd,a2HyA=&q_TUdo^!$:hn1HK8^YiCOFA=<T8q<&PGj0AK!2?DJTr7;VYh0ahVjpx,M0u,*4xx:J2OewIh?;.DVLw~2+S^IId>ujkGA2nQD4WI_O3%I8YFdB.CTQ^e4w3E2O2IO7H^z0WNp|QUf%42&rQRK5D00Og&P5~v1SF~j_jO|1N>=b$4qu8lsDx_zY?8qiPOIwR>NF<icTC>2G~XgZhO<bLx3=%+oFg96mxFSZR*A^2?ll&wZB;<?kbCn!1fKm7QxrsH9o~2EKJ03F8k4LwqVAQ0ed^F|f6_uyYsi,c0YFn82yhk4=4J:9|V46U:2SjBYNB5p>&QI*R54g!3v6AeQJimtJAP;6avr>J5vsF?I:%K%vU2?eaDN9hx6>gua7Hy6CqfS.!wi*9uM$l>3UI6$IvMprMwG0Z236BZp2hu%i&>ds0%ps|mXlx4$PhZ+ogp4z0v9knum3Jb$8aOMJah=Q8<Qqt7l3w>bb=90b+l=qV^RE_4BQ1**Q884b!00uL75dswMnC20%&P0u58;5SM^AKqXE58An2<b_y1$a&fATRZDR*l=E79S0;ZBTDQ_<B;jlPls5dD^UF_DF^PB3~8a?iV,1JemllpP%2+ZGs&rXC8afqvb^=sBScskD3di7kR,|Kwp5DNUvYKYXcJ56brd<o8L2MEg<$3LGbn9=6S|v0s8i.WRw*0^h_1N|2h4H5VvV0&C2m~%RiQ0MZ|I~q~7I+4o<gA<zPD7KT5YqH=uDJnehup0X4fzKWuVow0B5EL!21ZFOW&o%pYqAT78.A8i~dw~y+o?sV0S|&7cUr$7~Ml!W>a.2|jQM01e,2S=BOOGob7vTJrjrb&22l2zCWdVDISrtk5B34w2qJDa0_5ZuM_YhaG7rWmN*+jZ5rb4W%fB|6_y;=:F+~4eQdOqo2=3ghub;J|v3B7e^N91oM8cC9FJ=%1YZRghwcrAo7e5iT&|1xvM%YCg06v0w7*ZJ=2>07R*SkDKt*H;wrgR5=ZbR7?>i1Muq,.tCi2:vo>|jgREwOJom5Hl7yoFtkaXnhrRoe,KTgWiM&Ke,kb9A:fEOQpEEJz0Jh9dN1m$mepg^o2ggKCRe%n65VN$btXRFIv05rL~%SZ,z|9to$3K+F^:C0o4cqpF7OLe2~&3xF0!D5dKdEnTGC77*&ZCApU3G=WOK~KS7rwx&&YOF5Ql_tbgh?D*wiYu;F,G;jWzAW7*DR!<Eoa7;0r^6bSsg96fJ24RI08JkS>,8:1I7*_5jeFzZ00K1_KgbLGS*4=deRp5ZtKo5R~n4IMEXU7O^0;A2&^vDtQWqh<,*a129F9SK<zaOl^Jhfn0G3Jej1N!CW73JuIEmRe3RMe|YPo70%ssG4qJTDJDDJuXTn1q,maH=J?X7qxi!;QVHlJAkvqKaK1vY,<9UcHW?J^^t.:3~~UK~bew3ir%hRMt01vgJ~zC^<90S%;b5+8Lg5PyIHzgDxU*<+Cv;26ys6Jlsy6QvGiq_RtDXFZ9FJ|yGSJ0Vt*n~0eVCLbXF7BeHf!ZGfu7MpUV72|%2Oa!r<d>R710YD8AWi4eU?nRfuS2n&v7j28&3uQuVSqVp0X^v;YQmAH$SFyN9gnDwfD^KxxcA^mjDARP01QtVIgs>ZDXVK*qlte2Di|<*pq,f!Afk8k~PJWIDRsOQeC7Ee0kYVt9srrIk!g+A;Q>slJFIF%VWHgvkL6_z^51ek75>$*piTkO49nCT<FM;67f7TxJ565WfsoheyK4p3jBIc8DEo~VqIwZo5UI9Pwf|?1bL81SD.&I9ga!~5w65kI0LT:!M0^ZzmsCt=2jNY*;g5fQaZK;YHeI6B4wQ,R*v8!JEN8xP_ERgwDxG:P4H0daFpFw3r&+|RUOu0,MV_AauK52<Z_pi4IC$QJAcm6%6yyjd.2Q4RH=9Y%4RK1GB9ku00IDVoZ&vH,,W36tstdh127yrb0o=>Ok%;AOPw;3&6F%7aU+YH8=&pWrr4=^9vDIVY3jbbDlHIb66kgaoRNR0CpR,&cu?0.tCjdkUE1B5Z3othQL&dWi3~YqEtMIpGid%19QpW2t!;AL?ET*0y;EI=u.9RR=9kR4A+Ht=3HWL+qkDy77znX49!:DO2SC=6n&40Ke9mRru0my>~~OYj7F>I5mY!K6Eg*?L%JR5O^8kh7HT66!HK_1_Q075&7|0&TEhS,^l*.t2xKZr1ShIBxPtfD9bQV=wTH$,hZG&OM.*NrhFGO>QX7!|7Can:Ptx!44gQRWuos7S0~C+_aG3|m:uwpUt5Axu3D2wPPH2qPuJc6K04aF1;wJ3_$YJ^om^7:rePAFNIEG692>^iMJ57553x+KH;55tiBda7k3PPTV~~2+xaY%eW1NOVH!=6YQCdisSJep35yszsrh+|2~:gd!Vd60u|AsYXE~92+1hjA42ApA5F%zD00J5sko=BQF8:VOyC5k2koX|Of|b2y=^T|hB54OX5^If5ZA0c!C6QlQ0NoYlGX=_5;+KpATINF02*ND~j67DLd5j.j,5|Q83c&eI06xdr?ec$1rBuib7EW6xmOc;KuF8z^6sYm1aJx29?bp*72plHmyIx.I1qz7kKr*4S!oaIGK4phZA~9wd~50b|1I3zN43DaP=ke0B|UV.<S+h7T9KoCa5YCw*Z;<D:S0nCU,Hy$51po9GT+q<3Kv>1C2Bt8vm5hAbrJ1ShAeZ8W$1eNF%N*;f322v9K5>JQORbSOMjuD8iRW!&0:4QG:=N03PK~j:=M;=M9M6,5scM$1PYPr&1^>7!l|K=y$R7___Pw+vwN4^$!_Ke^0711wZb%bPOAYY~w!WMw$fIk*CA8a:D286YB7.V~bjQT*07n~9SmUa6V$00.Fx02^gU+bzg55H%CjFo8G606~6hEetR?idXWBW59U$*m~vyG9B,PfCZUO4QNh;VlV+INF6RLon?glyS&Pq6E6f$p?G1WrYm+OA:CVwI~s;$rx^r7mlikSlsa0k|x7r$MpfzK:hU|vP6~~U~.4cZ19F~*GAx$0Hh8sLLV~3.Yn|uBfS0BvIm0g^n1G~O,t5gy3Kcg6!<El9MG%KUoDq3=;vYKFsxGbBx6TT~=0zv:I+&*IO;14tXAoF3.9NS;,!ZHQVp.Rfso04nt?Wc5L9Y.*4s7vUag5gNW5,X3!wSu81_DMPFq0yH.sD62:oMMb=Ntos<d~645>^BcrE+28IX5sp%OnGJ&CBYgoG2C9*c~2fR8vip_S;=P4kID<DD<G3Ehqct40X0:o<$i6?p0g^S16YpB32eEDnJ%EN+E1DJtE262NN<H2utOcZ9gCg,b4hnOItc?q8OK1CoO:f5foyRp4jx8|Gj32sayFlR1iKIZ~GLf^oa&P32geV8gZ,wEhH7Y|<Z+A!Wa,xUa?7WiOvTf;|3OYRe$de30jk0<Luk50v_ElGEQb9lEGh_J*430cjp.o^HCVY,7*WHpLpycdc+E^6A.<RxW=x19AI6HUIq4=s&to$5j1hd~ztIXy4TE!p1uI.WZ=2sTIK^1?eLFSI<u0U,r~|&GK3f5j=+FF?Utzx?jIp30:Xo5Q:&_62S*a$uNmB_pfmQ=Pa8O!PBYRoYGJ.Vsz&3h5uho,FCXXKKr$*6a~03YVjzx.0R0C4Tty2RU32S2zIa1o2Q5!F+%A!4x>I2VzLf9c2q1!z7d1IY_p&KtK2RWEYu3qZTQJlq?!tw70lVp.nW21>i0N?S|=8S&_Is7U>3p>MEwZ6K2w<I&aIe+6oqlCVOLb5HLO!X:sGEaetcx20NP,V3vHPJ;5PF3|LMDo35>nTW+^kAJJd~Fen3Aj+nf=U+n2UKhYJh;tDdOO|l=<0DF>;D7UoQ2qZPL!T+N2xznaM0!vKA%rct+|Y16<ZGsL|rHA^6bFL,F5j<%RQO3?9sx?g8>hS7iOp*yDy5E.2JlzmGdExJlK5LY,G%M*vWEUmHkov^pW*XX>s0j2wz+6JL,^&|S=4+LUpLXoX9$hcyq^JCRl%D!T%s>JSd2XHr;c0feV&KXraZViRd_RQ$HPCReMIEebNWdit8gIBcl|ADnJd7YK,ipsk!5_9H3RoguD;Z7<I_&+H?wrnZD9%35:4ZdadW5+:x2Yih1B50d3O3v!1E=f_*F491erwC.iS56IAXqlYHk1^wQAYCMy8rYtYG8D|06WWKjA_dJRfa|2<wA3D!2TKR1%3$h09=?^z416U7W|l%1jX5nWfx343F<Y.H|749GOCfda&C.4AjWU9c827EcGhjX3M088~8^%G7kt98,Y.0_!xt<tiQBcwJT_ENS27G!MA=0w42xk:nMBZDH;CNOkwAUji.~g4$6Ap5mzzXZj2AUl<v4cg1,X*SgMzBF9u0ZkyHUZiX$CzaEl9v?a5H,u03~j>HDwkb1xXaYocpI0_G482+o61t^WRr$FE9E7p:CfFTHbFxlBA!;2V^q*1xGu4n>C%26FP55:V9xtl51sE3&ZNo,Cr7.>Cp4lK7fJsYiv:5w81_1TBO2:jQ$ud!S2_8V,zOc^1<qwf:TCT1tDI4oWkiCozPjdH_xSewmOaus>2K*mEkZ1qG7?K:m^0v1rm9fj>i=8^=oRag!|9G|_t~~>,1C=^JH3M,14p:r<YPwCXOwD~tPG3xnHVdvpl2T=+hwwLo6>Wug:|FA62Qv,%kbH9%VBagkZGLJSrEY|PVF+>tr^kN97VbtAJ+xK1o*Ol6R|N7cEaE?*Ti1nS?mw;ch3?Q~5mNoV0HA4Uif?t7rixqD6Yw037k3sL1Y7E2?ZTh3K7JIyko5?YF4_p*w>e012+YGyIOv6<uirbp8:bWYDr:~6k0jQHAIWBx6T!o|:BVL12ucc7uYpG>5xu7qkgLpw>WdoCJKzyZ,?$0l3xF4WL&A,8e?0DC8!p07U0_f31P3EL>%UO<!4Ie0hYG:F6w|?&x$8R1hX_y8&g^Gw,zC^Vn,1q;ncL6xB73p^V!A2W7f;R754cqAUdx:8z$z0q6LuawZq9a1?*%li755B&PuW1KD1N<,VaeS3t5cw_9jOC9tjcs<_M0G7CcUB2:1ELYqQ3?,2C3JC,583094erPaa<EQE2eC1dKSq*Z?LIkm2CF$D4:B<0ixkI8bCiOC8<F?bV:6xr66r.TZ5J,F%X<~w3QwA%6&0G0yMogo_lQ6rb;WLw1p1B&M3=%s;Bz.2Yp3_o4CBD9Gu|^3iumqezb13E.wk0COc7^XuN+2Yb6>!RvdE8z0zK*lEVyf0PwP,IrhQ5%WJZ3noo0Qapx;*!W49VX^8.Pz2jM&CNf+%7Wu8>Kcu311vasU^Y~0c4:$KLk2IOO~95aZW52N4y?Ubu0_L4M_fs,0uf^5?fj*5SkA<iyeC0RUXhw%lE8n=V6EN5^KTpIqzoR,6oXJ^!xe75ncRa68;0N!GD6yC7~5Rqg0idWHO3&5s6hct4c|qx:zp34P0k<n1p80EV3K;DT&0<W9:Y86M5.LJjfkJ.7<irD,9^G6EaxEF!vI93vv6V3BMa^VejIOzZ0YvFR^Iqd9k,aMcE;a5C3sX:9v5I?N,wWkVl4:Hx<?LdRNl?Bl:|QT8qR<BoWMt04cSm95=C1N%+zre:Q9lZq9uq9e0R1;RdywD1ejxtl0zI1D>6,.jh*KQi~+C~SK8Si08JAAr0e$fO=BeK0>DuM9_Db4L?_OE*OZF+a8FN6z&4GhE.?*w:Nz:V;4++,2V3&8;,UT54z&jS^cIWFKmRh<*NPFt9h&*2a4:e27Uwk^I1rYo~W^i5&TPg~sM7L_,c34_OVAyZk_j70B0C!E&f!;Q4Mczj,AsdFZdukkTsWPD^?8q=caAEO0fq+65PC9oBDoH$9toa*B1>QM$hqgd1,3Dy*J8vdvQ4rV2c&:!W6.TDIi1770Yns_74bKFxt8nY&6kWJM0A=fWhDo&m%gNbj3_jS5.*Oq6v,SLql+=3cjAs4&kQ0dGA<vv&F8XipB5hlQ0N3N_0_ih4e<6wgRiT3HikToA6;8_RA*pYTI7X0!84.!FG9bS1qR&h1tXviRvcg4FJp&~&svDMwc43%Oo3BocCU:;69nLe9gMZe9st=O<D&s8VGg2&nBV1Cg:w+W0D1cH!<n2sTPoC5B,cY*DgqVi7s%JNH5u+dNlL0O+.o7r5Q713c=Ub8A0cB%2~rlI4=hCEu>&+JRH40U9V>7w>U6;2W:EM+4A>B?j5tAxLEO8G0,Gbg$nDU2|>nk1S.u0~9R5pk9z0DbH0Q;oH0ZQoTux&SA3,3qP0mgDaBJlaUH2599+lr|~FFh0<qhB!b3HoF|kbUE2H+y~K5N01MgJjWngT8X~JRoj*t0K*<9%%9cO00=aPuMi»
end PySem.W.Fast
set_option maxRecDepth 100000 in
set_option maxHeartbeats 0 in
theorem PySem.Challenge.cw_whistlebook_k28_told_lists_of_a_round_holds : PySem.Challenge.rw_whistlebook_k28_told_lists_of_a_round.Holds := by
 w_on;o_law;k_head;(case hw=>w_witness2)
 k_fill
 refine K28.walk (l:=PySem.Challenge.rw_whistlebook_k28_told_lists_of_a_round) rfl rfl (fun w h Y=>PySem.W.kIn_of Y) ?F
 case F =>
  intro w mg fa h KX G hmg;apply K28.zkd KX G hmg
  (case zrl|zqe|zpu|zou|zo1|zo5|zq9|zq0|zp7|zqu|zqk|zpz|zrk|zq6|zok|zph|zrt|zrr|zr7|zrv=>(show _=_;k_is))
  (case zrb|zqa|zrp|zqm|zpx|zqc|zra|zr6|zq1|zqv|zrq|zrm|zqz|zpb=>(show PySem.W.excIn _ _ _ _=true;k_exc))
  all_goals first|(show _=_;k_is)|(constructor<;>(show _=_;k_is))
#print axioms PySem.Challenge.cw_whistlebook_k28_told_lists_of_a_round_holds

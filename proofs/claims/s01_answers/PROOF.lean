import PyProof.Rows.All
import Wide.All
import OpenK.AllK
import Wide.FinOn
import PyProof.EqAt
import PyProof.EqKinds
import PyProof.TupleCall
import KE.BitLaws
import Open.SpecLaws
import KE.OsHead
import KE.OsGo
import PyYqloka
import PySem.Challenge.RW_lookuporder_s01_answers
import KE.KMinKey
import KE.KSortTup
import KE.KLam
import PyProof.ListRange
import KE.KNestM
set_option Elab.async false
set_option linter.all false
set_option maxRecDepth 100000
open Array(length_toList)
open Bool(and_eq_true not_eq_true' or_eq_true)
open List(Sublist all_eq_true any_cons append_assoc append_nil drop_drop drop_eq_getElem_cons drop_of_length_le drop_zero filter_append filter_cons find?_cons getD_eq_getElem?_getD getElem?_eq_getElem getElem?_map length_append length_cons length_drop length_filter_le length_map length_nil length_set length_take lookup_cons map_append map_cons map_drop map_map map_nil map_take mem_append mem_append_right mem_cons mem_cons_of_mem mem_cons_self mem_filter mem_map mem_of_getElem? mem_singleton nodup_cons pairwise_cons replicate_succ set_set size_toArray takeWhile_cons take_add_one take_length take_of_length_le toArray zipWith)
open Lo(between borders counted front howOf howOk joinRows level1 notZero putText rowCmp valueRow weights written writtenString zeroWeight)
open LoCalls(Answer itemNums listed looked maybe num)
open Nat(le_refl le_trans lt_irrefl lt_of_lt_of_le min_eq_left min_eq_right ne_of_lt succ_pos zero_le)
open Option(isSome_iff_exists map_eq_some_iff)
open Or(inl)
open OrderNeutral(asked few nat natural short)
open PyFlat(played)
open PyProof.Rows(boot_list boot_max)
open PySem.F(plainAttrs_list plain_max_loop slot_list_extend type_list_extend)
open PySem.Heap(get?_push_of_some get?_push_size lt_size size_push)
open PySem.PyData(eqv eqvAll)
open PySem.W(Frag callWith_K emptyDict findIn instObj isFn lookIn mg_of nsIn plainGet)
namespace L2
open PySem PySem.Spec PyProof.Rows
abbrev Key:=Sum Int Str
def keyIs:Key->Value->Bool
 | .inl k,v=>Value.isInt k v
 | .inr x,v=>Value.isStrOf x v
def keyH(w:World):Key->Int
 | .inl k=>hashInt k
 | .inr x=>hashStr w x
theorem AS:∀{k:Key}{v:Value},keyIs k v=true->(∃i t,k=Sum.inl i/\v=Value.int i t)\/(∃x t,k=Sum.inr x/\v=Value.str x t)
 | .inl i,v,h=>by
  obtain⟨t,e⟩:=Value.isInt_shape (k:=i) (v:=v) h;exact .inl ⟨i,t,rfl,e⟩
 | .inr x,v,h=>by
  obtain⟨t,e⟩:=Value.isStrOf_shape (x:=x) (v:=v) h;exact .inr ⟨x,t,rfl,e⟩
theorem Gf(i:Int)(t:Tok):keyIs (.inl i) (.int i t)=true:=by simp[keyIs,Value.isInt]
theorem Kl(x:Str)(t:Tok):keyIs (.inr x) (.str x t)=true:=by simp[keyIs,Value.isStrOf]
theorem Oh(a b:Int):decide ((Sum.inl a:Key)=Sum.inl b)=(a==b):=by
 by_cases e:a=b
 .subst e;simp
 .have h:¬(Sum.inl a:Key)=Sum.inl b:=fun q=>e (Sum.inl.inj q);rw[decide_eq_false h];exact(beq_eq_false_iff_ne.mpr e).symm
theorem NO(a b:Str):decide ((Sum.inr a:Key)=Sum.inr b)=decide (a=b):=by
 by_cases e:a=b
 .subst e;simp
 .have h:¬(Sum.inr a:Key)=Sum.inr b:=fun q=>e (Sum.inr.inj q);rw[decide_eq_false h,decide_eq_false e]
theorem Nw(a:Int)(b:Str):decide ((Sum.inl a:Key)=Sum.inr b)=false:=decide_eq_false (fun q=>nomatch q)
theorem NQ(a:Str)(b:Int):decide ((Sum.inr a:Key)=Sum.inl b)=false:=decide_eq_false (fun q=>nomatch q)
def mixKind(prog:Program)(w:World):PySem.KeyKind prog w Key where
 is:=keyIs
 hash:=keyH w
 inj:=fun v a b ha hb=>by
  rcases AS ha with ⟨i,t,rfl,rfl⟩|⟨x,t,rfl,rfl⟩
  .rcases AS hb with ⟨j,u,rfl,e⟩|⟨y,u,rfl,e⟩
   .injection e with e1 _;rw[e1]
   .exact nomatch e
  .rcases AS hb with ⟨j,u,rfl,e⟩|⟨y,u,rfl,e⟩
   .exact nomatch e
   .injection e with e1 _;rw[e1]
 byValue:=fun k v h=>by
  rcases AS h with ⟨i,t,rfl,rfl⟩|⟨x,t,rfl,rfl⟩<;>rfl
 pyHash:=fun hv h=>by
  rcases AS hv with ⟨i,t,rfl,rfl⟩|⟨x,t,rfl,rfl⟩
  .exact wpAny_pyHash_int h
  .exact wpAny_pyHash_str h
 eqBool:=fun hu hv h=>by
  rcases AS hu with ⟨i,t,rfl,rfl⟩|⟨x,t,rfl,rfl⟩
  .rcases AS hv with ⟨j,u,rfl,rfl⟩|⟨y,u,rfl,rfl⟩
   .rw[Oh]at h;exact wpAny_eqBool_int h
   .rw[Nw]at h;exact SeqAt.EqAt.int_str i t y u _ _ _ _ h
  .rcases AS hv with ⟨j,u,rfl,rfl⟩|⟨y,u,rfl,rfl⟩
   .rw[NQ]at h;exact SeqAt.EqAt.str_int x t j u _ _ _ _ h
   .rw[NO]at h;exact wpAny_eqBool_str h
 «strs»:=fun k x t v h=>by
  rcases AS h with ⟨i,u,rfl,e⟩|⟨y,u,rfl,e⟩
  .exact nomatch e
  .injection e with e1 _
   subst e1;cases v<;>rfl
theorem En(prog:Program)(w:World)(i:Int)(t:Tok):(mixKind prog w).is (.inl i) (.int i t)=true:=Gf i t
theorem HR(prog:Program)(w:World)(x:Str)(t:Tok):(mixKind prog w).is (.inr x) (.str x t)=true:=Kl x t
inductive V where
 |non|bl (b:Bool)|int (i:Int)|str (x:Str)|byt (b:Array UInt8)|flt (b:UInt64)|ref (a:Addr)|ty (n:String)
 deriving DecidableEq
def RelV:V->Value->Prop
 | .non,u=>u=Value.none
 | .bl b,u=>u=Value.bool b
 | .int i,u=>∃t,u=Value.int i t
 | .str x,u=>∃t,u=Value.str x t
 | .byt b,u=>∃t,u=Value.bytes b t
 | .flt b,u=>∃t,u=Value.float b t
 | .ref a,u=>u=Value.ref a
 | .ty n,u=>u=Value.type n
abbrev Vals:List V->List Value->Prop:=Paired RelV
theorem Vals.length{xs:List V}{us:List Value}(r:Vals xs us):xs.length=us.length:=Paired.length r
theorem Vals.get:∀{xs:List V}{us:List Value}{i:Nat}{x:V},Vals xs us->xs[i]? =some x->∃u,us[i]? =some u/\RelV x u
 |_,_,_,_,.nil,e=>by simp at e
 |_,_,0,_,.cons r _,e=>by simp at e;subst e;exact⟨_,rfl,r⟩
 |_,_,i+1,x,.cons _ t,e=>by
  obtain⟨u,h1,h2⟩:=Vals.get (i:=i) (x:=x) t (by simpa using e);exact⟨u,by simpa using h1,h2⟩
theorem Vals.set{x:V}{u:Value}(r:RelV x u):∀{xs:List V}{us:List Value}(i:Nat),Vals xs us->Vals (xs.set i x) (us.set i u)
 |_,_,_,.nil=>.nil
 |_,_,0,.cons _ t=>.cons r t
 |_,_,i+1,.cons q t=>.cons q (Vals.set r i t)
theorem Vals.append:∀{xs ys:List V}{us ws:List Value},Vals xs us->Vals ys ws->Vals (xs++ys) (us++ws)
 |_,_,_,_,.nil,s=>s
 |_,_,_,_,.cons r t,s=>.cons r (Vals.append t s)
theorem Vals.take:∀{xs:List V}{us:List Value}(n:Nat),Vals xs us->Vals (xs.take n) (us.take n)
 |_,_,0,_=>.nil
 |_,_,_+1,.nil=>.nil
 |_,_,n+1,.cons r t=>.cons r (Vals.take n t)
theorem Vals.drop:∀{xs:List V}{us:List Value}(n:Nat),Vals xs us->Vals (xs.drop n) (us.drop n)
 |_,_,0,r=>r
 |_,_,_+1,.nil=>.nil
 |_,_,n+1,.cons _ t=>Vals.drop n t
def RelO:Option V->Option Value->Prop
 |some v,some u=>RelV v u
 |none,none=>True
 |_,_=>False
def KV{κ:Type}:List (κ×V)->List (κ×Value)->Prop:=Paired fun(p:κ×V)(q:κ×Value)=>p.1=q.1/\RelV p.2 q.2
def kV:Key->V
 | .inl i=>.int i
 | .inr x=>.str x
inductive HO where
 |lst (xs:List V)
 |tup (xs:List V)
 |dK (kvs:List (Key×V))|dT (kvs:List (List Key×V))
 |set (S:Int->Bool) (n:Nat)
 |ins (C dx:Addr) (fs:List (Str×V))
 |own (x:Addr)
 |xd (fs:List (Str×V))
 |met (f x:Addr)
 |rng (lo hi:Int)
 |frz (o:Obj) (u:HO)
 |tbl (ps:Array Value)
 |ext (φ:Heap->Prop)
abbrev Hp:=Addr->Option HO
def aj(H:Hp)(a:Addr)(o:HO):Hp:=fun b=>if b=a then some o else H b
theorem Ae{H:Hp}{a:Addr}{o:HO}:aj H a o a=some o:=by unfold aj;rw[if_pos rfl]
theorem Am{H:Hp}{a b:Addr}{o:HO}(h:b≠a):aj H a o b=H b:=by unfold aj;rw[if_neg h]
theorem AC{H:Hp}{a b:Addr}{o u:HO}(h:H a=some o)(h':H b=some u)(d:o≠u):a≠b:=by
 intro e;subst e;rw[h]at h';exact d (Option.some.inj h')
theorem Ai{H:Hp}{a b:Addr}{o:HO}(h:H a=some o)(h':H b=none):a≠b:=by
 intro e;subst e;rw[h]at h';cases h'
section
variable(P:Program)(w:World)
def ObjOk(H:Hp)(h:Heap)(a:Addr):HO->Prop
 | .lst xs=>xs.length<=sizeLine/\∃(its:List Value)(n:Nat),Vals xs its/\h.get? a=some {cls:=.type "list",data:=.seq its.toArray n}
 | .tup xs=>xs.length<=sizeLine/\∃its:List Value,Vals xs its/\IsTup h a its.toArray
 | .dK kvs=>kvs.length<=sizeLine/\(a==sysModules)=false/\∃vs,KV kvs vs/\h.DictOf (mixKind P w) a vs
 | .dT kvs=>kvs.length<=sizeLine/\(a==sysModules)=false/\∃xs:List (List Key×Addr×Value),
   Paired (fun(p:List Key×V)(q:List Key×Addr×Value)=>p.1=q.1/\H q.2.1=some (.tup (p.1.map kV))/\RelV p.2 q.2.2) kvs xs/\
   ∃o es ep,h.get? a=some o/\o.ExactDict/\o.data= .dict es ep/\es.toList=xs.map (entryOfKey (tupleKind (mixKind P w)))/\(xs.map (·.1)).Nodup
 | .set S n=>h.SetOf (intKind P w) a S n
 | .ins C dx fs=>H dx=some (.own a)/\fs.length<=1000/\dx≠a/\h.get? a=some (instObj C dx)/\
   ∃mA,h.Ns1 dx mA/\(∀f,RelO (fs.lookup f) (mA f))/\PySem.Within mA (fs.map (·.1))
 | .own _=>∃o,h.get? a=some o
 | .xd fs=>∃mA,h.Ns1 a mA/\∀f,RelO (fs.lookup f) (mA f)
 | .rng lo hi=>∃t u v,h.get? a=some {cls:=.type "range",data:=.fields #[.int lo t,.int hi u,.int 1 v]}
 | .frz o u=>h.get? a=some o/\ObjOk H h a u
 | .tbl ps=>h.get? a=some {cls:=.none,data:=.fields ps}
 | .met f x=>h.get? a=some (PySem.W.methodObj (.ref f) (.ref x))
 | .ext φ=>φ h/\(∃o,h.get? a=some o)/\∀h1 h2:Heap,φ h1->(∀o,h1.get? a=some o->h2.get? a=some o)->φ h2
def HOk(H:Hp)(h:Heap):Prop:=∀a o,H a=some o->ObjOk P w H h a o
end
section
variable{P:Program}{w:World}{H H':Hp}{h h':Heap}{a:Addr}{o:HO}
theorem ObjOk.lt(x:ObjOk P w H h a o):a<h.objs.size:=by
 cases o with
 |lst xs=>obtain⟨_,_,_,_,e⟩:=x;exact lt_size e
 |tup xs=>obtain⟨_,_,_,p⟩:=x;exact p.lt
 |dK kvs=>obtain⟨_,_,_,_,o,_,_,e,_⟩:=x;exact lt_size e
 |dT kvs=>obtain⟨_,_,_,_,o,_,_,e,_⟩:=x;exact lt_size e
 |set S n=>obtain⟨o,_,_,_,e,_⟩:=x;exact lt_size e
 |ins C dx fs=>obtain⟨_,_,_,e,_⟩:=x;exact lt_size e
 |own y=>obtain⟨_,e⟩:=x;exact lt_size e
 |xd fs=>obtain⟨_,⟨_,_,_,e,_⟩,_⟩:=x;exact lt_size e
 |rng lo hi=>obtain⟨_,_,_,e⟩:=x;exact lt_size e
 |frz ob u=>obtain⟨e,_⟩:=x;exact lt_size e
 |tbl ps=>exact lt_size (show h.get? a=some _ from x)
 |met f y=>exact lt_size (show h.get? a=some _ from x)
 |ext φ=>obtain⟨_,⟨_,e⟩,_⟩:=x;exact lt_size e
theorem Paired.mapP{α β:Type}{F G:α->β->Prop}:∀{l₁:List α}{l₂:List β},Paired F l₁ l₂->(∀a b,F a b->G a b)->Paired G l₁ l₂
 |_,_,.nil,_=>.nil
 |_,_,.cons r t,f=>.cons (f _ _ r) (Paired.mapP t f)
theorem ObjOk.stay(x:ObjOk P w H h a o)(k:∀b u,(b=a\/H b=some (.own a))->h.get? b=some u->h'.get? b=some u)
  (ho:∀b,H b=some (.own a)->H' b=some (.own a)) (ht:∀b xs,H b=some (.tup xs)->H' b=some (.tup xs)):ObjOk P w H' h' a o:=by
 induction o with
 |lst xs=>obtain⟨z,its,n,r,e⟩:=x;exact⟨z,its,n,r,k _ _ (.inl rfl) e⟩
 |tup xs=>obtain⟨z,its,r,ob,e,c⟩:=x;exact⟨z,its,r,ob,k _ _ (.inl rfl) e,c⟩
 |dK kvs=>obtain⟨z,y,vs,r,ob,es,ep,e,c⟩:=x;exact⟨z,y,vs,r,ob,es,ep,k _ _ (.inl rfl) e,c⟩
 |dT kvs=>
  obtain⟨z,y,xs,r,ob,es,ep,e,c⟩:=x;exact⟨z,y,xs,Paired.mapP r fun p q z=>⟨z.1,ht _ _ z.2.1,z.2.2⟩,ob,es,ep,k _ _ (.inl rfl) e,c⟩
 |set S n=>obtain⟨ob,es,ep,t,e,c⟩:=x;exact⟨ob,es,ep,t,k _ _ (.inl rfl) e,c⟩
 |ins C dx fs=>
  obtain⟨d,z,ne,e,mA,⟨od,es,ep,e2,c⟩,r⟩:=x;exact⟨ho _ d,z,ne,k _ _ (.inl rfl) e,mA,⟨od,es,ep,k _ _ (.inr d) e2,c⟩,r⟩
 |own y=>obtain⟨ob,e⟩:=x;exact⟨ob,k _ _ (.inl rfl) e⟩
 |xd fs=>obtain⟨mA,⟨od,es,ep,e,c⟩,r⟩:=x;exact⟨mA,⟨od,es,ep,k _ _ (.inl rfl) e,c⟩,r⟩
 |rng lo hi=>obtain⟨t,u,v,e⟩:=x;exact⟨t,u,v,k _ _ (.inl rfl) e⟩
 |frz ob u ih=>obtain⟨e,q⟩:=x;exact⟨k _ _ (.inl rfl) e,ih q⟩
 |tbl ps=>
  have e:h.get? a=some {cls:=.none,data:=.fields ps}:=x;show h'.get? a=some {cls:=.none,data:=.fields ps};exact k a _ (.inl rfl) e
 |met f y=>
  have e:h.get? a=some (PySem.W.methodObj (.ref f) (.ref y)):=x;show h'.get? a=some (PySem.W.methodObj (.ref f) (.ref y));exact k a _ (.inl rfl) e
 |ext φ=>obtain⟨p,⟨o,e⟩,st⟩:=x;exact⟨st _ _ p fun o q=>k _ _ (.inl rfl) q,⟨o,k _ _ (.inl rfl) e⟩,st⟩
theorem HOk.lt(x:HOk P w H h)(e:H a=some o):a<h.objs.size:=(x a o e).lt
theorem HOk.fresh(x:HOk P w H h)(e:h.objs.size<=a):H a=none:=by
 cases q:H a with
 |none=>rfl
 |some u=>exact absurd (lt_of_lt_of_le (x.lt q) e) (lt_irrefl _)
theorem HOk.kept(x:HOk P w H h)(k:∀b u,h.get? b=some u->h'.get? b=some u):HOk P w H h':=fun a o e=>
 (x a o e).stay (fun b u _ q=>k b u q) (fun _ q=>q) fun _ _ q=>q
theorem HOk.laid(x:HOk P w H h)(k:∀b u,h.get? b=some u->h'.get? b=some u)(hp:h.objs.size<=a)(new:ObjOk P w (aj H a o) h' a o):HOk P w (aj H a o) h':=fun b u e=>by
 have hn:=x.fresh hp;by_cases hb:b=a
 .subst hb;rw[Ae]at e;cases e;exact new
 .rw[Am hb]at e;exact(x b u e).stay (fun c v _ q=>k c v q) (fun c q=>by rw[Am (Ai q hn)];exact q) fun c xs q=>by rw[Am (Ai q hn)];exact q
end
def Rd(H:Hp)(a:Addr)(u:HO):Prop:=H a=some u\/∃o,H a=some (.frz o u)
theorem Rd.ok{P:Program}{w:World}{H:Hp}{h:Heap}{a:Addr}{u:HO}(r:Rd H a u)(x:HOk P w H h):ObjOk P w H h a u:=by
 rcases r with r|⟨o,r⟩
 .exact x a u r
 .obtain⟨_,q⟩:=x a _ r;exact q
def Mut:Option HO->Prop
 |some (.lst _)=>True
 |some (.dK _)=>True
 |some (.dT _)=>True
 |some (.set _ _)=>True
 |some (.ins _ _ _)=>True
 |some (.ext _)=>True
 |_=>False
section
variable{P:Program}{w:World}{H:Hp}{h h':Heap}{x e:Addr}{o':HO}
theorem HOk.write(ok:HOk P w H h)(mu:Mut (H x))(he:e=x\/H e=some (.own x))(k:∀b u,b≠e->h.get? b=some u->h'.get? b=some u)(heo:∃u,h'.get? e=some u)
  (new:ObjOk P w (aj H x o') h' x o'):HOk P w (aj H x o') h':=fun b u q=>by
 have nown:∀c y,H c=some (.own y)->c≠x:=fun c y r z=>by subst z;rw[r]at mu;exact mu
 have ntup:∀c xs,H c=some (.tup xs)->c≠x:=fun c xs r z=>by subst z;rw[r]at mu;exact mu
 by_cases hb:b=x
 .subst hb;rw[Ae]at q;cases q;exact new
 .rw[Am hb]at q;by_cases hbe:b=e
  .have q':H b=some (.own x):=by
    rcases he with z|z
    .exact absurd (hbe.trans z) hb
    .rw[hbe];exact z
   rw[q]at q';cases q';obtain⟨v,hv⟩:=heo;exact⟨v,by rw[hbe];exact hv⟩
  .refine(ok b u q).stay (fun c v hc r=>k c v ?_ r) (fun c r=>by rw[Am (nown c b r)];exact r) fun c xs r=>by rw[Am (ntup c xs r)];exact r
   rcases hc with rfl|hc
   .exact hbe
   .rintro rfl;rcases he with z|z
    .exact nown c b hc z
    .rw[hc]at z;cases z;exact hb rfl
end
structure Un (fs ex:List Addr) (H H':Hp) (h h':Heap):Prop where
 keep:∀b o,h.get? b=some o->H b=none->b∉fs->b∉ex->h'.get? b=some o
 slot:∀b o,h.get? b=some o->H b=none->b∈fs->b∉ex->∃sl,h'.get? b=some {o with slots:=sl}
 free:∀b o,h.get? b=some o->H b=none->b∉ex->H' b=none
 there:∀b o,h.get? b=some o->b∉ex->∃o',h'.get? b=some o'
 tups:∀b xs,H b=some (.tup xs)->H' b=some (.tup xs)
 frzs:∀b o u,H b=some (.frz o u)->H' b=some (.frz o u)
 tbls:∀b ps,H b=some (.tbl ps)->∃more,H' b=some (.tbl (ps++more))
section
variable{fs fs' ex ex':List Addr}{H H1 H2:Hp}{h h1 h2 h':Heap}{a x e:Addr}{o:HO}
theorem Un.any(u:Un fs ex H H1 h h1){b:Addr}{ob:Obj}(q:h.get? b=some ob)(n:H b=none)(hx:b∉ex):∃sl,h1.get? b=some {ob with slots:=sl}:=by
 by_cases hb:b∈fs
 .exact u.slot b ob q n hb hx
 .exact⟨ob.slots,u.keep b ob q n hb hx⟩
theorem Un.kept(k:∀b u,h.get? b=some u->h'.get? b=some u):Un fs ex H H h h':=
 ⟨fun b ob q _ _ _=>k b ob q,fun b ob q _ _ _=>⟨ob.slots,k b ob q⟩,fun _ _ _ n _=>n,fun b ob q _=>⟨ob,k b ob q⟩,fun _ _ q=>q,fun _ _ _ q=>q,fun _ ps q=>⟨#[],by rw[q];simp⟩⟩
theorem Un.refl:Un fs ex H H h h:=Un.kept fun _ _ q=>q
theorem Un.laid(k:∀b u,h.get? b=some u->h'.get? b=some u)(hp:h.objs.size<=a)(hn:H a=none):Un fs ex H (aj H a o) h h' where
 keep:=fun b u q _ _ _=>k b u q
 slot:=fun b u q _ _ _=>⟨u.slots,k b u q⟩
 free:=fun b u q n _=>by rw[Am (ne_of_lt (lt_of_lt_of_le (lt_size q) hp))];exact n
 there:=fun b u q _=>⟨u,k b u q⟩
 tups:=fun b xs q=>by rw[Am (Ai q hn)];exact q
 frzs:=fun b u xs q=>by rw[Am (Ai q hn)];exact q
 tbls:=fun b ps q=>⟨#[],by rw[Am (Ai q hn),q];simp⟩
theorem Un.write(mu:Mut (H x))(he:e=x\/H e=some (.own x))(k:∀b u,b≠e->h.get? b=some u->h'.get? b=some u)(heo:∃u,h'.get? e=some u):Un fs ex H (aj H x o) h h':=by
 have hx:∀b,H b=none->b≠x:=fun b n z=>by subst z;rw[n]at mu;exact mu
 have hb:∀b,H b=none->b≠e:=fun b n z=>by
  subst z;rcases he with r|r
  .exact hx b n r
  .rw[n]at r;cases r
 have hm:∀b u,H b=some u->¬Mut (some u)->b≠x:=fun b u q nm z=>by subst z;rw[q]at mu;exact nm mu
 refine⟨fun b u q n _ _=>k b u (hb b n) q,fun b u q n _ _=>⟨u.slots,k b u (hb b n) q⟩,fun b u q n _=>by rw[Am (hx b n)];exact n,fun b u q _=>?_,
  fun b xs q=>by rw[Am (hm b _ q fun z=>z)];exact q,fun b u xs q=>by rw[Am (hm b _ q fun z=>z)];exact q,fun b ps q=>⟨#[],by rw[Am (hm b _ q fun z=>z),q];simp⟩⟩
 by_cases hbe:b=e
 .subst hbe;exact heo
 .exact⟨u,k b u hbe q⟩
end
def trk(h:Heap)(H:Hp):List Addr:=(List.range h.objs.size).filter fun a=>(H a).isSome
def hidT(h:Heap)(H:Hp):Heap:=PySem.W.hideAll h (trk h H)
theorem Kh(h:Heap)(H:Hp):(hidT h H).objs.size=h.objs.size:=PySem.W.hideAll_size _ _
theorem Mc{h:Heap}{H:Hp}{b:Addr}{o:Obj}(e:h.get? b=some o)(n:H b=none):(hidT h H).get? b=some o:=
 PySem.W.hideAll_get _ e fun hm=>by
  have q:(H b).isSome=true:=(mem_filter.mp hm).2;rw[n]at q;simp at q
theorem Mz{h:Heap}{H:Hp}{b:Addr}{o:Obj}(e:(hidT h H).get? b=some o):h.get? b=some o/\H b=none:=by
 have e':h.get? b=some o:=PySem.W.of_hideAll (trk h H) e;refine⟨e',?_⟩;cases q:H b with
 |none=>rfl
 |some x=>
  have hm:b∈trk h H:=mem_filter.mpr ⟨List.mem_range.mpr (lt_size e'),by simp[q]⟩;have z:(hidT h H).get? b=none:=PySem.W.hideAll_none (trk h H) hm;rw[z]at e;cases e
structure Mod (K:Frag) (mg:Str->Option Value) (base:Heap):Prop where
 kin:K.In base
 glob:base.Ns mainGlobals mg
 blt:∃mb,base.Ns builtinsNs mb/\∀x:Str,x≠"__name__"->mb x=bootBuiltins x
 nolimit:base.NoLimit
structure Cx where
 prog:Program
 w:World
 K:Frag
 mg:Str->Option Value
 base:Heap
 A:Around
 N:List Str
 s_0:Shared
 H_0:Hp
 env:Env
 outer:List Env
 stack:List Env
 ex:List Addr
 fn:Str->Bool
 calm:Bool
 pn:List (Addr×Obj)
 xe:Value->Shared->Prop
def frs(l:List Env):List Addr:=l.filterMap (·.frame)
abbrev Cx.fs(X:Cx):List Addr:=frs X.outer
def Vis(sc:Scope)(x:Str):Prop:=sc.names.lookup x=some .local\/sc.names.lookup x=some .cell\/sc.names.lookup x=some .free
def Loc(sc:Scope)(x:Str):Prop:=sc.names.lookup x=some .local\/sc.names.lookup x=some .cell
def Look(env:Env)(h:Heap)(m:Str->Option Value)(x:Str)(u:Value):Prop:=
 (env.kindOf x=some .local/\m x=some u)\/((env.kindOf x=some .cell\/env.kindOf x=some .free)/\∃c,env.cells.lookup x=some c/\h.IsCell c (some u))
structure Cx.Ok (X:Cx):Prop where
 mod:Mod X.K X.mg X.base
 kind:X.env.scope.kind= .function
 glob:X.env.globals=mainGlobals
 blt:X.env.builtins=builtinsNs
 above:X.s_0.heap.objs.size<=X.env.locals
 inj:∀x y c,X.env.cells.lookup x=some c->X.env.cells.lookup y=some c->x=y
 has:∀x,(X.env.kindOf x=some .cell\/X.env.kindOf x=some .free)->∃c,X.env.cells.lookup x=some c
 cab:∀x c,X.fn x=true->X.env.cells.lookup x=some c->X.s_0.heap.objs.size<=c
 hd:X.calm=true->X.A.handled=none
 frames:X.A.frames=some X.stack
 stk:X.stack=X.outer\/(X.stack=X.env::X.outer/\X.env.frame=some X.env.locals)
 exf:∀b∈X.ex,b≠X.env.locals/\∀x c,X.env.cells.lookup x=some c->c≠b
 bs:∀b o,X.base.get? b=some o->X.s_0.heap.get? b=some o/\X.H_0 b=none
 bsz:X.base.objs.size<=X.s_0.heap.objs.size
 noex:∀b o,X.base.get? b=some o->b∉X.ex
 exfs:∀b∈X.ex,b∉X.fs
 funs:X.s_0.heap.FunFrames X.base X.outer
 frf:∀b∈X.fs,X.H_0 b=none
structure Inv (X:Cx) (pins:List (Addr×Obj)) (Z:List (Option V)) (H:Hp) (s:Shared):Prop where
 ok:X.Ok
 os:s.os=X.s_0.os
 bare:AllBare s.gens
 base:Un X.fs X.ex X.H_0 H X.s_0.heap s.heap
 loc:∃m,s.heap.Ns X.env.locals m/\∀(i:Nat)(x:Str)(v:V),X.N[i]? =some x->Z[i]? =some (some v)->Vis X.env.scope x->∃u,RelV v u/\Look X.env s.heap m x u
 cell:∀x c,X.env.cells.lookup x=some c->∃v,s.heap.IsCell c v
 free:H X.env.locals=none
 freeC:∀x c,X.env.cells.lookup x=some c->H c=none
 pin:∀p∈X.pn++pins,s.heap.get? p.1=some p.2/\H p.1=none/\p.1≠X.env.locals/\p.1∉X.fs/\∀v,p.2.data≠ .cell v
 hok:HOk X.prog X.w H s.heap
 len:Z.length=X.N.length
section
variable{X:Cx}{pins:List (Addr×Obj)}{Z:List (Option V)}{H H':Hp}{s:Shared}{h':Heap}
theorem Cx.Ok.nofr(ok:X.Ok){b:Addr}{o:Obj}(e:X.base.get? b=some o):b∉X.fs:=fun hb=>by
 have:=(ok.funs.mem hb).1;rw[e]at this;cases this
theorem Inv.bs(I:Inv X pins Z H s):∀b o,X.base.get? b=some o->s.heap.get? b=some o/\H b=none:=fun b o e=>
 ⟨I.base.keep b o (I.ok.bs b o e).1 (I.ok.bs b o e).2 (I.ok.nofr e) (I.ok.noex b o e),I.base.free b o (I.ok.bs b o e).1 (I.ok.bs b o e).2 (I.ok.noex b o e)⟩
theorem Inv.bk(I:Inv X pins Z H s):∀b o,X.base.get? b=some o->s.heap.get? b=some o:=fun b o e=>(I.bs b o e).1
theorem Inv.mod(I:Inv X pins Z H s):Mod X.K X.mg X.base:=I.ok.mod
theorem Inv.kIn(I:Inv X pins Z H s):X.K.In s.heap:=I.ok.mod.kin.keeps I.bk
theorem Inv.nolimit(I:Inv X pins Z H s):s.heap.NoLimit:=I.ok.mod.nolimit.keeps I.bk
theorem Inv.lt(I:Inv X pins Z H s):X.env.locals<s.heap.objs.size:=let ⟨_,hn,_⟩:=I.loc;hn.lt
theorem Inv.sz(I:Inv X pins Z H s):X.s_0.heap.objs.size<=s.heap.objs.size:=le_trans I.ok.above (Nat.le_of_lt I.lt)
theorem Inv.nofs(I:Inv X pins Z H s){a:Addr}(h:s.heap.objs.size<=a):a∉X.fs:=fun hb=>by
 obtain⟨_,o,ho,_⟩:=I.ok.funs.mem hb;exact absurd (lt_of_lt_of_le (lt_size ho) (le_trans I.sz h)) (lt_irrefl _)
theorem Inv.cne(I:Inv X pins Z H s):∀x c,X.env.cells.lookup x=some c->c≠X.env.locals:=fun x c e z=>by
 obtain⟨v,o,ho,hd⟩:=I.cell x c e;obtain⟨m,⟨o',es,ep,ho',hd',_⟩,_⟩:=I.loc;rw[z,ho']at ho;cases ho;rw[hd']at hd;cases hd
theorem Inv.funs(I:Inv X pins Z H s):s.heap.FunFrames X.base X.outer:=by
 have all:∀(l:List Env),(∀b∈frs l,b∈X.fs)->X.s_0.heap.FunFrames X.base l->s.heap.FunFrames X.base l:=by
  intro l
  induction l with
  |nil=>intro _ _;trivial
  |cons env r ih=>
   intro hs hl;obtain⟨hk,⟨L,o,hf,hn,ho,hd⟩,hr⟩:=hl;have hL:L∈X.fs:=hs L (by unfold frs;rw[List.filterMap_cons,hf];exact mem_cons_self);obtain⟨sl,e⟩:=I.base.slot L o ho (I.ok.frf L hL) hL fun z=>I.ok.exfs L z hL;exact⟨hk,⟨L,_,hf,hn,e,hd⟩,ih (fun b hb=>hs b (by unfold frs;rw[List.filterMap_cons,hf];exact mem_cons_of_mem _ hb)) hr⟩
 exact all X.outer (fun _ hb=>hb) I.ok.funs
theorem Inv.stack(I:Inv X pins Z H s):s.heap.FunFrames X.base X.stack:=by
 rcases I.ok.stk with e|⟨e,hf⟩
 .rw[e];exact I.funs
 .rw[e];obtain⟨m,hn,_⟩:=I.loc;refine .cons (by rw[I.ok.kind];decide) hf hn ?_ I.funs;exact Heap.get?_none_of_le (le_trans I.ok.bsz I.ok.above)
theorem Inv.stkSub(I:Inv X pins Z H s):∀b∈frs X.stack,b∈X.env.locals::X.fs:=fun b hb=>by
 rcases I.ok.stk with e|⟨e,hf⟩
 .rw[e]at hb;exact mem_cons_of_mem _ hb
 .rw[e]at hb;unfold frs at hb;rw[List.filterMap_cons,hf]at hb;exact hb
theorem Inv.stkFree(I:Inv X pins Z H s):∀b∈frs X.stack,H b=none:=fun b hb=>by
 rcases mem_cons.mp (I.stkSub b hb)with e|hb
 .rw[e];exact I.free
 .obtain⟨_,o,ho,_⟩:=I.ok.funs.mem hb;exact I.base.free b o ho (I.ok.frf b hb) fun z=>I.ok.exfs b z hb
theorem Inv.step{g':Array GenState}{t':Nat}{d':Drawn}{ch:List Addr}(I:Inv X pins Z H s)
  (hch:∀b∈ch,(b∈X.ex\/X.s_0.heap.objs.size<=b)/\b≠X.env.locals/\(∀x c,X.env.cells.lookup x=some c->c≠b)/\∀p∈X.pn++pins,p.1≠b)
  (keep:∀b o,b≠X.env.locals->b∉X.fs->b∉ch->s.heap.get? b=some o->H b=none->h'.get? b=some o)
  (slot:∀b o,b≠X.env.locals->b∈X.fs->b∉ch->s.heap.get? b=some o->H b=none->∃sl,h'.get? b=some {o with slots:=sl}) (free:∀b o,b∉ch->s.heap.get? b=some o->H b=none->H' b=none)
  (there:∀b o,b∉ch->s.heap.get? b=some o->∃o',h'.get? b=some o')
  (tups:∀b xs,H b=some (.tup xs)->H' b=some (.tup xs)) (frzs:∀b o u,H b=some (.frz o u)->H' b=some (.frz o u)) (tbls:∀b ps,H b=some (.tbl ps)->∃more,H' b=some (.tbl (ps++more)))
  (ns:∀m,s.heap.Ns X.env.locals m->h'.Ns X.env.locals m) (hok:HOk X.prog X.w H' h') (hg:AllBare g'):
  Inv X pins Z H' {s with heap:=h',gens:=g',drawn:=d',toks:=t'}:=by
 have neL:∀b o,X.s_0.heap.get? b=some o->b≠X.env.locals:=fun b o e=>ne_of_lt (lt_of_lt_of_le (lt_size e) I.ok.above)
 have neC:∀b o,X.s_0.heap.get? b=some o->b∉X.ex->b∉ch:=fun b o e hx hb=>by
  rcases(hch b hb).1 with z|z
  .exact hx z
  .exact absurd (lt_of_lt_of_le (lt_size e) z) (lt_irrefl _)
 have cellK:∀x c,X.env.cells.lookup x=some c->∀v,s.heap.IsCell c v->h'.IsCell c v:=fun x c e v ⟨o,ho,hd⟩=>by
  have nch:c∉ch:=fun z=>(hch c z).2.2.1 x c e rfl;by_cases hc:c∈X.fs
  .obtain⟨sl,q⟩:=slot c o (I.cne x c e) hc nch ho (I.freeC x c e);exact⟨_,q,hd⟩
  .exact⟨o,keep c o (I.cne x c e) hc nch ho (I.freeC x c e),hd⟩
 refine⟨I.ok,I.os,hg,⟨fun b o e n hb hx=>?_,fun b o e n hb hx=>?_,fun b o e n hx=>?_,fun b o e hx=>?_,fun b xs e=>tups b xs (I.base.tups b xs e),fun b o xs e=>frzs b o xs (I.base.frzs b o xs e),fun b ps e=>?_⟩,?_,fun x c e=>?_,?_,fun x c e=>?_,fun p hp=>?_,hok,I.len⟩
 .exact keep b o (neL b o e) hb (neC b o e hx) (I.base.keep b o e n hb hx) (I.base.free b o e n hx)
 .obtain⟨sl,e1⟩:=I.base.slot b o e n hb hx;obtain⟨sl',e2⟩:=slot b _ (neL b o e) hb (neC b o e hx) e1 (I.base.free b o e n hx);exact⟨sl',e2⟩
 .obtain⟨o',e1⟩:=I.base.there b o e hx;exact free b o' (neC b o e hx) e1 (I.base.free b o e n hx)
 .obtain⟨o',e1⟩:=I.base.there b o e hx;exact there b o' (neC b o e hx) e1
 .obtain⟨m1,e1⟩:=I.base.tbls b ps e;obtain⟨m2,e2⟩:=tbls b _ e1;exact⟨m1++m2,by rw[e2,Array.append_assoc]⟩
 .obtain⟨m,hn,hl⟩:=I.loc;refine⟨m,ns m hn,fun i x v e1 e2 e3=>?_⟩;obtain⟨u,r,l⟩:=hl i x v e1 e2 e3;refine⟨u,r,?_⟩;rcases l with l|⟨k,c,e,z⟩
  .exact .inl l
  .exact .inr ⟨k,c,e,cellK x c e _ z⟩
 .obtain⟨v,z⟩:=I.cell x c e;exact⟨v,cellK x c e v z⟩
 .obtain⟨m,⟨o,_,_,ho,_⟩,_⟩:=I.loc;exact free _ o (fun z=>(hch _ z).2.1 rfl) ho I.free
 .obtain⟨v,o,ho,hd⟩:=I.cell x c e;exact free c o (fun z=>(hch c z).2.2.1 x c e rfl) ho (I.freeC x c e)
 .obtain⟨e,n,ne,nf,d⟩:=I.pin p hp;have nch:p.1∉ch:=fun z=>(hch p.1 z).2.2.2 p hp rfl;exact⟨keep p.1 p.2 ne nf nch e n,free p.1 p.2 nch e n,ne,nf,d⟩
theorem Inv.un{t':Nat}(I:Inv X pins Z H s)(u:Un X.fs [] H H' s.heap h')(hok:HOk X.prog X.w H' h'):Inv X pins Z H' {s with heap:=h',toks:=t'}:=by
 obtain⟨m,⟨o,es,ep,ho,r⟩,_⟩:=id I.loc;obtain⟨sl,hL⟩:=u.any ho I.free (by simp)
 exact I.step (g':=s.gens) (d':=s.drawn) (ch:=[]) (fun _ z=>nomatch z) (fun b o _ hb _ e n=>u.keep b o e n hb (by simp)) (fun b o _ hb _ e n=>u.slot b o e n hb (by simp)) (fun b o _ e n=>u.free b o e n (by simp)) (fun b o _ e=>u.there b o e (by simp)) u.tups u.frzs u.tbls (fun m' hm=>by
  obtain⟨o',es',ep',ho',r'⟩:=hm;rw[ho]at ho';cases ho';exact⟨_,es',ep',hL,r'⟩) hok I.bare
theorem Inv.call{g':Array GenState}{t':Nat}{d':Drawn}{ch:List Addr}(I:Inv X pins Z H s)(u:Un (frs X.stack) ch H H' s.heap h')(hok:HOk X.prog X.w H' h')(hg:AllBare g')
  (hch:∀b∈ch,(b∈X.ex\/X.s_0.heap.objs.size<=b)/\b≠X.env.locals/\(∀x c,X.env.cells.lookup x=some c->c≠b)/\∀p∈X.pn++pins,p.1≠b):
  Inv X pins Z H' {s with heap:=h',gens:=g',drawn:=d',toks:=t'}:=by
 obtain⟨m,⟨o,es,ep,ho,r⟩,_⟩:=id I.loc;obtain⟨sl,hL⟩:=u.any ho I.free fun z=>(hch _ z).2.1 rfl
 exact I.step (ch:=ch) hch (fun b o hL hb hc e n=>u.keep b o e n (fun z=>(mem_cons.mp (I.stkSub b z)).elim hL hb) hc) (fun b o _ _ hc e n=>u.any e n hc) (fun b o hc e n=>u.free b o e n hc) (fun b o hc e=>u.there b o e hc) u.tups u.frzs u.tbls (fun m' hm=>by
  obtain⟨o',es',ep',ho',r'⟩:=hm;rw[ho]at ho';cases ho';exact⟨_,es',ep',hL,r'⟩) hok hg
theorem Inv.turned{t':Nat}{it:Addr}(I:Inv X pins Z H s)(k:∀b o,b≠it->s.heap.get? b=some o->h'.get? b=some o)(hn:H it=none)(hL:it≠X.env.locals)
  (h1:it∈X.ex\/X.s_0.heap.objs.size<=it) (h2:∀x c,X.env.cells.lookup x=some c->c≠it) (h3:∀p∈X.pn++pins,p.1≠it):Inv X pins Z H {s with heap:=h',toks:=t'}:=by
 have nit:∀b u,H b=some u->b≠it:=fun b u e z=>by rw[z,hn]at e;cases e
 refine I.step (g':=s.gens) (d':=s.drawn) (ch:=[it]) (fun b hb=>?_) (fun b o _ _ hc e _=>k b o (fun z=>hc (by simp[z])) e) (fun b o _ _ hc e _=>⟨o.slots,k b o (fun z=>hc (by simp[z])) e⟩) (fun _ _ _ _ n=>n)
  (fun b o hc e=>⟨o,k b o (fun z=>hc (by simp[z])) e⟩) (fun _ _ e=>e) (fun _ _ _ e=>e) (fun b ps e=>⟨#[],by rw[e];simp⟩) (fun m hm=>?_) (fun b u e=>?_) I.bare
 .have e:b=it:=by simpa using hb
  subst e;exact⟨h1,hL,h2,h3⟩
 .obtain⟨o,es,ep,ho,r⟩:=hm;exact⟨o,es,ep,k _ o (Ne.symm hL) ho,r⟩
 .refine(I.hok b u e).stay (fun c v hc q=>k c v ?_ q) (fun _ q=>q) fun _ _ q=>q;rcases hc with z|z
  .rw[z];exact nit b u e
  .exact nit c _ z
theorem Inv.tok(I:Inv X pins Z H s)(t:Nat):Inv X pins Z H {s with toks:=t}:=I.un (h':=s.heap) (t':=t) Un.refl I.hok
theorem Inv.kept{t':Nat}(I:Inv X pins Z H s)(k:∀b u,s.heap.get? b=some u->h'.get? b=some u):Inv X pins Z H {s with heap:=h',toks:=t'}:=I.un (Un.kept k) (I.hok.kept k)
theorem Inv.laid{a:Addr}{o:HO}{t':Nat}(I:Inv X pins Z H s)(k:∀b u,s.heap.get? b=some u->h'.get? b=some u)(hp:s.heap.objs.size<=a)(new:ObjOk X.prog X.w (aj H a o) h' a o):
  Inv X pins Z (aj H a o) {s with heap:=h',toks:=t'}:=I.un (Un.laid k hp (I.hok.fresh hp)) (I.hok.laid k hp new)
theorem Inv.write{x e:Addr}{o:HO}{t':Nat}(I:Inv X pins Z H s)(mu:Mut (H x))(he:e=x\/H e=some (.own x))(k:∀b u,b≠e->s.heap.get? b=some u->h'.get? b=some u)(heo:∃u,h'.get? e=some u)
  (new:ObjOk X.prog X.w (aj H x o) h' x o):Inv X pins Z (aj H x o) {s with heap:=h',toks:=t'}:=I.un (Un.write mu he k heo) (I.hok.write mu he k heo new)
theorem Inv.weak{Z':List (Option V)}(I:Inv X pins Z H s)(hl:Z'.length=Z.length)(w:∀(i:Nat) v,Z'[i]? =some (some v)->Z[i]? =some (some v)):Inv X pins Z' H s:=
 ⟨I.ok,I.os,I.bare,I.base,let ⟨m,hn,hl'⟩:=I.loc;⟨m,hn,fun i x v e1 e2 e3=>hl' i x v e1 (w i v e2) e3⟩,I.cell,I.free,I.freeC,I.pin,I.hok,hl.trans I.len⟩
theorem Inv.pins_of{pins':List (Addr×Obj)}(I:Inv X pins Z H s)(h:∀p∈pins',s.heap.get? p.1=some p.2/\H p.1=none/\p.1≠X.env.locals/\p.1∉X.fs/\∀v,p.2.data≠ .cell v):Inv X pins' Z H s:=
 ⟨I.ok,I.os,I.bare,I.base,I.loc,I.cell,I.free,I.freeC,fun p hp=>(mem_append.mp hp).elim (fun z=>I.pin p (List.mem_append_left _ z)) (h p),I.hok,I.len⟩
theorem Ff{N:List Str}(hN:N.Nodup){i j:Nat}{x:Str}(a:N[i]? =some x)(b:N[j]? =some x):i=j:=by
 obtain⟨h1,e1⟩:=List.getElem?_eq_some_iff.mp a;obtain⟨h2,e2⟩:=List.getElem?_eq_some_iff.mp b;exact(List.getElem_inj hN).mp (e1.trans e2.symm)
theorem F4{M:Model}{A:Around}{E:Value->Shared->Prop}{i:Nat}{x:Str}{v:V}{u:Value}{Q:Unit->Shared->Prop}(I:Inv X pins Z H s)(hN:X.N.Nodup)(hi:X.N[i]? =some x)(hx:Loc X.env.scope x)(r:RelV v u)
  (h:∀s',Inv X pins (Z.set i (some v)) H s'->(∃a,Heap.SameBut a s.heap s'.heap/\(a=X.env.locals\/X.env.cells.lookup x=some a))->Q () s') (hf:X.fn x=true\/X.env.scope.names.lookup x=some .local:=by first|exact .inl rfl|exact .inr rfl|assumption):wpAny M A (storeName X.env x u) Q E s:=by
 obtain⟨m,hn,hl⟩:=id I.loc;have hcls:(X.env.scope.kind== .class || (X.env.scope.kind== .module&&X.env.locals != X.env.globals))=false:=by rw[I.ok.kind];rfl
 have hiZ:i<Z.length:=by rw[I.len];exact(List.getElem?_eq_some_iff.mp hi).1
 have cne:=I.cne
 have tracked:∀{a:Addr}{h':Heap},(∃o,s.heap.get? a=some o/\H a=none)->Heap.SameBut a s.heap h'->HOk X.prog X.w H h':=fun{a h'} ha hs b ob e=>by
  obtain⟨_,_,hfree⟩:=ha;refine(I.hok b ob e).stay (fun c w' hc q=>(hs.2 c ?_).trans q) (fun _ q=>q) fun _ _ q=>q;rintro rfl;rcases hc with rfl|hc
  .rw[hfree]at e;cases e
  .rw[hfree]at hc;cases hc
 rcases hx with hk|hk
 .refine wpAny_storeName_local hk hn (fun h' hn' hs=>?_) hcls;obtain⟨oL,_,_,hoL,_⟩:=id hn;refine h _ ⟨I.ok,I.os,I.bare,⟨fun b o e n hb hx=>?_,fun b o e n hb hx=>?_,I.base.free,fun b o e hx=>?_,I.base.tups,I.base.frzs,I.base.tbls⟩,⟨_,hn',fun j y v' e1 e2 e3=>?_⟩,fun y c e=>?_,I.free,I.freeC,fun p hp=>?_,tracked ⟨oL,hoL,I.free⟩ hs,by simpa using I.len⟩ ⟨_,hs,.inl rfl⟩
  .exact(hs.2 b (ne_of_lt (lt_of_lt_of_le (lt_size e) I.ok.above))).trans (I.base.keep b o e n hb hx)
  .obtain⟨sl,e1⟩:=I.base.slot b o e n hb hx;exact⟨sl,(hs.2 b (ne_of_lt (lt_of_lt_of_le (lt_size e) I.ok.above))).trans e1⟩
  .obtain⟨o',e1⟩:=I.base.there b o e hx;exact⟨o',(hs.2 b (ne_of_lt (lt_of_lt_of_le (lt_size e) I.ok.above))).trans e1⟩
  .by_cases hj:j=i
   .subst hj;rw[hi]at e1;cases e1;rw[List.getElem?_set_self hiZ]at e2;cases e2;exact⟨u,r,.inl ⟨hk,by simp⟩⟩
   .rw[List.getElem?_set_ne (Ne.symm hj)]at e2;obtain⟨u',r',q⟩:=hl j y v' e1 e2 e3;refine⟨u',r',?_⟩;rcases q with ⟨k,e⟩|⟨k,c,e,z⟩
    .refine .inl ⟨k,?_⟩;have:y≠x:=fun e=>hj (Ff hN e1 (e▸hi));simp[this,e]
    .exact .inr ⟨k,c,e,z.sameBut hs (cne y c e)⟩
  .obtain⟨w',z⟩:=I.cell y c e;exact⟨w',z.sameBut hs (cne y c e)⟩
  .obtain⟨e,n,ne,nf,d⟩:=I.pin p hp;exact⟨(hs.2 p.1 ne).trans e,n,ne,nf,d⟩
 .have hfn:X.fn x=true:=by
   rcases hf with z|z
   .exact z
   .rw[z]at hk;cases hk
  obtain⟨c,hc⟩:=I.ok.has x (.inl hk);obtain⟨w',z⟩:=I.cell x c hc;refine wpAny_storeName_cell I.ok.kind hk hc z (fun h' hc' hs=>?_);obtain⟨oc,hoc,hocd⟩:=id z;refine h {s with heap:=h'} ⟨I.ok,I.os,I.bare,⟨fun b o e n hb hx=>?_,fun b o e n hb hx=>?_,I.base.free,fun b o e hx=>?_,I.base.tups,I.base.frzs,I.base.tbls⟩,⟨m,hn.sameBut hs (Ne.symm (cne x c hc)),fun j y v' e1 e2 e3=>?_⟩,fun y c' e=>?_,I.free,I.freeC,fun p hp=>?_,tracked ⟨oc,hoc,I.freeC x c hc⟩ hs,by simpa using I.len⟩ ⟨c,hs,.inr hc⟩
  .exact(hs.2 b (ne_of_lt (lt_of_lt_of_le (lt_size e) (I.ok.cab x c hfn hc)))).trans (I.base.keep b o e n hb hx)
  .obtain⟨sl,e1⟩:=I.base.slot b o e n hb hx;exact⟨sl,(hs.2 b (ne_of_lt (lt_of_lt_of_le (lt_size e) (I.ok.cab x c hfn hc)))).trans e1⟩
  .obtain⟨o',e1⟩:=I.base.there b o e hx;exact⟨o',(hs.2 b (ne_of_lt (lt_of_lt_of_le (lt_size e) (I.ok.cab x c hfn hc)))).trans e1⟩
  .by_cases hj:j=i
   .subst hj;rw[hi]at e1;cases e1;rw[List.getElem?_set_self hiZ]at e2;cases e2;exact⟨u,r,.inr ⟨.inl hk,c,hc,hc'⟩⟩
   .rw[List.getElem?_set_ne (Ne.symm hj)]at e2;obtain⟨u',r',q⟩:=hl j y v' e1 e2 e3;refine⟨u',r',?_⟩;rcases q with q|⟨k,c',e,z'⟩
    .exact .inl q
    .refine .inr ⟨k,c',e,z'.sameBut hs ?_⟩;rintro rfl;exact hj (Ff hN e1 (I.ok.inj _ _ _ e hc▸hi))
  .by_cases hcc:c'=c
   .subst hcc;exact⟨_,hc'⟩
   .obtain⟨w2,z2⟩:=I.cell y c' e;exact⟨w2,z2.sameBut hs hcc⟩
  .obtain⟨e,n,ne,nf,d⟩:=I.pin p hp;refine⟨(hs.2 p.1 ?_).trans e,n,ne,nf,d⟩;intro q;rw[q,hoc]at e;have q':oc=p.2:=Option.some.inj e;exact d w' (by rw[<-q'];exact hocd)
theorem Fu{M:Model}{A:Around}{E:Value->Shared->Prop}{i:Nat}{x:Str}{v:V}{u:Value}{Q:Unit->Shared->Prop}(I:Inv X pins Z H s)(hN:X.N.Nodup)(hi:X.N[i]? =some x)(hx:Loc X.env.scope x)(r:RelV v u)
  (h:∀s',Inv X pins (Z.set i (some v)) H s'->Q () s') (hf:X.fn x=true\/X.env.scope.names.lookup x=some .local:=by first|exact .inl rfl|exact .inr rfl|assumption):wpAny M A (storeName X.env x u) Q E s:=
 F4 I hN hi hx r (fun s' I' _=>h s' I') hf
theorem Inv.call'{s':Shared}{ch:List Addr}(I:Inv X pins Z H s)(ho:s'.os=s.os)(u:Un (frs X.stack) ch H H' s.heap s'.heap)(hok:HOk X.prog X.w H' s'.heap)(hg:AllBare s'.gens)
  (hch:∀b∈ch,(b∈X.ex\/X.s_0.heap.objs.size<=b)/\b≠X.env.locals/\(∀x c,X.env.cells.lookup x=some c->c≠b)/\∀p∈X.pn++pins,p.1≠b):Inv X pins Z H' s':=by
 obtain⟨h',g',d',t',o'⟩:=s';have e:o'=s.os:=ho;subst e;exact I.call (g':=g') (t':=t') (d':=d') u hok hg hch
end
abbrev XK:=Value->Option Addr->Hp->Prop
abbrev St:=List (Option V)
abbrev VK:=V->Hp->Prop
abbrev TE:=St->Hp->VK->Prop
abbrev TT:=St->Hp->(Bool->Hp->Prop)->Prop
abbrev TA:=St->Hp->(List V->Hp->Prop)->Prop
structure Ends where
 nx:St->Hp->Prop
 rt:VK
 bk:St->Hp->Prop:=fun _ _=>False
 ct:St->Hp->Prop:=fun _ _=>False
abbrev TS:=Ends->St->Hp->Prop
def EP(X:Cx)(pins:List (Addr×Obj))(Z:St)(Q:VK)(u:Value)(s':Shared):Prop:=∃v H',Inv X pins Z H' s'/\RelV v u/\Q v H'
def TP(X:Cx)(pins:List (Addr×Obj))(Z:St)(Q:Bool->Hp->Prop)(b:Bool)(s':Shared):Prop:=∃H',Inv X pins Z H' s'/\Q b H'
def AP(X:Cx)(pins:List (Addr×Obj))(Z:St)(Q:List V->Hp->Prop)(us:List Value)(s':Shared):Prop:=∃vs H',Inv X pins Z H' s'/\Vals vs us/\Q vs H'
def SP(X:Cx)(pins:List (Addr×Obj))(D:Ends)(f:Flow)(s':Shared):Prop:=
 match f with
 | .next=>∃Z' H',Inv X pins Z' H' s'/\D.nx Z' H'
 | .brk=>∃Z' H',Inv X pins Z' H' s'/\D.bk Z' H'
 | .cont=>∃Z' H',Inv X pins Z' H' s'/\D.ct Z' H'
 | .ret u=>∃v Z' H',Inv X pins Z' H' s'/\RelV v u/\D.rt v H'
def PE(X:Cx)(e:Expr)(t:TE):Prop:=
 ∀(pins:List (Addr×Obj))(s:Shared)(Z:St)(H:Hp)(Q:VK),Inv X pins Z H s->t Z H Q->wpAny (model X.prog X.w) X.A (eval e X.env) (EP X pins Z Q) X.xe s
def PT(X:Cx)(e:Expr)(t:TT):Prop:=
 ∀(pins:List (Addr×Obj))(s:Shared)(Z:St)(H:Hp)(Q:Bool->Hp->Prop),Inv X pins Z H s->t Z H Q->wpAny (model X.prog X.w) X.A (isTrue e X.env (eval e X.env)) (TP X pins Z Q) X.xe s
def PW(X:Cx)(e:Expr)(t:TT):Prop:=
 ∀(whole:Sem Value)(pins:List (Addr×Obj))(s:Shared)(Z:St)(H:Hp)(Q:Bool->Hp->Prop),Inv X pins Z H s->t Z H Q->wpAny (model X.prog X.w) X.A (isTrue e X.env whole) (TP X pins Z Q) X.xe s
theorem PW.pt{X:Cx}{e:Expr}{t:TT}(h:PW X e t):PT X e t:=h _
def PA(X:Cx)(es:List Expr)(t:TA):Prop:=
 ∀(pos:Pos)(pins:List (Addr×Obj))(s:Shared)(Z:St)(H:Hp)(Q:List V->Hp->Prop),Inv X pins Z H s->t Z H Q->wpAny (model X.prog X.w) X.A (spliced (backTo pos (starEach es X.env))) (AP X pins Z Q) X.xe s
def PS(X:Cx)(st:Stmt)(t:TS):Prop:=
 ∀(pins:List (Addr×Obj))(s:Shared)(Z:St)(H:Hp)(D:Ends),Inv X pins Z H s->t D Z H->wpAny (model X.prog X.w) X.A (exec st X.env) (SP X pins D) X.xe s
def PSs(X:Cx)(st:List Stmt)(t:TS):Prop:=
 ∀(pins:List (Addr×Obj))(s:Shared)(Z:St)(H:Hp)(D:Ends),Inv X pins Z H s->t D Z H->wpAny (model X.prog X.w) X.A (execs st X.env) (SP X pins D) X.xe s
theorem thn{α:Type}{t:Sem α}{Q Q':α->Shared->Prop}{M:Model}{A:Around}{E:Value->Shared->Prop}{s:Shared}(h:wpAny M A t Q E s)(hQ:∀a s,Q a s->Q' a s):wpAny M A t Q' E s:=wpAny_mono h hQ fun _ _ x=>x
section
variable{X:Cx}
def tVar(i:Nat):TE:=fun Z H Q=>∃v,Z[i]? =some (some v)/\Q v H
def tC(v:V):TE:=fun _ H Q=>Q v H
theorem Ny{i:Nat}{x:Str}{pos:Pos}(hN:X.N[i]? =some x)(hv:Vis X.env.scope x)(hd:(x==("__debug__":Str))=false:=by decide)(hcd:(x==("__classdict__":Str))=false:=by decide):PE X (.Name x pos) (tVar i):=by
 intro pins s Z H Q I h;obtain⟨v,e,h⟩:=h;obtain⟨m,hn,hl⟩:=I.loc;obtain⟨u,r,l⟩:=hl i x v hN e hv;have fin:EP X pins Z Q u s:=⟨v,H,I,r,h⟩;rcases l with ⟨hk,hm⟩|⟨hk,c,hc,hcell⟩
 .exact wpAny_Name (wpAny_loadName_local I.ok.kind hk hn hm fin) hd
 .rcases hk with hk|hk
  .exact wpAny_Name (wpAny_loadName_cell I.ok.kind hk hc hcell fin) hd
  .exact wpAny_Name (wpAny_loadName_free I.ok.kind hk hc hcell fin hcd) hd
theorem Ag{i j pos}:PE X (.Constant (.int i) j pos) (tC (.int i)):=fun _ _ _ H _ I h=>wpAny_Constant_int ⟨.int i,H,I.tok _,⟨_,rfl⟩,h⟩
theorem CH{b j pos}:PE X (.Constant (.bool b) j pos) (tC (.bl b)):=fun _ _ _ H _ I h=>Constant_bool ⟨.bl b,H,I,rfl,h⟩
theorem Bc{j pos}:PE X (.Constant .none j pos) (tC .non):=fun _ _ _ H _ I h=>Constant_none ⟨.non,H,I,rfl,h⟩
def Gl(X:Cx)(x:Str):Prop:=X.env.kindOf x=some .globalImplicit
theorem DG{E:Value->Shared->Prop}{pins:List (Addr×Obj)}{s:Shared}{Z:St}{H:Hp}{x:Str}{u:Value}{pos:Pos}{Q:Value->Shared->Prop}(I:Inv X pins Z H s)(hg:Gl X x)(hm:X.mg x=some u)(h:Q u s)
  (hd:(x==("__debug__":Str))=false:=by decide):wpAny (model X.prog X.w) X.A (eval (.Name x pos) X.env) Q E s:=
 Calls.Name_function_global I.ok.kind hg (Calls.loadGlobal_global (by rw[I.ok.glob];exact I.mod.glob.keeps I.bk) hm h) hd
theorem CJ{E:Value->Shared->Prop}{pins:List (Addr×Obj)}{s:Shared}{Z:St}{H:Hp}{x:Str}{u:Value}{pos:Pos}{Q:Value->Shared->Prop}(I:Inv X pins Z H s)(hg:Gl X x)(hm:X.mg x=none)(hv:bootBuiltins x=some u)(h:Q u s)
  (hn:x≠"__name__":=by decide) (hd:(x==("__debug__":Str))=false:=by decide):wpAny (model X.prog X.w) X.A (eval (.Name x pos) X.env) Q E s:=by
 obtain⟨mb,h1,h2⟩:=I.mod.blt;exact Calls.Name_function_global I.ok.kind hg (Calls.loadGlobal_builtin (by rw[I.ok.glob];exact I.mod.glob.keeps I.bk) hm (by rw[I.ok.blt];exact h1.keeps I.bk) ((h2 x hn).trans hv) h) hd
theorem Js{x:Str}{v:V}{u:Value}{pos:Pos}(hg:Gl X x)(hm:X.mg x=some u)(r:RelV v u)(hd:(x==("__debug__":Str))=false:=by decide):PE X (.Name x pos) (tC v):=
 fun _ _ _ H _ I h=>DG I hg hm ⟨v,H,I,r,h⟩ hd
variable{a b:Expr}{ta tb:TE}{pos:Pos}
def PC(X:Cx)(op:CmpOp)(a b:Expr)(t:TE):Prop:=
 ∀(pins:List (Addr×Obj))(s:Shared)(Z:St)(H:Hp)(Q:VK),Inv X pins Z H s->t Z H Q->
  wpAny (model X.prog X.w) X.A (eval a X.env) (fun v s₁=>wpAny (model X.prog X.w) X.A (eval b X.env) (fun u s₂=>wpAny (model X.prog X.w) X.A (compareOp op v u) (EP X pins Z Q) X.xe s₂) X.xe s₁) X.xe s
theorem nobehind(b:Expr){op:CmpOp}(h:op≠ .In)(h2:op≠ .NotIn):behindInMarks op b=false:=by
 have e1:(op==CmpOp.In)=false:=by cases op<;>first|rfl|exact absurd rfl h
 have e2:(op==CmpOp.NotIn)=false:=by cases op<;>first|rfl|exact absurd rfl h2
 cases b<;>simp[behindInMarks,e1,e2]
def tIsN(ta:TE):TE:=fun Z H Q=>ta Z H fun x H1=>Q (.bl (decide (x= .non))) H1
def tNotN(ta:TE):TE:=fun Z H Q=>ta Z H fun x H1=>Q (.bl (!decide (x= .non))) H1
theorem RelV.none_iff{x:V}{v:Value}(r:RelV x v):(v==Value.none)=decide (x= .non):=by
 cases x with
 |non=>cases r;rfl
 |bl _=>cases r;rfl
 |int _=>obtain⟨t,rfl⟩:=r;rfl
 |str _=>obtain⟨t,rfl⟩:=r;rfl
 |byt _=>obtain⟨t,rfl⟩:=r;rfl
 |flt _=>obtain⟨t,rfl⟩:=r;rfl
 |ref _=>cases r;rfl
 |ty _=>cases r;rfl
theorem E7{j pos'}(ha:PE X a ta):PC X .Is a (.Constant .none j pos') (tIsN ta):=by
 intro pins s Z H Q I h;refine thn (ha pins s Z H _ I h) fun v s1 ⟨x,H1,I1,r1,q1⟩=>?_;exact Constant_none (is_none_gen ⟨.bl _,H1,I1,by rw[r1.none_iff];rfl,q1⟩)
theorem JB{j pos'}(ha:PE X a ta):PC X .IsNot a (.Constant .none j pos') (tNotN ta):=by
 intro pins s Z H Q I h;refine thn (ha pins s Z H _ I h) fun v s1 ⟨x,H1,I1,r1,q1⟩=>?_;exact Constant_none (isnot_none_gen ⟨.bl _,H1,I1,by rw[r1.none_iff];rfl,q1⟩)
def tB(t:TE):TT:=fun Z H Q=>t Z H fun x H1=>∃c,x= .bl c/\Q c H1
theorem LI{op:CmpOp}{t:TE}(h:PC X op a b t)(h1:behindInMarks op b=false:=by first|exact nobehind _ (by decide) (by decide)|rfl):PE X (.Compare a [op] [b] pos) t:=fun pins s Z H Q I hw=>wpAny_Compare1 (h pins s Z H Q I hw) h1
theorem Cr{op:CmpOp}{t:TE}(h:PC X op a b t)(h1:behindInMarks op b=false:=by first|exact nobehind _ (by decide) (by decide)|rfl):PT X (.Compare a [op] [b] pos) (tB t):=by
 intro pins s Z H Q I hw;refine wpAny_isTrue_Compare1 (thn (h pins s Z H _ I hw) fun v s1 h1=>thn h1 fun u s2 h2=>thn h2 fun c s3 ⟨x,H1,I1,r1,q1⟩=>?_) h1;obtain⟨d,rfl,q⟩:=q1;cases r1;exact wpAny_truthy_bool ⟨H1,I1,q⟩
theorem AJ{e:Expr}{t:TE}(h:PE X e t)(he:∀whole,isTrue e X.env whole=(do let v<-whole;standAt e.pos;holding [v] (truthy v)):=by intro _;rfl):PT X e (tB t):=by
 intro pins s Z H Q I hw;refine isTrue_plain (thn (h pins s Z H _ I hw) fun v s1 ⟨x,H1,I1,r1,q1⟩=>?_) (he _);obtain⟨d,rfl,q⟩:=q1;cases r1;exact wpAny_truthy_bool ⟨H1,I1,q⟩
variable{tA tB':TT}{rest:List Expr}
def tAnd(t u:TT):TT:=fun Z H Q=>t Z H fun c H1=>if c=true then u Z H1 Q else Q false H1
def tOr(t u:TT):TT:=fun Z H Q=>t Z H fun c H1=>if c=true then Q true H1 else u Z H1 Q
def tNot(t:TT):TT:=fun Z H Q=>t Z H fun c H1=>Q (!c) H1
theorem Bx(ha:PT X a tA):PW X (.BoolOp .And [a] pos) tA:=by
 intro wh pins s Z H Q I h;refine isTrue_and (thn (ha pins s Z H Q I h) fun c s1 e=>?_);cases c with
 |true=>exact isTrue_and_nil e
 |false=>exact e
theorem Hc(ha:PT X a tA):PW X (.BoolOp .Or [a] pos) tA:=by
 intro wh pins s Z H Q I h;refine isTrue_or (thn (ha pins s Z H Q I h) fun c s1 e=>?_);cases c with
 |false=>exact isTrue_or_nil e
 |true=>exact e
theorem BP(ha:PT X a tA)(hb:PW X (.BoolOp .And (b::rest) pos) tB'):PW X (.BoolOp .And (a::b::rest) pos) (tAnd tA tB'):=by
 intro wh pins s Z H Q I h;refine isTrue_and (thn (ha pins s Z H _ I h) fun c s1 ⟨H1,I1,q1⟩=>?_);cases c with
 |true=>exact hb wh pins s1 Z H1 Q I1 q1
 |false=>exact⟨H1,I1,q1⟩
theorem JT(ha:PT X a tA)(hb:PW X (.BoolOp .Or (b::rest) pos) tB'):PW X (.BoolOp .Or (a::b::rest) pos) (tOr tA tB'):=by
 intro wh pins s Z H Q I h;refine isTrue_or (thn (ha pins s Z H _ I h) fun c s1 ⟨H1,I1,q1⟩=>?_);cases c with
 |true=>exact⟨H1,I1,q1⟩
 |false=>exact hb wh pins s1 Z H1 Q I1 q1
theorem BK(ha:PT X a tA):PT X (.UnaryOp .Not a pos) (tNot tA):=by
 intro pins s Z H Q I h;exact isTrue_not (ha pins s Z H (fun c H1=>Q (!c) H1) I h)
def tAndV(ta tb:TE):TE:=fun Z H Q=>ta Z H fun x H1=>∃c,x= .bl c/\if c=true then tb Z H1 Q else Q (.bl false) H1
def tOrV(ta tb:TE):TE:=fun Z H Q=>ta Z H fun x H1=>∃c,x= .bl c/\if c=true then Q (.bl true) H1 else tb Z H1 Q
def tNotV(ta:TE):TE:=fun Z H Q=>ta Z H fun x H1=>∃c,x= .bl c/\Q (.bl (!c)) H1
theorem BV{op}{t:TE}(h:PE X a t):PE X (.BoolOp op [a] pos) t:=fun pins s Z H Q I hw=>BoolOp_one (h pins s Z H Q I hw)
theorem B7(ha:PE X a ta)(hb:PE X (.BoolOp .And (b::rest) pos) tb):PE X (.BoolOp .And (a::b::rest) pos) (tAndV ta tb):=by
 intro pins s Z H Q I h;refine BoolOp_and (thn (ha pins s Z H _ I h) fun v s1 ⟨x,H1,I1,r1,q1⟩=>?_);obtain⟨c,rfl,q1⟩:=q1;cases r1;refine wpAny_truthy_bool ?_;cases c with
 |true=>exact hb pins s1 Z H1 Q I1 q1
 |false=>exact⟨.bl false,H1,I1,rfl,q1⟩
theorem KH(ha:PE X a ta)(hb:PE X (.BoolOp .Or (b::rest) pos) tb):PE X (.BoolOp .Or (a::b::rest) pos) (tOrV ta tb):=by
 intro pins s Z H Q I h;refine BoolOp_or (thn (ha pins s Z H _ I h) fun v s1 ⟨x,H1,I1,r1,q1⟩=>?_);obtain⟨c,rfl,q1⟩:=q1;cases r1;refine wpAny_truthy_bool ?_;cases c with
 |false=>exact hb pins s1 Z H1 Q I1 q1
 |true=>exact⟨.bl true,H1,I1,rfl,q1⟩
theorem KW(ha:PE X a ta):PE X (.UnaryOp .Not a pos) (tNotV ta):=by
 intro pins s Z H Q I h;refine UnaryOp_ (thn (ha pins s Z H _ I h) fun v s1 ⟨x,H1,I1,r1,q1⟩=>?_);obtain⟨c,rfl,q1⟩:=q1;cases r1;exact not_of (wpAny_truthy_bool ⟨.bl (!c),H1,I1,rfl,q1⟩)
def tIf(t:TT)(ta tb:TE):TE:=fun Z H Q=>t Z H fun c H1=>if c=true then ta Z H1 Q else tb Z H1 Q
theorem AT{c:Expr}(hc:PT X c tA)(ha:PE X a ta)(hb:PE X b tb):PE X (.IfExp c a b pos) (tIf tA ta tb):=by
 intro pins s Z H Q I h;refine wpAny_IfExp (thn (hc pins s Z H _ I h) fun d s1 ⟨H1,I1,q1⟩=>?_);cases d with
 |true=>exact ha pins s1 Z H1 Q I1 q1
 |false=>exact hb pins s1 Z H1 Q I1 q1
end
def SqL(K:Frag)(H:Hp)(a:Addr)(xs:List V):Prop:=
 Rd H a (.lst xs)\/
  ∃(o:Obj)(its:Array Value)(n:Nat),K.lookup a=some o/\o.cls= .type "list"/\o.dict=none/\o.data= .seq its n/\its.size<=sizeLine/\Vals xs its.toList
def SqT(K:Frag)(H:Hp)(a:Addr)(xs:List V):Prop:=
 Rd H a (.tup xs)\/
  ∃(o:Obj)(its:Array Value)(n:Nat),K.lookup a=some o/\o.cls= .type "tuple"/\o.data= .seq its n/\its.size<=sizeLine/\Vals xs its.toList
def absV:Value->Option V
 | .none=>some .non
 | .bool b=>some (.bl b)
 | .int i _=>some (.int i)
 | .str x _=>some (.str x)
 | .bytes b _=>some (.byt b)
 | .float b _=>some (.flt b)
 | .ref a=>some (.ref a)
 | .type n=>some (.ty n)
 |_=>none
theorem RelV.abs{x:V}{u:Value}(r:RelV x u):absV u=some x:=by
 cases x with
 |non=>cases r;rfl
 |bl _=>cases r;rfl
 |int _=>obtain⟨t,rfl⟩:=r;rfl
 |str _=>obtain⟨t,rfl⟩:=r;rfl
 |byt _=>obtain⟨t,rfl⟩:=r;rfl
 |flt _=>obtain⟨t,rfl⟩:=r;rfl
 |ref _=>cases r;rfl
 |ty _=>cases r;rfl
theorem RelV.inj{x y:V}{u:Value}(r:RelV x u)(q:RelV y u):x=y:=Option.some.inj (r.abs.symm.trans q.abs)
theorem Vals.inj:∀{xs ys:List V}{us:List Value},Vals xs us->Vals ys us->xs=ys
 |_,_,_,.nil,.nil=>rfl
 |_,_,_,.cons r t,.cons r' t'=>by rw[r.inj r',Vals.inj t t']
section
variable{X:Cx}{pins:List (Addr×Obj)}{Z:St}{H:Hp}{s:Shared}{a:Addr}{xs ys:List V}
theorem aa{K:Frag}(h:H a=some (.lst xs)):SqL K H a xs:=.inl (.inl h)
theorem ab{K:Frag}(h:H a=some (.tup xs)):SqT K H a xs:=.inl (.inl h)
theorem Inv.list(I:Inv X pins Z H s)(h:SqL X.K H a xs):∃its:List Value,Vals xs its/\PlainL s.heap a its.toArray/\xs.length<=sizeLine:=by
 rcases h with h|⟨o,its,n,hk,hc,hd,hs,hz,r⟩
 .obtain⟨z,its,n,r,e⟩:=h.ok I.hok;exact⟨its,r,⟨_,n,e,rfl,rfl,rfl⟩,z⟩
 .refine⟨its.toList,r,⟨o,n,I.kIn a o hk,hc,hd,by simpa using hs⟩,?_⟩;have e:=r.length;simp only[length_toList]at e;omega
theorem Inv.tuple(I:Inv X pins Z H s)(h:SqT X.K H a xs):∃its:List Value,Vals xs its/\IsTup s.heap a its.toArray/\xs.length<=sizeLine:=by
 rcases h with h|⟨o,its,n,hk,hc,hs,hz,r⟩
 .obtain⟨z,its,r,p⟩:=h.ok I.hok;exact⟨its,r,p,z⟩
 .refine⟨its.toList,r,⟨o,I.kIn a o hk,hc,n,by simpa using hs⟩,?_⟩;have e:=r.length;simp only[length_toList]at e;omega
theorem Inv.list_inj(I:Inv X pins Z H s)(h:SqL X.K H a xs)(h':SqL X.K H a ys):xs=ys:=by
 obtain⟨its,r,⟨o,n,e,_,_,d⟩,_⟩:=I.list h;obtain⟨its',r',⟨o',n',e',_,_,d'⟩,_⟩:=I.list h';rw[e]at e';cases e';rw[d]at d';injection d' with d1 _
 have:its=its':=by simpa using congrArg Array.toList d1
 subst this;exact r.inj r'
theorem Inv.tuple_inj(I:Inv X pins Z H s)(h:SqT X.K H a xs)(h':SqT X.K H a ys):xs=ys:=by
 obtain⟨its,r,⟨o,e,_,n,d⟩,_⟩:=I.tuple h;obtain⟨its',r',⟨o',e',_,n',d'⟩,_⟩:=I.tuple h';rw[e]at e';cases e';rw[d]at d';injection d' with d1 _
 have:its=its':=by simpa using congrArg Array.toList d1
 subst this;exact r.inj r'
end
abbrev Cx.wish(X:Cx)(E:Value->Shared->Prop):Cx:={X with xe:=E}
abbrev Cx.nox(X:Cx):Cx:=X.wish fun _ _=>False
theorem Cx.Ok.wish{X:Cx}(ok:X.Ok)(E:Value->Shared->Prop):(X.wish E).Ok:=
 ⟨ok.mod,ok.kind,ok.glob,ok.blt,ok.above,ok.inj,ok.has,ok.cab,ok.hd,ok.frames,ok.stk,ok.exf,ok.bs,ok.bsz,ok.noex,ok.exfs,ok.funs,ok.frf⟩
theorem Cx.Ok.unwish{X:Cx}{E:Value->Shared->Prop}(ok:(X.wish E).Ok):X.Ok:=
 ⟨ok.mod,ok.kind,ok.glob,ok.blt,ok.above,ok.inj,ok.has,ok.cab,ok.hd,ok.frames,ok.stk,ok.exf,ok.bs,ok.bsz,ok.noex,ok.exfs,ok.funs,ok.frf⟩
section
variable{X:Cx}{pins:List (Addr×Obj)}{Z:St}{H:Hp}{s:Shared}{E:Value->Shared->Prop}
theorem Inv.wish(I:Inv X pins Z H s)(E:Value->Shared->Prop):Inv (X.wish E) pins Z H s:=⟨I.ok.wish E,I.os,I.bare,I.base,I.loc,I.cell,I.free,I.freeC,I.pin,I.hok,I.len⟩
theorem Inv.unwish(I:Inv (X.wish E) pins Z H s):Inv X pins Z H s:=⟨I.ok.unwish,I.os,I.bare,I.base,I.loc,I.cell,I.free,I.freeC,I.pin,I.hok,I.len⟩
theorem SP.unwish{D:Ends}{f:Flow}{s':Shared}(h:SP (X.wish E) pins D f s'):SP X pins D f s':=by
 cases f with
 |next=>obtain⟨Z',H',I,q⟩:=h;exact⟨Z',H',I.unwish,q⟩
 |brk=>obtain⟨Z',H',I,q⟩:=h;exact⟨Z',H',I.unwish,q⟩
 |cont=>obtain⟨Z',H',I,q⟩:=h;exact⟨Z',H',I.unwish,q⟩
 |ret u=>obtain⟨v,Z',H',I,r,q⟩:=h;exact⟨v,Z',H',I.unwish,r,q⟩
theorem PSs.nox{st:List Stmt}{t:TS}(h:PSs X.nox st t):PSs X st t:=fun pins s Z H D I hw=>
 wpAny_mono (h pins s Z H D (I.wish _) hw) (fun _ _ q=>q.unwish) fun _ _ z=>False.elim z
end
section
variable{X:Cx}{st:Stmt}{rest:List Stmt}{t u:TS}{e:Expr}{te:TE}{pos:Pos}
def tNext:TS:=fun D Z H=>D.nx Z H
def tSeq(t u:TS):TS:=fun D Z H=>t {D with nx:=u D} Z H
theorem Ao:PSs X [] tNext:=fun _ _ Z H _ I h=>wpAny_execs_nil ⟨Z,H,I,h⟩
theorem Ab(h1:PS X st t)(h2:PSs X rest u):PSs X (st::rest) (tSeq t u):=by
 intro pins s Z H D I h;refine wpAny_execs_cons (thn (h1 pins s Z H {D with nx:=u D} I h) fun f s1 q=>?_);cases f with
 |next=>
  obtain⟨Z',H',I',q⟩:=q;exact h2 pins s1 Z' H' D I' q
 |ret v=>exact q
 |brk=>exact q
 |cont=>exact q
theorem Af(h1:PS X st t):PSs X [st] t:=by
 intro pins s Z H D I h;refine wpAny_execs_cons (thn (h1 pins s Z H D I h) fun f s1 q=>?_);cases f with
 |next=>exact wpAny_execs_nil q
 |ret v=>exact q
 |brk=>exact q
 |cont=>exact q
def tBreak:TS:=fun D Z H=>D.bk Z H
def tCont:TS:=fun D Z H=>D.ct Z H
theorem Le:PS X (.Break pos) tBreak:=fun _ _ Z H _ I h=>wpAny_Break ⟨Z,H,I,h⟩
theorem El:PS X (.Continue pos) tCont:=fun _ _ Z H _ I h=>wpAny_Continue ⟨Z,H,I,h⟩
theorem Inv.quiet{pins:List (Addr×Obj)}{Z:St}{H:Hp}{s:Shared}(I:Inv X pins Z H s):interactive X.env=false:=by simp[interactive,I.ok.kind]
def tDrop(te:TE):TS:=fun D Z H=>te Z H fun _ H1=>D.nx Z H1
theorem Au(he:PE X e te)(hs:swapsWith e none pos.line X.env=pure false:=by rfl):PS X (.Expr e pos) (tDrop te):=by
 intro pins s Z H D I h;exact wpAny_Expr_any (thn (he pins s Z H _ I h) fun v s1 ⟨x,H1,I1,r1,q1⟩=>⟨Z,H1,I1,q1⟩) I.quiet hs
def tRet(te:TE):TS:=fun D Z H=>te Z H D.rt
theorem Aj(he:PE X e te):PS X (.Return (some e) pos) (tRet te):=by
 intro pins s Z H D I h;exact wpAny_Return_some (thn (he pins s Z H _ I h) fun v s1 ⟨x,H1,I1,r1,q1⟩=>⟨x,Z,H1,I1,r1,q1⟩)
def tRetN:TS:=fun D _ H=>D.rt .non H
theorem Mr:PS X (.Return none pos) tRetN:=fun _ _ Z H _ I h=>wpAny_Return_none ⟨.non,Z,H,I,rfl,h⟩
def tIfS(c:TT)(t u:TS):TS:=fun D Z H=>c Z H fun b H1=>if b=true then t D Z H1 else u D Z H1
theorem Av{c:Expr}{a b:List Stmt}{tc:TT}(hc:PT X c tc)(ha:PSs X a t)(hb:PSs X b u):PS X (.If c a b pos) (tIfS tc t u):=by
 intro pins s Z H D I h;refine wpAny_If (thn (hc pins s Z H _ I h) fun d s1 ⟨H1,I1,q1⟩=>?_);cases d with
 |true=>exact ha pins s1 Z H1 D I1 q1
 |false=>exact hb pins s1 Z H1 D I1 q1
end
abbrev TG:=V->St->Hp->(St->Hp->Prop)->Prop
abbrev TGs:=List V->St->Hp->(St->Hp->Prop)->Prop
def PG(X:Cx)(target:Expr)(t:TG):Prop:=
 ∀(pins:List (Addr×Obj))(s:Shared)(Z:St)(H:Hp)(v:V)(u:Value)(Q:St->Hp->Prop),Inv X pins Z H s->RelV v u->t v Z H Q->
  wpAny (model X.prog X.w) X.A (assign target X.env u) (fun _ s'=>∃Z' H',Inv X pins Z' H' s'/\Q Z' H') X.xe s
def PGs(X:Cx)(ts:List Expr)(t:TGs):Prop:=
 ∀(pins:List (Addr×Obj))(s:Shared)(Z:St)(H:Hp)(vs:List V)(us:List Value)(Q:St->Hp->Prop),Inv X pins Z H s->Vals vs us->t vs Z H Q->
  wpAny (model X.prog X.w) X.A (assignInOrder ((assignEach ts X.env).map (·.2)) us) (fun _ s'=>∃Z' H',Inv X pins Z' H' s'/\Q Z' H') X.xe s
abbrev TSet:=V->V->V->Hp->(Hp->Prop)->Prop
def PSet(X:Cx)(t:TSet):Prop:=
 ∀(pins:List (Addr×Obj))(s:Shared)(Z:St)(H:Hp)(o i v:V)(ov iv u:Value)(Q:Hp->Prop),Inv X pins Z H s->RelV o ov->RelV i iv->RelV v u->t o i v H Q->
  wpAny (model X.prog X.w) X.A (setItem ov iv u) (fun _ s'=>∃H',Inv X pins Z H' s'/\Q H') X.xe s
abbrev TIp:=V->V->Hp->VK->Prop
def PIp(X:Cx)(op:Operator)(t:TIp):Prop:=
 ∀(pins:List (Addr×Obj))(s:Shared)(Z:St)(H:Hp)(x y:V)(v u:Value)(Q:VK),Inv X pins Z H s->RelV x v->RelV y u->t x y H Q->
  wpAny (model X.prog X.w) X.A (inplaceOp op v u) (EP X pins Z Q) X.xe s
section
variable{X:Cx}{pos:Pos}
def gName(i:Nat):TG:=fun v Z H Q=>Q (Z.set i (some v)) H
theorem At{i:Nat}{x:Str}(hN:X.N.Nodup)(hi:X.N[i]? =some x)(hx:Loc X.env.scope x)(hf:X.fn x=true\/X.env.scope.names.lookup x=some .local:=by first|exact .inl rfl|exact .inr rfl|assumption):PG X (.Name x pos) (gName i):=by
 intro pins s Z H v u Q I r h;exact wpAny_assign_Name (Fu I hN hi hx r (fun s' I'=>⟨_,H,I',h⟩) hf)
def gNil:TGs:=fun vs Z H Q=>vs=[]/\Q Z H
def gCons(t:TG)(u:TGs):TGs:=fun vs Z H Q=>∃v r,vs=v::r/\t v Z H fun Z' H'=>u r Z' H' Q
theorem Db:PGs X [] gNil:=by
 intro pins s Z H vs us Q I r h;obtain⟨e,h⟩:=h;subst e;cases r;exact assignInOrder_nil ⟨Z,H,I,h⟩
theorem Bf{e:Expr}{es:List Expr}{t:TG}{u:TGs}(h1:PG X e t)(h2:PGs X es u)
  (hs:(assignEach (e::es) X.env).map (·.2)=assign e X.env::(assignEach es X.env).map (·.2):=by rfl):PGs X (e::es) (gCons t u):=by
 intro pins s Z H vs us Q I r h;obtain⟨v,vr,e1,h⟩:=h;subst e1;cases r with
 |cons r rr=>
  rw[hs];refine assignInOrder_cons (thn (h1 pins s Z H _ _ _ I r h) fun _ s1 ⟨Z1,H1,I1,q1⟩=>?_);exact h2 pins s1 Z1 H1 _ _ Q I1 rr q1
def gTup(K:Frag)(n:Nat)(t:TGs):TG:=fun v Z H Q=>∃a xs,v= .ref a/\SqT K H a xs/\xs.length=n/\t xs Z H Q
theorem Ef{es:List Expr}{k:Nat}{t:TGs}{n:Nat}(hc:X.calm=true)(h:PGs X es t)
  (hn:(assignEach es X.env).length=n:=by rfl) (hst:(assignEach es X.env).findIdx? (·.1)=none:=by rfl):PG X (.Tuple es k pos) (gTup X.K n t):=by
 intro pins s Z H v u Q I r hw;obtain⟨a,xs,e1,hq,hl,hw⟩:=hw;subst e1;cases r;obtain⟨its,rv,ht,hz⟩:=I.tuple hq;refine assign_Tuple_tuple (I.ok.hd hc) ht (by simp[hn,<-hl,rv.length]) hst fun h' hx=>?_;have I1:Inv X pins Z H {s with heap:=h'}:=I.kept (t':=s.toks) fun b o e=>hx b o (ne_of_lt (lt_size e)) e;exact h pins _ Z H xs _ Q I1 (by simpa using rv) hw
def gSub(to ti:TE)(t:TSet):TG:=fun v Z H Q=>to Z H fun o H1=>ti Z H1 fun i H2=>t o i v H2 fun H3=>Q Z H3
theorem ND{o i:Expr}{to ti:TE}{t:TSet}(ho:PE X o to)(hi:PE X i ti)(hs:PSet X t)
  (ha:∀v,assign (.Subscript o i pos) X.env v=(do
   let ov<-holding [v] (eval o X.env)
   let iv<-holding [v,ov] (eval i X.env)
   standAt pos
   holding [v,ov,iv] (setItem ov iv v)
   release [v,ov,iv] []):=by intro _;rfl):PG X (.Subscript o i pos) (gSub to ti t):=by
 intro pins s Z H v u Q I r h;rw[ha];refine wpAny_bind (wpAny_holding (thn (ho pins s Z H _ I h) fun ov s1 ⟨x,H1,I1,r1,q1⟩=>?_));refine wpAny_bind (wpAny_holding (thn (hi pins s1 Z H1 _ I1 q1) fun iv s2 ⟨y,H2,I2,r2,q2⟩=>?_));refine wpAny_bind (wpAny_standAt (wpAny_bind (wpAny_holding (thn (hs pins s2 Z H2 x y v ov iv u _ I2 r1 r2 r q2) fun _ s3 ⟨H3,I3,q3⟩=>?_))));exact wpAny_release ⟨Z,H3,I3,q3⟩
def tAsg(te:TE)(g:TG):TS:=fun D Z H=>te Z H fun x H1=>g x Z H1 D.nx
theorem Og{tg e:Expr}{te:TE}{g:TG}(he:PE X e te)(hg:PG X tg g)(hs:swapsWithSole [tg] e pos.line X.env=pure false:=by rfl)(hw:swappedStores [tg] e X.env=pure none:=by rfl)
  (h1:(assignEach [tg] X.env).map (·.2)=[assign tg X.env]:=by rfl):PS X (.Assign [tg] e pos) (tAsg te g):=by
 intro pins s Z H D I h;refine wpAny_Assign_stores (thn (he pins s Z H _ I h) fun v s1 ⟨x,H1,I1,r1,q1⟩=>?_) hs hw;rw[h1];exact thn (hg pins s1 Z H1 x v _ I1 r1 q1) fun _ s2 q=>q
theorem Al{i:Nat}{x:Str}{e:Expr}{te:TE}{pos':Pos}(hN:X.N.Nodup)(hi:X.N[i]? =some x)(hx:Loc X.env.scope x)(he:PE X e te)(hs:swapsWith e (some (.Name x pos')) pos.line X.env=pure false:=by rfl)(hf:X.fn x=true\/X.env.scope.names.lookup x=some .local:=by first|exact .inl rfl|exact .inr rfl|assumption):
  PS X (.Assign [.Name x pos'] e pos) (tAsg te (gName i)):=by
 intro pins s Z H D I h;refine wpAny_Assign_Name (thn (he pins s Z H _ I h) fun v s1 ⟨y,H1,I1,r1,q1⟩=>?_) hs;exact Fu I1 hN hi hx r1 (fun s2 I2=>⟨_,H1,I2,q1⟩) hf
def tAug(i:Nat)(te:TE)(ti:TIp):TS:=fun D Z H=>∃x,Z[i]? =some (some x)/\te Z H fun y H1=>ti x y H1 fun z H2=>D.nx (Z.set i (some z)) H2
theorem Cs{i:Nat}{x:Str}{e:Expr}{te:TE}{op:Operator}{ti:TIp}{pos':Pos}(hN:X.N.Nodup)(hi:X.N[i]? =some x)(hx:Loc X.env.scope x)(he:PE X e te)(ho:PIp X op ti)(hf:X.fn x=true\/X.env.scope.names.lookup x=some .local:=by first|exact .inl rfl|exact .inr rfl|assumption):
  PS X (.AugAssign (.Name x pos') op e pos) (tAug i te ti):=by
 intro pins s Z H D I h;obtain⟨v,e1,h⟩:=h;obtain⟨m,hn,hl⟩:=I.loc;have vis:Vis X.env.scope x:=by rcases hx with k|k;exact .inl k;exact .inr (.inl k)
 obtain⟨u,r,l⟩:=hl i x v hi e1 vis;refine wpAny_AugAssign_Name ?_
 have go:wpAny (model X.prog X.w) X.A (eval e X.env) (fun w s₂=>wpAny (model X.prog X.w) X.A (inplaceOp op u w) (fun r s₃=>wpAny (model X.prog X.w) X.A (storeName X.env x r) (fun _=>SP X pins D .next) X.xe s₃) X.xe s₂) X.xe s:=by
  refine thn (he pins s Z H _ I h) fun w s1 ⟨y,H1,I1,r1,q1⟩=>?_;refine thn (ho pins s1 Z H1 v y u w _ I1 r r1 q1) fun z s2 ⟨zv,H2,I2,r2,q2⟩=>?_;exact Fu I2 hN hi hx r2 (fun s3 I3=>⟨_,H2,I3,q2⟩) hf
 rcases l with ⟨hk,hm⟩|⟨hk,c,hc,hcell⟩
 .exact wpAny_loadName_local I.ok.kind hk hn hm go
 .rcases hk with hk|hk
  .exact wpAny_loadName_cell I.ok.kind hk hc hcell go
  .rcases hx with k|k
   .have:X.env.scope.names.lookup x=some .free:=hk;rw[k]at this;cases this
   .have:X.env.scope.names.lookup x=some .free:=hk;rw[k]at this;cases this
def ipI(f:Int->Int->Int):TIp:=fun x y H Q=>∃i j,x= .int i/\y= .int j/\Q (.int (f i j)) H
theorem Cp:PIp X .Add (ipI fun i j=>i+j):=by
 intro pins s Z H x y v u Q I r1 r2 h;obtain⟨i,j,e1,e2,q⟩:=h;subst e1;subst e2;obtain⟨t,rfl⟩:=r1;obtain⟨t',rfl⟩:=r2;exact iadd_int ⟨.int _,H,I.tok _,⟨_,rfl⟩,q⟩
end
section
variable{X:Cx}{pos:Pos}
def tWhile(c:TT)(tb:TS):TS:=fun D Z H=>∃W:Nat->St->Hp->Prop,(∃m,W m Z H)/\∀m Z H,W m Z H->
 c Z H fun b H1=>if b=true then∃N:St->Hp->Prop,(∀Z' H',N Z' H'->∃m',m'<m/\W m' Z' H')/\tb {D with nx:=N,ct:=N,bk:=D.nx} Z H1 else D.nx Z H1
theorem A9{c:Expr}{body:List Stmt}{tc:TT}{tb:TS}(hp:PassesOwn (model X.prog X.w) X.A X.env X.xe)(hc:PT X c tc)(hb:PSs X body tb):PS X (.While c body [] pos) (tWhile tc tb):=by
 intro pins s Z H D I h;obtain⟨W,⟨m0,w0⟩,turn⟩:=h;refine wpAny_While (codeAny_whileLoop (fun n s'=>∃Z' H',Inv X pins Z' H' s'/\W n Z' H') ?_ m0 ⟨Z,H,I,w0⟩);rintro n s1 ⟨Z1,H1,I1,w1⟩;refine wpAny_passesOwn hp (thn (hc pins s1 Z1 H1 _ I1 (turn n Z1 H1 w1)) fun b s2 ⟨H2,I2,q2⟩=>?_);cases b with
 |true=>
  obtain⟨N,hN,q2⟩:=q2;rw[if_pos rfl];refine wpAny_passesOwn hp (thn (hb pins s2 Z1 H2 _ I2 q2) fun f s3 q3=>?_);cases f with
  |next=>
   obtain⟨Z3,H3,I3,n3⟩:=q3;obtain⟨m',hm,w3⟩:=hN Z3 H3 n3;exact⟨m',hm,Z3,H3,I3,w3⟩
  |cont=>
   obtain⟨Z3,H3,I3,n3⟩:=q3;obtain⟨m',hm,w3⟩:=hN Z3 H3 n3;exact⟨m',hm,Z3,H3,I3,w3⟩
  |brk=>exact q3
  |ret v=>exact q3
 |false=>
  rw[if_neg Bool.false_ne_true];exact wpAny_execs_nil ⟨Z1,H2,I2,q2⟩
end
structure It where
 go:Nat->Hp->Prop
 yld:Nat->Hp->V->Hp->Prop
 stop:Nat->Hp->Prop
def FpOk(X:Cx)(pins:List (Addr×Obj))(H:Hp)(b:Addr):Prop:=
 H b=none/\b≠X.env.locals/\b∉X.fs/\(b∈X.ex\/X.s_0.heap.objs.size<=b)/\(∀x c,X.env.cells.lookup x=some c->c≠b)/\∀p∈X.pn++pins,p.1≠b
theorem Inv.fpOk{X:Cx}{pins:List (Addr×Obj)}{Z:St}{H H':Hp}{s:Shared}{b:Addr}(I:Inv X pins Z H s)(hb:s.heap.objs.size<=b)(hn:H' b=none):FpOk X pins H' b:=by
 refine⟨hn,Nat.ne_of_gt (lt_of_lt_of_le I.lt hb),I.nofs hb,.inr (le_trans I.sz hb),fun x c e z=>?_,fun p hp z=>?_⟩
 .obtain⟨v,q⟩:=I.cell x c e;exact absurd (lt_of_lt_of_le q.lt (by rw[z];exact hb)) (lt_irrefl _)
 .exact absurd (lt_of_lt_of_le (lt_size (I.pin p hp).1) (by rw[z];exact hb)) (lt_irrefl _)
structure Turn (P:Program) (w:World) (K:Frag) (tg:Expr) (J:It) (fp:List Addr) (it:Addr) (tn:Nat->Heap->Prop):Prop where
 mem:it∈fp
 obj:∀i h,tn i h->∀b∈fp,∃o,h.get? b=some o/\∀v,o.data≠ .cell v
 keep:∀i h h',tn i h->(∀b∈fp,∀o,h.get? b=some o->h'.get? b=some o)->tn i h'
 item:∀(X:Cx),X.prog=P->X.w=w->X.K=K->X.calm=true->∀(i:Nat)(pins:List (Addr×Obj))(s:Shared)(Z:St)(H:Hp)(E:Value->Shared->Prop),Inv X pins Z H s->(∀b∈fp,FpOk X pins H b)->tn i s.heap->J.go i H->
  wpAny (model P w) X.A (pyNext (.ref it)) (fun r s1=>∃u,r=some u/\
   wpAny (model P w) X.A (letOwnedTupleGo tg (.ref it) u) (fun _ s2=>∃x H',Inv X pins Z H' s2/\RelV x u/\J.yld i H x H'/\tn (i+1) s2.heap/\∀b∈fp,H' b=none) E s1) E s
 done:∀(X:Cx),X.prog=P->X.w=w->X.K=K->X.calm=true->∀(i:Nat)(pins:List (Addr×Obj))(s:Shared)(Z:St)(H:Hp)(E:Value->Shared->Prop),Inv X pins Z H s->(∀b∈fp,FpOk X pins H b)->tn i s.heap->J.stop i H->
  wpAny (model P w) X.A (pyNext (.ref it)) (fun r s1=>r=none/\Inv X pins Z H s1) E s
 self:∀(A:Around)(i:Nat)(s:Shared)(Q:Value->Shared->Prop)(E:Value->Shared->Prop),tn i s.heap->Q (.ref it) s->wpAny (model P w) A (pyIter (.ref it)) Q E s
abbrev TI:=St->Hp->(It->Hp->Prop)->Prop
def PIE(X:Cx)(pins:List (Addr×Obj))(Z:St)(tg:Expr)(R:It->Hp->Prop)(itv:Value)(s2:Shared):Prop:=
 ∃(it:Addr)(fp:List Addr)(tn:Nat->Heap->Prop)(J:It)(H':Hp),itv= .ref it/\Inv X pins Z H' s2/\Turn X.prog X.w X.K tg J fp it tn/\tn 0 s2.heap/\(∀b∈fp,FpOk X pins H' b)/\R J H'
def PI(X:Cx)(tg iter:Expr)(wi:TI):Prop:=
 ∀(pins:List (Addr×Obj))(s:Shared)(Z:St)(H:Hp)(R:It->Hp->Prop),Inv X pins Z H s->wi Z H R->
  wpAny (model X.prog X.w) X.A (eval iter X.env) (fun v s1=>wpAny (model X.prog X.w) X.A (pyIter v) (PIE X pins Z tg R) X.xe s1) X.xe s
theorem Lk{M:Model}{A:Around}{E:Value->Shared->Prop}{s:Shared}{tg:Expr}{it:Addr}{u:Value}{o:Obj}{n:String}{vs:Array Value}{Q:Unit->Shared->Prop}(ho:s.heap.get? it=some o)(hc:o.cls= .type n)(hd:o.data= .fields vs)
  (hn:["enumerate","zip","dict_itemiterator","dict_reverseitemiterator","odict_iterator","itertools.zip_longest","itertools.pairwise"].contains n=false) (hQ:Q () s):wpAny M A (letOwnedTupleGo tg (.ref it) u) Q E s:=by
 unfold letOwnedTupleGo
 cases tg<;>first
  |exact wpAny_pure hQ
  | (cases u<;>first
    |exact wpAny_pure hQ
    | (refine wpAny_bind (wpAny_load ho ?_)
       rw[hc,hd];show wpAny M A (if(["enumerate","zip","dict_itemiterator","dict_reverseitemiterator","odict_iterator","itertools.zip_longest","itertools.pairwise"].contains n&&vs[0]? ==some (rawInt _))=true then _ else _) Q E s;rw[if_neg (by intro h;rw[hn,Bool.false_and]at h;cases h)];exact wpAny_pure hQ))
def Itl(K:Frag)(a:Addr):It:=
 ⟨fun i H=>∃xs x,SqL K H a xs/\xs[i]? =some x,fun i H x H'=>H'=H/\∀xs,SqL K H a xs->xs[i]? =some x,fun i H=>∃xs,SqL K H a xs/\xs.length<=i⟩
def Itt(K:Frag)(a:Addr):It:=
 ⟨fun i H=>∃xs x,SqT K H a xs/\xs[i]? =some x,fun i H x H'=>H'=H/\∀xs,SqT K H a xs->xs[i]? =some x,fun i H=>∃xs,SqT K H a xs/\xs.length<=i⟩
def Itr(lo:Int)(n:Nat):It:=⟨fun i _=>i<n,fun i H x H'=>H'=H/\x= .int (lo+i),fun i _=>n<=i⟩
theorem J9{P:Program}{w:World}{K:Frag}{tg:Expr}(a it:Addr):Turn P w K tg (Itl K a) [it] it (fun i h=>h.IsListIter it a i) where
 mem:=by simp
 obj:=fun i h st b hb=>by
  have e:b=it:=by simpa using hb
  subst e;obtain⟨o,e,c,d⟩:=st;exact⟨o,e,fun v z=>by rw[d]at z;cases z⟩
 keep:=fun i h h' st k=>st.at fun o e=>k it (by simp) o e
 item:=by
  intro X hP hw hK hc i pins s Z H E I hf st hg;subst hP hw hK;obtain⟨xs,x,hq,hx⟩:=hg;obtain⟨its,rv,p,hz⟩:=I.list hq;obtain⟨u,hu,ru⟩:=rv.get hx;obtain⟨f0,f1,f2,f3,f4,f5⟩:=hf it (by simp);refine wpAny_pyNext_list_item st p.isList (x:=u) (by simpa using hu) fun h' st' sb=>?_;have I1:Inv X pins Z H {s with heap:=h'}:=I.turned (t':=s.toks) (fun b o hb e=>(sb.2 b hb).trans e) f0 f1 f3 f4 f5;obtain⟨o,e,c,d⟩:=id st';exact⟨u,rfl,Lk (s:={s with heap:=h'}) e c d (by decide) ⟨x,H,I1,ru,⟨rfl,fun ys hy=>by rw[I.list_inj hy hq];exact hx⟩,st',fun b hb=>(hf b hb).1⟩⟩
 done:=by
  intro X hP hw hK hc i pins s Z H E I hf st hg;subst hP hw hK;obtain⟨xs,hq,hx⟩:=hg;obtain⟨its,rv,p,hz⟩:=I.list hq;obtain⟨f0,f1,f2,f3,f4,f5⟩:=hf it (by simp);have hl:=rv.length;exact wpAny_pyNext_list_end (I.ok.hd hc) st p.isList (by simp;omega) fun h' eb=>⟨rfl,I.turned (t':=s.toks) (fun b o hb e=>eb b o hb e) f0 f1 f3 f4 f5⟩
 self:=fun _ _ _ _ _ st h=>wpAny_pyIter_listiter st h
theorem IT{P:Program}{w:World}{K:Frag}{tg:Expr}(a it:Addr):Turn P w K tg (Itt K a) [it] it (fun i h=>h.IsTupleIter it a i) where
 mem:=by simp
 obj:=fun i h st b hb=>by
  have e:b=it:=by simpa using hb
  subst e;obtain⟨o,e,c,d⟩:=st;exact⟨o,e,fun v z=>by rw[d]at z;cases z⟩
 keep:=fun i h h' st k=>st.at fun o e=>k it (by simp) o e
 item:=by
  intro X hP hw hK hc i pins s Z H E I hf st hg;subst hP hw hK;obtain⟨xs,x,hq,hx⟩:=hg;obtain⟨its,rv,p,hz⟩:=I.tuple hq;obtain⟨u,hu,ru⟩:=rv.get hx;obtain⟨f0,f1,f2,f3,f4,f5⟩:=hf it (by simp);refine wpAny_pyNext_tuple_item st (show s.heap.IsTuple a its.toArray from p) (x:=u) (by simpa using hu) fun h' st' sb=>?_;have I1:Inv X pins Z H {s with heap:=h'}:=I.turned (t':=s.toks) (fun b o hb e=>(sb.2 b hb).trans e) f0 f1 f3 f4 f5;obtain⟨o,e,c,d⟩:=id st';exact⟨u,rfl,Lk (s:={s with heap:=h'}) e c d (by decide) ⟨x,H,I1,ru,⟨rfl,fun ys hy=>by rw[I.tuple_inj hy hq];exact hx⟩,st',fun b hb=>(hf b hb).1⟩⟩
 done:=by
  intro X hP hw hK hc i pins s Z H E I hf st hg;subst hP hw hK;obtain⟨xs,hq,hx⟩:=hg;obtain⟨its,rv,p,hz⟩:=I.tuple hq;obtain⟨f0,f1,f2,f3,f4,f5⟩:=hf it (by simp);have hl:=rv.length;exact wpAny_pyNext_tuple_end (I.ok.hd hc) st (show s.heap.IsTuple a its.toArray from p) (by simp;omega) fun h' eb=>⟨rfl,I.turned (t':=s.toks) (fun b o hb e=>eb b o hb e) f0 f1 f3 f4 f5⟩
 self:=fun _ _ _ _ _ st h=>wpAny_pyIter_tupleiter st h
theorem II{P:Program}{w:World}{K:Frag}{tg:Expr}(it:Addr)(lo:Int)(n:Nat):Turn P w K tg (Itr lo n) [it] it (fun i h=>IsRangeIter h it (lo+(i:Nat) * 1) ((n:Int) - (i:Nat)) 1) where
 mem:=by simp
 obj:=fun i h st b hb=>by
  have e:b=it:=by simpa using hb
  subst e
  exact⟨_,st,fun v z=>by
   have z':Data.fields _=Data.cell v:=z;cases z'⟩
 keep:=fun i h h' st k=>k it (by simp) _ st
 item:=by
  intro X hP hw hK hc i pins s Z H E I hf st hg;subst hP hw hK;obtain⟨f0,f1,f2,f3,f4,f5⟩:=hf it (by simp);have W:=Walks.range (prog:=X.prog) (w:=X.w) (I.ok.hd hc) it lo 1 n;refine W.item i s _ _ hg st fun v h' tk hv st' kk=>?_;obtain⟨t,rfl⟩:=hv;have I1:Inv X pins Z H {s with heap:=h',toks:=tk}:=I.turned (fun b o hb e=>kk b o (by simpa using hb) e) f0 f1 f3 f4 f5;refine⟨_,rfl,Lk (s:={s with heap:=h',toks:=tk}) (n:="range_iterator") st' rfl rfl (by decide) ⟨.int (lo+i),H,I1,⟨t,?_⟩,⟨rfl,rfl⟩,st',fun b hb=>(hf b hb).1⟩⟩;rw[Int.mul_one]
 done:=by
  intro X hP hw hK hc i pins s Z H E I hf st hg;subst hP hw hK;obtain⟨f0,f1,f2,f3,f4,f5⟩:=hf it (by simp);exact wpAny_pyNext_range_end (I.ok.hd hc) st (by have:n<=i:=hg;omega) fun h' eb=>⟨rfl,I.turned (t':=s.toks) (fun b o hb e=>eb b o hb e) f0 f1 f3 f4 f5⟩
 self:=fun _ _ _ _ _ st h=>wpAny_pyIter_rangeiter st h
section
variable{X:Cx}{tg:Expr}
def iList(K:Frag)(tl:TE):TI:=fun Z H R=>tl Z H fun x H1=>∃a,x= .ref a/\(∃xs,SqL K H1 a xs)/\R (Itl K a) H1
def iTup(K:Frag)(tl:TE):TI:=fun Z H R=>tl Z H fun x H1=>∃a,x= .ref a/\(∃xs,SqT K H1 a xs)/\R (Itt K a) H1
theorem AE{l:Expr}{tl:TE}(hl:PE X l tl):PI X tg l (iList X.K tl):=by
 intro pins s Z H R I h;refine thn (hl pins s Z H _ I h) fun v s1 ⟨x,H1,I1,r1,q1⟩=>?_;obtain⟨a,e,⟨xs,hq⟩,q⟩:=q1;subst e;cases r1;obtain⟨its,rv,p,hz⟩:=I1.list hq;refine wpAny_pyIter_list p.isList ?_;refine⟨s1.heap.objs.size,[s1.heap.objs.size],_,_,H1,rfl,I1.kept (t':=s1.toks) fun b o e=>get?_push_of_some _ e,J9 a _,⟨_,get?_push_size _ rfl,rfl,rfl⟩,fun b hb=>?_,q⟩;have e:b=s1.heap.objs.size:=by simpa using hb
 subst e;exact I1.fpOk (le_refl _) (I1.hok.fresh (le_refl _))
theorem He{l:Expr}{tl:TE}(hl:PE X l tl):PI X tg l (iTup X.K tl):=by
 intro pins s Z H R I h;refine thn (hl pins s Z H _ I h) fun v s1 ⟨x,H1,I1,r1,q1⟩=>?_;obtain⟨a,e,⟨xs,hq⟩,q⟩:=q1;subst e;cases r1;obtain⟨its,rv,p,hz⟩:=I1.tuple hq;refine wpAny_pyIter_tuple (show s1.heap.IsTuple a its.toArray from p) ?_;refine⟨s1.heap.objs.size,[s1.heap.objs.size],_,_,H1,rfl,I1.kept (t':=s1.toks) fun b o e=>get?_push_of_some _ e,IT a _,⟨_,get?_push_size _ rfl,rfl,rfl⟩,fun b hb=>?_,q⟩;have e:b=s1.heap.objs.size:=by simpa using hb
 subst e;exact I1.fpOk (le_refl _) (I1.hok.fresh (le_refl _))
theorem K9{pins:List (Addr×Obj)}{Z:St}{H:Hp}{s:Shared}{R:It->Hp->Prop}{E:Value->Shared->Prop}{lo hi:Int}{t u v:Tok}{tk:Nat}(I:Inv X pins Z H s)(h1: -(2 ^ 62)<=lo)(h2:lo<2 ^ 62)(h3: -(2 ^ 62)<=hi)(h4:hi<2 ^ 62)
  (q:R (Itr lo (hi - lo).toNat) H):wpAny (model X.prog X.w) X.A (pyIter (.ref s.heap.objs.size)) (PIE X pins Z tg R) E {s with heap:=s.heap.push {cls:=.type "range",data:=.fields #[.int lo t,.int hi u,.int 1 v]},toks:=tk}:=by
 refine wpAny_pyIter_range (IsRange.new ..) (small_one h1 h2 h3 h4) ?_;have I1:Inv X pins Z H {s with heap:=s.heap.push {cls:=.type "range",data:=.fields #[.int lo t,.int hi u,.int 1 v]},toks:=tk}:=I.kept fun b o e=>get?_push_of_some _ e
 refine⟨(s.heap.push {cls:=.type "range",data:=.fields #[.int lo t,.int hi u,.int 1 v]}).objs.size,[(s.heap.push {cls:=.type "range",data:=.fields #[.int lo t,.int hi u,.int 1 v]}).objs.size],_,_,H,rfl,
  I1.kept (t':=tk) fun b o e=>get?_push_of_some _ e,II _ lo (hi - lo).toNat,?_,fun b hb=>?_,q⟩
 .have e1:lo+((0:Nat):Int) * 1=lo:=by simp
  have e2:(((hi - lo).toNat:Nat):Int) - ((0:Nat):Int)=Builtin.Range.rangeSize lo hi 1:=by rw[rangeSize_one];split<;>omega
  show IsRangeIter _ _ (lo+((0:Nat):Int) * 1) ((((hi - lo).toNat:Nat):Int) - ((0:Nat):Int)) 1;rw[e1,e2];exact get?_push_size _ rfl
 .have e:b=(s.heap.push {cls:=.type "range",data:=.fields #[.int lo t,.int hi u,.int 1 v]}).objs.size:=by simpa using hb
  subst e;exact I1.fpOk (le_refl _) (I1.hok.fresh (le_refl _))
def iRng2(ta:TA):TI:=fun Z H R=>ta Z H fun vs H1=>∃i j:Int,vs=[.int i,.int j]/\(-(2 ^ 62)<=i/\i<2 ^ 62/\ -(2 ^ 62)<=j/\j<2 ^ 62)/\R (Itr i (j - i).toNat) H1
theorem Kz{a b:Expr}{ta:TA}{p pos:Pos}(hg:Gl X "range")(hm:X.mg "range"=none)(ha:PA X [a,b] ta)(hs:starEach [a,b] X.env=[(false,eval a X.env),(false,eval b X.env)]:=by rfl)(hs2:starEach [b] X.env=[(false,eval b X.env)]:=by rfl):
  PI X tg (.Call (.Name "range" p) [a,b] [] pos) (iRng2 ta):=by
 intro pins s Z H R I h;refine Call_ (CJ I hg hm boot_range (PyProof.Rows.callWith_type1 (thn (ha pos pins s Z H _ I h) fun us s1 ⟨vs,H1,I1,r1,q1⟩=>?_) (by rw[hs,hs2]) (by rw[hs2];rfl)));obtain⟨i,j,e,⟨q1,q2,q3,q4⟩,q⟩:=q1;subst e;cases r1 with
 |cons r rr=>
  cases rr with
  |cons r' rr=>
   cases rr;obtain⟨t,rfl⟩:=r;obtain⟨t',rfl⟩:=r';exact call_range_2 (K9 I1 q1 q2 q3 q4 q)
def tFor(wi:TI)(g:TG)(tb:TS):TS:=fun D Z H=>wi Z H fun J H1=>∃W:Nat->Nat->St->Hp->Prop,(∃m,W 0 m Z H1)/\∀i m Z H,W i m Z H->
 (J.stop i H/\D.nx Z H)\/(J.go i H/\∃N:St->Hp->Prop,(∀Z' H',N Z' H'->∃m',m'<m/\W (i+1) m' Z' H')/\∀x H',J.yld i H x H'->g x Z H' fun Z2 H2=>tb {D with nx:=N,ct:=N,bk:=D.nx} Z2 H2)
def pinsAt(fp:List Addr)(h:Heap):List (Addr×Obj):=fp.filterMap fun b=>(h.get? b).map fun o=>(b,o)
theorem Dm{fp:List Addr}{h:Heap}{b:Addr}{o:Obj}(hb:b∈fp)(e:h.get? b=some o):(b,o)∈pinsAt fp h:=List.mem_filterMap.mpr ⟨b,hb,by rw[e];rfl⟩
theorem J6{fp:List Addr}{h:Heap}{p:Addr×Obj}(hp:p∈pinsAt fp h):p.1∈fp/\h.get? p.1=some p.2:=by
 obtain⟨b,hb,e⟩:=List.mem_filterMap.mp hp;cases q:h.get? b with
 |none=>rw[q]at e;cases e
 |some o=>
  rw[q]at e;have e':(b,o)=p:=Option.some.inj e;subst e';exact⟨hb,q⟩
theorem Inv.pinned{pins:List (Addr×Obj)}{Z:St}{H:Hp}{s:Shared}{fp:List Addr}(I:Inv X pins Z H s)(hf:∀b∈fp,FpOk X pins H b)(ho:∀b∈fp,∃o,s.heap.get? b=some o/\∀v,o.data≠ .cell v):Inv X (pins++pinsAt fp s.heap) Z H s:=
 I.pins_of fun p hp=>(mem_append.mp hp).elim (fun z=>I.pin p (mem_append_right _ z)) fun z=>by
  obtain⟨hb,e⟩:=J6 z;obtain⟨f0,f1,f2,_⟩:=hf p.1 hb;obtain⟨o,e',d⟩:=ho p.1 hb;rw[e]at e';cases e';exact⟨e,f0,f1,f2,d⟩
theorem Inv.unpinned{pins pl:List (Addr×Obj)}{Z:St}{H:Hp}{s:Shared}(I:Inv X (pins++pl) Z H s):Inv X pins Z H s:=I.pins_of fun p hp=>I.pin p (mem_append_right _ (List.mem_append_left _ hp))
theorem Ba{iter:Expr}{body:List Stmt}{wi:TI}{g:TG}{tb:TS}{pos:Pos}(hp:PassesOwn (model X.prog X.w) X.A X.env X.xe)(hc:X.calm=true)(hi:PI X tg iter wi)(hg:PG X tg g)(hb:PSs X body tb)
  (hs:∀x,foldedSetIterable iter X.env x=pure x:=by intro _;rfl):PS X (.For tg iter body [] pos) (tFor wi g tb):=by
 intro pins s Z H D I h;refine wpAny_For (thn (hi pins s Z H _ I h) fun v s1 h1=>thn h1 fun itv s2 h2=>?_) hs;obtain⟨it,fp,tn,J,H2,e,I2,T,st2,f2,W,⟨m0,w0⟩,turn⟩:=h2;subst e;have stat:∀{H':Hp},(∀b∈fp,H' b=none)->∀b∈fp,FpOk X pins H' b:=fun hn b hb=>⟨hn b hb,(f2 b hb).2⟩;refine codeAny_forLoop_any (fun n s'=>∃i Z' H',Inv X pins Z' H' s'/\tn i s'.heap/\(∀b∈fp,H' b=none)/\W i n Z' H') ?_ m0 ⟨0,Z,H2,I2,st2,fun b hb=>(f2 b hb).1,w0⟩;rintro n s3 ⟨i,Z3,H3,I3,st3,fr3,w3⟩;rcases turn i n Z3 H3 w3 with ⟨stop,qn⟩|⟨go,N,hN,step⟩
 .refine wpAny_passesOwn hp (thn (T.done X rfl rfl rfl hc i pins s3 Z3 H3 X.xe I3 (stat fr3) st3 stop) fun r s4 ⟨hr,I4⟩=>?_);subst hr;exact wpAny_execs_nil ⟨Z3,H3,I4,qn⟩
 .refine wpAny_passesOwn hp (thn (T.item X rfl rfl rfl hc i pins s3 Z3 H3 X.xe I3 (stat fr3) st3 go) fun r s4 ⟨u,hr,h4⟩=>?_);subst hr;refine wpAny_passesOwn hp (thn h4 fun _ s5 ⟨x,H5,I5,r5,y5,st5,fr5⟩=>?_);have I5':=I5.pinned (stat fr5) (T.obj _ _ st5);refine wpAny_passesOwn hp (thn (hg _ s5 Z3 H5 x u _ I5' r5 (step x H5 y5)) fun _ s6 ⟨Z6,H6,I6,q6⟩=>?_);refine wpAny_passesOwn hp (thn (hb _ s6 Z6 H6 _ I6 q6) fun f s7 q7=>?_)
  have again:∀{Z7:St}{H7:Hp},Inv X (pins++pinsAt fp s5.heap) Z7 H7 s7->N Z7 H7->∃m,m<n/\∃i Z' H',Inv X pins Z' H' s7/\tn i s7.heap/\(∀b∈fp,H' b=none)/\W i m Z' H':=fun{Z7 H7} I7 n7=>by
   obtain⟨m',hm,w7⟩:=hN Z7 H7 n7;refine⟨m',hm,i+1,Z7,H7,I7.unpinned,T.keep _ _ _ st5 fun b hb o e=>(I7.pin (b,o) (mem_append_right _ (mem_append_right _ (Dm hb e)))).1,fun b hb=>?_,w7⟩;obtain⟨o,e,d⟩:=T.obj _ _ st5 b hb;exact(I7.pin (b,o) (mem_append_right _ (mem_append_right _ (Dm hb e)))).2.1
  cases f with
  |next=>obtain⟨Z7,H7,I7,n7⟩:=q7;exact again I7 n7
  |cont=>obtain⟨Z7,H7,I7,n7⟩:=q7;exact again I7 n7
  |brk=>obtain⟨Z7,H7,I7,q7⟩:=q7;exact⟨Z7,H7,I7.unpinned,q7⟩
  |ret v=>obtain⟨x7,Z7,H7,I7,r7,q7⟩:=q7;exact⟨x7,Z7,H7,I7.unpinned,r7,q7⟩
end
theorem Bt{K:Frag}{a:Addr}{xs:List V}{g:TG}{tb:TS}{D:Ends}{Z:St}{H:Hp}(Pv:Nat->St->Hp->Prop)(h0:Pv 0 Z H)(hl:∀i Z H,i<=xs.length->Pv i Z H->SqL K H a xs)
  (hs:∀i x Z H,xs[i]? =some x->Pv i Z H->g x Z H fun Z2 H2=>tb {D with nx:=Pv (i+1),ct:=Pv (i+1),bk:=D.nx} Z2 H2) (hd:∀Z H,Pv xs.length Z H->D.nx Z H):
  ∃W:Nat->Nat->St->Hp->Prop,(∃m,W 0 m Z H)/\∀i m Z H,W i m Z H->
   ((Itl K a).stop i H/\D.nx Z H)\/((Itl K a).go i H/\∃N:St->Hp->Prop,(∀Z' H',N Z' H'->∃m',m'<m/\W (i+1) m' Z' H')/\∀x H',(Itl K a).yld i H x H'->g x Z H' fun Z2 H2=>tb {D with nx:=N,ct:=N,bk:=D.nx} Z2 H2):=by
 refine⟨fun i m Z H=>m=xs.length - i/\i<=xs.length/\Pv i Z H,⟨xs.length,by simp,zero_le _,h0⟩,?_⟩;rintro i m Z H ⟨rfl,hi,p⟩;have q:=hl i Z H hi p;by_cases hlt:i<xs.length
 .refine .inr ⟨⟨xs,xs[i],q,by simp[hlt]⟩,Pv (i+1),fun Z' H' p'=>⟨xs.length - (i+1),by omega,rfl,hlt,p'⟩,fun x H' y=>?_⟩;obtain⟨e,y⟩:=y;subst e;exact hs i x Z _ (y xs q) p
 .have e:i=xs.length:=by omega
  subst e;exact .inl ⟨⟨xs,q,le_refl _⟩,hd Z H p⟩
theorem GJ{K:Frag}{a:Addr}{xs:List V}{g:TG}{tb:TS}{D:Ends}{Z:St}{H:Hp}(Pv:Nat->St->Hp->Prop)(h0:Pv 0 Z H)(hl:∀i Z H,i<=xs.length->Pv i Z H->SqT K H a xs)
  (hs:∀i x Z H,xs[i]? =some x->Pv i Z H->g x Z H fun Z2 H2=>tb {D with nx:=Pv (i+1),ct:=Pv (i+1),bk:=D.nx} Z2 H2) (hd:∀Z H,Pv xs.length Z H->D.nx Z H):
  ∃W:Nat->Nat->St->Hp->Prop,(∃m,W 0 m Z H)/\∀i m Z H,W i m Z H->
   ((Itt K a).stop i H/\D.nx Z H)\/((Itt K a).go i H/\∃N:St->Hp->Prop,(∀Z' H',N Z' H'->∃m',m'<m/\W (i+1) m' Z' H')/\∀x H',(Itt K a).yld i H x H'->g x Z H' fun Z2 H2=>tb {D with nx:=N,ct:=N,bk:=D.nx} Z2 H2):=by
 refine⟨fun i m Z H=>m=xs.length - i/\i<=xs.length/\Pv i Z H,⟨xs.length,by simp,zero_le _,h0⟩,?_⟩;rintro i m Z H ⟨rfl,hi,p⟩;have q:=hl i Z H hi p;by_cases hlt:i<xs.length
 .refine .inr ⟨⟨xs,xs[i],q,by simp[hlt]⟩,Pv (i+1),fun Z' H' p'=>⟨xs.length - (i+1),by omega,rfl,hlt,p'⟩,fun x H' y=>?_⟩;obtain⟨e,y⟩:=y;subst e;exact hs i x Z _ (y xs q) p
 .have e:i=xs.length:=by omega
  subst e;exact .inl ⟨⟨xs,q,le_refl _⟩,hd Z H p⟩
theorem J5{lo:Int}{n:Nat}{g:TG}{tb:TS}{D:Ends}{Z:St}{H:Hp}(Pv:Nat->St->Hp->Prop)(h0:Pv 0 Z H)
  (hs:∀i Z H,i<n->Pv i Z H->g (.int (lo+i)) Z H fun Z2 H2=>tb {D with nx:=Pv (i+1),ct:=Pv (i+1),bk:=D.nx} Z2 H2) (hd:∀Z H,Pv n Z H->D.nx Z H):
  ∃W:Nat->Nat->St->Hp->Prop,(∃m,W 0 m Z H)/\∀i m Z H,W i m Z H->
   ((Itr lo n).stop i H/\D.nx Z H)\/((Itr lo n).go i H/\∃N:St->Hp->Prop,(∀Z' H',N Z' H'->∃m',m'<m/\W (i+1) m' Z' H')/\∀x H',(Itr lo n).yld i H x H'->g x Z H' fun Z2 H2=>tb {D with nx:=N,ct:=N,bk:=D.nx} Z2 H2):=by
 refine⟨fun i m Z H=>m=n - i/\i<=n/\Pv i Z H,⟨n,by simp,zero_le _,h0⟩,?_⟩;rintro i m Z H ⟨rfl,hi,p⟩;by_cases hlt:i<n
 .refine .inr ⟨hlt,Pv (i+1),fun Z' H' p'=>⟨n - (i+1),by omega,rfl,hlt,p'⟩,fun x H' y=>?_⟩;obtain⟨e,y⟩:=y;subst e y;exact hs i Z _ hlt p
 .have e:i=n:=by omega
  subst e;exact .inl ⟨le_refl _,hd Z H p⟩
abbrev R2:=V->V->Hp->VK->Prop
def OpR(X:Cx)(f:Value->Value->Sem Value)(r:R2):Prop:=
 ∀(pins:List (Addr×Obj))(s:Shared)(Z:St)(H:Hp)(x y:V)(v u:Value)(Q:VK),Inv X pins Z H s->RelV x v->RelV y u->r x y H Q->
  wpAny (model X.prog X.w) X.A (f v u) (EP X pins Z Q) X.xe s
def CallR(X:Cx)(f:Value)(r:List V->Hp->VK->Prop):Prop:=
 ∀(pins:List (Addr×Obj))(s:Shared)(Z:St)(H:Hp)(xs:List V)(us:List Value)(Q:VK),Inv X pins Z H s->Vals xs us->r xs H Q->
  wpAny (model X.prog X.w) X.A (call f us) (EP X pins Z Q) X.xe s
def TruR(X:Cx)(r:V->Hp->(Bool->Hp->Prop)->Prop):Prop:=
 ∀(pins:List (Addr×Obj))(s:Shared)(Z:St)(H:Hp)(x:V)(v:Value)(Q:Bool->Hp->Prop),Inv X pins Z H s->RelV x v->r x H Q->
  wpAny (model X.prog X.w) X.A (truthy v) (TP X pins Z Q) X.xe s
def tOp(r:R2)(ta tb:TE):TE:=fun Z H Q=>ta Z H fun x H1=>tb Z H1 fun y H2=>r x y H2 Q
def rI(C:Int->Int->Prop)(g:Int->Int->V):R2:=fun x y H Q=>∃i j,x= .int i/\y= .int j/\C i j/\Q (g i j) H
def rI0(g:Int->Int->V):R2:=fun x y H Q=>∃i j,x= .int i/\y= .int j/\Q (g i j) H
section
variable{X:Cx}{a b c:Expr}{ta tb tc:TE}{pos:Pos}
theorem binT(ha:PE X a ta)(hb:PE X b tb){pins:List (Addr×Obj)}{s:Shared}{Z:St}{H:Hp}{R:V->V->Hp->Prop}(I:Inv X pins Z H s)
  (h:ta Z H fun x H1=>tb Z H1 fun y H2=>R x y H2) {Q:Value->Shared->Prop} {f:Value->Value->Sem Value}
  (hf:∀v u s2 x y H2,Inv X pins Z H2 s2->RelV x v->RelV y u->R x y H2->wpAny (model X.prog X.w) X.A (f v u) Q X.xe s2):
  wpAny (model X.prog X.w) X.A (eval a X.env) (fun v s₁=>wpAny (model X.prog X.w) X.A (eval b X.env) (fun u s₂=>wpAny (model X.prog X.w) X.A (f v u) Q X.xe s₂) X.xe s₁) X.xe s:=by
 refine thn (ha pins s Z H _ I h) fun v s1 ⟨x,H1,I1,r1,q1⟩=>?_;refine thn (hb pins s1 Z H1 _ I1 q1) fun u s2 ⟨y,H2,I2,r2,q2⟩=>?_;exact hf v u s2 x y H2 I2 r1 r2 q2
theorem Ay{op:Operator}{r:R2}(ho:OpR X (binaryOp op) r)(ha:PE X a ta)(hb:PE X b tb):PE X (.BinOp a op b pos) (tOp r ta tb):=by
 intro pins s Z H Q I h;exact wpAny_BinOp (binT ha hb I h fun v u s2 x y H2 I2 rx ry q=>ho pins s2 Z H2 x y v u Q I2 rx ry q)
theorem opI{f:Value->Value->Sem Value}{C:Int->Int->Prop}{g:Int->Int->Int}
  (rule:∀(i j:Int)(t u:Tok)(s:Shared)(Q:Value->Shared->Prop)(E:Value->Shared->Prop),C i j->Q (.int (g i j) s.toks) {s with toks:=s.toks+1}->wpAny (model X.prog X.w) X.A (f (.int i t) (.int j u)) Q E s):
  OpR X f (rI C fun i j=>.int (g i j)):=by
 intro pins s Z H x y v u Q I rx ry h;obtain⟨i,j,rfl,rfl,hc,q⟩:=h;obtain⟨t,rfl⟩:=rx;obtain⟨t',rfl⟩:=ry;exact rule i j t t' s _ _ hc ⟨.int (g i j),H,I.tok _,⟨_,rfl⟩,q⟩
theorem opI0{f:Value->Value->Sem Value}{g:Int->Int->Int}
  (rule:∀(i j:Int)(t u:Tok)(s:Shared)(Q:Value->Shared->Prop)(E:Value->Shared->Prop),Q (.int (g i j) s.toks) {s with toks:=s.toks+1}->wpAny (model X.prog X.w) X.A (f (.int i t) (.int j u)) Q E s):
  OpR X f (rI0 fun i j=>.int (g i j)):=by
 intro pins s Z H x y v u Q I rx ry h;obtain⟨i,j,rfl,rfl,q⟩:=h;obtain⟨t,rfl⟩:=rx;obtain⟨t',rfl⟩:=ry;exact rule i j t t' s _ _ ⟨.int (g i j),H,I.tok _,⟨_,rfl⟩,q⟩
theorem opB0{f:Value->Value->Sem Value}{g:Int->Int->Bool}
  (rule:∀(i j:Int)(t u:Tok)(s:Shared)(Q:Value->Shared->Prop)(E:Value->Shared->Prop),Q (.bool (g i j)) s->wpAny (model X.prog X.w) X.A (f (.int i t) (.int j u)) Q E s):
  OpR X f (rI0 fun i j=>.bl (g i j)):=by
 intro pins s Z H x y v u Q I rx ry h;obtain⟨i,j,rfl,rfl,q⟩:=h;obtain⟨t,rfl⟩:=rx;obtain⟨t',rfl⟩:=ry;exact rule i j t t' s _ _ ⟨.bl (g i j),H,I,rfl,q⟩
def CMul(i j:Int):Prop:=(-(2 ^ 64)<i/\i<2 ^ 64)\/(-(2 ^ 64)<j/\j<2 ^ 64)
theorem CMul.ok{i j:Int}(h:CMul i j):IntMulOk i j:=by
 rcases h with ⟨h1,h2⟩|⟨h1,h2⟩
 .exact .of_left (intBits_le_64 h1 h2)
 .exact .of_right (intBits_le_64 h1 h2)
theorem AN:OpR X (binaryOp .Add) (rI0 fun i j=>.int (i+j)):=opI0 fun _ _ _ _ _ _ _ q=>add_int q
theorem Cm:OpR X (binaryOp .Sub) (rI0 fun i j=>.int (i - j)):=opI0 fun _ _ _ _ _ _ _ q=>sub_int q
theorem N9:OpR X (binaryOp .Mult) (rI CMul fun i j=>.int (i * j)):=opI fun _ _ _ _ _ _ _ hc q=>mul_int q hc.ok
theorem N2:OpR X (binaryOp .Mod) (rI (fun _ j=>0<j) fun i j=>.int (i % j)):=opI fun i j _ _ _ _ _ hc q=>by
 have h1:(0:Int)<j:=hc;exact mod_int' (by omega) (by rw[Int.fmod_eq_emod_of_nonneg i (by omega)];exact q)
theorem D3:OpR X (binaryOp .BitAnd) (rI0 fun i j=>.int (Builtin.bitAnd i j)):=opI0 fun _ _ _ _ _ _ _ q=>and_int q
theorem NR:OpR X (binaryOp .BitXor) (rI0 fun i j=>.int (Builtin.bitXor i j)):=opI0 fun _ _ _ _ _ _ _ q=>xor_int q
end
def scal:V->V->Bool
 | .non,.non=>true | .non,.int _=>true | .int _,.non=>true | .non,.bl _=>true | .bl _,.non=>true | .non,.str _=>true | .str _,.non=>true
 | .int _,.int _=>true | .bl _,.bl _=>true | .str _,.str _=>true | .byt _,.byt _=>true
 | .int _,.str _=>true | .str _,.int _=>true | .bl _,.str _=>true | .str _,.bl _=>true
 |_,_=>false
def rEq:R2:=fun x y H Q=>scal x y=true/\Q (.bl (decide (x=y))) H
def rNe:R2:=fun x y H Q=>scal x y=true/\Q (.bl (!decide (x=y))) H
theorem JF{i j:Int}:decide (V.int i=V.int j)=(i==j):=by
 rw[Bool.eq_iff_iff];simp
theorem KP{i j:Bool}:decide (V.bl i=V.bl j)=(i==j):=by
 rw[Bool.eq_iff_iff];simp
theorem Jw{i j:Str}:decide (V.str i=V.str j)=(i==j):=by
 rw[Bool.eq_iff_iff];simp
theorem Jq{i j:Array UInt8}:decide (V.byt i=V.byt j)=(i.toList==j.toList):=by
 rw[Bool.eq_iff_iff];cases i;cases j;simp
section
variable{X:Cx}{a b c:Expr}{ta tb tc:TE}{pos:Pos}
theorem AH{pins:List (Addr×Obj)}{Z:St}{H:Hp}{s:Shared}{Q:VK}{k k':Bool}(I:Inv X pins Z H s)(q:Q (.bl k) H)(e:k=k'):EP X pins Z Q (.bool k') s:=by
 subst e;exact⟨.bl k,H,I,rfl,q⟩
theorem Be:OpR X (compareOp .Eq) rEq:=by
 intro pins s Z H x y v u Q I rx ry h;obtain⟨hs,q⟩:=h;cases x with
 |non=>
  cases rx;cases y with
  |non=>cases ry;exact PySem.EqNone.eq_none_none (AH I q (by simp))
  |bl j=>cases ry;exact PySem.EqNone.eq_none_bool (AH I q (by simp))
  |int j=>obtain⟨t',rfl⟩:=ry;exact PySem.EqNone.eq_none_int (AH I q (by simp))
  |str j=>obtain⟨t',rfl⟩:=ry;exact PySem.EqNone.eq_none_str (AH I q (by simp))
  |_=>exact absurd (show false=true from hs) Bool.false_ne_true
 |bl i=>
  cases rx;cases y with
  |non=>cases ry;exact PySem.EqNone.eq_bool_none (AH I q (by simp))
  |bl j=>cases ry;exact eq_bool (AH I q KP)
  |str j=>obtain⟨t',rfl⟩:=ry;exact PySem.EqMixed.eq_bool_str (AH I q (by simp))
  |_=>exact absurd (show false=true from hs) Bool.false_ne_true
 |int i=>
  obtain⟨t,rfl⟩:=rx;cases y with
  |non=>cases ry;exact PySem.EqNone.eq_int_none (AH I q (by simp))
  |int j=>obtain⟨t',rfl⟩:=ry;exact eq_int (AH I q JF)
  |str j=>obtain⟨t',rfl⟩:=ry;exact PySem.EqMixed.eq_int_str (AH I q (by simp))
  |_=>exact absurd (show false=true from hs) Bool.false_ne_true
 |str i=>
  obtain⟨t,rfl⟩:=rx;cases y with
  |non=>cases ry;exact PySem.EqNone.eq_str_none (AH I q (by simp))
  |bl j=>cases ry;exact PySem.EqMixed.eq_str_bool (AH I q (by simp))
  |int j=>obtain⟨t',rfl⟩:=ry;exact PySem.EqMixed.eq_str_int (AH I q (by simp))
  |str j=>obtain⟨t',rfl⟩:=ry;exact eq_str (AH I q Jw)
  |_=>exact absurd (show false=true from hs) Bool.false_ne_true
 |byt i=>
  obtain⟨t,rfl⟩:=rx;cases y with
  |byt j=>obtain⟨t',rfl⟩:=ry;exact PySem.W.eq_bytes (AH I q Jq)
  |_=>exact absurd (show false=true from hs) Bool.false_ne_true
 |_=>cases y<;>exact absurd (show false=true from hs) Bool.false_ne_true
theorem Bj:OpR X (compareOp .NotEq) rNe:=by
 intro pins s Z H x y v u Q I rx ry h;obtain⟨hs,q⟩:=h;cases x with
 |non=>
  cases rx;cases y with
  |non=>cases ry;exact PySem.EqNone.ne_none_none (AH I q (by simp))
  |bl j=>cases ry;exact PySem.EqNone.ne_none_bool (AH I q (by simp))
  |int j=>obtain⟨t',rfl⟩:=ry;exact PySem.EqNone.ne_none_int (AH I q (by simp))
  |str j=>obtain⟨t',rfl⟩:=ry;exact PySem.EqNone.ne_none_str (AH I q (by simp))
  |_=>exact absurd (show false=true from hs) Bool.false_ne_true
 |bl i=>
  cases rx;cases y with
  |non=>cases ry;exact PySem.EqNone.ne_bool_none (AH I q (by simp))
  |bl j=>cases ry;exact ne_bool (AH I q (congrArg not KP))
  |str j=>obtain⟨t',rfl⟩:=ry;exact PySem.EqMixed.ne_bool_str (AH I q (by simp))
  |_=>exact absurd (show false=true from hs) Bool.false_ne_true
 |int i=>
  obtain⟨t,rfl⟩:=rx;cases y with
  |non=>cases ry;exact PySem.EqNone.ne_int_none (AH I q (by simp))
  |int j=>obtain⟨t',rfl⟩:=ry;exact ne_int (AH I q (congrArg not JF))
  |str j=>obtain⟨t',rfl⟩:=ry;exact PySem.EqMixed.ne_int_str (AH I q (by simp))
  |_=>exact absurd (show false=true from hs) Bool.false_ne_true
 |str i=>
  obtain⟨t,rfl⟩:=rx;cases y with
  |non=>cases ry;exact PySem.EqNone.ne_str_none (AH I q (by simp))
  |bl j=>cases ry;exact PySem.EqMixed.ne_str_bool (AH I q (by simp))
  |int j=>obtain⟨t',rfl⟩:=ry;exact PySem.EqMixed.ne_str_int (AH I q (by simp))
  |str j=>obtain⟨t',rfl⟩:=ry;exact ne_str (AH I q (congrArg not Jw))
  |_=>exact absurd (show false=true from hs) Bool.false_ne_true
 |byt i=>
  obtain⟨t,rfl⟩:=rx;cases y with
  |byt j=>obtain⟨t',rfl⟩:=ry;exact PySem.W.ne_bytes (AH I q (congrArg not Jq))
  |_=>exact absurd (show false=true from hs) Bool.false_ne_true
 |_=>cases y<;>exact absurd (show false=true from hs) Bool.false_ne_true
theorem CG:OpR X (compareOp .Lt) (rI0 fun i j=>.bl (decide (i<j))):=opB0 fun _ _ _ _ _ _ _ q=>lt_int q
theorem Dc:OpR X (compareOp .LtE) (rI0 fun i j=>.bl (decide (i<=j))):=opB0 fun _ _ _ _ _ _ _ q=>le_int q
theorem HH:OpR X (compareOp .Gt) (rI0 fun i j=>.bl (decide (j<i))):=opB0 fun _ _ _ _ _ _ _ q=>gt_int q
theorem HE:OpR X (compareOp .GtE) (rI0 fun i j=>.bl (decide (j<=i))):=opB0 fun _ _ _ _ _ _ _ q=>ge_int q
theorem Gw:OpR X (compareOp .Is) (fun x y H Q=>y= .non/\Q (.bl (decide (x= .non))) H):=by
 intro pins s Z H x y v u Q I rx ry h;obtain⟨rfl,q⟩:=h;cases ry;refine is_none_gen (AH I q ?_)
 cases x<;>first
  |(cases rx;rfl)
  |(obtain⟨t,rfl⟩:=rx;rfl)
theorem M0:OpR X (compareOp .IsNot) (fun x y H Q=>y= .non/\Q (.bl (!decide (x= .non))) H):=by
 intro pins s Z H x y v u Q I rx ry h;obtain⟨rfl,q⟩:=h;cases ry;refine isnot_none_gen (AH I q ?_)
 cases x<;>first
  |(cases rx;rfl)
  |(obtain⟨t,rfl⟩:=rx;rfl)
theorem nomark(b:Expr){op:CmpOp}(h:op≠ .In:=by decide)(h2:op≠ .NotIn:=by decide):behindInMarks op b=false:=by
 have e1:(op==CmpOp.In)=false:=by cases op<;>first|rfl|exact absurd rfl h
 have e2:(op==CmpOp.NotIn)=false:=by cases op<;>first|rfl|exact absurd rfl h2
 cases b<;>simp[behindInMarks,e1,e2]
theorem AW{op:CmpOp}{r:R2}(ho:OpR X (compareOp op) r)(ha:PE X a ta)(hb:PE X b tb)(hm:behindInMarks op b=false):PE X (.Compare a [op] [b] pos) (tOp r ta tb):=by
 intro pins s Z H Q I h;exact wpAny_Compare1 (binT ha hb I h fun v u s2 x y H2 I2 rx ry q=>ho pins s2 Z H2 x y v u Q I2 rx ry q) hm
def tTest(t:TE):TT:=fun Z H Q=>t Z H fun x H'=>∃k,x= .bl k/\Q k H'
theorem An{op:CmpOp}{r:R2}(ho:OpR X (compareOp op) r)(ha:PE X a ta)(hb:PE X b tb)(hm:behindInMarks op b=false):PT X (.Compare a [op] [b] pos) (tTest (tOp r ta tb)):=by
 intro pins s Z H Q I h
 refine wpAny_isTrue_Compare1 (thn (ha pins s Z H _ I h) fun v s1 ⟨x,H1,I1,r1,q1⟩=>thn (hb pins s1 Z H1 _ I1 q1) fun u s2 ⟨y,H2,I2,r2,q2⟩=>
  thn (ho pins s2 Z H2 x y v u _ I2 r1 r2 q2) fun c s3 ⟨z,H3,I3,r3,k,e,q3⟩=>?_) hm
 subst e;cases r3;exact wpAny_truthy_bool ⟨H3,I3,q3⟩
def tChain(r r':R2)(ta tb tc:TE):TE:=fun Z H Q=>ta Z H fun x H1=>tb Z H1 fun y H2=>r x y H2 fun z H3=>∃k,z= .bl k/\
 (if k=true then tc Z H3 fun w' H4=>r' y w' H4 Q else Q (.bl false) H3)
theorem Fx{op op':CmpOp}{r r':R2}(ho:OpR X (compareOp op) r)(ho':OpR X (compareOp op') r')(ha:PE X a ta)(hb:PE X b tb)(hc:PE X c tc)
  (hm:lastMarks [op,op'] [b,c]=false:=by with_unfolding_all rfl):PE X (.Compare a [op,op'] [b,c] pos) (tChain r r' ta tb tc):=by
 intro pins s Z H Q I h
 refine Compare_chain (thn (ha pins s Z H _ I h) fun v s1 ⟨x,H1,I1,r1,q1⟩=>chain_link (thn (hb pins s1 Z H1 _ I1 q1) fun u s2 ⟨y,H2,I2,r2,q2⟩=>
  thn (ho pins s2 Z H2 x y v u _ I2 r1 r2 q2) fun d s3 ⟨z,H3,I3,r3,k,e,q3⟩=>?_)) hm
 subst e;cases r3;refine wpAny_truthy_bool ?_;cases k with
 |false=>exact ite_ff ⟨.bl false,H3,I3,rfl,q3⟩
 |true=>exact ite_tt (chain_last (thn (hc pins s3 Z H3 _ I3 q3) fun w' s4 ⟨z',H4,I4,r4,q4⟩=>ho' pins s4 Z H4 y z' u w' Q I4 r2 r4 q4))
theorem Lp{op op':CmpOp}{r r':R2}(ho:OpR X (compareOp op) r)(ho':OpR X (compareOp op') r')(ha:PE X a ta)(hb:PE X b tb)(hc:PE X c tc)
  (hm:lastMarks [op,op'] [b,c]=false:=by with_unfolding_all rfl):PT X (.Compare a [op,op'] [b,c] pos) (tTest (tChain r r' ta tb tc)):=by
 intro pins s Z H Q I h
 refine isTrue_chain (thn (ha pins s Z H _ I h) fun v s1 ⟨x,H1,I1,r1,q1⟩=>test_link (thn (hb pins s1 Z H1 _ I1 q1) fun u s2 ⟨y,H2,I2,r2,q2⟩=>
  thn (ho pins s2 Z H2 x y v u _ I2 r1 r2 q2) fun d s3 ⟨z,H3,I3,r3,k,e,q3⟩=>?_)) hm
 subst e;cases r3;refine wpAny_truthy_bool ?_;cases k with
 |false=>
  obtain⟨k',e',q'⟩:=q3;cases e';exact ite_ff ⟨H3,I3,q'⟩
 |true=>
  refine ite_tt (test_last (thn (hc pins s3 Z H3 _ I3 q3) fun w' s4 ⟨z',H4,I4,r4,q4⟩=>thn (ho' pins s4 Z H4 y z' u w' _ I4 r2 r4 q4) fun d' s5 ⟨z2,H5,I5,r5,k2,e2,q5⟩=>?_));subst e2;cases r5;exact wpAny_truthy_bool ⟨H5,I5,q5⟩
def TruV(K:Frag)(x:V)(H:Hp)(k:Bool):Prop:=
 match x with
 | .non=>k=false
 | .bl b=>k=b
 | .int i=>k=(i != 0)
 | .str y=>y.length<=sizeLine/\k=((y.length:Int) != 0)
 | .byt y=>y.size<=sizeLine/\k=((y.size:Int) != 0)
 | .ref p=>(∃xs,SqL K H p xs/\k= !xs.isEmpty)\/(∃xs,SqT K H p xs/\k= !xs.isEmpty)\/∃kvs,H p=some (.dK kvs)/\k= !kvs.isEmpty
 |_=>False
theorem Jg{κ:Type}{kvs:List (κ×V)}{vs:List (κ×Value)}(r:KV kvs vs):(!vs.isEmpty)= !kvs.isEmpty:=by
 cases r<;>rfl
theorem Fb{xs:List V}{its:List Value}(r:Vals xs its):(!its.toArray.isEmpty)= !xs.isEmpty:=by
 cases r<;>simp
theorem line63:(sizeLine:Nat)<2 ^ 63:=by rw[sizeLine_eq];decide
theorem NJ:TruR X (fun x H Q=>∃k,TruV X.K x H k/\Q k H):=by
 intro pins s Z H x v Q I rx h;obtain⟨k,e,q⟩:=h;have hl:=line63;have hs:sizeLine=16777216:=sizeLine_eq;cases x with
 |non=>
  cases rx;have e':k=false:=e;subst e';exact truthy_none ⟨H,I,q⟩
 |bl b=>
  cases rx;have e':k=b:=e;subst e';exact wpAny_truthy_bool ⟨H,I,q⟩
 |int i=>
  obtain⟨t,rfl⟩:=rx;have e':k=(i != 0):=e;subst e';exact PySem.P.truthy_int ⟨H,I,q⟩
 |str y=>
  obtain⟨t,rfl⟩:=rx;obtain⟨hy,e'⟩:y.length<=sizeLine/\k=((y.length:Int) != 0):=e;subst e';exact PySem.P.truthy_str (by omega) ⟨H,I.tok _,q⟩
 |byt y=>
  obtain⟨t,rfl⟩:=rx;obtain⟨hy,e'⟩:y.size<=sizeLine/\k=((y.size:Int) != 0):=e;subst e';exact PySem.W.truthy_bytes (by omega) ⟨H,I.tok _,q⟩
 |ref p=>
  cases rx;have e':(∃xs,SqL X.K H p xs/\k= !xs.isEmpty)\/(∃xs,SqT X.K H p xs/\k= !xs.isEmpty)\/∃kvs,H p=some (.dK kvs)/\k= !kvs.isEmpty:=e;rcases e' with ⟨xs,hx,e'⟩|⟨xs,hx,e'⟩|⟨kvs,hx,e'⟩
  .subst e';obtain⟨its,r,pl,hz⟩:=I.list hx;have hlen:=r.length;exact wpAny_truthy_list pl.isList (by simp only[size_toArray];omega) ⟨H,I.tok _,by rw[Fb r];exact q⟩
  .subst e';obtain⟨its,r,pl,hz⟩:=I.tuple hx;have hlen:=r.length;exact truthy_tuple pl (by simp only[size_toArray];omega) ⟨H,I.tok _,by rw[Fb r];exact q⟩
  .subst e';obtain⟨hz,hS,vs,r,m⟩:kvs.length<=sizeLine/\(p==sysModules)=false/\∃vs,KV kvs vs/\s.heap.DictOf (mixKind X.prog X.w) p vs:=I.hok p _ hx;have hlen:kvs.length=vs.length:=Paired.length r;exact wpAny_truthy_dict hS m (by omega) ⟨H,I.tok _,by rw[Jg r];exact q⟩
 |_=>exact(show False from e).elim
theorem LF(ha:PE X a ta)(he:∀whole,isTrue a X.env whole=(do let v<-whole;standAt a.pos;holding [v] (truthy v))):
  PT X a (fun Z H Q=>ta Z H fun x H'=>∃k,TruV X.K x H' k/\Q k H'):=by
 intro pins s Z H Q I h;exact isTrue_plain (thn (ha pins s Z H _ I h) fun v s1 ⟨x,H1,I1,r1,q1⟩=>NJ pins s1 Z H1 x v Q I1 r1 q1) (he _)
theorem vals1{x:V}{us:List Value}(r:Vals [x] us):∃u,us=[u]/\RelV x u:=by
 cases r with
 |cons r1 r2=>cases r2;exact⟨_,rfl,r1⟩
theorem vals2{x y:V}{us:List Value}(r:Vals [x,y] us):∃u w',us=[u,w']/\RelV x u/\RelV y w':=by
 cases r with
 |cons r1 r2=>
  cases r2 with
  |cons r3 r4=>cases r4;exact⟨_,_,rfl,r1,r3⟩
theorem JV(hc:X.calm=true):CallR X (.builtin "min") (fun xs H Q=>∃i j,xs=[.int i,.int j]/\Q (.int (if j<i then j else i)) H):=by
 intro pins s Z H xs us Q I r h;obtain⟨i,j,rfl,q⟩:=h;obtain⟨u,w',rfl,⟨t,rfl⟩,⟨t',rfl⟩⟩:=vals2 r;refine min_two_ints (I.ok.hd hc) fun h' tk k=>⟨_,H,I.kept k,?_,q⟩;by_cases hj:j<i
 .rw[if_pos hj,if_pos hj];exact⟨_,rfl⟩
 .rw[if_neg hj,if_neg hj];exact⟨_,rfl⟩
end
structure ObjM (h:Heap) (x dx C:Addr) (mA:Str->Option Value):Prop where
 obj:h.get? x=some (instObj C dx)
 ns:h.Ns1 dx mA
 ne:dx≠x
theorem J2{h:Heap}{dx:Addr}{mA:Str->Option Value}(n:h.Ns1 dx mA):∃od,h.get? dx=some od/\∀name,lookIn name od=some (mA name):=by
 obtain⟨o,es,ep,ho,hd,hk,_,hm⟩:=n;refine⟨o,ho,fun name=>?_⟩;have e:=hm name;unfold nsFind findBy at e;rw[<-Array.find?_toList]at e;unfold lookIn;rw[hd];dsimp only;split
 .rename_i y q;rw[q]at e;exact congrArg some e
 .rename_i q;rw[q]at e
  have a:es.toList.any (·.refKey)=false:=by
   rw[List.any_eq_false];intro y hy;obtain⟨z,t,hkey⟩:=hk y (Array.mem_toList_iff.mp hy);simp[DictEntry.refKey,hkey]
  have a':¬es.toList.any (·.refKey)=true:=by rw[a];exact Bool.false_ne_true
  rw[if_neg a'];exact congrArg some e
theorem ObjM.look{h:Heap}{x dx C:Addr}{mA:Str->Option Value}(I:ObjM h x dx C mA):∃od,PySem.W.InstAt h x (instObj C dx) C (some od)/\∀name,lookIn name od=some (mA name):=
 let ⟨od,ho,hl⟩:=J2 I.ns
 ⟨od,⟨I.obj,rfl,rfl,ho⟩,hl⟩
section
variable{prog:Program}{w:World}{A:Around}{E:Value->Shared->Prop}{s:Shared}{K:Frag}{x dx C f:Addr}{mA:Str->Option Value}{name:Str}{v:Value}
theorem ME{expr:Bool}{Q:Value->Shared->Prop}(X:K.In s.heap)(I:ObjM s.heap x dx C mA)(hg:plainGet K C name=true)(hh:PySem.W.hasDictIn K C=true)
  (ha:findIn K (.ref C) name=some none) (hv:mA name=some v) (hv':PySem.W.handedIn v=true) (h:Q v {s with toks:=s.toks+1}):
  wpAny (model prog w) A (getAttr (.ref x) name expr) Q E s:=by
 obtain⟨od,J,hl⟩:=I.look;exact PySem.W.get_value X J (PySem.W.plainGet_of hg).1 (PySem.W.findObj_own hh ha rfl (by rw[hl,hv])) hv' h
theorem LA{pl:Sem Bool}{Q:Value×List Value->Shared->Prop}(X:K.In s.heap)(I:ObjM s.heap x dx C mA)(hg:plainGet K C name=true)
  (hf:findIn K (.ref C) name=some (some (.ref f))) (ht:isFn K (.ref f)=true) (hv:mA name=none) (h:Q (.ref f,[.ref x]) s):
  wpAny (model prog w) A (getMethod (.ref x) name pl) Q E s:=by
 obtain⟨od,J,hl⟩:=I.look;exact PySem.W.method_fn X J (PySem.W.plainGet_of hg).1 (PySem.W.plainGet_of hg).2 hf (beq_iff_eq.mp ht) (by show(lookIn name od).map (·.isSome)=some false;rw[hl,hv];rfl) h
theorem MF{ns:List Str}{Q:Unit->Shared->Prop}(X:K.In s.heap)(I:ObjM s.heap x dx C mA)
  (hs:findIn K (.ref C) "__setattr__"=some (some (.builtin "object.__setattr__"))) (hp:PySem.W.plainOver K C=true) (ht:PySem.W.takerIn K C name=some none) (hh:PySem.W.hasDictIn K C=true)
  (hw:PySem.Within mA ns) (hsz:ns.length<=sizeLine)
  (h:∀h',ObjM h' x dx C (fun y=>if y=name then some v else mA y)->Heap.SameBut dx s.heap h'->Q () {s with heap:=h',toks:=s.toks+2}):
  wpAny (model prog w) A (setAttr (.ref x) name v) Q E s:=by
 obtain⟨od,J,hl⟩:=I.look;refine PySem.W.set_plain X J hs (PySem.W.osa_open (s:={s with toks:=s.toks+1}) (r:=none) X J hp ht fun b=>?_);obtain⟨cd,hc,hd'⟩:=PySem.W.any_some hh;have hx:s.heap.get? x=some ⟨.ref C,some dx,.plain, #[]⟩:=I.obj;refine wpAny_bind (wpAny_pure (wpAny_bind (wpAny_bind (wpAny_loadPart hx (wpAny_bind (PySem.W.Looks.here (s:={s with toks:=s.toks+1}) (PySem.W.looks_clsIn X hc) ?_))))));rw[hd'];refine wpAny_pure (a:=some dx) (wpAny_bind (wpAny_pure (wpAny_bind ?_)));refine wpAny_nsSet1 (s:={s with toks:=s.toks+1}) I.ns fun h' hn2 hs2=>?_;obtain⟨oD,esD,epD,hoD,hdD,hcD⟩:=hn2.count (PySem.Within.cons name v hw);refine wpAny_bind (wpAny_lookBehind hoD (by rw[hdD];exact pastItsLine_dict (le_trans hcD (by rw[length_cons];omega))) ?_);exact wpAny_pure (h _ ⟨(hs2.2 _ (Ne.symm I.ne)).trans I.obj,hn2,I.ne⟩ hs2)
theorem KM{R:Result->Shared->Prop}{vs:List Value}{kw:List (Str×Value)}(X:K.In s.heap)(hm:PySem.W.makesIn K C=true)
  (hi:findIn K (.ref C) "__init__"=some (some (.ref f))) (hf:PySem.W.typeIn K (.ref f)=some (.type "function"))
  (h:codeAny (model prog w) (A.under (.builtin "type.__call__" ⟨.ref C::vs,kw⟩)) (.call (.ref f) ⟨.ref (s.heap.objs.size+1)::vs,kw⟩) (PySem.W.InitBack (s.heap.objs.size+1) R)
   {s with heap:=(s.heap.push emptyDict).push (instObj C s.heap.objs.size)}):
  codeAny (model prog w) A (.call (.ref C) ⟨vs,kw⟩) R s:=by
 obtain⟨hh,g,d,t,os⟩:=s;exact PySem.W.make_core (PySem.W.makes_of X hm) (PySem.W.looks_findIn X hi) (fun self=>PySem.W.bind_fn X self hf) (.inl rfl) h
end
def putF(f:Str)(v:V):List (Str×V)->List (Str×V)
 |[]=>[(f,v)]
 |(g,x)::r=>if g=f then(g,v)::r else(g,x)::putF f v r
theorem Em(f g:Str)(v:V):∀fs:List (Str×V),(putF f v fs).lookup g=if g=f then some v else fs.lookup g
 |[]=>by
  show List.lookup g [(f,v)]=_;by_cases h:g=f
  .have hb:(g==f)=true:=beq_iff_eq.mpr h;simp only[List.lookup,hb,if_pos h]
  .have hb:(g==f)=false:=beq_eq_false_iff_ne.mpr h;simp only[List.lookup,hb,if_neg h]
 |(k,x)::r=>by
  have ih:=Em f g v r;rw[show putF f v ((k,x)::r)=(if k=f then(k,v)::r else(k,x)::putF f v r) from rfl];by_cases hk:k=f
  .rw[if_pos hk];by_cases h:g=k
   .have hb:(g==k)=true:=beq_iff_eq.mpr h;simp only[List.lookup,hb,if_pos (h.trans hk)]
   .have hb:(g==k)=false:=beq_eq_false_iff_ne.mpr h;simp only[List.lookup,hb,if_neg (fun e:g=f=>h (e.trans hk.symm))]
  .rw[if_neg hk];by_cases h:g=k
   .have hb:(g==k)=true:=beq_iff_eq.mpr h;simp only[List.lookup,hb,if_neg (fun e:g=f=>hk (h.symm.trans e))]
   .have hb:(g==k)=false:=beq_eq_false_iff_ne.mpr h;simp only[List.lookup,hb];exact ih
theorem D7(f:Str)(v:V):∀fs:List (Str×V),f∈(putF f v fs).map (·.1)/\∀g,g∈fs.map (·.1)->g∈(putF f v fs).map (·.1)
 |[]=>⟨by simp[putF],fun g h=>by simp at h⟩
 |(k,x)::r=>by
  obtain⟨i1,i2⟩:=D7 f v r;rw[show putF f v ((k,x)::r)=(if k=f then(k,v)::r else(k,x)::putF f v r) from rfl];by_cases hk:k=f
  .rw[if_pos hk];subst hk;exact⟨by simp,fun g h=>by simpa using h⟩
  .rw[if_neg hk];refine⟨?_,fun g h=>?_⟩
   .rw[map_cons];exact mem_cons_of_mem _ i1
   .rw[map_cons]at h⊢;rcases mem_cons.mp h with e|e
    .exact mem_cons.mpr (.inl e)
    .exact mem_cons_of_mem _ (i2 g e)
theorem Ek(f:Str)(v:V):∀fs:List (Str×V),(putF f v fs).length<=fs.length+1
 |[]=>by simp[putF]
 |(k,x)::r=>by
  have ih:=Ek f v r;rw[show putF f v ((k,x)::r)=(if k=f then(k,v)::r else(k,x)::putF f v r) from rfl];by_cases hk:k=f
  .rw[if_pos hk,length_cons,length_cons];omega
  .rw[if_neg hk,length_cons,length_cons];omega
theorem RelO.some_of{v:V}{o:Option Value}(r:RelO (some v) o):∃u,o=some u/\RelV v u:=by
 cases o with
 |none=>exact(show False from r).elim
 |some u=>exact⟨u,rfl,r⟩
theorem RelO.none_of{o:Option Value}(r:RelO none o):o=none:=by
 cases o with
 |none=>rfl
 |some u=>exact(show False from r).elim
theorem KC{v:V}{u:Value}(r:RelV v u):PySem.W.handedIn u=true:=by
 cases v with
 |non=>cases(show u=Value.none from r);rfl
 |bl b=>cases(show u=Value.bool b from r);rfl
 |int i=>obtain⟨t,e⟩:=(show∃t,u=Value.int i t from r);cases e;rfl
 |str x=>obtain⟨t,e⟩:=(show∃t,u=Value.str x t from r);cases e;rfl
 |byt b=>obtain⟨t,e⟩:=(show∃t,u=Value.bytes b t from r);cases e;rfl
 |flt b=>obtain⟨t,e⟩:=(show∃t,u=Value.float b t from r);cases e;rfl
 |ref a=>cases(show u=Value.ref a from r);rfl
 |ty n=>cases(show u=Value.type n from r);rfl
section
variable{P:Program}{w:World}{H H':Hp}{h h':Heap}{a C dx:Addr}{fs fs':List (Str×V)}
theorem G4(hok:HOk P w H h)(e:H a=some (.ins C dx fs)):∃mA,ObjM h a dx C mA/\(∀f,RelO (fs.lookup f) (mA f))/\PySem.Within mA (fs.map (·.1))/\fs.length<=1000/\H dx=some (.own a):=by
 obtain⟨d,z,ne,ob,mA,n,r,q⟩:=(show ObjOk P w H h a (.ins C dx fs) from hok a _ e);exact⟨mA,⟨ob,n,ne⟩,r,q,z,d⟩
end
structure Cls (K:Frag) (C:Addr):Prop where
 pg:plainGet K C Str.empty=true
 hd:PySem.W.hasDictIn K C=true
 po:PySem.W.plainOver K C=true
 sa:findIn K (.ref C) "__setattr__"=some (some (.builtin "object.__setattr__"))
theorem Cls.get{K:Frag}{C:Addr}(c:Cls K C)(f:Str):plainGet K C f=true:=c.pg
def NoAttr(K:Frag)(C:Addr)(f:Str):Prop:=findIn K (.ref C) f=some none
theorem NoAttr.taker{K:Frag}{C:Addr}{f:Str}(n:NoAttr K C f):PySem.W.takerIn K C f=some none:=by
 unfold PySem.W.takerIn;rw[show findIn K (.ref C) f=some none from n];rfl
structure Meth (K:Frag) (C:Addr) (m:Str) (f:Addr):Prop where
 at_:findIn K (.ref C) m=some (some (.ref f))
 fn:isFn K (.ref f)=true
 kp:PySem.W.keepIn K (.ref f)=true
section
variable{X:Cx}{pins:List (Addr×Obj)}{Z:St}{H:Hp}{s:Shared}{a C dx:Addr}{fs:List (Str×V)}{f:Str}{v:V}{A:Around}{E:Value->Shared->Prop}
theorem E3{b:Bool}{Q:Value->Shared->Prop}(I:Inv X pins Z H s)(e:H a=some (.ins C dx fs))(c:Cls X.K C)(n:NoAttr X.K C f)(l:fs.lookup f=some v)
  (h:∀u s',Inv X pins Z H s'->RelV v u->Q u s'):wpAny (model X.prog X.w) A (getAttr (.ref a) f b) Q E s:=by
 obtain⟨mA,O,r,_,_,_⟩:=G4 I.hok e;obtain⟨u,hu,ru⟩:=RelO.some_of (v:=v) (o:=mA f) (by rw[<-l];exact r f);exact ME I.kIn O (c.get f) c.hd n hu (KC ru) (h u _ (I.tok _) ru)
theorem E1{m:Str}{g:Addr}{pl:Sem Bool}{Q:Value×List Value->Shared->Prop}(I:Inv X pins Z H s)(e:H a=some (.ins C dx fs))(c:Cls X.K C)(k:Meth X.K C m g)(l:fs.lookup m=none)
  (h:Q (.ref g,[.ref a]) s):wpAny (model X.prog X.w) A (getMethod (.ref a) m pl) Q E s:=by
 obtain⟨mA,O,r,_,_,_⟩:=G4 I.hok e;have hn:mA m=none:=RelO.none_of (by rw[<-l];exact r m);exact LA I.kIn O (c.get m) k.at_ k.fn hn h
theorem ET{y:V}{u:Value}{Q:Unit->Shared->Prop}(I:Inv X pins Z H s)(e:H a=some (.ins C dx fs))(c:Cls X.K C)(n:NoAttr X.K C f)(hl:fs.length<1000)(ry:RelV y u)
  (h:∀s',Inv X pins Z (aj H a (.ins C dx (putF f y fs))) s'->Q () s'):wpAny (model X.prog X.w) A (setAttr (.ref a) f u) Q E s:=by
 obtain⟨mA,O,r,wi,_,ho⟩:=G4 I.hok e;have hz:(fs.map (·.1)).length<=sizeLine:=by rw[length_map,sizeLine_eq];omega
 refine MF I.kIn O c.sa c.po n.taker c.hd wi hz fun h' O' sb=>h _ ?_;have hd:∃o,h'.get? dx=some o:=let ⟨o,_,_,e',_⟩:=O'.ns;⟨o,e'⟩;refine I.write (x:=a) (e:=dx) (by rw[e];exact True.intro) (.inr ho) (fun b q hb z=>(sb.2 b hb).trans z) hd ?_;refine⟨by rw[Am O.ne];exact ho,?_,O.ne,O'.obj,_,O'.ns,fun g=>?_,fun g hg=>?_⟩
 .have:=Ek f y fs;omega
 .show RelO ((putF f y fs).lookup g) (if g=f then some u else mA g);rw[Em];by_cases q:g=f
  .rw[if_pos q,if_pos q];exact ry
  .rw[if_neg q,if_neg q];exact r g
 .by_cases q:g=f
  .rw[q];exact(D7 f y fs).1
  .refine(D7 f y fs).2 g (wi g fun z=>hg ?_);show(if g=f then some u else mA g)=none;rw[if_neg q];exact z
theorem Inv.made(I:Inv X pins Z H s):Inv X pins Z (aj (aj H s.heap.objs.size (.own (s.heap.objs.size+1))) (s.heap.objs.size+1) (.ins C s.heap.objs.size []))
  {s with heap:=(s.heap.push emptyDict).push (instObj C s.heap.objs.size)}:=by
 have e1:(s.heap.push emptyDict).get? s.heap.objs.size=some emptyDict:=get?_push_size s.heap rfl
 have e2:((s.heap.push emptyDict).push (instObj C s.heap.objs.size)).get? (s.heap.objs.size+1)=some (instObj C s.heap.objs.size):=by
  have:=get?_push_size (s.heap.push emptyDict) (o:=instObj C s.heap.objs.size) rfl
  rwa [size_push]at this
 have e3:(s.heap.push emptyDict).Ns s.heap.objs.size (fun _=>none):=⟨emptyDict, #[],_,e1,rfl,(fun e he=>absurd he (by simp)),fun _=>rfl⟩;have I1:=I.laid (a:=s.heap.objs.size) (o:=.own (s.heap.objs.size+1)) (h':=s.heap.push emptyDict) (t':=s.toks) (fun b u q=>get?_push_of_some _ q) (le_refl _) ⟨_,e1⟩;refine I1.laid (a:=s.heap.objs.size+1) (o:=.ins C s.heap.objs.size []) (t':=s.toks) (fun b u q=>get?_push_of_some _ q) (Nat.le_of_eq (size_push _ _)) ?_;have ne:s.heap.objs.size≠s.heap.objs.size+1:=ne_of_lt (Nat.lt_succ_self _);refine⟨by rw[Am ne,Ae],zero_le _,ne,e2,fun _=>none,(Heap.Ns1.of_empty e3).at fun o q=>get?_push_of_some _ q,fun _=>True.intro,fun y hy=>absurd rfl hy⟩
theorem MD{prog:Program}{w:World}{env:Env}{e:Expr}{f:Str}{pos:Pos}{s:Shared}{Q:Value->Shared->Prop}(hb:attributeBase e f env (eval e env)=eval e env)
  (h:wpAny (model prog w) A (eval e env) (fun o s₁=>wpAny (model prog w) A (getAttr o f true) Q E s₁) E s):wpAny (model prog w) A (eval (.Attribute e f pos) env) Q E s:=
 Attribute_any_ h (by rw[arm_eval_Attribute,hb])
end
def tFld(K:Frag)(ta:TE)(f:Str):TE:=fun Z H Q=>ta Z H fun x H1=>∃a C dx fs v,x= .ref a/\H1 a=some (.ins C dx fs)/\Cls K C/\NoAttr K C f/\fs.lookup f=some v/\Q v H1
def sFld(K:Frag)(ta tv:TE)(f:Str):TS:=fun D Z H=>tv Z H fun y H1=>ta Z H1 fun x H2=>∃a C dx fs,x= .ref a/\H2 a=some (.ins C dx fs)/\Cls K C/\NoAttr K C f/\fs.length<1000/\
 D.nx Z (aj H2 a (.ins C dx (putF f y fs)))
def InOp(X:Cx)(op:Operator)(rd:V->V->Hp->VK->Prop):Prop:=
 ∀(pins:List (Addr×Obj))(s:Shared)(Z:St)(H:Hp)(x y:V)(u v:Value)(Q:VK),Inv X pins Z H s->RelV x u->RelV y v->rd x y H Q->wpAny (model X.prog X.w) X.A (inplaceOp op u v) (EP X pins Z Q) X.xe s
def sFldAug(K:Frag)(ta tv:TE)(rd:V->V->Hp->VK->Prop)(f:Str):TS:=fun D Z H=>ta Z H fun x H1=>∃a C dx fs v,x= .ref a/\H1 a=some (.ins C dx fs)/\Cls K C/\NoAttr K C f/\fs.lookup f=some v/\
 tv Z H1 fun y H2=>rd v y H2 fun z H3=>∃dx' fs',H3 a=some (.ins C dx' fs')/\fs'.length<1000/\D.nx Z (aj H3 a (.ins C dx' (putF f z fs')))
section
variable{X:Cx}{o e value:Expr}{f:Str}{pos pos' tpos:Pos}{ta tv:TE}
theorem Ak(he:PE X e ta)(hb:attributeBase e f X.env (eval e X.env)=eval e X.env):PE X (.Attribute e f pos) (tFld X.K ta f):=by
 intro pins s Z H Q I h;refine MD hb (thn (he pins s Z H _ I h) fun u s1 ⟨x,H1,I1,rx,a,C,dx,fs,v,ex,ea,c,n,l,q⟩=>?_);subst ex;obtain rfl:u=Value.ref a:=rx;exact E3 I1 ea c n l fun u' s2 I2 ru=>⟨v,H1,I2,ru,q⟩
theorem AY(ha:PE X o ta)(hv:PE X value tv)(hs:swapsWith value (some (.Attribute o f pos')) pos.line X.env=pure false):PS X (.Assign [.Attribute o f pos'] value pos) (sFld X.K ta tv f):=by
 intro pins s Z H D I h;refine plainObj_wpAny_Assign_Attribute (thn (hv pins s Z H _ I h) fun u s1 ⟨y,H1,I1,ry,q⟩=>thn (ha pins s1 Z H1 _ I1 q) fun ov s2 ⟨x,H2,I2,rx,a,C,dx,fs,ex,ea,c,n,l,q2⟩=>?_) hs;subst ex;obtain rfl:ov=Value.ref a:=rx;exact ET I2 ea c n l ry fun s3 I3=>⟨Z,_,I3,q2⟩
theorem B8{op:Operator}{rd:V->V->Hp->VK->Prop}(ha:PE X o ta)(hv:PE X value tv)(hop:InOp X op rd):PS X (.AugAssign (.Attribute o f tpos) op value pos) (sFldAug X.K ta tv rd f):=by
 intro pins s Z H D I h;refine wpAny_AugAssign_AttributeAny (thn (ha pins s Z H _ I h) fun ov s1 ⟨x,H1,I1,rx,a,C,dx,fs,v,ex,ea,c,n,l,q⟩=>?_);subst ex;obtain rfl:ov=Value.ref a:=rx;refine E3 I1 ea c n l fun u s2 I2 ru=>thn (hv pins s2 Z H1 _ I2 q) fun w3 s3 ⟨y,H2,I3,ry,q3⟩=>thn (hop pins s3 Z H2 v y u w3 _ I3 ru ry q3) fun w4 s4 ⟨z,H3,I4,rz,dx',fs',ea',l',q4⟩=>?_;exact ET I4 ea' c n l' rz fun s5 I5=>⟨Z,_,I5,q4⟩
def rAdd:V->V->Hp->VK->Prop:=fun x y H Q=>∃i j,x= .int i/\y= .int j/\Q (.int (i+j)) H
theorem Fv:InOp X .Add rAdd:=by
 rintro pins s Z H x y u v Q I rx ry ⟨i,j,rfl,rfl,q⟩;obtain⟨t,rfl⟩:=(show∃t,u=Value.int i t from rx);obtain⟨t',rfl⟩:=(show∃t',v=Value.int j t' from ry);exact PyProof.Rows.iadd_int ⟨.int (i+j),H,I.tok _,⟨_,rfl⟩,q⟩
end
section
variable{X:Cx}{pins:List (Addr×Obj)}{Z:St}{H:Hp}{s:Shared}{A:Around}{E:Value->Shared->Prop}{Q:Value->Shared->Prop}{c:Value}{b:Bool}
end
structure Room (k:Nat) (A:Around):Prop where
 hd:A.handled=none
 dp:A.depth+3 * k+5<recursionLimit
 un:A.units+16 * k+200<cLine
theorem Room.mono{j k:Nat}{A:Around}(r:Room k A)(h:j<=k):Room j A:=⟨r.hd,by have:=r.dp;omega,by have:=r.un;omega⟩
theorem Room.deeper{k:Nat}{A:Around}(r:Room (k+1) A)(env:Env):Room k (A.deeper env):=
 ⟨r.hd,by have:=r.dp;show A.depth+1+3 * k+5<_;omega,by have:=r.un;show A.units+3+16 * k+200<_;omega⟩
theorem Ja{A:Around}{C:Addr}{us:List Value}{kw:List (Str×Value)}:(A.under (.builtin "type.__call__" ⟨.ref C::us,kw⟩)).depth=A.depth+1:=by
 first|rfl|simp[Around.under,Code.weight,Code.isCreation,Code.isGuard,Code.isCaller,Code.frames,Code.isFrame,guardIds]
theorem Jc{A:Around}{C:Addr}{us:List Value}{kw:List (Str×Value)}:(A.under (.builtin "type.__call__" ⟨.ref C::us,kw⟩)).units=A.units+1:=by
 first|rfl|simp[Around.under,Code.cUnits,Code.frames,Code.isFrame]
theorem Room.make{k:Nat}{A:Around}(r:Room (k+1) A)(C:Addr)(us:List Value)(kw:List (Str×Value)):Room k (A.under (.builtin "type.__call__" ⟨.ref C::us,kw⟩)):=
 ⟨r.hd,by have:=r.dp;rw[Ja];omega,by have:=r.un;rw[Jc];omega⟩
theorem Room.depth{k:Nat}{A:Around}(r:Room k A):A.depth<recursionLimit:=by have:=r.dp;omega
theorem Room.units{k:Nat}{A:Around}(r:Room k A):A.units+64<cLine:=by have:=r.un;omega
theorem Room.units0{k:Nat}{A:Around}(r:Room k A):A.units<cLine:=by have:=r.un;omega
def tNil:TA:=fun _ H Q=>Q [] H
def tCons(ta:TE)(tr:TA):TA:=fun Z H Q=>ta Z H fun x H1=>tr Z H1 fun xs H2=>Q (x::xs) H2
section
variable{X:Cx}{e:Expr}{es:List Expr}{te:TE}{t:TA}{pos:Pos}
theorem Ac:PA X [] tNil:=fun _ _ _ _ H Q I h=>Calls.spliced_nil ⟨[],H,I,.nil,h⟩
theorem Aa(ha:PE X e te)(hr:PA X es t)(hs:starEach (e::es) X.env=(false,eval e X.env)::starEach es X.env:=by rfl):PA X (e::es) (tCons te t):=by
 intro pos pins s Z H Q I h;rw[hs];show wpAny _ _ (spliced ((false,eval e X.env)::backTo pos (starEach es X.env))) _ _ s;refine Calls.spliced_cons (thn (ha pins s Z H _ I h) fun u s1 ⟨x,H1,I1,r1,q1⟩=>?_);exact thn (hr pos pins s1 Z H1 _ I1 q1) fun us s2 ⟨xs,H2,I2,r2,q2⟩=>⟨x::xs,H2,I2,.cons r1 r2,q2⟩
def tTup(t:TA):TE:=fun Z H Q=>t Z H fun xs H1=>xs.length<=sizeLine/\∀p,H1 p=none->Q (.ref p) (aj H1 p (.tup xs))
def tLst(t:TA):TE:=fun Z H Q=>t Z H fun xs H1=>xs.length<=sizeLine/\∀p,H1 p=none->Q (.ref p) (aj H1 p (.lst xs))
theorem AV{x1}(h:PA X es t):PE X (.Tuple es x1 pos) (tTup t):=by
 intro pins s Z H Q I hq;refine wpAny_Tuple_spliced (thn (h pos pins s Z H _ I hq) fun us s1 ⟨xs,H1,I1,r,z,q⟩=>⟨by rw[<-r.length];exact z,?_⟩);have hf:H1 s1.heap.objs.size=none:=I1.hok.fresh (le_refl _);refine⟨.ref s1.heap.objs.size,aj H1 s1.heap.objs.size (.tup xs),I1.laid (t':=s1.toks) (fun b u e=>get?_push_of_some _ e) (le_refl _) ?_,rfl,q _ hf⟩;exact⟨z,us,r,⟨_,get?_push_size _ rfl,rfl,_,rfl⟩⟩
theorem As(h:PA X es t):PE X (.List es pos) (tLst t):=by
 intro pins s Z H Q I hq;refine wpAny_List_spliced (thn (h pos pins s Z H _ I hq) fun us s1 ⟨xs,H1,I1,r,z,q⟩=>⟨by rw[<-r.length];exact z,?_⟩);have hf:H1 s1.heap.objs.size=none:=I1.hok.fresh (le_refl _);refine⟨.ref s1.heap.objs.size,aj H1 s1.heap.objs.size (.lst xs),I1.laid (t':=s1.toks) (fun b u e=>get?_push_of_some _ e) (le_refl _) ?_,rfl,q _ hf⟩;exact⟨z,us,0,r,get?_push_size _ rfl⟩
end
abbrev Sp:=List V->Hp->VK->XK->Prop
abbrev CXT:=List Env->Hp->Shared->XK->Value->Shared->Prop
structure Env0 (P:Program) (w:World) (K:Frag) (mg:Str->Option Value) (base:Heap) (A:Around) (outer:List Env) (s:Shared) (H:Hp):Prop where
 frames:A.frames=some outer
 mod:Mod K mg base
 bs:∀b o,base.get? b=some o->s.heap.get? b=some o/\H b=none
 bsz:base.objs.size<=s.heap.objs.size
 funs:s.heap.FunFrames base outer
 frf:∀b∈frs outer,H b=none
 hok:HOk P w H s.heap
 bare:AllBare s.gens
def CE(outer:List Env)(P:Program)(w:World)(H:Hp)(s:Shared)(Q:VK)(u:Value)(s':Shared):Prop:=
 ∃v H',s'.os=s.os/\AllBare s'.gens/\Un (frs outer) [] H H' s.heap s'.heap/\HOk P w H' s'.heap/\RelV v u/\Q v H'
def CR(CX:CXT)(outer:List Env)(P:Program)(w:World)(H:Hp)(s:Shared)(Q:VK)(E:XK)(r:Result)(s':Shared):Prop:=
 match r with
 | .ok (.ret u)=>CE outer P w H s Q u s'
 | .ok _=>False
 | .error e=>CX outer H s E e s'
structure FnOk (P:Program) (w:World) (K:Frag) (mg:Str->Option Value) (base:Heap) (CX:CXT) (k:Nat) (f:Addr) (fd:FuncData) (ps:List Str) (sp:Sp):Prop where
 len:∀vs H Q E,sp vs H Q E->vs.length=ps.length
 run:∀(A:Around)(outer:List Env)(s:Shared)(H:Hp)(args:Args)(us:List Value)(vs:List V)(Q:VK)(E:XK),Room k A->Env0 P w K mg base A outer s H->BindsTo s fd args (ps.zip us)->Vals vs us->sp vs H Q E->
  codeAny (model P w) A (.call (.ref f) args) (CR CX outer P w H s Q E) s
theorem FnOk.mono{P:Program}{w:World}{K:Frag}{mg:Str->Option Value}{base:Heap}{CX:CXT}{j k:Nat}{f:Addr}{fd:FuncData}{ps:List Str}{sp:Sp}(F:FnOk P w K mg base CX j f fd ps sp)(h:j<=k):
  FnOk P w K mg base CX k f fd ps sp:=⟨F.len,fun A outer s H args us vs Q E hr=>F.run A outer s H args us vs Q E (hr.mono h)⟩
theorem FnOk.imp{P:Program}{w:World}{K:Frag}{mg:Str->Option Value}{base:Heap}{CX:CXT}{k:Nat}{f:Addr}{fd:FuncData}{ps:List Str}{sp sp':Sp}(F:FnOk P w K mg base CX k f fd ps sp)
  (h:∀vs H Q E,sp' vs H Q E->sp vs H Q E):FnOk P w K mg base CX k f fd ps sp':=
 ⟨fun vs H Q E q=>F.len vs H Q E (h _ _ _ _ q),fun A outer s H args us vs Q E hr he hb hv hs=>F.run A outer s H args us vs Q E hr he hb hv (h _ _ _ _ hs)⟩
theorem Env0.make{P:Program}{w:World}{K:Frag}{mg:Str->Option Value}{base:Heap}{A:Around}{outer:List Env}{s:Shared}{H:Hp}(e:Env0 P w K mg base A outer s H)(C:Addr)(us:List Value)(kw:List (Str×Value)):
  Env0 P w K mg base (A.under (.builtin "type.__call__" ⟨.ref C::us,kw⟩)) outer s H:=⟨by first|exact e.frames|(simpa[Around.under,Code.envs,Code.isFrame,pushEnvs]using e.frames),e.mod,e.bs,e.bsz,e.funs,e.frf,e.hok,e.bare⟩
section
variable{X:Cx}{pins:List (Addr×Obj)}{Z:St}{H:Hp}{s s':Shared}
theorem Inv.env0(I:Inv X pins Z H s):Env0 X.prog X.w X.K X.mg X.base X.A X.stack s H:=
 ⟨I.ok.frames,I.ok.mod,I.bs,le_trans I.ok.bsz I.sz,I.stack,I.stkFree,I.hok,I.bare⟩
theorem Inv.after{Q:VK}{u:Value}(I:Inv X pins Z H s)(h:CE X.stack X.prog X.w H s Q u s'):EP X pins Z Q u s':=by
 obtain⟨v,H',os,bare,un,hok,r,q⟩:=h;obtain⟨hh,g,d,t,os'⟩:=s';obtain rfl:os'=s.os:=os;exact⟨v,H',I.call (h':=hh) (g':=g) (d':=d) (t':=t) (ch:=[]) un hok bare (fun b z=>absurd z (by simp)),r,q⟩
end
def tCall(sp:Sp)(dvs:List V)(E:XK)(t:TA):TE:=fun Z H Q=>t Z H fun vs H1=>sp (vs++dvs) H1 Q E
def tMeth(C:Addr)(m:Str)(sp:Sp)(dvs:List V)(E:XK)(ta:TE)(t:TA):TE:=fun Z H Q=>ta Z H fun x H1=>∃a dx fs,x= .ref a/\H1 a=some (.ins C dx fs)/\fs.lookup m=none/\
 t Z H1 fun vs H2=>sp (x::(vs++dvs)) H2 Q E
def tMake(C:Addr)(sp:Sp)(dvs:List V)(E:XK)(t:TA):TE:=fun Z H Q=>t Z H fun vs H1=>∀x dx,H1 x=none->H1 dx=none->dx≠x->
 sp (.ref x::(vs++dvs)) (aj (aj H1 dx (.own x)) x (.ins C dx [])) (fun v H2=>v= .non/\Q (.ref x) H2) E
def Binds(K:Frag)(fd:FuncData)(ps:List Str)(ds:List Value):Prop:=
 ∀(s:Shared)(us:List Value),K.In s.heap->(us++ds).length=ps.length->BindsTo s fd ⟨us,[]⟩ (ps.zip (us++ds))
theorem Binds.all{K:Frag}{fd:FuncData}{ps:List Str}(h:∀us:List Value,us.length=ps.length->bindArgs fd ⟨us,[]⟩=pure (ps.zip us)):Binds K fd ps []:=fun s us _ hl=>by
 rw[append_nil]at hl⊢;exact .of_eq (h us hl)
def Passes(CX:CXT)(X:Cx)(E:XK):Prop:=∀(pins:List (Addr×Obj))(Z:St)(H:Hp)(s:Shared)(e:Value)(s':Shared),Inv X pins Z H s->CX X.stack H s E e s'->X.xe e s'
section
variable{X:Cx}{CX:CXT}{k:Nat}{f C:Addr}{fd:FuncData}{ps:List Str}{sp:Sp}{dvs:List V}{ds:List Value}{E:XK}{x m:Str}{p pos apos:Pos}{e o:Expr}{es:List Expr}{ta:TE}{t:TA}
theorem Gu{pins:List (Addr×Obj)}{Z:St}{H:Hp}{s:Shared}{Q:VK}{us:List Value}{vs:List V}(F:FnOk X.prog X.w X.K X.mg X.base CX k f fd ps sp)(hr:Room k X.A)(hb:Binds X.K fd ps ds)(hd:Vals dvs ds)(hx:Passes CX X E)
  (I:Inv X pins Z H s) (r:Vals vs us) (h:sp (vs++dvs) H Q E):wpAny (model X.prog X.w) X.A (call (.ref f) us) (EP X pins Z Q) X.xe s:=by
 have r2:Vals (vs++dvs) (us++ds):=r.append hd;have hl:(us++ds).length=ps.length:=by rw[<-r2.length];exact F.len _ _ _ _ h
 refine wpAny_call (codeAny_mono (F.run X.A X.stack s H ⟨us,[]⟩ (us++ds) (vs++dvs) Q E hr I.env0 (hb s us I.kIn hl) r2 h) fun r s' hq=>?_);cases r with
 |error e=>exact hx pins Z H s e s' I hq
 |ok fl=>
  cases fl with
  |ret u=>exact I.after hq
  |next=>exact False.elim hq
  |brk=>exact False.elim hq
  |cont=>exact False.elim hq
theorem MI(F:FnOk X.prog X.w X.K X.mg X.base CX k f fd ps sp)(hr:Room k X.A)(hg:Gl X x)(hm:X.mg x=some (.ref f))(hk:PySem.W.keepIn X.K (.ref f)=true)(hb:Binds X.K fd ps ds)(hd:Vals dvs ds)(hx:Passes CX X E)
  (ha:PA X (e::es) t) (hdb:(x==("__debug__":Str))=false:=by decide) (he:starEach (e::es) X.env=(false,eval e X.env)::starEach es X.env:=by rfl) (hpl:(backTo pos (starEach es X.env)).any (·.1)=false:=by rfl):
  PE X (.Call (.Name x p) (e::es) [] pos) (tCall sp dvs E t):=by
 intro pins s Z H Q I h;refine wpAny_Call_Name_kw (DG I hg hm ?_ hdb);refine callWith_K (h₀:=X.base) I.ok.mod.kin hk (thn (ha pos pins s Z H _ I h) fun us s1 ⟨vs,H1,I1,r,q⟩=>⟨I1.kIn,?_⟩) he hpl;exact Gu F hr hb hd hx I1 r q
theorem MW{pl:Sem Bool}(he:PE X o ta)(c:Cls X.K C)(hm:Meth X.K C m f)(F:FnOk X.prog X.w X.K X.mg X.base CX k f fd ps sp)(hr:Room k X.A)(hb:Binds X.K fd ps ds)(hd:Vals dvs ds)(hx:Passes CX X E)(ha:PA X (e::es) t)
  (hst:starEach (e::es) X.env=(false,eval e X.env)::starEach es X.env:=by rfl) (hpl:(backTo pos (starEach es X.env)).any (·.1)=false:=by rfl)
  (ht:eval (.Call (.Attribute o m apos) (e::es) [] pos) X.env=(do
   let ov<-eval o X.env
   standAt apos.atName
   let (f,first)<-holding [ov] (getMethod ov m pl)
   callWith pos f first (backTo pos (starEach (e::es) X.env)) (backToKw pos (keywordEach [] X.env))):=by rfl):
  PE X (.Call (.Attribute o m apos) (e::es) [] pos) (tMeth C m sp dvs E ta t):=by
 intro pins s Z H Q I h;refine PySem.W.methodCall_KW (pl:=pl) (thn (he pins s Z H _ I h) fun u s1 ⟨x,H1,I1,rx,a,dx,fs,ex,ea,l,q⟩=>?_) ht;subst ex;obtain rfl:u=Value.ref a:=rx;refine E1 I1 ea c hm l ?_;refine callWith_K (first:=[.ref a]) (h₀:=X.base) I.ok.mod.kin hm.kp (thn (ha pos pins s1 Z H1 _ I1 q) fun us s2 ⟨vs,H2,I2,r,q2⟩=>⟨I2.kIn,?_⟩) hst hpl;exact Gu (us:=.ref a::us) (vs:=.ref a::vs) F hr hb hd hx I2 (.cons rfl r) q2
theorem Me{pl:Sem Bool}(he:PE X o ta)(c:Cls X.K C)(hm:Meth X.K C m f)(F:FnOk X.prog X.w X.K X.mg X.base CX k f fd ps sp)(hr:Room k X.A)(hb:Binds X.K fd ps ds)(hd:Vals dvs ds)(hx:Passes CX X E)
  (ht:eval (.Call (.Attribute o m apos) [] [] pos) X.env=(do
   let ov<-eval o X.env
   standAt apos.atName
   let (f,first)<-holding [ov] (getMethod ov m pl)
   callWith pos f first (backTo pos (starEach [] X.env)) (backToKw pos (keywordEach [] X.env))):=by rfl):
  PE X (.Call (.Attribute o m apos) [] [] pos) (tMeth C m sp dvs E ta tNil):=by
 intro pins s Z H Q I h;refine PySem.W.methodCall_KW (pl:=pl) (thn (he pins s Z H _ I h) fun u s1 ⟨x,H1,I1,rx,a,dx,fs,ex,ea,l,q⟩=>?_) ht;subst ex;obtain rfl:u=Value.ref a:=rx;refine E1 I1 ea c hm l ?_;exact PySem.W.callWith_K0 (first:=[.ref a]) I1.kIn hm.kp (Gu (us:=[.ref a]) (vs:=[.ref a]) F hr hb hd hx I1 (.cons rfl .nil) q)
structure Mk (K:Frag) (C f:Addr):Prop where
 makes:PySem.W.makesIn K C=true
 init:findIn K (.ref C) "__init__"=some (some (.ref f))
 fn:isFn K (.ref f)=true
 kp:PySem.W.keepIn K (.ref C)=true
theorem Ix{pins:List (Addr×Obj)}{Z:St}{H:Hp}{s:Shared}{Q:VK}{us:List Value}{vs:List V}(M:Mk X.K C f)(F:FnOk X.prog X.w X.K X.mg X.base CX k f fd ps sp)(hr:Room (k+1) X.A)(hb:Binds X.K fd ps ds)(hd:Vals dvs ds)
  (hx:Passes CX X E) (I:Inv X pins Z H s) (r:Vals vs us)
  (h:∀x dx,H x=none->H dx=none->dx≠x->sp (.ref x::(vs++dvs)) (aj (aj H dx (.own x)) x (.ins C dx [])) (fun v H2=>v= .non/\Q (.ref x) H2) E):
  wpAny (model X.prog X.w) X.A (call (.ref C) us) (EP X pins Z Q) X.xe s:=by
 have hq:=h (s.heap.objs.size+1) s.heap.objs.size (I.hok.fresh (Nat.le_succ _)) (I.hok.fresh (le_refl _)) (ne_of_lt (Nat.lt_succ_self _));have I2:=Inv.made (C:=C) I;have r2:Vals (V.ref (s.heap.objs.size+1)::(vs++dvs)) (Value.ref (s.heap.objs.size+1)::(us++ds)):=.cons rfl (r.append hd)
 have hl:(Value.ref (s.heap.objs.size+1)::us++ds).length=ps.length:=by
  have e:=r2.length;rw[F.len _ _ _ _ hq]at e;exact e.symm
 refine wpAny_call (KM (f:=f) I.kIn M.makes M.init (beq_iff_eq.mp M.fn) (codeAny_mono (F.run _ X.stack _ _ ⟨Value.ref (s.heap.objs.size+1)::us,[]⟩ (Value.ref (s.heap.objs.size+1)::(us++ds)) _ _ E (hr.make C us [])
  (I2.env0.make C us []) (hb _ (Value.ref (s.heap.objs.size+1)::us) I2.kIn hl) r2 hq) fun r s' hq'=>?_))
 cases r with
 |error e=>exact hx pins Z _ _ e s' I2 hq'
 |ok fl=>
  cases fl with
  |ret u=>
   obtain⟨v,H',I3,rv,ev,q3⟩:=I2.after hq';subst ev;exact⟨rv,⟨V.ref (s.heap.objs.size+1),H',I3,rfl,q3⟩⟩
  |next=>exact False.elim hq'
  |brk=>exact False.elim hq'
  |cont=>exact False.elim hq'
theorem MA(M:Mk X.K C f)(F:FnOk X.prog X.w X.K X.mg X.base CX k f fd ps sp)(hr:Room (k+1) X.A)(hg:Gl X x)(hm:X.mg x=some (.ref C))(hb:Binds X.K fd ps ds)(hd:Vals dvs ds)(hx:Passes CX X E)
  (ha:PA X (e::es) t) (hdb:(x==("__debug__":Str))=false:=by decide) (he:starEach (e::es) X.env=(false,eval e X.env)::starEach es X.env:=by rfl) (hpl:(backTo pos (starEach es X.env)).any (·.1)=false:=by rfl):
  PE X (.Call (.Name x p) (e::es) [] pos) (tMake C sp dvs E t):=by
 intro pins s Z H Q I h;refine wpAny_Call_Name_kw (DG I hg hm ?_ hdb);refine callWith_K (h₀:=X.base) I.ok.mod.kin M.kp (thn (ha pos pins s Z H _ I h) fun us s1 ⟨vs,H1,I1,r,q⟩=>⟨I1.kIn,?_⟩) he hpl;exact Ix M F hr hb hd hx I1 r q
theorem LE(M:Mk X.K C f)(F:FnOk X.prog X.w X.K X.mg X.base CX k f fd ps sp)(hr:Room (k+1) X.A)(hg:Gl X x)(hm:X.mg x=some (.ref C))(hb:Binds X.K fd ps ds)(hd:Vals dvs ds)(hx:Passes CX X E)
  (hdb:(x==("__debug__":Str))=false:=by decide):PE X (.Call (.Name x p) [] [] pos) (tMake C sp dvs E tNil):=by
 intro pins s Z H Q I h;refine wpAny_Call_Name_kw (DG I hg hm ?_ hdb);exact PySem.W.callWith_K0 I.kIn M.kp (Ix (us:=[]) M F hr hb hd hx I .nil h)
end
section
variable{X:Cx}{CX:CXT}{k:Nat}{f C:Addr}{fd:FuncData}{ps ks:List Str}{sp:Sp}{E:XK}{x m:Str}{p pos apos kpos:Pos}{e o:Expr}{es:List Expr}{kws:List Keyword}{te ta:TE}{t tk:TA}{nm:Option Str}
variable{g:List Value->List Value->List Value}{gV:List V->List V->List V}
end
structure FnScope (N P:List Str) (sc:Scope):Prop where
 kind:sc.kind= .function
 co:sc.isCoroutine=false
 gen:sc.isGenerator=false
 nd:N.Nodup
 pre:N.take P.length=P
 par:∀x∈P,sc.names.lookup x=some .local\/sc.names.lookup x=some .cell
 nofree:∀y∈sc.names,y.2≠ .free
theorem FZ{kindOf:Str->Option NameKind}{x:Str}:∀{binds:List (Str×Value)}{m:Str->Option Value},(∀v,(x,v)∉binds)->bindL kindOf binds m x=m x
 |[],_,_=>rfl
 |(n,v)::r,m,h=>by
  unfold bindL;rw[FZ fun w hw=>h w (mem_cons_of_mem _ hw)];split
  .have:x≠n:=by rintro rfl;exact h v mem_cons_self
   simp[this]
  .rfl
theorem Gn{kindOf:Str->Option NameKind}{x:Str}:∀{binds:List (Str×Value)}{m:Str->Option Value},(∀v,(x,v)∉binds)->bindC kindOf binds m x=m x
 |[],_,_=>rfl
 |(n,v)::r,m,h=>by
  unfold bindC;rw[Gn fun w hw=>h w (mem_cons_of_mem _ hw)];split
  .rfl
  .have:x≠n:=by rintro rfl;exact h v mem_cons_self
   simp[this]
theorem FO{kindOf:Str->Option NameKind}{x:Str}{v:Value}:∀{P:List Str}{vs:List Value}{i:Nat}{m:Str->Option Value},P.Nodup->P[i]? =some x->vs[i]? =some v->kindOf x=some .local->
  bindL kindOf (P.zip vs) m x=some v
 |[],_,_,_,_,h,_,_=>by simp at h
 |_::_,[],_,_,_,_,h,_=>by simp at h
 |p::P,w::vs,0,m,nd,h1,h2,hk=>by
  simp at h1 h2;subst h1;subst h2;show bindL kindOf ((p,w)::P.zip vs) m p=_;unfold bindL;rw[FZ fun v hv=>(nodup_cons.mp nd).1 (List.of_mem_zip hv).1,if_pos hk];simp
 |p::P,w::vs,i+1,m,nd,h1,h2,hk=>by
  show bindL kindOf ((p,w)::P.zip vs) m x=_;unfold bindL;exact FO (i:=i) (nodup_cons.mp nd).2 (by simpa using h1) (by simpa using h2) hk
theorem FP{kindOf:Str->Option NameKind}{x:Str}{v:Value}:∀{P:List Str}{vs:List Value}{i:Nat}{m:Str->Option Value},P.Nodup->P[i]? =some x->vs[i]? =some v->kindOf x≠some .local->
  bindC kindOf (P.zip vs) m x=some v
 |[],_,_,_,_,h,_,_=>by simp at h
 |_::_,[],_,_,_,_,h,_=>by simp at h
 |p::P,w::vs,0,m,nd,h1,h2,hk=>by
  simp at h1 h2;subst h1;subst h2;show bindC kindOf ((p,w)::P.zip vs) m p=_;unfold bindC;rw[Gn fun v hv=>(nodup_cons.mp nd).1 (List.of_mem_zip hv).1,if_neg hk];simp
 |p::P,w::vs,i+1,m,nd,h1,h2,hk=>by
  show bindC kindOf ((p,w)::P.zip vs) m x=_;unfold bindC;exact FP (i:=i) (nodup_cons.mp nd).2 (by simpa using h1) (by simpa using h2) hk
def start(N:List Str)(vs:List V):St:=vs.map some++List.replicate (N.length - vs.length) none
def cxOf(CX:CXT)(P:Program)(w:World)(K:Frag)(mg:Str->Option Value)(base:Heap)(N:List Str)(qual:Str)(scope:Scope)(f:Addr)(cd:Value)(A:Around)(outer:List Env)(s:Shared)(H:Hp)(E:XK):Cx where
 prog:=P
 w:=w
 K:=K
 mg:=mg
 base:=base
 A:=A.deeper (envOfC qual scope s.heap.objs.size f cd)
 N:=N
 s_0:=s
 H_0:=H
 env:=envOfC qual scope s.heap.objs.size f cd
 outer:=outer
 stack:=envOfC qual scope s.heap.objs.size f cd::outer
 ex:=[]
 calm:=true
 fn:=fun _=>true
 pn:=[]
 xe:=fun e s'=>wpAny (model P w) (A.deeper (envOfC qual scope s.heap.objs.size f cd)) (leaving (envOfC qual scope s.heap.objs.size f cd) e) (fun _ s''=>CX outer H s E e s'') (fun e' s''=>CX outer H s E e' s'') s'
theorem HI{sc:Scope}{n:Nat}{x:Str}(h:sc.names.lookup x=some .cell):∃c,(cellsFrom n sc.names []).lookup x=some c:=by
 have q:=PySem.W.cellsFrom_some sc.names n [] (.inl h);exact isSome_iff_exists.mp q
theorem Ky{CX:CXT}{P:Program}{w:World}{K:Frag}{mg:Str->Option Value}{base:Heap}{N ps:List Str}{qual:Str}{scope:Scope}{f:Addr}{cd:Value}{A:Around}{outer:List Env}{s s1:Shared}{H:Hp}{E:XK}{us:List Value}{vs:List V}
  (S:FnScope N ps scope) (hd:A.handled=none) (e0:Env0 P w K mg base A outer s H) (hl:vs.length=ps.length) (r:Vals vs us)
  (x:InCallC s s.heap.objs.size (bindL (envOfC qual scope s.heap.objs.size f cd).kindOf (ps.zip us) fun _=>none) (cellsFrom (s.heap.objs.size+1) scope.names []) (bindC (envOfC qual scope s.heap.objs.size f cd).kindOf (ps.zip us) fun _=>none) s1):
  Inv (cxOf CX P w K mg base N qual scope f cd A outer s H E) [] (start N vs) H s1:=by
 have hpl:ps.length<=N.length:=by have:=congrArg List.length S.pre;rw[length_take]at this;omega
 obtain⟨h1,tk,rfl,hk⟩:=x.done;have noA:∀b:Addr,b∉(cxOf CX P w K mg base N qual scope f cd A outer s H E).ex:=fun b z=>absurd (show b∈([]:List Addr) from z) (by simp)
 refine⟨⟨e0.mod,S.kind,rfl,rfl,le_refl _,fun y z c h1 h2=>?_,fun y hy=>?_,fun y c _ h=>?_,fun _=>hd,Around.frames_deeper e0.frames,.inr ⟨rfl,rfl⟩,fun b z=>absurd z (noA b),e0.bs,e0.bsz,fun b _ _=>noA b,fun b z=>absurd z (noA b),e0.funs,e0.frf⟩,
  rfl,e0.bare,Un.kept hk,⟨_,x.toInCall.ns,fun i y v h1 h2 h3=>?_⟩,fun y c h=>⟨_,x.cell y c h⟩,e0.hok.fresh (le_refl _),fun y c h=>?_,fun p hp=>absurd (show p∈([]:List (Addr×Obj)) from hp) (by simp),e0.hok.kept hk,?_⟩
 .exact name_of_addr x.apart (PySem.mem_of_lookup h1) (PySem.mem_of_lookup h2)
 .have hy:scope.names.lookup y=some .cell\/scope.names.lookup y=some .free:=hy;rcases hy with hy|hy
  .exact HI hy
  .exact absurd rfl (S.nofree _ (PySem.mem_of_lookup hy))
 .exact Nat.le_of_lt (x.above y c (PySem.mem_of_lookup h))
 .have hi:i<vs.length:=by
   unfold start at h2;by_cases hi:i<vs.length
   .exact hi
   .rw[List.getElem?_append_right (by simpa using hi)]at h2;rw[List.getElem?_replicate]at h2;split at h2<;>cases h2
  have ha:vs[i]? =some v:=by
   unfold start at h2;rw[List.getElem?_append_left (by simpa using hi),getElem?_map]at h2;cases e:vs[i]? with
   |none=>rw[e]at h2;cases h2
   |some a=>rw[e]at h2;cases h2;rfl
  obtain⟨u,hu,rv⟩:=r.get ha
  have hp:ps[i]? =some y:=by
   rw[<-S.pre,List.getElem?_take_of_lt (by omega)];exact h1
  have ndP:ps.Nodup:=by rw[<-S.pre];exact S.nd.sublist (List.take_sublist _ _)
  refine⟨u,rv,?_⟩;rcases S.par y (mem_of_getElem? hp)with k|k
  .exact .inl ⟨k,FO ndP hp hu k⟩
  .obtain⟨c,e⟩:=HI (n:=s.heap.objs.size+1) k;refine .inr ⟨.inl k,c,e,?_⟩;have q:=x.cell y c e;rw[FP ndP hp hu (by show scope.names.lookup y≠_;rw[k];decide)]at q;exact q
 .exact e0.hok.fresh (Nat.le_of_lt (x.above y c (PySem.mem_of_lookup h)))
 .unfold start;show _=N.length;rw[length_append,length_map,List.length_replicate];omega
theorem M6{CX:CXT}{P:Program}{w:World}{K:Frag}{mg:Str->Option Value}{base:Heap}{k:Nat}{f:Addr}{name qual:Str}{params:Arguments}{body:List Stmt}{scope:Scope}{dV kV doc pm cdv ct oc:Value}{an od:Option Addr}
  {osl:Array (Option Value)} {N ps:List Str} {sp:Sp} (lk:K.lookup f=some ⟨oc,od,.func (PySem.W.fnOf name qual params body scope dV kV doc pm an cdv ct),osl⟩) (hcd:PySem.W.codeIn K cdv qual=true) (S:FnScope N ps scope)
  (len:∀vs H Q E,sp vs H Q E->vs.length=ps.length)
  (hbody:∀(A:Around)(outer:List Env)(s:Shared)(H:Hp)(vs:List V)(Q:VK)(E:XK),Room k (A.deeper (envOfC qual scope s.heap.objs.size f cdv))->sp vs H Q E->
   ∃t,PSs (cxOf CX P w K mg base N qual scope f cdv A outer s H E) body t/\t {nx:=fun _ H'=>Q .non H',rt:=Q} (start N vs) H):
  FnOk P w K mg base CX (k+1) f (PySem.W.fnOf name qual params body scope dV kV doc pm an cdv ct) ps sp:=by
 refine⟨len,fun A outer s H args us vs Q E hr e0 hb r hsp=>?_⟩;have hl:=len _ _ _ _ hsp;have KX:K.In s.heap:=e0.mod.kin.keeps fun b o e=>(e0.bs b o e).1;have lim:s.heap.NoLimit:=e0.mod.nolimit.keeps fun b o e=>(e0.bs b o e).1
 have hkind:∀y∈ps.zip us,scope.names.lookup y.1=some .local\/(scope.names.lookup y.1=some .cell/\((cellsFrom (s.heap.objs.size+1) scope.names []).lookup y.1).isSome=true):=fun⟨n,v⟩ hy=>by
  rcases S.par n (List.of_mem_zip hy).1 with q|q
  .exact .inl q
  .exact .inr ⟨q,PySem.W.cellsFrom_some _ _ _ (.inl q)⟩
 refine codeAny_call_function hr.depth (KX _ _ lk) rfl S.co S.gen rfl (PySem.W.codeRec_of KX hcd) (hb _ _ _ _ ?_);refine wpAny_newFunctionEnv_cells S.kind hkind fun env he s1 x=>?_;subst he;refine⟨lim.keeps x.toInCall.keep,codeAny_func ?_⟩;obtain⟨t,ht,hq⟩:=hbody A outer s H vs Q E (hr.deeper _) hsp;have I:Inv (cxOf CX P w K mg base N qual scope f cdv A outer s H E) [] (start N vs) H s1:=Ky S hr.hd e0 hl r x;refine wpAny_mono (ht [] s1 (start N vs) H _ I hq) (fun fl s' hs=>?_) fun e s' hs=>hs
 have fin:∀{Z':St}{H':Hp}{v:V}{u:Value},Inv (cxOf CX P w K mg base N qual scope f cdv A outer s H E) [] Z' H' s'->RelV v u->Q v H'->CE outer P w H s Q u s':=
  fun{Z' H' v u} J rv q=>⟨v,H',J.os,J.bare,J.base,J.hok,rv,q⟩
 cases fl with
 |ret u=>
  obtain⟨v,Z',H',J,rv,q⟩:=hs;exact fin J rv q
 |next=>
  obtain⟨Z',H',J,q⟩:=hs;exact fin (v:=V.non) (u:=Value.none) J rfl q
 |brk=>
  obtain⟨_,_,_,q⟩:=hs;exact False.elim q
 |cont=>
  obtain⟨_,_,_,q⟩:=hs;exact False.elim q
section
variable{X:Cx}{x:Str}{p pos:Pos}{e:Expr}{es:List Expr}{t:TA}{id T:String}{r:List V->Hp->VK->Prop}
def tCB(r:List V->Hp->VK->Prop)(t:TA):TE:=fun Z H Q=>t Z H fun vs H1=>r vs H1 Q
theorem BF(hc:CallR X (.builtin id) r)(hg:Gl X x)(hm:X.mg x=none)(hv:bootBuiltins x=some (.builtin id))(ha:PA X (e::es) t)(hn:x≠"__name__":=by decide)(hdb:(x==("__debug__":Str))=false:=by decide)
  (he:starEach (e::es) X.env=(false,eval e X.env)::starEach es X.env:=by rfl) (hpl:(backTo pos (starEach es X.env)).any (·.1)=false:=by rfl):PE X (.Call (.Name x p) (e::es) [] pos) (tCB r t):=by
 intro pins s Z H Q I h;refine wpAny_Call_Name_kw (CJ I hg hm hv ?_ hn hdb);exact PyProof.Rows.callWith_builtin1 (thn (ha pos pins s Z H _ I h) fun us s1 ⟨vs,H1,I1,r1,q1⟩=>hc pins s1 Z H1 vs us Q I1 r1 q1) he hpl
theorem C6(hc:CallR X (.type T) r)(hg:Gl X x)(hm:X.mg x=none)(hv:bootBuiltins x=some (.type T))(ha:PA X (e::es) t)(hn:x≠"__name__":=by decide)(hdb:(x==("__debug__":Str))=false:=by decide)
  (he:starEach (e::es) X.env=(false,eval e X.env)::starEach es X.env:=by rfl) (hpl:(backTo pos (starEach es X.env)).any (·.1)=false:=by rfl):PE X (.Call (.Name x p) (e::es) [] pos) (tCB r t):=by
 intro pins s Z H Q I h;refine wpAny_Call_Name_kw (CJ I hg hm hv ?_ hn hdb);exact PyProof.Rows.callWith_type1 (thn (ha pos pins s Z H _ I h) fun us s1 ⟨vs,H1,I1,r1,q1⟩=>hc pins s1 Z H1 vs us Q I1 r1 q1) he hpl
end
end L2
namespace HT
open PySem PyProof.Rows
section
open PySem.SeqAt
open PySem.AutoSeq1 (wpAny_loadPart')
open PySem.MeetsSeq PySem.MeetsSeq2 PySem.MeetsSeq3
end
section
variable{prog:Program}{w:World}{A:Around}{E:Value->Shared->Prop}{s:Shared}
def sIx(n d:Nat):Option Int->Nat
 |none=>d
 |some v=>if v<0 then(v+(n:Int)).toNat else min v.toNat n
theorem Hy(n d:Nat):sIx n d none=d:=rfl
theorem BR(n d k:Nat):sIx n d (some (k:Int))=min k n:=by
 show(if(k:Int)<0 then((k:Int)+(n:Int)).toNat else min (k:Int).toNat n)=min k n;rw[if_neg (by omega),Int.toNat_natCast]
theorem Nl(n d:Nat)(hd:d<=n)(o:Option Int):sIx n d o<=n:=by
 cases o with
 |none=>exact hd
 |some v=>
  show(if v<0 then(v+(n:Int)).toNat else min v.toNat n)<=n;by_cases hv:v<0
  .rw[if_pos hv];omega
  .rw[if_neg hv];exact Nat.min_le_right _ _
theorem JI(v:Int)(n d:Nat):(if v<0 then max (v+(n:Int)) 0 else min v (n:Int))=((sIx n d (some v):Nat):Int):=by
 show(if v<0 then max (v+(n:Int)) 0 else min v (n:Int))=(((if v<0 then(v+(n:Int)).toNat else min v.toNat n):Nat):Int);by_cases hv:v<0
 .simp only[if_pos hv];omega
 .simp only[if_neg hv];omega
theorem IF(lo hi:Option Int)(n:Nat):Builtin.Slice.sliceAdjust lo hi 1 (n:Int)=(((sIx n 0 lo:Nat):Int),((sIx n n hi:Nat):Int)):=by
 have h1:¬((1:Int)<0):=by omega
 unfold Builtin.Slice.sliceAdjust;simp only[h1,if_false];refine Prod.ext ?_ ?_
 .cases lo with
  |none=>rfl
  |some v=>exact JI v n 0
 .cases hi with
  |none=>rfl
  |some v=>exact JI v n n
theorem Jb(i j:Nat):Builtin.Slice.slicePlaces (i:Int) (j:Int) 1=j - i:=by
 unfold Builtin.Slice.slicePlaces;have h1:(1:Int)>0:=by omega
 simp only[h1,if_true,Int.ediv_one];split<;>omega
theorem Fs{v:Value}{o:Option Int}{Q:Option Int->Shared->Prop}(p:IsPart v o)(h:Q o s):wpAny (model prog w) A (Builtin.Slice.slicePartIndex v) Q E s:=by
 cases p with
 |none=>exact slicePart_none h
 |int i t=>exact slicePart_int h
theorem Ch{sl:Addr}{vl vu:Value}{lo hi:Option Int}{n:Nat}{Q:Int×Int×Nat->Shared->Prop}(hs:s.heap.IsSliceOf sl vl vu .none)(pl:IsPart vl lo)(pu:IsPart vu hi)
  (h:Q (((sIx n 0 lo:Nat):Int),1,sIx n n hi - sIx n 0 lo) s):wpAny (model prog w) A (Builtin.Slice.sliceApplied (.ref sl) (pure (n:Int))) Q E s:=by
 obtain⟨os,hos,hcs,hds⟩:=id hs;unfold Builtin.Slice.sliceApplied Builtin.Slice.sliceFields;refine wpAny_bind (wpAny_bind (wpAny_field hos hds (x:=vl) rfl (wpAny_bind (wpAny_field hos hds (x:=vu) rfl (wpAny_bind (wpAny_field hos hds (x:=.none) rfl (wpAny_pure ?_)))))));refine wpAny_bind (slicePart_none ?_);show wpAny _ _ (if((1:Int)==0)=true then _ else _) _ _ s;rw[if_neg (by decide)];refine wpAny_bind (Fs pl (wpAny_bind (Fs pu (wpAny_bind (wpAny_pure ?_)))));show wpAny _ _ (match Builtin.Slice.sliceAdjust lo hi 1 (n:Int)with|(lo,hi)=>pure (lo,(1:Int),Builtin.Slice.slicePlaces lo hi 1)) _ _ s;rw[IF lo hi n];show wpAny _ _ (pure (((sIx n 0 lo:Nat):Int),(1:Int),Builtin.Slice.slicePlaces ((sIx n 0 lo:Nat):Int) ((sIx n n hi:Nat):Int) 1)) _ _ s;rw[Jb];exact wpAny_pure h
theorem Ly(xs:Array Value)(i k:Nat):((List.range k).filterMap fun(m:Nat)=>xs[((i:Int)+(m:Int) * 1).toNat]?).toArray=((xs.toList.drop i).take k).toArray:=by
 have e:(fun(m:Nat)=>xs[((i:Int)+(m:Int) * 1).toNat]?)=fun m=>xs[i+m]? :=by
  funext m;have:((i:Int)+(m:Int) * 1).toNat=i+m:=by omega
  rw[this]
 rw[e];have:=pick_run xs i k;rw[List.filterMap_map]at this;have e2:((fun x=>xs[x]?)∘fun x=>i+x)=fun m=>xs[i+m]? :=rfl;rw[e2]at this;rw[this]
theorem DO{t sl:Addr}{items:Array Value}{vl vu:Value}{lo hi:Option Int}{Q:Value->Shared->Prop}(ht:IsTup s.heap t items)(hs:s.heap.IsSliceOf sl vl vu .none)(pl:IsPart vl lo)(pu:IsPart vu hi)
  (hw:¬(sIx items.size 0 lo=0/\sIx items.size items.size hi=items.size))
  (h:Q (.ref s.heap.objs.size) {s with heap:=s.heap.push {cls:=.type "tuple",data:=.seq ((items.toList.drop (sIx items.size 0 lo)).take (sIx items.size items.size hi - sIx items.size 0 lo)).toArray}})
  (hsz:items.size<=sizeLine):wpAny (model prog w) A (getItem (.ref t) (.ref sl)) Q E s:=by
 have htake:sizeOk (.seq ((items.toList.drop (sIx items.size 0 lo)).take (sIx items.size items.size hi - sIx items.size 0 lo)).toArray):=by
  show((items.toList.drop (sIx items.size 0 lo)).take (sIx items.size items.size hi - sIx items.size 0 lo)).toArray.size<=sizeLine;rw[size_toArray,length_take,length_drop,length_toList];omega
 have hj:sIx items.size items.size hi<=items.size:=Nl _ _ (le_refl _) hi;obtain⟨os,hos,hcs,hds⟩:=id hs;have hTs:s.TypeIs (.ref sl) "slice":=⟨os,hos,hcs⟩;unfold getItem
 try with_reducible refine wpAny_holding ?_
 first|refine wpAny_bind (wpAny_pure ?_)|skip
 refine wpAny_bind (wpAny_sequenceKey ht.typeIs (by decide) ?_)
 refine wpAny_bind (wpAny_callSpecial?_slot (name:=Str.ofString "__getitem__") ht.typeIs PyProof.Rows.slot_tuple_getitem
  (wpAny_call_entry PyProof.Rows.slot_tuple_getitem ht.typeIs entry_tuple_getitem ?_ (args_tuple_getitem _ _)))
 show wpAny _ _ (Builtin.Tuple.tupleItemsOf (.ref t)>>= _) _ _ s;refine wpAny_bind (tupleItemsOf_ ht ?_);refine wpAny_bind (wpAny_typeOf hTs ?_);rw[if_pos (by decide)];refine wpAny_bind (Ch hs pl pu ?_)
 have hno:¬((((sIx items.size 0 lo:Nat):Int)==0&&(1:Int)==1&&(sIx items.size items.size hi - sIx items.size 0 lo)==items.size)=true):=by
  intro q;rw[and_eq_true,and_eq_true]at q;have q1:((sIx items.size 0 lo:Nat):Int)=0:=eq_of_beq q.1.1;have q2:sIx items.size items.size hi - sIx items.size 0 lo=items.size:=eq_of_beq q.2;exact hw ⟨by omega,by omega⟩
 show wpAny _ _ (if(((sIx items.size 0 lo:Nat):Int)==0&&(1:Int)==1&&(sIx items.size items.size hi - sIx items.size 0 lo)==items.size)=true then _ else _) _ _ s;rw[if_neg hno,Ly]
 first
  |exact wpAny_bind (m:=Builtin.Tuple.tupleExact _) (wpAny_newObj_type (wpAny_pure ⟨_,rfl,wpAny_pure h⟩) htake)
  |exact wpAny_bind (m:=Builtin.Tuple.tupleExact _) (wpAny_newObj_type (wpAny_bind (wpAny_pure (wpAny_pure ⟨_,rfl,wpAny_pure h⟩))) htake)
  |exact wpAny_bind (wpAny_bind (m:=Builtin.Tuple.tupleExact _) (wpAny_newObj_type (wpAny_pure (wpAny_pure ⟨_,rfl,wpAny_pure h⟩)) htake))
  |exact wpAny_bind (wpAny_bind (m:=Builtin.Tuple.tupleExact _) (wpAny_newObj_type (wpAny_pure ⟨_,rfl,wpAny_pure h⟩) htake))
end
end HT
namespace L2
open PySem PySem.Spec PyProof.Rows
abbrev TO:=St->Hp->(Option Int->Hp->Prop)->Prop
def PO(X:Cx)(e:Option Expr)(t:TO):Prop:=
 ∀(pins:List (Addr×Obj))(s:Shared)(Z:St)(H:Hp)(Q:Option Int->Hp->Prop),Inv X pins Z H s->t Z H Q->
  wpAny (model X.prog X.w) X.A (evalPart e X.env) (fun u s'=>∃o H',Inv X pins Z H' s'/\IsPart u o/\Q o H') X.xe s
def tNoPart:TO:=fun _ H Q=>Q none H
def tPart(t:TE):TO:=fun Z H Q=>t Z H fun x H1=>∃i,x= .int i/\Q (some i) H1
theorem Dh{ns:List Int}:∀{us:List Value},Vals (ns.map V.int) us->IntsAre us ns:=by
 induction ns with
 |nil=>intro us r;rw[map_nil]at r;cases r;exact .nil
 |cons n ns ih=>
  intro us r;rw[map_cons]at r;cases r with
  |cons r1 r2=>
   obtain⟨t,e⟩:=r1;subst e;exact .cons n t (ih r2)
section
variable{X:Cx}{e:Expr}{te:TE}{lo hi:Option Expr}{tl th:TO}{pos p2:Pos}
theorem Gp:PO X none tNoPart:=by
 intro pins s Z H Q I h;rw[evalPart_none];exact wpAny_pure ⟨none,H,I,.none,h⟩
theorem Bq(h:PE X e te):PO X (some e) (tPart te):=by
 intro pins s Z H Q I hw;rw[evalPart_some];refine thn (h pins s Z H _ I hw) fun u s1 ⟨x,H1,I1,r1,q1⟩=>?_;obtain⟨i,rfl,q⟩:=q1;obtain⟨t,rfl⟩:=r1;exact⟨some i,H1,I1,.int i t,q⟩
def SlR(X:Cx)(r:V->Option Int->Option Int->Hp->VK->Prop):Prop:=
 ∀(pins:List (Addr×Obj))(s:Shared)(Z:St)(H:Hp)(x:V)(v vl vu:Value)(lo hi:Option Int)(sl:Addr)(Q:VK),Inv X pins Z H s->RelV x v->s.heap.IsSliceOf sl vl vu .none->IsPart vl lo->IsPart vu hi->r x lo hi H Q->
  ∃T id,typeLookup (.type T) "__getitem__"=pure (some (.builtin id))/\s.TypeIs v T/\wpAny (model X.prog X.w) X.A (getItem v (.ref sl)) (EP X pins Z Q) X.xe s
theorem SlR.or{r r':V->Option Int->Option Int->Hp->VK->Prop}(h:SlR X r)(h':SlR X r'):SlR X (fun x lo hi H Q=>r x lo hi H Q\/r' x lo hi H Q):=by
 intro pins s Z H x v vl vu lo hi sl Q I rx hs pl pu q;rcases q with q|q
 .exact h pins s Z H x v vl vu lo hi sl Q I rx hs pl pu q
 .exact h' pins s Z H x v vl vu lo hi sl Q I rx hs pl pu q
def tSl(r:V->Option Int->Option Int->Hp->VK->Prop)(te:TE)(tl th:TO):TE:=fun Z H Q=>te Z H fun x H1=>tl Z H1 fun l H2=>th Z H2 fun u H3=>r x l u H3 Q
theorem BN{r:V->Option Int->Option Int->Hp->VK->Prop}(hr:SlR X r)(he:PE X e te)(hl:PO X lo tl)(hu:PO X hi th):PE X (.Subscript e (.Slice lo hi none p2) pos) (tSl r te tl th):=by
 intro pins s Z H Q I h;refine Subscript_ (thn (he pins s Z H _ I h) fun v s1 ⟨x,H1,I1,r1,q1⟩=>?_);refine wpAny_Slice (thn (hl pins s1 Z H1 _ I1 q1) fun vl s2 ⟨l,H2,I2,pl,q2⟩=>thn (hu pins s2 Z H2 _ I2 q2) fun vu s3 ⟨u,H3,I3,pu,q3⟩=>?_);rw[evalPart_none];refine wpAny_pure ?_;have I4:Inv X pins Z H3 {s3 with heap:=s3.heap.push {cls:=.type "slice",data:=.fields #[vl,vu,.none]}}:=I3.kept (t':=s3.toks) fun b ob q=>get?_push_of_some _ q;obtain⟨T,id,hT,ht,hg⟩:=hr pins {s3 with heap:=s3.heap.push {cls:=.type "slice",data:=.fields #[vl,vu,.none]}} Z H3 x v vl vu l u s3.heap.objs.size Q I4 r1 (Heap.IsSliceOf.new ..) pl pu q3;show wpAny (model X.prog X.w) X.A (subscriptTail e (.Slice lo hi none p2) v (.ref s3.heap.objs.size)) (EP X pins Z Q) X.xe {s3 with heap:=s3.heap.push {cls:=.type "slice",data:=.fields #[vl,vu,.none]}};exact tail_any (ops:=[.ref s3.heap.objs.size,v]) ht hT hg (by with_unfolding_all rfl)
def cutV(xs:List V)(lo hi:Option Int):List V:=(xs.drop (HT.sIx xs.length 0 lo)).take (HT.sIx xs.length xs.length hi - HT.sIx xs.length 0 lo)
theorem Ew(xs:List V)(lo hi:Option Int):(cutV xs lo hi).length<=xs.length:=by
 unfold cutV;rw[length_take,length_drop];omega
def rSlT(K:Frag):V->Option Int->Option Int->Hp->VK->Prop:=fun x lo hi H Q=>∃a xs,x= .ref a/\SqT K H a xs/\
 ¬(HT.sIx xs.length 0 lo=0/\HT.sIx xs.length xs.length hi=xs.length)/\∀p,H p=none->Q (.ref p) (aj H p (.tup (cutV xs lo hi)))
theorem Nv:SlR X (rSlT X.K):=by
 intro pins s Z H x v vl vu lo hi sl Q I rx hs pl pu h;obtain⟨a,xs,rfl,hx,hw,q⟩:=h;cases rx;obtain⟨its,r,ht,hz⟩:=I.tuple hx;have hlen:its.toArray.size=xs.length:=by rw[size_toArray];exact r.length.symm
 refine⟨"tuple",_,PyProof.Rows.slot_tuple_getitem.lookup,ht.typeIs,?_⟩;refine HT.DO ht hs pl pu (by rw[hlen];exact hw) ?_ (by rw[hlen];exact hz);rw[hlen];refine⟨.ref s.heap.objs.size,_,I.laid (t':=s.toks) (o:=.tup (cutV xs lo hi)) (fun b ob q=>get?_push_of_some _ q) (le_refl _) ?_,rfl,q _ (I.hok.fresh (le_refl _))⟩;exact⟨le_trans (Ew xs lo hi) hz,_,(r.drop (HT.sIx xs.length 0 lo)).take (HT.sIx xs.length xs.length hi - HT.sIx xs.length 0 lo),IsTup.new _ _⟩
end
def ixN(n:Nat)(i:Int):Option Nat:=if 0<=i then(if i<n then some i.toNat else none) else if -(n:Int)<=i then some (i+n).toNat else none
def atI{α:Type}(xs:List α)(i:Int):Option α:=(ixN xs.length i).bind fun j=>xs[j]?
theorem GQ{n:Nat}{i:Int}{j:Nat}(h:ixN n i=some j):seqIndex? i n=some j/\j<n/\ -(n:Int)<=i/\i<n:=by
 unfold ixN at h;by_cases h0:0<=i
 .rw[if_pos h0]at h;by_cases h1:i<n
  .rw[if_pos h1]at h;have e:i.toNat=j:=Option.some.inj h;exact⟨by rw[seqIndex_of h0 h1,e],by omega,by omega,h1⟩
  .rw[if_neg h1]at h;cases h
 .rw[if_neg h0]at h;by_cases h1: -(n:Int)<=i
  .rw[if_pos h1]at h;have e:(i+n).toNat=j:=Option.some.inj h;exact⟨by rw[seqIndex_neg (by omega) h1,e],by omega,h1,by omega⟩
  .rw[if_neg h1]at h;cases h
theorem G7{α:Type}{xs:List α}{i:Int}{v:α}(h:atI xs i=some v):∃j,seqIndex? i xs.length=some j/\xs[j]? =some v/\j<xs.length/\ -(xs.length:Int)<=i/\i<xs.length:=by
 unfold atI at h;cases e:ixN xs.length i with
 |none=>rw[e]at h;cases h
 |some j=>
  rw[e]at h;obtain⟨h1,h2,h3,h4⟩:=GQ e;exact⟨j,h1,h,h2,h3,h4⟩
theorem Mu{α:Type}{xs:List α}{j:Nat}{v:α}(h:xs[j]? =some v):atI xs (j:Int)=some v:=by
 have hj:j<xs.length:=(List.getElem?_eq_some_iff.mp h).1
 have e:ixN xs.length (j:Int)=some j:=by
  unfold ixN;rw[if_pos (by omega),if_pos (by omega)];simp
 unfold atI;rw[e];exact h
def PlainIx(b:Expr):Prop:=∀o i,subscripted b false o i=operate [o,i] (getItem o i)
def IxR(X:Cx)(r:R2):Prop:=
 ∀(value slice:Expr)(pins:List (Addr×Obj))(s:Shared)(Z:St)(H:Hp)(x y:V)(v u:Value)(Q:VK),Inv X pins Z H s->RelV x v->RelV y u->r x y H Q->
  subscripted slice false v u=operate [v,u] (getItem v u)->wpAny (model X.prog X.w) X.A (subscriptTail value slice v u) (EP X pins Z Q) X.xe s
def MtR(X:Cx)(id:String)(r:V->List V->Hp->VK->Prop):Prop:=
 ∀(pins:List (Addr×Obj))(s:Shared)(Z:St)(H:Hp)(x:V)(xs:List V)(v:Value)(us:List Value)(Q:VK),Inv X pins Z H s->RelV x v->Vals xs us->r x xs H Q->
  wpAny (model X.prog X.w) X.A (call (.builtin id) (v::us)) (EP X pins Z Q) X.xe s
section
variable{X:Cx}{a b:Expr}{ta tb:TE}{pos:Pos}
theorem IxR.or{r r':R2}(h:IxR X r)(h':IxR X r'):IxR X (fun x y H Q=>r x y H Q\/r' x y H Q):=by
 intro value slice pins s Z H x y v u Q I rx ry q hs;rcases q with q|q
 .exact h value slice pins s Z H x y v u Q I rx ry q hs
 .exact h' value slice pins s Z H x y v u Q I rx ry q hs
theorem Ar{r:R2}(hr:IxR X r)(ha:PE X a ta)(hb:PE X b tb)(hs:PlainIx b):PE X (.Subscript a b pos) (tOp r ta tb):=by
 intro pins s Z H Q I h;exact Subscript_ (binT ha hb I h fun v u s2 x y H2 I2 rx ry q=>hr a b pins s2 Z H2 x y v u Q I2 rx ry q (hs _ _))
def rIxL(K:Frag):R2:=fun x y H Q=>∃p xs i v,x= .ref p/\y= .int i/\SqL K H p xs/\atI xs i=some v/\Q v H
def rIxT(K:Frag):R2:=fun x y H Q=>∃p xs i v,x= .ref p/\y= .int i/\SqT K H p xs/\atI xs i=some v/\Q v H
def rIxS:R2:=fun x y H Q=>∃z i c,x= .str z/\y= .int i/\z.length<=sizeLine/\atI z.cps.toList i=some c/\Q (.str ⟨#[c]⟩) H
theorem Ap:IxR X (rIxL X.K):=by
 intro value slice pins s Z H x y v u Q I rx ry h hs;obtain⟨p,xs,i,z,rfl,rfl,hq,he,q⟩:=h;cases rx;obtain⟨t,rfl⟩:=ry;obtain⟨its,r,pl,hz⟩:=I.list hq;obtain⟨j,h1,h2,h3,h4,h5⟩:=G7 he;obtain⟨w,ew,rw'⟩:=r.get h2;have hl:=r.length;have hn:=line63;have fin:EP X pins Z Q w s:=⟨z,H,I,rw',q⟩;by_cases h0:0<=i
 .have hj:i.toNat=j:=by
   rw[seqIndex_of h0 h5]at h1;exact Option.some.inj h1
  exact item_listR pl.isList h0 (by omega) (by rw[hj];simpa using ew) fin hs
 .have hj:(i+(its.toArray.size:Int)).toNat=j:=by
   rw[seqIndex_neg (by omega) h4]at h1;rw[size_toArray,<-hl];exact Option.some.inj h1
  exact subscriptTail_builtinR (x:=w) pl.isList.typeIs slot_list_getitem.lookup
   (wpAny_getItem_list_neg (Q:=fun r s'=>r=w/\EP X pins Z Q r s') pl.isList (by omega) (by rw[size_toArray]<;>omega) (by omega) (by rw[hj];simpa using ew) ⟨rfl,fin⟩) hs
theorem AB:IxR X (rIxT X.K):=by
 intro value slice pins s Z H x y v u Q I rx ry h hs;obtain⟨p,xs,i,z,rfl,rfl,hq,he,q⟩:=h;cases rx;obtain⟨t,rfl⟩:=ry;obtain⟨its,r,pl,hz⟩:=I.tuple hq;obtain⟨j,h1,h2,h3,h4,h5⟩:=G7 he;obtain⟨w,ew,rw'⟩:=r.get h2;have hl:=r.length;have hn:=line63;have fin:EP X pins Z Q w s:=⟨z,H,I,rw',q⟩
 exact subscriptTail_builtinR (x:=w) pl.typeIs slot_tuple_getitem.lookup
  (getItem_tuple (j:=j) (Q:=fun r s'=>r=w/\EP X pins Z Q r s') pl (by omega) (by omega) (by rw[size_toArray,<-hl];exact h1) (by simpa using ew) ⟨rfl,fin⟩) hs
theorem No:IxR X rIxS:=by
 intro value slice pins s Z H x y v u Q I rx ry h hs;obtain⟨z,i,c,rfl,rfl,hz,he,q⟩:=h;obtain⟨t,rfl⟩:=rx;obtain⟨t',rfl⟩:=ry;obtain⟨j,h1,h2,h3,h4,h5⟩:=G7 he;have hl:z.cps.toList.length=z.length:=by simp[Str.length]
 rw[hl]at h1 h4 h5;have hn:=line63
 exact tail_any (typeIs_str s z t) slot_str_getitem.lookup (getItem_str (c:=c) (by
  have e1:decide (i< -(2 ^ 63:Int))=false:=decide_eq_false (by omega);have e2:decide (i≥2 ^ 63)=false:=decide_eq_false (by omega);rw[e1,e2,Bool.or_false]) (by rw[h1];simpa using h2) ⟨.str ⟨#[c]⟩,H,I.tok _,⟨_,rfl⟩,q⟩) hs
def rIx(K:Frag):R2:=fun x y H Q=>rIxL K x y H Q\/rIxT K x y H Q\/rIxS x y H Q
theorem NE:IxR X (rIx X.K):=Ap.or (AB.or No)
theorem IH(its:List Value)(n j:Nat)(u:Value):Obj.mapSeq (·.setIfInBounds j u) {cls:=.type "list",data:=.seq its.toArray n}={cls:=.type "list",data:=.seq (its.set j u).toArray n}:=by
 simp[Obj.mapSeq]
theorem Inv.lst{pins:List (Addr×Obj)}{Z:St}{H:Hp}{s:Shared}{p:Addr}{xs:List V}(I:Inv X pins Z H s)(h:H p=some (.lst xs)):
  ∃(its:List Value)(n:Nat),Vals xs its/\s.heap.get? p=some {cls:=.type "list",data:=.seq its.toArray n}/\xs.length<=sizeLine:=by
 obtain⟨z,its,n,r,e⟩:=I.hok p _ h;exact⟨its,n,r,e,z⟩
theorem Inv.lstUpd{pins:List (Addr×Obj)}{Z:St}{H:Hp}{s:Shared}{p:Addr}{xs ys:List V}{its its':List Value}{n n':Nat}{f:Obj->Obj}(I:Inv X pins Z H s)(h:H p=some (.lst xs))
  (ho:s.heap.get? p=some {cls:=.type "list",data:=.seq its.toArray n}) (hf:f {cls:=.type "list",data:=.seq its.toArray n}={cls:=.type "list",data:=.seq its'.toArray n'}) (r:Vals ys its') (hz:ys.length<=sizeLine) (t:Nat):
  Inv X pins Z (aj H p (.lst ys)) {s with heap:=s.heap.update p f,toks:=t}:=by
 have e:(s.heap.update p f).get? p=some {cls:=.type "list",data:=.seq its'.toArray n'}:=by
  rw[Heap.get?_update_self f ho (by rw[hf]<;>rfl),hf]
 refine I.write (x:=p) (e:=p) (by rw[h];trivial) (.inl rfl) (fun b u hb q=>(Heap.get?_update_other _ _ (Ne.symm hb)).trans q) ⟨_,e⟩ ?_;exact⟨hz,its',n',r,e⟩
def rSetL:V->V->V->Hp->(Hp->Prop)->Prop:=fun o i v H Q=>∃p xs k j,o= .ref p/\i= .int k/\H p=some (.lst xs)/\ixN xs.length k=some j/\Q (aj H p (.lst (xs.set j v)))
theorem LR:PSet X rSetL:=by
 intro pins s Z H o i v ov iv u Q I ro ri rv h;obtain⟨p,xs,k,j,rfl,rfl,hp,hj,q⟩:=h;cases ro;obtain⟨t,rfl⟩:=ri;obtain⟨its,n,r,ho,hz⟩:=I.lst hp;obtain⟨h1,h2,h3,h4⟩:=GQ hj;have hl:=r.length;have hn:=line63
 have I':Inv X pins Z (aj H p (.lst (xs.set j v))) {s with heap:=s.heap.update p (Obj.mapSeq (·.setIfInBounds j u))}:=
  I.lstUpd hp ho (IH its n j u) (r.set rv j) (by rw[length_set];exact hz) s.toks
 by_cases h0:0<=k
 .have hk:k.toNat=j:=by
   rw[seqIndex_of h0 h4]at h1;exact Option.some.inj h1
  exact PySem.W.ki_setAt ho h0 (by omega) (by rw[size_toArray,<-hl];exact h4) (by rw[hk];exact⟨_,I',q⟩)
 .have hk:(k+(its.toArray.size:Int)).toNat=j:=by
   rw[seqIndex_neg (by omega) h3]at h1;rw[size_toArray,<-hl];exact Option.some.inj h1
  exact PySem.W.ki_setBack ho (by omega) (by rw[size_toArray,<-hl];exact h3) (by omega) (by rw[hk];exact⟨_,I',q⟩)
theorem Hg(lo hi:Option Int)(n:Nat):(sliceBounds lo hi none n).1=((HT.sIx n 0 lo:Nat):Int)/\(sliceBounds lo hi none n).2.1=((HT.sIx n n hi:Nat):Int)/\(sliceBounds lo hi none n).2.2=1:=by
 refine⟨?_,?_,rfl⟩
 .cases lo with
  |none=>simp[sliceBounds,HT.sIx]
  |some i=>
   simp only[sliceBounds,HT.sIx,Option.getD_none,show(1:Int)>0 by decide,if_true];by_cases h:i<0
   .simp only[h,if_true]<;>omega
   .simp only[h,if_false]<;>omega
 .cases hi with
  |none=>simp[sliceBounds,HT.sIx]
  |some i=>
   simp only[sliceBounds,HT.sIx,Option.getD_none,show(1:Int)>0 by decide,if_true];by_cases h:i<0
   .simp only[h,if_true]<;>omega
   .simp only[h,if_false]<;>omega
theorem FK(its:List Value)(lo hi:Option Int):slicePick its.toArray lo hi none=((its.drop (HT.sIx its.length 0 lo)).take (HT.sIx its.length its.length hi - HT.sIx its.length 0 lo)).toArray:=by
 obtain⟨h1,h2,h3⟩:=Hg lo hi its.toArray.size;unfold slicePick;rw[h1,h2,h3];simp only[sliceRange_one,pick_run,size_toArray]<;>rfl
def rSlL(K:Frag):V->Option Int->Option Int->Hp->VK->Prop:=fun x lo hi H Q=>∃a xs,x= .ref a/\SqL K H a xs/\∀p,H p=none->Q (.ref p) (aj H p (.lst (cutV xs lo hi)))
theorem B3:SlR X (rSlL X.K):=by
 intro pins s Z H x v vl vu lo hi sl Q I rx hs pl pu h;obtain⟨a,xs,rfl,hx,q⟩:=h;cases rx;obtain⟨its,r,ht,hz⟩:=I.list hx;have hlen:=r.length;refine⟨"list",_,slot_list_getitem.lookup,ht.isList.typeIs,?_⟩;refine wpAny_getItem_list_slice ht.isList hs pl pu .none (by simp) ?_ (by rw[size_toArray]<;>omega);rw[FK,<-hlen];refine⟨.ref s.heap.objs.size,_,I.laid (t':=s.toks) (o:=.lst (cutV xs lo hi)) (fun b ob q=>get?_push_of_some _ q) (le_refl _) ?_,rfl,q _ (I.hok.fresh (le_refl _))⟩;exact⟨le_trans (Ew xs lo hi) hz,_,0,(r.drop (HT.sIx xs.length 0 lo)).take (HT.sIx xs.length xs.length hi - HT.sIx xs.length 0 lo),get?_push_size _ rfl⟩
def flatV:V->Bool
 | .non=>true
 | .bl _=>true
 | .int _=>true
 | .str _=>true
 |_=>false
def eqV:V->V->Bool
 | .non,.non=>true
 | .bl a,.bl b=>a==b
 | .bl a,.int b=>(if a then 1 else 0)==b
 | .int a,.bl b=>a==(if b then 1 else 0)
 | .int a,.int b=>a==b
 | .str a,.str b=>a==b
 |_,_=>false
theorem N5{A:Around}{s:Shared}{y x:V}{u v:Value}(ry:RelV y u)(rx:RelV x v)(fy:flatV y=true)(fx:flatV x=true):SeqAt.EqAt A s u v (eqV y x):=by
 cases y with
 |non=>
  cases ry;cases x with
  |non=>cases rx;exact SeqAt.EqAt.same _
  |bl b=>cases rx;exact SeqAt.EqAt.none_bool b
  |int b=>obtain⟨t,rfl⟩:=rx;exact SeqAt.EqAt.none_int b t
  |str b=>obtain⟨t,rfl⟩:=rx;exact SeqAt.EqAt.none_str b t
  |_=>exact absurd (show false=true from fx) Bool.false_ne_true
 |bl a=>
  cases ry;cases x with
  |non=>cases rx;exact SeqAt.EqAt.bool_none a
  |bl b=>cases rx;exact SeqAt.EqAt.bool_bool a b
  |int b=>obtain⟨t,rfl⟩:=rx;exact SeqAt.EqAt.bool_int a b t
  |str b=>obtain⟨t,rfl⟩:=rx;exact SeqAt.EqAt.bool_str a b t
  |_=>exact absurd (show false=true from fx) Bool.false_ne_true
 |int a=>
  obtain⟨t',rfl⟩:=ry;cases x with
  |non=>cases rx;exact SeqAt.EqAt.int_none a t'
  |bl b=>cases rx;exact SeqAt.EqAt.int_bool a t' b
  |int b=>obtain⟨t,rfl⟩:=rx;exact SeqAt.EqAt.int_int a t' b t
  |str b=>obtain⟨t,rfl⟩:=rx;exact SeqAt.EqAt.int_str a t' b t
  |_=>exact absurd (show false=true from fx) Bool.false_ne_true
 |str a=>
  obtain⟨t',rfl⟩:=ry;cases x with
  |non=>cases rx;exact SeqAt.EqAt.str_none a t'
  |bl b=>cases rx;exact SeqAt.EqAt.str_bool a t' b
  |int b=>obtain⟨t,rfl⟩:=rx;exact SeqAt.EqAt.str_int a t' b t
  |str b=>obtain⟨t,rfl⟩:=rx;exact SeqAt.EqAt.str_str a t' b t
  |_=>exact absurd (show false=true from fx) Bool.false_ne_true
 |_=>exact absurd (show false=true from fy) Bool.false_ne_true
def eqU(x:V)(u:Value):Bool:=match u with
 | .none=>eqV .non x
 | .bool b=>eqV (.bl b) x
 | .int i _=>eqV (.int i) x
 | .str z _=>eqV (.str z) x
 |_=>false
theorem LT{x y:V}{u:Value}(r:RelV y u)(f:flatV y=true):eqU x u=eqV y x:=by
 cases y with
 |non=>cases r;rfl
 |bl b=>cases r;rfl
 |int i=>obtain⟨t,rfl⟩:=r;rfl
 |str z=>obtain⟨t,rfl⟩:=r;rfl
 |_=>exact absurd (show false=true from f) Bool.false_ne_true
theorem Gs{x:V}:∀{xs:List V}{us:List Value},Vals xs us->xs.all flatV=true->us.any (eqU x)=xs.any fun y=>eqV y x
 |_,_,.nil,_=>rfl
 |y::xs,u::us,.cons r t,f=>by
  rw[List.all_cons,and_eq_true]at f;rw[any_cons,any_cons,LT r f.1,Gs t f.2]
theorem Fe{A:Around}{s:Shared}{x:V}{v:Value}(rx:RelV x v)(fx:flatV x=true):∀{xs:List V}{us:List Value},Vals xs us->xs.all flatV=true->∀u∈us,SeqAt.EqAt A s u v (eqU x u)
 |_,_,.nil,_=>fun u hu=>by cases hu
 |y::xs,u::us,.cons r t,f=>fun u' hu=>by
  rw[List.all_cons,and_eq_true]at f;rcases mem_cons.mp hu with rfl|hu
  .rw[LT r f.1];exact N5 r rx f.1 fx
  .exact Fe rx fx t f.2 u' hu
def inV(x:V)(xs:List V):Bool:=xs.any fun y=>eqV y x
def rIn(K:Frag)(neg:Bool):R2:=fun x y H Q=>∃p xs,y= .ref p/\(SqL K H p xs\/SqT K H p xs)/\flatV x=true/\xs.all flatV=true/\Q (.bl (if neg then !inV x xs else inV x xs)) H
theorem D6:OpR X (compareOp .In) (rIn X.K false):=by
 intro pins s Z H x y v u Q I rx ry h;obtain⟨p,xs,rfl,hq,fx,fs,q⟩:=h;cases ry;rcases hq with hq|hq
 .obtain⟨its,r,pl,hz⟩:=I.list hq;refine SeqAt.in_listAt (eqU x) pl.isList (fun w hw=>Fe rx fx r fs w (by simpa using hw)) ⟨.bl _,H,I,rfl,?_⟩;rw[show its.toArray.any (eqU x)=its.any (eqU x) by simp,Gs r fs];exact q
 .obtain⟨its,r,pl,hz⟩:=I.tuple hq;refine SeqAt.in_tupleAt (eqU x) pl (fun w hw=>Fe rx fx r fs w (by simpa using hw)) ⟨.bl _,H,I,rfl,?_⟩;rw[show its.toArray.any (eqU x)=its.any (eqU x) by simp,Gs r fs];exact q
theorem Hn:CallR X (.builtin "len") (fun xs H Q=>∃p ys,xs=[.ref p]/\(SqL X.K H p ys\/SqT X.K H p ys)/\Q (.int ys.length) H):=by
 intro pins s Z H xs us Q I r h;obtain⟨p,ys,rfl,hq,q⟩:=h;obtain⟨u,rfl,rx⟩:=vals1 r;cases rx;have hn:=line63;rcases hq with hq|hq
 .obtain⟨its,r',pl,hz⟩:=I.list hq;have hlen:=r'.length;exact Calls.call_len_list pl.isList (by simp only[size_toArray]<;>omega) ⟨.int ys.length,H,I.tok _,⟨s.toks+1,by rw[size_toArray,hlen]⟩,q⟩
 .obtain⟨its,r',pl,hz⟩:=I.tuple hq;have hlen:=r'.length;exact len_tuple pl (by simp only[size_toArray]<;>omega) ⟨.int ys.length,H,I.tok _,⟨s.toks+1,by rw[size_toArray,hlen]⟩,q⟩
theorem CC:CallR X (.type "list") (fun xs H Q=>∃p ys,xs=[.ref p]/\(SqL X.K H p ys\/SqT X.K H p ys)/\∀l,H l=none->Q (.ref l) (aj H l (.lst ys))):=by
 intro pins s Z H xs us Q I r h;obtain⟨p,ys,rfl,hq,q⟩:=h;obtain⟨u,rfl,rx⟩:=vals1 r;cases rx
 have fin:∀(its:List Value),Vals ys its->ys.length<=sizeLine->∀(h':Heap)(c':Nat),(∀b o',s.heap.get? b=some o'->h'.get? b=some o')->
   h'.get? s.heap.objs.size=some {cls:=.type "list",dict:=none,data:=.seq its.toArray c',slots:= #[]}->EP X pins Z Q (.ref s.heap.objs.size) {s with heap:=h'}:=fun its r' hz h' c' kp e=>
  ⟨.ref s.heap.objs.size,_,I.laid (t':=s.toks) kp (le_refl _) (show ObjOk X.prog X.w _ h' _ (.lst ys) from ⟨hz,its,c',r',e⟩),rfl,q _ (I.hok.fresh (le_refl _))⟩
 rcases hq with hq|hq
 .obtain⟨its,r',pl,hz⟩:=I.list hq;have hlen:=r'.length;obtain⟨o,ho,hc,n,hd⟩:=pl.isList;exact call_list_seq p (.inl rfl) ho hc hd (fun h' c' kp e=>fin its r' hz h' c' kp e) (by simp only[size_toArray]<;>omega)
 .obtain⟨its,r',pl,hz⟩:=I.tuple hq;have hlen:=r'.length;obtain⟨o,ho,hc,n,hd⟩:=pl;exact call_list_seq p (.inr rfl) ho hc hd (fun h' c' kp e=>fin its r' hz h' c' kp e) (by simp only[size_toArray]<;>omega)
theorem FH:CallR X (.type "tuple") (fun xs H Q=>∃p ys,xs=[.ref p]/\((SqL X.K H p ys/\∀l,H l=none->Q (.ref l) (aj H l (.tup ys)))\/(SqT X.K H p ys/\Q (.ref p) H))):=by
 intro pins s Z H xs us Q I r h;obtain⟨p,ys,rfl,h⟩:=h;obtain⟨u,rfl,rx⟩:=vals1 r;cases rx;rcases h with ⟨hq,q⟩|⟨hq,q⟩
 .obtain⟨its,r',pl,hz⟩:=I.list hq;have hlen:=r'.length;refine call_tuple_list pl.isList (fun h' kp=>?_) (by simp only[size_toArray]<;>omega);have I1:Inv X pins Z H {s with heap:=h'}:=I.kept (t':=s.toks) kp
  have I2:Inv X pins Z (aj H h'.objs.size (.tup ys)) {s with heap:=h'.push {cls:=.type "tuple",data:=.seq its.toArray}}:=
   I1.laid (t':=s.toks) (fun b o e=>get?_push_of_some _ e) (le_refl _) (show ObjOk X.prog X.w _ _ _ (.tup ys) from ⟨hz,its,r',IsTup.new _ _⟩)
  exact⟨.ref h'.objs.size,_,I2,rfl,q _ (I1.hok.fresh (le_refl _))⟩
 .obtain⟨its,r',pl,hz⟩:=I.tuple hq;exact call_tuple_same pl ⟨.ref p,H,I,rfl,q⟩
def tyV(K:Frag)(T:String)(x:V)(H:Hp):Prop:=match x with
 | .str _=>T="str"
 | .int _=>T="int"
 | .ref p=>(T="list"/\∃xs,SqL K H p xs)\/(T="tuple"/\∃o,K.lookup p=some o/\o.cls= .type "tuple"/\o.dict=none)\/
   (T="dict"/\((∃kvs,H p=some (.dK kvs))\/∃kvs,H p=some (.dT kvs)))\/(T="set"/\∃S n,H p=some (.set S n))
 |_=>False
theorem Lu{pins:List (Addr×Obj)}{Z:St}{H:Hp}{s:Shared}{T:String}{x:V}{v:Value}(I:Inv X pins Z H s)(r:RelV x v)(ty:tyV X.K T x H):
  s.TypeIs v T/\∀a,v= .ref a->∃ob,s.heap.get? a=some ob/\ob.dict=none:=by
 cases x with
 |str z=>
  obtain⟨t,rfl⟩:=r;cases(show T="str" from ty);exact⟨typeIs_str s z t,fun _ e=>nomatch e⟩
 |int i=>
  obtain⟨t,rfl⟩:=r;cases(show T="int" from ty);exact⟨typeIs_int s i t,fun _ e=>nomatch e⟩
 |ref p=>
  cases r;rcases ty with ⟨rfl,xs,hq⟩|⟨rfl,o,hk,hc,hd⟩|⟨rfl,hk⟩|⟨rfl,S,n,hk⟩
  .obtain⟨its,_,pl,_⟩:=I.list hq;refine⟨pl.isList.typeIs,fun a e=>?_⟩;cases e;obtain⟨o,n,e,c,hd,_⟩:=pl;exact⟨o,e,hd⟩
  .refine⟨⟨o,I.kIn p o hk,hc⟩,fun a e=>?_⟩;cases e;exact⟨o,I.kIn _ o hk,hd⟩
  .have z:∃o,s.heap.get? p=some o/\o.ExactDict:=by
    rcases hk with ⟨kvs,hk⟩|⟨kvs,hk⟩
    .obtain⟨_,_,_,_,o,_,_,e,ex,_⟩:=I.hok p _ hk;exact⟨o,e,ex⟩
    .obtain⟨_,_,_,_,o,_,_,e,ex,_⟩:=I.hok p _ hk;exact⟨o,e,ex⟩
   obtain⟨o,e,ex⟩:=z;refine⟨⟨o,e,ex.1⟩,fun a e2=>?_⟩;cases e2;exact⟨o,e,ex.2.1⟩
  .obtain⟨o,_,_,_,e,ex,_⟩:=I.hok p _ hk;refine⟨⟨o,e,ex.1⟩,fun a e2=>?_⟩;cases e2;exact⟨o,e,ex.2.1⟩
 |_=>exact False.elim ty
def tBM0(K:Frag)(T:String)(r:V->List V->Hp->VK->Prop)(to:TE):TE:=fun Z H Q=>to Z H fun x H1=>tyV K T x H1/\r x [] H1 Q
def tBM(K:Frag)(T:String)(r:V->List V->Hp->VK->Prop)(to:TE)(t:TA):TE:=fun Z H Q=>to Z H fun x H1=>tyV K T x H1/\t Z H1 fun xs H2=>r x xs H2 Q
variable{o e:Expr}{es:List Expr}{to:TE}{t:TA}{name:Str}{apos cpos:Pos}{T id:String}{r:V->List V->Hp->VK->Prop}
theorem NV(pa:PlainAttrs T)(slot:Slot T name id)(hty:typeOf (.builtin id)=pure (.type "method_descriptor"))(hm:MtR X id r)(ho:PE X o to)
  (hbase:attributeBase o name X.env (eval o X.env)=eval o X.env:=by rfl) (hline:(apos.endLine==cpos.line)=true:=by rfl):PE X (.Call (.Attribute o name apos) [] [] cpos) (tBM0 X.K T r to):=by
 intro pins s Z H Q I h;refine wpAny_Call_method0_late hbase hline (thn (ho pins s Z H _ I h) fun v s1 ⟨x,H1,I1,r1,ty,q1⟩=>?_);obtain⟨h1,h2⟩:=Lu I1 r1 ty;exact⟨T,id,pa,slot,hty,h1,h2,Calls.callWith_builtin rfl (PySem.evalArgs_none (hm pins s1 Z H1 x [] v [] Q I1 r1 .nil q1))⟩
theorem AR(pa:PlainAttrs T)(slot:Slot T name id)(hty:typeOf (.builtin id)=pure (.type "method_descriptor"))(hm:MtR X id r)(ho:PE X o to)(ha:PA X (e::es) t)
  (hbase:attributeBase o name X.env (eval o X.env)=eval o X.env:=by rfl)
  (hfew:((backTo cpos (starEach (e::es) X.env)).all (fun x=> !x.1)&&(backToKw cpos (keywordEach [] X.env)).all (fun x=>x.1.isSome)
   &&decide ((e::es).length+([]:List Keyword).length+(if([]:List Keyword).isEmpty then 0 else 1)<30))=true:=by rfl)
  (hline:(apos.endLine==cpos.line)=true:=by rfl) (hs:starEach (e::es) X.env=(false,eval e X.env)::starEach es X.env:=by rfl) (hplain:(backTo cpos (starEach es X.env)).any (·.1)=false:=by rfl):
  PE X (.Call (.Attribute o name apos) (e::es) [] cpos) (tBM X.K T r to t):=by
 intro pins s Z H Q I h;refine wpAny_Call_method_late hbase hfew hline rfl (thn (ho pins s Z H _ I h) fun v s1 ⟨x,H1,I1,r1,ty,q1⟩=>?_);obtain⟨h1,h2⟩:=Lu I1 r1 ty;refine⟨T,id,pa,slot,hty,h1,h2,?_⟩;have hA:=ha cpos pins s1 Z H1 _ I1 q1;rw[hs]at hA⊢;refine Calls.callWith_builtin (by show(false || (backTo cpos (starEach es X.env)).any (·.1))=false;rw[hplain]<;>rfl) (Calls.evalArgs_plain ?_);exact thn hA fun us s2 ⟨vs,H2,I2,r2,q2⟩=>hm pins s2 Z H2 x vs v us Q I2 r1 r2 q2
end
def MtM(X:Cx)(id:String)(r:V->List V->Hp->VK->Prop):Prop:=
 ∀(pins:List (Addr×Obj))(s:Shared)(Z:St)(H:Hp)(x:V)(xs:List V)(v:Value)(us:List Value)(Q:VK),Inv X pins Z H s->RelV x v->Vals xs us->r x xs H Q->
  wpAny (model X.prog X.w) X.A (call (.builtin id) (v::us)) (EP X pins Z Q) X.xe s
theorem Vals.one:∀{x:V}{us:List Value},Vals [x] us->∃u,us=[u]/\RelV x u
 |_,_,.cons r .nil=>⟨_,rfl,r⟩
theorem Vals.two:∀{x y:V}{us:List Value},Vals [x,y] us->∃u v,us=[u,v]/\RelV x u/\RelV y v
 |_,_,_,.cons r (.cons q .nil)=>⟨_,_,rfl,r,q⟩
theorem Vals.zero:∀{us:List Value},Vals [] us->us=[]
 |_,.nil=>rfl
theorem Vals.eraseIdx:∀{xs:List V}{us:List Value}(i:Nat),Vals xs us->Vals (xs.eraseIdx i) (us.eraseIdx i)
 |_,_,_,.nil=>.nil
 |_,_,0,.cons _ t=>t
 |_,_,i+1,.cons r t=>.cons r (Vals.eraseIdx i t)
theorem Vals.reverse{xs:List V}{us:List Value}(h:Vals xs us):Vals xs.reverse us.reverse:=by
 induction h with
 |nil=>exact .nil
 |cons r t ih=>rw[List.reverse_cons,List.reverse_cons];exact Vals.append ih (.cons r .nil)
theorem Vals.rep{xs:List V}{us:List Value}(h:Vals xs us):∀k:Nat,Vals (List.replicate k xs).flatten (List.replicate k us).flatten
 |0=>.nil
 |k+1=>by
  rw[replicate_succ,replicate_succ,List.flatten_cons,List.flatten_cons];exact Vals.append h (Vals.rep h k)
theorem FM{α:Type}:∀(l:List α)(i:Nat),(l.eraseIdx i).length<=l.length
 |[],_=>le_refl _
 |_::_,0=>Nat.le_succ _
 |_::r,i+1=>Nat.succ_le_succ (FM r i)
theorem FS(its:List Value):∀(k:Nat)(acc:List Value),
  List.foldl (fun x1 x2=>x1++x2) acc.toArray (List.replicate k its.toArray)=(acc++(List.replicate k its).flatten).toArray
 |0,acc=>by simp
 |k+1,acc=>by
  have e:acc.toArray++its.toArray=(acc++its).toArray:=by simp
  have e2:(acc++its)++(List.replicate k its).flatten=acc++(List.replicate (k+1) its).flatten:=by
   rw[replicate_succ,List.flatten_cons,append_assoc]
  rw[<-e2,<-FS its k (acc++its),<-e,replicate_succ,List.foldl_cons]
section
variable{X:Cx}{pins:List (Addr×Obj)}{Z:St}{H:Hp}{s:Shared}{l b:Addr}{xs ys zs:List V}
theorem Inv.lset{its its':List Value}{n:Nat}{f:Array Value->Array Value}{t':Nat}(I:Inv X pins Z H s)(hH:H l=some (.lst xs))
  (e:s.heap.get? l=some {cls:=.type "list",data:=.seq its.toArray n}) (hf:f its.toArray=its'.toArray) (hv:Vals ys its') (hz:ys.length<=sizeLine):
  Inv X pins Z (aj H l (.lst ys)) {s with heap:=s.heap.update l (Obj.mapSeq f),toks:=t'}:=by
 have q:=PySem.IsL.update e f;rw[hf]at q;refine I.write (x:=l) (e:=l) (by rw[hH];exact trivial) (.inl rfl) (fun b' u hb hu=>(Heap.get?_update_other s.heap (Obj.mapSeq f) (Ne.symm hb)).trans hu) ⟨_,q⟩ ?_;exact⟨hz,its',_,hv,q⟩
theorem Inv.lnew{its:List Value}{t':Nat}(I:Inv X pins Z H s)(hv:Vals ys its)(hz:ys.length<=sizeLine):
  Inv X pins Z (aj H s.heap.objs.size (.lst ys)) {s with heap:=s.heap.push {cls:=.type "list",data:=.seq its.toArray},toks:=t'}:=
 I.laid (fun _ _ q=>get?_push_of_some _ q) (le_refl _) ⟨hz,its,0,hv,get?_push_size _ rfl⟩
theorem Inv.fresh(I:Inv X pins Z H s):H s.heap.objs.size=none:=I.hok.fresh (le_refl _)
theorem Inv.lstM(I:Inv X pins Z H s)(hH:H l=some (.lst xs)):xs.length<=sizeLine/\∃(its:List Value)(n:Nat),Vals xs its/\xs.length=its.length/\s.heap.get? l=some {cls:=.type "list",data:=.seq its.toArray n}:=by
 obtain⟨z,its,n,r,e⟩:=I.hok l _ hH;exact⟨z,its,n,r,r.length,e⟩
theorem notLongL{n:Nat}(h:n<=sizeLine):Builtin.List.listTooLong n=false:=by
 unfold Builtin.List.listTooLong;exact decide_eq_false (by omega)
end
section
variable{X:Cx}
def rAppend:V->List V->Hp->VK->Prop:=fun x vs H Q=>∃l xs y,x= .ref l/\vs=[y]/\H l=some (.lst xs)/\xs.length<sizeLine/\Q .non (aj H l (.lst (xs++[y])))
theorem AD:MtM X "list.append" rAppend:=by
 intro pins s Z H x vs v us Q I rx rv h;obtain⟨l,xs,y,rfl,rfl,hH,hz,q⟩:=h;cases rx;obtain⟨u,rfl,ru⟩:=rv.one;obtain⟨z,its,n,r,hl,e⟩:=I.lstM hH;refine call_meets F.slot_list_append ⟨_,e,rfl⟩ F.entry_list_append (F.args_list_append_2 _ _) (PySem.list_append l its.toArray n u (by rw[size_toArray];omega)) ⟨e,?_⟩;refine⟨.non,_,I.lset (its':=its++[u]) hH e (by simp) (r.append (.cons ru .nil)) ?_,rfl,q⟩;rw[length_append,List.length_singleton];omega
def rExtend:V->List V->Hp->VK->Prop:=fun x vs H Q=>∃l b xs zs,x= .ref l/\vs=[.ref b]/\H l=some (.lst xs)/\H b=some (.lst zs)/\xs.length+zs.length<=sizeLine/\Q .non (aj H l (.lst (xs++zs)))
theorem Br:MtM X "list.extend" rExtend:=by
 intro pins s Z H x vs v us Q I rx rv h;obtain⟨l,b,xs,zs,rfl,rfl,hH,hB,hz,q⟩:=h;cases rx;obtain⟨u,rfl,ru⟩:=rv.one;cases ru;obtain⟨z,its,n,r,hl,e⟩:=I.lstM hH;obtain⟨z2,its2,n2,r2,hl2,e2⟩:=I.lstM hB;have hsz:its.toArray.size+its2.toArray.size<=sizeLine:=by rw[size_toArray,size_toArray];omega
 have hlong:¬(!its.toArray.isEmpty&&Builtin.List.listTooLong (its.toArray.size+its2.toArray.size))=true:=by
  rw[notLongL hsz,Bool.and_false];exact Bool.false_ne_true
 refine call_meets F.slot_list_extend ⟨_,e,rfl⟩ F.entry_list_extend (F.args_list_extend_2 _ _)
  (AutoSeq1.list_extend_list_list_0 l its.toArray n b its2.toArray n2 hlong (by rw[size_toArray];omega) (by omega)) ⟨e,e2,?_⟩
 refine⟨.non,_,I.lset (its':=its++its2) hH e (by simp) (r.append r2) ?_,rfl,q⟩;rw[length_append];omega
def rPopAt:V->List V->Hp->VK->Prop:=fun x vs H Q=>∃l xs i k y,x= .ref l/\vs=[.int i]/\H l=some (.lst xs)/\ -(2 ^ 63)<=i/\i<2 ^ 63/\seqIndex? i xs.length=some k/\xs[k]? =some y/\Q y (aj H l (.lst (xs.eraseIdx k)))
theorem K3:MtM X "list.pop" rPopAt:=by
 intro pins s Z H x vs v us Q I rx rv h;obtain⟨l,xs,i,k,y,rfl,rfl,hH,h1,h2,hk,hy,q⟩:=h;cases rx;obtain⟨u,rfl,ru⟩:=rv.one;obtain⟨t,rfl⟩:=ru;obtain⟨z,its,n,r,hl,e⟩:=I.lstM hH;obtain⟨w,hw,rw'⟩:=r.get hy
 refine call_meets F.slot_list_pop ⟨_,e,rfl⟩ F.entry_list_pop (F.args_list_pop_2 _ _)
  (MeetsSeq.list_pop_at l its.toArray n i t k w (fitsIndex_both h1 h2) (by rw[size_toArray,<-hl];exact hk) (by rw[<-Array.getElem?_toList];exact hw) (by rw[size_toArray];omega)) ⟨e,?_⟩
 refine⟨y,_,I.lset (its':=its.eraseIdx k) hH e ?_ (r.eraseIdx k) ?_,rw',q⟩
 .show its.toArray.eraseIdxIfInBounds k=(its.eraseIdx k).toArray;rw[List.eraseIdxIfInBounds_toArray]
 .have:=FM xs k;omega
def rReverse:V->List V->Hp->VK->Prop:=fun x vs H Q=>∃l xs,x= .ref l/\vs=[]/\H l=some (.lst xs)/\Q .non (aj H l (.lst xs.reverse))
theorem IG:MtM X "list.reverse" rReverse:=by
 intro pins s Z H x vs v us Q I rx rv h;obtain⟨l,xs,rfl,rfl,hH,q⟩:=h;cases rx;have hus:=rv.zero;subst hus;obtain⟨z,its,n,r,hl,e⟩:=I.lstM hH;refine call_meets F.slot_list_reverse ⟨_,e,rfl⟩ F.entry_list_reverse (F.args_list_reverse_1 _) (AutoSeq1.list_reverse_list_0 l its.toArray n (by rw[size_toArray];omega)) ⟨e,?_⟩;refine⟨.non,_,I.lset (its':=its.reverse) hH e (by simp) r.reverse ?_,rfl,q⟩;rw[List.length_reverse];omega
def rCat:R2:=fun x y H Q=>∃l b xs zs,x= .ref l/\y= .ref b/\H l=some (.lst xs)/\H b=some (.lst zs)/\xs.length+zs.length<=sizeLine/\∀p,H p=none->Q (.ref p) (aj H p (.lst (xs++zs)))
theorem BJ:OpR X (binaryOp .Add) rCat:=by
 intro pins s Z H x y v u Q I rx ry h;obtain⟨l,b,xs,zs,rfl,rfl,hH,hB,hz,q⟩:=h;cases rx;cases ry;obtain⟨z,its,n,r,hl,e⟩:=I.lstM hH;obtain⟨z2,its2,n2,r2,hl2,e2⟩:=I.lstM hB;refine PySem.P.add_list e e2 ?_ (by rw[size_toArray,size_toArray];omega);have ea:its.toArray++its2.toArray=(its++its2).toArray:=by simp
 rw[ea];exact⟨.ref _,_,I.lnew (t':=s.toks) (r.append r2) (by rw[length_append];omega),rfl,q _ I.fresh⟩
def rRep:R2:=fun x y H Q=>∃l k xs,x= .ref l/\y= .int k/\H l=some (.lst xs)/\ -(2 ^ 63)<=k/\k<2 ^ 63/\xs.length * k.toNat<=sizeLine/\
 ∀p,H p=none->Q (.ref p) (aj H p (.lst (List.replicate k.toNat xs).flatten))
theorem Mq{α:Type}(xs:List α)(k:Nat):(List.replicate k xs).flatten.length=k * xs.length:=by
 induction k with
 |zero=>simp
 |succ k ih=>rw[replicate_succ,List.flatten_cons,length_append,ih,Nat.succ_mul,Nat.add_comm]
theorem NG:OpR X (binaryOp .Mult) rRep:=by
 intro pins s Z H x y v u Q I rx ry h;obtain⟨l,k,xs,rfl,rfl,hH,h1,h2,hz,q⟩:=h;cases rx;obtain⟨t,rfl⟩:=ry;obtain⟨z,its,n,r,hl,e⟩:=I.lstM hH;have hlen:its.toArray.size * k.toNat<=sizeLine:=by rw[size_toArray,<-hl];exact hz
 have hcap:¬its.toArray.size * k.toNat>(2 ^ 63 - 1) / 8:=by
  have:(sizeLine:Nat)<=(2 ^ 63 - 1) / 8:=by decide
  omega
 have hfit:¬(!Builtin.List.listFitsIndex k)=true:=by
  rw[fitsIndex_both h1 h2];exact Bool.false_ne_true
 have hlong:¬Builtin.List.listTooLong (its.toArray.size * k.toNat)=true:=by
  rw[notLongL hlen];exact Bool.false_ne_true
 have hnew:List.foldl (fun x1 x2=>x1++x2) #[] (List.replicate (if its.toArray.isEmpty=true then 0 else k.toNat) its.toArray)=(List.replicate k.toNat its).flatten.toArray:=by
  have f0:∀m:Nat,List.foldl (fun x1 x2=>x1++x2) #[] (List.replicate m its.toArray)=(List.replicate m its).flatten.toArray:=fun m=>by
   have:=FS its m [];rw[List.nil_append]at this;exact this
  rw[f0];cases its with
  |nil=>simp
  |cons a r'=>rw[if_neg (by simp)]
 refine wpAny_binaryOp_repeat_ref (T:="list") (U:="int") (by decide) ⟨_,e,rfl⟩ (fun s'=>typeIs_int s' k t) noFill_list_mul F.fills_int_mul F.slot_int_rmul repeat_list F.slot_int_index.lookup
  (call_meets F.slot_int_rmul (typeIs_int s k t) F.entry_int_rmul (F.args_int_rmul_2 _ _) (int___rmul___int_list k t l its.toArray n)
   ⟨e,rfl,⟨_,e,rfl⟩,call_meets F.slot_list_mul ⟨_,e,rfl⟩ F.entry_list_mul (F.args_list_mul_2 _ _) (AutoListH.list___mul___list_int_3 l its.toArray n k t hfit hcap hlong) ⟨e,?_⟩⟩)
 rw[hnew];exact⟨.ref _,_,I.lnew (t':=s.toks) (r.rep k.toNat) (by rw[Mq,Nat.mul_comm];exact hz),rfl,q _ I.fresh⟩
end
section
variable{prog:Program}{w:World}{A:Around}{E:Value->Shared->Prop}{s:Shared}
end
section
variable{X:Cx}
end
theorem Vals.ints:∀{ns:List Int}{us:List Value},Vals (ns.map V.int) us->IntsAre us ns
 |[],us,h=>by
  rw[map_nil]at h;cases h;exact IntsAre.nil
 |n::ns,us,h=>by
  rw[map_cons]at h;cases h with
  |cons r t=>
   obtain⟨k,rfl⟩:=r;exact IntsAre.cons n k (Vals.ints t)
theorem Vals.bls:∀{bs:List Bool}{us:List Value},Vals (bs.map V.bl) us->us=bs.map Value.bool
 |[],us,h=>by
  rw[map_nil]at h;cases h;rfl
 |b::bs,us,h=>by
  rw[map_cons]at h;cases h with
  |cons r t=>
   cases r;rw[Vals.bls t,map_cons]
theorem Vals.ref1{a:Addr}{us:List Value}(r:Vals [V.ref a] us):us=[Value.ref a]:=by
 cases r with
 |cons r t=>
  cases t;cases r;rfl
section
variable{prog:Program}{w:World}{A:Around}{E:Value->Shared->Prop}{s:Shared}{l:Addr}{its:List Value}{ns:List Int}{Q:Value->Shared->Prop}
theorem Mh(hh:A.handled=none)(hl:s.heap.IsList l its.toArray)(hi:IntsAre its ns)
  (h:∀h' tk t',(∀b o,s.heap.get? b=some o->h'.get? b=some o)->Q (.int ns.sum t') {s with heap:=h',toks:=tk}):wpAny (model prog w) A (call (.builtin "sum") [.ref l]) Q E s:=by
 obtain⟨xs,e⟩:=hi.allInts.items;have hn:numsOf (intItems xs).toList=ns:=by rw[<-e];exact hi.numsOf
 rw[nums_intItems]at hn;rw[e]at hl;refine PySem.sum_intListG hh hl fun h' tk t' hk=>?_;have:=h h' tk t' hk;rw[preSum_eq,take_of_length_le (by simp),hn];exact this
theorem Mp(hh:A.handled=none)(hl:s.heap.IsList l its.toArray)(hi:IntsAre its ns)(hne:0<ns.length)
  (h:∀h' tk M t',(∀b o,s.heap.get? b=some o->h'.get? b=some o)->M∈ns->(∀a,a∈ns->a<=M)->Q (.int M t') {s with heap:=h',toks:=tk}):wpAny (model prog w) A (call (.builtin "max") [.ref l]) Q E s:=by
 obtain⟨xs,e⟩:=hi.allInts.items;have hn:numsOf (intItems xs).toList=ns:=by rw[<-e];exact hi.numsOf
 rw[nums_intItems]at hn;subst hn;rw[e]at hl;have hsz:0<xs.size:=by simpa using hne
 refine PySem.max_intList hh hl hsz fun v h' tk hv hk=>?_;obtain⟨t,rfl⟩:=intItems_at hv;obtain⟨h1,h2⟩:=argBest_gt (numAt xs) (xs.size - 1);refine h h' tk _ t hk ?_ fun a ha=>?_
 .rw[numAt_eq];exact PySem.getD_mem (by rw[length_map,length_toList];omega)
 .obtain⟨j,hj,rfl⟩:=mem_getD ha;rw[length_map,length_toList]at hj;rw[<-numAt_eq];exact h2 j (by omega)
end
section
variable{X:Cx}
def rSum(K:Frag):List V->Hp->VK->Prop:=fun vs H Q=>∃(a:Addr)(ns:List Int),vs=[V.ref a]/\SqL K H a (ns.map V.int)/\Q (.int ns.sum) H
def rMax(K:Frag):List V->Hp->VK->Prop:=fun vs H Q=>∃(a:Addr)(ns:List Int),vs=[V.ref a]/\SqL K H a (ns.map V.int)/\0<ns.length/\∀m,m∈ns->(∀y,y∈ns->y<=m)->Q (.int m) H
theorem NZ(hc:X.calm=true):CallR X (.builtin "sum") (rSum X.K):=by
 intro pins s Z H vs us Q I r h;obtain⟨a,ns,rfl,hs,q⟩:=h;obtain⟨its,rv,hl,_⟩:=I.list hs;rw[Vals.ref1 r];exact Mh (I.ok.hd hc) hl.isList rv.ints fun h' tk t' hk=>⟨.int _,H,I.kept hk,⟨_,rfl⟩,q⟩
theorem IN(hc:X.calm=true):CallR X (.builtin "max") (rMax X.K):=by
 intro pins s Z H vs us Q I r h;obtain⟨a,ns,rfl,hs,hne,q⟩:=h;obtain⟨its,rv,hl,_⟩:=I.list hs;rw[Vals.ref1 r];exact Mp (I.ok.hd hc) hl.isList rv.ints hne fun h' tk m t' hk h1 h2=>⟨.int _,H,I.kept hk,⟨_,rfl⟩,q m h1 h2⟩
end
section
variable{X:Cx}
end
section
variable{X:Cx}
end
theorem Hz{prog:Program}{w:World}{A:Around}{E:Value->Shared->Prop}{s:Shared}{l:Addr}{items:Array Value}{Q:Value->Shared->Prop}(hl:s.heap.IsList l items)
  (h:∀s₂:Shared,s₂={s with heap:=s.heap.push {cls:=.type "list_iterator",data:=.fields #[.ref l,.int 0 0]}}->
   (s₂.heap.IsListIter s.heap.objs.size l 0/\s₂.heap.IsList l items)->l≠s.heap.objs.size->Q (.ref s.heap.objs.size) s₂):wpAny (model prog w) A (pyIter (.ref l)) Q E s:=by
 have hlt:l<s.heap.objs.size:=by obtain⟨_,e,_⟩:=hl;exact lt_size e
 exact wpAny_pyIter_list hl (h _ rfl ⟨⟨_,get?_push_size _ rfl,rfl,rfl⟩,hl.push _⟩ (ne_of_lt hlt))
theorem EB{prog:Program}{w:World}{A:Around}{bs:List Bool}{its:List Value}(e:its=bs.map Value.bool):
  TruthOf prog w A (fun i v=>its.toArray[i]? =some v) (fun i=>bs.getD i false):=fun i v s Q E hv hq=>by
 have hv':its[i]? =some v:=by simpa using hv
 rw[e,getElem?_map]at hv';obtain⟨b,hb,rfl⟩:=map_eq_some_iff.mp hv';have hg:bs.getD i false=b:=by rw[getD_eq_getElem?_getD,hb]<;>rfl
 have hq':Q (bs.getD i false) s:=hq;rw[hg]at hq';exact wpAny_truthy_bool hq'
theorem Ge:∀bs:List Bool,(List.range bs.length).any (fun i=>bs.getD i false)=bs.any id
 |[]=>rfl
 |b::bs=>by
  rw[length_cons,List.range_succ_eq_map,any_cons,List.any_map,any_cons,<-Ge bs]
  all_goals rfl
theorem Go:∀bs:List Bool,(List.range bs.length).all (fun i=>bs.getD i false)=bs.all id
 |[]=>rfl
 |b::bs=>by
  rw[length_cons,List.range_succ_eq_map,List.all_cons,List.all_map,List.all_cons,<-Go bs]
  all_goals rfl
section
variable{X:Cx}
def rAny(K:Frag):List V->Hp->VK->Prop:=fun vs H Q=>∃(a:Addr)(bs:List Bool),vs=[V.ref a]/\SqL K H a (bs.map V.bl)/\Q (.bl (bs.any id)) H
def rAll(K:Frag):List V->Hp->VK->Prop:=fun vs H Q=>∃(a:Addr)(bs:List Bool),vs=[V.ref a]/\SqL K H a (bs.map V.bl)/\Q (.bl (bs.all id)) H
theorem Ob(hc:X.calm=true):CallR X (.builtin "any") (rAny X.K):=by
 intro pins s Z H vs us Q I r h;obtain⟨a,bs,rfl,hs,q⟩:=h;obtain⟨its,rv,hl,_⟩:=I.list hs;rw[Vals.ref1 r];have hb:=rv.bls;refine call_any_walk (Hz hl.isList fun s₂ e2 st hne=>?_);subst e2;refine⟨_,_,_,_,_,_,_,rfl,Walks.list (A:=X.A.in1) (I.ok.hd hc) _ a hne its.toArray,st,EB hb,fun h' tk hk=>?_⟩;refine⟨.bl _,H,I.kept fun b o eo=>hk b o (fun hmem=>?_) (get?_push_of_some _ eo),?_,q⟩
 .rcases mem_cons.mp hmem with e1|hmem
  .exact absurd (e1▸lt_size eo) (lt_irrefl _)
  .cases hmem
 .show Value.bool _=Value.bool _;rw[<-Ge,hb,size_toArray,length_map]
theorem KD(hc:X.calm=true):CallR X (.builtin "all") (rAll X.K):=by
 intro pins s Z H vs us Q I r h;obtain⟨a,bs,rfl,hs,q⟩:=h;obtain⟨its,rv,hl,_⟩:=I.list hs;rw[Vals.ref1 r];have hb:=rv.bls;refine call_all_walk (Hz hl.isList fun s₂ e2 st hne=>?_);subst e2;refine⟨_,_,_,_,_,_,_,rfl,Walks.list (A:=X.A.in1) (I.ok.hd hc) _ a hne its.toArray,st,EB hb,fun h' tk hk=>?_⟩;refine⟨.bl _,H,I.kept fun b o eo=>hk b o (fun hmem=>?_) (get?_push_of_some _ eo),?_,q⟩
 .rcases mem_cons.mp hmem with e1|hmem
  .exact absurd (e1▸lt_size eo) (lt_irrefl _)
  .cases hmem
 .show Value.bool _=Value.bool _;rw[<-Go,hb,size_toArray,length_map]
end
mutual
inductive Dp (K:Frag) (H:Hp):V->PyData->Prop
 |non:Dp K H .non .none
 |bl (b:Bool):Dp K H (.bl b) (.bool b)
 |int (i:Int):Dp K H (.int i) (.int i)
 |str (x:Str):Dp K H (.str x) (.str x)
 |lst {a:Addr} {xs:List V} {ds:List PyData}:SqL K H a xs->DpAll K H xs ds->Dp K H (.ref a) (.list ds)
 |tup {a:Addr} {xs:List V} {ds:List PyData}:SqT K H a xs->DpAll K H xs ds->Dp K H (.ref a) (.tuple ds)
inductive DpAll (K:Frag) (H:Hp):List V->List PyData->Prop
 |nil:DpAll K H [] []
 |cons {v:V} {vs:List V} {d:PyData} {ds:List PyData}:Dp K H v d->DpAll K H vs ds->DpAll K H (v::vs) (d::ds)
end
section
variable{X:Cx}{pins:List (Addr×Obj)}{Z:St}{H:Hp}{s:Shared}
mutual
theorem Dp.reads(I:Inv X pins Z H s):∀(d:PyData)(v:V)(u:Value),Dp X.K H v d->RelV v u->∃as,Reads s.heap u d as
 | .none,_,_,h,r=>by
  cases h;cases r;exact⟨_,Reads.none⟩
 | .bool b,_,_,h,r=>by
  cases h;cases r;exact⟨_,Reads.bool b⟩
 | .int i,_,_,h,r=>by
  cases h;obtain⟨t,rfl⟩:=r;exact⟨_,Reads.int i t⟩
 | .str x,_,_,h,r=>by
  cases h;obtain⟨t,rfl⟩:=r;exact⟨_,Reads.str x t⟩
 | .list ds,_,_,h,r=>by
  cases h with
  |lst hs ha=>
   cases r;obtain⟨its,rv,⟨o,n,ho,hc,_,hd⟩,_⟩:=I.list hs;obtain⟨as,hr⟩:=Dp.readsAll I ds _ its ha rv;exact⟨_,Reads.list ho hc hd hr⟩
 | .tuple ds,_,_,h,r=>by
  cases h with
  |tup hs ha=>
   cases r;obtain⟨its,rv,⟨o,ho,hc,n,hd⟩,_⟩:=I.tuple hs;obtain⟨as,hr⟩:=Dp.readsAll I ds _ its ha rv;exact⟨_,Reads.tuple ho hc hd hr⟩
 | .dict _,_,_,h,_=>by cases h
theorem Dp.readsAll(I:Inv X pins Z H s):∀(ds:List PyData)(vs:List V)(us:List Value),DpAll X.K H vs ds->Vals vs us->∃as,ReadsAll s.heap us ds as
 |[],_,_,h,r=>by
  cases h;cases r;exact⟨_,ReadsAll.nil⟩
 |d::ds,_,_,h,r=>by
  cases h with
  |cons h1 h2=>
   cases r with
   |cons r1 r2=>
    obtain⟨as,q1⟩:=Dp.reads I d _ _ h1 r1;obtain⟨bs,q2⟩:=Dp.readsAll I ds _ _ h2 r2;exact⟨_,ReadsAll.cons q1 q2⟩
end
end
section
variable{X:Cx}
def rEqD(K:Frag):R2:=fun x y H Q=>∃d e,Dp K H x d/\Dp K H y e/\SeqAt.shaped d=true/\SeqAt.shaped e=true/\Q (.bl (eqv d e)) H
def rNeD(K:Frag):R2:=fun x y H Q=>∃d e,Dp K H x d/\Dp K H y e/\SeqAt.shaped d=true/\SeqAt.shaped e=true/\Q (.bl (!eqv d e)) H
theorem IW(hu:X.A.units+64<cLine):OpR X (compareOp .Eq) (rEqD X.K):=by
 intro pins s Z H x y v u Q I rx ry h;obtain⟨d,e,hd,he,sd,se,q⟩:=h;obtain⟨as,r1⟩:=Dp.reads I d x v hd rx;obtain⟨bs,r2⟩:=Dp.reads I e y u he ry;exact SeqAt.compareEq_shaped r1 r2 sd se hu ⟨.bl _,H,I,rfl,q⟩
theorem Nu(hu:X.A.units+64<cLine):OpR X (compareOp .NotEq) (rNeD X.K):=by
 intro pins s Z H x y v u Q I rx ry h;obtain⟨d,e,hd,he,sd,se,q⟩:=h;obtain⟨as,r1⟩:=Dp.reads I d x v hd rx;obtain⟨bs,r2⟩:=Dp.reads I e y u he ry;exact SeqAt.compareNe_shaped r1 r2 sd se hu ⟨.bl _,H,I,rfl,q⟩
end
abbrev CellAt(h:Heap)(c:Addr)(v:Option Value):Prop:=h.IsCell c v
def relS(scope sc:Scope):Scope:=
 {scope with names:=scope.names.map fun(n,k)=>if(k== .free&&sc.kind== .function&&sc.names.lookup n==some .cell) then(n,.cell) else(n,k)}
def cloFrom(cells:List (Str×Addr)):List (Str×NameKind)->List (Str×Addr)->List (Str×Addr)
 |[],acc=>acc
 |(n,k)::r,acc=>if k== .free then cloFrom cells r ((n,(cells.lookup n).getD 0)::acc) else cloFrom cells r acc
theorem DR(env:Env)(f:Str×NameKind->List (Str×Addr)->Sem (ForInStep (List (Str×Addr))))
  (hf:∀n k c,f (n,k) c=if k== .free then(do let a<-cellOf env n;pure (.yield ((n,a)::c))) else pure (.yield c)):
  ∀(names:List (Str×NameKind))(acc:List (Str×Addr)),(∀y∈names,y.2= .free->∃c,env.cells.lookup y.1=some c)->forIn names acc f=pure (cloFrom env.cells names acc)
 |[],acc,_=>by rw[List.forIn_nil];rfl
 |(n,k)::r,acc,h=>by
  rw[List.forIn_cons,hf];have ih:=fun acc=>DR env f hf r acc fun y hy=>h y (mem_cons_of_mem _ hy);unfold cloFrom;by_cases hk:(k==NameKind.free)=true
  .rw[if_pos hk,if_pos hk];obtain⟨c,hc⟩:=h (n,k) mem_cons_self (by simpa using hk);have e:cellOf env n=pure c:=by unfold cellOf;rw[hc]
   rw[e];have e2:(env.cells.lookup n).getD 0=c:=by rw[hc];rfl
   rw[e2];exact ih _
  .rw[if_neg hk,if_neg hk];exact ih _
theorem I0{scope:Scope}{env:Env}(h:∀y∈scope.names,y.2= .free->∃c,env.cells.lookup y.1=some c):closureFor scope env=pure (cloFrom env.cells scope.names []):=by
 simp only[closureFor];rw[DR env _ (fun n k c=>rfl) scope.names [] h];rfl
theorem Ds{α:Type}:∀{l:List (Str×α)}{n:Str}{c:α},(n,c)∈l->∃c',l.lookup n=some c'
 |(k,v)::r,n,c,h=>by
  rw[lookup_cons];cases hb:n==k with
  |true=>exact⟨_,rfl⟩
  |false=>
   rcases mem_cons.mp h with e|h
   .cases e;simp at hb
   .exact Ds h
theorem B4{cells:List (Str×Addr)}:∀{names:List (Str×NameKind)}{acc:List (Str×Addr)}{n:Str}{c:Addr},(n,c)∈cloFrom cells names acc->(n,c)∈acc\/((n,.free)∈names/\c=(cells.lookup n).getD 0)
 |[],_,_,_,h=>.inl h
 |(m,k)::r,acc,n,c,h=>by
  unfold cloFrom at h;split at h
  .rename_i hk;have hk:k= .free:=by simpa using hk
   rcases B4 h with h|⟨h1,h2⟩
   .rcases mem_cons.mp h with e|h
    .cases e;exact .inr ⟨hk▸mem_cons_self,rfl⟩
    .exact .inl h
   .exact .inr ⟨mem_cons_of_mem _ h1,h2⟩
  .rcases B4 h with h|⟨h1,h2⟩
   .exact .inl h
   .exact .inr ⟨mem_cons_of_mem _ h1,h2⟩
theorem C4{cells:List (Str×Addr)}:∀{names:List (Str×NameKind)}{acc:List (Str×Addr)}{p:Str×Addr},p∈acc->p∈cloFrom cells names acc
 |[],_,_,h=>h
 |(m,k)::r,acc,p,h=>by
  unfold cloFrom;split
  .exact C4 (mem_cons_of_mem _ h)
  .exact C4 h
theorem CY{cells:List (Str×Addr)}:∀{names:List (Str×NameKind)}{acc:List (Str×Addr)}{n:Str},(n,.free)∈names->(n,(cells.lookup n).getD 0)∈cloFrom cells names acc
 |(m,k)::r,acc,n,h=>by
  unfold cloFrom;rcases mem_cons.mp h with e|h
  .cases e;exact C4 mem_cons_self
  .split
   .exact CY h
   .exact CY h
theorem Cc:∀{names:List (Str×NameKind)}{h:Heap}{acc:List (Str×Addr)}{x:Str}{c:Addr},(x,c)∈cellsFrom h.objs.size names acc->
  (x,c)∈acc\/((x,.cell)∈names/\h.objs.size<=c/\CellAt (pushCells h names) c none)
 |[],_,_,_,_,h=>.inl h
 |(n,k)::r,h,acc,x,c,hm=>by
  unfold cellsFrom at hm;unfold pushCells;split at hm
  .rename_i hk;rw[if_pos hk];have hk:k= .cell:=by simpa using hk
   rw[<-size_push h {cls:=.type "cell",data:=.cell none}]at hm;rcases Cc hm with hm|⟨h1,h2,h3⟩
   .rcases mem_cons.mp hm with e|hm
    .cases e;exact .inr ⟨hk▸mem_cons_self,le_refl _,_,pushCells_keeps r _ _ _ (get?_push_size _ rfl),rfl⟩
    .exact .inl hm
   .rw[size_push]at h2;exact .inr ⟨mem_cons_of_mem _ h1,Nat.le_of_succ_le h2,h3⟩
  .rename_i hk;rw[if_neg hk];rcases Cc hm with hm|⟨h1,h2,h3⟩
   .exact .inl hm
   .exact .inr ⟨mem_cons_of_mem _ h1,h2,h3⟩
theorem C7:∀{names:List (Str×NameKind)}{n:Nat}{acc:List (Str×Addr)}{p:Str×Addr},p∈acc->p∈cellsFrom n names acc
 |[],_,_,_,h=>h
 |(m,k)::r,n,acc,p,h=>by
  unfold cellsFrom;split
  .exact C7 (mem_cons_of_mem _ h)
  .exact C7 h
theorem Ed:∀{names:List (Str×NameKind)}{n:Nat}{acc:List (Str×Addr)}{x:Str},(x,.cell)∈names->∃c,(x,c)∈cellsFrom n names acc
 |(m,k)::r,n,acc,x,h=>by
  unfold cellsFrom;rcases mem_cons.mp h with e|h
  .cases e;exact⟨n,C7 mem_cons_self⟩
  .split
   .exact Ed h
   .exact Ed h
theorem Eg:∀{names:List (Str×NameKind)}{h:Heap}{acc:List (Str×Addr)}{x y:Str}{c:Addr},(∀p∈acc,p.2<h.objs.size)->(∀x y c,(x,c)∈acc->(y,c)∈acc->x=y)->
  (x,c)∈cellsFrom h.objs.size names acc->(y,c)∈cellsFrom h.objs.size names acc->x=y
 |[],_,_,_,_,_,_,hi,h1,h2=>hi _ _ _ h1 h2
 |(n,k)::r,h,acc,x,y,c,hl,hi,h1,h2=>by
  unfold cellsFrom at h1 h2;split at h1
  .rename_i hk;rw[if_pos hk]at h2;rw[<-size_push h {cls:=.type "cell",data:=.cell none}]at h1 h2;refine Eg (h:=h.push _) (fun p hp=>?_) (fun x y c a b=>?_) h1 h2
   .rw[size_push];rcases mem_cons.mp hp with rfl|hp
    .exact Nat.lt_succ_self _
    .exact Nat.lt_succ_of_lt (hl p hp)
   .rcases mem_cons.mp a with e|a<;>rcases mem_cons.mp b with e'|b
    .cases e;cases e';rfl
    .cases e;exact absurd (hl _ b) (lt_irrefl _)
    .cases e';exact absurd (hl _ a) (lt_irrefl _)
    .exact hi _ _ _ a b
  .rename_i hk;rw[if_neg hk]at h2;exact Eg hl hi h1 h2
theorem Hw{M:Model}{A:Around}{E:Value->Shared->Prop}{s:Shared}{scope:Scope}{globals:Addr}{closure:List (Str×Addr)}{qual:Str}{func:Option Addr}{code:Value}{around:Env}{builtins:Addr}{Q:Env->Shared->Prop}
  (h:Q (newEnv scope s.heap.objs.size globals (cellsFrom (s.heap.objs.size+1) scope.names closure) qual func code (some around) builtins)
   {s with heap:=pushCells (s.heap.push {cls:=.type "dict",data:=.dict #[]}) scope.names}):
  wpAny M A (newFunctionEnv scope globals closure [] qual func code (some around) builtins) Q E s:=by
 simp only[newFunctionEnv,Option.isSome_some,if_true];refine wpAny_bind (wpAny_alloc ?_);refine wpAny_bind (wpAny_layCells _ (fun n k c=>rfl) scope.names closure _ _ ?_);rw[show({s with heap:=s.heap.push {cls:=.type "dict",data:=.dict #[]}}:Shared).heap.objs.size=s.heap.objs.size+1 from size_push ..];rw[List.forIn_nil];exact wpAny_bind (wpAny_pure (wpAny_pure h))
theorem C0{sc:Scope}:∀{names:List (Str×NameKind)}{x:Str}{k:NameKind},
  (names.map fun(n,k)=>if(k==NameKind.free&&sc.kind== .function&&sc.names.lookup n==some .cell) then(n,NameKind.cell) else(n,k)).lookup x=some k->
  ∃k',names.lookup x=some k'/\(k=k'\/(k'= .free/\k= .cell))
 |[],_,_,h=>by simp at h
 |(n,k₀)::r,x,k,h=>by
  have ih:= @C0 sc r x k;have h':List.lookup x ((if(k₀==NameKind.free&&sc.kind== .function&&sc.names.lookup n==some .cell)=true then(n,NameKind.cell) else(n,k₀))::(r.map _))=some k:=h;cases hx:x==n with
  |true=>
   simp only[lookup_cons,hx];by_cases hc:(k₀==NameKind.free&&sc.kind== .function&&sc.names.lookup n==some .cell)=true
   .rw[if_pos hc]at h';simp only[lookup_cons,hx]at h';cases h';simp only[and_eq_true,beq_iff_eq]at hc;exact⟨k₀,rfl,.inr ⟨hc.1.1,rfl⟩⟩
   .rw[if_neg hc]at h';simp only[lookup_cons,hx]at h';cases h';exact⟨_,rfl,.inl rfl⟩
  |false=>
   simp only[lookup_cons,hx];by_cases hc:(k₀==NameKind.free&&sc.kind== .function&&sc.names.lookup n==some .cell)=true
   .rw[if_pos hc]at h';simp only[lookup_cons,hx]at h';exact ih h'
   .rw[if_neg hc]at h';simp only[lookup_cons,hx]at h';exact ih h'
structure BlkOk (N:List Str) (sc scope:Scope) (own:List (Str×Nat)):Prop where
 kind:scope.kind= .function
 uniq:∀y∈scope.names,scope.names.lookup y.1=some y.2
 ix:∀p∈own,N[p.2]? =some p.1
 free:∀y∈scope.names,y.2= .free->sc.names.lookup y.1=some .cell\/sc.names.lookup y.1=some .free
 own:∀y∈scope.names,y.2= .local\/y.2= .cell->y.1∈own.map (·.1)\/y.1∉N
def wipe(Z:St):List Nat->St
 |[]=>Z
 |v::vs=>(wipe Z vs).set v none
theorem CT(Z:St):∀vs:List Nat,(wipe Z vs).length=Z.length
 |[]=>rfl
 |v::vs=>by unfold wipe;rw[length_set,CT Z vs]
theorem D8{Z:St}{i:Nat}{x:V}:∀{vs:List Nat},(wipe Z vs)[i]? =some (some x)->Z[i]? =some (some x)/\i∉vs
 |[],h=>⟨h,by simp⟩
 |v::vs,h=>by
  unfold wipe at h;by_cases hi:v=i
  .subst hi;by_cases hv:v<(wipe Z vs).length
   .rw[List.getElem?_set_self hv]at h;cases h
   .rw[List.getElem?_eq_none (by simpa using hv)]at h;cases h
  .rw[List.getElem?_set_ne hi]at h;obtain⟨h1,h2⟩:=D8 h;exact⟨h1,by simp only[mem_cons,not_or];exact⟨fun e=>hi e.symm,h2⟩⟩
abbrev Cx.blk(X:Cx)(s:Shared)(H:Hp)(scope:Scope)(cenv:Env)(fp:List Addr):Cx:={X with s_0:=s,H_0:=H,env:=cenv,outer:=X.stack,ex:=fp,fn:=fun x=>scope.names.lookup x==some .cell,pn:=[],xe:=fun _ _=>False}
section
variable{X:Cx}{pins:List (Addr×Obj)}{Z:St}{H:Hp}{s:Shared}
theorem HF{scope:Scope}{own:List (Str×Nat)}{fp:List Addr}(I:Inv X pins Z H s)(ok:BlkOk X.N X.env.scope scope own)(hN:X.N.Nodup)(hfp:∀b∈fp,FpOk X pins H b/\b<s.heap.objs.size):
  Inv (X.blk s H scope (compEnvC scope (cellsFrom (s.heap.objs.size+1) scope.names (cloFrom X.env.cells scope.names [])) s.heap.objs.size X.env) fp) [] (wipe Z (own.map (·.2))) H {s with heap:=pushCells (s.heap.push {cls:=.type "dict",data:=.dict #[]}) scope.names}:=by
 have hfree:∀y∈scope.names,y.2= .free->∃c,X.env.cells.lookup y.1=some c:=fun y hy e=>by
  rcases ok.free y hy e with k|k
  .exact I.ok.has _ (.inl k)
  .exact I.ok.has _ (.inr k)
 generalize hcenv:compEnvC scope (cellsFrom (s.heap.objs.size+1) scope.names (cloFrom X.env.cells scope.names [])) s.heap.objs.size X.env=cenv;have kp:∀b o,s.heap.get? b=some o->(pushCells (s.heap.push {cls:=.type "dict",data:=.dict #[]}) scope.names).get? b=some o:=fun b o e=>pushCells_keeps _ _ _ _ (get?_push_of_some _ e);have hL:cenv.locals=s.heap.objs.size:=by rw[<-hcenv];rfl
 have hcl:cenv.cells=cellsFrom (s.heap.objs.size+1) scope.names (cloFrom X.env.cells scope.names []):=by rw[<-hcenv];rfl
 have hsc:cenv.scope=relS scope X.env.scope:=by rw[<-hcenv];rfl
 rw[<-size_push s.heap {cls:=.type "dict",data:=.dict #[]}]at hcl
 have cm:∀{y c},(y,c)∈cloFrom X.env.cells scope.names []->X.env.cells.lookup y=some c/\c<s.heap.objs.size:=fun{y c} hm=>by
  rcases B4 hm with hm|⟨h1,rfl⟩
  .cases hm
  .obtain⟨c,hc⟩:=hfree _ h1 rfl;rw[hc];obtain⟨w,z⟩:=I.cell _ _ hc;exact⟨rfl,z.lt⟩
 have mem:∀{y c},cenv.cells.lookup y=some c->(X.env.cells.lookup y=some c/\c<s.heap.objs.size)\/(s.heap.objs.size+1<=c/\CellAt (pushCells (s.heap.push {cls:=.type "dict",data:=.dict #[]}) scope.names) c none):=fun{y c} e=>by
  rw[hcl]at e;rcases Cc (PySem.mem_of_lookup e)with hm|⟨_,h2,h3⟩
  .exact .inl (cm hm)
  .rw[size_push]at h2;exact .inr ⟨h2,h3⟩
 have look:∀{y},scope.names.lookup y=some .free->∃c,cenv.cells.lookup y=some c/\X.env.cells.lookup y=some c:=fun{y} hl=>by
  have hy:(y,NameKind.free)∈scope.names:=PySem.mem_of_lookup hl;obtain⟨c',e'⟩:=Ds (C7 (names:=scope.names) (n:=(s.heap.push {cls:=.type "dict",data:=.dict #[]}).objs.size) (CY (cells:=X.env.cells) (acc:=[]) hy));rw[<-hcl]at e';refine⟨c',e',?_⟩;rw[hcl]at e';rcases Cc (PySem.mem_of_lookup e')with hm|⟨h1,_,_⟩
  .exact(cm hm).1
  .have:=ok.uniq _ h1;rw[hl]at this;cases this
 have okB:(X.blk s H scope cenv fp).Ok:=by
  refine⟨I.ok.mod,by show cenv.scope.kind=_;rw[hsc];exact ok.kind,by show cenv.globals=_;rw[<-hcenv];exact I.ok.glob,by show cenv.builtins=_;rw[<-hcenv];exact I.ok.blt,by show s.heap.objs.size<=cenv.locals;rw[hL];exact le_refl _,
   fun y z c e1 e2=>?_,fun y hy=>?_,fun y c z e=>?_,I.ok.hd,I.ok.frames,.inl rfl,fun b hb=>⟨?_,fun y c e z=>?_⟩,I.bs,le_trans I.ok.bsz I.sz,fun b o e hb=>?_,fun b hb z=>?_,I.stack,I.stkFree⟩
  .have e1:cenv.cells.lookup y=some c:=e1;have e2:cenv.cells.lookup z=some c:=e2;rw[hcl]at e1 e2;refine Eg (fun p hp=>?_) (fun y z c a b=>I.ok.inj y z c (cm a).1 (cm b).1) (PySem.mem_of_lookup e1) (PySem.mem_of_lookup e2);rw[size_push];exact Nat.lt_succ_of_lt (cm (y:=p.1) (c:=p.2) hp).2
  .show∃c,cenv.cells.lookup y=some c
   have key:∀k,cenv.kindOf y=some k->(k= .cell\/k= .free)->∃c,cenv.cells.lookup y=some c:=fun k hk hk'=>by
    unfold Env.kindOf at hk;rw[hsc]at hk;obtain⟨k',e,r⟩:=C0 hk
    have:k'= .cell\/k'= .free:=by
     rcases r with rfl|⟨rfl,_⟩
     .exact hk'
     .exact .inr rfl
    rcases this with rfl|rfl
    .obtain⟨c,hm⟩:=Ed (n:=(s.heap.push {cls:=.type "dict",data:=.dict #[]}).objs.size) (acc:=cloFrom X.env.cells scope.names []) (PySem.mem_of_lookup e);obtain⟨c',e'⟩:=Ds hm;exact⟨c',by rw[hcl];exact e'⟩
    .obtain⟨c,h1,_⟩:=look e;exact⟨c,h1⟩
   rcases hy with hy|hy
   .exact key _ hy (.inl rfl)
   .exact key _ hy (.inr rfl)
  .have z:(scope.names.lookup y==some NameKind.cell)=true:=z;have z:scope.names.lookup y=some .cell:=by simpa using z
   have e:cenv.cells.lookup y=some c:=e;rw[hcl]at e;rcases Cc (PySem.mem_of_lookup e)with hm|⟨_,h2,_⟩
   .rcases B4 hm with hm|⟨h1,_⟩
    .cases hm
    .have q:=ok.uniq _ h1;rw[z]at q;cases q
   .rw[size_push]at h2;exact Nat.le_of_succ_le h2
  .show b≠cenv.locals;rw[hL];exact ne_of_lt (hfp b hb).2
  .have e:cenv.cells.lookup y=some c:=e;rcases mem e with ⟨h1,_⟩|⟨h1,_⟩
   .exact(hfp b hb).1.2.2.2.2.1 y c h1 z
   .have h2:s.heap.objs.size+1<=b:=by rw[<-z];exact h1
    exact absurd (lt_of_lt_of_le (hfp b hb).2 (Nat.le_of_succ_le h2)) (lt_irrefl _)
  .rcases(hfp b hb).1.2.2.2.1 with z|z
   .exact I.ok.noex b o e z
   .exact absurd (lt_of_lt_of_le (lt_size e) (le_trans I.ok.bsz z)) (lt_irrefl _)
  .rcases mem_cons.mp (I.stkSub b z)with z|z
   .exact(hfp b hb).1.2.1 z
   .exact(hfp b hb).1.2.2.1 z
 refine⟨okB,rfl,I.bare,Un.kept kp,⟨fun _=>none,?_,fun i y av e1 e2 e3=>?_⟩,fun y c e=>?_,?_,fun y c e=>?_,fun p hp=>?_,I.hok.kept kp,by rw[CT];exact I.len⟩
 .show Heap.Ns _ cenv.locals _;rw[hL];exact Heap.Ns.keeps (Heap.Ns.new ..) fun b o e=>pushCells_keeps _ _ _ _ e
 .obtain⟨e2,hne⟩:=D8 e2
  have hfr:scope.names.lookup y=some .free/\(cenv.kindOf y=some .cell\/cenv.kindOf y=some .free):=by
   have key:∀k,cenv.scope.names.lookup y=some k->k= .local\/k= .cell\/k= .free->scope.names.lookup y=some .free/\(cenv.kindOf y=some .cell\/cenv.kindOf y=some .free):=fun k hk hk'=>by
    have hk0:=hk;rw[hsc]at hk;obtain⟨k',e,r⟩:=C0 hk
    have no:¬(k'= .local\/k'= .cell):=fun hh=>by
     rcases ok.own _ (PySem.mem_of_lookup e) hh with e'|e'
     .obtain⟨p,hp,hpy⟩:=mem_map.mp e';have e3:=ok.ix p hp;have:p.1=y:=hpy;rw[this]at e3;exact hne (mem_map.mpr ⟨p,hp,Ff hN e3 e1⟩)
     .exact e' (mem_of_getElem? e1)
    rcases r with rfl|⟨rfl,rfl⟩
    .rcases hk' with rfl|rfl|rfl
     .exact absurd (.inl rfl) no
     .exact absurd (.inr rfl) no
     .exact⟨e,.inr hk0⟩
    .exact⟨e,.inl hk0⟩
   have e3:Vis cenv.scope y:=e3;rcases e3 with e3|e3|e3
   .exact key _ e3 (.inl rfl)
   .exact key _ e3 (.inr (.inl rfl))
   .exact key _ e3 (.inr (.inr rfl))
  obtain⟨m,hn,hl⟩:=I.loc;have hvis:Vis X.env.scope y:=(ok.free _ (PySem.mem_of_lookup hfr.1) rfl).elim (fun k=>.inr (.inl k)) (fun k=>.inr (.inr k));obtain⟨w,r,q⟩:=hl i y av e1 e2 hvis;refine⟨w,r,.inr ⟨hfr.2,?_⟩⟩;obtain⟨c,h1,h2⟩:=look hfr.1;rcases q with ⟨k,_⟩|⟨_,c',e',z⟩
  .have k:X.env.scope.names.lookup y=some .local:=k;rcases ok.free _ (PySem.mem_of_lookup hfr.1) rfl with k'|k'<;>rw[show X.env.scope.names.lookup y=_ from k']at k<;>cases k
  .rw[h2]at e';cases e';exact⟨c,h1,z.keeps kp⟩
 .have e:cenv.cells.lookup y=some c:=e;rcases mem e with ⟨h1,_⟩|⟨_,z⟩
  .obtain⟨w,z⟩:=I.cell y c h1;exact⟨w,z.keeps kp⟩
  .exact⟨_,z⟩
 .show H cenv.locals=none;rw[hL];exact I.hok.fresh (le_refl _)
 .have e:cenv.cells.lookup y=some c:=e;rcases mem e with ⟨h1,_⟩|⟨h1,_⟩
  .exact I.freeC y c h1
  .exact I.hok.fresh (Nat.le_of_succ_le h1)
 .exact absurd (show p∈([]:List (Addr×Obj))++[] from hp) (by simp)
theorem Nm{E:Value->Shared->Prop}{D:Addr}{xs:List V}{y:V}{v:Value}{Q:Value->Shared->Prop}(I:Inv X pins Z H s)(hD:H D=some (.lst xs))(hz:xs.length<sizeLine)(r:RelV y v)
  (h:∀s',Inv X pins Z (aj H D (.lst (xs++[y]))) s'->Q .none s'):wpAny (model X.prog X.w) X.A (call (.builtin "list.append") [.ref D,v]) Q E s:=by
 obtain⟨hz',its,n,ri,e⟩:=I.hok D _ hD;have hl:=ri.length;refine append_at (hsz:=by rw[size_toArray];omega) e fun h' sb ho'=>?_;refine h {s with heap:=h'} (I.write (t':=s.toks) (by rw[hD];trivial) (.inl rfl) (fun b u hb q=>(sb.2 b hb).trans q) ⟨_,ho'⟩ ⟨by rw[length_append];exact hz,its++[v],n+1,ri.append (.cons r .nil),?_⟩);rw[ho'];simp
def PTs(X:Cx)(ifs:List Expr)(t:TT):Prop:=
 ∀(pins:List (Addr×Obj))(s:Shared)(Z:St)(H:Hp)(Q:Bool->Hp->Prop),Inv X pins Z H s->t Z H Q->
  wpAny (model X.prog X.w) X.A (forIn ifs true fun c r=>if r=true then do let ok<-isTrue c X.env (eval c X.env);pure (ForInStep.yield ok) else pure (ForInStep.yield r)) (TP X pins Z Q) X.xe s
def tYes:TT:=fun _ H Q=>Q true H
theorem BE:PTs X [] tYes:=fun _ _ _ H _ I h=>wpAny_tests_nil ⟨H,I,h⟩
theorem Cz{c:Expr}{t:TT}(h:PT X c t):PTs X [c] t:=fun pins s Z H Q I hw=>wpAny_tests_one (h pins s Z H Q I hw)
end
theorem thnF{α:Type}{t:Sem α}{Q Q':α->Shared->Prop}{M:Model}{A:Around}{E:Value->Shared->Prop}{s:Shared}(h:wpAny M A t Q (fun _ _=>False) s)(hQ:∀a s,Q a s->Q' a s):wpAny M A t Q' E s:=wpAny_mono h hQ fun _ _ z=>False.elim z
theorem Ho{prog:Program}{w:World}{A:Around}{R:Result->Shared->Prop}{s:Shared}{elt target iter:Expr}{ifs:List Expr}{scope:Scope}{pos:Pos}{it acc:Value}{env:Env}(I:Nat->Shared->Prop)
  (turn:∀n s,I n s->wpAny (model prog w) A (pyNext it) (fun r s₁=>match r with
   |none=>R (.ok .next) s₁
   |some v=>wpAny (model prog w) A (letOwnedTupleGo target it v) (fun _ s₁'=>wpAny (model prog w) A (assign target env v) (fun _ s₂=>
     wpAny (model prog w) A (forIn ifs true fun c r=>if r=true then do let ok<-isTrue c env (eval c env);pure (ForInStep.yield ok) else pure (ForInStep.yield r)) (fun ok s₃=>
      if ok=true then wpAny (model prog w) A (eval elt env) (fun x s₄=>
       wpAny (model prog w) A (call (.builtin "list.append") [acc,x]) (fun _ s₅=>∃m,m<n/\I m s₅) (notedBy (model prog w) A env fun e s'=>R (.error e) s') s₄) (notedBy (model prog w) A env fun e s'=>R (.error e) s') s₃
      else∃m,m<n/\I m s₃) (notedBy (model prog w) A env fun e s'=>R (.error e) s') s₂) (notedBy (model prog w) A env fun e s'=>R (.error e) s') s₁') (notedBy (model prog w) A env fun e s'=>R (.error e) s') s₁) (notedBy (model prog w) A env fun e s'=>R (.error e) s') s)
  (n:Nat) (h:I n s):
  codeAny (model prog w) A (.compLoop (.ListComp elt [⟨target,iter,ifs,0⟩] scope pos) 0 it acc env) R s:=by
 refine codeAny_loop rfl I (fun n s hI=>?_) n h;show wpAny _ A ((compTurn (.ListComp elt [⟨target,iter,ifs,0⟩] scope pos) 0 it acc env).onRaise (fun x=>do noteFrame x env;theTreesLotGoes x)) _ _ s;refine wpAny_noted ?_;rw[compTurn_list];refine wpAny_bind (wpAny_standAt (wpAny_bind (wpAny_mono (turn n s hI) (fun r s₁ h₁=>?_) fun _ _ h'=>h')));cases r with
 |none=>exact wpAny_pure h₁
 |some v=>
  refine wpAny_bind (wpAny_mono h₁ (fun _ s₁' h₁'=>?_) fun _ _ h'=>h');refine wpAny_bind (wpAny_mono h₁' (fun _ s₂ h₂=>wpAny_bind (wpAny_mono h₂ (fun ok s₃ h₃=>?_) fun _ _ h'=>h')) fun _ _ h'=>h');cases ok with
  |false=>exact wpAny_pure ⟨rfl,h₃⟩
  |true=>
   exact wpAny_bind (wpAny_bind (wpAny_mono h₃ (fun x s₄ h₄=>wpAny_bind (wpAny_mono h₄ (fun _ s₅ h₅=>wpAny_pure (wpAny_pure ⟨rfl,h₅⟩)) fun _ _ h'=>h')) fun _ _ h'=>h'))
section
variable{X:Cx}
def tLc(wi:TI)(g:TG)(tt:TT)(te:TE)(vs:List Nat):TE:=fun Z H Q=>wi Z H fun J H1=>∀D,H1 D=none->∃W:Nat->Nat->Hp->Prop,(∃m,W 0 m (aj H1 D (.lst [])))/\∀i m H,W i m H->
 (J.stop i H/\Q (.ref D) H)\/(J.go i H/\∃Nx:Hp->Prop,(∀H',Nx H'->∃m',m'<m/\W (i+1) m' H')/\∀x H',J.yld i H x H'->g x (wipe Z vs) H' fun Z2 H2=>wipe Z2 vs=wipe Z vs/\tt Z2 H2 fun b H3=>
  if b=true then te Z2 H3 fun y H4=>∃acc,H4 D=some (.lst acc)/\acc.length<sizeLine/\Nx (aj H4 D (.lst (acc++[y]))) else Nx H3)
theorem Jy{pins:List (Addr×Obj)}{s:Shared}{Z:St}{H:Hp}{Q:VK}{elt tg iter:Expr}{ifs:List Expr}{scope:Scope}{own:List (Str×Nat)}{pos pos':Pos}{wi:TI}{g:TG}{tt:TT}{te:TE}{use:Option (Value->Sem Unit)}{Qf:Value->Shared->Prop}
  (hc:X.calm=true) (hN:X.N.Nodup) (I:Inv X pins Z H s) (hi:PI X tg iter wi) (ok:BlkOk X.N X.env.scope scope own)
  (hg:∀(s:Shared)(H:Hp)(C:Addr)(cl:List (Str×Addr))(fp:List Addr),PG (X.blk s H scope (compEnvC scope cl C X.env) fp) tg g) (ht:∀(s:Shared)(H:Hp)(C:Addr)(cl:List (Str×Addr))(fp:List Addr),PTs (X.blk s H scope (compEnvC scope cl C X.env) fp) ifs tt)
  (he:∀(s:Shared)(H:Hp)(C:Addr)(cl:List (Str×Addr))(fp:List Addr),PE (X.blk s H scope (compEnvC scope cl C X.env) fp) elt te) (hs:∀x,foldedSetIterable iter X.env x=pure x)
  (h:tLc wi g tt te (own.map (·.2)) Z H Q)
  (hRR:∀D C s' m H',Inv X pins Z H' s'->Q (.ref D) H'->s'.heap.Ns C m->FpOk X pins H' C->compPost (model X.prog X.w) X.A X.xe use Qf (.ref D) C (.ok .next) s'):
  wpAny (model X.prog X.w) X.A (comprehension (.ListComp elt [⟨tg,iter,ifs,0⟩] scope pos) scope X.env pos' (newList []) false (eval iter X.env) use) Qf X.xe s:=by
 have hfree:∀y∈scope.names,y.2= .free->∃c,X.env.cells.lookup y.1=some c:=fun y hy e=>by
  rcases ok.free y hy e with k|k
  .exact I.ok.has _ (.inl k)
  .exact I.ok.has _ (.inr k)
 refine wpAny_comprehension_free (use:=use) rfl hs (I0 hfree) ok.kind (fun y hy e=>by rw[ok.uniq y hy,e])
  (thn (hi pins s Z H _ I h) fun xv s1 hx=>thn hx fun itv s2 h2=>?_)
 obtain⟨it,fp,tn,J,H2,e,I2,T,st2,f2,q⟩:=h2;subst e;refine wpAny_newObj_type (Hw ?_) (by show 0<=sizeLine;decide);generalize hD:s2.heap.objs.size=D;have hDn:H2 D=none:=I2.hok.fresh (Nat.le_of_eq hD);obtain⟨W,⟨m0,w0⟩,turn⟩:=q D hDn;generalize hs3:({s2 with heap:=s2.heap.push {cls:=.type "list",data:=.seq ([]:List Value).toArray}}:Shared)=s3
 have I3:Inv X pins Z (aj H2 D (.lst [])) s3:=by
  rw[<-hs3];refine I2.laid (t':=s2.toks) (fun b o e=>get?_push_of_some _ e) (Nat.le_of_eq hD) ⟨zero_le _,[],0,.nil,?_⟩;rw[<-hD];exact get?_push_size _ rfl
 have h3:s3.heap=s2.heap.push {cls:=.type "list",data:=.seq ([]:List Value).toArray}:=by rw[<-hs3]
 have sz:∀b∈fp,b<s2.heap.objs.size:=fun b hb=>by
  obtain⟨o,e,_⟩:=T.obj _ _ st2 b hb;exact lt_size e
 have f3:∀b∈fp,FpOk X pins (aj H2 D (.lst [])) b/\b<s3.heap.objs.size:=fun b hb=>by
  have hlt:=sz b hb;refine⟨⟨?_,(f2 b hb).2⟩,by rw[h3,size_push];exact Nat.lt_succ_of_lt hlt⟩;rw[Am (by rw[<-hD];exact ne_of_lt hlt)];exact(f2 b hb).1
 have st3:tn 0 s3.heap:=T.keep _ _ _ st2 fun b _ o e=>by rw[h3];exact get?_push_of_some _ e
 have I4:=HF I3 ok hN f3;have pg:=hg s3 (aj H2 D (.lst [])) s3.heap.objs.size (cellsFrom (s3.heap.objs.size+1) scope.names (cloFrom X.env.cells scope.names [])) fp;have pt:=ht s3 (aj H2 D (.lst [])) s3.heap.objs.size (cellsFrom (s3.heap.objs.size+1) scope.names (cloFrom X.env.cells scope.names [])) fp;have pe:=he s3 (aj H2 D (.lst [])) s3.heap.objs.size (cellsFrom (s3.heap.objs.size+1) scope.names (cloFrom X.env.cells scope.names [])) fp;show codeAny _ _ (.compStart (.ListComp elt [⟨tg,iter,ifs,0⟩] scope pos) 0 (.ref it) (.ref D) (compEnvC scope (cellsFrom (s3.heap.objs.size+1) scope.names (cloFrom X.env.cells scope.names [])) s3.heap.objs.size X.env)) (compPost (model X.prog X.w) X.A X.xe use Qf (.ref D) s3.heap.objs.size) {s3 with heap:=pushCells (s3.heap.push {cls:=.type "dict",data:=.dict #[]}) scope.names};have nfp:∀b∈fp,(aj H2 D (.lst [])) b=none:=fun b hb=>(f3 b hb).1.1;generalize hce:compEnvC scope (cellsFrom (s3.heap.objs.size+1) scope.names (cloFrom X.env.cells scope.names [])) s3.heap.objs.size X.env=ce at I4 pg pt pe⊢;have cL:ce.locals=s3.heap.objs.size:=by subst hce;rfl
 generalize hH3:aj H2 D (.lst [])=H3 at I3 I4 pg pt pe w0 nfp f3;generalize hs4:({s3 with heap:=pushCells (s3.heap.push {cls:=.type "dict",data:=.dict #[]}) scope.names}:Shared)=s4 at I4⊢;have st4:tn 0 s4.heap:=T.keep _ _ _ st3 fun b _ o e=>by rw[<-hs4];exact pushCells_keeps _ _ _ _ (get?_push_of_some _ e)
 have stat:∀{Z':St}{H':Hp}{s':Shared},Inv (X.blk s3 H3 scope ce fp) [] Z' H' s'->(∀b∈fp,H' b=none)->∀b∈fp,FpOk (X.blk s3 H3 scope ce fp) [] H' b:=fun{Z' H' s'} I' hn b hb=>
  ⟨hn b hb,(I'.ok.exf b hb).1,I'.ok.exfs b hb,.inl hb,fun x c e=>(I'.ok.exf b hb).2 x c e,fun p hp=>absurd (show p∈([]:List (Addr×Obj))++[] from hp) (by simp)⟩
 have loop:codeAny (model X.prog X.w) X.A (.compLoop (.ListComp elt [⟨tg,iter,ifs,0⟩] scope pos) 0 (.ref it) (.ref D) ce) (compPost (model X.prog X.w) X.A X.xe use Qf (.ref D) s3.heap.objs.size) s4:=by
  refine Ho (fun n s'=>∃i H',Inv (X.blk s3 H3 scope ce fp) [] (wipe Z (own.map (·.2))) H' s'/\tn i s'.heap/\(∀b∈fp,H' b=none)/\W i n H') ?_ m0 ⟨0,H3,I4,st4,nfp,w0⟩;rintro n s5 ⟨i,H5,I5,st5,n5,w5⟩;rcases turn i n H5 w5 with ⟨stop,qq⟩|⟨go,Nx,hNx,step⟩
  .have td:=T.done (X.blk s3 H3 scope ce fp) rfl rfl rfl hc i [] s5 _ H5 (fun _ _=>False) I5 (stat I5 n5) st5 stop;refine thnF td fun r s6 ⟨hr,I6⟩=>?_;subst hr;have I7:Inv X pins Z H5 s6:=I3.call' (ch:=fp) I6.os I6.base I6.hok I6.bare fun b hb=>⟨(f3 b hb).1.2.2.2.1,(f3 b hb).1.2.1,(f3 b hb).1.2.2.2.2.1,(f3 b hb).1.2.2.2.2.2⟩
   have nC:H5 s3.heap.objs.size=none:=by
    have z:H5 ce.locals=none:=I6.free;rw[cL]at z;exact z
   obtain⟨m,hn,_⟩:=I6.loc;have hn:s6.heap.Ns ce.locals m:=hn;rw[cL]at hn;exact hRR D s3.heap.objs.size s6 m H5 I7 qq hn (I3.fpOk (le_refl _) nC)
  .have ti:=T.item (X.blk s3 H3 scope ce fp) rfl rfl rfl hc i [] s5 _ H5 (fun _ _=>False) I5 (stat I5 n5) st5 go;refine thnF ti fun r s6 ⟨u,hr,h6⟩=>?_;subst hr;refine thnF h6 fun _ s7 ⟨x,H7,I7,r7,y7,st7,n7⟩=>?_;have I7':=I7.pinned (stat I7 n7) (T.obj _ _ st7);refine thnF (pg _ s7 _ H7 x u _ I7' r7 (step x H7 y7)) fun _ s8 ⟨Z8,H8,I8,hw8,q8⟩=>?_;refine thnF (pt _ s8 Z8 H8 _ I8 q8) fun b s9 ⟨H9,I9,q9⟩=>?_
   have fin:∀{s':Shared}{H':Hp},Inv (X.blk s3 H3 scope ce fp) ([]++pinsAt fp s7.heap) Z8 H' s'->Nx H'->∃m,m<n/\∃i H',Inv (X.blk s3 H3 scope ce fp) [] (wipe Z (own.map (·.2))) H' s'/\tn i s'.heap/\(∀b∈fp,H' b=none)/\W i m H':=fun{s' H'} I' nx=>by
    obtain⟨m',hm,w'⟩:=hNx H' nx
    have pin':∀b∈fp,∀o,s7.heap.get? b=some o->s'.heap.get? b=some o/\H' b=none:=fun b hb o e=>
     let z:=I'.pin (b,o) (mem_append_right _ (mem_append_right _ (Dm hb e)))
     ⟨z.1,z.2.1⟩
    have hl:(wipe Z (own.map (·.2))).length=Z8.length:=by rw[<-hw8,CT]
    refine⟨m',hm,i+1,H',(I'.unpinned (pins:=[])).weak hl (fun j v e=>?_),T.keep _ _ _ st7 fun b hb o e=>(pin' b hb o e).1,fun b hb=>?_,w'⟩
    .rw[<-hw8]at e;exact(D8 e).1
    .obtain⟨o,e,_⟩:=T.obj _ _ st7 b hb;exact(pin' b hb o e).2
   cases b with
   |false=>
    simp only[Bool.false_eq_true,if_false]at q9⊢;exact fin I9 q9
   |true=>
    simp only[if_true]at q9⊢;refine thnF (pe _ s9 Z8 H9 _ I9 q9) fun z s10 ⟨yv,H10,I10,r10,acc,hD10,hz10,nx⟩=>?_;exact Nm (X:=X.blk s3 H3 scope ce fp) I10 hD10 hz10 r10 fun s11 I11=>fin I11 nx
 exact codeAny_compStart_list loop (T.self X.A 0 _ _ _ st4 loop)
theorem BQ{elt tg iter:Expr}{ifs:List Expr}{scope:Scope}{own:List (Str×Nat)}{pos:Pos}{wi:TI}{g:TG}{tt:TT}{te:TE}(hc:X.calm=true)(hN:X.N.Nodup)(hi:PI X tg iter wi)(ok:BlkOk X.N X.env.scope scope own)
  (hg:∀(s:Shared)(H:Hp)(C:Addr)(cl:List (Str×Addr))(fp:List Addr),PG (X.blk s H scope (compEnvC scope cl C X.env) fp) tg g) (ht:∀(s:Shared)(H:Hp)(C:Addr)(cl:List (Str×Addr))(fp:List Addr),PTs (X.blk s H scope (compEnvC scope cl C X.env) fp) ifs tt)
  (he:∀(s:Shared)(H:Hp)(C:Addr)(cl:List (Str×Addr))(fp:List Addr),PE (X.blk s H scope (compEnvC scope cl C X.env) fp) elt te) (hs:∀x,foldedSetIterable iter X.env x=pure x:=by intro _;rfl):
  PE X (.ListComp elt [⟨tg,iter,ifs,0⟩] scope pos) (tLc wi g tt te (own.map (·.2))):=by
 intro pins s Z H Q I h;rw[eval_ListComp];refine Jy hc hN I hi ok hg ht he hs h fun D C s' m H' I' q hn f=>⟨m,hn,fun h'' sb=>?_⟩;obtain⟨f0,f1,f2,f3,f4,f5⟩:=f;exact⟨.ref D,H',I'.turned (t':=s'.toks) (fun b o hb e=>(sb.2 b hb).trans e) f0 f1 f3 f4 f5,rfl,q⟩
theorem HQ{i:Nat}{y:Str}{py:Pos}{elt tg iter:Expr}{ifs:List Expr}{scope:Scope}{own:List (Str×Nat)}{pos spos:Pos}{wi:TI}{g:TG}{tt:TT}{te:TE}(hc:X.calm=true)(hN:X.N.Nodup)(hy:X.N[i]? =some y)(hyl:X.env.scope.names.lookup y=some .local)
  (hsw:swapsWith (.ListComp elt [⟨tg,iter,ifs,0⟩] scope pos) (some (.Name y py)) spos.line X.env=pure true) (hi:PI X tg iter wi) (ok:BlkOk X.N X.env.scope scope own)
  (hg:∀(s:Shared)(H:Hp)(C:Addr)(cl:List (Str×Addr))(fp:List Addr),PG (X.blk s H scope (compEnvC scope cl C X.env) fp) tg g) (ht:∀(s:Shared)(H:Hp)(C:Addr)(cl:List (Str×Addr))(fp:List Addr),PTs (X.blk s H scope (compEnvC scope cl C X.env) fp) ifs tt)
  (he:∀(s:Shared)(H:Hp)(C:Addr)(cl:List (Str×Addr))(fp:List Addr),PE (X.blk s H scope (compEnvC scope cl C X.env) fp) elt te) (hs:∀x,foldedSetIterable iter X.env x=pure x:=by intro _;rfl):
  PS X (.Assign [.Name y py] (.ListComp elt [⟨tg,iter,ifs,0⟩] scope pos) spos) (tAsg (tLc wi g tt te (own.map (·.2))) (gName i)):=by
 intro pins s Z H D I h;rw[exec_Assign_Name_used _ _ _ _ hsw];refine wpAny_bind (wpAny_standAt (wpAny_bind ?_));show wpAny _ X.A (do let _<-comprehension (.ListComp elt [⟨tg,iter,ifs,0⟩] scope pos) scope X.env (firstIterPos [⟨tg,iter,ifs,0⟩] pos) (newList []) false (eval iter X.env) (some (assign (.Name y py) X.env))) _ _ s;have h:tLc wi g tt te (own.map (·.2)) Z H (fun x H1=>gName i x Z H1 D.nx):=h;refine wpAny_bind (thn (Jy (Qf:=fun _ s'=>SP X pins D .next s') hc hN I hi ok hg ht he hs h fun L C s' m H' I' q hn f=>?_) fun _ s' hq=>wpAny_pure (wpAny_pure hq));show wpAny _ _ (assign (.Name y py) X.env (.ref L)) _ _ _;refine wpAny_assign_Name (F4 (v:=V.ref L) I' hN hy (.inl hyl) rfl (fun s2 I2 ⟨a,sb,ha⟩=>?_) (.inr hyl));obtain⟨f0,f1,f2,f3,f4,f5⟩:=f
 have haC:C≠a:=by
  rcases ha with z|z
  .rw[z];exact f1
  .exact fun e=>f4 y a z e.symm
 refine⟨m,hn.sameBut sb haC,fun h3 sb3=>?_⟩;exact⟨_,H',I2.turned (t':=s2.toks) (fun b o hb e=>(sb3.2 b hb).trans e) f0 f1 f3 f4 f5,q⟩
end
section
variable{prog:Program}{w:World}{A:Around}{R:Result->Shared->Prop}{s:Shared}{elt t0 i0 t1 i1:Expr}{ifs0 ifs1:List Expr}{scope:Scope}{pos:Pos}{it acc:Value}{env:Env}
end
section
variable{X:Cx}
end
section
variable{κ:Type}[DecidableEq κ]
def valV(kvs:List (κ×V))(k:κ):Option V:=(kvs.find? fun kv=>decide (kv.1=k)).map (·.2)
def putK(kvs:List (κ×V))(k:κ)(v:V):List (κ×V):=
 if(kvs.any fun kv=>decide (kv.1=k))=true then kvs.map (fun kv=>if kv.1=k then(kv.1,v) else kv) else kvs++[(k,v)]
theorem Bn{p:κ×V}{r:List (κ×V)}{k:κ}(e:p.1=k):valV (p::r) k=some p.2:=by simp[valV,find?_cons,e]
theorem Bk{p:κ×V}{r:List (κ×V)}{k:κ}(e:¬p.1=k):valV (p::r) k=valV r k:=by simp[valV,find?_cons,e]
theorem DX(k:κ):∀kvs:List (κ×V),(kvs.any fun kv=>decide (kv.1=k))=(valV kvs k).isSome
 |[]=>rfl
 |p::r=>by
  rw[any_cons];by_cases e:p.1=k
  .simp only[Bn e,decide_eq_true e,Bool.true_or,Option.isSome_some]
  .rw[Bk e,decide_eq_false e,Bool.false_or];exact DX k r
theorem HS(k j:κ)(y:V):∀kvs:List (κ×V),valV (kvs.map fun kv=>if kv.1=k then(kv.1,y) else kv) j=(valV kvs j).map fun x=>if j=k then y else x
 |[]=>rfl
 |p::r=>by
  have ih:=HS k j y r;rw[map_cons];by_cases h:p.1=k
  .rw[if_pos h];by_cases e:p.1=j
   .rw[Bn (p:=(p.1,y)) e,Bn e,Option.map_some,if_pos (e.symm.trans h)]
   .rw[Bk (p:=(p.1,y)) e,Bk e,ih]
  .rw[if_neg h];by_cases e:p.1=j
   .rw[Bn (p:=p) e,Bn e,Option.map_some,if_neg (fun z=>h (e.trans z))]
   .rw[Bk (p:=p) e,Bk e,ih]
theorem Gc(k j:κ)(y:V):∀kvs:List (κ×V),valV kvs k=none->valV (kvs++[(k,y)]) j=if j=k then some y else valV kvs j
 |[],_=>by
  by_cases e:k=j
  .rw[if_pos e.symm];exact Bn (p:=(k,y)) e
  .rw[if_neg (fun z=>e z.symm)];exact Bk (p:=(k,y)) e
 |p::r,hn=>by
  rw[List.cons_append];have hk:¬p.1=k:=fun z=>by rw[Bn z]at hn;cases hn
  rw[Bk hk]at hn;have ih:=Gc k j y r hn;by_cases e:p.1=j
  .rw[Bn e,Bn e,if_neg (fun z=>hk (e.trans z))]
  .rw[Bk e,Bk e,ih]
theorem Ij(kvs:List (κ×V))(k j:κ)(y:V):valV (putK kvs k y) j=if j=k then some y else valV kvs j:=by
 unfold putK;by_cases a:(kvs.any fun kv=>decide (kv.1=k))=true
 .rw[if_pos a,HS];rw[DX]at a;by_cases e:j=k
  .obtain⟨x,hx⟩:=isSome_iff_exists.mp a;rw[if_pos e,e,hx,Option.map_some,if_pos rfl]
  .rw[if_neg e];cases valV kvs j with
   |none=>rfl
   |some x=>rw[Option.map_some,if_neg e]
 .rw[if_neg a];refine Gc k j y kvs ?_;rw[DX]at a;cases q:valV kvs k with
  |none=>rfl
  |some x=>rw[q]at a;exact(a rfl).elim
theorem Ep(kvs:List (κ×V))(k:κ)(v:V):(putK kvs k v).length<=kvs.length+1:=by
 unfold putK;split
 .rw[length_map];omega
 .rw[length_append,length_cons,length_nil];omega
theorem RelO.isSome_eq{o:Option V}{u:Option Value}(r:RelO o u):o.isSome=u.isSome:=by
 cases o with
 |none=>cases u with
  |none=>rfl
  |some _=>exact(show False from r).elim
 |some _=>cases u with
  |none=>exact(show False from r).elim
  |some _=>rfl
theorem KV.val{kvs:List (κ×V)}{vs:List (κ×Value)}(r:KV kvs vs)(k:κ):RelO (valV kvs k) (valueAt vs k):=by
 unfold KV at r
 induction r with
 |nil=>exact True.intro
 | @cons p q ps qs h t ih=>
  obtain⟨h1,h2⟩:=h;by_cases e:p.1=k
  .have e':q.1=k:=h1.symm.trans e;have b:valueAt (q::qs) k=some q.2:=by simp[valueAt,find?_cons,e']
   rw[Bn e,b];exact h2
  .have e':¬q.1=k:=fun z=>e (h1.trans z);have b:valueAt (q::qs) k=valueAt qs k:=by simp[valueAt,find?_cons,e']
   rw[Bk e,b];exact ih
theorem KV.any{kvs:List (κ×V)}{vs:List (κ×Value)}(r:KV kvs vs)(k:κ):(kvs.any fun kv=>decide (kv.1=k))=vs.any fun kv=>decide (kv.1=k):=by
 unfold KV at r
 induction r with
 |nil=>rfl
 |cons h t ih=>rw[any_cons,any_cons,ih,h.1]
theorem KV.repl{kvs:List (κ×V)}{vs:List (κ×Value)}(r:KV kvs vs)(k:κ){y:V}{u:Value}(ry:RelV y u):
  KV (kvs.map fun kv=>if kv.1=k then(kv.1,y) else kv) (vs.map fun kv=>if kv.1=k then(kv.1,u) else kv):=by
 unfold KV at r⊢
 induction r with
 |nil=>exact .nil
 | @cons p q ps qs h t ih=>
  rw[map_cons,map_cons];refine .cons ?_ ih;obtain⟨h1,h2⟩:=h;by_cases e:p.1=k
  .rw[if_pos e,if_pos (h1.symm.trans e)];exact⟨h1,ry⟩
  .rw[if_neg e,if_neg (fun z=>e (h1.trans z))];exact⟨h1,h2⟩
theorem KV.put{kvs:List (κ×V)}{vs:List (κ×Value)}(r:KV kvs vs)(k:κ){y:V}{u:Value}(ry:RelV y u):KV (putK kvs k y) (stored vs k u):=by
 unfold putK stored;rw[r.any k];by_cases e:(vs.any fun kv=>decide (kv.1=k))=true
 .rw[if_pos e,if_pos e];exact r.repl k ry
 .rw[if_neg e,if_neg e];exact Paired.snoc r ⟨rfl,ry⟩
theorem KV.length{kvs:List (κ×V)}{vs:List (κ×Value)}(r:KV kvs vs):kvs.length=vs.length:=Paired.length r
end
theorem Iq{P:Program}{w:World}{k:Key}{u:Value}(r:RelV (kV k) u):(mixKind P w).is k u=true:=by
 cases k with
 |inl i=>obtain⟨t,e⟩:=(show∃t,u=Value.int i t from r);subst e;exact En P w i t
 |inr x=>obtain⟨t,e⟩:=(show∃t,u=Value.str x t from r);subst e;exact HR P w x t
theorem F1{P:Program}{w:World}:∀{ks:List Key}{us:List Value},Vals (ks.map kV) us->ItemsAre (mixKind P w) ks us
 |[],_,r=>by rw[map_nil]at r;cases r;exact .nil
 |k::ks,_,r=>by
  rw[map_cons]at r;cases r with
  |cons h t=>exact .cons (Iq h) (F1 t)
abbrev KT(H:Hp):List (List Key×V)->List (List Key×Addr×Value)->Prop:=Paired fun p q=>p.1=q.1/\H q.2.1=some (.tup (p.1.map kV))/\RelV p.2 q.2.2
theorem KT.val{H:Hp}{kvs:List (List Key×V)}{xs:List (List Key×Addr×Value)}(r:KT H kvs xs)(k:List Key):RelO (valV kvs k) ((atKey xs k).map (·.2)):=by
 induction r with
 |nil=>exact True.intro
 | @cons p q ps qs h t ih=>
  obtain⟨h1,_,h2⟩:=h;by_cases e:p.1=k
  .have e':q.1=k:=h1.symm.trans e;have b:atKey (q::qs) k=some q.2:=by simp[atKey,find?_cons,e']
   rw[Bn e,b];exact h2
  .have e':¬q.1=k:=fun z=>e (h1.trans z);have b:atKey (q::qs) k=atKey qs k:=by simp[atKey,find?_cons,e']
   rw[Bk e,b];exact ih
theorem KT.repl{H:Hp}{kvs:List (List Key×V)}{xs:List (List Key×Addr×Value)}(r:KT H kvs xs)(k:List Key){y:V}{u:Value}(ry:RelV y u):
  KT H (kvs.map fun kv=>if kv.1=k then(kv.1,y) else kv) (xs.map (putAt k u)):=by
 induction r with
 |nil=>exact .nil
 | @cons p q ps qs h t ih=>
  rw[map_cons,map_cons];refine .cons ?_ ih;obtain⟨h1,h2,h3⟩:=h;unfold putAt;by_cases e:p.1=k
  .rw[if_pos e,if_pos (h1.symm.trans e)];exact⟨h1,h2,ry⟩
  .rw[if_neg e,if_neg (fun z=>e (h1.trans z))];exact⟨h1,h2,h3⟩
theorem KT.put{H:Hp}{kvs:List (List Key×V)}{xs:List (List Key×Addr×Value)}(r:KT H kvs xs)(k:List Key){b:Addr}{y:V}{u:Value}(hb:H b=some (.tup (k.map kV)))(ry:RelV y u):
  KT H (putK kvs k y) (storedH xs k b u):=by
 have e:(kvs.any fun kv=>decide (kv.1=k))=(atKey xs k).isSome:=by
  rw[DX,(r.val k).isSome_eq,Option.isSome_map]
 unfold putK storedH;rw[e];by_cases q:(atKey xs k).isSome=true
 .rw[if_pos q,if_pos q];exact r.repl k ry
 .rw[if_neg q,if_neg q];exact Paired.snoc r ⟨rfl,hb,ry⟩
theorem KT.keeps{H H':Hp}{kvs:List (List Key×V)}{xs:List (List Key×Addr×Value)}(r:KT H kvs xs)(ht:∀b ys,H b=some (.tup ys)->H' b=some (.tup ys)):KT H' kvs xs:=
 Paired.mapP r fun _ _ z=>⟨z.1,ht _ _ z.2.1,z.2.2⟩
section
variable{P:Program}{w:World}{H:Hp}{h:Heap}{a:Addr}
theorem M3{u:HO}(ok:HOk P w H h)(e:Rd H a u):ObjOk P w H h a u:=e.ok ok
theorem JS{kvs:List (Key×V)}(ok:HOk P w H h)(e:Rd H a (.dK kvs)):kvs.length<=sizeLine/\(a==sysModules)=false/\∃vs,KV kvs vs/\h.DictOf (mixKind P w) a vs:=
 show ObjOk P w H h a (.dK kvs) from M3 ok e
theorem OJ{kvs:List (Key×V)}(ok:HOk P w H h)(e:H a=some (.dK kvs)):kvs.length<=sizeLine/\(a==sysModules)=false/\∃vs,KV kvs vs/\h.DictOf (mixKind P w) a vs:=JS ok (.inl e)
theorem Hj{ks:List Key}(ok:HOk P w H h)(e:H a=some (.tup (ks.map kV))):(tupleKind (mixKind P w)).is h ks a:=by
 obtain⟨_,its,r,o,h1,h2,n,h3⟩:=(show ObjOk P w H h a (.tup (ks.map kV)) from ok a _ e);exact⟨o,its.toArray,n,h1,h2,h3,by simpa using F1 r⟩
theorem JQ{kvs:List (List Key×V)}(ok:HOk P w H h)(e:Rd H a (.dT kvs)):kvs.length<=sizeLine/\(a==sysModules)=false/\
  ∃xs,KT H kvs xs/\h.DictOfH (tupleKind (mixKind P w)) a xs:=by
 obtain⟨z,y,xs,r,o,es,ep,h1,h2,h3,h4,h5⟩:=(show ObjOk P w H h a (.dT kvs) from M3 ok e);refine⟨z,y,xs,r,o,es,ep,h1,h2,h3,h4,fun x hx=>?_,h5⟩
 have all:∀{l:List (List Key×V)}{m:List (List Key×Addr×Value)},KT H l m->∀x∈m,(tupleKind (mixKind P w)).is h x.1 x.2.1:=by
  intro l m q
  induction q with
  |nil=>intro x hx;exact nomatch hx
  | @cons p q ps qs hq t ih=>
   intro x hx;rcases mem_cons.mp hx with e|hx
   .subst e;exact Hj ok (by rw[<-hq.1];exact hq.2.1)
   .exact ih x hx
 exact all r x hx
theorem Oy{kvs:List (List Key×V)}(ok:HOk P w H h)(e:H a=some (.dT kvs)):kvs.length<=sizeLine/\(a==sysModules)=false/\
  ∃xs,KT H kvs xs/\h.DictOfH (tupleKind (mixKind P w)) a xs:=JQ ok (.inl e)
end
def DGet(H:Hp)(a:Addr)(y:V)(r:Option V):Prop:=
 (∃kvs k,Rd H a (.dK kvs)/\y=kV k/\r=valV kvs k)\/∃kvs k b,Rd H a (.dT kvs)/\y= .ref b/\H b=some (.tup (k.map kV))/\r=valV kvs k
def DPut(H:Hp)(a:Addr)(y v:V)(H':Hp):Prop:=
 (∃kvs k,H a=some (.dK kvs)/\y=kV k/\kvs.length<sizeLine/\H'=aj H a (.dK (putK kvs k v)))\/
 ∃kvs k b,H a=some (.dT kvs)/\y= .ref b/\H b=some (.tup (k.map kV))/\kvs.length<sizeLine/\H'=aj H a (.dT (putK kvs k v))
theorem DGet.t{H:Hp}{a b:Addr}{kvs:List (List Key×V)}{k:List Key}(e:H a=some (.dT kvs))(eb:H b=some (.tup (k.map kV))):DGet H a (.ref b) (valV kvs k):=.inr ⟨kvs,k,b,.inl e,rfl,eb,rfl⟩
theorem DPut.t{H:Hp}{a b:Addr}{kvs:List (List Key×V)}{k:List Key}{v:V}(e:H a=some (.dT kvs))(eb:H b=some (.tup (k.map kV)))(hl:kvs.length<sizeLine):
  DPut H a (.ref b) v (aj H a (.dT (putK kvs k v))):=.inr ⟨kvs,k,b,e,rfl,eb,hl,rfl⟩
section
variable{X:Cx}{pins:List (Addr×Obj)}{Z:St}{H:Hp}{s:Shared}{a:Addr}{y v:V}{u r:Value}{o:Option V}{A:Around}{E:Value->Shared->Prop}
theorem Inv.big(I:Inv X pins Z H s):sysModules<s.heap.objs.size:=by
 have h:mainGlobals<s.heap.objs.size:=(I.mod.glob.keeps I.bk).lt;exact Nat.lt_trans (by decide) h
theorem Kj{Q:Value->Shared->Prop}(hu:A.units+1<cLine)(I:Inv X pins Z H s)(g:DGet H a y (some v))(ry:RelV y u)(h:∀w' s',Inv X pins Z H s'->RelV v w'->Q w' s'):
  wpAny (model X.prog X.w) A (getItem (.ref a) u) Q E s:=by
 rcases g with ⟨kvs,k,e,ey,l⟩|⟨kvs,k,b,e,ey,eb,l⟩
 .subst ey;obtain⟨z,hd,vs,rel,dd⟩:=JS I.hok e;obtain⟨w',hw,rw'⟩:=RelO.some_of (v:=v) (o:=valueAt vs k) (by rw[l];exact rel.val k);exact wpAny_getItem_of (Iq ry) dd.mapOf hw (h w' _ (I.tok _) rw')
 .subst ey;cases(show u=Value.ref b from ry);obtain⟨z,hd,xs,rel,dd⟩:=JQ I.hok e;obtain⟨w',hw,rw'⟩:=RelO.some_of (v:=v) (o:=(atKey xs k).map (·.2)) (by rw[l];exact rel.val k);obtain⟨p,hp,hp2⟩:=map_eq_some_iff.mp hw;refine wpAny_getItem_heap (tupleKind_room_in1 hu) (Hj I.hok eb) dd hp ?_;rw[hp2];exact h w' _ (I.tok _) rw'
theorem d_in{Q:Value->Shared->Prop}(hu:A.units+1<cLine)(I:Inv X pins Z H s)(g:DGet H a y o)(ry:RelV y u)(h:∀s',Inv X pins Z H s'->Q (.bool o.isSome) s'):
  wpAny (model X.prog X.w) A (compareOp .In u (.ref a)) Q E s:=by
 rcases g with ⟨kvs,k,e,ey,l⟩|⟨kvs,k,b,e,ey,eb,l⟩
 .subst ey;obtain⟨z,hd,vs,rel,dd⟩:=JS I.hok e;refine wpAny_in_of (Iq ry) hd dd.mapOf ?_;rw[<-(rel.val k).isSome_eq,<-l];exact h _ (I.tok _)
 .subst ey;cases(show u=Value.ref b from ry);obtain⟨z,hd,xs,rel,dd⟩:=JQ I.hok e;refine wpAny_in_heap (tupleKind_room_in1 hu) (Hj I.hok eb) hd dd ?_;have q:=(rel.val k).isSome_eq;rw[Option.isSome_map]at q;rw[<-q,<-l];exact h _ (I.tok _)
theorem JH{h':Heap}{t':Nat}{ob:HO}(I:Inv X pins Z H s)(mu:Mut (H a))(hs:Heap.SameBut a s.heap h')(he:∃q,h'.get? a=some q)(new:ObjOk X.prog X.w (aj H a ob) h' a ob):
  Inv X pins Z (aj H a ob) {s with heap:=h',toks:=t'}:=
 I.write (x:=a) (e:=a) mu (.inl rfl) (fun b q hb z=>(hs.2 b hb).trans z) he new
theorem Of{P:Program}{w:World}{H':Hp}{h':Heap}{kvs:List (Key×V)}{vs:List (Key×Value)}(z:kvs.length<=sizeLine)(hd:(a==sysModules)=false)(rel:KV kvs vs)(dd:h'.DictOf (mixKind P w) a vs):
  ObjOk P w H' h' a (.dK kvs):=⟨z,hd,vs,rel,dd⟩
theorem Kp{H':Hp}{Q:Unit->Shared->Prop}(hu:A.units+1<cLine)(I:Inv X pins Z H s)(g:DPut H a y v H')(ry:RelV y u)(rv:RelV v r)(h:∀s',Inv X pins Z H' s'->Q () s'):
  wpAny (model X.prog X.w) A (setItem (.ref a) u r) Q E s:=by
 rcases g with ⟨kvs,k,e,ey,l,eH⟩|⟨kvs,k,b,e,ey,eb,l,eH⟩
 .subst ey eH;obtain⟨z,hd,vs,rel,dd⟩:=OJ I.hok e;have hz:vs.length<=sizeLine:=by rw[<-rel.length];exact z
  have hl:(putK kvs k v).length<=sizeLine:=by have:=Ep kvs k v;omega
  refine wpAny_setItem_pairs (hsz:=hz) (Iq ry) dd fun h' dd' hs=>h _ ?_;have he:∃q,h'.get? a=some q:=let ⟨q,_,_,hq,_⟩:=dd';⟨q,hq⟩;exact JH I (by rw[e];exact True.intro) hs he (Of hl hd (rel.put k rv) dd')
 .subst ey eH;cases(show u=Value.ref b from ry);obtain⟨z,hd,xs,rel,dd⟩:=Oy I.hok e;have hz:xs.length<=sizeLine:=by rw[<-Paired.length rel];exact z
  have hl:(putK kvs k v).length<=sizeLine:=by have:=Ep kvs k v;omega
  refine wpAny_setItem_heap (hsz:=hz) (tupleKind_room_in1 hu) (Hj I.hok eb) dd fun h' dd' hs=>h _ ?_;obtain⟨q,es,ep,hq,h2,h3,h4,_,h5⟩:=dd';refine JH I (by rw[e];exact True.intro) hs ⟨q,hq⟩ ⟨hl,hd,_,(rel.put k eb rv).keeps fun c ys ec=>?_,q,es,ep,hq,h2,h3,h4,h5⟩;rw[Am (AC ec e (fun z=>nomatch z))];exact ec
end
section
variable{X:Cx}{pins:List (Addr×Obj)}{Z:St}{H:Hp}{s:Shared}{a:Addr}{kvs:List (Key×V)}{k:Key}{u:Value}{A:Around}{E:Value->Shared->Prop}
end
def NoSl(i:Expr):Prop:=∀ov iv,subscripted i false ov iv=operate [ov,iv] (getItem ov iv)
theorem Jx{prog:Program}{w:World}{A:Around}{E:Value->Shared->Prop}{s:Shared}{env:Env}{value slice:Expr}{pos:Pos}{T id:String}{Q:Value->Shared->Prop}
  (hl:typeLookup (.type T) "__getitem__"=pure (some (.builtin id))) (hs:NoSl slice)
  (h:wpAny (model prog w) A (eval value env) (fun o s₁=>wpAny (model prog w) A (eval slice env) (fun i s₂=>s₂.TypeIs o T/\wpAny (model prog w) A (getItem o i) Q E s₂) E s₁) E s):
  wpAny (model prog w) A (eval (.Subscript value slice pos) env) Q E s:=by
 refine Subscript_ (wpAny_mono h (fun o s₁ h₁=>wpAny_mono h₁ (fun i s₂ h₂=>?_) fun _ _ x=>x) fun _ _ x=>x);obtain⟨hT,h₂⟩:=h₂;unfold subscriptTail;refine wpAny_bind ?_;rw[getitemInPython_of_ne hT.not_modules];refine wpAny_bind (wpAny_specialOf hT hl ?_)
 have fin:wpAny (model prog w) A (subscripted slice false o i) (fun r s₃=>wpAny (model prog w) A (letTemporaryGo value o r>>= fun _=>pure r) Q E s₃) E s₂:=by
  rw[hs o i];exact wpAny_operating (wpAny_mono h₂ (fun r s₃ h₃=>wpAny_bind (wpAny_letTemporaryGo (wpAny_pure h₃))) fun _ _ x=>x)
 first
  |exact wpAny_pure (wpAny_bind fin)
  |exact wpAny_bind (wpAny_pure (wpAny_bind fin))
  |exact wpAny_bind fin
theorem Hq{X:Cx}{pins:List (Addr×Obj)}{Z:St}{H:Hp}{s:Shared}{a:Addr}{y:V}{o:Option V}(I:Inv X pins Z H s)(g:DGet H a y o):s.TypeIs (.ref a) "dict":=by
 rcases g with ⟨kvs,k,e,_,_⟩|⟨kvs,k,b,e,_,_,_⟩
 .obtain⟨_,_,vs,_,dd⟩:=JS I.hok e;exact dd.typeIs
 .obtain⟨_,_,xs,_,dd⟩:=JQ I.hok e;exact dd.typeIs
def tDGet(td ty:TE):TE:=fun Z H Q=>td Z H fun x H1=>ty Z H1 fun y H2=>∃a v,x= .ref a/\DGet H2 a y (some v)/\Q v H2
def tDIn(ty td:TE):TE:=fun Z H Q=>ty Z H fun y H1=>td Z H1 fun x H2=>∃a o,x= .ref a/\DGet H2 a y o/\Q (.bl o.isSome) H2
def sDPut(td ty tv:TE):TS:=fun D Z H=>tv Z H fun v H1=>td Z H1 fun x H2=>ty Z H2 fun y H3=>∃a H4,x= .ref a/\DPut H3 a y v H4/\D.nx Z H4
section
variable{X:Cx}{o i e value:Expr}{pos pos' tpos:Pos}{td ty tv:TE}
theorem Hk(hu:X.A.units+1<cLine)(ho:PE X o td)(hi:PE X i ty)(hs:NoSl i):PE X (.Subscript o i pos) (tDGet td ty):=by
 intro pins s Z H Q I h;refine Jx PySem.F.slot_dict_getitem.lookup hs (thn (ho pins s Z H _ I h) fun u s1 ⟨x,H1,I1,rx,q1⟩=>thn (hi pins s1 Z H1 _ I1 q1) fun iv s2 ⟨y,H2,I2,ry,a,v,ex,g,q2⟩=>?_);subst ex;obtain rfl:u=Value.ref a:=rx;exact⟨Hq I2 g,Kj hu I2 g ry fun w' s3 I3 rw'=>⟨v,H2,I3,rw',q2⟩⟩
theorem Hi(hu:X.A.units+1<cLine)(hi:PE X i ty)(ho:PE X o td):PC X .In i o (tDIn ty td):=by
 intro pins s Z H Q I h;refine thn (hi pins s Z H _ I h) fun iv s1 ⟨y,H1,I1,ry,q1⟩=>thn (ho pins s1 Z H1 _ I1 q1) fun u s2 ⟨x,H2,I2,rx,a,ov,ex,g,q2⟩=>?_;subst ex;obtain rfl:u=Value.ref a:=rx;exact d_in hu I2 g ry fun s3 I3=>⟨.bl ov.isSome,H2,I3,rfl,q2⟩
theorem JA(hu:X.A.units+1<cLine)(ho:PE X o td)(hi:PE X i ty)(hv:PE X value tv)(hs:swapsWith value (some (.Subscript o i pos')) pos.line X.env=pure false):
  PS X (.Assign [.Subscript o i pos'] value pos) (sDPut td ty tv):=by
 intro pins s Z H D I h;refine wpAny_Assign_Subscript (thn (hv pins s Z H _ I h) fun r s1 ⟨v,H1,I1,rv,q1⟩=>thn (ho pins s1 Z H1 _ I1 q1) fun u s2 ⟨x,H2,I2,rx,q2⟩=>thn (hi pins s2 Z H2 _ I2 q2) fun iv s3 ⟨y,H3,I3,ry,a,H4,ex,g,q3⟩=>?_) hs;subst ex;obtain rfl:u=Value.ref a:=rx;exact Kp hu I3 g ry rv fun s4 I4=>⟨Z,H4,I4,q3⟩
end
theorem Lg{P:Program}{w:World}{H:Hp}(h:Heap)(hb:sysModules<h.objs.size):ObjOk P w H (h.push {cls:=.type "dict",data:=.dict #[]}) h.objs.size (.dT []):=
 ⟨zero_le _,beq_eq_false_iff_ne.mpr (Ne.symm (ne_of_lt hb)),[],.nil,_, #[],0,get?_push_size _ rfl,⟨rfl,rfl,rfl⟩,rfl,rfl,List.nodup_nil⟩
def tDNewT:TE:=fun _ H Q=>∀p,H p=none->Q (.ref p) (aj H p (.dT []))
section
variable{X:Cx}{pos:Pos}
theorem HC:PE X (.Dict [] [] pos) tDNewT:=fun pins s Z H Q I h=>
 wpAny_Dict_empty ⟨.ref s.heap.objs.size,_,I.laid (a:=s.heap.objs.size) (o:=.dT []) (t':=s.toks) (fun _ _ q=>get?_push_of_some _ q) (le_refl _) (Lg s.heap I.big),rfl,h _ (I.hok.fresh (le_refl _))⟩
end
section
variable{X:Cx}{pins:List (Addr×Obj)}{Z:St}{H:Hp}{s:Shared}{a:Addr}{y d:V}{u r:Value}{o:Option V}{A:Around}{E:Value->Shared->Prop}
end
section
variable{X:Cx}{o e f:Expr}{apos cpos:Pos}{td ty tx:TE}
end
section
variable{X:Cx}{pins:List (Addr×Obj)}{Z:St}{H:Hp}{s:Shared}{a:Addr}{kvs:List (Key×V)}{A:Around}{E:Value->Shared->Prop}
end
section
variable{X:Cx}{pins:List (Addr×Obj)}{Z:St}{H:Hp}{s:Shared}{a:Addr}{y:V}{u:Value}{A:Around}{E:Value->Shared->Prop}
end
section
variable{prog:Program}{w:World}{A:Around}{E:Value->Shared->Prop}
end
section
variable{X:Cx}
end
section
variable{X:Cx}{pins:List (Addr×Obj)}{Z:St}{H:Hp}{s:Shared}{h':Heap}
theorem Inv.turnedL{t':Nat}{ch:List Addr}(I:Inv X pins Z H s)(k:∀b o,b∉ch->s.heap.get? b=some o->h'.get? b=some o)(hf:∀b∈ch,FpOk X pins H b):Inv X pins Z H {s with heap:=h',toks:=t'}:=by
 have nit:∀b u,H b=some u->b∉ch:=fun b u e z=>by
  have q:=(hf b z).1;rw[q]at e;cases e
 refine I.step (g':=s.gens) (d':=s.drawn) (ch:=ch) (fun b hb=>⟨(hf b hb).2.2.2.1,(hf b hb).2.1,(hf b hb).2.2.2.2.1,(hf b hb).2.2.2.2.2⟩) (fun b o _ _ hc e _=>k b o hc e) (fun b o _ _ hc e _=>⟨o.slots,k b o hc e⟩)
  (fun _ _ _ _ n=>n) (fun b o hc e=>⟨o,k b o hc e⟩) (fun _ _ e=>e) (fun _ _ _ e=>e) (fun b ps e=>⟨#[],by rw[e];simp⟩) (fun m hm=>?_) (fun b u e=>?_) I.bare
 .obtain⟨o,es,ep,ho,r⟩:=hm;exact⟨o,es,ep,k _ o (fun z=>(hf _ z).2.1 rfl) ho,r⟩
 .refine(I.hok b u e).stay (fun c v hc q=>k c v ?_ q) (fun _ q=>q) fun _ _ q=>q;rcases hc with z|z
  .rw[z];exact nit b u e
  .exact nit c _ z
theorem Inv.turnedNew{t':Nat}{ch:List Addr}{T:Addr}{ob:HO}(I:Inv X pins Z H s)(k:∀b o,b∉ch->s.heap.get? b=some o->h'.get? b=some o)(hf:∀b∈ch,FpOk X pins H b)(hT:s.heap.objs.size<=T)
  (new:ObjOk X.prog X.w (aj H T ob) h' T ob):Inv X pins Z (aj H T ob) {s with heap:=h',toks:=t'}:=by
 have hn:H T=none:=I.hok.fresh hT
 have nit:∀b u,H b=some u->b∉ch:=fun b u e z=>by
  have q:=(hf b z).1;rw[q]at e;cases e
 refine I.step (g':=s.gens) (d':=s.drawn) (ch:=ch) (fun b hb=>⟨(hf b hb).2.2.2.1,(hf b hb).2.1,(hf b hb).2.2.2.2.1,(hf b hb).2.2.2.2.2⟩) (fun b o _ _ hc e _=>k b o hc e) (fun b o _ _ hc e _=>⟨o.slots,k b o hc e⟩)
  (fun b o _ e n=>?_) (fun b o hc e=>⟨o,k b o hc e⟩) (fun b xs e=>?_) (fun b o u e=>?_) (fun b ps e=>⟨#[],?_⟩) (fun m hm=>?_) (fun b u e=>?_) I.bare
 .rw[Am (ne_of_lt (lt_of_lt_of_le (lt_size e) hT))];exact n
 .rw[Am (Ai e hn)];exact e
 .rw[Am (Ai e hn)];exact e
 .rw[Am (Ai e hn),e];simp
 .obtain⟨o,es,ep,ho,r⟩:=hm;exact⟨o,es,ep,k _ o (fun z=>(hf _ z).2.1 rfl) ho,r⟩
 .by_cases hb:b=T
  .subst hb;rw[Ae]at e;cases e;exact new
  .rw[Am hb]at e;refine(I.hok b u e).stay (fun c v hc q=>k c v ?_ q) (fun c q=>by rw[Am (Ai q hn)];exact q) fun c xs q=>by rw[Am (Ai q hn)];exact q
   rcases hc with z|z
   .rw[z];exact nit b u e
   .exact nit c _ z
end
section
variable{X:Cx}
end
section
variable{X:Cx}{tg:Expr}
end
section
variable{X:Cx}{tg:Expr}
end
section
variable{prog:Program}{w:World}{A:Around}{E:Value->Shared->Prop}{s:Shared}
end
section
variable{X:Cx}{pins:List (Addr×Obj)}{Z:St}{H:Hp}{s:Shared}{d:Addr}{o:Obj}
end
section
variable{P:Program}{w:World}{K:Frag}{tg:Expr}{d:Addr}{o:Obj}{es:Array DictEntry}{ep:Nat}
end
section
variable{X:Cx}{tg e:Expr}{td:TE}{apos cpos:Pos}
end
def Ite(K:Frag)(a:Addr):It:=
 ⟨fun i H=>∃(xs:List V)(x:V),SqL K H a xs/\xs[i]? =some x,fun i H v H'=>∃T x,v= .ref T/\H T=none/\H'=aj H T (.tup [.int (i:Nat),x])/\∀xs,SqL K H a xs->xs[i]? =some x,fun i H=>∃xs:List V,SqL K H a xs/\xs.length<=i⟩
theorem J0{P:Program}{w:World}{K:Frag}{elts:List Expr}{kk:Nat}{tpos:Pos}(a e it:Addr):
  Turn P w K (.Tuple elts kk tpos) (Ite K a) [e,it] e (fun i h=>(∃old,IsEnum h e it ((i:Nat):Int) old)/\h.IsListIter it a i/\e≠it) where
 mem:=by simp
 obj:=fun i h st b hb=>by
  obtain⟨⟨old,he⟩,⟨o,ho,hc,hd⟩,_⟩:=st;have e':b=e\/b=it:=by simpa using hb
  rcases e' with z|z
  .rw[z];exact⟨_,he,fun v q=>nomatch q⟩
  .rw[z];exact⟨o,ho,fun v q=>by rw[hd]at q;cases q⟩
 keep:=fun i h h' st k=>let ⟨⟨old,he⟩,hi,hne⟩:=st;⟨⟨old,k e (by simp) _ he⟩,hi.at fun o q=>k it (by simp) o q,hne⟩
 item:=by
  intro X hP hw hK hc i pins s Z H E I hf st hg;subst hP hw hK;obtain⟨⟨old,he⟩,hit,hne⟩:=st;obtain⟨xs,x,hq,hx⟩:=hg;obtain⟨its,rv,p,hz⟩:=I.list hq;obtain⟨u,hu,ru⟩:=rv.get hx;have hel:e<s.heap.objs.size:=lt_size he;have hil:it<s.heap.objs.size:=by obtain⟨_,q,_⟩:=hit;exact lt_size q
  refine wpAny_pyNext_enum_item he hit p.isList (x:=u) (by simpa using hu) hne fun h' ho hit' hT hsz hk=>?_;refine⟨_,rfl,wpAny_letOwnedTupleGo_enum (s:={s with heap:=h',toks:=s.toks+1}) ho fun h'' he' sb=>?_⟩;have hT2:h''.get? s.heap.objs.size=some {cls:=.type "tuple",data:=.seq #[.int i s.toks,u]}:=(sb.2 _ (Nat.ne_of_gt hel)).trans hT
  have new:ObjOk X.prog X.w (aj H s.heap.objs.size (.tup [.int (i:Nat),x])) h'' s.heap.objs.size (.tup [.int (i:Nat),x]):=
   ⟨by show 2<=sizeLine;decide,[.int i s.toks,u],.cons ⟨_,rfl⟩ (.cons ru .nil),⟨_,hT2,rfl,_,rfl⟩⟩
  have I1:Inv X pins Z (aj H s.heap.objs.size (.tup [.int (i:Nat),x])) {s with heap:=h'',toks:=s.toks+1}:=
   I.turnedNew (ch:=[e,it]) (fun b ob hb q=>(sb.2 b (fun z=>hb (by simp[z]))).trans (hk b ob (fun z=>hb (by simp[z])) (fun z=>hb (by simp[z])) q)) hf (le_refl _) new
  refine⟨.ref s.heap.objs.size,_,I1,rfl,⟨_,x,rfl,I.hok.fresh (le_refl _),rfl,fun ys hy=>by rw[I.list_inj hy hq];exact hx⟩,⟨⟨u,?_⟩,hit'.at fun o q=>(sb.2 it (Ne.symm hne)).trans q,hne⟩,fun b hb=>?_⟩
  .have e1:((i+1:Nat):Int)=(i:Int)+1:=by omega
   rw[e1];exact he'
  .have hb':b<s.heap.objs.size:=by
    have e':b=e\/b=it:=by simpa using hb
    rcases e' with z|z
    .rw[z];exact hel
    .rw[z];exact hil
   rw[Am (ne_of_lt hb')];exact(hf b hb).1
 done:=by
  intro X hP hw hK hc i pins s Z H E I hf st hg;subst hP hw hK;obtain⟨⟨old,he⟩,hit,hne⟩:=st;obtain⟨xs,hq,hx⟩:=hg;obtain⟨its,rv,p,hz⟩:=I.list hq;obtain⟨f0,f1,f2,f3,f4,f5⟩:=hf it (by simp);have hl:=rv.length;exact wpAny_pyNext_enum_end (I.ok.hd hc) he hit p.isList (by simp;omega) fun h' eb=>⟨rfl,I.turned (t':=s.toks) (fun b o hb q=>eb b o hb q) f0 f1 f3 f4 f5⟩
 self:=fun A i s Q E st h=>let ⟨⟨_,he⟩,_⟩:=st;wpAny_pyIter_enum he h
def iEnum(K:Frag)(ta:TA):TI:=fun Z H R=>ta Z H fun vs H1=>∃a xs,vs=[.ref a]/\SqL K H1 a xs/\R (Ite K a) H1
theorem Gr{X:Cx}{e:Expr}{ta:TA}{p pos tpos:Pos}{elts:List Expr}{kk:Nat}(hg:Gl X "enumerate")(hm:X.mg "enumerate"=none)(ha:PA X [e] ta)(hs:starEach [e] X.env=[(false,eval e X.env)]:=by rfl):
  PI X (.Tuple elts kk tpos) (.Call (.Name "enumerate" p) [e] [] pos) (iEnum X.K ta):=by
 intro pins s Z H R I h;refine Call_ (CJ I hg hm boot_enumerate (PyProof.Rows.callWith_type1 (thn (ha pos pins s Z H _ I h) fun us s1 ⟨vs,H1,I1,r1,q1⟩=>?_) hs rfl));obtain⟨a,xs,ex,hq,q⟩:=q1;subst ex;cases r1 with
 |cons r rr=>
  cases rr;cases r;obtain⟨its,rv,p',hz⟩:=I1.list hq;refine call_enumerate_list p'.isList fun h' he hit hsz hk=>wpAny_pyIter_enum he ?_;have I2:Inv X pins Z H1 {s1 with heap:=h'}:=I1.kept (t':=s1.toks) hk;refine⟨s1.heap.objs.size+1,[s1.heap.objs.size+1,s1.heap.objs.size],_,_,H1,rfl,I2,J0 a (s1.heap.objs.size+1) s1.heap.objs.size,⟨⟨.none,he⟩,hit,Nat.succ_ne_self _⟩,fun b hb=>?_,q⟩;have e':b=s1.heap.objs.size+1\/b=s1.heap.objs.size:=by simpa using hb
  have hle:s1.heap.objs.size<=b:=by
   rcases e' with z|z
   .rw[z];exact Nat.le_add_right _ _
   .rw[z];exact le_refl _
  exact I1.fpOk hle (I1.hok.fresh hle)
theorem Kv:bootBuiltins "zip"=some (.type "zip"):=by decide+kernel
def Itz(K:Frag)(a b:Addr):It:=
 ⟨fun i H=>∃(xs ys:List V)(x y:V),SqL K H a xs/\SqL K H b ys/\xs[i]? =some x/\ys[i]? =some y,
  fun i H v H'=>∃T x y,v= .ref T/\H T=none/\H'=aj H T (.tup [x,y])/\(∀xs,SqL K H a xs->xs[i]? =some x)/\∀ys,SqL K H b ys->ys[i]? =some y,
  fun i H=>∃xs ys:List V,SqL K H a xs/\SqL K H b ys/\(xs.length<=i\/ys.length<=i)⟩
theorem Mf{P:Program}{w:World}{K:Frag}{elts:List Expr}{kk:Nat}{tpos:Pos}{a b z TI TO i1 i2:Addr}(D:ZipApart z TI TO i1 i2 a b):
  Turn P w K (.Tuple elts kk tpos) (Itz K a b) [z,TI,TO,i1,i2] z (fun i h=>IsZip h z TI TO .none/\IsPair h TI (.ref i1) (.ref i2)/\(∃x y,IsPair h TO x y)/\h.IsListIter i1 a i/\h.IsListIter i2 b i) where
 mem:=by simp
 obj:=fun i h st c hc=>by
  obtain⟨hz,hTI,⟨x,y,hTO⟩,⟨o1,e1,_,d1⟩,⟨o2,e2,_,d2⟩⟩:=st;have e':c=z\/c=TI\/c=TO\/c=i1\/c=i2:=by simpa using hc
  rcases e' with q|q|q|q|q
  .rw[q];exact⟨_,hz,fun v q=>nomatch q⟩
  .rw[q];exact⟨_,hTI,fun v q=>nomatch q⟩
  .rw[q];exact⟨_,hTO,fun v q=>nomatch q⟩
  .rw[q];exact⟨o1,e1,fun v q=>by rw[d1]at q;cases q⟩
  .rw[q];exact⟨o2,e2,fun v q=>by rw[d2]at q;cases q⟩
 keep:=fun i h h' st k=>by
  obtain⟨hz,hTI,⟨x,y,hTO⟩,h1,h2⟩:=st;exact⟨k z (by simp) _ hz,k TI (by simp) _ hTI,⟨x,y,k TO (by simp) _ hTO⟩,h1.at fun o q=>k i1 (by simp) o q,h2.at fun o q=>k i2 (by simp) o q⟩
 item:=by
  intro X hP hw hK hc i pins s Z H E I hf st hg;subst hP hw hK;obtain⟨hz,hTI,⟨x0,y0,hTO⟩,h1,h2⟩:=st;obtain⟨xs,ys,x,y,hqx,hqy,hx,hy⟩:=hg;obtain⟨its,rv,p,_⟩:=I.list hqx;obtain⟨its2,rv2,p2,_⟩:=I.list hqy;obtain⟨u,hu,ru⟩:=rv.get hx;obtain⟨u2,hu2,ru2⟩:=rv2.get hy;have hzl:z<s.heap.objs.size:=lt_size hz;refine wpAny_pyNext_zip_item D hz hTI hTO h1 h2 p.isList p2.isList (x:=u) (y:=u2) (by simpa using hu) (by simpa using hu2) fun h' z' TO' h1' h2' hT hsz hk=>?_;refine⟨_,rfl,wpAny_letOwnedTupleGo_zip (s:={s with heap:=h'}) z' fun h'' z'' sb=>?_⟩;have hT2:h''.get? s.heap.objs.size=some {cls:=.type "tuple",data:=.seq #[u,u2]}:=(sb.2 _ (Nat.ne_of_gt hzl)).trans hT
  have new:ObjOk X.prog X.w (aj H s.heap.objs.size (.tup [x,y])) h'' s.heap.objs.size (.tup [x,y]):=
   ⟨by show 2<=sizeLine;decide,[u,u2],.cons ru (.cons ru2 .nil),⟨_,hT2,rfl,_,rfl⟩⟩
  have I1:Inv X pins Z (aj H s.heap.objs.size (.tup [x,y])) {s with heap:=h''}:=
   I.turnedNew (t':=s.toks) (ch:=[z,TI,TO,i1,i2]) (fun c o hb q=>(sb.2 c (fun q'=>hb (by simp[q']))).trans (hk c o (fun q'=>hb (by simp[q'])) (fun q'=>hb (by simp[q'])) (fun q'=>hb (by simp[q'])) (fun q'=>hb (by simp[q'])) q)) hf (le_refl _) new
  refine⟨.ref s.heap.objs.size,_,I1,rfl,⟨_,x,y,rfl,I.hok.fresh (le_refl _),rfl,fun l hl=>by rw[I.list_inj hl hqx];exact hx,fun l hl=>by rw[I.list_inj hl hqy];exact hy⟩,⟨z'',?_,⟨u,u2,?_⟩,?_,?_⟩,fun c hcm=>?_⟩
  .exact(sb.2 _ D.TIz).trans (hk _ _ D.TIz D.TITO D.TIi1 D.TIi2 hTI)
  .exact(sb.2 _ D.TOz).trans TO'
  .exact h1'.at fun o q=>(sb.2 _ D.i1z).trans q
  .exact h2'.at fun o q=>(sb.2 _ D.i2z).trans q
  .have hlt:c<s.heap.objs.size:=by
    have e':c=z\/c=TI\/c=TO\/c=i1\/c=i2:=by simpa using hcm
    rcases e' with q|q|q|q|q
    .rw[q];exact hzl
    .rw[q];exact lt_size hTI
    .rw[q];exact lt_size hTO
    .rw[q];obtain⟨_,e1,_⟩:=h1;exact lt_size e1
    .rw[q];obtain⟨_,e2,_⟩:=h2;exact lt_size e2
   rw[Am (ne_of_lt hlt)];exact(hf c hcm).1
 done:=by
  intro X hP hw hK hc i pins s Z H E I hf st hg;subst hP hw hK;obtain⟨hz,hTI,⟨x0,y0,hTO⟩,h1,h2⟩:=st;obtain⟨xs,ys,hqx,hqy,hend⟩:=hg;obtain⟨its,rv,p,_⟩:=I.list hqx;obtain⟨its2,rv2,p2,_⟩:=I.list hqy;have l1:=rv.length;have l2:=rv2.length
  have he:its.toArray[i]? =none\/its2.toArray[i]? =none:=by
   rcases hend with q|q
   .exact .inl (by simp;omega)
   .exact .inr (by simp;omega)
  exact wpAny_pyNext_zip_end (I.ok.hd hc) D hz hTI hTO h1 h2 p.isList p2.isList he fun h' hk=>⟨rfl,I.turnedL (t':=s.toks) (ch:=[z,TI,TO,i1,i2]) (fun c o hb q=>
   hk c o (fun q'=>hb (by simp[q'])) (fun q'=>hb (by simp[q'])) (fun q'=>hb (by simp[q'])) (fun q'=>hb (by simp[q'])) q) hf⟩
 self:=fun A i s Q E st h=>wpAny_pyIter_zip st.1 h
def iZip(K:Frag)(ta:TA):TI:=fun Z H R=>ta Z H fun vs H1=>∃a b xs ys,vs=[.ref a,.ref b]/\SqL K H1 a xs/\SqL K H1 b ys/\R (Itz K a b) H1
theorem IQ{X:Cx}{e e2:Expr}{ta:TA}{p pos tpos:Pos}{elts:List Expr}{kk:Nat}(hg:Gl X "zip")(hm:X.mg "zip"=none)(ha:PA X [e,e2] ta)
  (hs:starEach [e,e2] X.env=(false,eval e X.env)::starEach [e2] X.env:=by rfl) (hpl:(backTo pos (starEach [e2] X.env)).any (·.1)=false:=by rfl):
  PI X (.Tuple elts kk tpos) (.Call (.Name "zip" p) [e,e2] [] pos) (iZip X.K ta):=by
 intro pins s Z H R I h;refine Call_ (CJ I hg hm Kv (PyProof.Rows.callWith_type1 (thn (ha pos pins s Z H _ I h) fun us s1 ⟨vs,H1,I1,r1,q1⟩=>?_) hs hpl));obtain⟨a,b,xs,ys,ex,hqx,hqy,q⟩:=q1;subst ex;cases r1 with
 |cons r rr=>
  cases rr with
  |cons r' rr=>
   cases rr;cases r;cases r';obtain⟨its,rv,p1,_⟩:=I1.list hqx;obtain⟨its2,rv2,p2,_⟩:=I1.list hqy;have la:a<s1.heap.objs.size:=p1.lt;have lb:b<s1.heap.objs.size:=p2.lt;refine call_zip_2 p1.isList p2.isList fun h' hz hTI hTO h1 h2 hsz hk=>wpAny_pyIter_zip hz ?_;have I2:Inv X pins Z H1 {s1 with heap:=h'}:=I1.kept (t':=s1.toks) hk;refine⟨s1.heap.objs.size+4,[s1.heap.objs.size+4,s1.heap.objs.size+2,s1.heap.objs.size+3,s1.heap.objs.size,s1.heap.objs.size+1],_,_,H1,rfl,I2,Mf (PySem.W.ktu_apart s1.heap.objs.size a b la lb),⟨hz,hTI,⟨_,_,hTO⟩,h1,h2⟩,fun c hcm=>?_,q⟩;have e':c=s1.heap.objs.size+4\/c=s1.heap.objs.size+2\/c=s1.heap.objs.size+3\/c=s1.heap.objs.size\/c=s1.heap.objs.size+1:=by simpa using hcm
   have hle:s1.heap.objs.size<=c:=by
    rcases e' with z|z|z|z|z
    .rw[z];exact Nat.le_add_right _ _
    .rw[z];exact Nat.le_add_right _ _
    .rw[z];exact Nat.le_add_right _ _
    .rw[z];exact le_refl _
    .rw[z];exact Nat.le_add_right _ _
   exact I1.fpOk hle (I1.hok.fresh hle)
end L2
section
namespace Bits
open PySem PyProof.Rows
end Bits
end
section
namespace TL
open PySem PySem.Builtin PySem.Builtin.Str PySem.StrLaws
end TL
end
namespace L2
open PySem PySem.Spec PyProof.Rows
section
variable{X:Cx}{pins:List (Addr×Obj)}{Z:St}{H:Hp}{s:Shared}{Q:VK}
end
section
variable{X:Cx}
end
section
variable{X:Cx}{o e:Expr}{to te:TE}
end
section
variable{X:Cx}
end
end L2
namespace Att
open PySem PySem.W PySem.Calls PyProof.Rows
section
variable{prog:Program}{w:World}{A:Around}{E:Value->Shared->Prop}{s:Shared}{K:Frag}
end
end Att
namespace L2
open PySem PySem.Spec PyProof.Rows
abbrev KOf{K:Frag}{h:Heap}(_:K.In h):Frag:=K
def inClass(s:Stmt)(j:Nat):Stmt:=match s with
 | .ClassDef _ _ _ body _ _ _ _ _ _ _=>body.getD j (.Pass ⟨0,0,0,0⟩)
 |_=>.Pass ⟨0,0,0,0⟩
def defArgs(s:Stmt):Arguments:=match s with
 | .FunctionDef _ a _ _ _ _ _ _ _ _=>a
 |_=>{posonlyargs:=[],args:=[],vararg:=none,kwonlyargs:=[],kw_defaults:=[],kwarg:=none,defaults:=[]}
def defBody(s:Stmt):List Stmt:=match s with
 | .FunctionDef _ _ b _ _ _ _ _ _ _=>b
 |_=>[]
def defScope(s:Stmt):Scope:=match s with
 | .FunctionDef _ _ _ _ _ _ sc _ _ _=>sc
 |_=>{kind:=.function,names:=[],isGenerator:=false,isCoroutine:=false}
abbrev CX0:CXT:=fun _ _ _ _ _ _=>False
abbrev E0:XK:=fun _ _ _=>False
theorem pass0{X:Cx}:Passes CX0 X E0:=fun _ _ _ _ _ _ _ h=>h.elim
structure Fun (K:Frag) (x qual:Str) (st:Stmt) (f:Addr) (fd:FuncData):Prop where
 ex:∃(oc:Value)(od:Option Addr)(kV doc pm:Value)(an:Option Addr)(cdv ct:Value)(osl:Array (Option Value)),
  fd=PySem.W.fnOf x qual (defArgs st) (defBody st) (defScope st) .none kV doc pm an cdv ct/\K.lookup f=some ⟨oc,od,.func fd,osl⟩/\PySem.W.codeIn K cdv qual=true
 kp:PySem.W.keepIn K (.ref f)=true
section
variable{P:Program}{w:World}{K:Frag}{mg:Str->Option Value}{base:Heap}
theorem Fun.ok{x qual:Str}{st:Stmt}{f:Addr}{fd:FuncData}{N ps:List Str}{k:Nat}{sp:Sp}(F:Fun K x qual st f fd)(S:FnScope N ps (defScope st))(len:∀vs H Q E,sp vs H Q E->vs.length=ps.length)
  (hbody:∀(cdv:Value)(A:Around)(outer:List Env)(s:Shared)(H:Hp)(vs:List V)(Q:VK)(E:XK),Room k (A.deeper (envOfC qual (defScope st) s.heap.objs.size f cdv))->sp vs H Q E->
   ∃t,PSs (cxOf CX0 P w K mg base N qual (defScope st) f cdv A outer s H E).nox (defBody st) t/\t {nx:=fun _ H'=>Q .non H',rt:=Q} (start N vs) H):FnOk P w K mg base CX0 (k+1) f fd ps sp:=by
 obtain⟨oc,od,kV,doc,pm,an,cdv,ct,osl,rfl,lk,hcd⟩:=F.ex;refine M6 lk hcd S len fun A outer s H vs Q E hr hsp=>?_;obtain⟨t,h,q⟩:=hbody cdv A outer s H vs Q E hr hsp;exact⟨t,h.nox,q⟩
theorem Fun.binds{x qual:Str}{st:Stmt}{f:Addr}{fd:FuncData}{ps:List Str}(F:Fun K x qual st f fd)
  (h:∀(kV doc pm:Value)(an:Option Addr)(cdv ct:Value)(us:List Value),us.length=ps.length->bindArgs (PySem.W.fnOf x qual (defArgs st) (defBody st) (defScope st) .none kV doc pm an cdv ct) ⟨us,[]⟩=pure (ps.zip us)):Binds K fd ps []:=by
 obtain⟨oc,od,kV,doc,pm,an,cdv,ct,osl,rfl,lk,hcd⟩:=F.ex;exact .all (h kV doc pm an cdv ct)
theorem G5{x qual:Str}{st:Stmt}{f:Addr}{oc:Value}{od an:Option Addr}{osl:Array (Option Value)}{kV doc pm cdv ct:Value}(l:K.lookup f=some ⟨oc,od,.func (PySem.W.fnOf x qual (defArgs st) (defBody st) (defScope st) .none kV doc pm an cdv ct),osl⟩)
  (c:PySem.W.codeIn K cdv qual=true) (k:PySem.W.keepIn K (.ref f)=true):Fun K x qual st f (PySem.W.fnOf x qual (defArgs st) (defBody st) (defScope st) .none kV doc pm an cdv ct):=⟨⟨oc,od,kV,doc,pm,an,cdv,ct,osl,rfl,l,c⟩,k⟩
end
theorem CF{A:Around}{k:Nat}(hr:Room k A):A.units+1<cLine:=Nat.lt_of_le_of_lt (Nat.add_le_add_left (by decide:1<=64) _) hr.units
section
variable{X:Cx}
theorem pv(i:Nat){x:Str}{pos:Pos}(hN:X.N[i]? =some x:=by rfl)(hv:Vis X.env.scope x:=by first|exact inl rfl|exact Or.inr (inl rfl)|exact Or.inr (Or.inr rfl))(hd:(x==("__debug__":Str))=false:=by decide)
  (hcd:(x==("__classdict__":Str))=false:=by decide):PE X (.Name x pos) (tVar i):=Ny hN hv hd hcd
end
theorem iteF{A B:Prop}(h:B):if false=true then A else B:=by
 rw[if_neg Bool.false_ne_true];exact h
theorem iteT{A B:Prop}(h:A):if true=true then A else B:=by
 rw[if_pos rfl];exact h
theorem ite2{c A B:Prop}[Decidable c](h1:c->A)(h2:¬c->B):if c then A else B:=by
 by_cases h:c
 .rw[if_pos h];exact h1 h
 .rw[if_neg h];exact h2 h
def Same(H H':Hp):Prop:=∀b o,H b=some o->H' b=some o
theorem ad(H:Hp):Same H H:=fun _ _ h=>h
theorem Same.trans{H H1 H2:Hp}(a:Same H H1)(b:Same H1 H2):Same H H2:=fun c o h=>b c o (a c o h)
theorem Same.free{H H':Hp}(e:Same H H'){l:Addr}(h:H' l=Option.none):H l=Option.none:=by
 cases q:H l with
 |none=>rfl
 |some o=>
  rw[e l o q]at h;cases h
theorem Same.seq{K:Frag}{H H':Hp}{a:Addr}{xs:List V}(e:Same H H')(h:SqL K H a xs):SqL K H' a xs:=by
 rcases h with (h|⟨o,h⟩)|h
 .exact .inl (.inl (e _ _ h))
 .exact .inl (.inr ⟨o,e _ _ h⟩)
 .exact .inr h
section
variable{κ:Type}[DecidableEq κ]
end
theorem AA{xs:List V}{z:Int}{j:Nat}{v:V}(e:z=(j:Int))(h:xs[j]? =some v):atI xs z=some v:=by
 rw[e];exact Mu h
theorem Oo{α:Type}{l:List α}(hN:l.Nodup){i j:Nat}{x:α}(a:l[i]? =some x)(b:l[j]? =some x):i=j:=by
 obtain⟨h1,e1⟩:=List.getElem?_eq_some_iff.mp a;obtain⟨h2,e2⟩:=List.getElem?_eq_some_iff.mp b;exact(List.getElem_inj hN).mp (e1.trans e2.symm)
theorem ai{H H1:Hp}{x dx C:Addr}(nx:H x=Option.none)(nd:H dx=Option.none)(k:∀b o,(aj (aj H dx (.own x)) x (.ins C dx [])) b=some o->b≠x->H1 b=some o):Same H H1:=fun b o e=>
 k b o (by rw[Am (Ai e nx),Am (Ai e nd)];exact e) (Ai e nx)
end L2
section
set_option maxHeartbeats 2000000
namespace L2
open PySem PySem.Spec PyProof.Rows
open PySem.W (WData Codec OpenSpec Well WellAll ReadsW ReadsAllW)
mutual
inductive Dw (K:Frag) (H:Hp):V->WData->Prop
 |non:Dw K H .non .none
 |bl (b:Bool):Dw K H (.bl b) (.bool b)
 |int (i:Int):Dw K H (.int i) (.int i)
 |str (x:Str):Dw K H (.str x) (.str x)
 |byt (b:Array UInt8):Dw K H (.byt b) (.bytes b.toList)
 |lst {a:Addr} {xs:List V} {ds:List WData}:SqL K H a xs->DwAll K H xs ds->Dw K H (.ref a) (.list ds)
 |tup {a:Addr} {xs:List V} {ds:List WData}:SqT K H a xs->DwAll K H xs ds->Dw K H (.ref a) (.tuple ds)
inductive DwAll (K:Frag) (H:Hp):List V->List WData->Prop
 |nil:DwAll K H [] []
 |cons {v:V} {vs:List V} {d:WData} {ds:List WData}:Dw K H v d->DwAll K H vs ds->DwAll K H (v::vs) (d::ds)
end
theorem Jm{K:Frag}{H:Hp}:∀ns:List Int,DwAll K H (ns.map V.int) (ns.map WData.int)
 |[]=>.nil
 |n::r=>.cons (.int n) (Jm r)
theorem Jr{K:Frag}{H:Hp}:∀(ns:List Int)(xs:List V),DwAll K H xs (ns.map WData.int)->xs=ns.map V.int
 |[],xs,h=>by
  cases h;rfl
 |n::r,xs,h=>by
  cases h with
  |cons h1 h2=>
   cases h1;rw[Jr r _ h2]<;>rfl
section
variable{P:Program}{w:World}{K:Frag}{H:Hp}{h:Heap}{R:PySem.W.WRecords}{cl:Str->Option Addr}
theorem NH{a:Addr}{xs:List V}(hok:HOk P w H h)(KX:K.In h)(q:SqL K H a xs):∃(its:List Value)(o:Obj)(n:Nat),Vals xs its/\h.get? a=some o/\o.cls= .type "list"/\o.data= .seq its.toArray n:=by
 rcases q with q|⟨o,its,n,e,hc,_,hd,_,hv⟩
 .obtain⟨_,its,n,hv,e⟩:=(show ObjOk P w H h a (.lst xs) from q.ok hok);exact⟨its,_,n,hv,e,rfl,rfl⟩
 .exact⟨its.toList,o,n,hv,KX _ _ e,hc,by simp[hd]⟩
theorem Oc{a:Addr}{xs:List V}(hok:HOk P w H h)(KX:K.In h)(q:SqT K H a xs):∃(its:List Value)(o:Obj)(n:Nat),Vals xs its/\h.get? a=some o/\o.cls= .type "tuple"/\o.data= .seq its.toArray n:=by
 rcases q with q|⟨o,its,n,e,hc,hd,_,hv⟩
 .obtain⟨_,its,hv,o,e,hc,n,hd⟩:=(show ObjOk P w H h a (.tup xs) from q.ok hok);exact⟨its,o,n,hv,e,hc,hd⟩
 .exact⟨its.toList,o,n,hv,KX _ _ e,hc,by simp[hd]⟩
mutual
theorem Dw.reads(hok:HOk P w H h)(KX:K.In h):∀(d:WData)(v:V)(u:Value),Dw K H v d->RelV v u->∃as,ReadsW R cl h u d as
 | .none,_,_,x,r=>by
  cases x;cases r;exact⟨_,ReadsW.none⟩
 | .bool b,_,_,x,r=>by
  cases x;cases r;exact⟨_,ReadsW.bool b⟩
 | .int i,_,_,x,r=>by
  cases x;obtain⟨t,rfl⟩:=r;exact⟨_,ReadsW.int i t⟩
 | .str s,_,_,x,r=>by
  cases x;obtain⟨t,rfl⟩:=r;exact⟨_,ReadsW.str s t⟩
 | .bytes b,_,_,x,r=>by
  cases x;obtain⟨t,rfl⟩:=r;exact⟨_,ReadsW.bytes _ t⟩
 | .list ds,_,_,x,r=>by
  cases x with
  |lst hs ha=>
   cases r;obtain⟨its,o,n,rv,ho,hc,hd⟩:=NH hok KX hs;obtain⟨as,hr⟩:=Dw.readsAll hok KX ds _ its ha rv;exact⟨_,ReadsW.list ho hc hd hr⟩
 | .tuple ds,_,_,x,r=>by
  cases x with
  |tup hs ha=>
   cases r;obtain⟨its,o,n,rv,ho,hc,hd⟩:=Oc hok KX hs;obtain⟨as,hr⟩:=Dw.readsAll hok KX ds _ its ha rv;exact⟨_,ReadsW.tuple ho hc hd hr⟩
 | .float _,_,_,x,_=>by cases x
 | .dict _,_,_,x,_=>by cases x
 | .bytearray _,_,_,x,_=>by cases x
 | .set _,_,_,x,_=>by cases x
 | .frozenset _,_,_,x,_=>by cases x
 | .obj _ _,_,_,x,_=>by cases x
theorem Dw.readsAll(hok:HOk P w H h)(KX:K.In h):∀(ds:List WData)(vs:List V)(us:List Value),DwAll K H vs ds->Vals vs us->∃as,ReadsAllW R cl h us ds as
 |[],_,_,x,r=>by
  cases x;cases r;exact⟨_,ReadsAllW.nil⟩
 |d::ds,_,_,x,r=>by
  cases x with
  |cons h1 h2=>
   cases r with
   |cons r1 r2=>
    obtain⟨as,q1⟩:=Dw.reads hok KX d _ _ h1 r1;obtain⟨bs,q2⟩:=Dw.readsAll hok KX ds _ _ h2 r2;exact⟨_,ReadsAllW.cons q1 q2⟩
end
end
mutual
def plW:WData->Bool
 | .none=>true
 | .bool _=>true
 | .int _=>true
 | .str _=>true
 | .bytes _=>true
 | .list xs=>plWs xs
 | .tuple xs=>plWs xs
 |_=>false
def plWs:List WData->Bool
 |[]=>true
 |x::r=>plW x&&plWs r
end
theorem HB{α:Type}{f:α->WData}(h:∀a,plW (f a)=true):∀l:List α,plWs (l.map f)=true
 |[]=>rfl
 |x::r=>by
  show(plW (f x)&&plWs (r.map f))=true;rw[h x,HB h r]<;>rfl
theorem C3:∀(c:Codec)(a:c.denote),plW (c.enc a)=true
 | .unit,_=>rfl
 | .bool,_=>rfl
 | .int _ _,_=>rfl
 | .nat _ _,_=>rfl
 | .u8,_=>rfl
 | .bytes _ _,_=>rfl
 | .text _ _ _ _,_=>rfl
 | .list _ _ c,a=>HB (fun x=>C3 c x) a
 | .pair c d,a=>by
  show(plW (c.enc a.1)&&(plW (d.enc a.2)&&true))=true;rw[C3 c a.1,C3 d a.2]<;>rfl
 | .triple c d e,a=>by
  show(plW (c.enc a.1)&&(plW (d.enc a.2.1)&&(plW (e.enc a.2.2)&&true)))=true;rw[C3 c a.1,C3 d a.2.1,C3 e a.2.2]<;>rfl
 | .option c,none=>rfl
 | .option c,some x=>C3 c x
theorem FX:∀(cs:List Codec)(a:Codec.denoteAll cs),plWs (Codec.encAll cs a)=true
 |[],_=>rfl
 |c::cs,a=>by
  show(plW (c.enc a.1)&&plWs (Codec.encAll cs a.2))=true;rw[C3 c a.1,FX cs a.2]<;>rfl
theorem Dl:∀{xs:List WData}{d:WData},d∈xs->d.weight<=WData.weightAll xs
 |[],d,h=>absurd h (by simp)
 |x::r,d,h=>by
  show d.weight<=x.weight+1+WData.weightAll r;rcases mem_cons.mp h with e|m
  .rw[e];omega
  .have z:=Dl m;omega
def toV:Value->V
 | .none=>.non
 | .bool b=>.bl b
 | .int i _=>.int i
 | .str x _=>.str x
 | .bytes b _=>.byt b
 | .ref a=>.ref a
 |_=>.non
def OkU(A:List Addr):Value->Prop
 | .none=>True
 | .bool _=>True
 | .int _ _=>True
 | .str _ _=>True
 | .bytes _ _=>True
 | .ref a=>a∈A
 |_=>False
theorem OkU.mono{A B:List Addr}(h:∀a∈A,a∈B):∀{u:Value},OkU A u->OkU B u:=fun{u} x=>by
 cases u with
 |ref a=>exact h a x
 |none=>trivial
 |bool b=>trivial
 |int i t=>trivial
 |str s t=>trivial
 |bytes b t=>trivial
 |_=>exact False.elim x
theorem KY{A:List Addr}{u:Value}(x:OkU A u):RelV (toV u) u:=by
 cases u with
 |ref a=>rfl
 |none=>rfl
 |bool b=>rfl
 |int i t=>exact⟨t,rfl⟩
 |str s t=>exact⟨t,rfl⟩
 |bytes b t=>exact⟨t,rfl⟩
 |_=>exact False.elim x
theorem Ca{A:List Addr}:∀{vs:List Value},(∀u∈vs,OkU A u)->Vals (vs.map toV) vs
 |[],_=>.nil
 |u::r,h=>.cons (KY (h u (mem_cons_self ..))) (Ca fun x hx=>h x (mem_cons_of_mem _ hx))
def ArgOb(h:Heap)(A:List Addr)(a:Addr):Prop:=∃vs:List Value,vs.length<=sizeLine/\(∀u∈vs,OkU A u)/\
 (h.get? a=some {cls:=.type "list",data:=.seq vs.toArray}\/h.get? a=some {cls:=.type "tuple",data:=.seq vs.toArray})
theorem ArgOb.mono{h:Heap}{A B:List Addr}{a:Addr}(k:∀a∈A,a∈B)(x:ArgOb h A a):ArgOb h B a:=by
 obtain⟨vs,h1,h2,h3⟩:=x;exact⟨vs,h1,fun u hu=>(h2 u hu).mono k,h3⟩
theorem BZ{P:Params}{h:Heap}:∀{vs:List Value}{ds:List WData},WellAll P h vs ds->vs.length=ds.length
 |_,_,.nil=>rfl
 |_,_,.cons _ b=>by
  show _+1=_+1;rw[BZ b]
theorem Gd{P:Params}{h:Heap}{v:Value}{ds:List WData}(x:Well P h v (.list ds)):∃(a:Addr)(vs:List Value),v= .ref a/\h.get? a=some {cls:=.type "list",data:=.seq vs.toArray}/\WellAll P h vs ds:=by
 cases x with
 |list ho hall=>exact⟨_,_,rfl,ho,hall⟩
theorem Fq{P:Params}{h:Heap}{v:Value}{ds:List WData}(x:Well P h v (.tuple ds)):∃(a:Addr)(vs:List Value),v= .ref a/\h.get? a=some {cls:=.type "tuple",data:=.seq vs.toArray}/\WellAll P h vs ds:=by
 cases x with
 |tuple ho hall=>exact⟨_,_,rfl,ho,hall⟩
theorem FV{P:Params}{h:Heap}{us:List Value}{d:WData}{ds:List WData}(x:WellAll P h us (d::ds)):∃(v:Value)(vs:List Value),us=v::vs/\Well P h v d/\WellAll P h vs ds:=by
 cases x with
 |cons a b=>exact⟨_,_,rfl,a,b⟩
theorem JJ{n:Nat}(h:n<=1048576):n<=sizeLine:=le_trans h (by decide)
section
variable{P:Params}{h:Heap}
mutual
theorem L5:∀(d:WData)(v:Value),Well P h v d->plW d=true->d.weight<=1048576->∃A:List Addr,OkU A v/\∀a∈A,ArgOb h A a
 | .none,_,x,_,_=>by
  cases x;exact⟨[],trivial,fun a m=>absurd m (by simp)⟩
 | .bool b,_,x,_,_=>by
  cases x;exact⟨[],trivial,fun a m=>absurd m (by simp)⟩
 | .int i,_,x,_,_=>by
  cases x;exact⟨[],trivial,fun a m=>absurd m (by simp)⟩
 | .str s,_,x,_,_=>by
  cases x;exact⟨[],trivial,fun a m=>absurd m (by simp)⟩
 | .bytes b,_,x,_,_=>by
  cases x;exact⟨[],trivial,fun a m=>absurd m (by simp)⟩
 | .list ds,_,x,p,z=>by
  obtain⟨a,vs,rfl,ho,hall⟩:=Gd x;have z2:WData.weightAll ds<=1048576:=z;obtain⟨A,h1,h2⟩:=DK ds _ hall p fun d hd=>le_trans (Dl hd) z2;have k:∀b∈A,b∈a::A:=fun b hb=>mem_cons_of_mem _ hb;refine⟨a::A,mem_cons_self ..,fun b hb=>?_⟩;rcases mem_cons.mp hb with e|m
  .rw[e];exact⟨vs,JJ (by rw[BZ hall];exact le_trans (PySem.W.length_le_weightAllW ds) z2),fun u hu=>(h1 u hu).mono k,.inl ho⟩
  .exact(h2 b m).mono k
 | .tuple ds,_,x,p,z=>by
  obtain⟨a,vs,rfl,ho,hall⟩:=Fq x;have z2:WData.weightAll ds<=1048576:=z;obtain⟨A,h1,h2⟩:=DK ds _ hall p fun d hd=>le_trans (Dl hd) z2;have k:∀b∈A,b∈a::A:=fun b hb=>mem_cons_of_mem _ hb;refine⟨a::A,mem_cons_self ..,fun b hb=>?_⟩;rcases mem_cons.mp hb with e|m
  .rw[e];exact⟨vs,JJ (by rw[BZ hall];exact le_trans (PySem.W.length_le_weightAllW ds) z2),fun u hu=>(h1 u hu).mono k,.inr ho⟩
  .exact(h2 b m).mono k
 | .float _,_,_,p,_=>Bool.noConfusion (show false=true from p)
 | .dict _,_,_,p,_=>Bool.noConfusion (show false=true from p)
 | .bytearray _,_,_,p,_=>Bool.noConfusion (show false=true from p)
 | .set _,_,_,p,_=>Bool.noConfusion (show false=true from p)
 | .frozenset _,_,_,p,_=>Bool.noConfusion (show false=true from p)
 | .obj _ _,_,_,p,_=>Bool.noConfusion (show false=true from p)
theorem DK:∀(ds:List WData)(vs:List Value),WellAll P h vs ds->plWs ds=true->(∀d∈ds,d.weight<=1048576)->∃A:List Addr,(∀u∈vs,OkU A u)/\∀a∈A,ArgOb h A a
 |[],_,x,_,_=>by
  cases x;exact⟨[],fun u m=>absurd m (by simp),fun a m=>absurd m (by simp)⟩
 |d::ds,_,x,p,z=>by
  obtain⟨v,vs,rfl,x1,x2⟩:=FV x;have q:plW d=true/\plWs ds=true:=Bool.and_eq_true_iff.mp p;obtain⟨A,a1,a2⟩:=L5 d v x1 q.1 (z d (mem_cons_self ..));obtain⟨B,b1,b2⟩:=DK ds vs x2 q.2 fun e he=>z e (mem_cons_of_mem _ he);have kA:∀b∈A,b∈A++B:=fun b hb=>mem_append.mpr (.inl hb);have kB:∀b∈B,b∈A++B:=fun b hb=>mem_append.mpr (.inr hb);refine⟨A++B,fun u hu=>?_,fun b hb=>?_⟩
  .rcases mem_cons.mp hu with e|m
   .rw[e];exact a1.mono kA
   .exact(b1 u m).mono kB
  .rcases mem_append.mp hb with m|m
   .exact(a2 b m).mono kA
   .exact(b2 b m).mono kB
end
end
def hoOf(o:Obj):Option HO:=match o.data with
 | .seq vs _=>if(o.cls==Value.type "list")=true then some (.frz o (.lst (vs.toList.map toV))) else some (.frz o (.tup (vs.toList.map toV)))
 |_=>none
def argH(K:Frag)(h:Heap)(A:List Addr):Hp:=fun b=>if b∈A then(if(K.lookup b).isNone=true then(h.get? b).bind hoOf else none) else none
def OnlyF(H:Hp):Prop:=∀b,H b=none\/∃o u,H b=some (.frz o u)
theorem Ht(vs:List Value):hoOf {cls:=.type "list",data:=.seq vs.toArray}=some (.frz {cls:=.type "list",data:=.seq vs.toArray} (.lst (vs.map toV))):=by
 show(if(Value.type "list"==Value.type "list")=true then some (HO.frz {cls:=.type "list",data:=.seq vs.toArray} (.lst (vs.toArray.toList.map toV))) else some (HO.frz {cls:=.type "list",data:=.seq vs.toArray} (.tup (vs.toArray.toList.map toV))))=_;rw[if_pos (beq_self_eq_true _)]
theorem Ia(vs:List Value):hoOf {cls:=.type "tuple",data:=.seq vs.toArray}=some (.frz {cls:=.type "tuple",data:=.seq vs.toArray} (.tup (vs.map toV))):=by
 show(if(Value.type "tuple"==Value.type "list")=true then some (HO.frz {cls:=.type "tuple",data:=.seq vs.toArray} (.lst (vs.toArray.toList.map toV))) else some (HO.frz {cls:=.type "tuple",data:=.seq vs.toArray} (.tup (vs.toArray.toList.map toV))))=_;rw[if_neg (by decide)]
section
variable{P:Program}{w:World}{K:Frag}{h:Heap}{A:List Addr}
theorem EH{b:Addr}{o:Obj}(hb:b∈A)(hk:K.lookup b=none)(e:h.get? b=some o):argH K h A b=hoOf o:=by
 unfold argH;rw[if_pos hb,hk,if_pos (show(none:Option Obj).isNone=true from rfl),e]<;>rfl
theorem Mo{b:Addr}{u:HO}(q:argH K h A b=some u):b∈A/\K.lookup b=none:=by
 unfold argH at q;by_cases hb:b∈A
 .rw[if_pos hb]at q;cases hk:K.lookup b with
  |none=>exact⟨hb,rfl⟩
  |some o=>
   rw[hk,if_neg (by simp)]at q;cases q
 .rw[if_neg hb]at q;cases q
theorem DH(ar:∀a∈A,ArgOb h A a){b:Addr}{u:HO}(q:argH K h A b=some u):K.lookup b=none/\∃vs:List Value,vs.length<=sizeLine/\(∀u∈vs,OkU A u)/\
  ((h.get? b=some {cls:=.type "list",data:=.seq vs.toArray}/\u= .frz {cls:=.type "list",data:=.seq vs.toArray} (.lst (vs.map toV)))\/
   (h.get? b=some {cls:=.type "tuple",data:=.seq vs.toArray}/\u= .frz {cls:=.type "tuple",data:=.seq vs.toArray} (.tup (vs.map toV)))):=by
 obtain⟨hb,hk⟩:=Mo q;obtain⟨vs,h1,h2,h3⟩:=ar b hb;refine⟨hk,vs,h1,h2,?_⟩;rcases h3 with e|e
 .rw[EH hb hk e,Ht]at q;exact .inl ⟨e,(Option.some.inj q).symm⟩
 .rw[EH hb hk e,Ia]at q;exact .inr ⟨e,(Option.some.inj q).symm⟩
theorem J7(ar:∀a∈A,ArgOb h A a):OnlyF (argH K h A):=fun b=>by
 cases q:argH K h A b with
 |none=>exact .inl rfl
 |some u=>
  obtain⟨_,vs,_,_,⟨_,e⟩|⟨_,e⟩⟩:=DH ar q
  .exact .inr ⟨_,_,by rw[e]⟩
  .exact .inr ⟨_,_,by rw[e]⟩
theorem EG{c c':Value}{vs us:List Value}(e:(some {cls:=c,data:=.seq vs.toArray}:Option Obj)=some {cls:=c',data:=.seq us.toArray}):c=c'/\vs=us:=by
 have e1:=Option.some.inj e;have e2:c=c':=congrArg Obj.cls e1;have e3:Data.seq vs.toArray=Data.seq us.toArray:=congrArg Obj.data e1;injection e3 with e4
 refine⟨e2,?_⟩;have e5:=congrArg Array.toList e4;simpa using e5
theorem argL(KX:K.In h)(ar:∀a∈A,ArgOb h A a){a:Addr}{vs:List Value}(ha:a∈A)(e:h.get? a=some {cls:=.type "list",data:=.seq vs.toArray}):(∀u∈vs,OkU A u)/\SqL K (argH K h A) a (vs.map toV):=by
 obtain⟨us,h1,h2,h3⟩:=ar a ha
 have hu:us=vs:=by
  rcases h3 with q|q
  .rw[e]at q;exact(EG q).2.symm
  .rw[e]at q;exact absurd (Value.type.inj (EG q).1) (by decide)
 subst hu;refine⟨h2,?_⟩;cases hk:K.lookup a with
 |none=>exact .inl (.inr ⟨_,by rw[EH ha hk e,Ht]⟩)
 |some o=>
  have e2:=KX a o hk;rw[e]at e2;obtain rfl:=Option.some.inj e2;exact .inr ⟨_,us.toArray,_,hk,rfl,rfl,rfl,by rw[size_toArray];exact h1,by simpa using Ca h2⟩
theorem argT(KX:K.In h)(ar:∀a∈A,ArgOb h A a){a:Addr}{vs:List Value}(ha:a∈A)(e:h.get? a=some {cls:=.type "tuple",data:=.seq vs.toArray}):(∀u∈vs,OkU A u)/\SqT K (argH K h A) a (vs.map toV):=by
 obtain⟨us,h1,h2,h3⟩:=ar a ha
 have hu:us=vs:=by
  rcases h3 with q|q
  .rw[e]at q;exact absurd (Value.type.inj (EG q).1) (by decide)
  .rw[e]at q;exact(EG q).2.symm
 subst hu;refine⟨h2,?_⟩;cases hk:K.lookup a with
 |none=>exact .inl (.inr ⟨_,by rw[EH ha hk e,Ia]⟩)
 |some o=>
  have e2:=KX a o hk;rw[e]at e2;obtain rfl:=Option.some.inj e2;exact .inr ⟨_,us.toArray,_,hk,rfl,rfl,by rw[size_toArray];exact h1,by simpa using Ca h2⟩
mutual
theorem Nj{Pm:Params}(KX:K.In h)(ar:∀a∈A,ArgOb h A a):∀(d:WData)(v:Value),Well Pm h v d->plW d=true->OkU A v->Dw K (argH K h A) (toV v) d
 | .none,_,x,_,_=>by
  cases x;exact .non
 | .bool b,_,x,_,_=>by
  cases x;exact .bl b
 | .int i,_,x,_,_=>by
  cases x;exact .int i
 | .str s,_,x,_,_=>by
  cases x;exact .str s
 | .bytes b,_,x,_,_=>by
  cases x;have z:=Dw.byt (K:=K) (H:=argH K h A) b.toArray;exact z
 | .list ds,_,x,p,hu=>by
  obtain⟨a,vs,rfl,ho,hall⟩:=Gd x;obtain⟨h2,hs⟩:=argL KX ar hu ho;exact .lst hs (Hl KX ar ds _ hall p h2)
 | .tuple ds,_,x,p,hu=>by
  obtain⟨a,vs,rfl,ho,hall⟩:=Fq x;obtain⟨h2,hs⟩:=argT KX ar hu ho;exact .tup hs (Hl KX ar ds _ hall p h2)
 | .float _,_,_,p,_=>Bool.noConfusion (show false=true from p)
 | .dict _,_,_,p,_=>Bool.noConfusion (show false=true from p)
 | .bytearray _,_,_,p,_=>Bool.noConfusion (show false=true from p)
 | .set _,_,_,p,_=>Bool.noConfusion (show false=true from p)
 | .frozenset _,_,_,p,_=>Bool.noConfusion (show false=true from p)
 | .obj _ _,_,_,p,_=>Bool.noConfusion (show false=true from p)
theorem Hl{Pm:Params}(KX:K.In h)(ar:∀a∈A,ArgOb h A a):∀(ds:List WData)(vs:List Value),WellAll Pm h vs ds->plWs ds=true->(∀u∈vs,OkU A u)->DwAll K (argH K h A) (vs.map toV) ds
 |[],_,x,_,_=>by
  cases x;exact .nil
 |d::ds,_,x,p,hu=>by
  obtain⟨v,vs,rfl,x1,x2⟩:=FV x;have q:plW d=true/\plWs ds=true:=Bool.and_eq_true_iff.mp p;exact .cons (Nj KX ar d v x1 q.1 (hu _ (mem_cons_self ..))) (Hl KX ar ds vs x2 q.2 fun u m=>hu u (mem_cons_of_mem _ m))
end
end
theorem EQ{ds:List WData}(h:WData.layableAll ds=true):∀d∈ds,d.weight<=1048576:=fun d hd=>
 (PySem.W.layableW_iff.mp (all_eq_true.mp h d hd)).2.2
theorem Fa:∀(cs:List Codec)(a:Codec.denoteAll cs),(Codec.encAll cs a).length=cs.length
 |[],_=>rfl
 |c::cs,a=>by
  show(Codec.encAll cs a.2).length+1=cs.length+1;rw[Fa cs a.2]
end L2
end
namespace LM
open Lo
theorem Bu(i:Nat)(x:Scan):scan i x []=((closed x).1.out,if(closed x).2=true then none else some i):=rfl
theorem Bg(i:Nat)(x:Scan)(c:Nat)(r:Chars):scan i x (c::r)=if(step x i c).2=true then scan (i+1) (step x i c).1 r else((step x i c).1.out,some i):=rfl
theorem Bp{i:Nat}{x y:Scan}{c:Nat}{r:Chars}(h:step x i c=ok y):scan i x (c::r)=scan (i+1) y r:=by
 rw[Bg,h];rfl
theorem AX{i:Nat}{x y:Scan}{c:Nat}{r:Chars}(h:step x i c=bad y):scan i x (c::r)=(y.out,some i):=by
 rw[Bg,h];rfl
theorem AM{row:Chars}{i c:Nat}(h:row[i]? =some c):row.drop i=c::row.drop (i+1):=by
 obtain⟨h1,h2⟩:=List.getElem?_eq_some_iff.mp h;rw[drop_eq_getElem_cons h1,h2]
theorem B9{row:Chars}{i:Nat}(h:row[i]? =none):row.drop i=[]:=List.drop_eq_nil_of_le (List.getElem?_eq_none_iff.mp h)
theorem Bm{row:Chars}{i c:Nat}(h:row[i]? =some c):i<row.length:=(List.getElem?_eq_some_iff.mp h).1
def InStr(p:Phase):Prop:=p= .ampString\/p= .string\/p= .asString
theorem InStr.nd{p:Phase}(h:InStr p):p≠ .done:=by rcases h with h|h|h<;>rw[h]<;>exact fun e=>Phase.noConfusion e
theorem ER{x:Scan}(h:InStr x.phase)(i c:Nat)(hc:isChar c=true):step x i c=inString x i c:=by
 unfold step;rw[if_neg (by rw[hc];exact Bool.noConfusion)];rcases h with h|h|h<;>rw[h]
theorem Bl{x:Scan}(h:x.phase≠ .done)(i c:Nat)(hc:isChar c=false):step x i c=bad x:=by
 unfold step;rw[if_pos hc,if_neg h]
theorem Cv{c:Nat}(h:c<=127):isChar c=true:=by
 unfold isChar;simp only[and_eq_true,decide_eq_true_eq,not_eq_true',Bool.and_eq_false_iff,decide_eq_false_iff_not];omega
theorem Eo{c:Nat}(h:isBlank c=true):c<=127:=by
 unfold isBlank at h;simp only[or_eq_true,beq_iff_eq]at h;omega
theorem IR{c:Nat}(h:isSign c=true):c<=127:=by
 unfold isSign AMP LESS EQUAL TILDE SLASH at h;simp only[or_eq_true,beq_iff_eq]at h;omega
theorem BX{c:Nat}(h:isBlank c=true\/isSign c=true):isChar c=true:=h.elim (fun h=>Cv (Eo h)) fun h=>Cv (IR h)
theorem BA:isChar QUOTE=true:=Cv (by decide)
theorem CP:¬(isBlank QUOTE=true\/isSign QUOTE=true):=by decide
def AtStr(y:Scan):Prop:=InStr y.phase/\y.cur=[]/\y.quote= .out
abbrev put(y:Scan)(acc:Chars)(l:Nat)(q:Quote):Scan:={y with cur:=acc,last:=l,quote:=q}
theorem BG{y:Scan}(hy:AtStr y){acc:Chars}{l:Nat}{q:Quote}{i c:Nat}(hc:isChar c=true):step (put y acc l q) i c=inString (put y acc l q) i c:=ER (x:=put y acc l q) hy.1 i c hc
def QOk(row:Chars)(i:Nat)(b:Bool)(q:Quote):Prop:=if b=true then q= .within else q= .out\/(q= .ends/\row[i]? ≠some QUOTE)
structure SI (row:Chars) (i0 i:Nat) (acc:Chars) (b:Bool):Prop where
 len:acc.length<=4
 chars:acc.all isChar=true
 from_:i0<=i
 upto:i<=row.length
 some_:acc≠[]->i0<i
 scan:∀y,AtStr y->∃q l,QOk row i b q/\(i0<i->l=i - 1)/\Lo.scan i0 y (row.drop i0)=Lo.scan i (put y acc l q) (row.drop i)
theorem SI.start{row:Chars}{i:Nat}(h:i<=row.length):SI row i i [] false:=
 ⟨zero_le _,rfl,le_refl _,h,fun h=>absurd rfl h,fun y hy=>⟨.out,y.last,.inl rfl,fun h=>absurd h (lt_irrefl _),by
  obtain⟨_,h2,h3⟩:=hy;show Lo.scan i y _=Lo.scan i {y with cur:=[],last:=y.last,quote:=.out} _;rw[<-h2,<-h3]⟩⟩
theorem D9{x:Scan}{i c:Nat}(hq:x.quote= .out\/(x.quote= .ends/\c≠QUOTE))(hc:c≠QUOTE):inString x i c=plain {x with quote:=.out} i c:=by
 unfold inString;rcases hq with h|⟨h,_⟩
 .rw[h];show plain x i c=plain _ i c
  congr 1;rw[<-h]
 .rw[h];show(if c=QUOTE then _ else _)=_;rw[if_neg hc]
theorem E9{y:Scan}{acc:Chars}{l i:Nat}:inString (put y acc l .within) i QUOTE=ok (put y acc i .ends):=by
 unfold inString;exact if_pos rfl
theorem Im{y:Scan}{acc:Chars}{l i:Nat}:inString (put y acc l .ends) i QUOTE=taken (put y acc l .ends) i QUOTE .within:=by
 unfold inString;exact if_pos rfl
theorem Lw{y:Scan}{acc:Chars}{l i c:Nat}(h:c≠QUOTE):inString (put y acc l .within) i c=taken (put y acc l .within) i c .within:=by
 unfold inString;exact if_neg h
theorem SI.opens{row:Chars}{i0 i:Nat}{acc:Chars}(S:SI row i0 i acc false)(h:row[i]? =some QUOTE):SI row i0 (i+1) acc true:=by
 refine⟨S.len,S.chars,Nat.le_succ_of_le S.from_,Bm h,fun e=>Nat.lt_succ_of_lt (S.some_ e),fun y hy=>?_⟩;obtain⟨q,l,hq,_,e⟩:=S.scan y hy
 have hq:q= .out:=by
  have hq:q= .out\/(q= .ends/\row[i]? ≠some QUOTE):=hq;rcases hq with h'|⟨_,h'⟩
  .exact h'
  .exact absurd h h'
 subst hq;refine⟨.within,i,rfl,fun _=>rfl,?_⟩;rw[e,AM h];refine Bp ?_;rw[BG hy BA];show plain _ i QUOTE=_;unfold plain;rw[if_pos rfl]
theorem SI.closes{row:Chars}{i0 i:Nat}{acc:Chars}(S:SI row i0 i acc true)(h:row[i]? =some QUOTE)(h2:row[i+1]? ≠some QUOTE):SI row i0 (i+1) acc false:=by
 refine⟨S.len,S.chars,Nat.le_succ_of_le S.from_,Bm h,fun e=>Nat.lt_succ_of_lt (S.some_ e),fun y hy=>?_⟩;obtain⟨q,l,hq,_,e⟩:=S.scan y hy;have hq:q= .within:=hq;subst hq;refine⟨.ends,i,.inr ⟨rfl,h2⟩,fun _=>rfl,?_⟩;rw[e,AM h];refine Bp ?_;rw[BG hy BA,E9]
theorem SI.twice{row:Chars}{i0 i:Nat}{acc:Chars}(S:SI row i0 i acc true)(h:row[i]? =some QUOTE)(h2:row[i+1]? =some QUOTE)(hl:acc.length≠4):SI row i0 (i+2) (acc++[QUOTE]) true:=by
 have hl4:=S.len;refine⟨by rw[length_append,List.length_singleton];omega,by rw[List.all_append,S.chars];rfl,by have:=S.from_;omega,by have:=Bm h2;omega,fun _=>by have:=S.from_;omega,fun y hy=>?_⟩;obtain⟨q,l,hq,_,e⟩:=S.scan y hy;have hq:q= .within:=hq;subst hq;refine⟨.within,i+1,rfl,fun _=>rfl,?_⟩;rw[e,AM h]
 have e1:step (put y acc l .within) i QUOTE=ok (put y acc i .ends):=by
  rw[BG hy BA,E9]
 rw[Bp e1,AM h2];refine Bp ?_;rw[BG hy BA,Im];unfold taken;rw[if_pos (show acc.length<STRING by unfold STRING;omega)]
theorem SI.fifthQ{row:Chars}{i0 i:Nat}{acc:Chars}(S:SI row i0 i acc true)(h:row[i]? =some QUOTE)(h2:row[i+1]? =some QUOTE)(hl:acc.length=4):∀y,AtStr y->Lo.scan i0 y (row.drop i0)=(y.out,some (i+1)):=by
 intro y hy;obtain⟨q,l,hq,_,e⟩:=S.scan y hy;have hq:q= .within:=hq;subst hq;rw[e,AM h]
 have e1:step (put y acc l .within) i QUOTE=ok (put y acc i .ends):=by
  rw[BG hy BA,E9]
 rw[Bp e1,AM h2];refine AX (y:=put y acc i .ends) ?_;rw[BG hy BA,Im];unfold taken;rw[if_neg (show¬acc.length<STRING by unfold STRING;omega)]
theorem SI.step_char{row:Chars}{i0 i c:Nat}{acc:Chars}{b:Bool}(S:SI row i0 i acc b)(h:row[i]? =some c)(hc:c≠QUOTE)(hb:b=true\/¬(isBlank c=true\/isSign c=true))(hch:isChar c=true)(y:Scan)(hy:AtStr y):
  ∃q l q',QOk row (i+1) b q'/\Lo.scan i0 y (row.drop i0)=Lo.scan i (put y acc l q) (row.drop i)/\step (put y acc l q) i c=taken (put y acc l q') i c q':=by
 obtain⟨q,l,hq,_,e⟩:=S.scan y hy;cases b with
 |true=>
  have hq:q= .within:=hq;subst hq;refine⟨.within,l,.within,rfl,e,?_⟩;rw[BG hy hch,Lw hc]
 |false=>
  refine⟨q,l,.out,.inl rfl,e,?_⟩;have hb:¬(isBlank c=true\/isSign c=true):=hb.elim (fun h=>Bool.noConfusion h) id;have hq:q= .out\/(q= .ends/\row[i]? ≠some QUOTE):=hq;rw[BG hy hch,D9 (hq.elim .inl fun h=>.inr ⟨h.1,hc⟩) hc];show plain (put y acc l .out) i c=_;unfold plain;rw[if_neg hc,if_neg hb]
theorem SI.char{row:Chars}{i0 i c:Nat}{acc:Chars}{b:Bool}(S:SI row i0 i acc b)(h:row[i]? =some c)(hc:c≠QUOTE)(hb:b=true\/¬(isBlank c=true\/isSign c=true))(hch:isChar c=true)(hl:acc.length≠4):SI row i0 (i+1) (acc++[c]) b:=by
 have hl4:=S.len;refine⟨by rw[length_append,List.length_singleton];omega,by rw[List.all_append,S.chars];simp[hch],by have:=S.from_;omega,Bm h,fun _=>by have:=S.from_;omega,fun y hy=>?_⟩;obtain⟨q,l,q',hq',e,e2⟩:=S.step_char h hc hb hch y hy;refine⟨q',i,hq',fun _=>rfl,?_⟩;rw[e,AM h];refine Bp ?_;rw[e2];unfold taken;rw[if_pos (show acc.length<STRING by unfold STRING;omega)]
theorem SI.no{row:Chars}{i0 i c:Nat}{acc:Chars}{b:Bool}(S:SI row i0 i acc b)(h:row[i]? =some c)(hc:c≠QUOTE)(hb:b=true\/¬(isBlank c=true\/isSign c=true))(hl:acc.length=4\/isChar c=false):
  ∀y,AtStr y->Lo.scan i0 y (row.drop i0)=(y.out,some i):=by
 intro y hy;by_cases hch:isChar c=true
 .obtain⟨q,l,q',hq',e,e2⟩:=S.step_char h hc hb hch y hy;rw[e,AM h];refine AX (y:=put y acc l q') ?_;rw[e2];unfold taken;have hl:acc.length=4:=hl.elim id fun h=>by rw[hch]at h;cases h
  rw[if_neg (show¬acc.length<STRING by unfold STRING;omega)]
 .obtain⟨q,l,hq,_,e⟩:=S.scan y hy;rw[e,AM h];exact AX (y:=put y acc l q) (Bl (x:=put y acc l q) hy.1.nd _ _ (by cases h:isChar c;rfl;exact absurd h hch))
structure SGot (row:Chars) (i0 j:Nat) (s:Chars):Prop where
 ne:s≠[]
 len:s.length<=4
 chars:s.all isChar=true
 from_:i0<j
 upto:j<=row.length
 ends:∀c,row[j]? =some c->isBlank c=true\/isSign c=true
 scan:∀y,AtStr y->∃q,q≠ .within/\Lo.scan i0 y (row.drop i0)=Lo.scan j (put y s (j - 1) q) (row.drop j)
def SNo(row:Chars)(i0 j:Nat):Prop:=∀y,AtStr y->Lo.scan i0 y (row.drop i0)=(y.out,some j)
theorem SI.got{row:Chars}{i0 i:Nat}{acc:Chars}(S:SI row i0 i acc false)(hn:acc≠[])(he:∀c,row[i]? =some c->isBlank c=true\/isSign c=true):SGot row i0 i acc:=by
 have hi:=S.some_ hn;refine⟨hn,S.len,S.chars,hi,S.upto,he,fun y hy=>?_⟩;obtain⟨q,l,hq,hl,e⟩:=S.scan y hy;rw[hl hi]at e;refine⟨q,fun z=>?_,e⟩;have hq:q= .out\/(q= .ends/\row[i]? ≠some QUOTE):=hq;rcases hq with h|⟨h,_⟩<;>rw[h]at z<;>cases z
theorem Fr{x:Scan}(hp:InStr x.phase)(h:x.quote= .within\/x.cur=[]):closed x=bad x:=by
 have hw:x.whole=false:=by
  unfold Scan.whole;rcases h with h|h
  .rw[h];rfl
  .rw[h];simp
 unfold closed;rcases hp with e|e|e<;>rw[e]<;>simp only[hw,Bool.false_eq_true,if_false]
theorem SI.none_end{row:Chars}{i0 i:Nat}{acc:Chars}{b:Bool}(S:SI row i0 i acc b)(h:row[i]? =none)(hn:b=true\/acc=[]):SNo row i0 i:=by
 intro y hy;obtain⟨q,l,hq,_,e⟩:=S.scan y hy;rw[e,B9 h,Bu]
 have:closed (put y acc l q)=bad (put y acc l q):=Fr hy.1 (by
  rcases hn with h|h
  .subst h;exact .inl hq
  .exact .inr h)
 rw[this];rfl
theorem SI.none_here{row:Chars}{i0 i c:Nat}(S:SI row i0 i [] false)(h:row[i]? =some c)(hc:isBlank c=true\/isSign c=true):SNo row i0 i:=by
 intro y hy;obtain⟨q,l,hq,_,e⟩:=S.scan y hy;have hcq:c≠QUOTE:=fun z=>CP (z▸hc);have hq:q= .out\/(q= .ends/\row[i]? ≠some QUOTE):=hq;rw[e,AM h];refine AX (y:=put y [] l .out) ?_;rw[BG hy (BX hc),D9 (hq.elim .inl fun h=>.inr ⟨h.1,hcq⟩) hcq];show plain (put y [] l .out) i c=_;unfold plain;rw[if_neg hcq,if_pos hc];unfold ended;rw[if_pos rfl]
end LM
set_option linter.unusedVariables false
namespace LM
open Lo
structure Skips (row:Chars) (i j:Nat):Prop where
 le:i<=j
 upto:j<=row.length
 all_:∀k,i<=k->k<j->∃c,row[k]? =some c/\isBlank c=true
 stop:∀c,row[j]? =some c->isBlank c=false
def Stays(p:Phase):Prop:=p= .ready\/p= .amp\/p= .want\/p= .wantString\/p= .done\/p= .slash
theorem Ic{x:Scan}(h:Stays x.phase){i c:Nat}(hc:isBlank c=true):step x i c=ok x:=by
 have hch:isChar c=true:=Cv (Eo hc);have ht:c≠TILDE:=by rintro rfl;revert hc;decide
 unfold step;rw[if_neg (by rw[hch];exact Bool.noConfusion)];rcases h with h|h|h|h|h|h<;>rw[h]<;>simp only[onReady,onWant,onDone,hc,if_true,ht,if_false]
theorem Skips.scan{row:Chars}{i j:Nat}(S:Skips row i j){x:Scan}(h:Stays x.phase):Lo.scan i x (row.drop i)=Lo.scan j x (row.drop j):=by
 have key:∀n k,k+n=j->i<=k->Lo.scan k x (row.drop k)=Lo.scan j x (row.drop j):=by
  intro n
  induction n with
  |zero=>
   intro k e _;have:k=j:=by omega
   rw[this]
  |succ n ih=>
   intro k e hk;obtain⟨c,hc,hb⟩:=S.all_ k hk (by omega);rw[AM hc,Bp (Ic h hb)];exact ih (k+1) (by omega) (by omega)
 exact key (j - i) i (by have:=S.le;omega) (le_refl _)
def Wants(w p:Phase):Prop:=(w= .amp/\p= .ampString)\/(w= .want/\p= .string)\/(w= .wantString/\p= .string)\/(w= .slash/\p= .asString)
theorem Wants.inStr{w p:Phase}(h:Wants w p):InStr p:=by
 rcases h with ⟨_,h⟩|⟨_,h⟩|⟨_,h⟩|⟨_,h⟩
 .exact .inl h
 .exact .inr (.inl h)
 .exact .inr (.inl h)
 .exact .inr (.inr h)
theorem Wants.nd{w p:Phase}(h:Wants w p):w≠ .done:=by
 rcases h with ⟨h,_⟩|⟨h,_⟩|⟨h,_⟩|⟨h,_⟩<;>rw[h]<;>exact fun e=>Phase.noConfusion e
abbrev beg(x:Scan)(p:Phase):Scan:={x with phase:=p,cur:=[],quote:=.out}
theorem J1{x:Scan}{p:Phase}(h:Wants x.phase p){i c:Nat}(hc:isChar c=true)(ht:x.phase= .want->c≠TILDE):step x i c=onWant x p i c:=by
 unfold step;rw[if_neg (by rw[hc];exact Bool.noConfusion)];rcases h with ⟨h,e⟩|⟨h,e⟩|⟨h,e⟩|⟨h,e⟩
 .rw[h,e]
 .rw[h,e];exact if_neg (ht h)
 .rw[h,e]
 .rw[h,e]
theorem Cd{row:Chars}{i:Nat}{x:Scan}{p:Phase}(h:Wants x.phase p)(hb:∀c,row[i]? =some c->isBlank c=false)(ht:x.phase= .want->row[i]? ≠some TILDE):
  Lo.scan i x (row.drop i)=Lo.scan i (beg x p) (row.drop i):=by
 have hp:InStr (beg x p).phase:=h.inStr;cases e:row[i]? with
 |none=>
  rw[B9 e,Bu,Bu,Fr hp (.inr rfl)]
  have:closed x=bad x:=by
   unfold closed;rcases h with ⟨h,_⟩|⟨h,_⟩|⟨h,_⟩|⟨h,_⟩<;>rw[h]
  rw[this];rfl
 |some c=>
  have hbl:=hb c e;rw[AM e];by_cases hc:isChar c=true
  .have ht':x.phase= .want->c≠TILDE:=fun hw z=>ht hw (by rw[e,z]);have e1:=J1 h (i:=i) hc ht';have e2:step (beg x p) i c=plain (beg x p) i c:=ER hp i c hc;unfold onWant at e1;rw[if_neg (by rw[hbl];exact Bool.noConfusion)]at e1;by_cases hs:isSign c=true
   .rw[if_pos hs]at e1;rw[AX e1];have hq:c≠QUOTE:=fun z=>CP (.inr (z▸hs))
    have e3:step (beg x p) i c=bad (beg x p):=by
     rw[e2];unfold plain;rw[if_neg hq,if_pos (.inr hs)];unfold ended;rw[if_pos rfl]
    rw[AX e3]
   .rw[if_neg hs]at e1
    have e3:step (beg x p) i c=begun x p i c:=by
     rw[e2];unfold plain begun;by_cases hq:c=QUOTE
     .rw[if_pos hq,if_pos hq]
     .rw[if_neg hq,if_neg hq,if_neg (by rw[hbl];simp[hs])];unfold taken;rw[if_pos (by decide:([]:Chars).length<STRING),if_pos (by decide:([]:Chars).length<STRING)]
    rw[Bg,Bg,e1,e3]
  .have hc:isChar c=false:=by cases h:isChar c;rfl;exact absurd h hc
   rw[AX (Bl h.nd _ _ hc),AX (Bl hp.nd _ _ hc)]
theorem Jd(x:Scan){w p:Phase}(h:Wants w p):AtStr (beg x p):=⟨h.inStr,rfl,rfl⟩
theorem Gy{row:Chars}{j:Nat}{z:Scan}{w:Scan}(hp:InStr z.phase)(hn:z.cur≠[])(hq:z.quote≠ .within)(he:∀c,row[j]? =some c->isBlank c=true\/isSign c=true)
  (h0:((closed z).1.out,(closed z).2)=((closed w).1.out,(closed w).2)) (h1:∀c,isBlank c=true\/isSign c=true->ended {z with quote:=.out} c=step w j c):Lo.scan j z (row.drop j)=Lo.scan j w (row.drop j):=by
 cases e:row[j]? with
 |none=>
  obtain⟨a,b⟩:=Prod.mk.inj h0;rw[B9 e,Bu,Bu,a,b]
 |some c=>
  have hc:=he c e;have hcq:c≠QUOTE:=fun z=>CP (z▸hc)
  have hq':z.quote= .out\/(z.quote= .ends/\c≠QUOTE):=by
   cases h:z.quote with
   |out=>exact .inl rfl
   |ends=>exact .inr ⟨rfl,hcq⟩
   |within=>exact absurd h hq
  have e1:step z j c=step w j c:=by
   rw[ER hp j c (BX hc),D9 hq' hcq,<-h1 c hc];unfold plain;rw[if_neg hcq,if_pos hc]
  rw[AM e,Bg,Bg,e1]
theorem EO{z:Scan}(hn:z.cur≠[])(hq:z.quote≠ .within):z.whole=true:=by
 unfold Scan.whole;simp[hn,hq]
theorem BB{x:Scan}(h:x.phase= .ready){i c:Nat}(hc:isChar c=true):step x i c=onReady x c:=by
 unfold step;rw[if_neg (by rw[hc];exact Bool.noConfusion),h]
theorem Ee{x:Scan}(h:x.phase= .done){i c:Nat}(hc:isChar c=true):step x i c=onDone x c:=by
 unfold step;rw[if_neg (by rw[hc];exact Bool.noConfusion),h]
theorem Mt{row:Chars}{j:Nat}{z:Scan}(hp:z.phase= .ampString)(hn:z.cur≠[])(hq:z.quote≠ .within)(he:∀c,row[j]? =some c->isBlank c=true\/isSign c=true):
  Lo.scan j z (row.drop j)=Lo.scan j {z with quote:=.out,phase:=.ready,out:=z.out++[.behind z.cur z.last]} (row.drop j):=by
 refine Gy (.inl hp) hn hq he ?_ fun c hc=>?_
 .unfold closed;rw[hp];simp only[EO hn hq,if_true];rfl
 .rw[BB rfl (BX hc)];unfold ended;rw[if_neg hn];show(match z.phase with | .ampString=>_ | .string=>_|_=>_)=_;rw[hp]
theorem Li{row:Chars}{j:Nat}{z:Scan}(hp:z.phase= .string)(hn:z.cur≠[])(hq:z.quote≠ .within)(he:∀c,row[j]? =some c->isBlank c=true\/isSign c=true):
  Lo.scan j z (row.drop j)=Lo.scan j {z with quote:=.out,phase:=.done,s:=z.cur} (row.drop j):=by
 refine Gy (.inr (.inl hp)) hn hq he ?_ fun c hc=>?_
 .unfold closed;rw[hp];simp only[EO hn hq,if_true];rfl
 .rw[Ee rfl (BX hc)];unfold ended;rw[if_neg hn];show(match z.phase with | .ampString=>_ | .string=>_|_=>_)=_;rw[hp]
theorem NF{row:Chars}{j:Nat}{z:Scan}(hp:z.phase= .asString)(hn:z.cur≠[])(hq:z.quote≠ .within)(he:∀c,row[j]? =some c->isBlank c=true\/isSign c=true):
  Lo.scan j z (row.drop j)=Lo.scan j (ruled {z with quote:=.out} z.cur) (row.drop j):=by
 refine Gy (.inr (.inr hp)) hn hq he ?_ fun c hc=>?_
 .unfold closed;rw[hp];simp only[EO hn hq,if_true];rfl
 .rw[BB rfl (BX hc)];unfold ended;rw[if_neg hn];show(match z.phase with | .ampString=>_ | .string=>_|_=>_)=_;rw[hp]
theorem IJ{row:Chars}{j:Nat}{x:Scan}(hp:x.phase= .done)(hb:∀c,row[j]? =some c->isBlank c=false)(hs:row[j]? ≠some SLASH):
  Lo.scan j x (row.drop j)=Lo.scan j (ruled x []) (row.drop j):=by
 cases e:row[j]? with
 |none=>
  rw[B9 e,Bu,Bu];unfold closed;rw[hp];rfl
 |some c=>
  have hbl:=hb c e;have hsl:c≠SLASH:=fun z=>hs (by rw[e,z]);rw[AM e];by_cases hc:isChar c=true
  .have e1:step x j c=step (ruled x []) j c:=by
    rw[Ee hp hc,BB rfl hc];unfold onDone;rw[if_neg (by rw[hbl];exact Bool.noConfusion),if_neg hsl]
   rw[Bg,Bg,e1]
  .have hc:isChar c=false:=by cases h:isChar c;rfl;exact absurd h hc
   have e1:step x j c=bad (ruled x []):=by
    unfold step;rw[if_pos hc,if_pos hp]
   rw[AX e1,AX (Bl (x:=ruled x []) (fun e=>Phase.noConfusion e) _ _ hc)]
theorem EU{row:Chars}{j:Nat}{x:Scan}(hp:x.phase= .done)(hs:row[j]? =some SLASH):Lo.scan j x (row.drop j)=Lo.scan (j+1) {x with phase:=.slash} (row.drop (j+1)):=by
 rw[AM hs];refine Bp ?_;rw[Ee hp (by decide)];unfold onDone;rw[if_neg (by decide),if_pos rfl]
theorem Gi{row:Chars}{j:Nat}{x:Scan}(hp:x.phase= .ready)(hs:row[j]? =some AMP):Lo.scan j x (row.drop j)=Lo.scan (j+1) {x with phase:=.amp} (row.drop (j+1)):=by
 rw[AM hs];refine Bp ?_;rw[BB hp (by decide)];unfold onReady;rw[if_neg (by decide),if_pos rfl]
theorem Il{row:Chars}{j:Nat}{x:Scan}(hp:x.phase= .ready)(hs:row[j]? =some EQUAL):Lo.scan j x (row.drop j)=Lo.scan (j+1) {x with phase:=.want,st:=4,light:=false} (row.drop (j+1)):=by
 rw[AM hs];refine Bp ?_;rw[BB hp (by decide)];unfold onReady;rw[if_neg (by decide),if_neg (by decide),if_neg (by decide),if_pos rfl]
theorem IS{row:Chars}{j:Nat}{x:Scan}(hp:x.phase= .ready)(hs:row[j]? =some LESS):Lo.scan j x (row.drop j)=Lo.scan (j+1) {x with phase:=.sign 1,st:=1,light:=false} (row.drop (j+1)):=by
 rw[AM hs];refine Bp ?_;rw[BB hp (by decide)];unfold onReady;rw[if_neg (by decide),if_neg (by decide),if_pos rfl]
theorem FQ{x:Scan}{k:Nat}(h:x.phase= .sign k){i c:Nat}(hc:isChar c=true):step x i c=(if c=LESS/\k<3 then ok {x with phase:=.sign (k+1),st:=k+1} else if c=TILDE then ok {x with phase:=.wantString,light:=true} else onWant {x with phase:=.want} .string i c):=by
 unfold step;rw[if_neg (by rw[hc];exact Bool.noConfusion),h]
theorem IY{x:Scan}(h:x.phase= .want){i c:Nat}(hc:isChar c=true):step x i c=(if c=TILDE then ok {x with phase:=.wantString,light:=true} else onWant x .string i c):=by
 unfold step;rw[if_neg (by rw[hc];exact Bool.noConfusion),h]
theorem Kt{row:Chars}{j k:Nat}{x:Scan}(hp:x.phase= .sign k)(hk:k<3)(hs:row[j]? =some LESS):Lo.scan j x (row.drop j)=Lo.scan (j+1) {x with phase:=.sign (k+1),st:=k+1} (row.drop (j+1)):=by
 rw[AM hs];refine Bp ?_;rw[FQ hp (by decide),if_pos ⟨rfl,hk⟩]
theorem KA{row:Chars}{j k:Nat}{x:Scan}(hp:x.phase= .sign k)(hs:¬k<3\/row[j]? ≠some LESS):Lo.scan j x (row.drop j)=Lo.scan j {x with phase:=.want} (row.drop j):=by
 cases e:row[j]? with
 |none=>
  rw[B9 e,Bu,Bu];unfold closed;rw[hp];rfl
 |some c=>
  rw[AM e];by_cases hc:isChar c=true
  .have e1:step x j c=step {x with phase:=.want} j c:=by
    rw[FQ hp hc,if_neg (fun z=>hs.elim (fun h=>h z.2) fun h=>h (by rw[e,z.1]))];exact(IY (x:={x with phase:=.want}) rfl hc).symm
   rw[Bg,Bg,e1]
  .have hc:isChar c=false:=by cases h:isChar c;rfl;exact absurd h hc
   rw[AX (Bl (by rw[hp];exact fun e=>Phase.noConfusion e) _ _ hc),AX (Bl (x:={x with phase:=.want}) (fun e=>Phase.noConfusion e) _ _ hc)]
theorem IU{row:Chars}{j:Nat}{x:Scan}(hp:x.phase= .want)(hs:row[j]? =some TILDE):Lo.scan j x (row.drop j)=Lo.scan (j+1) {x with phase:=.wantString,light:=true} (row.drop (j+1)):=by
 rw[AM hs];refine Bp ?_;unfold step;rw[if_neg (by decide),hp];exact if_pos rfl
theorem KI{row:Chars}{j c:Nat}{x:Scan}(hp:x.phase= .ready)(hs:row[j]? =some c)(hb:isBlank c=false)(h1:c≠AMP)(h2:c≠LESS)(h3:c≠EQUAL):Lo.scan j x (row.drop j)=(x.out,some j):=by
 rw[AM hs];by_cases hc:isChar c=true
 .refine AX ?_;rw[BB hp hc];unfold onReady;rw[if_neg (by rw[hb];exact Bool.noConfusion),if_neg h1,if_neg h2,if_neg h3]
 .have hc:isChar c=false:=by cases h:isChar c;rfl;exact absurd h hc
  exact AX (Bl (by rw[hp];exact fun e=>Phase.noConfusion e) _ _ hc)
theorem Ka{row:Chars}{j:Nat}{x:Scan}(hp:x.phase= .ready)(hs:row[j]? =none):Lo.scan j x (row.drop j)=(x.out,none):=by
 rw[B9 hs,Bu];unfold closed;rw[hp];rfl
def plc(es:Order)(x:Chars):Option Nat:=es.findIdx? fun(e:Entry)=>e.s==x
theorem BH(e:Entry)(es:Order)(x:Chars):plc (e::es) x=if e.s=x then some 0 else(plc es x).map (· +1):=by
 unfold plc;rw[List.findIdx?_cons];by_cases h:e.s=x
 .rw[if_pos h,if_pos (by rw[h];exact beq_self_eq_true _)]
 .rw[if_neg h,if_neg (by rw[beq_iff_eq];exact h)]
theorem CN:∀(es:Order)(x:Chars),(Lo.find es x).isSome=(plc es x).isSome
 |[],_=>rfl
 |e::es,x=>by
  unfold Lo.find;rw[BH,find?_cons];by_cases h:e.s=x
  .rw[if_pos h,h,beq_self_eq_true];rfl
  .rw[if_neg h,show(e.s==x)=false from beq_eq_false_iff_ne.mpr h,Option.isSome_map];exact CN es x
theorem C8:∀{es:Order}{x:Chars}{i:Nat},plc es x=some i->indexOf es x=i
 |[],_,_,h=>by cases h
 |e::es,x,i,h=>by
  rw[BH]at h;unfold indexOf;rw[List.findIdx_cons];by_cases hx:e.s=x
  .rw[if_pos hx]at h;rw[hx,beq_self_eq_true];exact Option.some.inj h
  .rw[if_neg hx]at h;obtain⟨j,hj,rfl⟩:=map_eq_some_iff.mp h;rw[show(e.s==x)=false from beq_eq_false_iff_ne.mpr hx];have:=C8 hj;unfold indexOf at this;rw[<-this];rfl
theorem Do:∀{es:Order}{x:Chars}{i:Nat},plc es x=some i->∃e,es[i]? =some e/\e.s=x
 |[],_,_,h=>by cases h
 |e::es,x,i,h=>by
  rw[BH]at h;by_cases hx:e.s=x
  .rw[if_pos hx]at h;cases h;exact⟨e,rfl,hx⟩
  .rw[if_neg hx]at h;obtain⟨j,hj,rfl⟩:=map_eq_some_iff.mp h;obtain⟨e',h1,h2⟩:=Do hj;exact⟨e',by simpa using h1,h2⟩
theorem EX:∀{es:Order}{x:Chars}{n:Nat},(∀j e,j<n->es[j]? =some e->e.s≠x)->∀{e:Entry},es[n]? =some e->e.s=x->plc es x=some n
 |[],_,_,_,_,h,_=>by simp at h
 |e0::es,x,0,_,e,h,hx=>by
  have:e0=e:=Option.some.inj h;rw[BH,this,if_pos hx]
 |e0::es,x,n+1,hb,e,h,hx=>by
  rw[BH,if_neg (hb 0 e0 (succ_pos _) rfl),EX (n:=n) (fun j e hj he=>hb (j+1) e (Nat.succ_lt_succ hj) (by simpa using he)) (by simpa using h) hx];rfl
theorem EY{es:Order}{x:Chars}(h:∀(j:Nat)(e:Entry),es[j]? =some e->e.s≠x):plc es x=none:=by
 unfold plc;rw[List.findIdx?_eq_none_iff];intro e he;obtain⟨j,hj⟩:=List.getElem?_of_mem he;exact beq_eq_false_iff_ne.mpr (h j e hj)
theorem C1{es:Order}{x:Chars}{i:Nat}(h:plc es x=some i):i<es.length:=by
 obtain⟨e,h1,_⟩:=Do h;exact(List.getElem?_eq_some_iff.mp h1).1
theorem Dt:∀{es:Order}{x:Chars},plc es x=none->without x es=es
 |[],_,_=>rfl
 |e::es,x,h=>by
  rw[BH]at h;by_cases hx:e.s=x
  .rw[if_pos hx]at h;cases h
  .rw[if_neg hx,Option.map_eq_none_iff]at h;unfold without;rw[if_neg hx,Dt h]
def outOf(es:Order)(i:Nat)(e:Entry):Order:=match(es.eraseIdx i)[i]? with
 |some f=>(es.eraseIdx i).set i {f with st:=min e.st f.st}
 |none=>es.eraseIdx i
theorem Dn:∀{es:Order}{x:Chars}{i:Nat}{e:Entry},plc es x=some i->es[i]? =some e->without x es=outOf es i e
 |[],_,_,_,h,_=>by cases h
 |e0::es,x,i,e,h,he=>by
  rw[BH]at h;by_cases hx:e0.s=x
  .rw[if_pos hx]at h;cases h;have:e0=e:=Option.some.inj he;subst this;unfold without;rw[if_pos hx];unfold outOf;cases es with
   |nil=>rfl
   |cons f q=>rfl
  .rw[if_neg hx]at h;obtain⟨j,hj,rfl⟩:=map_eq_some_iff.mp h;have ih:=Dn hj (show es[j]? =some e by simpa using he);unfold without;rw[if_neg hx,ih];unfold outOf;rw[List.eraseIdx_cons_succ,List.getElem?_cons_succ];cases(es.eraseIdx j)[j]? with
   |none=>rfl
   |some f=>rfl
theorem FL{es:Order}{x:Chars}{i p:Nat}{e:Entry}(h:plc es x=some i)(hp:i+1<=p)(hb:∀j f,i+1<=j->j<p->es[j]? =some f->e.st<f.st)(hl:p<=es.length)(hs:∀f,es[p]? =some f->¬e.st<f.st):
  behind e (some x) es=es.take p++e::es.drop p:=by
 unfold behind;show es.take (indexOf es x+1)++before e (es.drop (indexOf es x+1))=_;rw[C8 h]
 have key:∀(n:Nat)(o:Order),(∀j f,j<n->o[j]? =some f->e.st<f.st)->n<=o.length->(∀f,o[n]? =some f->¬e.st<f.st)->before e o=o.take n++e::o.drop n:=by
  intro n
  induction n with
  |zero=>
   intro o _ _ hs;cases o with
   |nil=>rfl
   |cons f q=>
    have:=hs f rfl;unfold before;simp only[takeWhile_cons,decide_eq_true_eq,if_neg this];rfl
  |succ n ih=>
   intro o hb hl hs;cases o with
   |nil=>simp at hl
   |cons f q=>
    have h0:=hb 0 f (succ_pos _) rfl;have:=ih q (fun j f' hj hf=>hb (j+1) f' (by omega) (by simpa using hf)) (by simpa using hl) (fun f' hf=>hs f' (by simpa using hf));unfold before at this⊢;simp only[takeWhile_cons,decide_eq_true_eq,if_pos h0,length_cons,List.drop_succ_cons,List.take_succ_cons,List.cons_append]at this⊢;rw[this]
 rw[key (p - (i+1)) (es.drop (i+1)) (fun j f hj hf=>hb (i+1+j) f (by omega) (by omega) (by rw[List.getElem?_drop]at hf;exact hf)) (by rw[length_drop];omega) (fun f hf=>hs f (by rw[List.getElem?_drop]at hf;rw[<-hf];congr 1;omega))];rw[drop_drop,<-append_assoc];have e1:i+1+(p - (i+1))=p:=by omega
 have e2:es.take (i+1)++(es.drop (i+1)).take (p - (i+1))=es.take p:=by
  have e3:=List.take_add (l:=es) (i:=i+1) (j:=p - (i+1));rw[e1]at e3;exact e3.symm
 rw[e1,e2]
theorem B5{e:Entry}{es:Order}{x:Chars}:(plc (e::es) x).isSome=(decide (e.s=x) || (plc es x).isSome):=by
 rw[BH];by_cases h:e.s=x
 .rw[if_pos h,decide_eq_true h];rfl
 .rw[if_neg h,decide_eq_false h,Option.isSome_map,Bool.false_or]
theorem Er:∀{es:Order}{x y:Chars},x≠y->(plc es x).isSome=true->(plc (without y es) x).isSome=true
 |[],_,_,_,h=>h
 |e::es,x,y,hxy,h=>by
  unfold without;by_cases hy:e.s=y
  .rw[if_pos hy];rw[B5,decide_eq_false (by rw[hy];exact fun z=>hxy z.symm),Bool.false_or]at h;cases es with
   |nil=>exact h
   |cons f q=>
    rw[B5]at h⊢;exact h
  .rw[if_neg hy];rw[B5]at h⊢;by_cases hx:e.s=x
   .rw[decide_eq_true hx];rfl
   .rw[decide_eq_false hx,Bool.false_or]at h⊢;exact Er hxy h
theorem Ez:∀(es:Order)(y:Chars),(without y es).length<=es.length
 |[],_=>le_refl _
 |e::es,y=>by
  unfold without;by_cases hy:e.s=y
  .rw[if_pos hy];cases es with
   |nil=>exact zero_le _
   |cons f q=>exact Nat.le_succ _
  .rw[if_neg hy];exact Nat.succ_le_succ (Ez es y)
theorem Skips.same{row:Chars}{i j:Nat}(S:Skips row i j)(h:∀c,row[i]? =some c->isBlank c=false):j=i:=by
 by_cases hij:i<j
 .obtain⟨c,h1,h2⟩:=S.all_ i (le_refl _) hij;rw[h c h1]at h2;cases h2
 .have:=S.le;omega
def ANo(row:Chars)(i j:Nat):Prop:=∀x:Scan,x.phase= .amp->Lo.scan i x (row.drop i)=(x.out,some j)
def AGot(row:Chars)(i j:Nat)(s:Chars):Prop:=∀x:Scan,x.phase= .amp->∃x':Scan,x'.phase= .ready/\x'.out=x.out++[.behind s (j - 1)]/\Lo.scan i x (row.drop i)=Lo.scan j x' (row.drop j)
theorem Kg{row:Chars}{i k j:Nat}(S:Skips row i k)(N:SNo row k j):ANo row i j:=fun x hx=>by
 have hw:Wants x.phase .ampString:=.inl ⟨hx,rfl⟩;rw[S.scan (.inr (.inl hx)),Cd hw S.stop (fun z=>by rw[hx]at z;cases z)];exact N _ (Jd x hw)
theorem IL{row:Chars}{i k j:Nat}{s:Chars}(S:Skips row i k)(G:SGot row k j s):AGot row i j s:=fun x hx=>by
 have hw:Wants x.phase .ampString:=.inl ⟨hx,rfl⟩;obtain⟨q,hq,e⟩:=G.scan _ (Jd x hw);have e2:=Mt (z:=put (beg x .ampString) s (j - 1) q) rfl G.ne hq G.ends;refine⟨{put (beg x .ampString) s (j - 1) q with quote:=.out,phase:=.ready,out:=x.out++[.behind s (j - 1)]},rfl,rfl,?_⟩;rw[S.scan (.inr (.inl hx)),Cd hw S.stop (fun z=>by rw[hx]at z;cases z),e,e2]
structure Wt (x:Scan) (st:Nat):Prop where
 ph:x.phase= .want
 st:x.st=st
 li:x.light=false
def WNo(row:Chars)(i j st:Nat):Prop:=∀x,Wt x st->Lo.scan i x (row.drop i)=(x.out,some j)
def WGot(row:Chars)(i j st:Nat)(e:Entry)(p:Nat):Prop:=∀x,Wt x st->∃x':Scan,x'.phase= .ready/\x'.out=x.out++[.rule e p]/\Lo.scan i x (row.drop i)=Lo.scan j x' (row.drop j)
structure Pre (row:Chars) (i k1 k2 k3:Nat) (b:Bool):Prop where
 s1:Skips row i k1
 b1:b=decide (row[k1]? =some TILDE)
 kk:k2=if b=true then k1+1 else k1
 s2:Skips row k2 k3
theorem Pre.scan{row:Chars}{i k1 k2 k3 st:Nat}{b:Bool}(R:Pre row i k1 k2 k3 b){x:Scan}(W:Wt x st):∃y:Scan,y.out=x.out/\y.st=st/\y.light=b/\Lo.scan i x (row.drop i)=Lo.scan k3 (beg y .string) (row.drop k3):=by
 have e1:=R.s1.scan (x:=x) (.inr (.inr (.inl W.ph)));have hk:=R.kk;cases hb:b with
 |true=>
  rw[hb]at hk;have ht:row[k1]? =some TILDE:=of_decide_eq_true (by rw[<-R.b1,hb]);have hk:k2=k1+1:=hk;have s2:=R.s2;rw[hk]at s2;refine⟨{x with phase:=.wantString,light:=true},rfl,W.st,rfl,?_⟩;have hw:Wants Phase.wantString .string:=.inr (.inr (.inl ⟨rfl,rfl⟩));rw[e1,IU W.ph ht,s2.scan (x:={x with phase:=.wantString,light:=true}) (.inr (.inr (.inr (.inl rfl)))),Cd (x:={x with phase:=.wantString,light:=true}) hw s2.stop (fun z=>Phase.noConfusion z)]
 |false=>
  rw[hb]at hk;have ht:row[k1]? ≠some TILDE:=of_decide_eq_false (by rw[<-R.b1,hb]);have hk:k2=k1:=hk;have s2:=R.s2;rw[hk]at s2;have h3:=s2.same R.s1.stop;subst h3;have hw:Wants x.phase .string:=.inr (.inl ⟨W.ph,rfl⟩);refine⟨x,rfl,W.st,W.li,?_⟩;rw[e1,Cd hw R.s1.stop (fun _=>ht)]
theorem Ml{row:Chars}{i k1 k2 k3 st j:Nat}{b:Bool}(R:Pre row i k1 k2 k3 b)(N:SNo row k3 j):WNo row i j st:=fun x W=>by
 obtain⟨y,h1,_,_,e⟩:=R.scan W;rw[e,N (beg y .string) ⟨.inr (.inl rfl),rfl,rfl⟩];show(y.out,_)=_;rw[h1]
theorem D4{row:Chars}{i k1 k2 k3 st j k4:Nat}{b:Bool}{s:Chars}(R:Pre row i k1 k2 k3 b)(G:SGot row k3 j s)(S:Skips row j k4){x:Scan}(W:Wt x st):
  ∃z:Scan,z.phase= .done/\z.out=x.out/\z.st=st/\z.light=b/\z.s=s/\z.last=j - 1/\Lo.scan i x (row.drop i)=Lo.scan k4 z (row.drop k4):=by
 obtain⟨y,h1,h2,h3,e⟩:=R.scan W;obtain⟨q,hq,e2⟩:=G.scan (beg y .string) ⟨.inr (.inl rfl),rfl,rfl⟩;have e3:=Li (z:=put (beg y .string) s (j - 1) q) rfl G.ne hq G.ends;refine⟨{put (beg y .string) s (j - 1) q with quote:=.out,phase:=.done,s:=s},rfl,h1,h2,h3,rfl,rfl,?_⟩;rw[e,e2,e3];exact S.scan (x:={put (beg y .string) s (j - 1) q with quote:=.out,phase:=.done,s:=s}) (.inr (.inr (.inr (.inr (.inl rfl)))))
theorem K7{row:Chars}{i k1 k2 k3 st j k4:Nat}{b:Bool}{s:Chars}(R:Pre row i k1 k2 k3 b)(G:SGot row k3 j s)(S:Skips row j k4)(hs:row[k4]? ≠some SLASH):WGot row i k4 st ⟨s,st,b,[]⟩ (j - 1):=fun x W=>by
 obtain⟨z,h1,h2,h3,h4,h5,h6,e⟩:=D4 R G S W;refine⟨ruled z [],rfl,?_,?_⟩
 .show z.out++[.rule ⟨z.s,z.st,z.light,[]⟩ z.last]=_;rw[h2,h3,h4,h5,h6]
 .rw[e,IJ h1 S.stop hs]
theorem KZ{row:Chars}{i k1 k2 k3 st j k4 k5 j2:Nat}{b:Bool}{s:Chars}(R:Pre row i k1 k2 k3 b)(G:SGot row k3 j s)(S:Skips row j k4)(hs:row[k4]? =some SLASH)(S2:Skips row (k4+1) k5)(N:SNo row k5 j2):WNo row i j2 st:=fun x W=>by
 obtain⟨z,h1,h2,h3,h4,h5,h6,e⟩:=D4 R G S W;have hw:Wants Phase.slash .asString:=.inr (.inr (.inr ⟨rfl,rfl⟩));rw[e,EU h1 hs,S2.scan (x:={z with phase:=.slash}) (.inr (.inr (.inr (.inr (.inr rfl))))),Cd (x:={z with phase:=.slash}) hw S2.stop (fun z=>Phase.noConfusion z),N _ (Jd {z with phase:=.slash} hw)];show(z.out,_)=_;rw[h2]
theorem JX{row:Chars}{i k1 k2 k3 st j k4 k5 j2:Nat}{b:Bool}{s s2:Chars}(R:Pre row i k1 k2 k3 b)(G:SGot row k3 j s)(S:Skips row j k4)(hs:row[k4]? =some SLASH)(S2:Skips row (k4+1) k5)(G2:SGot row k5 j2 s2):WGot row i j2 st ⟨s,st,b,s2⟩ (j2 - 1):=fun x W=>by
 obtain⟨z,h1,h2,h3,h4,h5,h6,e⟩:=D4 R G S W;have hw:Wants Phase.slash .asString:=.inr (.inr (.inr ⟨rfl,rfl⟩));obtain⟨q,hq,e2⟩:=G2.scan (beg {z with phase:=.slash} .asString) ⟨.inr (.inr rfl),rfl,rfl⟩;have e3:=NF (z:=put (beg {z with phase:=.slash} .asString) s2 (j2 - 1) q) rfl G2.ne hq G2.ends;refine⟨ruled {put (beg {z with phase:=.slash} .asString) s2 (j2 - 1) q with quote:=.out} s2,rfl,?_,?_⟩
 .show z.out++[.rule ⟨z.s,z.st,z.light,s2⟩ (j2 - 1)]=_;rw[h2,h3,h4,h5]
 .rw[e,EU h1 hs,S2.scan (x:={z with phase:=.slash}) (.inr (.inr (.inr (.inr (.inr rfl))))),Cd (x:={z with phase:=.slash}) hw S2.stop (fun z=>Phase.noConfusion z),e2,e3]
def SgGot(row:Chars)(i j st:Nat):Prop:=∀x:Scan,x.phase= .ready->∃y,Wt y st/\y.out=x.out/\Lo.scan i x (row.drop i)=Lo.scan j y (row.drop j)
theorem Mg{row:Chars}{i:Nat}(h:row[i]? =some EQUAL):SgGot row i (i+1) 4:=fun x hx=>⟨{x with phase:=.want,st:=4,light:=false},⟨rfl,rfl,rfl⟩,rfl,Il hx h⟩
structure Less (row:Chars) (i n:Nat):Prop where
 le:n<=3
 upto:i+n<=row.length
 scan:0<n->∀x:Scan,x.phase= .ready->Lo.scan i x (row.drop i)=Lo.scan (i+n) {x with phase:=.sign n,st:=n,light:=false} (row.drop (i+n))
theorem Less.zero{row:Chars}{i:Nat}(h:i<=row.length):Less row i 0:=⟨by omega,h,fun h=>absurd h (lt_irrefl _)⟩
theorem Less.succ{row:Chars}{i n:Nat}(L:Less row i n)(hn:n<3)(h:row[i+n]? =some LESS):Less row i (n+1):=by
 refine⟨hn,Bm h,fun _ x hx=>?_⟩;cases n with
 |zero=>
  rw[Nat.add_zero]at h;exact IS hx h
 |succ n=>
  rw[L.scan (succ_pos _) x hx];exact Kt (x:={x with phase:=.sign (n+1),st:=n+1,light:=false}) rfl hn h
theorem Less.got{row:Chars}{i n:Nat}(L:Less row i n)(h0:0<n)(h:¬n<3\/row[i+n]? ≠some LESS):SgGot row i (i+n) n:=fun x hx=>
 ⟨{x with phase:=.want,st:=n,light:=false},⟨rfl,rfl,rfl⟩,rfl,by
  rw[L.scan h0 x hx];exact KA (x:={x with phase:=.sign n,st:=n,light:=false}) rfl h⟩
def RNo(row:Chars)(i j:Nat):Prop:=∀x:Scan,x.phase= .ready->Lo.scan i x (row.drop i)=(x.out,some j)
def RGot(row:Chars)(i j:Nat)(c:Cmd):Prop:=∀x:Scan,x.phase= .ready->∃x':Scan,x'.phase= .ready/\x'.out=x.out++[c]/\Lo.scan i x (row.drop i)=Lo.scan j x' (row.drop j)
theorem HZ{row:Chars}{i j:Nat}(h:row[i]? =some AMP)(N:ANo row (i+1) j):RNo row i j:=fun x hx=>by
 rw[Gi hx h,N {x with phase:=.amp} rfl]
theorem Gv{row:Chars}{i j:Nat}{s:Chars}(h:row[i]? =some AMP)(G:AGot row (i+1) j s):RGot row i j (.behind s (j - 1)):=fun x hx=>by
 obtain⟨x',h1,h2,h3⟩:=G {x with phase:=.amp} rfl;exact⟨x',h1,h2,by rw[Gi hx h,h3]⟩
theorem G8{row:Chars}{i k j st:Nat}(G:SgGot row i k st)(N:WNo row k j st):RNo row i j:=fun x hx=>by
 obtain⟨y,h1,h2,e⟩:=G x hx;rw[e,N y h1,h2]
theorem FG{row:Chars}{i k j st p:Nat}{e:Entry}(G:SgGot row i k st)(W:WGot row k j st e p):RGot row i j (.rule e p):=fun x hx=>by
 obtain⟨y,h1,h2,e⟩:=G x hx;obtain⟨x',h3,h4,e2⟩:=W y h1;exact⟨x',h3,by rw[h4,h2],by rw[e,e2]⟩
structure Rs (row:Chars) (i:Nat) (cmds:List Cmd):Prop where
 upto:i<=row.length
 stop:∀c,row[i]? =some c->isBlank c=false
 scan:∃x:Scan,x.phase= .ready/\x.out=cmds/\Lo.scan 0 Lo.start row=Lo.scan i x (row.drop i)
theorem Rs.start{row:Chars}{i:Nat}(S:Skips row 0 i):Rs row i []:=⟨S.upto,S.stop,Lo.start,rfl,rfl,by
 have:=S.scan (x:=Lo.start) (.inl rfl);rw[drop_zero]at this;exact this⟩
theorem Rs.got{row:Chars}{i j k:Nat}{cmds:List Cmd}{c:Cmd}(R:Rs row i cmds)(G:RGot row i j c)(S:Skips row j k):Rs row k (cmds++[c]):=by
 obtain⟨x,h1,h2,e⟩:=R.scan;obtain⟨x',h3,h4,e2⟩:=G x h1;exact⟨S.upto,S.stop,x',h3,by rw[h4,h2],by rw[e,e2,S.scan (.inl h3)]⟩
theorem Rs.no{row:Chars}{i j:Nat}{cmds:List Cmd}(R:Rs row i cmds)(N:RNo row i j):Lo.scan 0 Lo.start row=(cmds,some j):=by
 obtain⟨x,h1,h2,e⟩:=R.scan;rw[e,N x h1,h2]
theorem Rs.done{row:Chars}{i:Nat}{cmds:List Cmd}(R:Rs row i cmds)(h:row.length<=i):Lo.scan 0 Lo.start row=(cmds,none):=by
 obtain⟨x,h1,h2,e⟩:=R.scan;rw[e,Ka h1 (List.getElem?_eq_none_iff.mpr h),h2]
def CmdOk:Cmd->Prop
 | .behind s _=>s≠[]/\s.length<=4
 | .rule e _=>e.s≠[]/\e.s.length<=4/\e.as_.length<=4/\1<=e.st/\e.st<=4/\e.s.all isChar=true/\e.as_.all isChar=true
def sts(es:Order):List Chars:=es.map fun(e:Entry)=>e.s
structure OInv (es:Order):Prop where
 len:es.length<=1024
 nd:(sts es).Nodup
 each:∀e∈es,e.s≠[]/\e.s.length<=4/\e.as_.length<=4/\e.st<=4
theorem OInv.nil:OInv []:=⟨zero_le _,List.nodup_nil,fun e h=>by cases h⟩
def AtOk(es:Order)(a:Option Chars):Prop:=(a=none->es=[])/\∀x,a=some x->(plc es x).isSome=true
theorem Gq{es:Order}{x:Chars}:(plc es x).isSome=true↔x∈sts es:=by
 constructor
 .intro h;obtain⟨i,hi⟩:=isSome_iff_exists.mp h;obtain⟨e,h1,h2⟩:=Do hi;exact mem_map.mpr ⟨e,mem_of_getElem? h1,h2⟩
 .intro h;cases hp:plc es x with
  |some _=>rfl
  |none=>
   obtain⟨e,he,hx⟩:=mem_map.mp h;unfold plc at hp;rw[List.findIdx?_eq_none_iff]at hp;have:=hp e he;rw[show e.s=x from hx,beq_self_eq_true]at this;cases this
theorem Kb(es:Order):AtOk es (lastOf es):=by
 constructor
 .intro h;unfold lastOf at h;rw[Option.map_eq_none_iff,List.getLast?_eq_none_iff]at h;exact h
 .intro x h;unfold lastOf at h;obtain⟨e,he,hx⟩:=map_eq_some_iff.mp h;exact Gq.mpr (mem_map.mpr ⟨e,List.mem_of_getLast? he,hx⟩)
theorem EA(e:Entry)(o:Order):(before e o).Perm (e::o):=by
 unfold before;show(o.takeWhile _++e::o.drop (o.takeWhile _).length).Perm _
 have h:o.takeWhile (fun(f:Entry)=>decide (e.st<f.st))++o.drop (o.takeWhile (fun(f:Entry)=>decide (e.st<f.st))).length=o:=by
  have:∀o:Order,o.takeWhile (fun(f:Entry)=>decide (e.st<f.st))=o.take (o.takeWhile (fun(f:Entry)=>decide (e.st<f.st))).length:=by
   intro o
   induction o with
   |nil=>rfl
   |cons f q ih=>
    rw[takeWhile_cons];split
    .rw[length_cons,List.take_succ_cons,<-ih]
    .rfl
  conv=>lhs;lhs;rw[this o]
  exact List.take_append_drop _ _
 refine(List.perm_middle).trans ?_;rw[h]
theorem CQ(e:Entry)(a:Option Chars)(o:Order):(behind e a o).Perm (e::o):=by
 unfold behind;cases a with
 |none=>exact EA e o
 |some x=>
  show(o.take (indexOf o x+1)++before e (o.drop (indexOf o x+1))).Perm _;refine((List.Perm.refl _).append (EA e _)).trans ?_;refine List.perm_middle.trans ?_;rw[List.take_append_drop]
theorem Ex:∀(es:Order)(x:Chars),(sts (without x es)).Sublist (sts es)
 |[],_=>Sublist.refl _
 |e::es,x=>by
  unfold without;by_cases h:e.s=x
  .rw[if_pos h];cases es with
   |nil=>exact Sublist.cons _ (Sublist.refl _)
   |cons f q=>exact Sublist.cons _ (Sublist.refl _)
  .rw[if_neg h];exact Sublist.cons_cons _ (Ex es x)
theorem ED:∀{es:Order}{x:Chars},(sts es).Nodup->x∉sts (without x es)
 |[],_,_=>by intro h;cases h
 |e::es,x,hn=>by
  obtain⟨h1,h2⟩:=nodup_cons.mp hn;unfold without;by_cases h:e.s=x
  .rw[if_pos h];have h1:x∉sts es:=by rw[<-h];exact h1
   cases es with
   |nil=>intro h;cases h
   |cons f q=>exact h1
  .rw[if_neg h];intro hm;rcases mem_cons.mp hm with z|z
   .exact h z.symm
   .exact ED h2 z
theorem DB{p:Chars->Chars->Prop}:∀{es:Order}{x:Chars},(∀e∈es,p e.s e.as_/\e.st<=4)->∀e∈without x es,p e.s e.as_/\e.st<=4
 |[],_,_=>by intro e h;cases h
 |e0::es,x,h=>by
  unfold without;by_cases hx:e0.s=x
  .rw[if_pos hx];cases es with
   |nil=>intro e h;cases h
   |cons f q=>
    intro e he;rcases mem_cons.mp he with z|z
    .rw[z];have hf:=h f (mem_cons_of_mem _ mem_cons_self);refine⟨hf.1,?_⟩;show min e0.st f.st<=4;have:=hf.2;omega
    .exact h e (mem_cons_of_mem _ (mem_cons_of_mem _ z))
  .rw[if_neg hx];intro e he;rcases mem_cons.mp he with z|z
   .rw[z];exact h e0 mem_cons_self
   .exact DB (fun e he=>h e (mem_cons_of_mem _ he)) e z
theorem E4{es:Order}{x:Chars}:(without x es).length+(if(plc es x).isSome=true then 1 else 0)=es.length:=by
 cases hp:plc es x with
 |none=>rw[Dt hp];rfl
 |some i=>
  obtain⟨e,he,_⟩:=Do hp;have hi:=C1 hp;rw[Dn hp he];unfold outOf;show _+1=_
  have hl:(es.eraseIdx i).length+1=es.length:=by
   rw[List.length_eraseIdx,if_pos hi];omega
  cases(es.eraseIdx i)[i]? with
  |none=>exact hl
  |some f=>show((es.eraseIdx i).set i _).length+1=_;rw[length_set];exact hl
def fk(es:Order)(a:Option Chars)(c:Cmd):Int:=match follow es a c with
 | .ok _=>0
 | .error k=>k
theorem IB(es:Order)(a:Option Chars)(x:Chars)(p:Nat):follow es a (.behind x p)=if(find es x).isSome=true then .ok (es,some x) else .error (-4):=rfl
theorem DN(es:Order)(a:Option Chars)(e:Entry)(p:Nat):follow es a (.rule e p)=if a=some e.s then .error (-6) else if ENTRIES<(behind e a (without e.s es)).length then .error (-5) else .ok (behind e a (without e.s es),some e.s):=rfl
theorem FW(es:Order)(a:Option Chars)(x:Chars)(p:Nat):fk es a (.behind x p)=if(plc es x).isSome=true then 0 else -4:=by
 unfold fk;rw[<-CN,IB];by_cases h:(find es x).isSome=true
 .rw[if_pos h,if_pos h]
 .rw[if_neg h,if_neg h]
theorem FY{es:Order}{e:Entry}{p:Nat}{a:Option Chars}(h:a=some e.s):fk es a (.rule e p)= -6:=by
 unfold fk;rw[DN,if_pos h]
theorem FI(e:Entry)(a:Option Chars)(o:Order):(behind e a o).length=o.length+1:=(CQ e a o).length_eq
theorem MO{es:Order}{e:Entry}{p:Nat}{a:Option Chars}(h:a≠some e.s)(hl:es.length<=1024):fk es a (.rule e p)=if(decide (es.length<1024) || (plc es e.s).isSome)=true then 0 else -5:=by
 unfold fk;rw[DN,if_neg h,FI];have hw:=E4 (es:=es) (x:=e.s);by_cases hp:(plc es e.s).isSome=true
 .rw[if_pos hp]at hw;rw[hp,Bool.or_true,if_pos rfl,if_neg (by unfold ENTRIES;omega)]
 .rw[if_neg hp]at hw;have hp':(plc es e.s).isSome=false:=by cases h:(plc es e.s).isSome;rfl;exact absurd h hp
  rw[hp',Bool.or_false];by_cases hlt:es.length<1024
  .rw[decide_eq_true hlt,if_pos rfl,if_neg (by unfold ENTRIES;omega)]
  .rw[decide_eq_false hlt,if_neg Bool.false_ne_true,if_pos (by unfold ENTRIES;omega)]
theorem FJ{es:Order}{a:Option Chars}{x:Chars}{p:Nat}(h:(plc es x).isSome=true):follow es a (.behind x p)= .ok (es,some x):=by
 rw[IB,if_pos (by rw[CN];exact h)]
theorem D5{es:Order}{e:Entry}{p:Nat}{a:Option Chars}(h:fk es a (.rule e p)=0):a≠some e.s/\¬ENTRIES<(behind e a (without e.s es)).length:=by
 have hn:a≠some e.s:=fun z=>by rw[FY z]at h;cases h
 refine⟨hn,fun hl=>?_⟩;unfold fk at h;rw[DN,if_neg hn,if_pos hl]at h;cases h
theorem Ib{es:Order}{e:Entry}{p:Nat}{a:Option Chars}(h:fk es a (.rule e p)=0):follow es a (.rule e p)= .ok (behind e a (without e.s es),some e.s):=by
 obtain⟨h1,h2⟩:=D5 h;rw[DN,if_neg h1,if_neg h2]
theorem Lj{es:Order}{e:Entry}{p:Nat}{a:Option Chars}(h:fk es a (.rule e p)=0):(behind e a (without e.s es)).length<=1024:=by
 have:=(D5 h).2;unfold ENTRIES at this;omega
theorem OInv.rule{es:Order}{e:Entry}{p:Nat}{a:Option Chars}(I:OInv es)(C:CmdOk (.rule e p))(h:fk es a (.rule e p)=0):OInv (behind e a (without e.s es)):=by
 have hp:=CQ e a (without e.s es);obtain⟨c1,c2,c3,c4,c5,c6,c7⟩:=C;refine⟨Lj h,?_,fun f hf=>?_⟩
 .have:(sts (behind e a (without e.s es))).Perm (e.s::sts (without e.s es)):=hp.map _;rw[this.nodup_iff];exact nodup_cons.mpr ⟨ED I.nd,I.nd.sublist (Ex es e.s)⟩
 .rcases mem_cons.mp (hp.mem_iff.mp hf)with z|z
  .rw[z];exact⟨c1,c2,c3,c5⟩
  .have:=DB (p:=fun s as_=>s≠[]/\s.length<=4/\as_.length<=4) (fun e he=>⟨⟨(I.each e he).1,(I.each e he).2.1,(I.each e he).2.2.1⟩,(I.each e he).2.2.2⟩) f z;exact⟨this.1.1,this.1.2.1,this.1.2.2,this.2⟩
theorem AtOk.rule{es:Order}{e:Entry}{a:Option Chars}:AtOk (behind e a (without e.s es)) (some e.s):=by
 refine⟨fun h=>(by cases h),fun x hx=>?_⟩;cases hx;exact Gq.mpr (mem_map.mpr ⟨e,(CQ e a _).mem_iff.mpr mem_cons_self,rfl⟩)
theorem DA{es p:Order}{a b:Option Chars}{c:Cmd}{r:List Cmd}(h:follow es a c= .ok (p,b)):followAll es a (c::r)=followAll p b r:=by
 show(match follow es a c with | .ok x=>followAll x.1 x.2 r | .error k=>.error (k,c.place))=_;rw[h]
theorem FF{es:Order}{a:Option Chars}{c:Cmd}{r:List Cmd}(h:fk es a c≠0):followAll es a (c::r)= .error (fk es a c,c.place):=by
 show(match follow es a c with | .ok x=>followAll x.1 x.2 r | .error k=>.error (k,c.place))=_;unfold fk at h⊢;cases hf:follow es a c with
 |ok x=>rw[hf]at h;exact absurd rfl h
 |error k=>rfl
end LM
namespace LP
open PySem PySem.Spec PyProof.Rows L2
theorem fsc{N ps:List Str}{sc:Scope}(h:sc.kind= .function/\sc.isCoroutine=false/\sc.isGenerator=false/\N.Nodup/\N.take ps.length=ps/\(∀x∈ps,sc.names.lookup x=some .local\/sc.names.lookup x=some .cell)/\∀y∈sc.names,y.2≠ .free:=by decide+kernel):FnScope N ps sc:=⟨h.1,h.2.1,h.2.2.1,h.2.2.2.1,h.2.2.2.2.1,h.2.2.2.2.2.1,h.2.2.2.2.2.2⟩
def top(i:Nat):Stmt:=PySem.Challenge.pw_lookuporder_s01_answers.main.body.getD i (.Pass ⟨0,0,0,0⟩)
def nv(l:List Nat):List V:=l.map fun(n:Nat)=>V.int (n:Int)
theorem Aq(l:List Nat):(nv l).length=l.length:=length_map ..
theorem Dz{l:List Nat}{i c:Nat}(h:l[i]? =some c):(nv l)[i]? =some (V.int (c:Int)):=by
 unfold nv;rw[getElem?_map,h];rfl
theorem BO{l:List Nat}{i:Nat}{v:V}(h:(nv l)[i]? =some v):∃c,l[i]? =some c/\v=V.int (c:Int):=by
 unfold nv at h;rw[getElem?_map]at h;cases e:l[i]? with
 |none=>rw[e]at h;cases h
 |some c=>rw[e]at h;exact⟨c,rfl,(Option.some.inj h).symm⟩
theorem Bi(a b:List Nat):nv (a++b)=nv a++nv b:=map_append ..
theorem L4:∀{a b:List Nat},nv a=nv b->a=b
 |[],[],_=>rfl
 |[],y::b,h=>by have:=congrArg List.length h;simp[nv]at this
 |x::a,[],h=>by have:=congrArg List.length h;simp[nv]at this
 |x::a,y::b,h=>by
  have h:V.int (x:Int)::nv a=V.int (y:Int)::nv b:=h;injection h with h1 h2
  injection h1 with h1
  rw[L4 h2,Int.ofNat.inj h1]
structure Df (K:Frag) (mg:Str->Option Value) (x:Str) (st:Stmt) (ps:List Str):Prop where
 ex:∃f fd,mg x=some (.ref f)/\Fun K x x st f fd/\Binds K fd ps []
structure Md (K:Frag) (C:Addr) (m qual:Str) (st:Stmt) (ps:List Str):Prop where
 ex:∃f fd,Meth K C m f/\Fun K m qual st f fd/\Binds K fd ps []
structure Id (K:Frag) (C:Addr) (qual:Str) (st:Stmt) (ps:List Str):Prop where
 ex:∃f fd,Mk K C f/\Fun K "__init__" qual st f fd/\Binds K fd ps []
structure Ok (P:Program) (w:World) (K:Frag) (mg:Str->Option Value) (base:Heap) (k:Nat) (x:Str) (ps:List Str) (sp:Sp):Prop where
 ex:∃f fd,mg x=some (.ref f)/\PySem.W.keepIn K (.ref f)=true/\Binds K fd ps []/\FnOk P w K mg base CX0 k f fd ps sp
structure MOk (P:Program) (w:World) (K:Frag) (mg:Str->Option Value) (base:Heap) (k:Nat) (C:Addr) (m:Str) (ps:List Str) (sp:Sp):Prop where
 ex:∃f fd,Meth K C m f/\Binds K fd ps []/\FnOk P w K mg base CX0 k f fd ps sp
structure IOk (P:Program) (w:World) (K:Frag) (mg:Str->Option Value) (base:Heap) (k:Nat) (C:Addr) (ps:List Str) (sp:Sp):Prop where
 ex:∃f fd,Mk K C f/\Binds K fd ps []/\FnOk P w K mg base CX0 k f fd ps sp
variable{P:Program}{w:World}{K:Frag}{mg:Str->Option Value}{base:Heap}
theorem Ok.mono{x:Str}{ps:List Str}{sp:Sp}{j k:Nat}(o:Ok P w K mg base j x ps sp)(h:j<=k:=by decide):Ok P w K mg base k x ps sp:=by
 obtain⟨f,fd,h1,h2,h3,h4⟩:=o.ex;exact⟨f,fd,h1,h2,h3,h4.mono h⟩
theorem Df.ok{x:Str}{st:Stmt}{N ps:List Str}{k:Nat}{sp:Sp}(D:Df K mg x st ps)(S:FnScope N ps (defScope st))(len:∀vs H Q E,sp vs H Q E->vs.length=ps.length)
  (hbody:∀(f:Addr)(cdv:Value)(A:Around)(outer:List Env)(s:Shared)(H:Hp)(vs:List V)(Q:VK)(E:XK),Room k (A.deeper (envOfC x (defScope st) s.heap.objs.size f cdv))->sp vs H Q E->
   ∃t,PSs (cxOf CX0 P w K mg base N x (defScope st) f cdv A outer s H E).nox (defBody st) t/\t {nx:=fun _ H'=>Q .non H',rt:=Q} (start N vs) H):Ok P w K mg base (k+1) x ps sp:=by
 obtain⟨f,fd,h1,h2,h3⟩:=D.ex;exact⟨f,fd,h1,h2.kp,h3,h2.ok S len (hbody f)⟩
theorem Md.ok{C:Addr}{m qual:Str}{st:Stmt}{N ps:List Str}{k:Nat}{sp:Sp}(D:Md K C m qual st ps)(S:FnScope N ps (defScope st))(len:∀vs H Q E,sp vs H Q E->vs.length=ps.length)
  (hbody:∀(f:Addr)(cdv:Value)(A:Around)(outer:List Env)(s:Shared)(H:Hp)(vs:List V)(Q:VK)(E:XK),Room k (A.deeper (envOfC qual (defScope st) s.heap.objs.size f cdv))->sp vs H Q E->
   ∃t,PSs (cxOf CX0 P w K mg base N qual (defScope st) f cdv A outer s H E).nox (defBody st) t/\t {nx:=fun _ H'=>Q .non H',rt:=Q} (start N vs) H):MOk P w K mg base (k+1) C m ps sp:=by
 obtain⟨f,fd,h1,h2,h3⟩:=D.ex;exact⟨f,fd,h1,h3,h2.ok S len (hbody f)⟩
theorem Id.ok{C:Addr}{qual:Str}{st:Stmt}{N ps:List Str}{k:Nat}{sp:Sp}(D:Id K C qual st ps)(S:FnScope N ps (defScope st))(len:∀vs H Q E,sp vs H Q E->vs.length=ps.length)
  (hbody:∀(f:Addr)(cdv:Value)(A:Around)(outer:List Env)(s:Shared)(H:Hp)(vs:List V)(Q:VK)(E:XK),Room k (A.deeper (envOfC qual (defScope st) s.heap.objs.size f cdv))->sp vs H Q E->
   ∃t,PSs (cxOf CX0 P w K mg base N qual (defScope st) f cdv A outer s H E).nox (defBody st) t/\t {nx:=fun _ H'=>Q .non H',rt:=Q} (start N vs) H):IOk P w K mg base (k+1) C ps sp:=by
 obtain⟨f,fd,h1,h2,h3⟩:=D.ex;exact⟨f,fd,h1,h3,h2.ok S len (hbody f)⟩
section
variable{X:Cx}{k:Nat}{C:Addr}{ps:List Str}{sp:Sp}{x m:Str}{p pos apos:Pos}{e o:Expr}{es:List Expr}{ta:TE}{t:TA}
theorem pc(O:Ok X.prog X.w X.K X.mg X.base k x ps sp)(hr:Room k X.A)(ha:PA X (e::es) t)(hg:Gl X x:=by rfl)
  (hdb:(x==("__debug__":Str))=false:=by decide) (he:starEach (e::es) X.env=(false,eval e X.env)::starEach es X.env:=by rfl) (hpl:(backTo pos (starEach es X.env)).any (·.1)=false:=by rfl):
  PE X (.Call (.Name x p) (e::es) [] pos) (tCall sp [] E0 t):=by
 obtain⟨f,fd,h1,h2,h3,h4⟩:=O.ex;exact MI h4 hr hg h1 h2 h3 .nil pass0 ha hdb he hpl
theorem pm{pl:Sem Bool}(O:MOk X.prog X.w X.K X.mg X.base k C m ps sp)(c:Cls X.K C)(hr:Room k X.A)(he:PE X o ta)(ha:PA X (e::es) t)
  (hst:starEach (e::es) X.env=(false,eval e X.env)::starEach es X.env:=by rfl) (hpl:(backTo pos (starEach es X.env)).any (·.1)=false:=by rfl)
  (ht:eval (.Call (.Attribute o m apos) (e::es) [] pos) X.env=(do
   let ov<-eval o X.env
   standAt apos.atName
   let (f,first)<-holding [ov] (getMethod ov m pl)
   callWith pos f first (backTo pos (starEach (e::es) X.env)) (backToKw pos (keywordEach [] X.env))):=by rfl):
  PE X (.Call (.Attribute o m apos) (e::es) [] pos) (tMeth C m sp [] E0 ta t):=by
 obtain⟨f,fd,h1,h3,h4⟩:=O.ex;exact MW (pl:=pl) he c h1 h4 hr h3 .nil pass0 ha hst hpl ht
theorem pm0{pl:Sem Bool}(O:MOk X.prog X.w X.K X.mg X.base k C m ps sp)(c:Cls X.K C)(hr:Room k X.A)(he:PE X o ta)
  (ht:eval (.Call (.Attribute o m apos) [] [] pos) X.env=(do
   let ov<-eval o X.env
   standAt apos.atName
   let (f,first)<-holding [ov] (getMethod ov m pl)
   callWith pos f first (backTo pos (starEach [] X.env)) (backToKw pos (keywordEach [] X.env))):=by rfl):
  PE X (.Call (.Attribute o m apos) [] [] pos) (tMeth C m sp [] E0 ta tNil):=by
 obtain⟨f,fd,h1,h3,h4⟩:=O.ex;exact Me (pl:=pl) he c h1 h4 hr h3 .nil pass0 ht
theorem pmk(O:IOk X.prog X.w X.K X.mg X.base k C ps sp)(hr:Room (k+1) X.A)(hm:X.mg x=some (.ref C))(ha:PA X (e::es) t)(hg:Gl X x:=by rfl)
  (hdb:(x==("__debug__":Str))=false:=by decide) (he:starEach (e::es) X.env=(false,eval e X.env)::starEach es X.env:=by rfl) (hpl:(backTo pos (starEach es X.env)).any (·.1)=false:=by rfl):
  PE X (.Call (.Name x p) (e::es) [] pos) (tMake C sp [] E0 t):=by
 obtain⟨f,fd,h1,h3,h4⟩:=O.ex;exact MA h1 h4 hr hg hm h3 .nil pass0 ha hdb he hpl
theorem pmk0(O:IOk X.prog X.w X.K X.mg X.base k C ps sp)(hr:Room (k+1) X.A)(hm:X.mg x=some (.ref C))(hg:Gl X x:=by rfl)
  (hdb:(x==("__debug__":Str))=false:=by decide):
  PE X (.Call (.Name x p) [] [] pos) (tMake C sp [] E0 tNil):=by
 obtain⟨f,fd,h1,h3,h4⟩:=O.ex;exact LE h1 h4 hr hg hm h3 .nil pass0 hdb
end
def GInt(mg:Str->Option Value)(x:Str)(v:Int):Prop:=∃t,mg x=some (.int v t)
theorem pgi{X:Cx}{x:Str}{v:Int}{pos:Pos}(h:GInt X.mg x v)(hg:Gl X x:=by rfl)(hd:(x==("__debug__":Str))=false:=by decide):PE X (.Name x pos) (tC (.int v)):=by
 obtain⟨t,h⟩:=h;exact Js hg h ⟨t,rfl⟩ hd
def GTup(K:Frag)(mg:Str->Option Value)(x:Str)(xs:List V):Prop:=∃a,mg x=some (.ref a)/\∀H,SqT K H a xs
def tGT(K:Frag)(xs:List V):TE:=fun _ H Q=>∀a,SqT K H a xs->Q (.ref a) H
theorem pgt{X:Cx}{x:Str}{xs:List V}{pos:Pos}(h:GTup X.K X.mg x xs)(hg:Gl X x:=by rfl)(hd:(x==("__debug__":Str))=false:=by decide):PE X (.Name x pos) (tGT X.K xs):=by
 obtain⟨a,h,hs⟩:=h;intro pins s Z H Q I q;exact Js (v:=.ref a) hg h rfl hd pins s Z H Q I (q a (hs H))
theorem _root_.L2.Same.sqT{K:Frag}{H H':Hp}{a:Addr}{xs:List V}(e:Same H H')(h:SqT K H a xs):SqT K H' a xs:=by
 rcases h with (h|⟨o,h⟩)|h
 .exact .inl (.inl (e _ _ h))
 .exact .inl (.inr ⟨o,e _ _ h⟩)
 .exact .inr h
theorem ae{H:Hp}{p:Addr}{o:HO}(h:H p=none):Same H (aj H p o):=fun b u e=>by rw[Am (Ai e h)];exact e
end LP
namespace LP
open PySem PySem.Spec L2
def Ev(t:TE)(Z:St)(H:Hp)(v:V):Prop:=∀Q:VK,Q v H->t Z H Q
def EvT(t:TT)(Z:St)(H:Hp)(b:Bool):Prop:=∀Q:Bool->Hp->Prop,Q b H->t Z H Q
theorem Ah{i:Nat}{Z:St}{H:Hp}{v:V}(h:Z[i]? =some (some v)):Ev (tVar i) Z H v:=fun Q q=>⟨v,h,q⟩
theorem ev_c{v:V}{Z:St}{H:Hp}:Ev (tC v) Z H v:=fun Q q=>q
theorem AL{r:R2}{ta tb:TE}{Z:St}{H:Hp}{x y z:V}(ha:Ev ta Z H x)(hb:Ev tb Z H y)(hr:∀Q:VK,Q z H->r x y H Q):Ev (tOp r ta tb) Z H z:=fun Q q=>ha _ (hb _ (hr Q q))
theorem De{g:Int->Int->V}{ta tb:TE}{Z:St}{H:Hp}{i j:Int}(ha:Ev ta Z H (.int i))(hb:Ev tb Z H (.int j)):Ev (tOp (rI0 g) ta tb) Z H (g i j):=AL ha hb fun Q q=>⟨i,j,rfl,rfl,q⟩
theorem Ax{t:TE}{Z:St}{H:Hp}{b:Bool}(h:Ev t Z H (.bl b)):EvT (tTest t) Z H b:=fun Q q=>h _ ⟨b,rfl,q⟩
theorem Bs{t:TE}{Z:St}{H:Hp}{b:Bool}(h:Ev t Z H (.bl b)):EvT (tB t) Z H b:=fun Q q=>h _ ⟨b,rfl,q⟩
theorem DI{g g':Int->Int->Bool}{ta tb tc:TE}{Z:St}{H:Hp}{i j k:Int}(ha:Ev ta Z H (.int i))(hb:Ev tb Z H (.int j))(hc:Ev tc Z H (.int k)):
  Ev (tChain (rI0 fun i j=>.bl (g i j)) (rI0 fun i j=>.bl (g' i j)) ta tb tc) Z H (.bl (g i j&&g' j k)):=fun Q q=>
 ha _ (hb _ ⟨i,j,rfl,rfl,_,rfl,by
  cases e:g i j with
  |true=>
   rw[if_pos rfl];rw[e]at q;exact hc _ ⟨j,k,rfl,rfl,q⟩
  |false=>
   rw[if_neg Bool.false_ne_true];rw[e]at q;exact q⟩)
theorem Cy{ta tb:TE}{Z:St}{H:Hp}{a b:Bool}(ha:Ev ta Z H (.bl a))(hb:a=true->Ev tb Z H (.bl b)):Ev (tAndV ta tb) Z H (.bl (a&&b)):=fun Q q=>ha _ ⟨a,rfl,by
 cases a with
 |true=>rw[if_pos rfl];exact hb rfl Q q
 |false=>rw[if_neg Bool.false_ne_true];exact q⟩
theorem Ng{ta tb:TE}{Z:St}{H:Hp}{a b:Bool}(ha:Ev ta Z H (.bl a))(hb:a=false->Ev tb Z H (.bl b)):Ev (tOrV ta tb) Z H (.bl (a || b)):=fun Q q=>ha _ ⟨a,rfl,by
 cases a with
 |true=>rw[if_pos rfl];exact q
 |false=>rw[if_neg Bool.false_ne_true];exact hb rfl Q q⟩
theorem N7{ta:TE}{Z:St}{H:Hp}{a:Bool}(ha:Ev ta Z H (.bl a)):Ev (tNotV ta) Z H (.bl (!a)):=fun Q q=>ha _ ⟨a,rfl,q⟩
theorem BT{t:TT}{Z:St}{H:Hp}{a:Bool}(ha:EvT t Z H a):EvT (tNot t) Z H (!a):=fun Q q=>ha _ q
theorem By{t u:TT}{Z:St}{H:Hp}{a b:Bool}(ha:EvT t Z H a)(hb:a=true->EvT u Z H b):EvT (tAnd t u) Z H (a&&b):=fun Q q=>ha _ (by
 cases a with
 |true=>rw[if_pos rfl];exact hb rfl Q q
 |false=>rw[if_neg Bool.false_ne_true];exact q)
theorem IM{t u:TT}{Z:St}{H:Hp}{a b:Bool}(ha:EvT t Z H a)(hb:a=false->EvT u Z H b):EvT (tOr t u) Z H (a || b):=fun Q q=>ha _ (by
 cases a with
 |true=>rw[if_pos rfl];exact q
 |false=>rw[if_neg Bool.false_ne_true];exact hb rfl Q q)
theorem Az{K:Frag}{ta:TE}{f:Str}{Z:St}{H:Hp}{a C dx:Addr}{fs:List (Str×V)}{v:V}(ha:Ev ta Z H (.ref a))(h:H a=some (.ins C dx fs))(c:Cls K C)(n:NoAttr K C f)(l:fs.lookup f=some v):Ev (tFld K ta f) Z H v:=
 fun Q q=>ha _ ⟨a,C,dx,fs,v,rfl,h,c,n,l,q⟩
theorem CS{K:Frag}{ta tb:TE}{Z:St}{H:Hp}{p:Addr}{xs:List V}{i:Int}{v:V}(ha:Ev ta Z H (.ref p))(hb:Ev tb Z H (.int i))(h:SqT K H p xs)(l:atI xs i=some v):Ev (tOp (rIxT K) ta tb) Z H v:=
 AL ha hb fun Q q=>⟨p,xs,i,v,rfl,rfl,h,l,q⟩
theorem AK{K:Frag}{ta tb:TE}{Z:St}{H:Hp}{p:Addr}{xs:List V}{i:Int}{v:V}(ha:Ev ta Z H (.ref p))(hb:Ev tb Z H (.int i))(h:SqL K H p xs)(l:atI xs i=some v):Ev (tOp (rIxL K) ta tb) Z H v:=
 AL ha hb fun Q q=>⟨p,xs,i,v,rfl,rfl,h,l,q⟩
def blkChk(N:List Str)(sc scope:Scope)(own:List (Str×Nat)):Bool:=
 (match scope.kind with | .function=>true|_=>false)&&(scope.names.all fun y=>decide (scope.names.lookup y.1=some y.2))&&(own.all fun p=>decide (N[p.2]? =some p.1))&&
 (scope.names.all fun y=> !decide (y.2= .free) || decide (sc.names.lookup y.1=some .cell) || decide (sc.names.lookup y.1=some .free))&&
 (scope.names.all fun y=> !(decide (y.2= .local) || decide (y.2= .cell)) || decide (y.1∈own.map (·.1)) || !decide (y.1∈N))
theorem blk{N:List Str}{sc scope:Scope}{own:List (Str×Nat)}(h:blkChk N sc scope own=true):BlkOk N sc scope own:=by
 unfold blkChk at h;simp only[and_eq_true,all_eq_true,or_eq_true,decide_eq_true_eq,not_eq_true',decide_eq_false_iff_not,Bool.or_eq_false_iff]at h;obtain⟨⟨⟨⟨h1,h2⟩,h3⟩,h4⟩,h5⟩:=h;refine⟨?_,fun y hy=>h2 y hy,fun p hp=>h3 p hp,fun y hy e=>?_,fun y hy e=>?_⟩
 .revert h1;cases scope.kind<;>simp
 .rcases h4 y hy with (z|z)|z
  .exact absurd e z
  .exact .inl z
  .exact .inr z
 .rcases h5 y hy with (z|z)|z
  .exact absurd e (fun q=>q.elim z.1 z.2)
  .exact .inl z
  .exact .inr z
theorem Ci{K:Frag}{a:Addr}{xs:List V}{g:TG}{tt:TT}{te:TE}{vs:List Nat}{Z:St}{Q:Hp->Prop}{H1:Hp}{D:Addr}(Pv:Nat->Hp->Prop)(h0:Pv 0 (aj H1 D (.lst [])))
  (hl:∀i H,i<=xs.length->Pv i H->SqL K H a xs)
  (hs:∀i x H,xs[i]? =some x->Pv i H->g x (wipe Z vs) H fun Z2 H2=>wipe Z2 vs=wipe Z vs/\tt Z2 H2 fun b H3=>if b=true then te Z2 H3 fun y H4=>∃acc,H4 D=some (.lst acc)/\acc.length<sizeLine/\Pv (i+1) (aj H4 D (.lst (acc++[y]))) else Pv (i+1) H3)
  (hd:∀H,Pv xs.length H->Q H):
  ∃W:Nat->Nat->Hp->Prop,(∃m,W 0 m (aj H1 D (.lst [])))/\∀i m H,W i m H->
   ((Itl K a).stop i H/\Q H)\/((Itl K a).go i H/\∃Nx:Hp->Prop,(∀H',Nx H'->∃m',m'<m/\W (i+1) m' H')/\∀x H',(Itl K a).yld i H x H'->g x (wipe Z vs) H' fun Z2 H2=>wipe Z2 vs=wipe Z vs/\tt Z2 H2 fun b H3=>
    if b=true then te Z2 H3 fun y H4=>∃acc,H4 D=some (.lst acc)/\acc.length<sizeLine/\Nx (aj H4 D (.lst (acc++[y]))) else Nx H3):=by
 refine⟨fun i m H=>m=xs.length - i/\i<=xs.length/\Pv i H,⟨xs.length,by simp,zero_le _,h0⟩,?_⟩;rintro i m H ⟨rfl,hi,p⟩;have q:=hl i H hi p;by_cases hlt:i<xs.length
 .refine .inr ⟨⟨xs,xs[i],q,by simp[hlt]⟩,Pv (i+1),fun H' p'=>⟨xs.length - (i+1),by omega,rfl,hlt,p'⟩,fun x H' y=>?_⟩;obtain⟨e,y⟩:=y;subst e;exact hs i x _ (y xs q) p
 .have e:i=xs.length:=by omega
  subst e;exact .inl ⟨⟨xs,q,le_refl _⟩,hd H p⟩
theorem Dj{K:Frag}{a:Addr}{xs ys:List V}{te:TE}(v:Nat){Z:St}{Q:Hp->Prop}{H1:Hp}{D:Addr}(hD:H1 D=none)(ha:SqL K H1 a xs)(hlen:ys.length=xs.length)(hz:xs.length<=sizeLine)
  (hs:∀(i:Nat)(x y:V)(H:Hp),xs[i]? =some x->ys[i]? =some y->Same H1 H->∀R:VK,(∀H',Same H H'->R y H')->te ((wipe Z [v]).set v (some x)) H R)
  (hd:∀H,Same H1 H->H D=some (.lst ys)->Q H):
  ∃W:Nat->Nat->Hp->Prop,(∃m,W 0 m (aj H1 D (.lst [])))/\∀i m H,W i m H->
   ((Itl K a).stop i H/\Q H)\/((Itl K a).go i H/\∃Nx:Hp->Prop,(∀H',Nx H'->∃m',m'<m/\W (i+1) m' H')/\∀x H',(Itl K a).yld i H x H'->gName v x (wipe Z [v]) H' fun Z2 H2=>wipe Z2 [v]=wipe Z [v]/\tYes Z2 H2 fun b H3=>
    if b=true then te Z2 H3 fun y H4=>∃acc,H4 D=some (.lst acc)/\acc.length<sizeLine/\Nx (aj H4 D (.lst (acc++[y]))) else Nx H3):=by
 refine Ci (Pv:=fun i H=>Same H1 H/\H D=some (.lst (ys.take i))) ⟨ae hD,Ae⟩ (fun i H _ p=>p.1.seq ha) (fun i x H hx p=>?_) fun H p=>hd H p.1 (by rw[p.2,<-hlen,take_length]);have hi:i<ys.length:=by rw[hlen];exact(List.getElem?_eq_some_iff.mp hx).1
 refine⟨?_,hs i x ys[i] H hx (getElem?_eq_getElem hi) p.1 _ fun H' s=>⟨ys.take i,s _ _ p.2,?_,?_,?_⟩⟩
 .show(((wipe Z []).set v none).set v (some x)).set v none=(wipe Z []).set v none;rw[set_set,set_set]
 .rw[length_take];omega
 .intro b o e;rw[Am (Ai e hD)];exact s _ _ (p.1 _ _ e)
 .rw[Ae,take_add_one,getElem?_eq_getElem hi];rfl
structure Ad where
 entry:Addr
 order:Addr
 step:Addr
 reader:Addr
 item:Addr
 scale:Addr
 desk:Addr
structure TxA (K:Frag) (mg:Str->Option Value):Prop where
 len:mg "len"=none
 all:mg "all"=none
 any:mg "any"=none
 list:mg "list"=none
 tuple:mg "tuple"=none
 blanks:GTup K mg "BLANKS" (nv [32,9,10])
 signs:GTup K mg "SIGNS" (nv [38,60,61,126,47])
 zero:GInt mg "ZERO" 48
 nine:GInt mg "NINE" 57
 isChar:Df K mg "is_character" (top 13) ["number"]
 isText:Df K mg "is_text" (top 14) ["row"]
 isBlank:Df K mg "is_blank" (top 15) ["number"]
 ends:Df K mg "ends_string" (top 16) ["number"]
 isDigit:Df K mg "is_digit" (top 17) ["number"]
variable{P:Program}{w:World}{K:Frag}{mg:Str->Option Value}{base:Heap}
def spB(p:Nat->Bool):Sp:=fun vs H Q _=>∃n:Nat,vs=[.int (n:Int)]/\Q (.bl (p n)) H
theorem scIsChar:FnScope ["number"] ["number"] (defScope (top 13)):=fsc
theorem CD(T:TxA K mg):Ok P w K mg base 1 "is_character" ["number"] (spB Lo.isChar):=by
 refine T.isChar.ok scIsChar (fun vs H Q E h=>?_) (fun f cdv A outer s H vs Q E hr h=>?_)
 .obtain⟨n,rfl,_⟩:=h;rfl
 .obtain⟨n,rfl,k⟩:=h;refine⟨_,Af (Aj (B7 (Fx Dc Dc Ag (pv 0) Ag) (BV (KW (Fx Dc Dc Ag (pv 0) Ag))))),?_⟩;refine Cy (DI ev_c (Ah rfl) ev_c) (fun _=>N7 (DI ev_c (Ah rfl) ev_c)) _ ?_;show Q _ H
  have e:Lo.isChar n=((decide ((0:Int)<=n)&&decide ((n:Int)<=1114111))&& !(decide ((55296:Int)<=n)&&decide ((n:Int)<=57343))):=by
   unfold Lo.isChar;have h1:decide ((0:Int)<=n)=true:=decide_eq_true (by omega);have h2:decide ((n:Int)<=1114111)=decide (n<=0x10FFFF):=by rw[decide_eq_decide];omega
   have h3:decide ((55296:Int)<=n)=decide (0xD800<=n):=by rw[decide_eq_decide];omega
   have h4:decide ((n:Int)<=57343)=decide (n<=0xDFFF):=by rw[decide_eq_decide];omega
   rw[h1,h2,h3,h4,Bool.true_and]
  rw[e]at k;exact k
theorem L6(n:Nat)(l:List Nat):inV (.int (n:Int)) (nv l)=l.any fun c=>n==c:=by
 unfold inV nv;rw[List.any_map]
 congr 1
 funext c;show((c:Int)==(n:Int))=(n==c);rw[Bool.eq_iff_iff,beq_iff_eq,beq_iff_eq];omega
theorem JL(l:List Nat):(nv l).all flatV=true:=by
 unfold nv;rw[List.all_map];exact all_eq_true.mpr fun _ _=>rfl
theorem LQ{n:Nat}{l:List Nat}{ta:TE}{Z:St}{H:Hp}(h:Ev ta Z H (.int (n:Int))):Ev (tOp (rIn K false) ta (tGT K (nv l))) Z H (.bl (l.any fun c=>n==c)):=fun Q q=>
 h _ fun a ha=>⟨a,nv l,rfl,.inr ha,rfl,JL l,by
  show Q (.bl (inV _ _)) H;rw[L6];exact q⟩
theorem scIsBlank:FnScope ["number"] ["number"] (defScope (top 15)):=fsc
theorem F9(n:Nat):([32,9,10].any fun c=>n==c)=Lo.isBlank n:=by
 unfold Lo.isBlank;simp only[any_cons,List.any_nil,Bool.or_false,Bool.or_assoc]
theorem LS(n:Nat):([38,60,61,126,47].any fun c=>n==c)=Lo.isSign n:=by
 unfold Lo.isSign Lo.AMP Lo.LESS Lo.EQUAL Lo.TILDE Lo.SLASH;simp only[any_cons,List.any_nil,Bool.or_false,Bool.or_assoc]
theorem scEnds:FnScope ["number"] ["number"] (defScope (top 16)):=fsc
theorem CU(T:TxA K mg):Ok P w K mg base 1 "ends_string" ["number"] (spB fun n=>Lo.isBlank n || Lo.isSign n):=by
 refine T.ends.ok scEnds (fun vs H Q E h=>?_) (fun f cdv A outer s H vs Q E hr h=>?_)
 .obtain⟨n,rfl,_⟩:=h;rfl
 .obtain⟨n,rfl,k⟩:=h;refine⟨_,Af (Aj (KH (AW D6 (pv 0) (pgt T.blanks) (by with_unfolding_all rfl)) (BV (AW D6 (pv 0) (pgt T.signs) (by with_unfolding_all rfl))))),?_⟩;refine Ng (LQ (Ah rfl)) (fun _=>LQ (Ah rfl)) _ ?_;rw[F9,LS];exact k
theorem scIsDigit:FnScope ["number"] ["number"] (defScope (top 17)):=fsc
theorem HG(T:TxA K mg):Ok P w K mg base 1 "is_digit" ["number"] (spB fun n=>decide (48<=n)&&decide (n<=57)):=by
 refine T.isDigit.ok scIsDigit (fun vs H Q E h=>?_) (fun f cdv A outer s H vs Q E hr h=>?_)
 .obtain⟨n,rfl,_⟩:=h;rfl
 .obtain⟨n,rfl,k⟩:=h;refine⟨_,Af (Aj (Fx Dc Dc (pgi T.zero) (pv 0) (pgi T.nine))),?_⟩;refine DI ev_c (Ah rfl) ev_c _ ?_;show Q _ H;have h2:decide ((n:Int)<=57)=decide (n<=57):=by rw[decide_eq_decide];omega
  have h3:decide ((48:Int)<=n)=decide (48<=n):=by rw[decide_eq_decide];omega
  rw[h2,h3];exact k
theorem scIsText:FnScope ["row","number"] ["row"] (defScope (top 14)):=fsc
def spIsText(K:Frag):Sp:=fun vs H Q _=>∃(a:Addr)(l:List Nat),vs=[.ref a]/\SqL K H a (nv l)/\l.length<=sizeLine/\∀H',Same H H'->Q (.bl (l.all Lo.isChar)) H'
theorem Jh(T:TxA K mg):Ok P w K mg base 2 "is_text" ["row"] (spIsText K):=by
 have G:=CD (P:=P) (w:=w) (base:=base) T;refine T.isText.ok scIsText (fun vs H Q E h=>?_) (fun f cdv A outer s H vs Q E hr h=>?_)
 .obtain⟨a,l,rfl,_⟩:=h;rfl
 .obtain⟨a,l,rfl,hs,hl,k⟩:=h
  refine⟨_,Af (Aj (BF (KD rfl) (by rfl) T.all PyProof.Rows.boot_all (Aa (BQ (own:=[("number",1)]) rfl scIsText.nd (AE (pv 0)) (blk rfl)
   (fun s H C cl fp=>At (i:=1) scIsText.nd rfl (inl rfl)) (fun s H C cl fp=>BE) (fun s H C cl fp=>pc G hr (Aa (pv 1) Ac))) Ac))),?_⟩
  refine⟨_,rfl,a,rfl,⟨_,hs⟩,fun D hD=>?_⟩;refine Dj 1 (ys:=(l.map Lo.isChar).map V.bl) hD hs (by simp[nv]) (by rw[Aq];exact hl) (fun i x y H1 hx hy s R hR=>?_) fun H1 s hd=>?_
  .obtain⟨c,hc,rfl⟩:=BO hx;rw[map_map,getElem?_map,hc]at hy;cases hy;exact⟨_,rfl,c,rfl,hR _ (ad _)⟩
  .refine⟨D,_,rfl,aa hd,?_⟩;rw[List.all_map];exact k _ s
def rInsert:V->List V->Hp->VK->Prop:=fun x vs H Q=>∃l xs i k y,x= .ref l/\vs=[.int i,y]/\i=((k:Nat):Int)/\H l=some (.lst xs)/\k<=xs.length/\xs.length<sizeLine/\Q .non (aj H l (.lst (xs.take k++y::xs.drop k)))
theorem JY{X:Cx}:MtM X "list.insert" rInsert:=by
 intro pins s Z H x vs v us Q I rx rv h;obtain⟨l,xs,i,k,y,rfl,rfl,hi,hH,hk,hz,q⟩:=h;cases rx;obtain⟨u,u2,rfl,ru,ru2⟩:=rv.two;obtain⟨t,rfl⟩:=ru;obtain⟨z,its,n,r,hl,e⟩:=I.lstM hH;have hs:sizeLine=16777216:=sizeLine_eq;have f0:its.toArray.size<=sizeLine:=by rw[size_toArray,<-hl];exact z
 have f1:Builtin.List.listFitsIndex i=true:=fitsIndex_both (by omega) (by omega);refine call_meets F.slot_list_insert ⟨_,e,rfl⟩ F.entry_list_insert (F.args_list_insert_3 _ _ _) (AutoSeq1.list_insert_list_int_val_1 l its.toArray n i t u2 (by rw[f1];exact Bool.false_ne_true) f0) ⟨e,?_⟩;refine⟨.non,_,I.lset (its':=its.take k++u2::its.drop k) hH e ?_ ((r.take k).append (.cons ru2 (r.drop k))) ?_,rfl,q⟩
 .show(its.toArray.extract 0 _).push u2++its.toArray.extract _=_
  have e1:(if i<0 then(i+(its.toArray.size:Int)).toNat else min i.toNat its.toArray.size)=k:=by
   rw[if_neg (by omega),size_toArray];omega
  rw[e1]
  have e2:its.toArray.extract k=(its.drop k).toArray:=by
   simp only[List.extract_toArray,List.extract_eq_take_drop,size_toArray];rw[take_of_length_le (by rw[length_drop];exact le_refl _)]
  rw[e2];simp
 .rw[length_append,length_cons,length_take,length_drop];omega
theorem Fz(l:List Nat):(PyData.tuple (l.map fun(n:Nat)=>PyData.int (n:Int))).depth<=64:=by
 have:∀l:List Nat,PyData.depthAll (l.map fun(n:Nat)=>PyData.int (n:Int))<=1:=by
  intro l
  induction l with
  |nil=>simp[PyData.depthAll]
  |cons a l ih=>simp[PyData.depthAll,PyData.depth]at ih⊢;omega
 have:=this l;simp[PyData.depth];omega
theorem IC(l:List Nat):(PyData.tuple (l.map fun(n:Nat)=>PyData.int (n:Int))).canLay0=true:=by
 have:∀l:List Nat,PyData.canLayAll0 (l.map fun(n:Nat)=>PyData.int (n:Int))=true:=by
  intro l
  induction l with
  |nil=>rfl
  |cons a l ih=>simp[PyData.canLayAll0,PyData.canLay0]at ih⊢;exact ih
 simp[PyData.canLay0,this l]
theorem Fw:∀a b:List Nat,eqvAll (a.map fun(n:Nat)=>PyData.int (n:Int)) (b.map fun(n:Nat)=>PyData.int (n:Int))=decide (a=b)
 |[],[]=>rfl
 |[],y::b=>by simp[eqvAll]
 |x::a,[]=>by simp[eqvAll]
 |x::a,y::b=>by
  rw[map_cons,map_cons,eqvAll,Fw a b,eqv,Bool.eq_iff_iff];simp only[and_eq_true,beq_iff_eq,decide_eq_true_eq,List.cons.injEq];exact⟨fun h=>⟨by omega,h.2⟩,fun h=>⟨by omega,h.2⟩⟩
theorem Da{K:Frag}{H:Hp}:∀l:List Nat,DpAll K H (nv l) (l.map fun(n:Nat)=>PyData.int (n:Int))
 |[]=>.nil
 |x::l=>.cons (.int _) (Da l)
def StrV(K:Frag)(H:Hp):Option (List Nat)->V->Prop
 |none,v=>v= .non
 |some s,v=>∃a,v= .ref a/\SqT K H a (nv s)
theorem StrV.same{K:Frag}{H H':Hp}{o:Option (List Nat)}{v:V}(h:StrV K H o v)(s:Same H H'):StrV K H' o v:=by
 cases o with
 |none=>exact h
 |some x=>obtain⟨a,e,q⟩:=h;exact⟨a,e,s.sqT q⟩
theorem Lh{K:Frag}{ta tb:TE}{Z:St}{H:Hp}{x y:V}{s:List Nat}{o:Option (List Nat)}(ha:Ev ta Z H x)(hb:Ev tb Z H y)(hx:StrV K H (some s) x)(hy:StrV K H o y):
  Ev (tOp (rEqD K) ta tb) Z H (.bl (decide (o=some s))):=AL ha hb fun Q q=>by
 obtain⟨a,rfl,hs⟩:=hx
 have sh:∀l:List Nat,SeqAt.shaped (PyData.tuple (l.map fun(n:Nat)=>PyData.int (n:Int)))=true:=fun l=>by
  unfold SeqAt.shaped;rw[IC,decide_eq_true (Fz l)];rfl
 cases o with
 |none=>
  cases hy;refine⟨_,_,.tup hs (Da s),.non,sh s,rfl,?_⟩;exact q
 |some s2=>
  obtain⟨b,rfl,hs2⟩:=hy;refine⟨_,_,.tup hs (Da s),.tup hs2 (Da s2),sh s,sh s2,?_⟩
  have:eqv (.tuple (s.map fun(n:Nat)=>PyData.int (n:Int))) (.tuple (s2.map fun(n:Nat)=>PyData.int (n:Int)))=decide (some s2=some s):=by
   rw[eqv,Fw,decide_eq_decide,Option.some.injEq];exact eq_comm
  rw[this];exact q
theorem Fy{K:Frag}{a:Addr}{xs:List V}{g:TG}{tb:TS}{D:Ends}{Z:St}{H:Hp}(Pv:Nat->St->Hp->Prop)(h0:Pv 0 Z H)(hl:∀i Z H,i<=xs.length->Pv i Z H->SqL K H a xs)
  (hs:∀(i:Nat) x Z H T,xs[i]? =some x->Pv i Z H->H T=none->g (.ref T) Z (aj H T (.tup [.int (i:Nat),x])) fun Z2 H2=>tb {D with nx:=Pv (i+1),ct:=Pv (i+1),bk:=D.nx} Z2 H2) (hd:∀Z H,Pv xs.length Z H->D.nx Z H):
  ∃W:Nat->Nat->St->Hp->Prop,(∃m,W 0 m Z H)/\∀i m Z H,W i m Z H->
   ((Ite K a).stop i H/\D.nx Z H)\/((Ite K a).go i H/\∃N:St->Hp->Prop,(∀Z' H',N Z' H'->∃m',m'<m/\W (i+1) m' Z' H')/\∀x H',(Ite K a).yld i H x H'->g x Z H' fun Z2 H2=>tb {D with nx:=N,ct:=N,bk:=D.nx} Z2 H2):=by
 refine⟨fun i m Z H=>m=xs.length - i/\i<=xs.length/\Pv i Z H,⟨xs.length,by simp,zero_le _,h0⟩,?_⟩;rintro i m Z H ⟨rfl,hi,p⟩;have q:=hl i Z H hi p;by_cases hlt:i<xs.length
 .refine .inr ⟨⟨xs,xs[i],q,by simp[hlt]⟩,Pv (i+1),fun Z' H' p'=>⟨xs.length - (i+1),by omega,rfl,hlt,p'⟩,fun x H' y=>?_⟩;obtain⟨T,z,rfl,hT,rfl,hz⟩:=y;exact hs i z Z _ T (hz xs q) p hT
 .have e:i=xs.length:=by omega
  subst e;exact .inl ⟨⟨xs,q,le_refl _⟩,hd Z H p⟩
theorem Hm{K:Frag}{a b:Addr}{xs ys:List V}{g:TG}{tb:TS}{D:Ends}{Z:St}{H:Hp}(Pv:Nat->St->Hp->Prop)(h0:Pv 0 Z H)(he:xs.length=ys.length)(hl:∀i Z H,i<=xs.length->Pv i Z H->SqL K H a xs/\SqL K H b ys)
  (hs:∀(i:Nat) x y Z H T,xs[i]? =some x->ys[i]? =some y->Pv i Z H->H T=none->g (.ref T) Z (aj H T (.tup [x,y])) fun Z2 H2=>tb {D with nx:=Pv (i+1),ct:=Pv (i+1),bk:=D.nx} Z2 H2) (hd:∀Z H,Pv xs.length Z H->D.nx Z H):
  ∃W:Nat->Nat->St->Hp->Prop,(∃m,W 0 m Z H)/\∀i m Z H,W i m Z H->
   ((Itz K a b).stop i H/\D.nx Z H)\/((Itz K a b).go i H/\∃N:St->Hp->Prop,(∀Z' H',N Z' H'->∃m',m'<m/\W (i+1) m' Z' H')/\∀x H',(Itz K a b).yld i H x H'->g x Z H' fun Z2 H2=>tb {D with nx:=N,ct:=N,bk:=D.nx} Z2 H2):=by
 refine⟨fun i m Z H=>m=xs.length - i/\i<=xs.length/\Pv i Z H,⟨xs.length,by simp,zero_le _,h0⟩,?_⟩;rintro i m Z H ⟨rfl,hi,p⟩;have q:=hl i Z H hi p;by_cases hlt:i<xs.length
 .refine .inr ⟨⟨xs,ys,xs[i],ys[i]'(by omega),q.1,q.2,by simp[hlt],by simp[<-he,hlt]⟩,Pv (i+1),fun Z' H' p'=>⟨xs.length - (i+1),by omega,rfl,hlt,p'⟩,fun x H' y=>?_⟩;obtain⟨T,z,z2,rfl,hT,rfl,hz,hz2⟩:=y;exact hs i z z2 Z _ T (hz xs q.1) (hz2 ys q.2) p hT
 .have e:i=xs.length:=by omega
  subst e;exact .inl ⟨⟨xs,ys,q.1,q.2,.inl (le_refl _)⟩,hd Z H p⟩
def SameBut(l:Addr)(H H':Hp):Prop:=∀b o,H b=some o->b≠l->H' b=some o
theorem _root_.L2.Same.but{l:Addr}{H H':Hp}(s:Same H H'):SameBut l H H':=fun b o e _=>s b o e
theorem SameBut.trans{l:Addr}{H H1 H2:Hp}(a:SameBut l H H1)(b:SameBut l H1 H2):SameBut l H H2:=fun c o h n=>b c o (a c o h n) n
theorem af{l:Addr}{H:Hp}{o:HO}:SameBut l H (aj H l o):=fun b u e n=>by rw[Am n];exact e
structure TxB (K:Frag) (mg:Str->Option Value) (D:Ad):Prop extends TxA K mg where
 most:GInt mg "MOST_ENTRIES" 1024
 noPlace:GInt mg "NO_PLACE" (-1)
 min:mg "min"=none
 enum:mg "enumerate"=none
 cE:mg "Entry"=some (.ref D.entry)
 clE:Cls K D.entry
 nE1:NoAttr K D.entry "string"
 nE2:NoAttr K D.entry "strength"
 nE3:NoAttr K D.entry "light"
 nE4:NoAttr K D.entry "counts_as"
 iE:Id K D.entry "Entry.__init__" (inClass (top 57) 0) ["self","string","strength","light","counts_as"]
 wE:Md K D.entry "with_strength" "Entry.with_strength" (inClass (top 57) 1) ["self","strength"]
 cO:mg "Order"=some (.ref D.order)
 clO:Cls K D.order
 nO:NoAttr K D.order "entries"
 iO:Id K D.order "Order.__init__" (inClass (top 58) 0) ["self","entries"]
 pO:Md K D.order "place_of" "Order.place_of" (inClass (top 58) 1) ["self","string"]
 lO:Md K D.order "last_string" "Order.last_string" (inClass (top 58) 2) ["self"]
 rO:Md K D.order "has_room_for" "Order.has_room_for" (inClass (top 58) 3) ["self","string"]
 uO:Md K D.order "put" "Order.put" (inClass (top 58) 4) ["self","entry","behind"]
 tO:Md K D.order "take_out" "Order.take_out" (inClass (top 58) 5) ["self","string"]
def entF(ts:Addr)(st:Nat)(li:Bool)(ta:Addr):List (Str×V):=[("string",.ref ts),("strength",.int (st:Int)),("light",.bl li),("counts_as",.ref ta)]
def EntAt(C:Addr)(H:Hp)(a:Addr)(e:Lo.Entry):Prop:=∃dx ts ta,H a=some (.ins C dx (entF ts e.st e.light ta))/\H ts=some (.tup (nv e.s))/\H ta=some (.tup (nv e.as_))
theorem EntAt.same{C:Addr}{H H':Hp}{a:Addr}{e:Lo.Entry}(h:EntAt C H a e)(s:Same H H'):EntAt C H' a e:=by
 obtain⟨dx,ts,ta,h1,h2,h3⟩:=h;exact⟨dx,ts,ta,s _ _ h1,s _ _ h2,s _ _ h3⟩
theorem EntAt.but{C:Addr}{H H':Hp}{a l:Addr}{xs:List V}{e:Lo.Entry}(h:EntAt C H a e)(hl:H l=some (.lst xs))(s:SameBut l H H'):EntAt C H' a e:=by
 obtain⟨dx,ts,ta,h1,h2,h3⟩:=h;exact⟨dx,ts,ta,s _ _ h1 (AC h1 hl (fun z=>HO.noConfusion z)),s _ _ h2 (AC h2 hl (fun z=>HO.noConfusion z)),s _ _ h3 (AC h3 hl (fun z=>HO.noConfusion z))⟩
def EntsAt(C:Addr)(H:Hp)(as:List Addr)(es:Lo.Order):Prop:=as.length=es.length/\∀(i:Nat) a e,as[i]? =some a->es[i]? =some e->EntAt C H a e
theorem EntsAt.same{C:Addr}{H H':Hp}{as:List Addr}{es:Lo.Order}(h:EntsAt C H as es)(s:Same H H'):EntsAt C H' as es:=⟨h.1,fun i a e h1 h2=>(h.2 i a e h1 h2).same s⟩
theorem EntsAt.but{C:Addr}{H H':Hp}{as:List Addr}{l:Addr}{xs:List V}{es:Lo.Order}(h:EntsAt C H as es)(hl:H l=some (.lst xs))(s:SameBut l H H'):EntsAt C H' as es:=⟨h.1,fun i a e h1 h2=>(h.2 i a e h1 h2).but hl s⟩
structure OrdL (D:Ad) (H:Hp) (o l:Addr) (as:List Addr) (es:Lo.Order):Prop where
 obj:∃dx,H o=some (.ins D.order dx [("entries",.ref l)])
 lst:H l=some (.lst (as.map V.ref))
 ents:EntsAt D.entry H as es
theorem OrdL.same{D:Ad}{H H':Hp}{o l:Addr}{as:List Addr}{es:Lo.Order}(h:OrdL D H o l as es)(s:Same H H'):OrdL D H' o l as es:=
 ⟨let ⟨dx,e⟩:=h.obj;⟨dx,s _ _ e⟩,s _ _ h.lst,h.ents.same s⟩
variable{D:Ad}
theorem scEI:FnScope ["self","string","strength","light","counts_as"] ["self","string","strength","light","counts_as"] (defScope (inClass (top 57) 0)):=fsc
def spEI(C:Addr):Sp:=fun vs H Q _=>∃(p dx ts ta:Addr)(st:Nat)(li:Bool),vs=[.ref p,.ref ts,.int (st:Int),.bl li,.ref ta]/\H p=some (.ins C dx [])/\∀H':Hp,H' p=some (.ins C dx (entF ts st li ta))->SameBut p H H'->Q .non H'
theorem Nc(T:TxB K mg D):IOk P w K mg base 1 D.entry ["self","string","strength","light","counts_as"] (spEI D.entry):=by
 refine T.iE.ok scEI (fun vs H Q E h=>?_) (fun f cdv A outer s H vs Q E hr h=>?_)
 .obtain⟨p,dx,ts,ta,st,li,rfl,_⟩:=h;rfl
 .obtain⟨p,dx,ts,ta,st,li,rfl,hp,k⟩:=h;refine⟨_,Ab (AY (pv 0) (pv 1) rfl) (Ab (AY (pv 0) (pv 2) rfl) (Ab (AY (pv 0) (pv 3) rfl) (Af (AY (pv 0) (pv 4) rfl)))),?_⟩;refine⟨_,rfl,_,rfl,p,D.entry,dx,[],rfl,hp,T.clE,T.nE1,(by decide),?_⟩;refine⟨_,rfl,_,rfl,p,D.entry,dx,_,rfl,Ae,T.clE,T.nE2,(by show 1<1000;decide),?_⟩;refine⟨_,rfl,_,rfl,p,D.entry,dx,_,rfl,Ae,T.clE,T.nE3,(by show 2<1000;decide),?_⟩;refine⟨_,rfl,_,rfl,p,D.entry,dx,_,rfl,Ae,T.clE,T.nE4,(by show 3<1000;decide),?_⟩;exact k _ Ae fun b o e n=>by rw[Am n,Am n,Am n,Am n];exact e
theorem scEW:FnScope ["self","strength"] ["self","strength"] (defScope (inClass (top 57) 1)):=fsc
def spEW(C:Addr):Sp:=fun vs H Q _=>∃(a:Addr)(e:Lo.Entry)(st:Nat),vs=[.ref a,.int (st:Int)]/\EntAt C H a e/\∀(H':Hp)(b:Addr),EntAt C H' b {e with st:=st}->Same H H'->H b=none->Q (.ref b) H'
theorem OO(T:TxB K mg D):MOk P w K mg base 3 D.entry "with_strength" ["self","strength"] (spEW D.entry):=by
 have G:=Nc (P:=P) (w:=w) (base:=base) T;refine T.wE.ok scEW (fun vs H Q E h=>?_) (fun f cdv A outer s H vs Q E hr h=>?_)
 .obtain⟨a,e,st,rfl,_⟩:=h;rfl
 .obtain⟨a,e,st,rfl,⟨dx,ts,ta,h1,h2,h3⟩,k⟩:=h;refine⟨_,Af (Aj (pmk G hr T.cE (Aa (Ak (pv 0) rfl) (Aa (pv 1) (Aa (Ak (pv 0) rfl) (Aa (Ak (pv 0) rfl) Ac)))))),?_⟩;refine⟨_,rfl,a,D.entry,dx,_,_,rfl,h1,T.clE,T.nE1,rfl,_,rfl,_,rfl,a,D.entry,dx,_,_,rfl,h1,T.clE,T.nE3,rfl,_,rfl,a,D.entry,dx,_,_,rfl,h1,T.clE,T.nE4,rfl,?_⟩;intro x d hx hd hne;refine⟨x,d,ts,ta,st,e.light,rfl,Ae,fun H' q1 q2=>⟨rfl,?_⟩⟩;have s1:Same H H':=ai hx hd q2;exact k H' x ⟨d,ts,ta,q1,s1 _ _ h2,s1 _ _ h3⟩ s1 hx
theorem scOI:FnScope ["self","entries"] ["self","entries"] (defScope (inClass (top 58) 0)):=fsc
def spOI(K:Frag)(C:Addr):Sp:=fun vs H Q _=>∃(p dx a:Addr)(xs:List V),vs=[.ref p,.ref a]/\H p=some (.ins C dx [])/\SqL K H a xs/\∀(H':Hp)(l:Addr),H' p=some (.ins C dx [("entries",.ref l)])->H' l=some (.lst xs)->H l=none->SameBut p H H'->Q .non H'
theorem L3(T:TxB K mg D):IOk P w K mg base 1 D.order ["self","entries"] (spOI K D.order):=by
 refine T.iO.ok scOI (fun vs H Q E h=>?_) (fun f cdv A outer s H vs Q E hr h=>?_)
 .obtain⟨p,dx,a,xs,rfl,_⟩:=h;rfl
 .obtain⟨p,dx,a,xs,rfl,hp,hs,k⟩:=h;refine⟨_,Af (AY (pv 0) (C6 CC (by rfl) T.list boot_list (Aa (pv 1) Ac)) rfl),?_⟩;refine⟨_,rfl,a,xs,rfl,.inl hs,fun l hl=>?_⟩;have n:p≠l:=Ai hp hl;refine⟨_,rfl,p,D.order,dx,[],rfl,(by rw[Am n];exact hp),T.clO,T.nO,(by decide),?_⟩;refine k _ l Ae (by rw[Am n.symm];exact Ae) hl fun b o e hb=>?_;rw[Am hb,Am (Ai e hl)];exact e
theorem scOP:FnScope ["self","string","place","entry"] ["self","string"] (defScope (inClass (top 58) 1)):=fsc
def plV:Option Nat->V
 |some i=>.int (i:Int)
 |none=>.int (-1)
def spOP(K:Frag)(D:Ad):Sp:=fun vs H Q _=>∃(o l t:Addr)(as:List Addr)(es:Lo.Order)(x:List Nat),vs=[.ref o,.ref t]/\OrdL D H o l as es/\SqT K H t (nv x)/\∀H',Same H H'->Q (plV (LM.plc es x)) H'
theorem IA(T:TxB K mg D):MOk P w K mg base 1 D.order "place_of" ["self","string"] (spOP K D):=by
 refine T.pO.ok scOP (fun vs H Q E h=>?_) (fun f cdv A outer s H vs Q E hr h=>?_)
 .obtain⟨o,l,t,as,es,x,rfl,_⟩:=h;rfl
 .obtain⟨o,l,t,as,es,x,rfl,hO,ht,k⟩:=h
  refine⟨_,Ab (Ba PassesOwn.never rfl (Gr (by rfl) T.enum (Aa (Ak (pv 0) rfl) Ac)) (Ef rfl (Bf (At (i:=2) scOP.nd rfl (inl rfl)) (Bf (At (i:=3) scOP.nd rfl (inl rfl)) Db)))
   (Af (Av (An (IW hr.units) (Ak (pv 3) rfl) (pv 1) (nomark _)) (Af (Aj (pv 2))) Ao))) (Af (Aj (pgi T.noPlace))),?_⟩
  obtain⟨dx,ho⟩:=hO.obj
  refine⟨_,rfl,o,D.order,dx,_,_,rfl,ho,T.clO,T.nO,rfl,l,_,rfl,aa hO.lst,Fy (K:=K) (a:=l) (xs:=as.map V.ref) (fun i Z H'=>∃v2 v3,Z=[some (.ref o),some (.ref t),v2,v3]/\Same H H'/\∀j e,j<i->es[j]? =some e->e.s≠x)
   ⟨none,none,rfl,ad _,fun j e hj=>absurd hj (Nat.not_lt_zero _)⟩ (fun i Z H' _ ⟨_,_,_,s1,_⟩=>aa (s1 _ _ hO.lst)) ?_ ?_⟩
  .rintro i y Z H1 Tt hi ⟨v2,v3,rfl,s1,hb⟩ hT
   obtain⟨a,ha,rfl⟩:∃a,as[i]? =some a/\y=V.ref a:=by
    rw[getElem?_map]at hi;obtain⟨a,h1,h2⟩:=map_eq_some_iff.mp hi;exact⟨a,h1,h2.symm⟩
   have hil:i<es.length:=by rw[<-hO.ents.1];exact(List.getElem?_eq_some_iff.mp ha).1
   have he:=getElem?_eq_getElem hil;obtain⟨e,he⟩:∃e,es[i]? =some e:=⟨_,he⟩;have s2:Same H (aj H1 Tt (.tup [.int (i:Nat),.ref a])):=s1.trans (ae hT);obtain⟨dx',ts,ta,h1,h2,h3⟩:=(hO.ents.2 i a e ha he).same s2;refine⟨Tt,_,rfl,ab Ae,rfl,_,_,rfl,_,_,rfl,rfl,?_⟩;refine Ax (Lh (s:=e.s) (o:=some x) (Az (Ah rfl) h1 T.clE T.nE1 rfl) (Ah rfl) ⟨ts,rfl,ab h2⟩ ⟨t,rfl,s2.sqT ht⟩) _ ?_;refine ite2 (fun q=>?_) fun q=>?_
   .have q:e.s=x:=(Option.some.inj (of_decide_eq_true q)).symm;refine⟨_,rfl,?_⟩;have:=LM.EX hb he q;have k':=k _ s2;rw[this]at k';exact k'
   .refine⟨_,_,rfl,s2,fun j e' hj he'=>?_⟩;by_cases hji:j=i
    .subst hji;rw[he]at he';cases he';exact fun z=>q (decide_eq_true (by rw[z]))
    .exact hb j e' (by omega) he'
  .rintro Z H1 ⟨v2,v3,rfl,s1,hb⟩;have:LM.plc es x=none:=LM.EY fun j e he=>hb j e (by rw[length_map,hO.ents.1];exact(List.getElem?_eq_some_iff.mp he).1) he;have k':=k _ s1;rw[this]at k';exact k'
theorem EntsAt.erase{C:Addr}{H:Hp}{as:List Addr}{es:Lo.Order}(h:EntsAt C H as es)(i:Nat):EntsAt C H (as.eraseIdx i) (es.eraseIdx i):=by
 refine⟨by rw[List.length_eraseIdx,List.length_eraseIdx,h.1],fun j a e ha he=>?_⟩;rw[List.getElem?_eraseIdx]at ha he;by_cases hj:j<i
 .rw[if_pos hj]at ha he;exact h.2 j a e ha he
 .rw[if_neg hj]at ha he;exact h.2 (j+1) a e ha he
theorem EntsAt.set{C:Addr}{H:Hp}{as:List Addr}{es:Lo.Order}(h:EntsAt C H as es)(i:Nat){a:Addr}{e:Lo.Entry}(he:EntAt C H a e):EntsAt C H (as.set i a) (es.set i e):=by
 refine⟨by rw[length_set,length_set,h.1],fun j a' e' ha' he'=>?_⟩;by_cases hj:i=j
 .subst hj;rw[List.getElem?_set_self']at ha' he';cases hx:as[i]? with
  |none=>rw[hx]at ha';cases ha'
  |some _=>
   cases hy:es[i]? with
   |none=>rw[hy]at he';cases he'
   |some _=>
    rw[hx]at ha';rw[hy]at he';cases ha';cases he';exact he
 .rw[List.getElem?_set_ne hj]at ha' he';exact h.2 j a' e' ha' he'
theorem EntsAt.ins{C:Addr}{H:Hp}{as:List Addr}{es:Lo.Order}(h:EntsAt C H as es)(p:Nat){a:Addr}{e:Lo.Entry}(he:EntAt C H a e):EntsAt C H (as.take p++a::as.drop p) (es.take p++e::es.drop p):=by
 have hl:=h.1;refine⟨by simp only[length_append,length_cons,length_take,length_drop,hl],fun j a' e' ha' he'=>?_⟩;have hlen:(as.take p).length=(es.take p).length:=by rw[length_take,length_take,hl]
 rw[List.getElem?_append]at ha' he';rw[hlen]at ha';by_cases hj:j<(es.take p).length
 .rw[if_pos hj]at ha' he';rw[length_take]at hj;rw[List.getElem?_take_of_lt (by omega)]at ha' he';exact h.2 j a' e' ha' he'
 .rw[if_neg hj]at ha' he';cases hk:j - (es.take p).length with
  |zero=>
   rw[hk]at ha' he';cases ha';cases he';exact he
  |succ m=>
   rw[hk,List.getElem?_cons_succ,List.getElem?_drop]at ha' he';exact h.2 _ a' e' ha' he'
theorem FN:∀(as:List Addr)(i:Nat),(as.map V.ref).eraseIdx i=(as.eraseIdx i).map V.ref
 |[],_=>rfl
 |a::as,0=>rfl
 |a::as,i+1=>by
  show V.ref a::(as.map V.ref).eraseIdx i=V.ref a::(as.eraseIdx i).map V.ref;rw[FN as i]
theorem AU{as:List Addr}{i:Nat}{y:V}(h:(as.map V.ref)[i]? =some y):∃a,as[i]? =some a/\y=V.ref a:=by
 rw[getElem?_map]at h;obtain⟨a,h1,h2⟩:=map_eq_some_iff.mp h;exact⟨a,h1,h2.symm⟩
theorem Bh{as:List Addr}{i:Nat}{a:Addr}(h:as[i]? =some a):(as.map V.ref)[i]? =some (V.ref a):=by
 rw[getElem?_map,h];rfl
theorem Jp{g:Int->Int->Bool}{ta tb:TE}{Z:St}{H:Hp}{i j:Int}(ha:Ev ta Z H (.int i))(hb:Ev tb Z H (.int j)):Ev (tOp (rI0 fun i j=>.bl (g i j)) ta tb) Z H (.bl (g i j)):=AL ha hb fun Q q=>⟨i,j,rfl,rfl,q⟩
theorem AZ{g:Int->Int->Bool}{ta tb:TE}{Z:St}{H:Hp}{i j:Int}(ha:Ev ta Z H (.int i))(hb:Ev tb Z H (.int j)):EvT (tTest (tOp (rI0 fun i j=>.bl (g i j)) ta tb)) Z H (g i j):=Ax (Jp ha hb)
def rLen(K:Frag):List V->Hp->VK->Prop:=fun xs H Q=>∃p ys,xs=[.ref p]/\(SqL K H p ys\/SqT K H p ys)/\Q (.int ys.length) H
theorem plen{X:Cx}{e:Expr}{te:TE}{p pos:Pos}(hm:X.mg "len"=none)(he:PE X e te)(hg:Gl X "len":=by rfl)(hs:starEach [e] X.env=(false,eval e X.env)::starEach [] X.env:=by rfl):PE X (.Call (.Name "len" p) [e] [] pos) (tCB (rLen X.K) (tCons te tNil)):=
 BF Hn hg hm PySem.boot_len (Aa he Ac hs) (he:=hs)
theorem AG{te:TE}{Z:St}{H:Hp}{a:Addr}{xs:List V}(h:Ev te Z H (.ref a))(hs:SqL K H a xs\/SqT K H a xs):Ev (tCB (rLen K) (tCons te tNil)) Z H (.int xs.length):=fun Q q=>h _ ⟨a,xs,rfl,hs,q⟩
theorem scOL:FnScope ["self"] ["self"] (defScope (inClass (top 58) 2)):=fsc
def spOL(K:Frag)(D:Ad):Sp:=fun vs H Q _=>∃(o l:Addr)(as:List Addr)(es:Lo.Order),vs=[.ref o]/\OrdL D H o l as es/\∀v,StrV K H (Lo.lastOf es) v->Q v H
theorem Mx{es:Lo.Order}(h:es≠[]):∃e,es[es.length - 1]? =some e/\Lo.lastOf es=some e.s:=by
 have hl:0<es.length:=List.length_pos_iff.mpr h;refine⟨es[es.length - 1]'(by omega),getElem?_eq_getElem (by omega),?_⟩;unfold Lo.lastOf;rw[List.getLast?_eq_getElem?,getElem?_eq_getElem (by omega)];rfl
theorem OL(T:TxB K mg D):MOk P w K mg base 1 D.order "last_string" ["self"] (spOL K D):=by
 refine T.lO.ok scOL (fun vs H Q E h=>?_) (fun f cdv A outer s H vs Q E hr h=>?_)
 .obtain⟨o,l,as,es,rfl,_⟩:=h;rfl
 .obtain⟨o,l,as,es,rfl,hO,k⟩:=h
  refine⟨_,Ab (Av (An Be (plen T.len (Ak (pv 0) rfl)) Ag (nomark _)) (Af (Aj Bc)) Ao)
   (Af (Aj (Ak (Ar Ap (Ak (pv 0) rfl) (Ay Cm (plen T.len (Ak (pv 0) rfl)) Ag) (fun _ _=>rfl)) rfl))),?_⟩
  obtain⟨dx,ho⟩:=hO.obj;have ev1:∀Z:St,Z[0]? =some (some (.ref o))->Ev (tFld K (tVar 0) "entries") Z H (.ref l):=fun Z hZ=>Az (Ah hZ) ho T.clO T.nO rfl;have hlen:(as.map V.ref).length=es.length:=by rw[length_map,hO.ents.1]
  refine Ax (AL (AG (ev1 _ rfl) (.inl (aa hO.lst))) ev_c fun Q q=>⟨rfl,q⟩) _ ?_;rw[hlen];refine ite2 (fun q=>?_) fun q=>?_
  .have q:(V.int (es.length:Int))=V.int 0:=of_decide_eq_true q;have e0:es=[]:=List.length_eq_zero_iff.mp (by injection q with q;omega);refine k _ ?_;rw[e0];exact rfl
  .have hn:es≠[]:=fun z=>q (decide_eq_true (by rw[z];rfl));obtain⟨e,he,hl⟩:=Mx hn;have hal:es.length - 1<as.length:=by rw[hO.ents.1];exact(List.getElem?_eq_some_iff.mp he).1
   obtain⟨a,ha⟩:∃a,as[es.length - 1]? =some a:=⟨_,getElem?_eq_getElem hal⟩;obtain⟨dx',ts,ta,h1,h2,h3⟩:=hO.ents.2 _ a e ha he;have hp:0<es.length:=List.length_pos_iff.mpr hn;refine Az (AK (ev1 _ rfl) (De (AG (ev1 _ rfl) (.inl (aa hO.lst))) ev_c) (aa hO.lst) (AA (j:=es.length - 1) (v:=V.ref a) (by rw[hlen];omega) (Bh ha))) h1 T.clE T.nE1 rfl _ ?_;refine k _ ?_;rw[hl];exact⟨ts,rfl,ab h2⟩
theorem scOR:FnScope ["self","string"] ["self","string"] (defScope (inClass (top 58) 3)):=fsc
def spOR(K:Frag)(D:Ad):Sp:=fun vs H Q _=>∃(o l t:Addr)(as:List Addr)(es:Lo.Order)(x:List Nat),vs=[.ref o,.ref t]/\OrdL D H o l as es/\SqT K H t (nv x)/\∀H',Same H H'->Q (.bl (decide (es.length<1024) || (LM.plc es x).isSome)) H'
theorem Ln(o:Option Nat):(!decide (plV o=V.int (-1)))=o.isSome:=by
 cases o with
 |none=>rfl
 |some i=>
  have:¬plV (some i)=V.int (-1):=fun z=>by
   have z:V.int (i:Int)=V.int (-1):=z;injection z with z
   omega
  rw[decide_eq_false this];rfl
theorem Dv(o:Option Nat)(i:Int):scal (plV o) (.int i)=true:=by cases o<;>rfl
theorem O5(T:TxB K mg D):MOk P w K mg base 2 D.order "has_room_for" ["self","string"] (spOR K D):=by
 have G:=IA (P:=P) (w:=w) (base:=base) T;refine T.rO.ok scOR (fun vs H Q E h=>?_) (fun f cdv A outer s H vs Q E hr h=>?_)
 .obtain⟨o,l,t,as,es,x,rfl,_⟩:=h;rfl
 .obtain⟨o,l,t,as,es,x,rfl,hO,ht,k⟩:=h;refine⟨_,Af (Aj (KH (AW CG (plen T.len (Ak (pv 0) rfl)) (pgi T.most) (nomark _)) (BV (AW Bj (pm G T.clO hr (pv 0) (Aa (pv 1) Ac)) (pgi T.noPlace) (nomark _))))),?_⟩;obtain⟨dx,ho⟩:=hO.obj;have hlen:(as.map V.ref).length=es.length:=by rw[length_map,hO.ents.1]
  have e1:decide ((((as.map V.ref).length:Nat):Int)<1024)=decide (es.length<1024):=by rw[hlen,decide_eq_decide];omega
  refine De (AG (Az (Ah rfl) ho T.clO T.nO rfl) (.inl (aa hO.lst))) ev_c _ ⟨_,rfl,?_⟩;rw[e1];refine ite2 (fun q=>?_) fun q=>?_
  .have k':=k H (ad _);rw[q,Bool.true_or]at k';exact k'
  .have q:decide (es.length<1024)=false:=by cases h:decide (es.length<1024);rfl;exact absurd h q
   refine⟨_,rfl,o,dx,_,rfl,ho,rfl,_,rfl,o,l,t,as,es,x,rfl,hO,ht,fun H' s1=>⟨Dv _ _,?_⟩⟩;have k':=k H' s1;rw[q,Bool.false_or]at k';rw[Ln];exact k'
theorem scOT:FnScope ["self","string","place","taken","follower"] ["self","string"] (defScope (inClass (top 58) 5)):=fsc
def spOT(K:Frag)(D:Ad):Sp:=fun vs H Q _=>∃(o l t:Addr)(as:List Addr)(es:Lo.Order)(x:List Nat),vs=[.ref o,.ref t]/\OrdL D H o l as es/\es.length<=1024/\SqT K H t (nv x)/\
 ∀(H':Hp)(as':List Addr),OrdL D H' o l as' (Lo.without x es)->SameBut l H H'->Q .non H'
theorem JN{n i:Nat}(h:i<n):ixN n (i:Int)=some i:=by
 unfold ixN;rw[if_pos (by omega),if_pos (by omega)]
 congr 1
theorem OV(T:TxB K mg D):MOk P w K mg base 4 D.order "take_out" ["self","string"] (spOT K D):=by
 have G:=IA (P:=P) (w:=w) (base:=base) T;have GW:=OO (P:=P) (w:=w) (base:=base) T;refine T.tO.ok scOT (fun vs H Q E h=>?_) (fun f cdv A outer s H vs Q E hr h=>?_)
 .obtain⟨o,l,t,as,es,x,rfl,_⟩:=h;rfl
 .obtain⟨o,l,t,as,es,x,rfl,hO,hz,ht,k⟩:=h;have hr1:Room 1 _:=hr.mono (by decide)
  refine⟨_,Ab (Al (i:=2) scOT.nd rfl (inl rfl) (pm G T.clO hr1 (pv 0) (Aa (pv 1) Ac)))
   (Ab (Av (An Be (pv 2) (pgi T.noPlace) (nomark _)) (Af Mr) Ao)
   (Ab (Al (i:=3) scOT.nd rfl (inl rfl) (AR plainAttrs_list PySem.F.slot_list_pop PySem.F.type_list_pop K3 (Ak (pv 0) rfl) (Aa (pv 2) Ac)))
   (Af (Av (An CG (pv 2) (plen T.len (Ak (pv 0) rfl)) (nomark _))
    (Ab (Al (i:=4) scOT.nd rfl (inl rfl) (Ar Ap (Ak (pv 0) rfl) (pv 2) (fun _ _=>rfl)))
    (Af (Og (pm GW T.clE hr (pv 4) (Aa (BF (JV rfl) (by rfl) T.min PyProof.Rows.boot_min (Aa (Ak (pv 3) rfl) (Aa (Ak (pv 4) rfl) Ac))) Ac)) (ND (Ak (pv 0) rfl) (pv 2) LR))))
    Ao)))),?_⟩
  obtain⟨dx,ho⟩:=hO.obj;refine⟨_,rfl,o,dx,_,rfl,ho,rfl,_,rfl,o,l,t,as,es,x,rfl,hO,ht,fun H1 s1=>?_⟩;have hO1:=hO.same s1;have ho1:=s1 _ _ ho;refine⟨_,rfl,Dv _ _,_,rfl,?_⟩;cases hp:LM.plc es x with
  |none=>
   refine iteT ?_;refine k H1 as ?_ s1.but;rw[LM.Dt hp];exact hO1
  |some i=>
   have hi:=LM.C1 hp;obtain⟨e,he,hex⟩:=LM.Do hp
   have e1:decide (plV (some i)=V.int (-1))=false:=decide_eq_false fun z=>by
    have z:V.int (i:Int)=V.int (-1):=z;injection z with z
    omega
   rw[e1];refine iteF ?_;have hia:i<as.length:=by rw[hO.ents.1];exact hi
   obtain⟨a,ha⟩:∃a,as[i]? =some a:=⟨_,getElem?_eq_getElem hia⟩;have hlen:(as.map V.ref).length=es.length:=by rw[length_map,hO.ents.1]
   obtain⟨q1,q2,q3,q4⟩:=GQ (JN (n:=(as.map V.ref).length) (i:=i) (by rw[hlen];exact hi));refine⟨_,rfl,o,D.order,dx,_,_,rfl,ho1,T.clO,T.nO,rfl,.inl ⟨rfl,_,aa hO1.lst⟩,_,rfl,l,_,(i:Int),i,V.ref a,rfl,rfl,hO1.lst,(by omega),(by omega),q1,Bh ha,?_⟩;rw[FN];have hl2:(aj H1 l (.lst ((as.eraseIdx i).map V.ref))) l=some (.lst ((as.eraseIdx i).map V.ref)):=Ae;have sb:SameBut l H1 (aj H1 l (.lst ((as.eraseIdx i).map V.ref))):=af;generalize hH2:aj H1 l (.lst ((as.eraseIdx i).map V.ref))=H2 at hl2 sb⊢;have E2:EntsAt D.entry H2 (as.eraseIdx i) (es.eraseIdx i):=(hO1.ents.but hO1.lst sb).erase i;have ho2:H2 o=some (.ins D.order dx [("entries",.ref l)]):=sb _ _ ho1 (AC ho1 hO1.lst (fun z=>HO.noConfusion z));have hA:=(hO1.ents.2 i a e ha he).but hO1.lst sb;obtain⟨dxa,tsa,taa,a1,a2,a3⟩:=hA;have hlen2:((as.eraseIdx i).map V.ref).length=(es.eraseIdx i).length:=by rw[length_map,E2.1]
   refine AZ (Ah rfl) (AG (Az (Ah rfl) ho2 T.clO T.nO rfl) (.inl (aa hl2))) _ ?_;rw[hlen2];have wo:=LM.Dn hp he;refine ite2 (fun q=>?_) fun q=>?_
   .have q:i<(es.eraseIdx i).length:=by have:=of_decide_eq_true q;omega
    obtain⟨f0,hf⟩:∃f0,(es.eraseIdx i)[i]? =some f0:=⟨_,getElem?_eq_getElem q⟩;obtain⟨b,hb⟩:∃b,(as.eraseIdx i)[i]? =some b:=⟨_,getElem?_eq_getElem (by rw[E2.1];exact q)⟩;refine AK (Az (Ah rfl) ho2 T.clO T.nO rfl) (Ah rfl) (aa hl2) (AA (j:=i) (v:=V.ref b) rfl (Bh hb)) _ ?_;have hB:=E2.2 i b f0 hb hf;obtain⟨dxb,tsb,tab,b1,b2,b3⟩:=hB
    have em:(if(f0.st:Int)<(e.st:Int) then(f0.st:Int) else(e.st:Int))=((min e.st f0.st:Nat):Int):=by
     split<;>omega
    refine⟨_,rfl,b,dxb,_,rfl,b1,rfl,_,rfl,a,D.entry,dxa,_,_,rfl,a1,T.clE,T.nE2,rfl,_,rfl,b,D.entry,dxb,_,_,rfl,b1,T.clE,T.nE2,rfl,_,_,rfl,?_⟩;rw[em];refine⟨b,f0,min e.st f0.st,rfl,⟨dxb,tsb,tab,b1,b2,b3⟩,fun H3 c c1 s3 hc=>?_⟩;have hl3:=s3 _ _ hl2;refine⟨_,rfl,o,D.order,dx,_,_,rfl,s3 _ _ ho2,T.clO,T.nO,rfl,_,rfl,l,_,(i:Int),i,rfl,rfl,hl3,JN (by rw[hlen2];exact q),?_⟩;rw[<-List.map_set];refine k _ ((as.eraseIdx i).set i c) ?_ ?_
    .have sb3:SameBut l H3 (aj H3 l (.lst (((as.eraseIdx i).set i c).map V.ref))):=af;refine⟨⟨dx,sb3 _ _ (s3 _ _ ho2) (AC ho1 hO1.lst (fun z=>HO.noConfusion z))⟩,Ae,?_⟩;rw[wo];unfold LM.outOf;rw[hf];exact(((E2.same s3).but hl3 sb3).set i (c1.but hl3 sb3))
    .exact(s1.but.trans sb).trans (s3.but.trans af)
   .have hf:(es.eraseIdx i)[i]? =none:=List.getElem?_eq_none_iff.mpr (Nat.le_of_not_lt fun z=>q (decide_eq_true (by omega)));refine k H2 (as.eraseIdx i) ⟨⟨dx,ho2⟩,hl2,?_⟩ (s1.but.trans sb);rw[wo];unfold LM.outOf;rw[hf];exact E2
theorem L9{c:TT}{tb:TS}{D:Ends}{Z:St}{H:Hp}(Pv:St->Hp->Prop)(μ:St->Hp->Nat)(h0:Pv Z H)
  (hs:∀Z H,Pv Z H->∃b,EvT c Z H b/\(b=true->tb {D with nx:=fun Z' H'=>Pv Z' H'/\μ Z' H'<μ Z H,ct:=fun Z' H'=>Pv Z' H'/\μ Z' H'<μ Z H,bk:=D.nx} Z H)/\(b=false->D.nx Z H)):tWhile c tb D Z H:=by
 refine⟨fun m Z H=>m=μ Z H/\Pv Z H,⟨_,rfl,h0⟩,?_⟩;rintro m Z H ⟨rfl,p⟩;obtain⟨b,h1,h2,h3⟩:=hs Z H p;refine h1 _ ?_;cases b with
 |true=>exact⟨_,fun Z' H' ⟨p',l⟩=>⟨_,l,rfl,p'⟩,h2 rfl⟩
 |false=>exact h3 rfl
theorem scOU:FnScope ["self","entry","behind","place"] ["self","entry","behind"] (defScope (inClass (top 58) 4)):=fsc
def spOU(K:Frag)(D:Ad):Sp:=fun vs H Q _=>∃(o l a:Addr)(bv:V)(as:List Addr)(es:Lo.Order)(e:Lo.Entry)(at_:Option (List Nat)),vs=[.ref o,.ref a,bv]/\OrdL D H o l as es/\es.length<=1024/\EntAt D.entry H a e/\StrV K H at_ bv/\
 (at_=none->es=[])/\(∀x,at_=some x->x≠e.s/\(LM.plc es x).isSome=true)/\∀(H':Hp)(as':List Addr),OrdL D H' o l as' (Lo.behind e at_ (Lo.without e.s es))->SameBut l H H'->Q .non H'
theorem StrV.but{H H':Hp}{o:Option (List Nat)}{v:V}{l:Addr}{xs:List V}(h:StrV K H o v)(hl:H l=some (.lst xs))(s:SameBut l H H'):StrV K H' o v:=by
 cases o with
 |none=>exact h
 |some x=>
  obtain⟨a,e,q⟩:=h;refine⟨a,e,?_⟩;rcases q with (q|⟨ob,q⟩)|q
  .exact .inl (.inl (s _ _ q (AC q hl (fun z=>HO.noConfusion z))))
  .exact .inl (.inr ⟨ob,s _ _ q (AC q hl (fun z=>HO.noConfusion z))⟩)
  .exact .inr q
theorem OZ(T:TxB K mg D):MOk P w K mg base 5 D.order "put" ["self","entry","behind"] (spOU K D):=by
 have GP:=IA (P:=P) (w:=w) (base:=base) T;have GT:=OV (P:=P) (w:=w) (base:=base) T;refine T.uO.ok scOU (fun vs H Q E h=>?_) (fun f cdv A outer s H vs Q E hr h=>?_)
 .obtain⟨o,l,a,bv,as,es,e,at_,rfl,_⟩:=h;rfl
 .obtain⟨o,l,a,bv,as,es,e,at_,rfl,hO,hz,hE,hB,hn,hx,k⟩:=h;have hr1:Room 1 _:=hr.mono (by decide)
  refine⟨_,Ab (Au (pm GT T.clO hr (pv 0) (Aa (Ak (pv 1) rfl) Ac)))
   (Ab (Al (i:=3) scOU.nd rfl (inl rfl) Ag)
   (Ab (Av (Cr (JB (pv 2)))
    (Ab (Al (i:=3) scOU.nd rfl (inl rfl) (Ay AN (pm GP T.clO hr1 (pv 0) (Aa (pv 2) Ac)) Ag))
    (Af (A9 PassesOwn.never (PW.pt (BP (An CG (pv 3) (plen T.len (Ak (pv 0) rfl)) (nomark _)) (Bx (An HH (Ak (Ar Ap (Ak (pv 0) rfl) (pv 3) (fun _ _=>rfl)) rfl) (Ak (pv 1) rfl) (nomark _)))))
     (Af (Cs (i:=3) scOU.nd rfl (inl rfl) Ag Cp))))) Ao)
   (Af (Au (AR plainAttrs_list PySem.F.slot_list_insert PySem.F.type_list_insert JY (Ak (pv 0) rfl) (Aa (pv 3) (Aa (pv 1) Ac))))))),?_⟩
  obtain⟨dx,ho⟩:=hO.obj;obtain⟨dxe,ts,ta,e1,e2,e3⟩:=hE;refine⟨_,rfl,o,dx,_,rfl,ho,rfl,_,rfl,a,D.entry,dxe,_,_,rfl,e1,T.clE,T.nE1,rfl,o,l,ts,as,es,e.s,rfl,hO,hz,ab e2,fun H1 as1 hO1 sb=>?_⟩;have hE1:EntAt D.entry H1 a e:=EntAt.but ⟨dxe,ts,ta,e1,e2,e3⟩ hO.lst sb;have hB1:=hB.but hO.lst sb;have hz1:(Lo.without e.s es).length<=1024:=le_trans (LM.Ez _ _) hz;generalize hes:Lo.without e.s es=es1 at hO1 k hz1;obtain⟨dx1,ho1⟩:=hO1.obj;have hlen:(as1.map V.ref).length=es1.length:=by rw[length_map,hO1.ents.1]
  have hs:sizeLine=16777216:=sizeLine_eq
  have fin:∀(p:Nat)(H2:Hp),Same H1 H2->p<=es1.length->Lo.behind e at_ es1=es1.take p++e::es1.drop p->∀Z:St,Z=[some (.ref o),some (.ref a),some bv,some (.int (p:Int))]->
    tDrop (tBM K "list" rInsert (tFld K (tVar 0) "entries") (tCons (tVar 3) (tCons (tVar 1) tNil))) {nx:=fun _ H'=>Q .non H',rt:=Q} Z H2:=by
   rintro p H2 s2 hp hbe Z rfl;have hO2:=hO1.same s2;have ho2:=s2 _ _ ho1;refine⟨_,rfl,o,D.order,dx1,_,_,rfl,ho2,T.clO,T.nO,rfl,.inl ⟨rfl,_,aa hO2.lst⟩,_,rfl,_,rfl,l,_,_,p,_,rfl,rfl,rfl,hO2.lst,(by rw[hlen];exact hp),(by rw[hlen];omega),?_⟩;rw[<-map_take,<-map_drop,<-map_cons (f:=V.ref),<-map_append];have sb2:SameBut l H2 (aj H2 l (.lst ((as1.take p++a::as1.drop p).map V.ref))):=af;refine k _ (as1.take p++a::as1.drop p) ⟨⟨dx1,sb2 _ _ ho2 (AC ho2 hO2.lst (fun z=>HO.noConfusion z))⟩,Ae,?_⟩ (sb.trans (s2.but.trans sb2));rw[hbe];exact(hO2.ents.but hO2.lst sb2).ins p ((hE1.same s2).but hO2.lst sb2)
  refine⟨_,rfl,_,rfl,?_⟩;cases at_ with
  |none=>
   have hbv:bv= .non:=hB1;subst hbv;refine iteF ?_;have he0:=hn rfl;have:es1=[]:=by rw[<-hes,he0];rfl
   exact fin 0 H1 (ad _) (zero_le _) (by rw[this];rfl) _ rfl
  |some x=>
   obtain⟨tb,rfl,hT⟩:=hB1;obtain⟨hxe,hxs⟩:=hx x rfl;have hxs1:(LM.plc es1 x).isSome=true:=by rw[<-hes];exact LM.Er hxe hxs
   obtain⟨i,hi⟩:=isSome_iff_exists.mp hxs1;have hil:=LM.C1 hi;refine iteT ?_;refine⟨_,rfl,o,dx1,_,rfl,ho1,rfl,_,rfl,o,l,tb,as1,es1,x,rfl,hO1,hT,fun H2 s2=>?_⟩;rw[hi];refine⟨_,_,rfl,rfl,?_⟩;have hO2:=hO1.same s2;have ho2:=s2 _ _ ho1;obtain⟨dxe,ts,ta,e1,e2,e3⟩:=hE1.same s2
   refine L9 (fun Z H'=>H'=H2/\∃p:Nat,Z=[some (.ref o),some (.ref a),some (.ref tb),some (.int (p:Int))]/\i+1<=p/\p<=es1.length/\∀j f,i+1<=j->j<p->es1[j]? =some f->e.st<f.st)
    (fun Z _=>match Z with | [_,_,_,some (.int p)]=>es1.length - p.toNat|_=>0)
    ⟨rfl,i+1,rfl,le_refl _,hil,fun j f h1 h2=>absurd h1 (by omega)⟩ ?_
   rintro Z H' ⟨rfl,p,rfl,hp1,hp2,hb⟩
   have evl:EvT (tTest (tOp (rI0 fun i j=>.bl (decide (i<j))) (tVar 3) (tCB (rLen K) (tCons (tFld K (tVar 0) "entries") tNil)))) [some (.ref o),some (.ref a),some (.ref tb),some (.int (p:Int))] H' (decide ((p:Int)<((as1.map V.ref).length:Nat))):=
    AZ (Ah rfl) (AG (Az (Ah rfl) ho2 T.clO T.nO rfl) (.inl (aa hO2.lst)))
   by_cases hpl:p<es1.length
   .obtain⟨f0,hf⟩:∃f0,es1[p]? =some f0:=⟨_,getElem?_eq_getElem hpl⟩;obtain⟨b,hb'⟩:∃b,as1[p]? =some b:=⟨_,getElem?_eq_getElem (by rw[hO1.ents.1];exact hpl)⟩;obtain⟨dxb,tsb,tab,b1,b2,b3⟩:=hO2.ents.2 p b f0 hb' hf;refine⟨_,By evl fun _=>AZ (Az (AK (Az (Ah rfl) ho2 T.clO T.nO rfl) (Ah rfl) (aa hO2.lst) (AA (j:=p) (v:=V.ref b) rfl (Bh hb'))) b1 T.clE T.nE2 rfl) (Az (Ah rfl) e1 T.clE T.nE2 rfl),fun q=>?_,fun q=>?_⟩
    .rw[and_eq_true,decide_eq_true_eq,decide_eq_true_eq]at q;refine⟨_,rfl,_,_,rfl,rfl,⟨rfl,p+1,rfl,by omega,hpl,fun j f h1 h2 h3=>?_⟩,?_⟩
     .by_cases hj:j=p
      .subst hj;rw[hf]at h3;cases h3;omega
      .exact hb j f h1 (by omega) h3
     .show es1.length - ((p:Int)+1).toNat<es1.length - (p:Int).toNat;omega
    .have q:¬e.st<f0.st:=fun z=>by
      have h1:decide ((p:Int)<((as1.map V.ref).length:Nat))=true:=decide_eq_true (by rw[hlen];omega);rw[h1,Bool.true_and,decide_eq_false_iff_not]at q;omega
     exact fin p H' s2 hp2 (LM.FL hi hp1 hb hp2 fun f h=>by rw[hf]at h;cases h;exact q) _ rfl
   .refine⟨_,By (b:=false) evl fun z=>absurd (of_decide_eq_true z) (by rw[hlen];omega),fun q=>?_,fun q=>?_⟩
    .rw[Bool.and_false]at q;cases q
    .exact fin p H' s2 hp2 (LM.FL hi hp1 hb hp2 fun f h=>absurd (List.getElem?_eq_some_iff.mp h).1 hpl) _ rfl
structure TxC (K:Frag) (mg:Str->Option Value) (D:Ad):Prop extends TxB K mg D where
 longest:GInt mg "LONGEST_STRING" 4
 anchor:GInt mg "ANCHOR" 0
 noNumber:GInt mg "NO_NUMBER" (-1)
 amp:GInt mg "AND" 38
 quote:GInt mg "QUOTE" 39
 slash:GInt mg "SLASH" 47
 less:GInt mg "LESS" 60
 equal:GInt mg "EQUAL" 61
 tilde:GInt mg "TILDE" 126
 cS:mg "Step"=some (.ref D.step)
 clS:Cls K D.step
 nS1:NoAttr K D.step "strength"
 nS2:NoAttr K D.step "light"
 nS3:NoAttr K D.step "string"
 nS4:NoAttr K D.step "counts_as"
 nS5:NoAttr K D.step "last_place"
 iS:Id K D.step "Step.__init__" (inClass (top 63) 0) ["self","strength","light","string","counts_as","last_place"]
 cR:mg "Reader"=some (.ref D.reader)
 clR:Cls K D.reader
 nR1:NoAttr K D.reader "row"
 nR2:NoAttr K D.reader "place"
 iR:Id K D.reader "Reader.__init__" (inClass (top 64) 0) ["self","row"]
 eR:Md K D.reader "at_end" "Reader.at_end" (inClass (top 64) 1) ["self"]
 aR:Md K D.reader "ahead" "Reader.ahead" (inClass (top 64) 2) ["self","steps"]
 tR:Md K D.reader "take" "Reader.take" (inClass (top 64) 3) ["self","number"]
 pR:Md K D.reader "pass_blanks" "Reader.pass_blanks" (inClass (top 64) 4) ["self"]
 rRules:Df K mg "read_rules" (top 65) ["row"]
 rStep:Df K mg "read_step" (top 66) ["reader"]
 rAnchor:Df K mg "read_anchor" (top 67) ["reader"]
 rStrength:Df K mg "read_strength" (top 68) ["reader"]
 rRule:Df K mg "read_rule" (top 69) ["reader","strength"]
 rString:Df K mg "read_string" (top 70) ["reader"]
def oz:Option Nat->Int
 |some c=>(c:Int)
 |none=> -1
def ob(p:Nat->Bool):Option Nat->Bool
 |some c=>p c
 |none=>false
structure RdAt (K:Frag) (D:Ad) (H:Hp) (r a:Addr) (row:List Nat) (i:Nat):Prop where
 obj:∃dx,H r=some (.ins D.reader dx [("row",.ref a),("place",.int (i:Int))])
 lst:H a=some (.lst (nv row))
theorem BI{c:TT}{tb:TS}{D:Ends}{Z:St}{H:Hp}(W:Nat->St->Hp->Prop)(h0:∃m,W m Z H)
  (hs:∀m Z H,W m Z H->∃b,EvT c Z H b/\(b=true->tb {D with nx:=fun Z' H'=>∃m',m'<m/\W m' Z' H',ct:=fun Z' H'=>∃m',m'<m/\W m' Z' H',bk:=D.nx} Z H)/\(b=false->D.nx Z H)):tWhile c tb D Z H:=by
 refine⟨W,h0,?_⟩;rintro m Z H p;obtain⟨b,h1,h2,h3⟩:=hs m Z H p;refine h1 _ ?_;cases b with
 |true=>exact⟨_,fun Z' H' q=>q,h2 rfl⟩
 |false=>exact h3 rfl
theorem K5{C:Addr}{m:Str}{sp:Sp}{ta:TE}{Z:St}{H:Hp}{a dx:Addr}{fs:List (Str×V)}{v:V}(ha:Ev ta Z H (.ref a))(h:H a=some (.ins C dx fs))(l:fs.lookup m=none)(hs:∀Q:VK,Q v H->sp [.ref a] H Q E0):Ev (tMeth C m sp [] E0 ta tNil) Z H v:=
 fun Q q=>ha _ ⟨a,dx,fs,rfl,h,l,hs Q q⟩
theorem LL{C:Addr}{m:Str}{sp:Sp}{ta te:TE}{Z:St}{H:Hp}{a dx:Addr}{fs:List (Str×V)}{x v:V}(ha:Ev ta Z H (.ref a))(he:Ev te Z H x)(h:H a=some (.ins C dx fs))(l:fs.lookup m=none)(hs:∀Q:VK,Q v H->sp [.ref a,x] H Q E0):Ev (tMeth C m sp [] E0 ta (tCons te tNil)) Z H v:=
 fun Q q=>ha _ ⟨a,dx,fs,rfl,h,l,he _ (hs Q q)⟩
theorem AQ{sp:Sp}{te:TE}{Z:St}{H:Hp}{x v:V}(he:Ev te Z H x)(hs:∀Q:VK,Q v H->sp [x] H Q E0):Ev (tCall sp [] E0 (tCons te tNil)) Z H v:=fun Q q=>he _ (hs Q q)
def spBo(p:Nat->Bool):Sp:=fun vs H Q _=>∃o:Option Nat,vs=[.int (oz o)]/\Q (.bl (ob p o)) H
theorem NM(o:Option Nat)(l:List Nat):inV (.int (oz o)) (nv l)=ob (fun n=>l.any fun c=>n==c) o:=by
 cases o with
 |some n=>exact L6 n l
 |none=>
  unfold inV nv;rw[List.any_map];show List.any l _=false;rw[List.any_eq_false];intro c _;show¬((c:Int)== -1)=true;rw[beq_iff_eq];omega
theorem Gx(T:TxA K mg):Ok P w K mg base 1 "is_blank" ["number"] (spBo Lo.isBlank):=by
 refine T.isBlank.ok scIsBlank (fun vs H Q E h=>?_) (fun f cdv A outer s H vs Q E hr h=>?_)
 .obtain⟨n,rfl,_⟩:=h;rfl
 .obtain⟨o,rfl,k⟩:=h;refine⟨_,Af (Aj (AW D6 (pv 0) (pgt T.blanks) (by with_unfolding_all rfl))),?_⟩;refine⟨_,rfl,fun a ha=>⟨a,nv [32,9,10],rfl,.inr ha,rfl,JL _,?_⟩⟩;show Q (.bl (inV _ _)) H;rw[NM];have:(fun n=>[32,9,10].any fun c=>n==c)=Lo.isBlank:=funext F9;rw[this];exact k
theorem scRI:FnScope ["self","row"] ["self","row"] (defScope (inClass (top 64) 0)):=fsc
def spRI(C:Addr):Sp:=fun vs H Q _=>∃(p dx a:Addr),vs=[.ref p,.ref a]/\H p=some (.ins C dx [])/\∀(H':Hp),H' p=some (.ins C dx [("row",.ref a),("place",.int 0)])->SameBut p H H'->Q .non H'
theorem OR(T:TxC K mg D):IOk P w K mg base 1 D.reader ["self","row"] (spRI D.reader):=by
 refine T.iR.ok scRI (fun vs H Q E h=>?_) (fun f cdv A outer s H vs Q E hr h=>?_)
 .obtain⟨p,dx,a,rfl,_⟩:=h;rfl
 .obtain⟨p,dx,a,rfl,hp,k⟩:=h;refine⟨_,Ab (AY (pv 0) (pv 1) rfl) (Af (AY (pv 0) Ag rfl)),?_⟩;refine⟨_,rfl,_,rfl,p,D.reader,dx,[],rfl,hp,T.clR,T.nR1,(by decide),?_⟩;refine⟨_,rfl,p,D.reader,dx,_,rfl,Ae,T.clR,T.nR2,(by show 1<1000;decide),?_⟩;exact k _ Ae fun b o e n=>by rw[Am n,Am n];exact e
theorem scSI:FnScope ["self","strength","light","string","counts_as","last_place"] ["self","strength","light","string","counts_as","last_place"] (defScope (inClass (top 63) 0)):=fsc
def stepF(st:Nat)(li:Bool)(ts ta:Addr)(lp:Nat):List (Str×V):=[("strength",.int (st:Int)),("light",.bl li),("string",.ref ts),("counts_as",.ref ta),("last_place",.int (lp:Int))]
def spSI(C:Addr):Sp:=fun vs H Q _=>∃(p dx ts ta:Addr)(st:Nat)(li:Bool)(lp:Nat),vs=[.ref p,.int (st:Int),.bl li,.ref ts,.ref ta,.int (lp:Int)]/\H p=some (.ins C dx [])/\∀(H':Hp),H' p=some (.ins C dx (stepF st li ts ta lp))->SameBut p H H'->Q .non H'
theorem M4(T:TxC K mg D):IOk P w K mg base 1 D.step ["self","strength","light","string","counts_as","last_place"] (spSI D.step):=by
 refine T.iS.ok scSI (fun vs H Q E h=>?_) (fun f cdv A outer s H vs Q E hr h=>?_)
 .obtain⟨p,dx,ts,ta,st,li,lp,rfl,_⟩:=h;rfl
 .obtain⟨p,dx,ts,ta,st,li,lp,rfl,hp,k⟩:=h;refine⟨_,Ab (AY (pv 0) (pv 1) rfl) (Ab (AY (pv 0) (pv 2) rfl) (Ab (AY (pv 0) (pv 3) rfl) (Ab (AY (pv 0) (pv 4) rfl) (Af (AY (pv 0) (pv 5) rfl))))),?_⟩;refine⟨_,rfl,_,rfl,p,D.step,dx,[],rfl,hp,T.clS,T.nS1,(by decide),?_⟩;refine⟨_,rfl,_,rfl,p,D.step,dx,_,rfl,Ae,T.clS,T.nS2,(by show 1<1000;decide),?_⟩;refine⟨_,rfl,_,rfl,p,D.step,dx,_,rfl,Ae,T.clS,T.nS3,(by show 2<1000;decide),?_⟩;refine⟨_,rfl,_,rfl,p,D.step,dx,_,rfl,Ae,T.clS,T.nS4,(by show 3<1000;decide),?_⟩;refine⟨_,rfl,_,rfl,p,D.step,dx,_,rfl,Ae,T.clS,T.nS5,(by show 4<1000;decide),?_⟩;exact k _ Ae fun b o e n=>by rw[Am n,Am n,Am n,Am n,Am n];exact e
theorem scRE:FnScope ["self"] ["self"] (defScope (inClass (top 64) 1)):=fsc
def spRE(K:Frag)(D:Ad):Sp:=fun vs H Q _=>∃(r a:Addr)(row:List Nat)(i:Nat),vs=[.ref r]/\RdAt K D H r a row i/\Q (.bl (decide (row.length<=i))) H
theorem Nf(T:TxC K mg D):MOk P w K mg base 1 D.reader "at_end" ["self"] (spRE K D):=by
 refine T.eR.ok scRE (fun vs H Q E h=>?_) (fun f cdv A outer s H vs Q E hr h=>?_)
 .obtain⟨r,a,row,i,rfl,_⟩:=h;rfl
 .obtain⟨r,a,row,i,rfl,⟨⟨dx,h1⟩,h2⟩,k⟩:=h;refine⟨_,Af (Aj (AW HE (Ak (pv 0) rfl) (plen T.len (Ak (pv 0) rfl)) (nomark _))),?_⟩;refine Jp (Az (Ah rfl) h1 T.clR T.nR2 rfl) (AG (Az (Ah rfl) h1 T.clR T.nR1 rfl) (.inl (aa h2))) _ ?_;have:decide ((((nv row).length:Nat):Int)<=(i:Int))=decide (row.length<=i):=by rw[Aq,decide_eq_decide];omega
  show Q _ H;rw[this];exact k
theorem scRA:FnScope ["self","steps"] ["self","steps"] (defScope (inClass (top 64) 2)):=fsc
def spRA(K:Frag)(D:Ad):Sp:=fun vs H Q _=>∃(r a:Addr)(row:List Nat)(i n:Nat),vs=[.ref r,.int (n:Int)]/\RdAt K D H r a row i/\Q (.int (oz row[i+n]?)) H
theorem KQ(T:TxC K mg D):MOk P w K mg base 1 D.reader "ahead" ["self","steps"] (spRA K D):=by
 refine T.aR.ok scRA (fun vs H Q E h=>?_) (fun f cdv A outer s H vs Q E hr h=>?_)
 .obtain⟨r,a,row,i,n,rfl,_⟩:=h;rfl
 .obtain⟨r,a,row,i,n,rfl,⟨⟨dx,h1⟩,h2⟩,k⟩:=h
  refine⟨_,Ab (Av (An HE (Ay AN (Ak (pv 0) rfl) (pv 1)) (plen T.len (Ak (pv 0) rfl)) (nomark _)) (Af (Aj (pgi T.noNumber))) Ao)
   (Af (Aj (Ar Ap (Ak (pv 0) rfl) (Ay AN (Ak (pv 0) rfl) (pv 1)) (fun _ _=>rfl)))),?_⟩
  refine AZ (De (Az (Ah rfl) h1 T.clR T.nR2 rfl) (Ah rfl)) (AG (Az (Ah rfl) h1 T.clR T.nR1 rfl) (.inl (aa h2))) _ ?_;rw[Aq];refine ite2 (fun q=>?_) fun q=>?_
  .have q:=of_decide_eq_true q;have:row[i+n]? =none:=List.getElem?_eq_none_iff.mpr (by omega);rw[this]at k;exact k
  .have q:i+n<row.length:=Nat.lt_of_not_le fun z=>q (decide_eq_true (by omega));obtain⟨c,hc⟩:∃c,row[i+n]? =some c:=⟨_,getElem?_eq_getElem q⟩;rw[hc]at k;exact AK (Az (Ah rfl) h1 T.clR T.nR1 rfl) (De (Az (Ah rfl) h1 T.clR T.nR2 rfl) (Ah rfl)) (aa h2) (AA (j:=i+n) (v:=V.int (c:Int)) (by omega) (Dz hc)) _ k
theorem M9(o:Option Nat)(c:Nat):decide (V.int (oz o)=V.int (c:Int))=decide (o=some c):=by
 rw[decide_eq_decide];cases o with
 |none=>
  constructor
  .intro z;have z:V.int (-1)=V.int (c:Int):=z;injection z with z
   omega
  .intro z;cases z
 |some d=>
  constructor
  .intro z;have z:V.int (d:Int)=V.int (c:Int):=z;injection z with z
   congr 1;omega
  .intro z;cases z;rfl
theorem CK{Z:St}{H:Hp}{ta te:TE}{r a:Addr}{row:List Nat}{i n:Nat}(R:RdAt K D H r a row i)(h:Ev ta Z H (.ref r))(he:Ev te Z H (.int (n:Int))):Ev (tMeth D.reader "ahead" (spRA K D) [] E0 ta (tCons te tNil)) Z H (.int (oz row[i+n]?)):=by
 obtain⟨dx,h1⟩:=R.obj;exact LL h he h1 rfl fun Q q=>⟨r,a,row,i,n,rfl,R,q⟩
theorem HU{Z:St}{H:Hp}{ta:TE}{r a:Addr}{row:List Nat}{i:Nat}(R:RdAt K D H r a row i)(h:Ev ta Z H (.ref r)):Ev (tMeth D.reader "at_end" (spRE K D) [] E0 ta tNil) Z H (.bl (decide (row.length<=i))):=by
 obtain⟨dx,h1⟩:=R.obj;exact K5 h h1 rfl fun Q q=>⟨r,a,row,i,rfl,R,q⟩
theorem RdAt.next{H:Hp}{r a:Addr}{row:List Nat}{i:Nat}{dx:Addr}(R:RdAt K D H r a row i)(h:H r=some (.ins D.reader dx [("row",.ref a),("place",.int (i:Int))])):RdAt K D (aj H r (.ins D.reader dx [("row",.ref a),("place",.int ((i:Int)+1))])) r a row (i+1):=
 ⟨⟨dx,Ae⟩,af _ _ R.lst (AC R.lst h (fun z=>HO.noConfusion z))⟩
theorem scRT:FnScope ["self","number"] ["self","number"] (defScope (inClass (top 64) 3)):=fsc
def spRT(K:Frag)(D:Ad):Sp:=fun vs H Q _=>∃(r a:Addr)(row:List Nat)(i c:Nat),vs=[.ref r,.int (c:Int)]/\RdAt K D H r a row i/\(row[i]? =some c->∀H',RdAt K D H' r a row (i+1)->SameBut r H H'->Q (.bl true) H')/\(row[i]? ≠some c->Q (.bl false) H)
theorem LY(T:TxC K mg D):MOk P w K mg base 2 D.reader "take" ["self","number"] (spRT K D):=by
 have GA:=KQ (P:=P) (w:=w) (base:=base) T;refine T.tR.ok scRT (fun vs H Q E h=>?_) (fun f cdv A outer s H vs Q E hr h=>?_)
 .obtain⟨r,a,row,i,c,rfl,_⟩:=h;rfl
 .obtain⟨r,a,row,i,c,rfl,R,k1,k2⟩:=h;refine⟨_,Ab (Av (An Bj (pm GA T.clR hr (pv 0) (Aa Ag Ac)) (pv 1) (nomark _)) (Af (Aj CH)) Ao) (Ab (B8 (pv 0) Ag Fv) (Af (Aj CH))),?_⟩;refine Ax (AL (CK R (Ah rfl) ev_c) (Ah rfl) fun Q q=>⟨rfl,q⟩) _ ?_;rw[M9];show if(!decide (row[i]? =some c))=true then _ else _;by_cases hc:row[i]? =some c
  .rw[decide_eq_true hc];obtain⟨dx,h1⟩:=R.obj;refine iteF ⟨_,rfl,r,D.reader,dx,_,_,rfl,h1,T.clR,T.nR2,rfl,_,_,rfl,rfl,dx,_,h1,(by show 2<1000;decide),?_⟩;exact k1 hc _ (R.next h1) af
  .rw[decide_eq_false hc];exact iteT (k2 hc)
theorem scRP:FnScope ["self"] ["self"] (defScope (inClass (top 64) 4)):=fsc
def spRP(K:Frag)(D:Ad):Sp:=fun vs H Q _=>∃(r a:Addr)(row:List Nat)(i:Nat),vs=[.ref r]/\RdAt K D H r a row i/\i<=row.length/\∀(H':Hp)(j:Nat),LM.Skips row i j->RdAt K D H' r a row j->SameBut r H H'->Q .non H'
theorem LH(T:TxC K mg D):MOk P w K mg base 2 D.reader "pass_blanks" ["self"] (spRP K D):=by
 have GA:=KQ (P:=P) (w:=w) (base:=base) T;have GB:=Gx (P:=P) (w:=w) (base:=base) T.toTxA;refine T.pR.ok scRP (fun vs H Q E h=>?_) (fun f cdv A outer s H vs Q E hr h=>?_)
 .obtain⟨r,a,row,i,rfl,_⟩:=h;rfl
 .obtain⟨r,a,row,i,rfl,R,hi,k⟩:=h;refine⟨_,Af (A9 PassesOwn.never (AJ (pc GB hr (Aa (pm GA T.clR hr (pv 0) (Aa Ag Ac)) Ac))) (Af (B8 (pv 0) Ag Fv))),?_⟩
  refine BI (fun m Z H'=>∃j:Nat,m=row.length - j/\Z=[some (.ref r)]/\RdAt K D H' r a row j/\SameBut r H H'/\i<=j/\j<=row.length/\∀n,i<=n->n<j->∃c,row[n]? =some c/\Lo.isBlank c=true)
   ⟨_,i,rfl,rfl,R,(ad _).but,le_refl _,hi,fun n h1 h2=>absurd h1 (by omega)⟩ ?_
  rintro m Z H' ⟨j,rfl,rfl,R',sb,h1,h2,h3⟩;refine⟨_,Bs (AQ (v:=.bl (ob Lo.isBlank row[j]?)) (CK R' (Ah rfl) ev_c) fun Q q=>⟨row[j+0]?,rfl,q⟩),fun q=>?_,fun q=>?_⟩
  .cases e:row[j]? with
   |none=>rw[e]at q;cases q
   |some c=>
    rw[e]at q;obtain⟨dx,o1⟩:=R'.obj;have hj:=LM.Bm e;refine⟨_,rfl,r,D.reader,dx,_,_,rfl,o1,T.clR,T.nR2,rfl,_,_,rfl,rfl,dx,_,o1,(by show 2<1000;decide),row.length - (j+1),(by omega),j+1,rfl,rfl,R'.next o1,sb.trans af,by omega,hj,fun n n1 n2=>?_⟩;by_cases hn:n=j
    .subst hn;exact⟨c,e,q⟩
    .exact h3 n n1 (by omega)
  .refine k H' j ⟨h1,h2,h3,fun c hc=>?_⟩ R' sb;rw[hc]at q;exact q
def rTupOf(K:Frag):List V->Hp->VK->Prop:=fun xs H Q=>∃p ys,xs=[.ref p]/\((SqL K H p ys/\∀l,H l=none->Q (.ref l) (aj H l (.tup ys)))\/(SqT K H p ys/\Q (.ref p) H))
theorem ptuple{X:Cx}{e:Expr}{te:TE}{p pos:Pos}(hm:X.mg "tuple"=none)(he:PE X e te)(hg:Gl X "tuple":=by rfl)(hs:starEach [e] X.env=(false,eval e X.env)::starEach [] X.env:=by rfl):PE X (.Call (.Name "tuple" p) [e] [] pos) (tCB (rTupOf X.K) (tCons te tNil)):=
 C6 FH hg hm PyProof.Rows.boot_tuple (Aa he Ac hs) (he:=hs)
theorem scRS:FnScope ["reader","string","quoted"] ["reader"] (defScope (top 70)):=fsc
def spRS(K:Frag)(D:Ad):Sp:=fun vs H Q _=>∃(r a:Addr)(row:List Nat)(i:Nat),vs=[.ref r]/\RdAt K D H r a row i/\i<=row.length/\
 (∀(H':Hp)(j:Nat),RdAt K D H' r a row j->SameBut r H H'->LM.SNo row i j->Q .non H')/\(∀(H':Hp)(j:Nat)(p:Addr)(s:List Nat),RdAt K D H' r a row j->SameBut r H H'->H' p=some (.tup (nv s))->LM.SGot row i j s->Q (.ref p) H')
theorem RdAt.upd{H:Hp}{r a q:Addr}{row:List Nat}{j:Nat}{xs ys:List V}(R:RdAt K D H r a row j)(hq:H q=some (.lst xs))(hne:q≠a):RdAt K D (aj H q (.lst ys)) r a row j:=by
 obtain⟨dx,h⟩:=R.obj;have s:SameBut q H (aj H q (.lst ys)):=af;exact⟨⟨dx,s _ _ h (AC h hq (fun z=>HO.noConfusion z))⟩,s _ _ R.lst hne.symm⟩
theorem SameBut.fresh{r q:Addr}{H H':Hp}{o:HO}(s:SameBut r H H')(hq:H q=none):SameBut r H (aj H' q o):=fun b u e n=>by
 rw[Am (Ai e hq)];exact s b u e n
theorem M2(T:TxC K mg D):Ok P w K mg base 2 "read_string" ["reader"] (spRS K D):=by
 have GA:=KQ (P:=P) (w:=w) (base:=base) T;have GE:=Nf (P:=P) (w:=w) (base:=base) T;have GS:=CU (P:=P) (w:=w) (base:=base) T.toTxA;have GC:=CD (P:=P) (w:=w) (base:=base) T.toTxA;refine T.rString.ok scRS (fun vs H Q E h=>?_) (fun f cdv A outer s H vs Q E hr h=>?_)
 .obtain⟨r,a,row,i,rfl,_⟩:=h;rfl
 .obtain⟨r,a,row,i,rfl,R,hi,kN,kS⟩:=h
  refine⟨_,Ab (Al (i:=1) scRS.nd rfl (inl rfl) (As Ac)) (Ab (Al (i:=2) scRS.nd rfl (inl rfl) CH)
   (Ab (A9 PassesOwn.never (BK (AJ (pm0 GE T.clR hr (pv 0))))
    (Ab (Av (PW.pt (BP (BK (AJ (pv 2))) (Bx (AJ (pc GS hr (Aa (pm GA T.clR hr (pv 0) (Aa Ag Ac)) Ac)))))) (Af Le) Ao)
    (Ab (Av (PW.pt (BP (An Be (pm GA T.clR hr (pv 0) (Aa Ag Ac)) (pgi T.quote) (nomark _)) (Bx (BK (PW.pt (BP (AJ (pv 2)) (Bx (An Be (pm GA T.clR hr (pv 0) (Aa Ag Ac)) (pgi T.quote) (nomark _)))))))))
     (Ab (Al (i:=2) scRS.nd rfl (inl rfl) (KW (pv 2))) (Ab (B8 (pv 0) Ag Fv) (Af El))) Ao)
    (Ab (Av (An Be (pm GA T.clR hr (pv 0) (Aa Ag Ac)) (pgi T.quote) (nomark _)) (Af (B8 (pv 0) Ag Fv)) Ao)
    (Ab (Av (PW.pt (JT (An Be (plen T.len (pv 1)) (pgi T.longest) (nomark _)) (Hc (BK (AJ (pc GC hr (Aa (pm GA T.clR hr (pv 0) (Aa Ag Ac)) Ac))))))) (Af (Aj Bc)) Ao)
    (Ab (Au (AR plainAttrs_list PySem.F.slot_list_append PySem.F.type_list_append AD (pv 1) (Aa (pm GA T.clR hr (pv 0) (Aa Ag Ac)) Ac)))
    (Af (B8 (pv 0) Ag Fv))))))))
   (Ab (Av (PW.pt (JT (AJ (pv 2)) (Hc (An Be (plen T.len (pv 1)) Ag (nomark _))))) (Af (Aj Bc)) Ao)
   (Af (Aj (ptuple T.tuple (pv 1))))))),?_⟩
  refine⟨zero_le _,fun q hq=>?_⟩;have nqa:q≠a:=(Ai R.lst hq).symm;obtain⟨dx0,hr0⟩:=R.obj;have nqr:q≠r:=(Ai hr0 hq).symm;have hs:sizeLine=16777216:=sizeLine_eq
  have aft:∀(H':Hp)(j:Nat)(acc:List Nat)(b:Bool),RdAt K D H' r a row j->SameBut r H H'->H' q=some (.lst (nv acc))->LM.SI row i j acc b->(row[j]? =none\/(b=false/\∃c,row[j]? =some c/\(Lo.isBlank c=true\/Lo.isSign c=true)))->
    tSeq (tIfS (tOr (tB (tVar 2)) (tTest (tOp rEq (tCB (rLen K) (tCons (tVar 1) tNil)) (tC (.int 0))))) (tRet (tC .non)) tNext) (tRet (tCB (rTupOf K) (tCons (tVar 1) tNil))) {nx:=fun _ H'=>Q .non H',rt:=Q} [some (.ref r),some (.ref q),some (.bl b)] H':=by
   intro H' j acc b R' sb hq' S he;refine IM (a:=b) (b:=decide (V.int (((nv acc).length:Nat):Int)=V.int 0)) (Bs (Ah rfl)) (fun _=>Ax (AL (AG (Ah rfl) (.inl (aa hq'))) ev_c fun Q q=>⟨rfl,q⟩)) _ ?_
   have hd:decide (V.int (((nv acc).length:Nat):Int)=V.int 0)=decide (acc=[]):=by
    rw[Aq,decide_eq_decide];constructor
    .intro z;injection z with z;exact List.length_eq_zero_iff.mp (by omega)
    .intro z;rw[z];rfl
   rw[hd];refine ite2 (fun z=>?_) fun z=>?_
   .refine kN H' j R' sb ?_;rcases he with he|⟨hb,c,hc,hbs⟩
    .exact S.none_end he (by rw[or_eq_true,decide_eq_true_eq]at z;exact z)
    .subst hb;rw[Bool.false_or,decide_eq_true_eq]at z;subst z;exact S.none_here hc hbs
   .have hb:b=false:=by cases b;rfl;exact absurd rfl z
    subst hb;have ha:acc≠[]:=fun y=>z (by rw[y];rfl);refine⟨_,rfl,q,nv acc,rfl,.inl ⟨aa hq',fun l hl=>?_⟩⟩;have s2:Same H' (aj H' l (.tup (nv acc))):=ae hl;obtain⟨dx,o1⟩:=R'.obj;refine kS _ j l acc ⟨⟨dx,s2 _ _ o1⟩,s2 _ _ R'.lst⟩ (sb.trans s2.but) Ae (S.got ha fun c hc=>?_);rcases he with he|⟨_,c',hc',hbs⟩
    .rw[he]at hc;cases hc
    .rw[hc']at hc;cases hc;exact hbs
  refine BI (fun m Z H'=>∃(j:Nat)(acc:List Nat)(b:Bool),m=row.length - j/\Z=[some (.ref r),some (.ref q),some (.bl b)]/\RdAt K D H' r a row j/\SameBut r H H'/\H' q=some (.lst (nv acc))/\LM.SI row i j acc b)
   ⟨_,i,[],false,rfl,rfl,⟨⟨dx0,ae hq _ _ hr0⟩,ae hq _ _ R.lst⟩,(ae hq).but,Ae,LM.SI.start hi⟩ ?_
  rintro m Z H' ⟨j,acc,b,rfl,rfl,R',sb,hq',S⟩;refine⟨_,BT (Bs (HU R' (Ah rfl))),fun z=>?_,fun z=>?_⟩
  .have hj:j<row.length:=by
    rw[not_eq_true',decide_eq_false_iff_not]at z;omega
   obtain⟨c,hc⟩:∃c,row[j]? =some c:=⟨_,getElem?_eq_getElem hj⟩
   have ah:∀Z:St,Z[0]? =some (some (.ref r))->Ev (tMeth D.reader "ahead" (spRA K D) [] E0 (tVar 0) (tCons (tC (.int 0)) tNil)) Z H' (.int (c:Int)):=fun Z h=>by
    have:=CK (n:=0) (te:=tC (.int 0)) R' (Ah h) ev_c;rw[Nat.add_zero,hc]at this;exact this
   have ah1:∀Z:St,Z[0]? =some (some (.ref r))->Ev (tMeth D.reader "ahead" (spRA K D) [] E0 (tVar 0) (tCons (tC (.int 1)) tNil)) Z H' (.int (oz row[j+1]?)):=fun Z h=>CK (n:=1) (te:=tC (.int 1)) R' (Ah h) ev_c;refine By (a:= !b) (b:=Lo.isBlank c || Lo.isSign c) (BT (Bs (Ah rfl))) (fun _=>Bs (AQ (ah _ rfl) fun Q q=>⟨c,rfl,q⟩)) _ ?_;refine ite2 (fun y=>?_) fun hend=>?_
   .rw[and_eq_true,or_eq_true,not_eq_true']at y;rw[y.1]at S⊢;exact aft H' j acc false R' sb hq' S (.inr ⟨rfl,c,hc,y.2⟩)
   have hend:b=true\/¬(Lo.isBlank c=true\/Lo.isSign c=true):=by
    cases b with
    |true=>exact .inl rfl
    |false=>
     refine .inr fun y=>hend ?_;rw[and_eq_true,or_eq_true];exact⟨rfl,y⟩
   refine By (a:=decide (V.int (c:Int)=V.int 39)) (b:= !(b&&decide (V.int (oz row[j+1]?)=V.int 39))) (Ax (AL (ah _ rfl) ev_c fun Q q=>⟨rfl,q⟩))
    (fun _=>BT (By (Bs (Ah rfl)) fun _=>Ax (AL (ah1 _ rfl) ev_c fun Q q=>⟨rfl,q⟩))) _ ?_
   have d1:decide (V.int (c:Int)=V.int 39)=decide (c=Lo.QUOTE):=by
    rw[decide_eq_decide];constructor
    .intro y;injection y with y;show c=39;omega
    .intro y;rw[y];rfl
   have d2:decide (V.int (oz row[j+1]?)=V.int 39)=decide (row[j+1]? =some Lo.QUOTE):=M9 _ 39;rw[d1,d2];obtain⟨dx,o1⟩:=R'.obj;have R2:=R'.next o1;have sb2:SameBut r H (aj H' r (.ins D.reader dx [("row",.ref a),("place",.int ((j:Int)+1))])):=sb.trans af;have hq2:(aj H' r (.ins D.reader dx [("row",.ref a),("place",.int ((j:Int)+1))])) q=some (.lst (nv acc)):=af _ _ hq' nqr
   have tail:∀(H2:Hp)(jj d:Nat),j<=jj->RdAt K D H2 r a row jj->SameBut r H H2->H2 q=some (.lst (nv acc))->row[jj]? =some d->((acc.length=4\/Lo.isChar d=false)->LM.SNo row i jj)->(acc.length≠4->Lo.isChar d=true->LM.SI row i (jj+1) (acc++[d]) b)->∀D0:Ends,
     (∀(Z':St)(H3:Hp),(∃m',m'<row.length - j/\∃(j:Nat)(acc:List Nat)(b:Bool),m'=row.length - j/\Z'=[some (.ref r),some (.ref q),some (.bl b)]/\RdAt K D H3 r a row j/\SameBut r H H3/\H3 q=some (.lst (nv acc))/\LM.SI row i j acc b)->D0.nx Z' H3)->D0.rt=Q->
     tSeq (tIfS (tOr (tTest (tOp rEq (tCB (rLen K) (tCons (tVar 1) tNil)) (tC (.int 4)))) (tNot (tB (tCall (spB Lo.isChar) [] E0 (tCons (tMeth D.reader "ahead" (spRA K D) [] E0 (tVar 0) (tCons (tC (.int 0)) tNil)) tNil))))) (tRet (tC .non)) tNext)
      (tSeq (tDrop (tBM K "list" rAppend (tVar 1) (tCons (tMeth D.reader "ahead" (spRA K D) [] E0 (tVar 0) (tCons (tC (.int 0)) tNil)) tNil))) (sFldAug K (tVar 0) (tC (.int 1)) rAdd "place")) D0 [some (.ref r),some (.ref q),some (.bl b)] H2:=by
    intro H2 jj d hjj Rj sbj hqj hd hno hyes D0 hnx hrt
    have ahj:Ev (tMeth D.reader "ahead" (spRA K D) [] E0 (tVar 0) (tCons (tC (.int 0)) tNil)) [some (.ref r),some (.ref q),some (.bl b)] H2 (.int (d:Int)):=by
     have:=CK (n:=0) (te:=tC (.int 0)) (Z:=[some (.ref r),some (.ref q),some (.bl b)]) (ta:=tVar 0) Rj (Ah rfl) ev_c;rw[Nat.add_zero,hd]at this;exact this
    have hl4:=S.len;refine IM (a:=decide (V.int (((nv acc).length:Nat):Int)=V.int 4)) (b:= !Lo.isChar d) (Ax (AL (AG (Ah rfl) (.inl (aa hqj))) ev_c fun Q q=>⟨rfl,q⟩)) (fun _=>BT (Bs (AQ ahj fun Q q=>⟨d,rfl,q⟩))) _ ?_
    have d4:decide (V.int (((nv acc).length:Nat):Int)=V.int 4)=decide (acc.length=4):=by
     rw[Aq,decide_eq_decide];constructor
     .intro y;injection y with y;omega
     .intro y;rw[y];rfl
    rw[d4];refine ite2 (fun y=>?_) fun y=>?_
    .show D0.rt .non H2;rw[hrt];refine kN H2 jj Rj sbj (hno ?_);rw[or_eq_true,decide_eq_true_eq,not_eq_true']at y;exact y
    .have y1:acc.length≠4:=fun z=>y (by rw[decide_eq_true z];rfl);have y2:Lo.isChar d=true:=by cases h:Lo.isChar d;exact absurd (by rw[h];simp) y;rfl
     refine⟨_,rfl,.inl ⟨rfl,_,aa hqj⟩,ahj _ ⟨q,_,_,rfl,rfl,hqj,(by rw[Aq];omega),?_⟩⟩;have Rk:RdAt K D (aj H2 q (.lst (nv acc++[V.int (d:Int)]))) r a row jj:=Rj.upd hqj nqa;obtain⟨dxk,ok⟩:=Rk.obj;refine⟨_,rfl,r,D.reader,dxk,_,_,rfl,ok,T.clR,T.nR2,rfl,_,_,rfl,rfl,dxk,_,ok,(by show 2<1000;decide),hnx _ _ ⟨row.length - (jj+1),?_,jj+1,acc++[d],b,rfl,rfl,Rk.next ok,(sbj.fresh hq).trans af,?_,hyes y1 y2⟩⟩
     .have:=LM.Bm hd;omega
     .rw[Am nqr,Ae,Bi];rfl
   by_cases hcq:c=Lo.QUOTE
   .subst hcq;rw[decide_eq_true rfl,Bool.true_and];by_cases hdb:b=true/\row[j+1]? =some Lo.QUOTE
    .obtain⟨hb,hc2⟩:=hdb;subst hb;rw[decide_eq_true hc2];refine iteF ?_;refine Ax (AL (ah _ rfl) ev_c fun Q q=>⟨rfl,q⟩) _ ?_;rw[d1,decide_eq_true rfl];refine iteT ⟨_,rfl,r,D.reader,dx,_,_,rfl,o1,T.clR,T.nR2,rfl,_,_,rfl,rfl,dx,_,o1,(by show 2<1000;decide),?_⟩;exact tail _ (j+1) Lo.QUOTE (Nat.le_succ _) R2 sb2 hq2 hc2 (fun h=>S.fifthQ hc hc2 (h.elim id fun h=>by rw[LM.BA]at h;cases h)) (fun h _=>S.twice hc hc2 h) _ (fun _ _ h=>h) rfl
    .have e2:(!(b&&decide (row[j+1]? =some Lo.QUOTE)))=true:=by
      cases b with
      |false=>rfl
      |true=>rw[Bool.true_and,decide_eq_false fun z=>hdb ⟨rfl,z⟩];rfl
     rw[e2];refine iteT ⟨_,rfl,_,rfl,_,rfl,r,D.reader,dx,_,_,rfl,o1,T.clR,T.nR2,rfl,_,_,rfl,rfl,dx,_,o1,(by show 2<1000;decide),row.length - (j+1),(by omega),j+1,acc, !b,rfl,rfl,R2,sb2,hq2,?_⟩;cases b with
     |false=>exact S.opens hc
     |true=>exact S.closes hc fun z=>hdb ⟨rfl,z⟩
   .rw[decide_eq_false hcq,Bool.false_and];refine iteF ?_;refine Ax (AL (ah _ rfl) ev_c fun Q q=>⟨rfl,q⟩) _ ?_;rw[d1,decide_eq_false hcq];refine iteF ?_;exact tail H' j c (le_refl _) R' sb hq' hc (fun h=>S.no hc hcq hend h) (fun h1 h2=>S.char hc hcq hend h2 h1) _ (fun _ _ h=>h) rfl
  .have hj:row[j]? =none:=by
    rw[Bool.not_eq_false',decide_eq_true_eq]at z;exact List.getElem?_eq_none_iff.mpr z
   exact aft H' j acc b R' sb hq' S (.inl hj)
def StepAt(C:Addr)(H:Hp)(a:Addr):Lo.Cmd->Prop
 | .behind s p=>∃dx ts ta,H a=some (.ins C dx (stepF 0 false ts ta p))/\H ts=some (.tup (nv s))/\H ta=some (.tup [])
 | .rule e p=>∃dx ts ta,H a=some (.ins C dx (stepF e.st e.light ts ta p))/\H ts=some (.tup (nv e.s))/\H ta=some (.tup (nv e.as_))
theorem StepAt.same{C:Addr}{H H':Hp}{a:Addr}{c:Lo.Cmd}(h:StepAt C H a c)(s:Same H H'):StepAt C H' a c:=by
 cases c with
 |behind x p=>obtain⟨dx,ts,ta,h1,h2,h3⟩:=h;exact⟨dx,ts,ta,s _ _ h1,s _ _ h2,s _ _ h3⟩
 |rule e p=>obtain⟨dx,ts,ta,h1,h2,h3⟩:=h;exact⟨dx,ts,ta,s _ _ h1,s _ _ h2,s _ _ h3⟩
theorem DU{H H':Hp}{r a p:Addr}{row:List Nat}{i:Nat}{xs:List V}(R:RdAt K D H r a row i)(h:H p=some (.tup xs))(s:SameBut r H H'):H' p=some (.tup xs):=by
 obtain⟨dx,o⟩:=R.obj;exact s _ _ h (AC h o (fun z=>HO.noConfusion z))
theorem Same.rd{H H':Hp}{r a:Addr}{row:List Nat}{i:Nat}(R:RdAt K D H r a row i)(s:Same H H'):RdAt K D H' r a row i:=by
 obtain⟨dx,o⟩:=R.obj;exact⟨⟨dx,s _ _ o⟩,s _ _ R.lst⟩
theorem scRAn:FnScope ["reader","string"] ["reader"] (defScope (top 67)):=fsc
def spRAn(K:Frag)(D:Ad):Sp:=fun vs H Q _=>∃(r a:Addr)(row:List Nat)(i:Nat),vs=[.ref r]/\RdAt K D H r a row i/\i<=row.length/\
 (∀(H':Hp)(j:Nat),RdAt K D H' r a row j->SameBut r H H'->LM.ANo row i j->Q .non H')/\
 (∀(H':Hp)(j:Nat)(p:Addr)(s:List Nat),RdAt K D H' r a row j->SameBut r H H'->StepAt D.step H' p (.behind s (j - 1))->i<j->j<=row.length->LM.CmdOk (.behind s (j - 1))->LM.AGot row i j s->Q (.ref p) H')
theorem Nr(T:TxC K mg D):Ok P w K mg base 3 "read_anchor" ["reader"] (spRAn K D):=by
 have GP:=LH (P:=P) (w:=w) (base:=base) T;have GS:=M2 (P:=P) (w:=w) (base:=base) T;have GM:=M4 (P:=P) (w:=w) (base:=base) T;refine T.rAnchor.ok scRAn (fun vs H Q E h=>?_) (fun f cdv A outer s H vs Q E hr h=>?_)
 .obtain⟨r,a,row,i,rfl,_⟩:=h;rfl
 .obtain⟨r,a,row,i,rfl,R,hi,kN,kS⟩:=h
  refine⟨_,Ab (Au (pm0 GP T.clR hr (pv 0))) (Ab (Al (i:=1) scRAn.nd rfl (inl rfl) (pc GS hr (Aa (pv 0) Ac)))
   (Ab (Av (Cr (E7 (pv 1))) (Af (Aj Bc)) Ao)
   (Af (Aj (pmk GM hr T.cS (Aa (pgi T.anchor) (Aa CH (Aa (pv 1) (Aa (AV Ac) (Aa (Ay Cm (Ak (pv 0) rfl) Ag) Ac)))))))))),?_⟩
  obtain⟨dx,o⟩:=R.obj;refine⟨_,rfl,r,dx,_,rfl,o,rfl,r,a,row,i,rfl,R,hi,fun H1 j1 S1 R1 sb1=>?_⟩;refine⟨_,rfl,r,a,row,j1,rfl,R1,S1.upto,fun H2 j R2 sb2 N=>?_,fun H2 j p s R2 sb2 hp G=>?_⟩
  .refine⟨_,rfl,_,rfl,iteT ?_⟩;exact kN H2 j R2 (sb1.trans sb2) (LM.Kg S1 N)
  .refine⟨_,rfl,_,rfl,iteF ?_⟩;obtain⟨dx2,o2⟩:=R2.obj;refine⟨_,rfl,zero_le _,fun t ht=>?_⟩;have s3:Same H2 (aj H2 t (.tup [])):=ae ht;refine⟨_,rfl,r,D.reader,dx2,_,_,rfl,s3 _ _ o2,T.clR,T.nR2,rfl,_,_,rfl,rfl,?_⟩;intro x d hx hd hne;have hj:=G.from_;have hS:=S1.le;have ej:(j:Int) - 1=((j - 1:Nat):Int):=by omega
   refine⟨x,d,p,t,0,false,j - 1,(by rw[<-ej];rfl),Ae,fun H' q1 q2=>⟨rfl,?_⟩⟩;have s4:Same (aj H2 t (.tup [])) H':=ai hx hd q2;have s5:=s3.trans s4;exact kS H' j x s (Same.rd R2 s5) ((sb1.trans sb2).trans s5.but) ⟨d,p,t,q1,s5 _ _ hp,s4 _ _ Ae⟩ (by omega) G.upto ⟨G.ne,G.len⟩ (LM.IL S1 G)
theorem scRSt:FnScope ["reader","strength"] ["reader"] (defScope (top 68)):=fsc
def spRSt(K:Frag)(D:Ad):Sp:=fun vs H Q _=>∃(r a:Addr)(row:List Nat)(i:Nat),vs=[.ref r]/\RdAt K D H r a row i/\i<=row.length/\
 (∀(H':Hp),RdAt K D H' r a row i->SameBut r H H'->row[i]? ≠some Lo.EQUAL->row[i]? ≠some Lo.LESS->Q .non H')/\
 (∀(H':Hp)(j st:Nat),RdAt K D H' r a row j->SameBut r H H'->i<j->j<=row.length->1<=st->st<=4->LM.SgGot row i j st->Q (.int (st:Int)) H')
theorem Nz(T:TxC K mg D):Ok P w K mg base 3 "read_strength" ["reader"] (spRSt K D):=by
 have GT:=LY (P:=P) (w:=w) (base:=base) T;refine T.rStrength.ok scRSt (fun vs H Q E h=>?_) (fun f cdv A outer s H vs Q E hr h=>?_)
 .obtain⟨r,a,row,i,rfl,_⟩:=h;rfl
 .obtain⟨r,a,row,i,rfl,R,hi,kN,kS⟩:=h
  refine⟨_,Ab (Av (AJ (pm GT T.clR hr (pv 0) (Aa (pgi T.equal) Ac))) (Af (Aj Ag)) Ao) (Ab (Al (i:=1) scRSt.nd rfl (inl rfl) Ag)
   (Ab (A9 PassesOwn.never (PW.pt (BP (An CG (pv 1) Ag (nomark _)) (Bx (AJ (pm GT T.clR hr (pv 0) (Aa (pgi T.less) Ac)))))) (Af (Cs (i:=1) scRSt.nd rfl (inl rfl) Ag Cp)))
   (Af (Aj (AT (An Be (pv 1) Ag (nomark _)) Bc (pv 1)))))),?_⟩
  obtain⟨dx,o⟩:=R.obj;refine⟨_,rfl,r,dx,_,rfl,o,rfl,r,a,row,i,Lo.EQUAL,rfl,R,fun he H1 R1 sb1=>⟨_,rfl,iteT ?_⟩,fun he=>⟨_,rfl,iteF ?_⟩⟩
  .exact kS H1 (i+1) 4 R1 sb1 (by omega) (LM.Bm he) (by omega) (by omega) (LM.Mg he)
  refine⟨fun m Z H'=>∃n:Nat,m=3 - n/\Z=[some (.ref r),some (.int (n:Int))]/\RdAt K D H' r a row (i+n)/\SameBut r H H'/\LM.Less row i n,⟨_,0,rfl,rfl,R,(ad _).but,LM.Less.zero hi⟩,?_⟩;rintro m Z H' ⟨n,rfl,rfl,R',sb,L⟩
  have aft:∀(H2:Hp),RdAt K D H2 r a row (i+n)->SameBut r H H2->(¬n<3\/row[i+n]? ≠some Lo.LESS)->
    tRet (tIf (tTest (tOp rEq (tVar 1) (tC (.int 0)))) (tC .non) (tVar 1)) {nx:=fun _ H'=>Q .non H',rt:=Q} [some (.ref r),some (.int (n:Int))] H2:=by
   intro H2 R2 sb2 hL;refine Ax (AL (Ah rfl) ev_c fun Q q=>⟨rfl,q⟩) _ ?_;by_cases h0:n=0
   .subst h0;refine kN H2 R2 sb2 he (hL.elim (fun h=>absurd (by omega) h) fun h=>h)
   .have:decide (V.int (n:Int)=V.int 0)=false:=decide_eq_false fun z=>by injection z with z;omega
    rw[this];refine iteF ⟨_,rfl,?_⟩;have:=L.le;exact kS H2 (i+n) n R2 sb2 (by omega) L.upto (by omega) (by omega) (L.got (by omega) hL)
  obtain⟨dx',o'⟩:=R'.obj;refine AZ (Ah rfl) ev_c _ ?_;by_cases hn:n<3
  .have:decide ((n:Int)<3)=true:=decide_eq_true (by omega);rw[this];refine iteT ⟨_,rfl,r,dx',_,rfl,o',rfl,r,a,row,i+n,Lo.LESS,rfl,R',fun hc H2 R2 sb2=>⟨_,rfl,iteT ?_⟩,fun hc=>⟨_,rfl,iteF ?_⟩⟩
   .refine⟨_,fun Z' H'' q=>q,?_⟩;refine⟨_,rfl,_,_,rfl,rfl,3 - (n+1),(by omega),n+1,rfl,rfl,R2,sb.trans sb2,L.succ hn hc⟩
   .exact aft H' R' sb (.inr hc)
  .have:decide ((n:Int)<3)=false:=decide_eq_false (by omega);rw[this];exact iteF (iteF (aft H' R' sb (.inl hn)))
theorem MOk.imp{C:Addr}{x:Str}{ps:List Str}{sp sp':Sp}{k:Nat}(o:MOk P w K mg base k C x ps sp)(h:∀vs H Q E,sp' vs H Q E->sp vs H Q E):MOk P w K mg base k C x ps sp':=by
 obtain⟨f,fd,h1,h2,h3⟩:=o.ex;exact⟨f,fd,h1,h2,h3.imp h⟩
def spRT2(K:Frag)(D:Ad):Sp:=fun vs H Q _=>∃(r a:Addr)(row:List Nat)(i c:Nat),vs=[.ref r,.int (c:Int)]/\RdAt K D H r a row i/\∀(H':Hp)(j:Nat)(b:Bool),b=decide (row[i]? =some c)->j=(if b=true then i+1 else i)->RdAt K D H' r a row j->SameBut r H H'->Q (.bl b) H'
theorem N8(T:TxC K mg D):MOk P w K mg base 2 D.reader "take" ["self","number"] (spRT2 K D):=(LY T).imp fun vs H Q E ⟨r,a,row,i,c,e,R,k⟩=>
 ⟨r,a,row,i,c,e,R,fun h H' R' sb=>k H' (i+1) true (decide_eq_true h).symm rfl R' sb,fun h=>k H i false (decide_eq_false h).symm rfl R (ad _).but⟩
theorem scRR:FnScope ["reader","strength","light","string","last_place","counts_as"] ["reader","strength"] (defScope (top 69)):=fsc
def spRR(K:Frag)(D:Ad):Sp:=fun vs H Q _=>∃(r a:Addr)(row:List Nat)(i st:Nat),vs=[.ref r,.int (st:Int)]/\RdAt K D H r a row i/\i<=row.length/\1<=st/\st<=4/\
 (∀(H':Hp)(j:Nat),RdAt K D H' r a row j->SameBut r H H'->LM.WNo row i j st->Q .non H')/\
 (∀(H':Hp)(j:Nat)(p:Addr)(e:Lo.Entry)(lp:Nat),RdAt K D H' r a row j->SameBut r H H'->StepAt D.step H' p (.rule e lp)->i<j->j<=row.length->LM.CmdOk (.rule e lp)->LM.WGot row i j st e lp->Q (.ref p) H')
theorem OQ(T:TxC K mg D):Ok P w K mg base 3 "read_rule" ["reader","strength"] (spRR K D):=by
 have GP:=LH (P:=P) (w:=w) (base:=base) T;have GT:=N8 (P:=P) (w:=w) (base:=base) T;have GS:=M2 (P:=P) (w:=w) (base:=base) T;have GM:=M4 (P:=P) (w:=w) (base:=base) T;refine T.rRule.ok scRR (fun vs H Q E h=>?_) (fun f cdv A outer s H vs Q E hr h=>?_)
 .obtain⟨r,a,row,i,st,rfl,_⟩:=h;rfl
 .obtain⟨r,a,row,i,st,rfl,R,hi,hst1,hst2,kN,kS⟩:=h
  refine⟨_,Ab (Au (pm0 GP T.clR hr (pv 0))) (Ab (Al (i:=2) scRR.nd rfl (inl rfl) (pm GT T.clR hr (pv 0) (Aa (pgi T.tilde) Ac)))
   (Ab (Au (pm0 GP T.clR hr (pv 0))) (Ab (Al (i:=3) scRR.nd rfl (inl rfl) (pc GS hr (Aa (pv 0) Ac)))
   (Ab (Av (Cr (E7 (pv 3))) (Af (Aj Bc)) Ao)
   (Ab (Al (i:=4) scRR.nd rfl (inl rfl) (Ay Cm (Ak (pv 0) rfl) Ag))
   (Ab (Au (pm0 GP T.clR hr (pv 0))) (Ab (Al (i:=5) scRR.nd rfl (inl rfl) (AV Ac))
   (Ab (Av (AJ (pm GT T.clR hr (pv 0) (Aa (pgi T.slash) Ac)))
    (Ab (Au (pm0 GP T.clR hr (pv 0))) (Ab (Al (i:=5) scRR.nd rfl (inl rfl) (pc GS hr (Aa (pv 0) Ac)))
    (Ab (Av (Cr (E7 (pv 5))) (Af (Aj Bc)) Ao)
    (Af (Al (i:=4) scRR.nd rfl (inl rfl) (Ay Cm (Ak (pv 0) rfl) Ag)))))) Ao)
   (Af (Aj (pmk GM hr T.cS (Aa (pv 1) (Aa (pv 2) (Aa (pv 3) (Aa (pv 5) (Aa (pv 4) Ac)))))))))))))))),?_⟩
  obtain⟨dx,o⟩:=R.obj;refine⟨_,rfl,r,dx,_,rfl,o,rfl,r,a,row,i,rfl,R,hi,fun H1 k1 S1 R1 sb1=>?_⟩;obtain⟨dx1,o1⟩:=R1.obj;refine⟨_,rfl,r,dx1,_,rfl,o1,rfl,r,a,row,k1,Lo.TILDE,rfl,R1,fun H2 k2 b hb hk R2 sb2=>?_⟩;obtain⟨dx2,o2⟩:=R2.obj
  have hk2:k2<=row.length:=by
   have:=S1.upto;cases b with
   |false=>rw[if_neg Bool.false_ne_true]at hk;omega
   |true=>
    rw[if_pos rfl]at hk;have:=LM.Bm (of_decide_eq_true hb.symm);omega
  have hk2':k1<=k2:=by
   rw[hk];split<;>omega
  refine⟨_,rfl,r,dx2,_,rfl,o2,rfl,r,a,row,k2,rfl,R2,hk2,fun H3 k3 S3 R3 sb3=>?_⟩;have hPre:LM.Pre row i k1 k2 k3 b:=⟨S1,hb,hk,S3⟩;have sb03:=(sb1.trans sb2).trans sb3;refine⟨_,rfl,r,a,row,k3,rfl,R3,S3.upto,fun H4 j R4 sb4 N=>?_,fun H4 j p s R4 sb4 hp G=>?_⟩
  .exact⟨_,rfl,_,rfl,iteT (kN H4 j R4 (sb03.trans sb4) (LM.Ml hPre N))⟩
  refine⟨_,rfl,_,rfl,iteF ?_⟩;obtain⟨dx4,o4⟩:=R4.obj;have hj:=G.from_;have h1:=S1.le;have h3:=S3.le;refine⟨_,rfl,r,D.reader,dx4,_,_,rfl,o4,T.clR,T.nR2,rfl,_,_,rfl,rfl,?_⟩;refine⟨_,rfl,r,dx4,_,rfl,o4,rfl,r,a,row,j,rfl,R4,G.upto,fun H5 k4 S5 R5 sb5=>?_⟩;have hp5:=DU R4 hp sb5;refine⟨zero_le _,fun t ht=>?_⟩;have s6:Same H5 (aj H5 t (.tup [])):=ae ht;have R6:=Same.rd R5 s6;obtain⟨dx6,o6⟩:=R6.obj;have sb06:=((sb03.trans sb4).trans sb5).trans s6.but;have h5:=S5.le;have ej:(j:Int) - 1=((j - 1:Nat):Int):=by omega
  refine⟨_,rfl,r,dx6,_,rfl,o6,rfl,r,a,row,k4,Lo.SLASH,rfl,R6,fun H7 k5 b2 hb2 hk5 R7 sb7=>⟨_,rfl,?_⟩⟩;have hp7:=DU R6 (s6 _ _ hp5) sb7;have ht7:=DU R6 (Ae (H:=H5) (a:=t) (o:=HO.tup [])) sb7;cases b2 with
  |false=>
   refine iteF ?_;have hs:row[k4]? ≠some Lo.SLASH:=of_decide_eq_false hb2.symm;have hk5:k5=k4:=hk5;subst hk5;refine⟨_,rfl,_,rfl,_,rfl,_,rfl,_,rfl,?_⟩;intro x d hx hd hne;refine⟨x,d,p,t,st,b,j - 1,(by rw[<-ej];rfl),Ae,fun H' q1 q2=>⟨rfl,?_⟩⟩;have s8:Same H7 H':=ai hx hd q2;exact kS H' k5 x ⟨s,st,b,[]⟩ (j - 1) (Same.rd R7 s8) ((sb06.trans sb7).trans s8.but) ⟨d,p,t,q1,s8 _ _ hp7,s8 _ _ ht7⟩ (by omega) S5.upto ⟨G.ne,G.len,zero_le _,hst1,hst2,G.chars,rfl⟩ (LM.K7 hPre G S5 hs)
  |true=>
   refine iteT ?_;have hs:row[k4]? =some Lo.SLASH:=of_decide_eq_true hb2.symm;have hk5:k5=k4+1:=hk5;subst hk5;obtain⟨dx7,o7⟩:=R7.obj;refine⟨_,rfl,r,dx7,_,rfl,o7,rfl,r,a,row,k4+1,rfl,R7,LM.Bm hs,fun H8 k6 S8 R8 sb8=>?_⟩;have hp8:=DU R7 hp7 sb8;refine⟨_,rfl,r,a,row,k6,rfl,R8,S8.upto,fun H9 j2 R9 sb9 N=>?_,fun H9 j2 p2 s2 R9 sb9 hp2 G2=>?_⟩
   .exact⟨_,rfl,_,rfl,iteT (kN H9 j2 R9 (((sb06.trans sb7).trans sb8).trans sb9) (LM.KZ hPre G S5 hs S8 N))⟩
   refine⟨_,rfl,_,rfl,iteF ?_⟩;have hp9:=DU R8 hp8 sb9;obtain⟨dx9,o9⟩:=R9.obj;have hj2:=G2.from_;have h8:=S8.le;have ej2:(j2:Int) - 1=((j2 - 1:Nat):Int):=by omega
   refine⟨_,rfl,r,D.reader,dx9,_,_,rfl,o9,T.clR,T.nR2,rfl,_,_,rfl,rfl,?_⟩;refine⟨_,rfl,_,rfl,_,rfl,_,rfl,_,rfl,?_⟩;intro x d hx hd hne;refine⟨x,d,p,p2,st,b,j2 - 1,(by rw[<-ej2];rfl),Ae,fun H' q1 q2=>⟨rfl,?_⟩⟩;have s10:Same H9 H':=ai hx hd q2;exact kS H' j2 x ⟨s,st,b,s2⟩ (j2 - 1) (Same.rd R9 s10) ((((sb06.trans sb7).trans sb8).trans sb9).trans s10.but) ⟨d,p,p2,q1,s10 _ _ hp9,s10 _ _ hp2⟩ (by omega) G2.upto ⟨G.ne,G.len,G2.len,hst1,hst2,G.chars,G2.chars⟩ (LM.JX hPre G S5 hs S8 G2)
theorem ag{r:Addr}{H H1 H2:Hp}(s:Same H H1)(b:SameBut r H1 H2)(hr:H r=none):Same H H2:=fun c o e=>b c o (s c o e) (Ai e hr)
theorem scRSp:FnScope ["reader","strength"] ["reader"] (defScope (top 66)):=fsc
def spRSp(K:Frag)(D:Ad):Sp:=fun vs H Q _=>∃(r a:Addr)(row:List Nat)(i c:Nat),vs=[.ref r]/\RdAt K D H r a row i/\row[i]? =some c/\Lo.isBlank c=false/\
 (∀(H':Hp)(j:Nat),RdAt K D H' r a row j->SameBut r H H'->LM.RNo row i j->Q .non H')/\
 (∀(H':Hp)(j:Nat)(p:Addr)(c:Lo.Cmd),RdAt K D H' r a row j->SameBut r H H'->StepAt D.step H' p c->i<j->j<=row.length->LM.CmdOk c->LM.RGot row i j c->Q (.ref p) H')
theorem N1(T:TxC K mg D):Ok P w K mg base 4 "read_step" ["reader"] (spRSp K D):=by
 have GT:=LY (P:=P) (w:=w) (base:=base) T;have GA:=Nr (P:=P) (w:=w) (base:=base) T;have GS:=Nz (P:=P) (w:=w) (base:=base) T;have GR:=OQ (P:=P) (w:=w) (base:=base) T;refine T.rStep.ok scRSp (fun vs H Q E h=>?_) (fun f cdv A outer s H vs Q E hr h=>?_)
 .obtain⟨r,a,row,i,c,rfl,_⟩:=h;rfl
 .obtain⟨r,a,row,i,c,rfl,R,hc,hb,kN,kS⟩:=h;have hr2:Room 2 _:=hr.mono (by decide)
  refine⟨_,Ab (Av (AJ (pm GT T.clR hr2 (pv 0) (Aa (pgi T.amp) Ac))) (Af (Aj (pc GA hr (Aa (pv 0) Ac)))) Ao)
   (Ab (Al (i:=1) scRSp.nd rfl (inl rfl) (pc GS hr (Aa (pv 0) Ac)))
   (Ab (Av (Cr (E7 (pv 1))) (Af (Aj Bc)) Ao)
   (Af (Aj (pc GR hr (Aa (pv 0) (Aa (pv 1) Ac))))))),?_⟩
  obtain⟨dx,o⟩:=R.obj;have hi:=LM.Bm hc;refine⟨_,rfl,r,dx,_,rfl,o,rfl,r,a,row,i,Lo.AMP,rfl,R,fun ha H1 R1 sb1=>⟨_,rfl,iteT ?_⟩,fun ha=>⟨_,rfl,iteF ?_⟩⟩
  .refine⟨_,rfl,r,a,row,i+1,rfl,R1,hi,fun H2 j R2 sb2 N=>?_,fun H2 j p s R2 sb2 hp h1 h2 h3 G=>?_⟩
   .exact kN H2 j R2 (sb1.trans sb2) (LM.HZ ha N)
   .exact kS H2 j p _ R2 (sb1.trans sb2) hp (by omega) h2 h3 (LM.Gv ha G)
  .refine⟨_,rfl,r,a,row,i,rfl,R,Nat.le_of_lt hi,fun H2 R2 sb2 h1 h2=>?_,fun H2 j st R2 sb2 h1 h2 h3 h4 G=>?_⟩
   .refine⟨_,rfl,_,rfl,iteT (kN H2 i R2 sb2 fun x hx=>LM.KI hx hc hb (fun z=>ha (by rw[hc,z])) (fun z=>h2 (by rw[hc,z])) (fun z=>h1 (by rw[hc,z])))⟩
   .refine⟨_,rfl,_,rfl,iteF ?_⟩;refine⟨_,rfl,_,rfl,r,a,row,j,st,rfl,R2,h2,h3,h4,fun H3 k R3 sb3 N=>?_,fun H3 k p e lp R3 sb3 hp q1 q2 q3 W=>?_⟩
    .exact kN H3 k R3 (sb2.trans sb3) (LM.G8 G N)
    .exact kS H3 k p _ R3 (sb2.trans sb3) hp (by omega) q2 q3 (LM.FG G W)
def StepsAt(C:Addr)(H:Hp)(as:List Addr)(cs:List Lo.Cmd):Prop:=as.length=cs.length/\∀(i:Nat) a c,as[i]? =some a->cs[i]? =some c->StepAt C H a c
theorem StepsAt.same{C:Addr}{H H':Hp}{as:List Addr}{cs:List Lo.Cmd}(h:StepsAt C H as cs)(s:Same H H'):StepsAt C H' as cs:=⟨h.1,fun i a c h1 h2=>(h.2 i a c h1 h2).same s⟩
theorem StepAt.keep{C:Addr}{H H':Hp}{a:Addr}{c:Lo.Cmd}{q:Addr}{o:HO}(h:StepAt C H a c)(hq:H q=some o)(ho:(∃xs,o= .lst xs)\/∃C dx x y,o= .ins C dx [x,y])(s:SameBut q H H'):StepAt C H' a c:=by
 have n1:∀b xs,H b=some (.tup xs)->b≠q:=fun b xs e=>AC e hq (by
  rcases ho with ⟨ys,rfl⟩|⟨C,dx,x,y,rfl⟩<;>exact fun z=>HO.noConfusion z)
 have n2:∀b C' dx' st li ts ta p,H b=some (.ins C' dx' (stepF st li ts ta p))->b≠q:=fun b C' dx' st li ts ta p e=>AC e hq (by
  rcases ho with ⟨ys,rfl⟩|⟨C,dx,x,y,rfl⟩
  .exact fun z=>HO.noConfusion z
  .intro z;injection z with _ _ z
   have:=congrArg List.length z;exact absurd this (by show¬5=2;decide))
 cases c with
 |behind x p=>obtain⟨dx,ts,ta,h1,h2,h3⟩:=h;exact⟨dx,ts,ta,s _ _ h1 (n2 _ _ _ _ _ _ _ _ h1),s _ _ h2 (n1 _ _ h2),s _ _ h3 (n1 _ _ h3)⟩
 |rule e p=>obtain⟨dx,ts,ta,h1,h2,h3⟩:=h;exact⟨dx,ts,ta,s _ _ h1 (n2 _ _ _ _ _ _ _ _ h1),s _ _ h2 (n1 _ _ h2),s _ _ h3 (n1 _ _ h3)⟩
theorem StepsAt.keep{C:Addr}{H H':Hp}{as:List Addr}{cs:List Lo.Cmd}{q:Addr}{o:HO}(h:StepsAt C H as cs)(hq:H q=some o)(ho:(∃xs,o= .lst xs)\/∃C dx x y,o= .ins C dx [x,y])(s:SameBut q H H'):StepsAt C H' as cs:=
 ⟨h.1,fun i a c h1 h2=>(h.2 i a c h1 h2).keep hq ho s⟩
theorem StepsAt.snoc{C:Addr}{H:Hp}{as:List Addr}{cs:List Lo.Cmd}{a:Addr}{c:Lo.Cmd}(h:StepsAt C H as cs)(ha:StepAt C H a c):StepsAt C H (as++[a]) (cs++[c]):=by
 refine⟨by rw[length_append,length_append,h.1];rfl,fun i b d h1 h2=>?_⟩;rw[List.getElem?_append]at h1 h2;rw[h.1]at h1;by_cases hi:i<cs.length
 .rw[if_pos hi]at h1 h2;exact h.2 i b d h1 h2
 .rw[if_neg hi]at h1 h2;cases hk:i - cs.length with
  |zero=>rw[hk]at h1 h2;cases h1;cases h2;exact ha
  |succ m=>rw[hk]at h1;cases h1
def faV:Option Nat->V
 |none=>.non
 |some j=>.int (j:Int)
def spRRs(D:Ad):Sp:=fun vs H Q _=>∃(a:Addr)(row:List Nat),vs=[.ref a]/\H a=some (.lst (nv row))/\row.length<=1000000/\
 ∀(H':Hp)(t l:Addr)(as:List Addr)(cs:List Lo.Cmd)(o:Option Nat),Same H H'->H' t=some (.tup [.ref l,faV o])->H' l=some (.lst (as.map V.ref))->StepsAt D.step H' as cs->(∀c∈cs,LM.CmdOk c)->Lo.scan 0 Lo.start row=(cs,o)->Q (.ref t) H'
theorem scRRs:FnScope ["row","reader","steps","step"] ["row"] (defScope (top 65)):=fsc
theorem Nk(T:TxC K mg D):Ok P w K mg base 5 "read_rules" ["row"] (spRRs D):=by
 have GI:=OR (P:=P) (w:=w) (base:=base) T;have GP:=LH (P:=P) (w:=w) (base:=base) T;have GE:=Nf (P:=P) (w:=w) (base:=base) T;have GS:=N1 (P:=P) (w:=w) (base:=base) T;refine T.rRules.ok scRRs (fun vs H Q E h=>?_) (fun f cdv A outer s H vs Q E hr h=>?_)
 .obtain⟨a,row,rfl,_⟩:=h;rfl
 .obtain⟨a,row,rfl,ha,hz,k⟩:=h;have hr1:Room 1 _:=hr.mono (by decide);have hr2:Room 2 _:=hr.mono (by decide)
  refine⟨_,Ab (Al (i:=1) scRRs.nd rfl (inl rfl) (pmk GI hr2 T.cR (Aa (pv 0) Ac))) (Ab (Al (i:=2) scRRs.nd rfl (inl rfl) (As Ac))
   (Ab (Au (pm0 GP T.clR hr2 (pv 1)))
   (Ab (A9 PassesOwn.never (BK (AJ (pm0 GE T.clR hr1 (pv 1))))
    (Ab (Al (i:=3) scRRs.nd rfl (inl rfl) (pc GS hr (Aa (pv 1) Ac)))
    (Ab (Av (Cr (E7 (pv 3))) (Af (Aj (AV (Aa (pv 2) (Aa (Ak (pv 1) rfl) Ac))))) Ao)
    (Ab (Au (AR plainAttrs_list PySem.F.slot_list_append PySem.F.type_list_append AD (pv 2) (Aa (pv 3) Ac)))
    (Af (Au (pm0 GP T.clR hr2 (pv 1))))))))
   (Af (Aj (AV (Aa (pv 2) (Aa Bc Ac)))))))),?_⟩
  refine⟨_,rfl,?_⟩;intro r d hr0 hd hne;refine⟨r,d,a,rfl,Ae,fun H1 q1 q2=>⟨rfl,?_⟩⟩;have s1:Same H H1:=ai hr0 hd q2;refine⟨zero_le _,fun q hq=>?_⟩;have s2:Same H1 (aj H1 q (.lst [])):=ae hq;have R2:RdAt K D (aj H1 q (.lst [])) r a row 0:=⟨⟨d,s2 _ _ q1⟩,s2 _ _ (s1 _ _ ha)⟩;obtain⟨dx2,o2⟩:=R2.obj;have hqH:H q=none:=s1.free hq;have nqr:q≠r:=(Ai q1 hq).symm;have nqa:q≠a:=(Ai (s1 _ _ ha) hq).symm;have hs:sizeLine=16777216:=sizeLine_eq;refine⟨_,rfl,r,dx2,_,rfl,o2,rfl,r,a,row,0,rfl,R2,zero_le _,fun H3 j3 S3 R3 sb3=>?_⟩
  refine BI (fun m Z H'=>∃(i:Nat)(as:List Addr)(cs:List Lo.Cmd)(v:Option V),m=row.length - i/\Z=[some (.ref a),some (.ref r),some (.ref q),v]/\Same H H'/\RdAt K D H' r a row i/\H' q=some (.lst (as.map V.ref))/\StepsAt D.step H' as cs/\(∀c∈cs,LM.CmdOk c)/\LM.Rs row i cs/\cs.length<=i)
   ⟨_,j3,[],[],none,rfl,rfl,ag (s1.trans s2) sb3 hr0,R3,sb3 _ _ Ae nqr,⟨rfl,fun i b c h=>by cases h⟩,fun c h=>(by cases h),LM.Rs.start S3,zero_le _⟩ ?_
  rintro m Z H' ⟨i,as,cs,v,rfl,rfl,sH,R',hq',hA,hok,hRs,hcl⟩;refine⟨_,BT (Bs (HU R' (Ah rfl))),fun z=>?_,fun z=>?_⟩
  .have hi:i<row.length:=by
    rw[not_eq_true',decide_eq_false_iff_not]at z;omega
   obtain⟨c,hc⟩:∃c,row[i]? =some c:=⟨_,getElem?_eq_getElem hi⟩;obtain⟨dx,o⟩:=R'.obj;refine⟨_,rfl,r,a,row,i,c,rfl,R',hc,hRs.stop c hc,fun H4 j R4 sb4 N=>?_,fun H4 j p cm R4 sb4 hp h1 h2 h3 G=>?_⟩
   .refine⟨_,rfl,_,rfl,iteT ?_⟩;obtain⟨dx4,o4⟩:=R4.obj;refine⟨_,rfl,_,rfl,r,D.reader,dx4,_,_,rfl,o4,T.clR,T.nR2,rfl,(by show 2<=sizeLine;decide),fun t ht=>?_⟩;have s5:Same H4 (aj H4 t (.tup [.ref q,.int (j:Int)])):=ae ht;refine k _ t q as cs (some j) ((ag sH sb4 hr0).trans s5) Ae (s5 _ _ (sb4 _ _ hq' nqr)) ?_ hok (hRs.no N);exact(hA.keep o (.inr ⟨_,_,_,_,rfl⟩) sb4).same s5
   .refine⟨_,rfl,_,rfl,iteF ?_⟩;have hq4:=sb4 _ _ hq' nqr;have hA4:=hA.keep o (.inr ⟨_,_,_,_,rfl⟩) sb4;refine⟨_,rfl,.inl ⟨rfl,_,aa hq4⟩,_,rfl,q,_,_,rfl,rfl,hq4,(by rw[length_map,hA.1];omega),?_⟩;have e5:as.map V.ref++[V.ref p]=(as++[p]).map V.ref:=by rw[map_append];rfl
    rw[e5];have sb5:SameBut q H4 (aj H4 q (.lst ((as++[p]).map V.ref))):=af;have R5:RdAt K D (aj H4 q (.lst ((as++[p]).map V.ref))) r a row j:=R4.upd hq4 nqa;have hA5:=(hA4.keep hq4 (.inl ⟨_,rfl⟩) sb5).snoc (hp.keep hq4 (.inl ⟨_,rfl⟩) sb5);obtain⟨dx5,o5⟩:=R5.obj;refine⟨_,rfl,r,dx5,_,rfl,o5,rfl,r,a,row,j,rfl,R5,h2,fun H6 j6 S6 R6 sb6=>?_⟩;have hj6:=S6.le;refine⟨row.length - j6,(by omega),j6,as++[p],cs++[cm],_,rfl,rfl,ag (ag (ag sH sb4 hr0) sb5 hqH) sb6 hr0,R6,sb6 _ _ Ae nqr,hA5.keep o5 (.inr ⟨_,_,_,_,rfl⟩) sb6,fun c' hc'=>?_,hRs.got G S6,?_⟩
    .rcases mem_append.mp hc' with h|h
     .exact hok c' h
     .rw[mem_singleton.mp h];exact h3
    .rw[length_append];show cs.length+1<=j6;omega
  .have hi:row.length<=i:=by
    rw[Bool.not_eq_false',decide_eq_true_eq]at z;exact z
   refine⟨_,rfl,(by show 2<=sizeLine;decide),fun t ht=>?_⟩;have s5:Same H' (aj H' t (.tup [.ref q,.non])):=ae ht;exact k _ t q as cs none (sH.trans s5) Ae (s5 _ _ hq') (hA.same s5) hok (hRs.done hi)
structure TxD (K:Frag) (mg:Str->Option Value) (D:Ad):Prop extends TxC K mg D where
 noFault:GInt mg "NO_FAULT" 0
 noRules:GInt mg "NO_RULES" (-1)
 noSuch:GInt mg "NO_SUCH_ENTRY" (-4)
 tooMany:GInt mg "TOO_MANY_ENTRIES" (-5)
 itself:GInt mg "BEHIND_ITSELF" (-6)
 followRules:Df K mg "follow_rules" (top 77) ["order","row"]
 faultOf:Df K mg "fault_of" (top 78) ["order","step","behind"]
theorem scFF:FnScope ["order","step","behind"] ["order","step","behind"] (defScope (top 78)):=fsc
def spFF(K:Frag)(D:Ad):Sp:=fun vs H Q _=>∃(o l a:Addr)(bv:V)(as:List Addr)(es:Lo.Order)(c:Lo.Cmd)(at_:Option (List Nat)),vs=[.ref o,.ref a,bv]/\OrdL D H o l as es/\LM.OInv es/\StepAt D.step H a c/\LM.CmdOk c/\StrV K H at_ bv/\
 ∀H',Same H H'->Q (.int (LM.fk es at_ c)) H'
theorem OX(T:TxD K mg D):Ok P w K mg base 3 "fault_of" ["order","step","behind"] (spFF K D):=by
 have GP:=IA (P:=P) (w:=w) (base:=base) T.toTxB;have GR:=O5 (P:=P) (w:=w) (base:=base) T.toTxB;refine T.faultOf.ok scFF (fun vs H Q E h=>?_) (fun f cdv A outer s H vs Q E hr h=>?_)
 .obtain⟨o,l,a,bv,as,es,c,at_,rfl,_⟩:=h;rfl
 .obtain⟨o,l,a,bv,as,es,c,at_,rfl,hO,hI,hS,hC,hB,k⟩:=h;have hr1:Room 1 _:=hr.mono (by decide)
  refine⟨_,Ab (Av (An Be (Ak (pv 1) rfl) (pgi T.anchor) (nomark _)) (Af (Aj (AT (An Be (pm GP T.clO hr1 (pv 0) (Aa (Ak (pv 1) rfl) Ac)) (pgi T.noPlace) (nomark _)) (pgi T.noSuch) (pgi T.noFault)))) Ao)
   (Ab (Av (An (IW hr.units) (Ak (pv 1) rfl) (pv 2) (nomark _)) (Af (Aj (pgi T.itself))) Ao)
   (Ab (Av (BK (AJ (pm GR T.clO hr (pv 0) (Aa (Ak (pv 1) rfl) Ac)))) (Af (Aj (pgi T.tooMany))) Ao)
   (Af (Aj (pgi T.noFault))))),?_⟩
  obtain⟨dx,ho⟩:=hO.obj;cases c with
  |behind x p=>
   obtain⟨dxa,ts,ta,h1,h2,h3⟩:=hS;refine Ax (AL (Az (Ah rfl) h1 T.clS T.nS1 rfl) ev_c fun Q q=>⟨rfl,q⟩) _ (iteT ?_);refine⟨_,rfl,o,dx,_,rfl,ho,rfl,_,rfl,a,D.step,dxa,_,_,rfl,h1,T.clS,T.nS3,rfl,o,l,ts,as,es,x,rfl,hO,ab h2,fun H' s1=>⟨Dv _ _,_,rfl,?_⟩⟩;have k':=k H' s1;rw[LM.FW]at k';cases hp:LM.plc es x with
   |none=>rw[hp]at k';exact iteT k'
   |some i=>
    rw[hp]at k'
    have e1:decide (plV (some i)=V.int (-1))=false:=decide_eq_false fun z=>by
     have z:V.int (i:Int)=V.int (-1):=z;injection z with z
     omega
    rw[e1];exact iteF k'
  |rule e p=>
   obtain⟨dxa,ts,ta,h1,h2,h3⟩:=hS;obtain⟨c1,c2,c3,c4,c5,c6,c7⟩:=hC;refine Ax (AL (Az (Ah rfl) h1 T.clS T.nS1 rfl) ev_c fun Q q=>⟨rfl,q⟩) _ ?_;have e0:decide (V.int (e.st:Int)=V.int 0)=false:=decide_eq_false fun z=>by injection z with z;omega
   rw[e0];refine iteF ?_;refine Ax (Lh (s:=e.s) (o:=at_) (Az (Ah rfl) h1 T.clS T.nS3 rfl) (Ah rfl) ⟨ts,rfl,ab h2⟩ hB) _ ?_;refine ite2 (fun q=>?_) fun q=>?_
   .have q:at_=some e.s:=of_decide_eq_true q;have k':=k H (ad _);rw[LM.FY q]at k';exact k'
   .have q:at_≠some e.s:=fun z=>q (decide_eq_true z);refine⟨_,rfl,o,dx,_,rfl,ho,rfl,_,rfl,a,D.step,dxa,_,_,rfl,h1,T.clS,T.nS3,rfl,o,l,ts,as,es,e.s,rfl,hO,ab h2,fun H' s1=>⟨_,rfl,?_⟩⟩;have k':=k H' s1;rw[LM.MO q hI.len]at k';cases hb:(decide (es.length<1024) || (LM.plc es e.s).isSome)with
    |true=>rw[hb]at k';exact iteF k'
    |false=>rw[hb]at k';exact iteT k'
theorem scFR:FnScope ["order","row","told","wrong_place","changed","behind","step","fault"] ["order","row"] (defScope (top 77)):=fsc
def spFR(K:Frag)(D:Ad):Sp:=fun vs H Q _=>∃(o l a:Addr)(as:List Addr)(es:Lo.Order)(row:List Nat),vs=[.ref o,.ref a]/\OrdL D H o l as es/\LM.OInv es/\H a=some (.lst (nv row))/\row.length<=1000000/\
 (∀(H':Hp)(t u:Addr)(k:Int)(p:Nat),Lo.rules es row= .error (k,p)->Same H H'->H' t=some (.tup [.ref o,.ref u])->H' u=some (.tup [.int k,.int (p:Int)])->Q (.ref t) H')/\
 (∀(H':Hp)(t c l':Addr)(as':List Addr)(es':Lo.Order),Lo.rules es row= .ok es'->Same H H'->H' t=some (.tup [.ref c,.non])->OrdL D H' c l' as' es'->LM.OInv es'->H l'=none->Q (.ref t) H')
def wf(o:Option Nat)(p:Lo.Order):Except (Int×Nat) Lo.Order:=match o with
 |some i=>.error (-1,i)
 |none=>.ok p
theorem Ke{es:Lo.Order}{row:List Nat}{cs:List Lo.Cmd}{o:Option Nat}{x:Int×Nat}(hs:Lo.scan 0 Lo.start row=(cs,o))(h:Lo.followAll es (Lo.lastOf es) cs= .error x):Lo.rules es row= .error x:=by
 unfold Lo.rules;rw[hs];show(match Lo.followAll es (Lo.lastOf es) cs with | .error x=>_ | .ok p=>_)=_;rw[h]
theorem LZ{es p:Lo.Order}{row:List Nat}{cs:List Lo.Cmd}{o:Option Nat}(hs:Lo.scan 0 Lo.start row=(cs,o))(h:Lo.followAll es (Lo.lastOf es) cs= .ok p):Lo.rules es row=wf o p:=by
 unfold Lo.rules;rw[hs];show(match Lo.followAll es (Lo.lastOf es) cs with | .error x=>_ | .ok p=>_)=_;rw[h];rfl
theorem Mi(k:Int):scal (.int k) (.int 0)=true:=rfl
theorem OA(T:TxD K mg D):Ok P w K mg base 6 "follow_rules" ["order","row"] (spFR K D):=by
 have GRd:=Nk (P:=P) (w:=w) (base:=base) T.toTxC;have GOI:=L3 (P:=P) (w:=w) (base:=base) T.toTxB;have GL:=OL (P:=P) (w:=w) (base:=base) T.toTxB;have GF:=OX (P:=P) (w:=w) (base:=base) T;have GU:=OZ (P:=P) (w:=w) (base:=base) T.toTxB;have GEI:=Nc (P:=P) (w:=w) (base:=base) T.toTxB;refine T.followRules.ok scFR (fun vs H Q E h=>?_) (fun f cdv A outer s H vs Q E hr h=>?_)
 .obtain⟨o,l,a,as,es,row,rfl,_⟩:=h;rfl
 .obtain⟨o,l,a,as,es,row,rfl,hO,hI,ha,hz,kE,kO⟩:=h;have hr1:Room 1 _:=hr.mono (by decide);have hr2:Room 2 _:=hr.mono (by decide);have hr3:Room 3 _:=hr.mono (by decide)
  refine⟨_,Ab (Al (i:=2) scFR.nd rfl (inl rfl) (pc GRd hr (Aa (pv 1) Ac)))
   (Ab (Al (i:=3) scFR.nd rfl (inl rfl) (Ar AB (pv 2) Ag (fun _ _=>rfl)))
   (Ab (Al (i:=4) scFR.nd rfl (inl rfl) (pmk GOI hr2 T.cO (Aa (Ak (pv 0) rfl) Ac)))
   (Ab (Al (i:=5) scFR.nd rfl (inl rfl) (pm0 GL T.clO hr1 (pv 4)))
   (Ab (Ba PassesOwn.never rfl (AE (Ar AB (pv 2) Ag (fun _ _=>rfl))) (At (i:=6) scFR.nd rfl (inl rfl))
    (Ab (Al (i:=7) scFR.nd rfl (inl rfl) (pc GF hr3 (Aa (pv 4) (Aa (pv 6) (Aa (pv 5) Ac)))))
    (Ab (Av (An Bj (pv 7) (pgi T.noFault) (nomark _)) (Af (Aj (AV (Aa (pv 0) (Aa (AV (Aa (pv 7) (Aa (Ak (pv 6) rfl) Ac))) Ac))))) Ao)
    (Ab (Av (An Bj (Ak (pv 6) rfl) (pgi T.anchor) (nomark _)) (Af (Au (pm GU T.clO hr (pv 4) (Aa (pmk GEI hr2 T.cE (Aa (Ak (pv 6) rfl) (Aa (Ak (pv 6) rfl) (Aa (Ak (pv 6) rfl) (Aa (Ak (pv 6) rfl) Ac))))) (Aa (pv 5) Ac))))) Ao)
    (Af (Al (i:=5) scFR.nd rfl (inl rfl) (Ak (pv 6) rfl)))))))
   (Ab (Av (Cr (JB (pv 3))) (Af (Aj (AV (Aa (pv 0) (Aa (AV (Aa (pgi T.noRules) (Aa (pv 3) Ac))) Ac))))) Ao)
   (Af (Aj (AV (Aa (pv 4) (Aa Bc Ac)))))))))),?_⟩
  refine⟨_,rfl,a,row,rfl,ha,hz,fun H1 t0 ls sas cs fo s1 ht0 hls hSt hCm hsc=>?_⟩;refine CS (Ah rfl) ev_c (ab ht0) (AA (j:=1) (v:=faV fo) rfl rfl) _ ?_;have hO1:=hO.same s1;obtain⟨dx,ho1⟩:=hO1.obj;refine⟨_,rfl,o,D.order,dx,_,_,rfl,ho1,T.clO,T.nO,rfl,?_⟩;intro c d hc hd hne
  have hl0:(aj (aj H1 d (.own c)) c (.ins D.order d [])) l=some (.lst (as.map V.ref)):=by
   rw[Am (Ai hO1.lst hc),Am (Ai hO1.lst hd)];exact hO1.lst
  refine⟨c,d,l,_,rfl,Ae,aa hl0,fun H2 lc q1 q2 q3 q4=>⟨rfl,?_⟩⟩;have s2:Same H1 H2:=ai hc hd q4
  have hlc1:H1 lc=none:=by
   cases e:H1 lc with
   |none=>rfl
   |some u=>
    have:=q3;rw[Am (Ai e hc),Am (Ai e hd),e]at this;cases this
  have hlcH:H lc=none:=s1.free hlc1;have nls:ls≠lc:=Ai hls hlc1;have hOc:OrdL D H2 c lc as es:=⟨⟨d,q1⟩,q2,hO1.ents.same s2⟩;refine⟨_,rfl,c,d,_,rfl,q1,rfl,c,lc,as,es,rfl,hOc,fun bv hbv=>?_⟩;refine CS (Ah rfl) ev_c (ab (s2 _ _ ht0)) (AA (j:=0) (v:=V.ref ls) rfl rfl) _ ⟨ls,rfl,⟨_,aa (s2 _ _ hls)⟩,?_⟩
  refine Bt (K:=K) (a:=ls) (xs:=sas.map V.ref) (fun i Z H'=>∃(as':List Addr)(es':Lo.Order)(at_:Option (List Nat))(bv:V)(v6 v7:Option V),Z=[some (.ref o),some (.ref a),some (.ref t0),some (faV fo),some (.ref c),some bv,v6,v7]/\Same H H'/\
    OrdL D H' c lc as' es'/\LM.OInv es'/\LM.AtOk es' at_/\StrV K H' at_ bv/\H' ls=some (.lst (sas.map V.ref))/\StepsAt D.step H' sas cs/\Lo.followAll es (Lo.lastOf es) cs=Lo.followAll es' at_ (cs.drop i))
   ⟨as,es,Lo.lastOf es,bv,none,none,rfl,s1.trans s2,hOc,hI,LM.Kb es,hbv,s2 _ _ hls,hSt.same s2,rfl⟩ (fun i Z H' _ ⟨_,_,_,_,_,_,_,_,_,_,_,_,h,_⟩=>aa h) ?_ ?_
  .rintro i y Z H3 hi ⟨as',es',at_,bv',v6,v7,rfl,sH,hO3,hI3,hA3,hB3,hls3,hSt3,hfa⟩;obtain⟨p,hp,rfl⟩:=AU hi;have hil:i<cs.length:=by rw[<-hSt3.1];exact(List.getElem?_eq_some_iff.mp hp).1
   obtain⟨cm,hcm⟩:∃cm,cs[i]? =some cm:=⟨_,getElem?_eq_getElem hil⟩;have hcok:=hCm cm (mem_of_getElem? hcm)
   have hdrop:cs.drop i=cm::cs.drop (i+1):=by
    rw[drop_eq_getElem_cons hil]
    congr 1;exact Option.some.inj ((getElem?_eq_getElem hil).symm.trans hcm)
   rw[hdrop]at hfa;have hp3:=hSt3.2 i p cm hp hcm;refine⟨_,rfl,_,rfl,_,rfl,c,lc,p,bv',as',es',cm,at_,rfl,hO3,hI3,hp3,hcok,hB3,fun H4 s4=>?_⟩;have hO4:=hO3.same s4;have hp4:=hp3.same s4;have hB4:=hB3.same s4;refine⟨_,rfl,Mi _,_,rfl,?_⟩;by_cases hk:LM.fk es' at_ cm=0
   .
    have e0:(!decide (V.int (LM.fk es' at_ cm)=V.int 0))=false:=by rw[hk];rfl
    rw[e0];refine iteF ?_;cases cm with
    |behind x pl=>
     obtain⟨dxp,ts,ta,h1,h2,h3⟩:=hp4;refine Ax (AL (Az (Ah rfl) h1 T.clS T.nS1 rfl) ev_c fun Q q=>⟨rfl,q⟩) _ (iteF ?_);refine Az (Ah rfl) h1 T.clS T.nS3 rfl _ ?_
     have hx:(LM.plc es' x).isSome=true:=by
      rw[LM.FW]at hk;by_cases hx:(LM.plc es' x).isSome=true
      .exact hx
      .rw[if_neg hx]at hk;cases hk
     refine⟨as',es',some x,.ref ts,_,_,rfl,sH.trans s4,hO4,hI3,⟨fun z=>(by cases z),fun x' hx'=>(by cases hx';exact hx)⟩,⟨ts,rfl,ab h2⟩,s4 _ _ hls3,hSt3.same s4,?_⟩;rw[hfa,LM.DA (LM.FJ hx)]
    |rule e pl=>
     obtain⟨dxp,ts,ta,h1,h2,h3⟩:=hp4;have hcok':=hcok;obtain⟨c1,c2,c3,c4,c5,c6,c7⟩:=hcok';refine Ax (AL (Az (Ah rfl) h1 T.clS T.nS1 rfl) ev_c fun Q q=>⟨rfl,q⟩) _ ?_;have e0:(!decide (V.int (e.st:Int)=V.int 0))=true:=by rw[decide_eq_false fun z=>by injection z with z;omega];rfl
     rw[e0];refine iteT ?_;obtain⟨dx4,ho4⟩:=hO4.obj;refine⟨_,rfl,c,dx4,_,rfl,ho4,rfl,_,rfl,p,D.step,dxp,_,_,rfl,h1,T.clS,T.nS3,rfl,_,rfl,p,D.step,dxp,_,_,rfl,h1,T.clS,T.nS1,rfl,_,rfl,p,D.step,dxp,_,_,rfl,h1,T.clS,T.nS2,rfl,_,rfl,p,D.step,dxp,_,_,rfl,h1,T.clS,T.nS4,rfl,?_⟩;intro x dxx hx hdx hne;refine⟨x,dxx,ts,ta,e.st,e.light,rfl,Ae,fun H5 q1' q2'=>⟨rfl,?_⟩⟩;have s5:Same H4 H5:=ai hx hdx q2';have hE5:EntAt D.entry H5 x e:=⟨dxx,ts,ta,q1',s5 _ _ h2,s5 _ _ h3⟩;refine⟨_,rfl,c,lc,x,bv',as',es',e,at_,rfl,hO4.same s5,hI3.len,hE5,hB4.same s5,hA3.1,fun y hy=>⟨fun z=>(LM.D5 hk).1 (by rw[hy,z]),hA3.2 y hy⟩,fun H6 as6 hO6 sb6=>?_⟩;have hlc5:=(hO4.same s5).lst;have h16:=sb6 _ _ (s5 _ _ h1) (AC (s5 _ _ h1) hlc5 (fun z=>HO.noConfusion z));have h26:=sb6 _ _ (s5 _ _ h2) (AC (s5 _ _ h2) hlc5 (fun z=>HO.noConfusion z));refine Az (Ah rfl) h16 T.clS T.nS3 rfl _ ?_;refine⟨as6,_,some e.s,.ref ts,_,_,rfl,ag (sH.trans (s4.trans s5)) sb6 hlcH,hO6,hI3.rule hcok hk,LM.AtOk.rule,⟨ts,rfl,ab h26⟩,sb6 _ _ (s5 _ _ (s4 _ _ hls3)) nls,(hSt3.same (s4.trans s5)).keep hlc5 (.inl ⟨_,rfl⟩) sb6,?_⟩;rw[hfa,LM.DA (LM.Ib hk)]
   .have e0:(!decide (V.int (LM.fk es' at_ cm)=V.int 0))=true:=by rw[decide_eq_false fun z=>by injection z with z;exact hk z];rfl
    rw[e0];refine iteT ?_
    obtain⟨dxp,fs,hpp,hlp⟩:∃dxp fs,H4 p=some (.ins D.step dxp fs)/\fs.lookup ("last_place":Str)=some (V.int (cm.place:Int)):=by
     cases cm with
     |behind x pl=>obtain⟨dxp,ts,ta,h1,_⟩:=hp4;exact⟨dxp,_,h1,rfl⟩
     |rule e pl=>obtain⟨dxp,ts,ta,h1,_⟩:=hp4;exact⟨dxp,_,h1,rfl⟩
    refine⟨_,rfl,_,rfl,_,rfl,p,D.step,dxp,_,_,rfl,hpp,T.clS,T.nS5,hlp,(by show 2<=sizeLine;decide),fun u hu=>⟨(by show 2<=sizeLine;decide),fun t ht=>?_⟩⟩;have s5:Same H4 (aj H4 u (.tup [.int (LM.fk es' at_ cm),.int (cm.place:Int)])):=ae hu;have s6:Same (aj H4 u (.tup [.int (LM.fk es' at_ cm),.int (cm.place:Int)])) (aj (aj H4 u (.tup [.int (LM.fk es' at_ cm),.int (cm.place:Int)])) t (.tup [.ref o,.ref u])):=ae ht;refine kE _ t u (LM.fk es' at_ cm) cm.place (Ke hsc ?_) ((sH.trans s4).trans (s5.trans s6)) Ae (s6 _ _ Ae);rw[hfa,LM.FF hk]
  .rintro Z H3 ⟨as',es',at_,bv',v6,v7,rfl,sH,hO3,hI3,hA3,hB3,hls3,hSt3,hfa⟩
   have hfo:Lo.followAll es (Lo.lastOf es) cs= .ok es':=by
    rw[hfa,length_map,hSt3.1,List.drop_length];rfl
   have hrl:=LZ hsc hfo;refine⟨_,rfl,_,rfl,?_⟩;cases fo with
   |some j=>
    refine iteT ⟨_,rfl,_,rfl,(by show 2<=sizeLine;decide),fun u hu=>⟨(by show 2<=sizeLine;decide),fun t ht=>?_⟩⟩;have s5:Same H3 (aj H3 u (.tup [.int (-1),.int (j:Int)])):=ae hu;have s6:Same (aj H3 u (.tup [.int (-1),.int (j:Int)])) (aj (aj H3 u (.tup [.int (-1),.int (j:Int)])) t (.tup [.ref o,.ref u])):=ae ht;exact kE _ t u (-1) j hrl (sH.trans (s5.trans s6)) Ae (s6 _ _ Ae)
   |none=>
    refine iteF ⟨_,rfl,(by show 2<=sizeLine;decide),fun t ht=>?_⟩;have s5:Same H3 (aj H3 t (.tup [.ref c,.non])):=ae ht;exact kO _ t c lc as' es' hrl (sH.trans s5) Ae (hO3.same s5) hI3 hlcH
theorem Oj{K:Frag}{a:Addr}{xs:List V}{g:TG}{tt:TT}{te:TE}{vs:List Nat}{Z:St}{Q:Hp->Prop}{H1:Hp}{D:Addr}(Pv:Nat->Hp->Prop)(h0:Pv 0 (aj H1 D (.lst [])))
  (hl:∀i H,i<=xs.length->Pv i H->SqT K H a xs)
  (hs:∀i x H,xs[i]? =some x->Pv i H->g x (wipe Z vs) H fun Z2 H2=>wipe Z2 vs=wipe Z vs/\tt Z2 H2 fun b H3=>if b=true then te Z2 H3 fun y H4=>∃acc,H4 D=some (.lst acc)/\acc.length<sizeLine/\Pv (i+1) (aj H4 D (.lst (acc++[y]))) else Pv (i+1) H3)
  (hd:∀H,Pv xs.length H->Q H):
  ∃W:Nat->Nat->Hp->Prop,(∃m,W 0 m (aj H1 D (.lst [])))/\∀i m H,W i m H->
   ((Itt K a).stop i H/\Q H)\/((Itt K a).go i H/\∃Nx:Hp->Prop,(∀H',Nx H'->∃m',m'<m/\W (i+1) m' H')/\∀x H',(Itt K a).yld i H x H'->g x (wipe Z vs) H' fun Z2 H2=>wipe Z2 vs=wipe Z vs/\tt Z2 H2 fun b H3=>
    if b=true then te Z2 H3 fun y H4=>∃acc,H4 D=some (.lst acc)/\acc.length<sizeLine/\Nx (aj H4 D (.lst (acc++[y]))) else Nx H3):=by
 refine⟨fun i m H=>m=xs.length - i/\i<=xs.length/\Pv i H,⟨xs.length,by simp,zero_le _,h0⟩,?_⟩;rintro i m H ⟨rfl,hi,p⟩;have q:=hl i H hi p;by_cases hlt:i<xs.length
 .refine .inr ⟨⟨xs,xs[i],q,by simp[hlt]⟩,Pv (i+1),fun H' p'=>⟨xs.length - (i+1),by omega,rfl,hlt,p'⟩,fun x H' y=>?_⟩;obtain⟨e,y⟩:=y;subst e;exact hs i x _ (y xs q) p
 .have e:i=xs.length:=by omega
  subst e;exact .inl ⟨⟨xs,q,le_refl _⟩,hd H p⟩
theorem Ms{K:Frag}{a:Addr}{xs ys:List V}{te:TE}(v:Nat){Z:St}{Q:Hp->Prop}{H1:Hp}{D:Addr}(hD:H1 D=none)(ha:SqT K H1 a xs)(hlen:ys.length=xs.length)(hz:xs.length<=sizeLine)
  (hs:∀(i:Nat)(x y:V)(H:Hp),xs[i]? =some x->ys[i]? =some y->Same H1 H->∀R:VK,(∀H',Same H H'->R y H')->te ((wipe Z [v]).set v (some x)) H R)
  (hd:∀H,Same H1 H->H D=some (.lst ys)->Q H):
  ∃W:Nat->Nat->Hp->Prop,(∃m,W 0 m (aj H1 D (.lst [])))/\∀i m H,W i m H->
   ((Itt K a).stop i H/\Q H)\/((Itt K a).go i H/\∃Nx:Hp->Prop,(∀H',Nx H'->∃m',m'<m/\W (i+1) m' H')/\∀x H',(Itt K a).yld i H x H'->gName v x (wipe Z [v]) H' fun Z2 H2=>wipe Z2 [v]=wipe Z [v]/\tYes Z2 H2 fun b H3=>
    if b=true then te Z2 H3 fun y H4=>∃acc,H4 D=some (.lst acc)/\acc.length<sizeLine/\Nx (aj H4 D (.lst (acc++[y]))) else Nx H3):=by
 refine Oj (Pv:=fun i H=>Same H1 H/\H D=some (.lst (ys.take i))) ⟨ae hD,Ae⟩ (fun i H _ p=>p.1.sqT ha) (fun i x H hx p=>?_) fun H p=>hd H p.1 (by rw[p.2,<-hlen,take_length]);have hi:i<ys.length:=by rw[hlen];exact(List.getElem?_eq_some_iff.mp hx).1
 refine⟨?_,hs i x ys[i] H hx (getElem?_eq_getElem hi) p.1 _ fun H' s=>⟨ys.take i,s _ _ p.2,?_,?_,?_⟩⟩
 .show(((wipe Z []).set v none).set v (some x)).set v none=(wipe Z []).set v none;rw[set_set,set_set]
 .rw[length_take];omega
 .intro b o e;rw[Am (Ai e hD)];exact s _ _ (p.1 _ _ e)
 .rw[Ae,take_add_one,getElem?_eq_getElem hi];rfl
structure TxE (K:Frag) (mg:Str->Option Value) (D:Ad):Prop extends TxD K mg D where
 blank:GInt mg "BLANK" 32
 lineFeed:GInt mg "LINE_FEED" 10
 wOrder:Df K mg "written_order" (top 96) ["order"]
 wEntry:Df K mg "written_entry" (top 97) ["entry"]
 wString:Df K mg "written_string" (top 98) ["string"]
theorem Fm(s:List Nat):(writtenString s).length<=2 * s.length+2:=by
 have h:∀s:List Nat,(s.flatMap fun(c:Nat)=>if c=Lo.QUOTE then [Lo.QUOTE,Lo.QUOTE] else [c]).length<=2 * s.length:=by
  intro s
  induction s with
  |nil=>exact le_refl _
  |cons c s ih=>
   rw[List.flatMap_cons,length_append,length_cons];have:(if c=Lo.QUOTE then [Lo.QUOTE,Lo.QUOTE] else [c]).length<=2:=by split<;>simp
   omega
 unfold writtenString;split
 .rw[length_cons,length_append];have:=h s;simp only[List.length_singleton];omega
 .omega
theorem Ma{e:Lo.Entry}(h1:e.s.length<=4)(h2:e.as_.length<=4)(h3:e.st<=4):(Lo.writtenEntry e).length<=40:=by
 unfold Lo.writtenEntry;have a:=Fm e.s;have b:=Fm e.as_
 have c:(if e.st=4 then [Lo.EQUAL] else List.replicate e.st Lo.LESS).length<=4:=by
  split
  .simp
  .rw[List.length_replicate];exact h3
 have d:(if e.light=true then [Lo.TILDE,32] else []).length<=2:=by split<;>simp
 have f:(if e.as_=[] then [] else [32,Lo.SLASH,32]++writtenString e.as_).length<=13:=by
  split
  .simp
  .rw[length_append];simp only[length_cons,length_nil];omega
 simp only[length_append,length_cons,length_nil]at *
 omega
theorem scWS:FnScope ["string","row","number"] ["string"] (defScope (top 98)):=fsc
def spWS(K:Frag):Sp:=fun vs H Q _=>∃(a:Addr)(s:List Nat),vs=[.ref a]/\H a=some (.tup (nv s))/\s.length<=1000/\∀(H':Hp)(l:Addr),Same H H'->H' l=some (.lst (nv (writtenString s)))->Q (.ref l) H'
theorem Jo(n:Nat)(l:List Nat):nv (n::l)=V.int (n:Int)::nv l:=rfl
theorem dq(c:Nat):decide (V.int (c:Int)=V.int 39)=decide (c=Lo.QUOTE):=by
 rw[decide_eq_decide];constructor
 .intro y;injection y with y;show c=39;omega
 .intro y;rw[y];rfl
theorem KK(c:Nat):(decide (c=Lo.QUOTE) || (Lo.isBlank c || Lo.isSign c))=Lo.needs c:=by
 unfold Lo.needs;rw[Bool.or_comm]
 congr 1
theorem Oz(T:TxE K mg D):Ok P w K mg base 2 "written_string" ["string"] (spWS K):=by
 have GS:=CU (P:=P) (w:=w) (base:=base) T.toTxA;refine T.wString.ok scWS (fun vs H Q E h=>?_) (fun f cdv A outer s H vs Q E hr h=>?_)
 .obtain⟨a,s,rfl,_⟩:=h;rfl
 .obtain⟨a,s,rfl,ha,hz,k⟩:=h
  refine⟨_,Ab (Av (BK (AJ (BF (Ob rfl) (by rfl) T.any PyProof.Rows.boot_any (Aa (BQ (own:=[("number",2)]) rfl scWS.nd (He (pv 0)) (blk rfl)
    (fun s H C cl fp=>At (i:=2) scWS.nd rfl (inl rfl)) (fun s H C cl fp=>BE)
    (fun s H C cl fp=>KH (AW Be (pv 2) (pgi T.quote) (nomark _)) (BV (pc GS hr (Aa (pv 2) Ac))))) Ac))))
    (Af (Aj (C6 CC (by rfl) T.list boot_list (Aa (pv 0) Ac)))) Ao)
   (Ab (Al (i:=1) scWS.nd rfl (inl rfl) (As (Aa (pgi T.quote) Ac)))
   (Ab (Ba PassesOwn.never rfl (He (pv 0)) (At (i:=2) scWS.nd rfl (inl rfl))
    (Af (Au (AR plainAttrs_list slot_list_extend type_list_extend Br (pv 1) (Aa (AT (An Be (pv 2) (pgi T.quote) (nomark _)) (As (Aa (pgi T.quote) (Aa (pgi T.quote) Ac))) (As (Aa (pv 2) Ac))) Ac)))))
   (Ab (Au (AR plainAttrs_list PySem.F.slot_list_append PySem.F.type_list_append AD (pv 1) (Aa (pgi T.quote) Ac)))
   (Af (Aj (pv 1)))))),?_⟩
  have hs:sizeLine=16777216:=sizeLine_eq;refine⟨_,rfl,a,rfl,⟨_,ab ha⟩,fun B hB=>?_⟩;refine Ms 2 (ys:=(s.map Lo.needs).map V.bl) hB (ab ha) (by simp[nv]) (by rw[Aq];omega) (fun i x y H1 hx hy s1 R hR=>?_) fun H1 s1 hd=>?_
  .obtain⟨c,hc,rfl⟩:=BO hx;rw[map_map,getElem?_map,hc]at hy;cases hy
   have ev:Ev (tOrV (tOp rEq (tVar 2) (tC (.int 39))) (tCall (spB fun n=>Lo.isBlank n || Lo.isSign n) [] E0 (tCons (tVar 2) tNil))) ((wipe (start ["string","row","number"] [V.ref a]) [2]).set 2 (some (V.int (c:Int)))) H1 (.bl (decide (V.int (c:Int)=V.int 39) || (Lo.isBlank c || Lo.isSign c))):=
    Ng (AL (Ah rfl) ev_c fun Q q=>⟨rfl,q⟩) fun _=>AQ (Ah rfl) fun Q q=>⟨c,rfl,q⟩
   rw[dq,KK]at ev;exact ev _ (hR _ (ad _))
  .have ha1:=s1 _ _ ha;refine⟨B,_,rfl,aa hd,_,rfl,?_⟩;rw[List.any_map];have e0:s.any (id∘Lo.needs)=s.any Lo.needs:=rfl;rw[e0];cases hn:s.any Lo.needs with
   |false=>
    refine iteT ⟨_,rfl,a,_,rfl,.inr (ab ha1),fun l hl=>?_⟩;refine k _ l (s1.trans (ae hl)) ?_;rw[Ae];unfold writtenString;rw[hn];rfl
   |true=>
    refine iteF ⟨(by show 1<=sizeLine;decide),fun q hq=>?_⟩;have sq:Same H1 (aj H1 q (.lst [V.int 39])):=ae hq
    refine⟨_,rfl,a,rfl,⟨_,ab (sq _ _ ha1)⟩,GJ (K:=K) (a:=a) (xs:=nv s) (fun i Z H'=>∃v2,Z=[some (.ref a),some (.ref q),v2]/\Same H1 H'/\H' q=some (.lst (nv (Lo.QUOTE::(s.take i).flatMap fun(c:Nat)=>if c=Lo.QUOTE then [Lo.QUOTE,Lo.QUOTE] else [c]))))
     ⟨none,rfl,sq,Ae⟩ (fun i Z H' _ ⟨_,_,s2,_⟩=>ab (s2 _ _ ha1)) ?_ ?_⟩
    .rintro i y Z H2 hi ⟨v2,rfl,s2,hq2⟩;obtain⟨c,hc,rfl⟩:=BO hi;have hi':i<s.length:=(List.getElem?_eq_some_iff.mp hc).1
     have hfl:∀i:Nat,i<=s.length->((s.take i).flatMap fun(c:Nat)=>if c=Lo.QUOTE then [Lo.QUOTE,Lo.QUOTE] else [c]).length<=2000:=by
      intro i hi
      have:∀l:List Nat,(l.flatMap fun(c:Nat)=>if c=Lo.QUOTE then [Lo.QUOTE,Lo.QUOTE] else [c]).length<=2 * l.length:=by
       intro l
       induction l with
       |nil=>exact le_refl _
       |cons c l ih=>
        rw[List.flatMap_cons,length_append,length_cons];have:(if c=Lo.QUOTE then [Lo.QUOTE,Lo.QUOTE] else [c]).length<=2:=by split<;>simp
        omega
      have:=this (s.take i);rw[length_take]at this;omega
     have hl:=hfl i (Nat.le_of_lt hi');refine⟨_,rfl,.inl ⟨rfl,_,aa hq2⟩,?_⟩;refine Ax (AL (Ah rfl) ev_c fun Q q=>⟨rfl,q⟩) _ ?_;rw[dq]
     have fin:∀(b:Addr)(zs:List Nat)(H3:Hp),Same H2 H3->H3 b=some (.lst (nv zs))->zs=(if c=Lo.QUOTE then [Lo.QUOTE,Lo.QUOTE] else [c])->zs.length<=2->
       ∃l b' xs zs',V.ref q= .ref l/\[V.ref b]=[.ref b']/\H3 l=some (.lst xs)/\H3 b'=some (.lst zs')/\xs.length+zs'.length<=sizeLine/\∃v2,([some (V.ref a),some (V.ref q),some (V.int (c:Int))]:St)=[some (.ref a),some (.ref q),v2]/\Same H1 (aj H3 l (.lst (xs++zs')))/\(aj H3 l (.lst (xs++zs'))) q=some (.lst (nv (Lo.QUOTE::(s.take (i+1)).flatMap fun(c:Nat)=>if c=Lo.QUOTE then [Lo.QUOTE,Lo.QUOTE] else [c]))):=by
      intro b zs H3 s3 hb hzs hz2;refine⟨q,b,_,_,rfl,rfl,s3 _ _ hq2,hb,?_,_,rfl,?_,?_⟩
      .rw[Aq,Aq,length_cons];omega
      .intro z u e;rw[Am (Ai e hq)];exact s3 _ _ (s2 _ _ e)
      .rw[Ae,<-Bi,take_add_one,hc,hzs,List.flatMap_append];simp
     refine ite2 (fun z=>?_) fun z=>?_
     .have z:c=Lo.QUOTE:=of_decide_eq_true z;refine⟨(by show 2<=sizeLine;decide),fun b hb=>?_⟩;exact fin b [39,39] _ (ae hb) Ae (by rw[if_pos z];rfl) (le_refl _)
     .have z:c≠Lo.QUOTE:=fun y=>z (decide_eq_true y);refine⟨_,rfl,(by show 1<=sizeLine;decide),fun b hb=>?_⟩;exact fin b [c] _ (ae hb) Ae (by rw[if_neg z]) (by simp)
    .rintro Z H2 ⟨v2,rfl,s2,hq2⟩;rw[Aq,take_length]at hq2;have hl:=Fm s;unfold writtenString at hl;rw[hn,if_pos rfl]at hl;simp only[length_cons,length_append,length_nil]at hl;refine⟨_,rfl,.inl ⟨rfl,_,aa hq2⟩,q,_,_,rfl,rfl,hq2,(by rw[Aq,length_cons];omega),?_⟩;refine⟨_,rfl,k _ q (s1.trans fun z u e=>?_) ?_⟩
     .rw[Am (Ai e hq)];exact s2 _ _ e
     .rw[Ae];unfold writtenString;rw[hn,if_pos rfl,Jo,Jo,Bi];rfl
structure Acc (H H':Hp) (q:Addr) (acc:List Nat):Prop where
 new:H q=none
 same:Same H H'
 at_:H' q=some (.lst (nv acc))
theorem Acc.same'{H H' H'':Hp}{q:Addr}{acc:List Nat}(A:Acc H H' q acc)(s:Same H' H''):Acc H H'' q acc:=⟨A.new,A.same.trans s,s _ _ A.at_⟩
theorem Acc.put{H H':Hp}{q:Addr}{acc acc':List Nat}(A:Acc H H' q acc):Acc H (aj H' q (.lst (nv acc'))) q acc':=⟨A.new,fun z u e=>by rw[Am (Ai e A.new)];exact A.same _ _ e,Ae⟩
theorem scWE:FnScope ["entry","row"] ["entry"] (defScope (top 97)):=fsc
def spWE(K:Frag)(D:Ad):Sp:=fun vs H Q _=>∃(a:Addr)(e:Lo.Entry),vs=[.ref a]/\EntAt D.entry H a e/\e.s.length<=4/\e.as_.length<=4/\e.st<=4/\∀(H':Hp)(l:Addr),Same H H'->H' l=some (.lst (nv (Lo.writtenEntry e)))->Q (.ref l) H'
theorem Np(n c:Nat):(List.replicate n [V.int (c:Int)]).flatten=nv (List.replicate n c):=by
 induction n with
 |zero=>rfl
 |succ n ih=>rw[replicate_succ,replicate_succ,List.flatten_cons,ih];rfl
theorem Ox(T:TxE K mg D):Ok P w K mg base 3 "written_entry" ["entry"] (spWE K D):=by
 have GS:=Oz (P:=P) (w:=w) (base:=base) T;refine T.wEntry.ok scWE (fun vs H Q E h=>?_) (fun f cdv A outer s H vs Q E hr h=>?_)
 .obtain⟨a,e,rfl,_⟩:=h;rfl
 .obtain⟨a,e,rfl,⟨dx,ts,ta,h1,h2,h3⟩,z1,z2,z3,k⟩:=h
  refine⟨_,Ab (Al (i:=1) scWE.nd rfl (inl rfl) (AT (An Be (Ak (pv 0) rfl) Ag (nomark _)) (As (Aa (pgi T.equal) Ac)) (Ay NG (As (Aa (pgi T.less) Ac)) (Ak (pv 0) rfl))))
   (Ab (Au (AR plainAttrs_list PySem.F.slot_list_append PySem.F.type_list_append AD (pv 1) (Aa (pgi T.blank) Ac)))
   (Ab (Av (AJ (Ak (pv 0) rfl)) (Af (Au (AR plainAttrs_list slot_list_extend type_list_extend Br (pv 1) (Aa (As (Aa (pgi T.tilde) (Aa (pgi T.blank) Ac))) Ac)))) Ao)
   (Ab (Au (AR plainAttrs_list slot_list_extend type_list_extend Br (pv 1) (Aa (pc GS hr (Aa (Ak (pv 0) rfl) Ac)) Ac)))
   (Ab (Av (An HH (plen T.len (Ak (pv 0) rfl)) Ag (nomark _))
    (Ab (Au (AR plainAttrs_list slot_list_extend type_list_extend Br (pv 1) (Aa (As (Aa (pgi T.blank) (Aa (pgi T.slash) (Aa (pgi T.blank) Ac)))) Ac)))
    (Af (Au (AR plainAttrs_list slot_list_extend type_list_extend Br (pv 1) (Aa (pc GS hr (Aa (Ak (pv 0) rfl) Ac)) Ac))))) Ao)
   (Ab (Au (AR plainAttrs_list PySem.F.slot_list_append PySem.F.type_list_append AD (pv 1) (Aa (pgi T.lineFeed) Ac)))
   (Af (Aj (pv 1)))))))),?_⟩
  have hs:sizeLine=16777216:=sizeLine_eq;have w1:=Fm e.s;have w2:=Fm e.as_
  have key1:∀Qc:VK,(∀q H1,Acc H H1 q (if e.st=4 then [Lo.EQUAL] else List.replicate e.st Lo.LESS)->Qc (.ref q) H1)->
    tIf (tTest (tOp rEq (tFld K (tVar 0) "strength") (tC (.int 4)))) (tLst (tCons (tC (.int 61)) tNil)) (tOp rRep (tLst (tCons (tC (.int 60)) tNil)) (tFld K (tVar 0) "strength")) [some (.ref a),none] H Qc:=by
   intro Qc hQ;refine Ax (AL (Az (Ah rfl) h1 T.clE T.nE2 rfl) ev_c fun Q q=>⟨rfl,q⟩) _ ?_
   have d4:decide (V.int (e.st:Int)=V.int 4)=decide (e.st=4):=by
    rw[decide_eq_decide];constructor
    .intro y;injection y with y;omega
    .intro y;rw[y];rfl
   rw[d4];refine ite2 (fun z=>?_) fun z=>?_
   .refine⟨(by show 1<=sizeLine;decide),fun q hq=>hQ q _ ⟨hq,ae hq,?_⟩⟩;rw[Ae,if_pos (of_decide_eq_true z)];rfl
   .refine⟨(by show 1<=sizeLine;decide),fun b hb=>?_⟩;have sb:Same H (aj H b (.lst [V.int 60])):=ae hb;refine⟨_,rfl,a,D.entry,dx,_,_,rfl,sb _ _ h1,T.clE,T.nE2,rfl,b,(e.st:Int),_,rfl,rfl,Ae,(by omega),(by omega),?_,fun q hq=>hQ q _ ⟨sb.free hq,sb.trans (ae hq),?_⟩⟩
    .show 1 * (e.st:Int).toNat<=sizeLine;have:(e.st:Int).toNat=e.st:=by omega
     omega
    .rw[Ae,if_neg fun y=>z (decide_eq_true y)];have:(e.st:Int).toNat=e.st:=by omega
     rw[this]
     congr 2;exact Np e.st 60
  refine key1 _ fun q H1 A1=>?_;generalize hF:(if e.st=4 then [Lo.EQUAL] else List.replicate e.st Lo.LESS)=F0 at A1
  have hF0:F0.length<=4:=by
   rw[<-hF];split
   .simp
   .rw[List.length_replicate];exact z3
  refine⟨_,rfl,.inl ⟨rfl,_,aa A1.at_⟩,q,_,_,rfl,rfl,A1.at_,(by rw[Aq];omega),?_⟩;have e2:nv F0++[V.int 32]=nv (F0++[32]):=by rw[Bi];rfl
  rw[e2];have A2:Acc H (aj H1 q (.lst (nv (F0++[32])))) q (F0++[32]):=A1.put;generalize hH2:aj H1 q (.lst (nv (F0++[32])))=H2 at A2
  have ext:∀(H3:Hp)(acc zs:List Nat)(b:Addr)(D0:Ends),Acc H H3 q acc->H3 b=some (.lst (nv zs))->acc.length+zs.length<=1000->(∀H4,Acc H H4 q (acc++zs)->D0.nx [some (.ref a),some (.ref q)] H4)->
    ∃l b' xs zs',V.ref q= .ref l/\[V.ref b]=[.ref b']/\H3 l=some (.lst xs)/\H3 b'=some (.lst zs')/\xs.length+zs'.length<=sizeLine/\D0.nx [some (.ref a),some (.ref q)] (aj H3 l (.lst (xs++zs'))):=by
   intro H3 acc zs b D0 A3 hb hl hn;refine⟨q,b,_,_,rfl,rfl,A3.at_,hb,by rw[Aq,Aq];omega,?_⟩;rw[<-Bi];exact hn _ A3.put
  have key2:∀D0:Ends,(∀H3,Acc H H3 q (F0++[32]++(if e.light=true then [Lo.TILDE,32] else []))->D0.nx [some (.ref a),some (.ref q)] H3)->
    tIfS (tB (tFld K (tVar 0) "light")) (tDrop (tBM K "list" rExtend (tVar 1) (tCons (tLst (tCons (tC (.int 126)) (tCons (tC (.int 32)) tNil))) tNil))) tNext D0 [some (.ref a),some (.ref q)] H2:=by
   intro D0 hn;refine Bs (Az (Ah rfl) (A2.same _ _ h1) T.clE T.nE3 rfl) _ ?_;cases hli:e.light with
   |false=>
    rw[hli]at hn;exact iteF (hn H2 (by rw[if_neg Bool.false_ne_true,append_nil];exact A2))
   |true=>
    rw[hli]at hn;refine iteT ⟨_,rfl,.inl ⟨rfl,_,aa A2.at_⟩,(by show 2<=sizeLine;decide),fun b hb=>?_⟩;exact ext _ (F0++[32]) [126,32] b D0 (A2.same' (ae hb)) Ae (by rw[length_append];simp;omega) hn
  refine key2 _ fun H3 A3=>?_;generalize hL:(if e.light=true then [Lo.TILDE,32] else [])=L0 at A3;have hL0:L0.length<=2:=by rw[<-hL];split<;>simp
  refine⟨_,rfl,.inl ⟨rfl,_,aa A3.at_⟩,_,rfl,a,D.entry,dx,_,_,rfl,A3.same _ _ h1,T.clE,T.nE1,rfl,ts,e.s,rfl,A3.same _ _ h2,(by omega),fun H4 l s4 hl=>?_⟩;refine ext H4 (F0++[32]++L0) (writtenString e.s) l _ (A3.same' s4) hl (by simp only[length_append,length_cons,length_nil];omega) fun H5 A5=>?_
  have key3:∀D0:Ends,(∀H6,Acc H H6 q (F0++[32]++L0++writtenString e.s++(if e.as_=[] then [] else [32,Lo.SLASH,32]++writtenString e.as_))->D0.nx [some (.ref a),some (.ref q)] H6)->
    tIfS (tTest (tOp (rI0 fun i j=>.bl (decide (j<i))) (tCB (rLen K) (tCons (tFld K (tVar 0) "counts_as") tNil)) (tC (.int 0))))
     (tSeq (tDrop (tBM K "list" rExtend (tVar 1) (tCons (tLst (tCons (tC (.int 32)) (tCons (tC (.int 47)) (tCons (tC (.int 32)) tNil)))) tNil)))
      (tDrop (tBM K "list" rExtend (tVar 1) (tCons (tCall (spWS K) [] E0 (tCons (tFld K (tVar 0) "counts_as") tNil)) tNil)))) tNext D0 [some (.ref a),some (.ref q)] H5:=by
   intro D0 hn;refine AZ (AG (Az (Ah rfl) (A5.same _ _ h1) T.clE T.nE4 rfl) (.inr (ab (A5.same _ _ h3)))) ev_c _ ?_;rw[Aq];by_cases has:e.as_=[]
   .have:decide ((0:Int)<((e.as_.length:Nat):Int))=false:=by rw[has];rfl
    rw[this];rw[if_pos has,append_nil]at hn;exact iteF (hn H5 A5)
   .have hp:0<e.as_.length:=List.length_pos_iff.mpr has;have:decide ((0:Int)<((e.as_.length:Nat):Int))=true:=decide_eq_true (by omega);rw[this];rw[if_neg has]at hn;refine iteT ⟨_,rfl,.inl ⟨rfl,_,aa A5.at_⟩,(by show 3<=sizeLine;decide),fun b hb=>?_⟩;refine ext _ (F0++[32]++L0++writtenString e.s) [32,47,32] b _ (A5.same' (ae hb)) Ae (by simp only[length_append,length_cons,length_nil];omega) fun H6 A6=>?_;refine⟨_,rfl,.inl ⟨rfl,_,aa A6.at_⟩,_,rfl,a,D.entry,dx,_,_,rfl,A6.same _ _ h1,T.clE,T.nE4,rfl,ta,e.as_,rfl,A6.same _ _ h3,(by omega),fun H7 l7 s7 hl7=>?_⟩;refine ext H7 (F0++[32]++L0++writtenString e.s++[32,47,32]) (writtenString e.as_) l7 D0 (A6.same' s7) hl7 (by simp only[length_append,length_cons,length_nil];omega) fun H8 A8=>hn H8 ?_;rw[<-append_assoc];exact A8
  refine key3 _ fun H6 A6=>?_
  have hl6:(F0++[32]++L0++writtenString e.s++(if e.as_=[] then [] else [32,Lo.SLASH,32]++writtenString e.as_)).length<=100:=by
   have f:(if e.as_=[] then [] else [32,Lo.SLASH,32]++writtenString e.as_).length<=13:=by
    split
    .simp
    .rw[length_append];simp only[length_cons,length_nil];omega
   simp only[length_append,length_cons,length_nil]at *
   omega
  refine⟨_,rfl,.inl ⟨rfl,_,aa A6.at_⟩,q,_,_,rfl,rfl,A6.at_,(by rw[Aq];omega),?_⟩;refine⟨_,rfl,k _ q ?_ ?_⟩
  .intro z u ee;rw[Am (Ai ee A6.new)];exact A6.same _ _ ee
  .rw[Ae];unfold Lo.writtenEntry;rw[hF,hL,Bi (_++_) [10]];rfl
theorem scWO:FnScope ["order","row","entry"] ["order"] (defScope (top 96)):=fsc
def spWO(D:Ad):Sp:=fun vs H Q _=>∃(o l:Addr)(as:List Addr)(es:Lo.Order),vs=[.ref o]/\OrdL D H o l as es/\LM.OInv es/\∀(H':Hp)(l:Addr),Same H H'->H' l=some (.lst (nv (written es)))->Q (.ref l) H'
theorem CZ{es:Lo.Order}(I:LM.OInv es):(written es).length<=40 * es.length:=by
 have:∀es:Lo.Order,(∀e∈es,e.s.length<=4/\e.as_.length<=4/\e.st<=4)->(written es).length<=40 * es.length:=by
  intro es
  induction es with
  |nil=>intro _;exact le_refl _
  |cons e es ih=>
   intro h;have h1:=ih fun e' he'=>h e' (mem_cons_of_mem _ he');obtain⟨a,b,c⟩:=h e mem_cons_self;have:=Ma a b c;unfold written at h1⊢;rw[List.flatMap_cons,length_append,length_cons];omega
 exact this es fun e he=>let h:=I.each e he;⟨h.2.1,h.2.2.1,h.2.2.2⟩
theorem Ki{es:Lo.Order}(I:LM.OInv es)(i:Nat):LM.OInv (es.take i):=
 ⟨by rw[length_take];have:=I.len;omega,by unfold LM.sts;rw[map_take];exact I.nd.sublist (List.take_sublist _ _),fun e he=>I.each e (List.mem_of_mem_take he)⟩
theorem Ow(T:TxE K mg D):Ok P w K mg base 4 "written_order" ["order"] (spWO D):=by
 have GE:=Ox (P:=P) (w:=w) (base:=base) T;refine T.wOrder.ok scWO (fun vs H Q E h=>?_) (fun f cdv A outer s H vs Q E hr h=>?_)
 .obtain⟨o,l,as,es,rfl,_⟩:=h;rfl
 .obtain⟨o,l,as,es,rfl,hO,hI,k⟩:=h
  refine⟨_,Ab (Al (i:=1) scWO.nd rfl (inl rfl) (As Ac)) (Ab (Ba PassesOwn.never rfl (AE (Ak (pv 0) rfl)) (At (i:=2) scWO.nd rfl (inl rfl))
    (Af (Au (AR plainAttrs_list slot_list_extend type_list_extend Br (pv 1) (Aa (pc GE hr (Aa (pv 2) Ac)) Ac)))))
   (Af (Aj (pv 1)))),?_⟩
  have hs:sizeLine=16777216:=sizeLine_eq;refine⟨zero_le _,fun q hq=>?_⟩;have sq:Same H (aj H q (.lst [])):=ae hq;obtain⟨dx,ho⟩:=hO.obj
  refine⟨_,rfl,o,D.order,dx,_,_,rfl,sq _ _ ho,T.clO,T.nO,rfl,l,rfl,⟨_,aa (sq _ _ hO.lst)⟩,Bt (K:=K) (a:=l) (xs:=as.map V.ref) (fun i Z H'=>∃v2,Z=[some (.ref o),some (.ref q),v2]/\Acc H H' q (written (es.take i)))
   ⟨none,rfl,hq,sq,Ae⟩ (fun i Z H' _ ⟨_,_,A'⟩=>aa (A'.same _ _ hO.lst)) ?_ ?_⟩
  .rintro i y Z H1 hi ⟨v2,rfl,A1⟩;obtain⟨p,hp,rfl⟩:=AU hi;have hil:i<es.length:=by rw[<-hO.ents.1];exact(List.getElem?_eq_some_iff.mp hp).1
   obtain⟨e,he⟩:∃e,es[i]? =some e:=⟨_,getElem?_eq_getElem hil⟩;obtain⟨c1,c2,c3,c4⟩:=hI.each e (mem_of_getElem? he);refine⟨_,rfl,.inl ⟨rfl,_,aa A1.at_⟩,_,rfl,p,e,rfl,(hO.ents.2 i p e hp he).same A1.same,c2,c3,c4,fun H2 b s2 hb=>?_⟩;have A2:=A1.same' s2;have l1:=CZ (Ki hI i);have l2:=Ma c2 c3 c4;have l3:=hI.len;rw[length_take]at l1;refine⟨q,b,_,_,rfl,rfl,A2.at_,hb,(by rw[Aq,Aq];omega),_,rfl,?_⟩;rw[<-Bi]
   have e3:written (es.take i)++Lo.writtenEntry e=written (es.take (i+1)):=by
    rw[take_add_one,he];unfold written;rw[List.flatMap_append];simp
   rw[e3];exact A2.put
  .rintro Z H1 ⟨v2,rfl,A1⟩;rw[length_map,hO.ents.1,take_length]at A1;exact⟨_,rfl,k H1 q A1.same A1.at_⟩
end LP
namespace LK
open PySem PySem.Spec
section
variable{prog:Program}{w:World}{A:Around}{R:Result->Shared->Prop}{I:Addr}{fp wr:List Addr}{n:Nat}{P:Nat->Value->Prop}{St:Nat->Heap->Prop}{d:Value}
theorem loopN:(toString "max"++toString ".loop":String)="max.loop":=by decide
theorem N0(W:Walks prog w A.in1 I fp wr n P St)(bt:Nat->Nat->Bool)(cmp:CmpOf prog w A.in1 .Gt P bt)(S:Addr)(nS:S∉fp):∀(k j:Nat)(s:Shared)(vb:Value)(c:Nat),n - (j+1)=k->j+1<=n->St (j+1) s.heap->P (argBest bt j) vb->
  s.heap.get? S=some {cls:=.type "list",dict:=none,data:=.seq #[vb,vb] c,slots:= #[]}->(∀v h' tk,P (argBest bt (n - 1)) v->(∀b o,b∉wr->b≠S->s.heap.get? b=some o->h'.get? b=some o)->R (.ok (.ret v)) {s with heap:=h',toks:=tk})->
  codeAny (model prog w) A (.builtin "max.loop" ⟨[.ref I,.none,.ref S],[(Str.ofString "default",d)]⟩) R s:=by
 have nW:S∉wr:=fun h=>nS (W.sub _ h);intro k
 induction k with
 |zero=>
  intro j s vb c e1 e2 st pb hS out;have full:j+1=n:=by omega
  refine codeAny_builtin PySem.F.entry_max_loop ?_;rw[Around.under_plainId plain_max_loop (⟨[.ref I,.none,.ref S],[(Str.ofString "default",d)]⟩:Args)];show wpAny _ A.in1 (seqItems? (Value.ref S)>>= _) _ _ s;refine wpAny_bind (wpAny_seqItems hS rfl ?_);show wpAny _ A.in1 (tryCatch (pyNext (Value.ref I)) _>>= _) _ _ s;refine wpAny_bind (wpAny_tryCatch (W.done s _ _ (full▸st) fun h' tk kp=>?_));have hS2:=kp S _ nW hS;show wpAny _ A.in1 (updateSeq S (fun(_:Array Value)=> #[])>>= _) _ _ _;refine wpAny_bind (wpAny_updateSeq hS2 rfl (wpAny_bind (wpAny_letGo (wpAny_pure ?_))));exact out vb _ tk (by rw[<-full];exact pb) fun b o q1 q2 q3=>(Heap.get?_update_other _ _ (Ne.symm q2)).trans (kp b o q1 q3)
 |succ k ih=>
  intro j s vb c e1 e2 st pb hS out;have less:j+1<n:=by omega
  refine codeAny_builtin PySem.F.entry_max_loop ?_;rw[Around.under_plainId plain_max_loop (⟨[.ref I,.none,.ref S],[(Str.ofString "default",d)]⟩:Args)];show wpAny _ A.in1 (seqItems? (Value.ref S)>>= _) _ _ s;refine wpAny_bind (wpAny_seqItems hS rfl ?_);show wpAny _ A.in1 (tryCatch (pyNext (Value.ref I)) _>>= _) _ _ s;refine wpAny_bind (wpAny_tryCatch (W.item (j+1) s _ _ less st fun v h' tk pv st2 kp=>?_));have hS2:=kp S _ nW hS;show wpAny _ A.in1 (tryCatch (holding [v,v] (richCompare .Gt v vb>>= _)) _>>= _) _ _ _;refine wpAny_bind (wpAny_tryCatch (wpAny_holding (wpAny_bind (cmp (j+1) (argBest bt j) v vb _ _ _ pv pb ?_))));refine wpAny_bind (wpAny_holding (wpAny_truthy_bool (wpAny_bind (wpAny_letGo (wpAny_pure ?_)))));cases hb:bt (j+1) (argBest bt j)with
  |true=>
   rw[if_pos rfl];refine wpAny_bind (wpAny_updateSeq hS2 rfl (wpAny_bind (wpAny_letGo ?_)));rw[loopN];refine wpAny_pure ⟨plainId_quiet plain_max_loop _,ih (j+1) _ v _ (by omega) less (W.frame _ _ _ st2 fun b q o e=>(Heap.get?_update_other _ _ (fun h:S=b=>nS (by rw[h];exact q))).trans e) (by simp only[argBest,hb,if_true];exact pv) (Heap.get?_update_self _ hS2 rfl) fun v2 h2 tk2 p2 k2=>?_⟩;exact out v2 h2 tk2 p2 fun b o q1 q2 q3=>k2 b o q1 q2 ((Heap.get?_update_other _ _ (Ne.symm q2)).trans (kp b o q1 q3))
  |false=>
   rw[if_neg Bool.false_ne_true];refine wpAny_bind (wpAny_letGo ?_);rw[loopN];exact wpAny_pure ⟨plainId_quiet plain_max_loop _,ih (j+1) _ vb c (by omega) less st2 (by simp only[argBest,hb,Bool.false_eq_true,if_false];exact pb) hS2 fun v2 h2 tk2 p2 k2=>out v2 h2 tk2 p2 fun b o q1 q2 q3=>k2 b o q1 q2 (kp b o q1 q3)⟩
theorem Ku(W:Walks prog w A.in1 I fp wr n P St)(bt:Nat->Nat->Bool)(cmp:CmpOf prog w A.in1 .Gt P bt)(S:Addr)(nS:S∉fp){s:Shared}{c:Nat}(st:St 0 s.heap)(hS:s.heap.get? S=some {cls:=.type "list",dict:=none,data:=.seq #[] c,slots:= #[]})
  (out:0<n->∀v h' tk,P (argBest bt (n - 1)) v->(∀b o,b∉wr->b≠S->s.heap.get? b=some o->h'.get? b=some o)->R (.ok (.ret v)) {s with heap:=h',toks:=tk})
  (no:n=0->∀h' tk,(∀b o,b∉wr->b≠S->s.heap.get? b=some o->h'.get? b=some o)->R (.ok (.ret d)) {s with heap:=h',toks:=tk}):
  codeAny (model prog w) A (.builtin "max.loop" ⟨[.ref I,.none,.ref S],[(Str.ofString "default",d)]⟩) R s:=by
 have nW:S∉wr:=fun h=>nS (W.sub _ h);refine codeAny_builtin PySem.F.entry_max_loop ?_;rw[Around.under_plainId plain_max_loop (⟨[.ref I,.none,.ref S],[(Str.ofString "default",d)]⟩:Args)];show wpAny _ A.in1 (seqItems? (Value.ref S)>>= _) _ _ s;refine wpAny_bind (wpAny_seqItems hS rfl ?_);show wpAny _ A.in1 (tryCatch (pyNext (Value.ref I)) _>>= _) _ _ s;by_cases hn:0<n
 .refine wpAny_bind (wpAny_tryCatch (W.item 0 s _ _ hn st fun v h' tk pv st2 kp=>?_));have hS2:=kp S _ nW hS;show wpAny _ A.in1 (updateSeq S (fun(_:Array Value)=> #[v,v])>>= _) _ _ _;refine wpAny_bind (wpAny_updateSeq hS2 rfl ?_);rw[loopN];refine wpAny_pure ⟨plainId_quiet plain_max_loop _,N0 W bt cmp S nS _ 0 _ v _ rfl hn (W.frame _ _ _ st2 fun b q o e=>(Heap.get?_update_other _ _ (fun h:S=b=>nS (by rw[h];exact q))).trans e) pv (Heap.get?_update_self _ hS2 rfl) fun v2 h2 tk2 p2 k2=>?_⟩;exact out hn v2 h2 tk2 p2 fun b o q1 q2 q3=>k2 b o q1 q2 ((Heap.get?_update_other _ _ (Ne.symm q2)).trans (kp b o q1 q3))
 .have hz:n=0:=by omega
  refine wpAny_bind (wpAny_tryCatch (W.done s _ _ (by rw[hz];exact st) fun h' tk kp=>?_));show wpAny _ A.in1 (rule _>>= _) _ _ _;exact wpAny_bind (wpAny_rule (wpAny_pure (no hz h' tk fun b o q1 q2 q3=>kp b o q1 q3)))
end
section
variable{prog:Program}{w:World}{A:Around}{E:Value->Shared->Prop}{s:Shared}
theorem Km(a v:Value):argsOk "max" ⟨[a],[(Str.ofString "default",v)]⟩:=by unfold argsOk;kernel_rfl
theorem Ld{l:Addr}{xs:Array (Int×Tok)}{d:Value}{Q:Value->Shared->Prop}(hh:A.handled=none)(hl:s.heap.IsList l (intItems xs))
  (h1:0<xs.size->∀v h' tk,(intItems xs)[argBest (fun i j=>decide (numAt xs i>numAt xs j)) (xs.size - 1)]? =some v->(∀b o,s.heap.get? b=some o->h'.get? b=some o)->Q v {s with heap:=h',toks:=tk})
  (h2:xs.size=0->∀h' tk,(∀b o,s.heap.get? b=some o->h'.get? b=some o)->Q d {s with heap:=h',toks:=tk}):
  wpAny (model prog w) A (call (.builtin "max") [.ref l] [(Str.ofString "default",d)]) Q E s:=by
 refine PyProof.Rows.kmk_tree PySem.F.kind_max PySem.F.plain_max PySem.F.entry_max (Km _ _) ?_;show wpAny _ A.in1 (Builtin.Builtins.bindParams "max" ["key","default"] 0 ⟨[],[(Str.ofString "default",d)]⟩>>= _) _ _ s;refine wpAny_bind (wpAny_of_eq (show Builtin.Builtins.bindParams "max" ["key","default"] 0 ⟨[],[(Str.ofString "default",d)]⟩=pure [none,some d] from rfl) ?_);refine wpAny_bind (wpAny_pure (wpAny_bind (iter_intList hl fun s2 e st fpl nI=>?_)));subst e;refine wpAny_bind (wpAny_newObj_type ?_);rw[loopN];have nS:∀b∈[s.heap.objs.size,l],b<(s.heap.push {cls:=.type "list_iterator",data:=.fields #[.ref l,.int 0 0]}).objs.size:=fpl
 have kept:∀h':Heap,(∀b o,b∉[s.heap.objs.size]->b≠(s.heap.push {cls:=.type "list_iterator",data:=.fields #[.ref l,.int 0 0]}).objs.size->
   ((s.heap.push {cls:=.type "list_iterator",data:=.fields #[.ref l,.int 0 0]}).push {cls:=.type "list",data:=.seq ([]:List Value).toArray}).get? b=some o->h'.get? b=some o)->∀b o,s.heap.get? b=some o->h'.get? b=some o:=fun h' kp b o e=>by
  have lt:=lt_size e;refine kp b o (fun hm=>?_) (fun z=>?_) (get?_push_of_some _ (get?_push_of_some _ e))
  .rcases mem_cons.mp hm with e1|hm
   .exact absurd (e1▸lt) (lt_irrefl _)
   .cases hm
  .rw[size_push]at z;exact absurd lt (by rw[z];exact Nat.not_lt.mpr (Nat.le_succ _))
 refine wpAny_pure ⟨plainId_quiet plain_max_loop _,Ku (Walks.list (A:=A.in1) hh _ l nI (intItems xs)) _ (CmpOf.ints_gt (numAt xs) (fun _ _=>intItems_at)) _ (fun hm=>absurd (nS _ hm) (lt_irrefl _)) ⟨?_,?_⟩ (get?_push_size _ rfl) (fun hn v h' tk hP kp=>?_) fun hn h' tk kp=>?_⟩
 .exact st.1.at fun o q=>get?_push_of_some _ q
 .exact st.2.push _
 .exact h1 (by simpa[intItems]using hn) v h' tk (by simpa[intItems]using hP) (kept h' kp)
 .exact h2 (by simpa[intItems]using hn) h' tk (kept h' kp)
end
end LK
namespace LP
open PySem PySem.Spec L2
def tMaxD(K:Frag)(te td:TE):TE:=fun Z H Q=>te Z H fun x H1=>td Z H1 fun y H2=>∃(a:Addr)(ns:List Int),[x]=[V.ref a]/\SqL K H2 a (ns.map V.int)/\(ns=[]->Q y H2)/\(∀m,m∈ns->(∀y,y∈ns->y<=m)->Q (.int m) H2)
theorem pmaxD{X:Cx}{e e2:Expr}{te td:TE}{p pos kp:Pos}(hc:X.calm=true)(hm:X.mg "max"=none)(he:PE X e te)(hd:PE X e2 td)(hg:Gl X "max":=by rfl)(hs:starEach [e] X.env=(false,eval e X.env)::starEach [] X.env:=by rfl)
  (h1:backTo pos (starEach [e] X.env)=(false,eval e X.env)::backTo pos (starEach [] X.env):=by rfl) (h2:(backTo pos (starEach [e] X.env)).any (·.1)=false:=by rfl):
  PE X (.Call (.Name "max" p) [e] [⟨some "default",e2,kp⟩] pos) (tMaxD X.K te td):=by
 intro pins s Z H Q I h;refine wpAny_Call_Name_kw (CJ I hg hm boot_max ?_);refine PyProof.Rows.callWith_kw (thn (Aa he Ac hs pos pins s Z H (fun vs H1=>td Z H1 fun y H2=>∃(a:Addr)(ns:List Int),vs=[V.ref a]/\SqL X.K H2 a (ns.map V.int)/\(ns=[]->Q y H2)/\(∀m,m∈ns->(∀y,y∈ns->y<=m)->Q (.int m) H2)) I h) fun us s1 ⟨vs,H1,I1,r1,q1⟩=>?_) h1 h2;refine PyProof.Rows.kws_cons (thn (hd pins s1 Z H1 _ I1 q1) fun dv s2 ⟨y,H2,I2,ry,a,ns,ev,hl,k1,k2⟩=>PyProof.Rows.kws_nil ?_);subst ev;obtain⟨its,rv,hp,_⟩:=I2.list hl;rw[Vals.ref1 r1];have hi:=rv.ints;obtain⟨xs,e⟩:=hi.allInts.items;have hn:numsOf (intItems xs).toList=ns:=by rw[<-e];exact hi.numsOf
 have hn2:=hn;rw[nums_intItems]at hn;have hIs:=hp.isList;rw[e]at hIs;refine LK.Ld (I.ok.hd hc) hIs (fun hsz v h' tk hv hk=>?_) fun hsz h' tk hk=>?_
 .obtain⟨t,rfl⟩:=intItems_at hv;obtain⟨b1,b2⟩:=argBest_gt (numAt xs) (xs.size - 1);refine⟨.int _,H2,I2.kept hk,⟨_,rfl⟩,k2 _ ?_ fun y hy=>?_⟩
  .rw[<-hn,numAt_eq];exact PySem.getD_mem (by rw[length_map,length_toList];omega)
  .rw[<-hn]at hy;obtain⟨j,hj,rfl⟩:=mem_getD hy;rw[length_map,length_toList]at hj;rw[<-numAt_eq];exact b2 j (by omega)
 .refine⟨y,H2,I2.kept hk,ry,k1 ?_⟩;rw[<-hn];exact List.length_eq_zero_iff.mp (by rw[length_map,length_toList];exact hsz)
theorem GY{K:Frag}{a:Addr}{xs:List V}{tt:TT}{te:TE}(v:Nat){Z:St}{Q:Hp->Prop}{H1:Hp}{D:Addr}{γ:Type}(cs:List γ)(vx:γ->V)(p:γ->Bool)(fy:γ->V)
  (hxs:xs=cs.map vx) (hD:H1 D=none) (ha:SqL K H1 a xs) (hz:cs.length<=sizeLine)
  (hs:∀(c:γ)(H:Hp),c∈cs->Same H1 H->∀R:Bool->Hp->Prop,(∀H',Same H H'->R (p c) H')->tt ((wipe Z [v]).set v (some (vx c))) H R)
  (he:∀(c:γ)(H:Hp),c∈cs->p c=true->Same H1 H->∀R:VK,(∀H',Same H H'->R (fy c) H')->te ((wipe Z [v]).set v (some (vx c))) H R)
  (hd:∀H,Same H1 H->H D=some (.lst ((cs.filter p).map fy))->Q H):
  ∃W:Nat->Nat->Hp->Prop,(∃m,W 0 m (aj H1 D (.lst [])))/\∀i m H,W i m H->
   ((Itl K a).stop i H/\Q H)\/((Itl K a).go i H/\∃Nx:Hp->Prop,(∀H',Nx H'->∃m',m'<m/\W (i+1) m' H')/\∀x H',(Itl K a).yld i H x H'->gName v x (wipe Z [v]) H' fun Z2 H2=>wipe Z2 [v]=wipe Z [v]/\tt Z2 H2 fun b H3=>
    if b=true then te Z2 H3 fun y H4=>∃acc,H4 D=some (.lst acc)/\acc.length<sizeLine/\Nx (aj H4 D (.lst (acc++[y]))) else Nx H3):=by
 refine Ci (Pv:=fun i H=>Same H1 H/\H D=some (.lst (((cs.take i).filter p).map fy))) ⟨ae hD,Ae⟩ (fun i H _ q=>q.1.seq ha) (fun i x H hx q=>?_) fun H q=>hd H q.1 (by rw[q.2,hxs,length_map,take_length])
 obtain⟨c,hc,rfl⟩:∃c,cs[i]? =some c/\x=vx c:=by
  rw[hxs,getElem?_map]at hx;obtain⟨c,h1,h2⟩:=map_eq_some_iff.mp hx;exact⟨c,h1,h2.symm⟩
 have hm:=mem_of_getElem? hc;have ht:cs.take (i+1)=cs.take i++[c]:=by rw[take_add_one,hc];rfl
 refine⟨?_,hs c H hm q.1 _ fun H' s=>?_⟩
 .show(((wipe Z []).set v none).set v (some (vx c))).set v none=(wipe Z []).set v none;rw[set_set,set_set]
 .cases hp:p c with
  |true=>
   refine iteT (he c H' hm hp (q.1.trans s) _ fun H'' s2=>⟨_,s2 _ _ (s _ _ q.2),?_,?_,?_⟩)
   .have h1:(cs.take i).length<cs.length:=by rw[length_take];have:=(List.getElem?_eq_some_iff.mp hc).1;omega
    have h2:=length_filter_le p (cs.take i);rw[length_map];omega
   .intro b o e;rw[Am (Ai e hD)];exact s2 _ _ (s _ _ (q.1 _ _ e))
   .rw[Ae,ht,filter_append,map_append,List.filter_cons_of_pos (by exact hp)];rfl
  |false=>
   refine iteF ⟨q.1.trans s,?_⟩;rw[ht,filter_append,List.filter_cons_of_neg (by rw[hp];exact Bool.false_ne_true),List.filter_nil,append_nil];exact s _ _ q.2
def wv(x:Lo.Weight):List V:=[.int (x.first:Int),.int (x.second:Int),.int (x.third:Int)]
def WsAt(H:Hp)(bs:List Addr)(ws:List Lo.Weight):Prop:=bs.length=ws.length/\∀(i:Nat) b x,bs[i]? =some b->ws[i]? =some x->H b=some (.tup (wv x))
theorem WsAt.same{H H':Hp}{bs:List Addr}{ws:List Lo.Weight}(h:WsAt H bs ws)(s:Same H H'):WsAt H' bs ws:=⟨h.1,fun i b x h1 h2=>s _ _ (h.2 i b x h1 h2)⟩
theorem WsAt.snoc{H:Hp}{bs:List Addr}{ws:List Lo.Weight}{b:Addr}{x:Lo.Weight}(h:WsAt H bs ws)(hb:H b=some (.tup (wv x))):WsAt H (bs++[b]) (ws++[x]):=by
 refine⟨by rw[length_append,length_append,h.1];rfl,fun i b' x' h1 h2=>?_⟩;rw[List.getElem?_append]at h1 h2;rw[h.1]at h1;by_cases hi:i<ws.length
 .rw[if_pos hi]at h1 h2;exact h.2 i b' x' h1 h2
 .rw[if_neg hi]at h1 h2;cases hk:i - ws.length with
  |zero=>rw[hk]at h1 h2;cases h1;cases h2;exact hb
  |succ m=>rw[hk]at h1;cases h1
theorem WsAt.zip{H:Hp}{bs:List Addr}{ws:List Lo.Weight}(h:WsAt H bs ws){c:Addr×Lo.Weight}(hc:c∈bs.zip ws):H c.1=some (.tup (wv c.2)):=by
 obtain⟨i,hi⟩:=List.getElem?_of_mem hc;rw[List.getElem?_zip_eq_some]at hi;exact h.2 i c.1 c.2 hi.1 hi.2
theorem GG:∀{bs:List Addr}{ws:List Lo.Weight},bs.length=ws.length->(bs.zip ws).map (fun(c:Addr×Lo.Weight)=>V.ref c.1)=bs.map V.ref
 |[],[],_=>rfl
 |b::bs,x::ws,h=>by
  rw[List.zip_cons_cons,map_cons,map_cons,GG (Nat.succ.inj h)]
 |[],x::ws,h=>by cases h
 |b::bs,[],h=>by cases h
theorem Di(p:Lo.Weight->Bool)(f:Lo.Weight->V):∀{bs:List Addr}{ws:List Lo.Weight},bs.length=ws.length->((bs.zip ws).filter (fun(c:Addr×Lo.Weight)=>p c.2)).map (fun(c:Addr×Lo.Weight)=>f c.2)=(ws.filter p).map f
 |[],[],_=>rfl
 |b::bs,x::ws,h=>by
  rw[List.zip_cons_cons,filter_cons,filter_cons];have ih:=Di p f (Nat.succ.inj h);cases p x with
  |true=>rw[if_pos rfl,if_pos rfl,map_cons,map_cons,ih]
  |false=>rw[if_neg Bool.false_ne_true,if_neg Bool.false_ne_true,ih]
 |[],x::ws,h=>by cases h
 |b::bs,[],h=>by cases h
theorem B0:∀(l:List Nat)(a:Nat),a<=l.foldl max a/\∀y∈l,y<=l.foldl max a
 |[],a=>⟨le_refl _,fun y h=>by cases h⟩
 |x::l,a=>by
  obtain⟨h1,h2⟩:=B0 l (max a x);refine⟨by rw[List.foldl_cons];omega,fun y hy=>?_⟩;rw[List.foldl_cons];rcases mem_cons.mp hy with z|z
  .rw[z];omega
  .exact h2 y z
theorem BS:∀(l:List Nat)(a:Nat),l.foldl max a=a\/l.foldl max a∈l
 |[],a=>.inl rfl
 |x::l,a=>by
  rw[List.foldl_cons];rcases BS l (max a x)with h|h
  .rw[h];by_cases hx:a<=x
   .right;rw[Nat.max_eq_right hx];exact mem_cons_self
   .left;omega
  .right;exact mem_cons_of_mem _ h
theorem JD{l:List Nat}{m:Int}(h1:m∈(1:Int)::l.map fun(n:Nat)=>(n:Int))(h2:∀y,y∈(1:Int)::(l.map fun(n:Nat)=>(n:Int))->y<=m):m=((max 1 (Lo.greatest l):Nat):Int):=by
 unfold Lo.greatest;have a:=B0 l 0;have b:=BS l 0;have c1:=h2 1 mem_cons_self;have c2:∀y∈l,(y:Int)<=m:=fun y hy=>h2 y (mem_cons_of_mem _ (mem_map.mpr ⟨y,hy,rfl⟩));rcases mem_cons.mp h1 with z|z
 .rcases b with b|b
  .omega
  .have:=c2 _ b;omega
 .obtain⟨y,hy,e⟩:=mem_map.mp z;have d:=a.2 y hy;rcases b with b|b
  .omega
  .have:=c2 _ b;omega
theorem HW{l:List Nat}{m:Int}(h1:m∈l.map fun(n:Nat)=>(n:Int))(h2:∀y,y∈(l.map fun(n:Nat)=>(n:Int))->y<=m):m=((Lo.greatest l:Nat):Int):=by
 unfold Lo.greatest;have a:=B0 l 0;have b:=BS l 0;have c2:∀y∈l,(y:Int)<=m:=fun y hy=>h2 y (mem_map.mpr ⟨y,hy,rfl⟩);obtain⟨y,hy,e⟩:=mem_map.mp h1;have d:=a.2 y hy;rcases b with b|b
 .omega
 .have:=c2 _ b;omega
structure TxF (K:Frag) (mg:Str->Option Value) (D:Ad):Prop extends TxE K mg D where
 max:mg "max"=none
 zip:mg "zip"=none
 entryWeights:Df K mg "entry_weights" (top 89) ["entries"]
 countedWeights:Df K mg "counted_weights" (top 90) ["entries"]
 weightBehind:Df K mg "weight_behind" (top 91) ["weight","strength"]
 isAccent:Df K mg "is_accent_alone" (top 92) ["weight"]
 isForm:Df K mg "is_form_alone" (top 93) ["weight"]
 raised:Df K mg "raised_weight" (top 94) ["weight","second_raise","third_raise"]
variable{P:Program}{w:World}{K:Frag}{mg:Str->Option Value}{base:Heap}{D:Ad}
theorem ev_w{ta:TE}{Z:St}{H:Hp}{a:Addr}{x:Lo.Weight}(h:Ev ta Z H (.ref a))(hw:H a=some (.tup (wv x))):
  Ev (tOp (rIxT K) ta (tC (.int 0))) Z H (.int (x.first:Int))/\Ev (tOp (rIxT K) ta (tC (.int 1))) Z H (.int (x.second:Int))/\Ev (tOp (rIxT K) ta (tC (.int 2))) Z H (.int (x.third:Int)):=
 ⟨CS h ev_c (ab hw) (AA (j:=0) rfl rfl),CS h ev_c (ab hw) (AA (j:=1) rfl rfl),CS h ev_c (ab hw) (AA (j:=2) rfl rfl)⟩
theorem di(n k:Nat):decide (V.int (n:Int)=V.int (k:Int))=decide (n=k):=by
 rw[decide_eq_decide];constructor
 .intro y;injection y with y;omega
 .intro y;rw[y]
theorem scWB:FnScope ["weight","strength"] ["weight","strength"] (defScope (top 91)):=fsc
def spWB:Sp:=fun vs H Q _=>∃(a:Addr)(x:Lo.Weight)(st:Nat),vs=[.ref a,.int (st:Int)]/\H a=some (.tup (wv x))/\∀(H':Hp)(b:Addr),Same H H'->H' b=some (.tup (wv (counted x st)))->Q (.ref b) H'
theorem OT(T:TxF K mg D):Ok P w K mg base 1 "weight_behind" ["weight","strength"] spWB:=by
 refine T.weightBehind.ok scWB (fun vs H Q E h=>?_) (fun f cdv A outer s H vs Q E hr h=>?_)
 .obtain⟨a,x,st,rfl,_⟩:=h;rfl
 .obtain⟨a,x,st,rfl,ha,k⟩:=h
  refine⟨_,Ab (Av (An Be (pv 1) Ag (nomark _)) (Af (Aj (AV (Aa (Ay AN (Ar AB (pv 0) Ag (fun _ _=>rfl)) Ag) (Aa Ag (Aa Ag Ac)))))) Ao)
   (Ab (Av (An Be (pv 1) Ag (nomark _)) (Af (Aj (AV (Aa (Ar AB (pv 0) Ag (fun _ _=>rfl)) (Aa (Ay AN (Ar AB (pv 0) Ag (fun _ _=>rfl)) Ag) (Aa Ag Ac)))))) Ao)
   (Ab (Av (An Be (pv 1) Ag (nomark _)) (Af (Aj (AV (Aa (Ar AB (pv 0) Ag (fun _ _=>rfl)) (Aa (Ar AB (pv 0) Ag (fun _ _=>rfl)) (Aa (Ay AN (Ar AB (pv 0) Ag (fun _ _=>rfl)) Ag) Ac)))))) Ao)
   (Af (Aj (pv 0))))),?_⟩
  obtain⟨e0,e1,e2⟩:=ev_w (K:=K) (Z:=[some (.ref a),some (.int (st:Int))]) (ta:=tVar 0) (Ah rfl) ha
  have fin:∀(y:Lo.Weight),y=counted x st->(wv y).length<=sizeLine/\∀p,H p=none->Q (.ref p) (aj H p (.tup (wv y))):=by
   rintro y rfl;exact⟨(by show 3<=sizeLine;decide),fun p hp=>k _ p (ae hp) Ae⟩
  refine Ax (AL (Ah rfl) ev_c fun Q q=>⟨rfl,q⟩) _ ?_;refine ite2 (fun z=>?_) fun z=>?_
  .have z:st=1:=by have z:=of_decide_eq_true z;injection z with z;omega
   exact De e0 ev_c _ (fin ⟨x.first+1,1,1⟩ (by rw[z];rfl))
  have z1:st≠1:=fun y=>z (decide_eq_true (by rw[y];rfl));refine Ax (AL (Ah rfl) ev_c fun Q q=>⟨rfl,q⟩) _ ?_;refine ite2 (fun z=>?_) fun z=>?_
  .have z:st=2:=by have z:=of_decide_eq_true z;injection z with z;omega
   exact e0 _ (De e1 ev_c _ (fin ⟨x.first,x.second+1,1⟩ (by rw[z];rfl)))
  have z2:st≠2:=fun y=>z (decide_eq_true (by rw[y];rfl));refine Ax (AL (Ah rfl) ev_c fun Q q=>⟨rfl,q⟩) _ ?_;refine ite2 (fun z=>?_) fun z=>?_
  .have z:st=3:=by have z:=of_decide_eq_true z;injection z with z;omega
   exact e0 _ (e1 _ (De e2 ev_c _ (fin ⟨x.first,x.second,x.third+1⟩ (by rw[z];rfl))))
  have z3:st≠3:=fun y=>z (decide_eq_true (by rw[y];rfl));refine⟨_,rfl,k H a (ad _) ?_⟩
  have:counted x st=x:=by
   unfold counted;split
   .exact absurd rfl z1
   .exact absurd rfl z2
   .exact absurd rfl z3
   .rfl
  rw[this];exact ha
theorem scAA:FnScope ["weight"] ["weight"] (defScope (top 92)):=fsc
def spWp(p:Lo.Weight->Bool):Sp:=fun vs H Q _=>∃(a:Addr)(x:Lo.Weight),vs=[.ref a]/\H a=some (.tup (wv x))/\Q (.bl (p x)) H
def accentP(x:Lo.Weight):Bool:=decide (x.first=0)&& !decide (x.second=0)
def formP(x:Lo.Weight):Bool:=decide (x.first=0)&&(decide (x.second=0)&& !decide (x.third=0))
theorem Op(T:TxF K mg D):Ok P w K mg base 1 "is_accent_alone" ["weight"] (spWp accentP):=by
 refine T.isAccent.ok scAA (fun vs H Q E h=>?_) (fun f cdv A outer s H vs Q E hr h=>?_)
 .obtain⟨a,x,rfl,_⟩:=h;rfl
 .obtain⟨a,x,rfl,ha,k⟩:=h;refine⟨_,Af (Aj (B7 (AW Be (Ar AB (pv 0) Ag (fun _ _=>rfl)) Ag (nomark _)) (BV (AW Bj (Ar AB (pv 0) Ag (fun _ _=>rfl)) Ag (nomark _))))),?_⟩;obtain⟨e0,e1,e2⟩:=ev_w (K:=K) (Z:=[some (.ref a)]) (ta:=tVar 0) (Ah rfl) ha;refine Cy (b:= !decide (V.int (x.second:Int)=V.int ((0:Nat):Int))) (AL e0 ev_c fun Q q=>⟨rfl,q⟩) (fun _=>AL e1 ev_c fun Q q=>⟨rfl,q⟩) _ ?_;have d0:=di x.first 0;rw[di];show Q (.bl (decide (V.int (x.first:Int)=V.int ((0:Nat):Int))&&_)) H;rw[d0];exact k
theorem scFA:FnScope ["weight"] ["weight"] (defScope (top 93)):=fsc
theorem M7(T:TxF K mg D):Ok P w K mg base 1 "is_form_alone" ["weight"] (spWp formP):=by
 refine T.isForm.ok scFA (fun vs H Q E h=>?_) (fun f cdv A outer s H vs Q E hr h=>?_)
 .obtain⟨a,x,rfl,_⟩:=h;rfl
 .obtain⟨a,x,rfl,ha,k⟩:=h;refine⟨_,Af (Aj (B7 (AW Be (Ar AB (pv 0) Ag (fun _ _=>rfl)) Ag (nomark _)) (B7 (AW Be (Ar AB (pv 0) Ag (fun _ _=>rfl)) Ag (nomark _)) (BV (AW Bj (Ar AB (pv 0) Ag (fun _ _=>rfl)) Ag (nomark _)))))),?_⟩;obtain⟨e0,e1,e2⟩:=ev_w (K:=K) (Z:=[some (.ref a)]) (ta:=tVar 0) (Ah rfl) ha;refine Cy (a:=decide (V.int (x.first:Int)=V.int ((0:Nat):Int))) (b:=decide (V.int (x.second:Int)=V.int ((0:Nat):Int))&& !decide (V.int (x.third:Int)=V.int ((0:Nat):Int))) (AL e0 ev_c fun Q q=>⟨rfl,q⟩) (fun _=>Cy (AL e1 ev_c fun Q q=>⟨rfl,q⟩) fun _=>AL e2 ev_c fun Q q=>⟨rfl,q⟩) _ ?_;rw[di,di,di];exact k
theorem scRW:FnScope ["weight","second_raise","third_raise"] ["weight","second_raise","third_raise"] (defScope (top 94)):=fsc
def spRW:Sp:=fun vs H Q _=>∃(a:Addr)(x:Lo.Weight)(S T:Nat),vs=[.ref a,.int (S:Int),.int (T:Int)]/\H a=some (.tup (wv x))/\∀(H':Hp)(b:Addr),Same H H'->H' b=some (.tup (wv (Lo.raised S T x)))->Q (.ref b) H'
theorem ON(T:TxF K mg D):Ok P w K mg base 2 "raised_weight" ["weight","second_raise","third_raise"] spRW:=by
 have GA:=Op (P:=P) (w:=w) (base:=base) T;have GF:=M7 (P:=P) (w:=w) (base:=base) T;refine T.raised.ok scRW (fun vs H Q E h=>?_) (fun f cdv A outer s H vs Q E hr h=>?_)
 .obtain⟨a,x,S,T',rfl,_⟩:=h;rfl
 .obtain⟨a,x,S,T',rfl,ha,k⟩:=h
  refine⟨_,Ab (Av (AJ (pc GA hr (Aa (pv 0) Ac))) (Af (Aj (AV (Aa (Ar AB (pv 0) Ag (fun _ _=>rfl)) (Aa (Ay AN (Ar AB (pv 0) Ag (fun _ _=>rfl)) (pv 1)) (Aa (Ar AB (pv 0) Ag (fun _ _=>rfl)) Ac)))))) Ao)
   (Ab (Av (AJ (pc GF hr (Aa (pv 0) Ac))) (Af (Aj (AV (Aa (Ar AB (pv 0) Ag (fun _ _=>rfl)) (Aa (Ar AB (pv 0) Ag (fun _ _=>rfl)) (Aa (Ay AN (Ar AB (pv 0) Ag (fun _ _=>rfl)) (pv 2)) Ac)))))) Ao)
   (Af (Aj (pv 0)))),?_⟩
  obtain⟨e0,e1,e2⟩:=ev_w (K:=K) (Z:=[some (.ref a),some (.int (S:Int)),some (.int (T':Int))]) (ta:=tVar 0) (Ah rfl) ha
  have fin:∀(y:Lo.Weight),y=Lo.raised S T' x->(wv y).length<=sizeLine/\∀p,H p=none->Q (.ref p) (aj H p (.tup (wv y))):=by
   rintro y rfl;exact⟨(by show 3<=sizeLine;decide),fun p hp=>k _ p (ae hp) Ae⟩
  refine Bs (AQ (v:=.bl (accentP x)) (Ah rfl) fun Q q=>⟨a,x,rfl,ha,q⟩) _ ?_;refine ite2 (fun z=>?_) fun z=>?_
  .unfold accentP at z;rw[and_eq_true,decide_eq_true_eq,not_eq_true',decide_eq_false_iff_not]at z;exact e0 _ (De e1 (Ah rfl) _ (e2 _ (fin ⟨x.first,x.second+S,x.third⟩ (by unfold Lo.raised;rw[if_pos z,z.1]))))
  have n1:¬(x.first=0/\x.second≠0):=fun y=>z (by unfold accentP;rw[decide_eq_true y.1,decide_eq_false y.2];rfl);refine Bs (AQ (v:=.bl (formP x)) (Ah rfl) fun Q q=>⟨a,x,rfl,ha,q⟩) _ ?_;refine ite2 (fun z=>?_) fun z=>?_
  .unfold formP at z;rw[and_eq_true,and_eq_true,decide_eq_true_eq,decide_eq_true_eq,not_eq_true',decide_eq_false_iff_not]at z;exact e0 _ (e1 _ (De e2 (Ah rfl) _ (fin ⟨x.first,x.second,x.third+T'⟩ (by unfold Lo.raised;rw[if_neg n1,if_pos z,z.1,z.2.1]))))
  have n2:¬(x.first=0/\x.second=0/\x.third≠0):=fun y=>z (by unfold formP;rw[decide_eq_true y.1,decide_eq_true y.2.1,decide_eq_false y.2.2];rfl);refine⟨_,rfl,k H a (ad _) ?_⟩;unfold Lo.raised;rw[if_neg n1,if_neg n2];exact ha
def lastW(x:Lo.Weight)(es:Lo.Order):Lo.Weight:=es.foldl (fun x (e:Lo.Entry)=>counted x e.st) x
theorem EM:∀(es:Lo.Order)(x:Lo.Weight)(e:Lo.Entry),Lo.countAll x (es++[e])=Lo.countAll x es++[counted (lastW x es) e.st]
 |[],_,_=>rfl
 |f::es,x,e=>by
  show counted x f.st::Lo.countAll (counted x f.st) (es++[e])=counted x f.st::Lo.countAll (counted x f.st) es++_;rw[EM es];rfl
theorem Kr(es:Lo.Order)(x:Lo.Weight)(e:Lo.Entry):lastW x (es++[e])=counted (lastW x es) e.st:=by
 unfold lastW;rw[List.foldl_append];rfl
theorem Cg:∀(es:Lo.Order)(x:Lo.Weight),(Lo.countAll x es).length=es.length
 |[],_=>rfl
 |f::es,x=>by
  show(Lo.countAll (counted x f.st) es).length+1=es.length+1;rw[Cg es]
theorem LU{l l':List Nat}{m:Int}(h1:m∈(1:Int)::l.map fun(n:Nat)=>(n:Int))(h2:∀y,y∈(1:Int)::(l.map fun(n:Nat)=>(n:Int))->y<=m)(a:∀y∈l',y∈l)(b:∀y∈l,y∈l'\/y=0):m=((max 1 (Lo.greatest l'):Nat):Int):=by
 have c1:=h2 1 mem_cons_self;refine JD ?_ fun y hy=>?_
 .rcases mem_cons.mp h1 with z|z
  .exact mem_cons.mpr (.inl z)
  .obtain⟨y,hy,e⟩:=mem_map.mp z;rcases b y hy with q|q
   .exact mem_cons_of_mem _ (mem_map.mpr ⟨y,q,e⟩)
   .rw[q]at e;have e:(0:Int)=m:=e;omega
 .rcases mem_cons.mp hy with z|z
  .rw[z];exact c1
  .obtain⟨n,hn,e⟩:=mem_map.mp z;exact h2 y (mem_cons_of_mem _ (mem_map.mpr ⟨n,a n hn,e⟩))
theorem HL(ws:List Lo.Weight):(∀y∈(ws.filter fun(x:Lo.Weight)=>x.first != 0 || x.second != 0).map (fun(x:Lo.Weight)=>x.third),y∈(ws.filter fun x=> !formP x).map (fun(x:Lo.Weight)=>x.third))/\
  ∀y∈(ws.filter fun x=> !formP x).map (fun(x:Lo.Weight)=>x.third),y∈(ws.filter fun(x:Lo.Weight)=>x.first != 0 || x.second != 0).map (fun(x:Lo.Weight)=>x.third)\/y=0:=by
 refine⟨fun y hy=>?_,fun y hy=>?_⟩
 .obtain⟨x,hx,e⟩:=mem_map.mp hy;obtain⟨h1,h2⟩:=mem_filter.mp hx;refine mem_map.mpr ⟨x,mem_filter.mpr ⟨h1,?_⟩,e⟩;unfold formP;rw[or_eq_true,bne_iff_ne,bne_iff_ne]at h2;rw[not_eq_true',Bool.and_eq_false_iff,Bool.and_eq_false_iff,decide_eq_false_iff_not,decide_eq_false_iff_not];rcases h2 with h2|h2
  .exact .inl h2
  .exact .inr (.inl h2)
 .obtain⟨x,hx,e⟩:=mem_map.mp hy;obtain⟨h1,h2⟩:=mem_filter.mp hx;unfold formP at h2;rw[not_eq_true',Bool.and_eq_false_iff,Bool.and_eq_false_iff,decide_eq_false_iff_not,decide_eq_false_iff_not,Bool.not_eq_false',decide_eq_true_eq]at h2;by_cases hf:x.first != 0 || x.second != 0
  .exact .inl (mem_map.mpr ⟨x,mem_filter.mpr ⟨h1,hf⟩,e⟩)
  .right;rw[or_eq_true,bne_iff_ne,bne_iff_ne]at hf;rw[<-e];rcases h2 with h2|h2|h2
   .exact absurd (.inl h2) hf
   .exact absurd (.inr h2) hf
   .exact h2
theorem scCW:FnScope ["entries","weights","weight","entry"] ["entries"] (defScope (top 90)):=fsc
def spCW(K:Frag)(D:Ad):Sp:=fun vs H Q _=>∃(l:Addr)(as:List Addr)(es:Lo.Order),vs=[.ref l]/\H l=some (.lst (as.map V.ref))/\EntsAt D.entry H as es/\es.length<=1024/\∀(H':Hp)(q:Addr)(bs:List Addr),Same H H'->H' q=some (.lst (bs.map V.ref))->WsAt H' bs (Lo.rawWeights es)->Q (.ref q) H'
theorem OC(T:TxF K mg D):Ok P w K mg base 2 "counted_weights" ["entries"] (spCW K D):=by
 have GB:=OT (P:=P) (w:=w) (base:=base) T;refine T.countedWeights.ok scCW (fun vs H Q E h=>?_) (fun f cdv A outer s H vs Q E hr h=>?_)
 .obtain⟨l,as,es,rfl,_⟩:=h;rfl
 .obtain⟨l,as,es,rfl,hl,hE,hz,k⟩:=h
  refine⟨_,Ab (Al (i:=1) scCW.nd rfl (inl rfl) (As Ac)) (Ab (Al (i:=2) scCW.nd rfl (inl rfl) (AV (Aa Ag (Aa Ag (Aa Ag Ac)))))
   (Ab (Ba PassesOwn.never rfl (AE (pv 0)) (At (i:=3) scCW.nd rfl (inl rfl))
    (Ab (Al (i:=2) scCW.nd rfl (inl rfl) (pc GB hr (Aa (pv 2) (Aa (Ak (pv 3) rfl) Ac))))
    (Af (Au (AR plainAttrs_list PySem.F.slot_list_append PySem.F.type_list_append AD (pv 1) (Aa (pv 2) Ac))))))
   (Af (Aj (pv 1))))),?_⟩
  have hs:sizeLine=16777216:=sizeLine_eq;refine⟨zero_le _,fun q hq=>⟨(by show 3<=sizeLine;decide),fun t ht=>?_⟩⟩;have sq:Same H (aj H q (.lst [])):=ae hq;have st:Same (aj H q (.lst [])) (aj (aj H q (.lst [])) t (.tup [V.int 0,V.int 0,V.int 0])):=ae ht;have s0:=sq.trans st
  refine⟨_,rfl,l,rfl,⟨_,aa (s0 _ _ hl)⟩,Bt (K:=K) (a:=l) (xs:=as.map V.ref) (fun i Z H'=>∃(b:Addr)(bs:List Addr)(v3:Option V),Z=[some (.ref l),some (.ref q),some (.ref b),v3]/\Same H H'/\H' q=some (.lst (bs.map V.ref))/\WsAt H' bs (Lo.countAll ⟨0,0,0⟩ (es.take i))/\H' b=some (.tup (wv (lastW ⟨0,0,0⟩ (es.take i)))))
   ⟨t,[],none,rfl,s0,st _ _ Ae,⟨rfl,fun i b x h=>by cases h⟩,Ae⟩ (fun i Z H' _ ⟨_,_,_,_,s1,_⟩=>aa (s1 _ _ hl)) ?_ ?_⟩
  .rintro i y Z H1 hi ⟨b,bs,v3,rfl,s1,hq1,hW,hb⟩;obtain⟨p,hp,rfl⟩:=AU hi;have hil:i<es.length:=by rw[<-hE.1];exact(List.getElem?_eq_some_iff.mp hp).1
   obtain⟨e,he⟩:∃e,es[i]? =some e:=⟨_,getElem?_eq_getElem hil⟩;obtain⟨dx,ts,ta,h1,h2,h3⟩:=(hE.2 i p e hp he).same s1;have ht1:es.take (i+1)=es.take i++[e]:=by rw[take_add_one,he];rfl
   refine⟨_,rfl,_,rfl,p,D.entry,dx,_,_,rfl,h1,T.clE,T.nE2,rfl,b,_,e.st,rfl,hb,fun H2 b2 s2 hb2=>?_⟩;have hq2:=s2 _ _ hq1;have hbl:bs.length=i:=by rw[hW.1,Cg,length_take];omega
   refine⟨_,rfl,.inl ⟨rfl,_,aa hq2⟩,_,rfl,q,_,_,rfl,rfl,hq2,(by rw[length_map];omega),?_⟩;have e5:bs.map V.ref++[V.ref b2]=(bs++[b2]).map V.ref:=by rw[map_append];rfl
   rw[e5];have s3:Same H (aj H2 q (.lst ((bs++[b2]).map V.ref))):=fun z u ee=>by rw[Am (Ai ee hq)];exact s2 _ _ (s1 _ _ ee)
   have tk:∀z xs,H2 z=some (.tup xs)->(aj H2 q (.lst ((bs++[b2]).map V.ref))) z=some (.tup xs):=fun z xs ee=>by rw[Am (AC ee hq2 (fun y=>HO.noConfusion y))];exact ee
   refine⟨b2,bs++[b2],_,rfl,s3,Ae,?_,?_⟩
   .rw[ht1,EM];exact WsAt.snoc ⟨hW.1,fun j c x c1 c2=>tk _ _ (s2 _ _ (hW.2 j c x c1 c2))⟩ (tk _ _ hb2)
   .rw[ht1,Kr];exact tk _ _ hb2
  .rintro Z H1 ⟨b,bs,v3,rfl,s1,hq1,hW,hb⟩;rw[length_map,hE.1,take_length]at hW;exact⟨_,rfl,k H1 q bs s1 hq1 hW⟩
theorem scEWt:FnScope ["entries","counted","second_raise","third_raise","weight"] ["entries"] (defScope (top 89)):=fsc
def spEWt(K:Frag)(D:Ad):Sp:=fun vs H Q _=>∃(l:Addr)(as:List Addr)(es:Lo.Order),vs=[.ref l]/\H l=some (.lst (as.map V.ref))/\EntsAt D.entry H as es/\es.length<=1024/\∀(H':Hp)(q:Addr)(bs:List Addr),Same H H'->H' q=some (.lst (bs.map V.ref))->WsAt H' bs (weights es)->Q (.ref q) H'
theorem NK(T:TxF K mg D):Ok P w K mg base 3 "entry_weights" ["entries"] (spEWt K D):=by
 have GC:=OC (P:=P) (w:=w) (base:=base) T;have GF:=M7 (P:=P) (w:=w) (base:=base) T;have GR:=ON (P:=P) (w:=w) (base:=base) T;refine T.entryWeights.ok scEWt (fun vs H Q E h=>?_) (fun f cdv A outer s H vs Q E hr h=>?_)
 .obtain⟨l,as,es,rfl,_⟩:=h;rfl
 .obtain⟨l,as,es,rfl,hl,hE,hz,k⟩:=h;have hr1:Room 1 _:=hr.mono (by decide)
  refine⟨_,Ab (Al (i:=1) scEWt.nd rfl (inl rfl) (pc GC hr (Aa (pv 0) Ac)))
   (Ab (Al (i:=2) scEWt.nd rfl (Or.inr rfl) (BF (IN rfl) (by rfl) T.max boot_max (Aa (Ay BJ (As (Aa Ag Ac)) (BQ (own:=[("weight",4)]) (tt:=tTest (tOp rNe (tOp (rIxT K) (tVar 4) (tC (.int 0))) (tC (.int 0)))) (te:=tOp (rIxT K) (tVar 4) (tC (.int 1))) rfl scEWt.nd (AE (pv 1)) (blk rfl)
    (fun s H C cl fp=>At (i:=4) scEWt.nd rfl (inl rfl)) (fun s H C cl fp=>Cz (An Bj (Ar AB (pv 4) Ag (fun _ _=>rfl)) Ag (nomark _))) (fun s H C cl fp=>Ar AB (pv 4) Ag (fun _ _=>rfl)))) Ac)))
   (Ab (Al (i:=3) scEWt.nd rfl (Or.inr rfl) (BF (IN rfl) (by rfl) T.max boot_max (Aa (Ay BJ (As (Aa Ag Ac)) (BQ (own:=[("weight",4)]) (te:=tOp (rIxT K) (tVar 4) (tC (.int 2))) rfl scEWt.nd (AE (pv 1)) (blk rfl)
    (fun s H C cl fp=>At (i:=4) scEWt.nd rfl (inl rfl)) (fun s H C cl fp=>Cz (BK (AJ (pc GF hr1 (Aa (pv 4) Ac))))) (fun s H C cl fp=>Ar AB (pv 4) Ag (fun _ _=>rfl)))) Ac)))
   (Af (Aj (BQ (own:=[("weight",4)]) rfl scEWt.nd (AE (pv 1)) (blk rfl)
    (fun s H C cl fp=>At (i:=4) scEWt.nd rfl (inl rfl)) (fun s H C cl fp=>BE) (fun s H C cl fp=>pc GR hr (Aa (pv 4) (Aa (pv 2) (Aa (pv 3) Ac))))))))),?_⟩
  have hs:sizeLine=16777216:=sizeLine_eq;refine⟨_,rfl,l,as,es,rfl,hl,hE,hz,fun H1 q bs s1 hq1 hW=>?_⟩;have hrl:(Lo.rawWeights es).length=es.length:=Cg es _;generalize hws:Lo.rawWeights es=ws at hW hrl;have hbl:bs.length=ws.length:=hW.1;have hzl:(bs.zip ws).length<=sizeLine:=by rw[List.length_zip];omega
  refine⟨(by show 1<=sizeLine;decide),fun b1 hb1=>?_⟩;have s2:Same H1 (aj H1 b1 (.lst [V.int 1])):=ae hb1;have hu2:(aj H1 b1 (.lst [V.int 1])) b1=some (.lst [V.int 1]):=Ae;generalize hH2:aj H1 b1 (.lst [V.int 1])=H2 at s2 hu2;refine⟨_,rfl,q,rfl,⟨_,aa (s2 _ _ hq1)⟩,fun B hB=>?_⟩;refine GY 4 (bs.zip ws) (fun c=>V.ref c.1) (fun c=>c.2.first != 0) (fun c=>V.int (c.2.second:Int)) (GG hbl).symm hB (aa (s2 _ _ hq1)) hzl (fun c H' hc s' R hR=>?_) (fun c H' hc _ s' R hR=>?_) fun H3 s3 hB3=>?_
  .have hcw:=(hW.same (s2.trans s')).zip hc;obtain⟨e0,e1,e2⟩:=ev_w (K:=K) (Z:=(wipe [some (V.ref l),some (.ref q),none,none,none] [4]).set 4 (some (V.ref c.1))) (ta:=tVar 4) (Ah rfl) hcw;refine Ax (AL e0 ev_c fun Q q=>⟨rfl,q⟩) _ ?_
   have d0:(!decide (V.int (c.2.first:Int)=V.int 0))=(c.2.first != 0):=by
    have:=di c.2.first 0;rw[show decide (V.int (c.2.first:Int)=V.int 0)=decide (c.2.first=0) from this];by_cases hz:c.2.first=0
    .rw[hz];rfl
    .rw[decide_eq_false hz];exact(bne_iff_ne.mpr hz).symm
   rw[d0];exact hR H' (ad _)
  .have hcw:=(hW.same (s2.trans s')).zip hc;obtain⟨e0,e1,e2⟩:=ev_w (K:=K) (Z:=(wipe [some (V.ref l),some (.ref q),none,none,none] [4]).set 4 (some (V.ref c.1))) (ta:=tVar 4) (Ah rfl) hcw;exact e1 _ (hR H' (ad _))
  rw[Di (fun x=>x.first != 0) (fun x=>V.int (x.second:Int)) hbl]at hB3
  have hlB:(((ws.filter fun x=>x.first != 0).map fun x=>V.int (x.second:Int))).length<=1024:=by
   rw[length_map];have:=length_filter_le (fun(x:Lo.Weight)=>x.first != 0) ws;omega
  refine⟨b1,B,_,_,rfl,rfl,s3 _ _ hu2,hB3,(by simp only[length_cons,length_nil];omega),fun M hM=>?_⟩;have s4:Same H3 (aj H3 M (.lst ([V.int 1]++(ws.filter fun x=>x.first != 0).map fun x=>V.int (x.second:Int)))):=ae hM;refine⟨M,(1:Int)::(((ws.filter fun x=>x.first != 0).map fun(x:Lo.Weight)=>x.second).map fun(n:Nat)=>(n:Int)),rfl,aa ?_,succ_pos _,fun m m1 m2=>?_⟩
  .rw[Ae,map_cons,map_map,map_map];rfl
  have em:=JD m1 m2;have eS:max 1 (Lo.greatest ((ws.filter fun x=>x.first != 0).map fun(x:Lo.Weight)=>x.second))=Lo.accentsFrom es:=by rw[<-hws];rfl
  rw[eS]at em;subst em;generalize hH4:aj H3 M (.lst ([V.int 1]++(ws.filter fun x=>x.first != 0).map fun x=>V.int (x.second:Int)))=H4 at s4;have s14:Same H1 H4:=s2.trans (s3.trans s4);refine⟨(by show 1<=sizeLine;decide),fun b5 hb5=>?_⟩;have s5:Same H4 (aj H4 b5 (.lst [V.int 1])):=ae hb5;have hu5:(aj H4 b5 (.lst [V.int 1])) b5=some (.lst [V.int 1]):=Ae;generalize hH5:aj H4 b5 (.lst [V.int 1])=H5 at s5 hu5;have s15:Same H1 H5:=s14.trans s5;refine⟨_,rfl,q,rfl,⟨_,aa (s15 _ _ hq1)⟩,fun C hC=>?_⟩;refine GY 4 (bs.zip ws) (fun c=>V.ref c.1) (fun c=> !formP c.2) (fun c=>V.int (c.2.third:Int)) (GG hbl).symm hC (aa (s15 _ _ hq1)) hzl (fun c H' hc s' R hR=>?_) (fun c H' hc _ s' R hR=>?_) fun H6 s6 hC6=>?_
  .have hcw:=(hW.same (s15.trans s')).zip hc;exact BT (Bs (AQ (v:=.bl (formP c.2)) (Ah rfl) fun Q q=>⟨c.1,c.2,rfl,hcw,q⟩)) _ (hR H' (ad _))
  .have hcw:=(hW.same (s15.trans s')).zip hc;obtain⟨e0,e1,e2⟩:=ev_w (K:=K) (Z:=(wipe [some (V.ref l),some (.ref q),some (.int ((Lo.accentsFrom es:Nat):Int)),none,none] [4]).set 4 (some (V.ref c.1))) (ta:=tVar 4) (Ah rfl) hcw;exact e2 _ (hR H' (ad _))
  rw[Di (fun x=> !formP x) (fun x=>V.int (x.third:Int)) hbl]at hC6
  have hlC:(((ws.filter fun x=> !formP x).map fun x=>V.int (x.third:Int))).length<=1024:=by
   rw[length_map];have:=length_filter_le (fun(x:Lo.Weight)=> !formP x) ws;omega
  refine⟨b5,C,_,_,rfl,rfl,s6 _ _ hu5,hC6,(by simp only[length_cons,length_nil];omega),fun M hM=>?_⟩;have s7:Same H6 (aj H6 M (.lst ([V.int 1]++(ws.filter fun x=> !formP x).map fun x=>V.int (x.third:Int)))):=ae hM;refine⟨M,(1:Int)::(((ws.filter fun x=> !formP x).map fun(x:Lo.Weight)=>x.third).map fun(n:Nat)=>(n:Int)),rfl,aa ?_,succ_pos _,fun m m1 m2=>?_⟩
  .rw[Ae,map_cons,map_map,map_map];rfl
  have em:=LU m1 m2 (HL ws).1 (HL ws).2;have eT:max 1 (Lo.greatest ((ws.filter fun(x:Lo.Weight)=>x.first != 0 || x.second != 0).map fun(x:Lo.Weight)=>x.third))=Lo.formsFrom es:=by rw[<-hws];rfl
  rw[eT]at em;subst em;generalize hH7:aj H6 M (.lst ([V.int 1]++(ws.filter fun x=> !formP x).map fun x=>V.int (x.third:Int)))=H7 at s7;have s17:Same H1 H7:=s15.trans (s6.trans s7);refine⟨_,rfl,q,rfl,⟨_,aa (s17 _ _ hq1)⟩,fun R hR=>?_⟩;refine Ci (Pv:=fun i H'=>Same H7 H'/\∃cs:List Addr,H' R=some (.lst (cs.map V.ref))/\WsAt H' cs ((ws.take i).map (Lo.raised (Lo.accentsFrom es) (Lo.formsFrom es)))) ⟨ae hR,[],Ae,⟨rfl,fun i b x h=>by cases h⟩⟩ (fun i H' _ p=>aa (p.1 _ _ (s17 _ _ hq1))) ?_ ?_
  .rintro i y H' hi ⟨s',cs,hcs,hC⟩;obtain⟨b,hb,rfl⟩:=AU hi;have hil:i<ws.length:=by rw[<-hbl];exact(List.getElem?_eq_some_iff.mp hb).1
   obtain⟨x,hx⟩:∃x,ws[i]? =some x:=⟨_,getElem?_eq_getElem hil⟩;have hbx:=s' _ _ (s17 _ _ (hW.2 i b x hb hx));refine⟨by show(((wipe _ []).set 4 none).set 4 (some (V.ref b))).set 4 none=(wipe _ []).set 4 none;rw[set_set,set_set],?_⟩;refine⟨_,rfl,_,rfl,_,rfl,b,x,Lo.accentsFrom es,Lo.formsFrom es,rfl,hbx,fun H'' b2 s'' hb2=>?_⟩;have hR2:=s'' _ _ hcs;have hcl:cs.length=i:=by rw[hC.1,length_map,length_take];omega
   refine⟨_,hR2,(by rw[length_map];omega),?_⟩;have e5:cs.map V.ref++[V.ref b2]=(cs++[b2]).map V.ref:=by rw[map_append];rfl
   rw[e5];have tk:∀z xs,H'' z=some (.tup xs)->(aj H'' R (.lst ((cs++[b2]).map V.ref))) z=some (.tup xs):=fun z xs ee=>by rw[Am (AC ee hR2 (fun y=>HO.noConfusion y))];exact ee
   refine⟨fun z u ee=>by rw[Am (Ai ee hR)];exact s'' _ _ (s' _ _ ee),cs++[b2],Ae,?_⟩;have ht1:ws.take (i+1)=ws.take i++[x]:=by rw[take_add_one,hx];rfl
   have e6:(ws.take (i+1)).map (Lo.raised (Lo.accentsFrom es) (Lo.formsFrom es))=(ws.take i).map (Lo.raised (Lo.accentsFrom es) (Lo.formsFrom es))++[Lo.raised (Lo.accentsFrom es) (Lo.formsFrom es) x]:=by
    rw[ht1,map_append];rfl
   rw[e6];exact WsAt.snoc ⟨hC.1,fun j c x c1 c2=>tk _ _ (s'' _ _ (hC.2 j c x c1 c2))⟩ (tk _ _ hb2)
  .rintro H' ⟨s',cs,hcs,hC⟩;rw[length_map,hbl,take_length]at hC;refine k H' R cs (s1.trans (s17.trans s')) hcs ?_;unfold weights;rw[hws];exact hC
def ky(s:List Nat):List Key:=s.map fun(n:Nat)=>Sum.inl (n:Int)
theorem EZ(s:List Nat):(ky s).map kV=nv s:=by
 unfold ky nv;rw[map_map];rfl
theorem LX{a b:List Nat}(h:ky a=ky b):a=b:=L4 (by rw[<-EZ,<-EZ,h])
def dl(es:Lo.Order)(vs:List V)(s:List Nat):Option V:=(LM.plc es s).bind fun i=>vs[i]?
theorem LG(es:Lo.Order)(e:Lo.Entry)(x:List Nat):LM.plc (es++[e]) x=(LM.plc es x).or (if e.s=x then some es.length else none):=by
 unfold LM.plc;rw[List.findIdx?_append]
 congr 1;rw[List.findIdx?_cons];by_cases h:e.s=x
 .rw[if_pos h,if_pos (by rw[h];exact beq_self_eq_true _)];simp
 .rw[if_neg h,if_neg (by rw[beq_iff_eq];exact h)];rfl
theorem Jk{es:Lo.Order}{vs:List V}{e:Lo.Entry}{v:V}(h:LM.plc es e.s=none)(hl:vs.length=es.length)(s:List Nat):dl (es++[e]) (vs++[v]) s=if s=e.s then some v else dl es vs s:=by
 unfold dl;rw[LG];by_cases hs:s=e.s
 .rw[if_pos hs,hs,h,if_pos rfl];show(vs++[v])[es.length]? =some v;rw[<-hl,List.getElem?_append_right (le_refl _),Nat.sub_self];rfl
 .rw[if_neg hs,if_neg (fun z=>hs z.symm),Option.or_none];cases hp:LM.plc es s with
  |none=>rfl
  |some i=>
   show(vs++[v])[i]? =vs[i]?;rw[List.getElem?_append_left (by rw[hl];exact LM.C1 hp)]
def ScAt(D:Ad)(H:Hp)(sc:Addr)(es:Lo.Order):Prop:=∃(dx d1 d2:Addr)(k1 k2:List (List Key×V))(as bs:List Addr),H sc=some (.ins D.scale dx [("entry_of",.ref d1),("weights_of",.ref d2),("greatest_first",.int ((Lo.topFirst es:Nat):Int))])/\
 H d1=some (.dT k1)/\H d2=some (.dT k2)/\(∀s,valV k1 (ky s)=dl es (as.map V.ref) s)/\(∀s,valV k2 (ky s)=dl es (bs.map V.ref) s)/\EntsAt D.entry H as es/\WsAt H bs (weights es)
theorem ScAt.same{D:Ad}{H H':Hp}{sc:Addr}{es:Lo.Order}(h:ScAt D H sc es)(s:Same H H'):ScAt D H' sc es:=by
 obtain⟨dx,d1,d2,k1,k2,as,bs,h1,h2,h3,h4,h5,h6,h7⟩:=h;exact⟨dx,d1,d2,k1,k2,as,bs,s _ _ h1,s _ _ h2,s _ _ h3,h4,h5,h6.same s,h7.same s⟩
structure TxG (K:Frag) (mg:Str->Option Value) (D:Ad):Prop extends TxF K mg D where
 cC:mg "Scale"=some (.ref D.scale)
 clC:Cls K D.scale
 nC1:NoAttr K D.scale "entry_of"
 nC2:NoAttr K D.scale "weights_of"
 nC3:NoAttr K D.scale "greatest_first"
 iC:Id K D.scale "Scale.__init__" (inClass (top 88) 0) ["self","order"]
 hC:Md K D.scale "has_entry" "Scale.has_entry" (inClass (top 88) 1) ["self","string"]
 lC:Md K D.scale "is_light" "Scale.is_light" (inClass (top 88) 2) ["self","string"]
 aC:Md K D.scale "counted_as" "Scale.counted_as" (inClass (top 88) 3) ["self","string"]
 wC:Md K D.scale "weigh" "Scale.weigh" (inClass (top 88) 4) ["self","string"]
theorem scCI:FnScope ["self","order","weights","entry","weight"] ["self","order"] (defScope (inClass (top 88) 0)):=fsc
def spCI(D:Ad):Sp:=fun vs H Q _=>∃(p dx o l:Addr)(as:List Addr)(es:Lo.Order),vs=[.ref p,.ref o]/\H p=some (.ins D.scale dx [])/\OrdL D H o l as es/\LM.OInv es/\∀H',ScAt D H' p es->SameBut p H H'->Q .non H'
theorem Dg(T:TxG K mg D):IOk P w K mg base 4 D.scale ["self","order"] (spCI D):=by
 have GW:=NK (P:=P) (w:=w) (base:=base) T.toTxF;refine T.iC.ok scCI (fun vs H Q E h=>?_) (fun f cdv A outer s H vs Q E hr h=>?_)
 .obtain⟨p,dx,o,l,as,es,rfl,_⟩:=h;rfl
 .obtain⟨p,dx,o,l,as,es,rfl,hp,hO,hI,k⟩:=h;have hu:=CF hr
  refine⟨_,Ab (Al (i:=2) scCI.nd rfl (inl rfl) (pc GW hr (Aa (Ak (pv 1) rfl) Ac)))
   (Ab (AY (pv 0) HC rfl) (Ab (AY (pv 0) HC rfl)
   (Ab (Ba PassesOwn.never rfl (IQ (by rfl) T.zip (Aa (Ak (pv 1) rfl) (Aa (pv 2) Ac))) (Ef rfl (Bf (At (i:=3) scCI.nd rfl (inl rfl)) (Bf (At (i:=4) scCI.nd rfl (inl rfl)) Db)))
    (Ab (JA hu (Ak (pv 0) rfl) (Ak (pv 3) rfl) (pv 3) rfl) (Af (JA hu (Ak (pv 0) rfl) (Ak (pv 3) rfl) (pv 4) rfl))))
   (Af (AY (pv 0) (pmaxD rfl T.max (BQ (own:=[("weight",4)]) (te:=tOp (rIxT K) (tVar 4) (tC (.int 0))) rfl scCI.nd (AE (pv 2)) (blk rfl)
    (fun s H C cl fp=>At (i:=4) scCI.nd rfl (inl rfl)) (fun s H C cl fp=>BE) (fun s H C cl fp=>Ar AB (pv 4) Ag (fun _ _=>rfl))) Ag) rfl))))),?_⟩
  have hs:sizeLine=16777216:=sizeLine_eq;obtain⟨dxo,ho⟩:=hO.obj;have hil:=hI.len;refine⟨_,rfl,o,D.order,dxo,_,_,rfl,ho,T.clO,T.nO,rfl,l,as,es,rfl,hO.lst,hO.ents,hI.len,fun H1 q bs s1 hq1 hW=>?_⟩;have hwl:bs.length=es.length:=by rw[hW.1];unfold weights;rw[length_map];exact Cg es _
  intro d1 hd1;have hp1:=s1 _ _ hp;have np1:p≠d1:=Ai hp1 hd1;refine⟨_,rfl,p,D.scale,dx,[],rfl,(by rw[Am np1];exact hp1),T.clC,T.nC1,(by decide),?_⟩;generalize hH2:aj (aj H1 d1 (.dT [])) p (.ins D.scale dx (putF "entry_of" (.ref d1) []))=H2;have hp2:H2 p=some (.ins D.scale dx [("entry_of",.ref d1)]):=by rw[<-hH2];exact Ae
  have hd12:H2 d1=some (.dT []):=by rw[<-hH2,Am np1.symm];exact Ae
  have sb2:SameBut p H1 H2:=by
   rw[<-hH2];intro b u e n;rw[Am n,Am (Ai e hd1)];exact e
  intro d2 hd2;have np2:p≠d2:=Ai hp2 hd2;have nd12:d1≠d2:=Ai hd12 hd2;refine⟨_,rfl,p,D.scale,dx,_,rfl,(by rw[Am np2];exact hp2),T.clC,T.nC2,(by show 1<1000;decide),?_⟩;generalize hH3:aj (aj H2 d2 (.dT [])) p (.ins D.scale dx (putF "weights_of" (.ref d2) [("entry_of",.ref d1)]))=H3;have hp3:H3 p=some (.ins D.scale dx [("entry_of",.ref d1),("weights_of",.ref d2)]):=by rw[<-hH3];exact Ae
  have hd13:H3 d1=some (.dT []):=by rw[<-hH3,Am np1.symm,Am nd12];exact hd12
  have hd23:H3 d2=some (.dT []):=by rw[<-hH3,Am np2.symm];exact Ae
  have sb3:SameBut p H1 H3:=sb2.trans (by
   rw[<-hH3];intro b u e n;rw[Am n,Am (Ai e hd2)];exact e)
  have hd1H:H1 d1=none:=hd1;have hd2H:∀b u,H1 b=some u->b≠p->b≠d2:=fun b u e n=>Ai (sb2 b u e n) hd2;have sbH:∀b u,H1 b=some u->b≠p->H3 b=some u:=sb3
  have nop:o≠p:=by
   intro z;rw[z,hp]at ho;injection ho with ho
   injection ho with _ _ ho
   cases ho
  have ho3:=sb3 _ _ (s1 _ _ ho) nop;have nlp:l≠p:=AC hO.lst hp (fun z=>HO.noConfusion z);have nqp:q≠p:=AC hq1 hp1 (fun z=>HO.noConfusion z);refine⟨_,rfl,o,D.order,dxo,_,_,rfl,ho3,T.clO,T.nO,rfl,_,rfl,l,q,as.map V.ref,bs.map V.ref,rfl,aa (sb3 _ _ (s1 _ _ hO.lst) nlp),aa (sb3 _ _ hq1 nqp),?_⟩
  refine Hm (K:=K) (a:=l) (b:=q) (xs:=as.map V.ref) (ys:=bs.map V.ref) (fun i Z H'=>∃(k1 k2:List (List Key×V))(v3 v4:Option V),Z=[some (.ref p),some (.ref o),some (.ref q),v3,v4]/\(∀b u,H1 b=some u->b≠p->H' b=some u)/\
    H' p=some (.ins D.scale dx [("entry_of",.ref d1),("weights_of",.ref d2)])/\H' d1=some (.dT k1)/\H' d2=some (.dT k2)/\k1.length<=i/\k2.length<=i/\(∀s,valV k1 (ky s)=dl (es.take i) ((as.take i).map V.ref) s)/\(∀s,valV k2 (ky s)=dl (es.take i) ((bs.take i).map V.ref) s))
   ⟨[],[],none,none,rfl,sbH,hp3,hd13,hd23,le_refl _,le_refl _,fun s=>rfl,fun s=>rfl⟩ (by rw[length_map,length_map,hO.ents.1,hwl]) (fun i Z H' _ ⟨_,_,_,_,_,h,_⟩=>⟨aa (h _ _ (s1 _ _ hO.lst) nlp),aa (h _ _ hq1 nqp)⟩) ?_ ?_
  .rintro i y z Z H' Tt hi hj ⟨k1,k2,v3,v4,rfl,kp,hp',hd1',hd2',kl1,kl2,kv1,kv2⟩ hT;obtain⟨a,ha,rfl⟩:=AU hi;obtain⟨b,hb,rfl⟩:=AU hj;have hil':i<es.length:=by rw[<-hO.ents.1];exact(List.getElem?_eq_some_iff.mp ha).1
   obtain⟨e,he⟩:∃e,es[i]? =some e:=⟨_,getElem?_eq_getElem hil'⟩;have st:Same H' (aj H' Tt (.tup [.ref a,.ref b])):=ae hT;refine⟨Tt,_,rfl,ab Ae,rfl,_,_,rfl,_,_,rfl,rfl,?_⟩;generalize aj H' Tt (.tup [.ref a,.ref b])=H'' at st;obtain⟨dxa,ts,ta,h1,h2,h3⟩:=(hO.ents.2 i a e ha he).same s1
   have nap:a≠p:=by
    intro z;rw[z,hp1]at h1;injection h1 with h1
    injection h1 with _ _ h1
    cases h1
   have h1':=st _ _ (kp _ _ h1 nap);have h2':=st _ _ (kp _ _ h2 (AC h2 hp1 (fun z=>HO.noConfusion z)));have htk:H'' ts=some (.tup ((ky e.s).map kV)):=by rw[EZ];exact h2'
   refine⟨_,rfl,_,rfl,p,D.scale,dx,_,_,rfl,st _ _ hp',T.clC,T.nC1,rfl,_,rfl,a,D.entry,dxa,_,_,rfl,h1',T.clE,T.nE1,rfl,d1,_,rfl,DPut.t (st _ _ hd1') htk (by omega),?_⟩;generalize hH4:aj H'' d1 (.dT (putK k1 (ky e.s) (.ref a)))=H4;have sb4:SameBut d1 H'' H4:=by rw[<-hH4];exact af
   have hd14:H4 d1=some (.dT (putK k1 (ky e.s) (.ref a))):=by rw[<-hH4];exact Ae
   have kd1:∀b u,H'' b=some u->(∀kk,u≠ .dT kk)->H4 b=some u:=fun b u ee hh=>sb4 _ _ ee (AC ee (st _ _ hd1') (hh _));have hp4:=kd1 _ _ (st _ _ hp') (fun kk z=>HO.noConfusion z);have h14:=kd1 _ _ h1' (fun kk z=>HO.noConfusion z);have ht4:=kd1 _ _ htk (fun kk z=>HO.noConfusion z);have hd24:=sb4 _ _ (st _ _ hd2') nd12.symm;refine⟨_,rfl,_,rfl,p,D.scale,dx,_,_,rfl,hp4,T.clC,T.nC2,rfl,_,rfl,a,D.entry,dxa,_,_,rfl,h14,T.clE,T.nE1,rfl,d2,_,rfl,DPut.t hd24 ht4 (by omega),?_⟩;generalize hH5:aj H4 d2 (.dT (putK k2 (ky e.s) (.ref b)))=H5;have sb5:SameBut d2 H4 H5:=by rw[<-hH5];exact af
   have hd25:H5 d2=some (.dT (putK k2 (ky e.s) (.ref b))):=by rw[<-hH5];exact Ae
   have hd15:H5 d1=some (.dT (putK k1 (ky e.s) (.ref a))):=sb5 _ _ hd14 nd12;have hp5:=sb5 _ _ hp4 np2
   have hnew:LM.plc (es.take i) e.s=none:=by
    refine LM.EY fun j f hf z=>?_;have hj:j<i:=by have:=(List.getElem?_eq_some_iff.mp hf).1;rw[length_take]at this;omega
    rw[List.getElem?_take_of_lt hj]at hf;have q1:(LM.sts es)[j]? =some f.s:=by unfold LM.sts;rw[getElem?_map,hf];rfl
    have q2:(LM.sts es)[i]? =some f.s:=by unfold LM.sts;rw[getElem?_map,he,z];rfl
    exact absurd (Oo hI.nd q1 q2) (by omega)
   have et:es.take (i+1)=es.take i++[e]:=by rw[take_add_one,he];rfl
   have at1:(as.take (i+1)).map V.ref=(as.take i).map V.ref++[V.ref a]:=by rw[take_add_one,ha,map_append];rfl
   have bt1:(bs.take (i+1)).map V.ref=(bs.take i).map V.ref++[V.ref b]:=by rw[take_add_one,hb,map_append];rfl
   have pl:∀(kk:List (List Key×V))(v:V),(putK kk (ky e.s) v).length<=kk.length+1:=by
    intro kk v;unfold putK;split
    .rw[length_map];omega
    .rw[length_append];exact le_refl _
   refine⟨_,_,_,_,rfl,fun bb u ee n=>?_,hp5,hd15,hd25,le_trans (pl _ _) (by omega),le_trans (pl _ _) (by omega),fun s=>?_,fun s=>?_⟩
   .refine sb5 _ _ (sb4 _ _ (st _ _ (kp _ _ ee n)) (Ai ee hd1H)) (hd2H _ _ ee n)
   .rw[et,at1,Jk hnew (by rw[length_map,length_take,length_take,hO.ents.1]),Ij,kv1];by_cases hse:s=e.s
    .rw[if_pos hse,if_pos (by rw[hse])]
    .rw[if_neg hse,if_neg fun z=>hse (LX z)]
   .rw[et,bt1,Jk hnew (by rw[length_map,length_take,length_take,hwl]),Ij,kv2];by_cases hse:s=e.s
    .rw[if_pos hse,if_pos (by rw[hse])]
    .rw[if_neg hse,if_neg fun z=>hse (LX z)]
  .rintro Z H' ⟨k1,k2,v3,v4,rfl,kp,hp',hd1',hd2',kl1,kl2,kv1,kv2⟩;rw[length_map,hO.ents.1,take_length]at kv1 kv2;have eas:as.take es.length=as:=by rw[<-hO.ents.1,take_length]
   have ebs:bs.take es.length=bs:=by rw[<-hwl,take_length]
   rw[eas]at kv1;rw[ebs]at kv2;have hq':=kp _ _ hq1 nqp;have kt:∀b xs,H1 b=some (.tup xs)->H' b=some (.tup xs):=fun b xs ee=>kp _ _ ee (AC ee hp1 (fun z=>HO.noConfusion z));have hW':WsAt H' bs (weights es):=⟨hW.1,fun i b x h1 h2=>kt _ _ (hW.2 i b x h1 h2)⟩
   have hE':EntsAt D.entry H' as es:=⟨hO.ents.1,fun i a e h1 h2=>by
    obtain⟨dxa,ts,ta,e1,e2,e3⟩:=(hO.ents.2 i a e h1 h2).same s1;refine⟨dxa,ts,ta,kp _ _ e1 fun z=>?_,kt _ _ e2,kt _ _ e3⟩;rw[z,hp1]at e1;injection e1 with e1
    injection e1 with _ _ e1
    cases e1⟩
   have hbl:=hW.1;refine⟨_,rfl,q,rfl,⟨_,aa hq'⟩,fun B hB=>?_⟩;refine Dj 4 (ys:=(weights es).map fun x=>V.int (x.first:Int)) hB (aa hq') (by rw[length_map,length_map,hbl]) (by rw[length_map];omega) (fun i x y H2 hx hy s2 R hR=>?_) fun H2 s2 hB2=>?_
   .obtain⟨b,hb,rfl⟩:=AU hx;rw[getElem?_map]at hy;obtain⟨x,hx',rfl⟩:=map_eq_some_iff.mp hy;obtain⟨e0,_,_⟩:=ev_w (K:=K) (Z:=(wipe [some (V.ref p),some (.ref o),some (.ref q),v3,v4] [4]).set 4 (some (V.ref b))) (ta:=tVar 4) (Ah rfl) (s2 _ _ (hW'.2 i b x hb hx'));exact e0 _ (hR _ (ad _))
   .have fin:∀m:Int,m=((Lo.topFirst es:Nat):Int)->∃v,([some (V.ref p),some (.ref o),some (.ref q),v3,v4]:St)[0]? =some (some v)/\∃a C dx' fs,v=V.ref a/\H2 a=some (.ins C dx' fs)/\Cls K C/\NoAttr K C "greatest_first"/\fs.length<1000/\Q .non (aj H2 a (.ins C dx' (putF "greatest_first" (.int m) fs))):=by
     rintro m rfl;have hp2:=s2 _ _ hp';refine⟨_,rfl,p,D.scale,dx,_,rfl,hp2,T.clC,T.nC3,(by show 2<1000;decide),?_⟩;have sbF:SameBut p H2 (aj H2 p (.ins D.scale dx [("entry_of",.ref d1),("weights_of",.ref d2),("greatest_first",.int ((Lo.topFirst es:Nat):Int))])):=af;refine k _ ⟨dx,d1,d2,k1,k2,as,bs,Ae,sbF _ _ (s2 _ _ hd1') np1.symm,sbF _ _ (s2 _ _ hd2') np2.symm,kv1,kv2,?_,?_⟩ fun b u ee n=>?_
     .refine⟨hE'.1,fun i a e h1 h2=>?_⟩;obtain⟨dxa,ts,ta,e1,e2,e3⟩:=(hE'.2 i a e h1 h2).same s2;have g2:=AC e2 hp2 (fun z=>HO.noConfusion z);have g3:=AC e3 hp2 (fun z=>HO.noConfusion z);refine⟨dxa,ts,ta,sbF _ _ e1 fun z=>?_,sbF _ _ e2 g2,sbF _ _ e3 g3⟩;rw[z,hp2]at e1;injection e1 with e1
      injection e1 with _ _ e1
      have:=congrArg List.length e1;exact absurd this (by show¬2=4;decide)
     .refine⟨hW'.1,fun i b x h1 h2=>?_⟩;have e2:=s2 _ _ (hW'.2 i b x h1 h2);exact sbF _ _ e2 (AC e2 hp2 (fun z=>HO.noConfusion z))
     .exact sbF _ _ (s2 _ _ (kp _ _ (s1 _ _ ee) n)) n
    refine⟨B,((weights es).map fun(x:Lo.Weight)=>x.first).map fun(n:Nat)=>(n:Int),rfl,aa ?_,fun h=>?_,fun m m1 m2=>fin m (HW m1 m2)⟩
    .rw[hB2,map_map,map_map];rfl
    .refine fin 0 ?_;have:weights es=[]:=by rw[map_map,List.map_eq_nil_iff]at h;exact h
     unfold Lo.topFirst;rw[this];rfl
theorem HX{g:Int->Int->Int}{ta tb:TE}{Z:St}{H:Hp}{i j:Int}(ha:Ev ta Z H (.int i))(hb:Ev tb Z H (.int j)):Ev (tOp (rI0 fun i j=>.int (g i j)) ta tb) Z H (.int (g i j)):=AL ha hb fun Q q=>⟨i,j,rfl,rfl,q⟩
def lightOf(es:Lo.Order)(s:List Nat):Bool:=match Lo.find es s with
 |some e=>e.light
 |none=>false
def asOf(es:Lo.Order)(s:List Nat):List Nat:=match Lo.find es s with
 |some e=>e.as_
 |none=>[]
def weighOf(es:Lo.Order)(s:List Nat):Lo.Weight:=match Lo.find es s with
 |some _=>Lo.weightOf es s
 |none=>⟨Lo.topFirst es+1+s.headD 0,1,1⟩
theorem Du:∀{es:Lo.Order}{s:List Nat}{i:Nat},LM.plc es s=some i->∃e,es[i]? =some e/\Lo.find es s=some e
 |[],_,_,h=>by cases h
 |f::es,s,i,h=>by
  rw[LM.BH]at h;unfold Lo.find;rw[find?_cons];by_cases hs:f.s=s
  .rw[if_pos hs]at h;cases h;rw[hs,beq_self_eq_true];exact⟨f,rfl,rfl⟩
  .rw[if_neg hs]at h;obtain⟨j,hj,rfl⟩:=map_eq_some_iff.mp h;rw[show(f.s==s)=false from beq_eq_false_iff_ne.mpr hs];obtain⟨e,h1,h2⟩:=Du hj;exact⟨e,by simpa using h1,h2⟩
theorem DY{es:Lo.Order}{s:List Nat}(h:LM.plc es s=none):Lo.find es s=none:=by
 have:=LM.CN es s;rw[h]at this;cases hf:Lo.find es s with
 |none=>rfl
 |some e=>rw[hf]at this;cases this
theorem scCH:FnScope ["self","string"] ["self","string"] (defScope (inClass (top 88) 1)):=fsc
def spCH(D:Ad):Sp:=fun vs H Q _=>∃(sc t:Addr)(es:Lo.Order)(s:List Nat),vs=[.ref sc,.ref t]/\ScAt D H sc es/\H t=some (.tup (nv s))/\Q (.bl (LM.plc es s).isSome) H
theorem G3{es:Lo.Order}{as:List Addr}{H:Hp}{C:Addr}(hE:EntsAt C H as es)(s:List Nat):(dl es (as.map V.ref) s).isSome=(LM.plc es s).isSome:=by
 unfold dl;cases hp:LM.plc es s with
 |none=>rfl
 |some i=>
  have hi:=LM.C1 hp;show((as.map V.ref)[i]?).isSome=true;rw[getElem?_eq_getElem (by rw[length_map,hE.1];exact hi)];rfl
theorem OI(T:TxG K mg D):MOk P w K mg base 1 D.scale "has_entry" ["self","string"] (spCH D):=by
 refine T.hC.ok scCH (fun vs H Q E h=>?_) (fun f cdv A outer s H vs Q E hr h=>?_)
 .obtain⟨sc,t,es,s,rfl,_⟩:=h;rfl
 .obtain⟨sc,t,es,s,rfl,⟨dx,d1,d2,k1,k2,as,bs,h1,h2,h3,h4,h5,h6,h7⟩,ht,k⟩:=h;refine⟨_,Af (Aj (LI (Hi (CF hr) (pv 1) (Ak (pv 0) rfl)))),?_⟩;refine⟨_,rfl,_,rfl,sc,D.scale,dx,_,_,rfl,h1,T.clC,T.nC1,rfl,d1,_,rfl,DGet.t h2 (by rw[EZ];exact ht),?_⟩;rw[h4,G3 h6];exact k
theorem scCL:FnScope ["self","string"] ["self","string"] (defScope (inClass (top 88) 2)):=fsc
def spCL(D:Ad):Sp:=fun vs H Q _=>∃(sc t:Addr)(es:Lo.Order)(s:List Nat),vs=[.ref sc,.ref t]/\ScAt D H sc es/\H t=some (.tup (nv s))/\Q (.bl (lightOf es s)) H
theorem OG(T:TxG K mg D):MOk P w K mg base 1 D.scale "is_light" ["self","string"] (spCL D):=by
 refine T.lC.ok scCL (fun vs H Q E h=>?_) (fun f cdv A outer s H vs Q E hr h=>?_)
 .obtain⟨sc,t,es,s,rfl,_⟩:=h;rfl
 .obtain⟨sc,t,es,s,rfl,⟨dx,d1,d2,k1,k2,as,bs,h1,h2,h3,h4,h5,h6,h7⟩,ht,k⟩:=h;refine⟨_,Af (Aj (B7 (LI (Hi (CF hr) (pv 1) (Ak (pv 0) rfl))) (BV (Ak (Hk (CF hr) (Ak (pv 0) rfl) (pv 1) (fun _ _=>rfl)) rfl)))),?_⟩;have htk:H t=some (.tup ((ky s).map kV)):=by rw[EZ];exact ht
  have g:=DGet.t h2 htk;rw[h4]at g;refine⟨_,rfl,_,rfl,sc,D.scale,dx,_,_,rfl,h1,T.clC,T.nC1,rfl,d1,_,rfl,g,_,rfl,?_⟩;unfold lightOf at k;cases hp:LM.plc es s with
  |none=>
   rw[G3 h6,hp];rw[DY hp]at k;exact iteF k
  |some i=>
   obtain⟨e,he,hf⟩:=Du hp;obtain⟨a,ha⟩:∃a,as[i]? =some a:=⟨_,getElem?_eq_getElem (by rw[h6.1];exact LM.C1 hp)⟩;obtain⟨dxa,ts,ta,e1,e2,e3⟩:=h6.2 i a e ha he;have gv:dl es (as.map V.ref) s=some (V.ref a):=by unfold dl;rw[hp];exact Bh ha
   rw[gv]at g⊢;rw[hf]at k;refine iteT ⟨_,rfl,sc,D.scale,dx,_,_,rfl,h1,T.clC,T.nC1,rfl,_,rfl,d1,V.ref a,rfl,g,a,D.entry,dxa,_,_,rfl,e1,T.clE,T.nE3,rfl,k⟩
theorem scCA:FnScope ["self","string"] ["self","string"] (defScope (inClass (top 88) 3)):=fsc
def spCA(D:Ad):Sp:=fun vs H Q _=>∃(sc t:Addr)(es:Lo.Order)(s:List Nat),vs=[.ref sc,.ref t]/\ScAt D H sc es/\H t=some (.tup (nv s))/\∀(H':Hp)(b:Addr),Same H H'->H' b=some (.tup (nv (asOf es s)))->Q (.ref b) H'
theorem O3(T:TxG K mg D):MOk P w K mg base 1 D.scale "counted_as" ["self","string"] (spCA D):=by
 refine T.aC.ok scCA (fun vs H Q E h=>?_) (fun f cdv A outer s H vs Q E hr h=>?_)
 .obtain⟨sc,t,es,s,rfl,_⟩:=h;rfl
 .obtain⟨sc,t,es,s,rfl,⟨dx,d1,d2,k1,k2,as,bs,h1,h2,h3,h4,h5,h6,h7⟩,ht,k⟩:=h;refine⟨_,Af (Aj (AT (Cr (Hi (CF hr) (pv 1) (Ak (pv 0) rfl))) (Ak (Hk (CF hr) (Ak (pv 0) rfl) (pv 1) (fun _ _=>rfl)) rfl) (AV Ac))),?_⟩;have htk:H t=some (.tup ((ky s).map kV)):=by rw[EZ];exact ht
  have g:=DGet.t h2 htk;rw[h4]at g;refine⟨_,rfl,_,rfl,sc,D.scale,dx,_,_,rfl,h1,T.clC,T.nC1,rfl,d1,_,rfl,g,_,rfl,?_⟩;unfold asOf at k;cases hp:LM.plc es s with
  |none=>
   rw[G3 h6,hp];rw[DY hp]at k;exact iteF ⟨zero_le _,fun b hb=>k _ b (ae hb) Ae⟩
  |some i=>
   obtain⟨e,he,hf⟩:=Du hp;obtain⟨a,ha⟩:∃a,as[i]? =some a:=⟨_,getElem?_eq_getElem (by rw[h6.1];exact LM.C1 hp)⟩;obtain⟨dxa,ts,ta,e1,e2,e3⟩:=h6.2 i a e ha he;have gv:dl es (as.map V.ref) s=some (V.ref a):=by unfold dl;rw[hp];exact Bh ha
   rw[gv]at g⊢;rw[hf]at k;refine iteT ⟨_,rfl,sc,D.scale,dx,_,_,rfl,h1,T.clC,T.nC1,rfl,_,rfl,d1,V.ref a,rfl,g,a,D.entry,dxa,_,_,rfl,e1,T.clE,T.nE4,rfl,k H ta (ad _) e3⟩
theorem scCWg:FnScope ["self","string"] ["self","string"] (defScope (inClass (top 88) 4)):=fsc
def spCWg(D:Ad):Sp:=fun vs H Q _=>∃(sc t:Addr)(es:Lo.Order)(s:List Nat),vs=[.ref sc,.ref t]/\ScAt D H sc es/\H t=some (.tup (nv s))/\s≠[]/\∀(H':Hp)(b:Addr),Same H H'->H' b=some (.tup (wv (weighOf es s)))->Q (.ref b) H'
theorem KF(T:TxG K mg D):MOk P w K mg base 1 D.scale "weigh" ["self","string"] (spCWg D):=by
 refine T.wC.ok scCWg (fun vs H Q E h=>?_) (fun f cdv A outer s H vs Q E hr h=>?_)
 .obtain⟨sc,t,es,s,rfl,_⟩:=h;rfl
 .obtain⟨sc,t,es,s,rfl,⟨dx,d1,d2,k1,k2,as,bs,h1,h2,h3,h4,h5,h6,h7⟩,ht,hne,k⟩:=h
  refine⟨_,Ab (Av (Cr (Hi (CF hr) (pv 1) (Ak (pv 0) rfl))) (Af (Aj (Hk (CF hr) (Ak (pv 0) rfl) (pv 1) (fun _ _=>rfl)))) Ao)
   (Af (Aj (AV (Aa (Ay AN (Ay AN (Ak (pv 0) rfl) Ag) (Ar AB (pv 1) Ag (fun _ _=>rfl))) (Aa Ag (Aa Ag Ac)))))),?_⟩
  have htk:H t=some (.tup ((ky s).map kV)):=by rw[EZ];exact ht
  have g:=DGet.t h3 htk;rw[h5]at g;have hwl:bs.length=es.length:=by rw[h7.1];unfold weights;rw[length_map];exact Cg es _
  refine⟨_,rfl,_,rfl,sc,D.scale,dx,_,_,rfl,h1,T.clC,T.nC2,rfl,d2,_,rfl,g,_,rfl,?_⟩;unfold weighOf at k;cases hp:LM.plc es s with
  |none=>
   have gv:dl es (bs.map V.ref) s=none:=by unfold dl;rw[hp];rfl
   rw[gv];rw[DY hp]at k;obtain⟨c,s',rfl⟩:=List.exists_cons_of_ne_nil hne;refine iteF ?_;refine HX (HX (Az (ta:=tVar 0) (Z:=[some (V.ref sc),some (V.ref t)]) (Ah rfl) h1 T.clC T.nC3 rfl) ev_c) (CS (K:=K) (ta:=tVar 1) (Ah (Z:=[some (V.ref sc),some (V.ref t)]) rfl) ev_c (ab ht) (AA (j:=0) (v:=V.int (c:Int)) rfl rfl)) _ ?_;exact⟨(by show 3<=sizeLine;decide),fun b hb=>k _ b (ae hb) Ae⟩
  |some i=>
   obtain⟨e,he,hf⟩:=Du hp;have hi:=LM.C1 hp;obtain⟨b,hb⟩:∃b,bs[i]? =some b:=⟨_,getElem?_eq_getElem (by rw[hwl];exact hi)⟩;have gv:dl es (bs.map V.ref) s=some (V.ref b):=by unfold dl;rw[hp];exact Bh hb
   rw[gv]at g⊢;rw[hf]at k;obtain⟨x,hx⟩:∃x,(weights es)[i]? =some x:=⟨_,getElem?_eq_getElem (by rw[<-h7.1,hwl];exact hi)⟩
   have ew:Lo.weightOf es s=x:=by
    unfold Lo.weightOf;rw[LM.C8 hp,getD_eq_getElem?_getD,hx];rfl
   have k:∀(H':Hp)(b:Addr),Same H H'->H' b=some (.tup (wv (Lo.weightOf es s)))->Q (.ref b) H':=k;rw[ew]at k;exact iteT ⟨_,rfl,sc,D.scale,dx,_,_,rfl,h1,T.clC,T.nC2,rfl,_,rfl,d2,V.ref b,rfl,g,k H b (ad _) (h7.2 i b x hb hx)⟩
end LP
namespace LP
open Lo (Chars Order Entry Item Weight)
def strAt(es:Order)(r:Chars):Chars:=
 if(LM.plc es (r.take 4)).isSome=true then r.take 4 else if(LM.plc es (r.take 3)).isSome=true then r.take 3 else if(LM.plc es (r.take 2)).isSome=true then r.take 2 else r.take 1
def tks(es:Order):Nat->Chars->List Chars
 |0,_=>[]
 |_+1,[]=>[]
 |n+1,c::r=>strAt es (c::r)::tks es n ((c::r).drop (strAt es (c::r)).length)
def partOf(es:Order)(s:Chars):Item:=⟨weighOf es s,lightOf es s,none⟩
def itemOf(es:Order)(s:Chars):Item:=⟨weighOf es s,lightOf es s,Lo.digitOf s.length (s.headD 0)⟩
theorem BD(es:Order)(c:Nat)(r:Chars):1<=(strAt es (c::r)).length/\(strAt es (c::r)).length<=4/\(strAt es (c::r)).length<=(c::r).length/\(strAt es (c::r))=(c::r).take (strAt es (c::r)).length/\(strAt es (c::r)).headD 0=c:=by
 have h:∃n,1<=n/\n<=4/\strAt es (c::r)=(c::r).take n:=by
  unfold strAt;split
  .exact⟨4,by omega,by omega,rfl⟩
  .split
   .exact⟨3,by omega,by omega,rfl⟩
   .split
    .exact⟨2,by omega,by omega,rfl⟩
    .exact⟨1,by omega,by omega,rfl⟩
 obtain⟨n,h1,h2,e⟩:=h;rw[e];refine⟨?_,?_,?_,?_,?_⟩
 .rw[length_take,length_cons];omega
 .rw[length_take];omega
 .rw[length_take];omega
 .rw[length_take,List.take_eq_take_iff];omega
 .obtain⟨m,rfl⟩:∃m,n=m+1:=⟨n - 1,by omega⟩;rfl
theorem KR{x a:Chars}(h:x.isPrefixOf a=true):x=a.take x.length:=by
 rw[List.isPrefixOf_iff_prefix]at h;exact List.prefix_iff_eq_take.mp h
theorem Fk{es:Order}{a:Chars}{e:Entry}(he:e∈es)(h:e.s=a.take e.s.length):e.s.length<=Lo.longest es a:=by
 unfold Lo.longest Lo.greatest;refine(B0 _ 0).2 _ (mem_map.mpr ⟨e,mem_filter.mpr ⟨he,?_⟩,rfl⟩);show e.s.isPrefixOf a=true;rw[List.isPrefixOf_iff_prefix];exact List.prefix_iff_eq_take.mpr h
theorem Hs(es:Order)(a:Chars):Lo.longest es a=0\/∃e∈es,e.s=a.take e.s.length/\e.s.length=Lo.longest es a:=by
 unfold Lo.longest Lo.greatest;rcases BS ((es.filter fun(e:Entry)=>e.s.isPrefixOf a).map fun(e:Entry)=>e.s.length) 0 with h|h
 .exact .inl h
 .obtain⟨e,he,q⟩:=mem_map.mp h;obtain⟨h1,h2⟩:=mem_filter.mp he;exact .inr ⟨e,h1,KR h2,q⟩
theorem CV{es:Order}(I:LM.OInv es)(c:Nat)(r:Chars):front es (c::r) c=((strAt es (c::r)).length,partOf es (strAt es (c::r)),asOf es (strAt es (c::r))):=by
 have none_of:∀x:Chars,(∀e∈es,e.s≠x)->LM.plc es x=none:=fun x h=>LM.EY fun j e he=>h e (mem_of_getElem? he)
 have some_of:∀x:Chars,(LM.plc es x).isSome=true->∃e∈es,e.s=x:=fun x h=>by
  obtain⟨i,hi⟩:=isSome_iff_exists.mp h;obtain⟨e,h1,h2⟩:=LM.Do hi;exact⟨e,mem_of_getElem? h1,h2⟩
 have key:∀n,n<=4->1<=n->(LM.plc es ((c::r).take n)).isSome=true->(c::r).take n=(c::r).take (Lo.longest es (c::r))\/((c::r).take n).length<Lo.longest es (c::r):=by
  intro n _ _ hp;obtain⟨f,hf,e⟩:=some_of _ hp;have hl:=Fk hf (a:=c::r) (by rw[e,length_take,List.take_eq_take_iff];omega);rw[e]at hl;by_cases hlt:((c::r).take n).length<Lo.longest es (c::r)
  .exact .inr hlt
  .left;have q:((c::r).take n).length=Lo.longest es (c::r):=by omega
   rw[<-q,length_take,List.take_eq_take_iff];omega
 rcases Hs es (c::r)with h0|⟨e,he,e1,e2⟩
 .
  have nn:∀n,1<=n->LM.plc es ((c::r).take n)=none:=by
   intro n hn;refine none_of _ fun f hf z=>?_;have hl:=Fk hf (a:=c::r) (by rw[z,length_take,List.take_eq_take_iff];omega);rw[h0,z,length_take,length_cons]at hl;omega
  have es1:strAt es (c::r)=[c]:=by
   unfold strAt;rw[nn 4 (by omega),nn 3 (by omega),nn 2 (by omega)];rfl
  have hf0:Lo.find es []=none:=DY (none_of _ fun f hf z=>(I.each f hf).1 z);have hf1:Lo.find es [c]=none:=DY (nn 1 (le_refl _));unfold front;rw[h0,List.take_zero,hf0,es1];unfold partOf weighOf lightOf asOf;rw[hf1];rfl
 .
  have hm:=I.each e he
  have hL1:1<=Lo.longest es (c::r):=by
   have:=List.length_pos_iff.mpr hm.1;omega
  have hL4:Lo.longest es (c::r)<=4:=by omega
  have hLr:Lo.longest es (c::r)<=(c::r).length:=by
   have:=congrArg List.length e1;rw[length_take]at this;omega
  have hx:e.s=(c::r).take (Lo.longest es (c::r)):=by rw[<-e2];exact e1
  have hpL:(LM.plc es ((c::r).take (Lo.longest es (c::r)))).isSome=true:=LM.Gq.mpr (mem_map.mpr ⟨e,he,hx⟩)
  have hs:strAt es (c::r)=(c::r).take (Lo.longest es (c::r)):=by
   have big:∀n,n<=4->Lo.longest es (c::r)<=n->(LM.plc es ((c::r).take n)).isSome=true->(c::r).take n=(c::r).take (Lo.longest es (c::r)):=by
    intro n h4 hn hp;rcases key n h4 (by omega) hp with q|q
    .exact q
    .rw[length_take]at q;omega
   have ne:∀n,¬(LM.plc es ((c::r).take n)).isSome=true->Lo.longest es (c::r)≠n:=fun n h z=>h (by rw[z]at hpL;exact hpL);unfold strAt;split
   .rename_i h;exact big 4 (le_refl _) hL4 h
   .rename_i n4;have l3:Lo.longest es (c::r)<=3:=by have:=ne 4 n4;omega
    split
    .rename_i h;exact big 3 (by omega) l3 h
    .rename_i n3;have l2:Lo.longest es (c::r)<=2:=by have:=ne 3 n3;omega
     split
     .rename_i h;exact big 2 (by omega) l2 h
     .rename_i n2;have l1:Lo.longest es (c::r)<=1:=by have:=ne 2 n2;omega
      have:Lo.longest es (c::r)=1:=by omega
      rw[this]
  obtain⟨i,hi⟩:=isSome_iff_exists.mp hpL;obtain⟨e',he',hf⟩:=Du hi;obtain⟨e'',he'',hx''⟩:=LM.Do hi;rw[he']at he'';cases he'';unfold front;rw[hf,hs];unfold partOf weighOf lightOf asOf;rw[hf];show(e'.s.length,_,_)=_;rw[hx'']
theorem Et{es:Order}(I:LM.OInv es):∀(n:Nat)(r:Chars),Lo.countedItems es n r=(tks es n r).map (partOf es)
 |0,_=>rfl
 |n+1,[]=>rfl
 |n+1,c::r=>by
  show(front es (c::r) c).2.1::Lo.countedItems es n ((c::r).drop (front es (c::r) c).1)=_;rw[CV I,Et I];rfl
def takeOf(es:Order)(s:Chars):Nat×List Item:=(s.length,itemOf es s::(tks es (asOf es s).length (asOf es s)).map (partOf es))
theorem Eh{es:Order}(I:LM.OInv es):∀(n:Nat)(r:Chars),Lo.takenFrom es n r=(tks es n r).map (takeOf es)
 |0,_=>rfl
 |n+1,[]=>rfl
 |n+1,c::r=>by
  show((front es (c::r) c).1,{(front es (c::r) c).2.1 with digit:=Lo.digitOf (front es (c::r) c).1 c}::Lo.countedItems es (front es (c::r) c).2.2.length (front es (c::r) c).2.2)::Lo.takenFrom es n ((c::r).drop (front es (c::r) c).1)=_;rw[CV I,Et I,Eh I];show _=takeOf es (strAt es (c::r))::_;unfold takeOf itemOf;rw[(BD es c r).2.2.2.2];rfl
theorem Kw{es:Order}(I:LM.OInv es)(a:Chars):Lo.items es a=(tks es a.length a).flatMap fun s=>itemOf es s::(tks es (asOf es s).length (asOf es s)).map (partOf es):=by
 unfold Lo.items Lo.taking;rw[Eh I,List.flatMap_map];rfl
end LP
namespace HT
open PySem PySem.Spec PyProof.Rows
section
variable{prog:Program}{w:World}{A:Around}{E:Value->Shared->Prop}{s:Shared}
theorem DD{t sl:Addr}{its:Array Value}{vl vu:Value}{lo hi:Option Int}{Q:Value->Shared->Prop}(ht:IsTup s.heap t its)(hs:s.heap.IsSliceOf sl vl vu .none)(pl:IsPart vl lo)(pu:IsPart vu hi)
  (h0:sIx its.size 0 lo=0) (h1:sIx its.size its.size hi=its.size) (h:Q (.ref t) s):wpAny (model prog w) A (getItem (.ref t) (.ref sl)) Q E s:=by
 obtain⟨os,hos,hcs,hds⟩:=id hs;have hTs:s.TypeIs (.ref sl) "slice":=⟨os,hos,hcs⟩;unfold getItem
 try with_reducible refine wpAny_holding ?_
 first|refine wpAny_bind (wpAny_pure ?_)|skip
 refine wpAny_bind (wpAny_sequenceKey ht.typeIs (by decide) ?_);refine wpAny_bind (wpAny_callSpecial?_slot (name:=Str.ofString "__getitem__") ht.typeIs PyProof.Rows.slot_tuple_getitem (wpAny_call_entry PyProof.Rows.slot_tuple_getitem ht.typeIs entry_tuple_getitem ?_ (args_tuple_getitem _ _)));show wpAny _ _ (Builtin.Tuple.tupleItemsOf (Value.ref t)>>= _) _ _ s;refine wpAny_bind (tupleItemsOf_ ht (wpAny_bind (wpAny_typeOf hTs ?_)));rw[if_pos (by decide)];refine wpAny_bind (Ch (n:=its.size) hs pl pu ?_);rw[h0,h1];show wpAny _ _ (if((((0:Nat):Int)==0&&(1:Int)==1&&(its.size - 0)==its.size)=true) then _ else _) _ _ s;rw[if_pos (by simp)];unfold Builtin.Tuple.tupleIsExact;refine wpAny_bind (wpAny_bind (wpAny_typeOf ht.typeIs (wpAny_pure ?_)));rw[if_pos (by decide)];refine wpAny_bind (wpAny_rule ?_)
 first
  |exact wpAny_bind (wpAny_pure (wpAny_pure ⟨_,rfl,wpAny_pure h⟩))
  |exact wpAny_bind (wpAny_pure ⟨_,rfl,wpAny_pure h⟩)
  |exact wpAny_pure ⟨_,rfl,wpAny_pure h⟩
end
end HT
namespace L2
open PySem PySem.Spec PyProof.Rows
def rSlW(K:Frag):V->Option Int->Option Int->Hp->VK->Prop:=fun x lo hi H Q=>∃a xs,x= .ref a/\SqT K H a xs/\HT.sIx xs.length 0 lo=0/\HT.sIx xs.length xs.length hi=xs.length/\Q (.ref a) H
theorem N3{X:Cx}:SlR X (rSlW X.K):=by
 intro pins s Z H x v vl vu lo hi sl Q I rx hs pl pu h;obtain⟨a,xs,rfl,hx,h0,h1,q⟩:=h;cases rx;obtain⟨its,r,ht,hz⟩:=I.tuple hx;have hlen:its.toArray.size=xs.length:=by rw[size_toArray];exact r.length.symm
 refine⟨"tuple",_,PyProof.Rows.slot_tuple_getitem.lookup,ht.typeIs,?_⟩;exact HT.DD ht hs pl pu (by rw[hlen];exact h0) (by rw[hlen];exact h1) ⟨.ref a,H,I,rfl,q⟩
end L2
namespace LP
open PySem PySem.Spec L2
structure TxH (K:Frag) (mg:Str->Option Value) (D:Ad):Prop extends TxG K mg D where
 noDigit:GInt mg "NO_DIGIT" (-1)
 cI:mg "Item"=some (.ref D.item)
 clI:Cls K D.item
 nI1:NoAttr K D.item "weights"
 nI2:NoAttr K D.item "light"
 nI3:NoAttr K D.item "digit"
 iI:Id K D.item "Item.__init__" (inClass (top 20) 0) ["self","weights","light","digit"]
 textItems:Df K mg "text_items" (top 21) ["scale","text"]
 takenStrings:Df K mg "taken_strings" (top 22) ["scale","text"]
 stringAt:Df K mg "string_at" (top 23) ["scale","text","place"]
 digitOf:Df K mg "digit_of" (top 24) ["string"]
def SeqAt(H:Hp)(a:Addr)(t:List Nat):Prop:=H a=some (.lst (nv t))\/H a=some (.tup (nv t))
theorem SeqAt.same{H H':Hp}{a:Addr}{t:List Nat}(h:LP.SeqAt H a t)(s:Same H H'):LP.SeqAt H' a t:=h.elim (fun h=>.inl (s _ _ h)) fun h=>.inr (s _ _ h)
theorem SeqAt.sq{K:Frag}{H:Hp}{a:Addr}{t:List Nat}(h:LP.SeqAt H a t):SqL K H a (nv t)\/SqT K H a (nv t):=h.elim (fun h=>.inl (aa h)) fun h=>.inr (ab h)
def itF(tw:Addr)(li:Bool)(d:Option Nat):List (Str×V):=[("weights",.ref tw),("light",.bl li),("digit",.int (oz d))]
def ItAt(C:Addr)(H:Hp)(a:Addr)(x:Lo.Item):Prop:=∃dx tw,H a=some (.ins C dx (itF tw x.light x.digit))/\H tw=some (.tup (wv x.w))
theorem ItAt.same{C:Addr}{H H':Hp}{a:Addr}{x:Lo.Item}(h:ItAt C H a x)(s:Same H H'):ItAt C H' a x:=by
 obtain⟨dx,tw,h1,h2⟩:=h;exact⟨dx,tw,s _ _ h1,s _ _ h2⟩
variable{P:Program}{w:World}{K:Frag}{mg:Str->Option Value}{base:Heap}{D:Ad}
theorem scII:FnScope ["self","weights","light","digit"] ["self","weights","light","digit"] (defScope (inClass (top 20) 0)):=fsc
def spII(C:Addr):Sp:=fun vs H Q _=>∃(p dx tw:Addr)(li:Bool)(d:Option Nat),vs=[.ref p,.ref tw,.bl li,.int (oz d)]/\H p=some (.ins C dx [])/\∀H':Hp,H' p=some (.ins C dx (itF tw li d))->SameBut p H H'->Q .non H'
theorem Nb(T:TxH K mg D):IOk P w K mg base 1 D.item ["self","weights","light","digit"] (spII D.item):=by
 refine T.iI.ok scII (fun vs H Q E h=>?_) (fun f cdv A outer s H vs Q E hr h=>?_)
 .obtain⟨p,dx,tw,li,d,rfl,_⟩:=h;rfl
 .obtain⟨p,dx,tw,li,d,rfl,hp,k⟩:=h;refine⟨_,Ab (AY (pv 0) (pv 1) rfl) (Ab (AY (pv 0) (pv 2) rfl) (Af (AY (pv 0) (pv 3) rfl))),?_⟩;refine⟨_,rfl,_,rfl,p,D.item,dx,[],rfl,hp,T.clI,T.nI1,(by decide),?_⟩;refine⟨_,rfl,_,rfl,p,D.item,dx,_,rfl,Ae,T.clI,T.nI2,(by show 1<1000;decide),?_⟩;refine⟨_,rfl,_,rfl,p,D.item,dx,_,rfl,Ae,T.clI,T.nI3,(by show 2<1000;decide),?_⟩;exact k _ Ae fun b o e n=>by rw[Am n,Am n,Am n];exact e
theorem scDO:FnScope ["string"] ["string"] (defScope (top 24)):=fsc
def spDO:Sp:=fun vs H Q _=>∃(t:Addr)(s:List Nat),vs=[.ref t]/\H t=some (.tup (nv s))/\s≠[]/\Q (.int (oz (Lo.digitOf s.length (s.headD 0)))) H
theorem On(T:TxH K mg D):Ok P w K mg base 2 "digit_of" ["string"] spDO:=by
 have GD:=HG (P:=P) (w:=w) (base:=base) T.toTxA;refine T.digitOf.ok scDO (fun vs H Q E h=>?_) (fun f cdv A outer s H vs Q E hr h=>?_)
 .obtain⟨t,s,rfl,_⟩:=h;rfl
 .obtain⟨t,s,rfl,ht,hne,k⟩:=h
  refine⟨_,Ab (Av (PW.pt (BP (An Be (plen T.len (pv 0)) Ag (nomark _)) (Bx (AJ (pc GD hr (Aa (Ar AB (pv 0) Ag (fun _ _=>rfl)) Ac)))))) (Af (Aj (Ay Cm (Ar AB (pv 0) Ag (fun _ _=>rfl)) (pgi T.zero)))) Ao)
   (Af (Aj (pgi T.noDigit))),?_⟩
  obtain⟨c,s',rfl⟩:=List.exists_cons_of_ne_nil hne;have ev0:Ev (tOp (rIxT K) (tVar 0) (tC (.int 0))) [some (V.ref t)] H (.int (c:Int)):=CS (Ah rfl) ev_c (ab ht) (AA (j:=0) (v:=V.int (c:Int)) rfl rfl);refine By (a:=decide (V.int (((nv (c::s')).length:Nat):Int)=V.int ((1:Nat):Int))) (b:=decide (48<=c)&&decide (c<=57)) (Ax (AL (AG (Ah rfl) (.inr (ab ht))) ev_c fun Q q=>⟨rfl,q⟩)) (fun _=>Bs (AQ ev0 fun Q q=>⟨c,rfl,q⟩)) _ ?_;rw[di,Aq];have e0:Lo.digitOf (c::s').length ((c::s').headD 0)=if(c::s').length=1/\48<=c/\c<=57 then some (c - 48) else none:=rfl;rw[e0]at k;refine ite2 (fun z=>?_) fun z=>?_
  .rw[and_eq_true,and_eq_true,decide_eq_true_eq,decide_eq_true_eq,decide_eq_true_eq]at z;rw[if_pos z]at k;refine HX ev0 ev_c _ ?_;have:(c:Int) - 48=((c - 48:Nat):Int):=by omega
   show Q (.int ((c:Int) - 48)) H;rw[this];exact k
  .rw[if_neg fun y=>z (by rw[decide_eq_true y.1,decide_eq_true y.2.1,decide_eq_true y.2.2];rfl)]at k;exact k
theorem scSA:FnScope ["scale","text","place","size","string"] ["scale","text","place"] (defScope (top 23)):=fsc
def spSA(D:Ad):Sp:=fun vs H Q _=>∃(sc a:Addr)(es:Lo.Order)(t:List Nat)(i:Nat),vs=[.ref sc,.ref a,.int (i:Int)]/\ScAt D H sc es/\LP.SeqAt H a t/\i<t.length/\∀(H':Hp)(b:Addr),Same H H'->H' b=some (.tup (nv (strAt es (t.drop i))))->Q (.ref b) H'
theorem IV(t:List Nat)(i n:Nat):cutV (nv t) (some (i:Int)) (some ((i:Int)+(n:Int)))=nv ((t.drop i).take n):=by
 unfold cutV;have e:(i:Int)+(n:Int)=((i+n:Nat):Int):=by omega
 rw[e,HT.BR,HT.BR,Aq];unfold nv;rw[map_take,map_drop];by_cases h:i<=t.length
 .rw[min_eq_left h];by_cases h2:i+n<=t.length
  .rw[min_eq_left h2,Nat.add_sub_cancel_left]
  .rw[min_eq_right (by omega),take_of_length_le,take_of_length_le]
   .rw[length_drop,length_map];omega
   .rw[length_drop,length_map];exact le_refl _
 .rw[min_eq_right (by omega),min_eq_right (by omega),drop_of_length_le (by rw[length_map];exact le_refl _),drop_of_length_le (by rw[length_map];omega)];simp
def rSl3(K:Frag):V->Option Int->Option Int->Hp->VK->Prop:=fun x lo hi H Q=>rSlL K x lo hi H Q\/(rSlT K x lo hi H Q\/rSlW K x lo hi H Q)
theorem sl_3{X:Cx}:SlR X (rSl3 X.K):=B3.or (Nv.or N3)
theorem MV{H:Hp}{a:Addr}{t:List Nat}{i n:Nat}(hs:LP.SeqAt H a t){Q:VK}(k:∀(H':Hp)(b:Addr),Same H H'->H' b=some (.tup (nv ((t.drop i).take n)))->Q (.ref b) H'):
  rSl3 K (.ref a) (some (i:Int)) (some ((i:Int)+(n:Int))) H fun x H1=>rTupOf K [x] H1 Q:=by
 rcases hs with hs|hs
 .refine .inl ⟨a,_,rfl,aa hs,fun p hp=>?_⟩;rw[IV];refine⟨p,_,rfl,.inl ⟨aa Ae,fun l hl=>k _ l ((ae hp).trans (ae hl)) Ae⟩⟩
 .by_cases hw:HT.sIx (nv t).length 0 (some (i:Int))=0/\HT.sIx (nv t).length (nv t).length (some ((i:Int)+(n:Int)))=(nv t).length
  .refine .inr (.inr ⟨a,_,rfl,ab hs,hw.1,hw.2,a,_,rfl,.inr ⟨ab hs,k H a (ad _) ?_⟩⟩);rw[hs,<-IV];unfold cutV;rw[hw.1,hw.2,drop_zero,Nat.sub_zero,take_length]
  .refine .inr (.inl ⟨a,_,rfl,ab hs,hw,fun p hp=>?_⟩);rw[IV];exact⟨p,_,rfl,.inr ⟨ab Ae,k _ p (ae hp) Ae⟩⟩
theorem OB(T:TxH K mg D):Ok P w K mg base 2 "string_at" ["scale","text","place"] (spSA D):=by
 have GH:=OI (P:=P) (w:=w) (base:=base) T.toTxG;refine T.stringAt.ok scSA (fun vs H Q E h=>?_) (fun f cdv A outer s H vs Q E hr h=>?_)
 .obtain⟨sc,a,es,t,i,rfl,_⟩:=h;rfl
 .obtain⟨sc,a,es,t,i,rfl,hS,ha,hi,k⟩:=h
  refine⟨_,Ab (Ba PassesOwn.never rfl (He (AV (Aa Ag (Aa Ag (Aa Ag Ac))))) (At (i:=3) scSA.nd rfl (inl rfl))
    (Ab (Al (i:=4) scSA.nd rfl (inl rfl) (ptuple T.tuple (BN sl_3 (pv 1) (Bq (pv 2)) (Bq (Ay AN (pv 2) (pv 3))))))
    (Af (Av (AJ (pm GH T.clC hr (pv 0) (Aa (pv 4) Ac))) (Af (Aj (pv 4))) Ao))))
   (Af (Aj (AV (Aa (Ar NE (pv 1) (pv 2) (fun _ _=>rfl)) Ac)))),?_⟩
  refine⟨(by show 3<=sizeLine;decide),fun tt htt=>?_⟩;have st:Same H (aj H tt (.tup [V.int 4,V.int 3,V.int 2])):=ae htt
  have hn:∀n:Nat,¬(LM.plc es ((t.drop i).take n)).isSome=true->LM.plc es ((t.drop i).take n)=none:=fun n h=>by
   cases hp:LM.plc es ((t.drop i).take n)with
   |none=>rfl
   |some j=>rw[hp]at h;exact absurd rfl h
  refine⟨tt,rfl,⟨_,ab Ae⟩,GJ (K:=K) (a:=tt) (xs:=nv [4,3,2]) (fun j Z H'=>∃v3 v4,Z=[some (.ref sc),some (.ref a),some (.int (i:Int)),v3,v4]/\Same H H'/\H' tt=some (.tup (nv [4,3,2]))/\∀n∈[4,3,2].take j,LM.plc es ((t.drop i).take n)=none)
   ⟨none,none,rfl,st,Ae,fun n h=>by cases h⟩ (fun j Z H' _ ⟨_,_,_,_,h,_⟩=>ab h) ?_ ?_⟩
  .rintro j y Z H1 hj ⟨v3,v4,rfl,s1,htt1,hno⟩;obtain⟨n,hn',rfl⟩:=BO hj;refine⟨_,rfl,_,rfl,_,rfl,_,rfl,_,rfl,_,_,rfl,rfl,_,rfl,?_⟩;dsimp only[tNil];refine MV (K:=K) (i:=i) (n:=n) (ha.same s1) fun H2 b s2 hb=>?_;obtain⟨dx,d1,d2,k1,k2,as,bs,hsc,hrest⟩:=hS.same (s1.trans s2);refine⟨_,rfl,sc,dx,_,rfl,hsc,rfl,_,rfl,sc,b,es,_,rfl,hS.same (s1.trans s2),hb,_,rfl,?_⟩;refine ite2 (fun z=>?_) fun z=>?_
   .refine⟨_,rfl,k H2 b (s1.trans s2) ?_⟩
    have:strAt es (t.drop i)=(t.drop i).take n:=by
     unfold strAt
     match j,hn',hno with
     |0,hn',hno=>
      cases hn';rw[if_pos z]
     |1,hn',hno=>
      cases hn';have h4:=hno 4 (by simp);rw[h4,if_neg (by simp),if_pos z]
     |2,hn',hno=>
      cases hn';have h4:=hno 4 (by simp);have h3:=hno 3 (by simp);rw[h4,h3,if_neg (by simp),if_neg (by simp),if_pos z]
     |j+3,hn',_=>simp at hn'
    rw[this];exact hb
   .refine⟨_,_,rfl,s1.trans s2,s2 _ _ htt1,fun m hm=>?_⟩;rw[take_add_one,hn']at hm;rcases mem_append.mp hm with q|q
    .exact hno m q
    .have:m=n:=by simpa using q
     rw[this];exact hn n z
  .rintro Z H1 ⟨v3,v4,rfl,s1,htt1,hno⟩;obtain⟨c,hc⟩:∃c,t[i]? =some c:=⟨_,getElem?_eq_getElem hi⟩;have hd:t.drop i=c::t.drop (i+1):=LM.AM hc
   have fin:1<=sizeLine/\∀p,H1 p=none->Q (.ref p) (aj H1 p (.tup [V.int (c:Int)])):=by
    refine⟨(by show 1<=sizeLine;decide),fun p hp=>k _ p (s1.trans (ae hp)) ?_⟩;have h4:=hno 4 (by simp[nv]);have h3:=hno 3 (by simp[nv]);have h2:=hno 2 (by simp[nv])
    have:strAt es (t.drop i)=[c]:=by
     unfold strAt;rw[h4,h3,h2,if_neg (by simp),if_neg (by simp),if_neg (by simp),hd];rfl
    rw[Ae,this];rfl
   rcases ha.same s1 with hs|hs
   .exact⟨_,rfl,_,rfl,.inl ⟨a,_,(i:Int),_,rfl,rfl,aa hs,AA (j:=i) rfl (Dz hc),fin⟩⟩
   .exact⟨_,rfl,_,rfl,.inr (.inl ⟨a,_,(i:Int),_,rfl,rfl,ab hs,AA (j:=i) rfl (Dz hc),fin⟩)⟩
def LsAt{α:Type}(R:Hp->Addr->α->Prop)(H:Hp)(bs:List Addr)(xs:List α):Prop:=bs.length=xs.length/\∀(i:Nat) b x,bs[i]? =some b->xs[i]? =some x->R H b x
theorem LsAt.mono{α:Type}{R:Hp->Addr->α->Prop}{H H':Hp}{bs:List Addr}{xs:List α}(h:LsAt R H bs xs)(m:∀b x,R H b x->R H' b x):LsAt R H' bs xs:=⟨h.1,fun i b x h1 h2=>m _ _ (h.2 i b x h1 h2)⟩
theorem LsAt.nil{α:Type}{R:Hp->Addr->α->Prop}{H:Hp}:LsAt R H [] []:=⟨rfl,fun i b x h=>by cases h⟩
theorem LsAt.snoc{α:Type}{R:Hp->Addr->α->Prop}{H:Hp}{bs:List Addr}{xs:List α}{b:Addr}{x:α}(h:LsAt R H bs xs)(hb:R H b x):LsAt R H (bs++[b]) (xs++[x]):=by
 refine⟨by rw[length_append,length_append,h.1];rfl,fun i b' x' h1 h2=>?_⟩;rw[List.getElem?_append]at h1 h2;rw[h.1]at h1;by_cases hi:i<xs.length
 .rw[if_pos hi]at h1 h2;exact h.2 i b' x' h1 h2
 .rw[if_neg hi]at h1 h2;cases hk:i - xs.length with
  |zero=>rw[hk]at h1 h2;cases h1;cases h2;exact hb
  |succ m=>rw[hk]at h1;cases h1
def StrAt(H:Hp)(b:Addr)(s:List Nat):Prop:=H b=some (.tup (nv s))
theorem Bw(bs:List Addr)(b:Addr):bs.map V.ref++[V.ref b]=(bs++[b]).map V.ref:=by rw[map_append];rfl
theorem Ii{es:Lo.Order}:∀(n m:Nat)(r:List Nat),r.length<=n->r.length<=m->tks es n r=tks es m r
 |_,_,[],_,_=>by
  rename_i n m;cases n<;>cases m<;>rfl
 |0,_,c::r,h,_=>by cases h
 |_+1,0,c::r,_,h=>by cases h
 |n+1,m+1,c::r,h1,h2=>by
  show strAt es (c::r)::tks es n ((c::r).drop (strAt es (c::r)).length)=strAt es (c::r)::tks es m ((c::r).drop (strAt es (c::r)).length);have hl:=(BD es c r).1;rw[Ii n m _ (by rw[length_drop,length_cons];rw[length_cons]at h1;omega) (by rw[length_drop,length_cons];rw[length_cons]at h2;omega)]
def tk(es:Lo.Order)(r:List Nat):List (List Nat):=tks es r.length r
theorem Oi(es:Lo.Order):tk es []=[]:=rfl
theorem MQ(es:Lo.Order)(c:Nat)(r:List Nat):tk es (c::r)=strAt es (c::r)::tk es ((c::r).drop (strAt es (c::r)).length):=by
 unfold tk;show strAt es (c::r)::tks es r.length ((c::r).drop (strAt es (c::r)).length)=_;have hl:=(BD es c r).1;rw[Ii r.length ((c::r).drop (strAt es (c::r)).length).length _ (by rw[length_drop,length_cons];omega) (le_refl _)]
theorem DQ{es:Lo.Order}:∀(n:Nat)(r:List Nat)(s:List Nat),s∈tks es n r->1<=s.length/\s.length<=4
 |0,_,_,h=>by cases h
 |_+1,[],_,h=>by cases h
 |n+1,c::r,s,h=>by
  rcases mem_cons.mp h with z|z
  .rw[z];exact⟨(BD es c r).1,(BD es c r).2.1⟩
  .exact DQ n _ s z
theorem Cq{es:Lo.Order}:∀(n:Nat)(r:List Nat),(tks es n r).length<=r.length
 |0,_=>zero_le _
 |_+1,[]=>le_refl _
 |n+1,c::r=>by
  show(tks es n ((c::r).drop (strAt es (c::r)).length)).length+1<=r.length+1;have h1:=Cq (es:=es) n ((c::r).drop (strAt es (c::r)).length);have hl:=(BD es c r).1;rw[length_drop,length_cons]at h1;omega
theorem scTS:FnScope ["scale","text","strings","place","string"] ["scale","text"] (defScope (top 22)):=fsc
def spTS(D:Ad):Sp:=fun vs H Q _=>∃(sc a:Addr)(es:Lo.Order)(t:List Nat),vs=[.ref sc,.ref a]/\ScAt D H sc es/\LP.SeqAt H a t/\t.length<=1000/\∀(H':Hp)(q:Addr)(bs:List Addr),Same H H'->H q=none->H' q=some (.lst (bs.map V.ref))->LsAt StrAt H' bs (tk es t)->Q (.ref q) H'
theorem M1(T:TxH K mg D):Ok P w K mg base 3 "taken_strings" ["scale","text"] (spTS D):=by
 have GS:=OB (P:=P) (w:=w) (base:=base) T;refine T.takenStrings.ok scTS (fun vs H Q E h=>?_) (fun f cdv A outer s H vs Q E hr h=>?_)
 .obtain⟨sc,a,es,t,rfl,_⟩:=h;rfl
 .obtain⟨sc,a,es,t,rfl,hS,ha,hz,k⟩:=h
  refine⟨_,Ab (Al (i:=2) scTS.nd rfl (inl rfl) (As Ac)) (Ab (Al (i:=3) scTS.nd rfl (inl rfl) Ag)
   (Ab (A9 PassesOwn.never (An CG (pv 3) (plen T.len (pv 1)) (nomark _))
    (Ab (Al (i:=4) scTS.nd rfl (inl rfl) (pc GS hr (Aa (pv 0) (Aa (pv 1) (Aa (pv 3) Ac)))))
    (Ab (Au (AR plainAttrs_list PySem.F.slot_list_append PySem.F.type_list_append AD (pv 2) (Aa (pv 4) Ac)))
    (Af (Cs (i:=3) scTS.nd rfl (inl rfl) (plen T.len (pv 4)) Cp)))))
   (Af (Aj (pv 2))))),?_⟩
  have hs:sizeLine=16777216:=sizeLine_eq;refine⟨zero_le _,fun q hq=>?_⟩;have sq:Same H (aj H q (.lst [])):=ae hq
  refine BI (fun m Z H'=>∃(i:Nat)(bs:List Addr)(ss:List (List Nat))(v4:Option V),m=t.length - i/\Z=[some (.ref sc),some (.ref a),some (.ref q),some (.int (i:Int)),v4]/\i<=t.length/\Same H H'/\H' q=some (.lst (bs.map V.ref))/\LsAt StrAt H' bs ss/\ss.length<=i/\tk es t=ss++tk es (t.drop i))
   ⟨_,0,[],[],none,rfl,rfl,zero_le _,sq,Ae,LsAt.nil,le_refl _,rfl⟩ ?_
  rintro m Z H' ⟨i,bs,ss,v4,rfl,rfl,hi,s1,hq1,hL,hsl,hT⟩;have ha1:=ha.same s1;refine⟨_,AZ (Ah rfl) (AG (Ah rfl) ha1.sq),fun z=>?_,fun z=>?_⟩
  .have hi':i<t.length:=by have:=of_decide_eq_true z;rw[Aq]at this;omega
   obtain⟨c,hc⟩:∃c,t[i]? =some c:=⟨_,getElem?_eq_getElem hi'⟩;have hd:t.drop i=c::t.drop (i+1):=LM.AM hc;refine⟨_,rfl,_,rfl,_,rfl,sc,a,es,t,i,rfl,hS.same s1,ha1,hi',fun H2 b s2 hb=>?_⟩;obtain⟨l1,l2,l3,l4,l5⟩:=BD es c (t.drop (i+1));rw[<-hd]at l1 l2 l3 l4 l5;rw[length_drop]at l3;have hq2:=s2 _ _ hq1;refine⟨_,rfl,.inl ⟨rfl,_,aa hq2⟩,_,rfl,q,_,_,rfl,rfl,hq2,(by rw[length_map,hL.1];omega),?_⟩;rw[Bw];have kt:∀z xs,H2 z=some (.tup xs)->(aj H2 q (.lst ((bs++[b]).map V.ref))) z=some (.tup xs):=fun z xs ee=>by rw[Am (AC ee hq2 (fun y=>HO.noConfusion y))];exact ee
   refine⟨_,rfl,?_⟩;refine AG (Ah rfl) (.inr (ab (kt _ _ hb))) _ ⟨_,_,rfl,rfl,?_⟩;rw[Aq];have e1:(i:Int)+((strAt es (t.drop i)).length:Int)=((i+(strAt es (t.drop i)).length:Nat):Int):=by omega
   refine⟨t.length - (i+(strAt es (t.drop i)).length),(by omega),i+(strAt es (t.drop i)).length,bs++[b],ss++[strAt es (t.drop i)],some (.ref b),rfl,(by rw[<-e1];rfl),(by omega),fun z u ee=>by rw[Am (Ai ee hq)];exact s2 _ _ (s1 _ _ ee),Ae,(hL.mono fun b x h=>kt _ _ (s2 _ _ h)).snoc (kt _ _ hb),?_,?_⟩
   .rw[length_append];show ss.length+1<=_;omega
   .have e2:tk es (t.drop i)=strAt es (t.drop i)::tk es (t.drop (i+(strAt es (t.drop i)).length)):=by
     have e3:=MQ es c (t.drop (i+1));rw[<-hd,drop_drop]at e3;exact e3
    rw[hT,append_assoc];exact congrArg (ss++ ·) e2
  .have hi':i=t.length:=by have:=of_decide_eq_false z;rw[Aq]at this;omega
   rw[hi',List.drop_length,Oi,append_nil]at hT;refine⟨_,rfl,k H' q bs s1 hq hq1 ?_⟩;rw[hT];exact hL
theorem ItAt.keep{C:Addr}{H H':Hp}{a q:Addr}{xs:List V}{x:Lo.Item}(h:ItAt C H a x)(hq:H q=some (.lst xs))(s:SameBut q H H'):ItAt C H' a x:=by
 obtain⟨dx,tw,h1,h2⟩:=h;exact⟨dx,tw,s _ _ h1 (AC h1 hq (fun z=>HO.noConfusion z)),s _ _ h2 (AC h2 hq (fun z=>HO.noConfusion z))⟩
theorem scTI:FnScope ["scale","text","found","string","part"] ["scale","text"] (defScope (top 21)):=fsc
def itsOf(es:Lo.Order)(s:List Nat):List Lo.Item:=itemOf es s::(tk es (asOf es s)).map (partOf es)
theorem Iu{es:Lo.Order}(I:LM.OInv es)(a:List Nat):Lo.items es a=(tk es a).flatMap (itsOf es):=Kw I a
def spTI(D:Ad):Sp:=fun vs H Q _=>∃(sc a:Addr)(es:Lo.Order)(t:List Nat),vs=[.ref sc,.ref a]/\ScAt D H sc es/\LM.OInv es/\LP.SeqAt H a t/\t.length<=1000/\∀(H':Hp)(q:Addr)(bs:List Addr),Same H H'->H q=none->H' q=some (.lst (bs.map V.ref))->LsAt (ItAt D.item) H' bs (Lo.items es t)->Q (.ref q) H'
theorem Hx{es:Lo.Order}(I:LM.OInv es)(s:List Nat):(asOf es s).length<=4:=by
 unfold asOf;cases h:Lo.find es s with
 |none=>exact zero_le _
 |some e=>
  unfold Lo.find at h;exact(I.each e (List.mem_of_find?_eq_some h)).2.2.1
theorem Kq{es:Lo.Order}(I:LM.OInv es)(s:List Nat):(itsOf es s).length<=5:=by
 unfold itsOf tk;rw[length_cons,length_map];have h1:=Cq (es:=es) (asOf es s).length (asOf es s);have h2:=Hx I s;omega
theorem DV{es:Lo.Order}(I:LM.OInv es):∀ss:List (List Nat),(ss.flatMap (itsOf es)).length<=5 * ss.length
 |[]=>le_refl _
 |s::ss=>by
  rw[List.flatMap_cons,length_append,length_cons];have h1:=Kq I s;have h2:=DV I ss;omega
theorem F6{s:List Nat}(h:1<=s.length):s≠[]:=fun z=>by rw[z]at h;exact absurd h (by decide)
theorem Ni(T:TxH K mg D):Ok P w K mg base 4 "text_items" ["scale","text"] (spTI D):=by
 have GT:=M1 (P:=P) (w:=w) (base:=base) T;have GI:=Nb (P:=P) (w:=w) (base:=base) T;have GW:=KF (P:=P) (w:=w) (base:=base) T.toTxG;have GL:=OG (P:=P) (w:=w) (base:=base) T.toTxG;have GA:=O3 (P:=P) (w:=w) (base:=base) T.toTxG;have GD:=On (P:=P) (w:=w) (base:=base) T;refine T.textItems.ok scTI (fun vs H Q E h=>?_) (fun f cdv A outer s H vs Q E hr h=>?_)
 .obtain⟨sc,a,es,t,rfl,_⟩:=h;rfl
 .obtain⟨sc,a,es,t,rfl,hS,hI,ha,hz,k⟩:=h;have hr1:Room 1 _:=hr.mono (by decide);have hr2:Room 2 _:=hr.mono (by decide)
  refine⟨_,Ab (Al (i:=2) scTI.nd rfl (inl rfl) (As Ac))
   (Ab (Ba PassesOwn.never rfl (AE (pc GT hr (Aa (pv 0) (Aa (pv 1) Ac)))) (At (i:=3) scTI.nd rfl (inl rfl))
    (Ab (Au (AR plainAttrs_list PySem.F.slot_list_append PySem.F.type_list_append AD (pv 2) (Aa (pmk GI hr2 T.cI (Aa (pm GW T.clC hr1 (pv 0) (Aa (pv 3) Ac)) (Aa (pm GL T.clC hr1 (pv 0) (Aa (pv 3) Ac)) (Aa (pc GD hr2 (Aa (pv 3) Ac)) Ac)))) Ac)))
    (Af (Ba PassesOwn.never rfl (AE (pc GT hr (Aa (pv 0) (Aa (pm GA T.clC hr1 (pv 0) (Aa (pv 3) Ac)) Ac)))) (At (i:=4) scTI.nd rfl (inl rfl))
     (Af (Au (AR plainAttrs_list PySem.F.slot_list_append PySem.F.type_list_append AD (pv 2) (Aa (pmk GI hr2 T.cI (Aa (pm GW T.clC hr1 (pv 0) (Aa (pv 4) Ac)) (Aa (pm GL T.clC hr1 (pv 0) (Aa (pv 4) Ac)) (Aa (pgi T.noDigit) Ac)))) Ac))))))))
   (Af (Aj (pv 2)))),?_⟩
  have hs:sizeLine=16777216:=sizeLine_eq;refine⟨zero_le _,fun q hq=>?_⟩;have sq:Same H (aj H q (.lst [])):=ae hq;have hqq:(aj H q (.lst [])) q=some (.lst (([]:List Addr).map V.ref)):=Ae;generalize aj H q (.lst [])=H0 at sq hqq;refine⟨_,rfl,_,rfl,sc,a,es,t,rfl,hS.same sq,ha.same sq,hz,fun H1 l ls s1 hl0 hl1 hLs=>?_⟩;have nlq:l≠q:=(Ai hqq hl0).symm;have htl:=Cq (es:=es) t.length t;have htl:(tk es t).length<=t.length:=htl
  refine⟨l,rfl,⟨_,aa hl1⟩,Bt (K:=K) (a:=l) (xs:=ls.map V.ref) (fun i Z H'=>∃(bs:List Addr)(v3 v4:Option V),Z=[some (.ref sc),some (.ref a),some (.ref q),v3,v4]/\Same H H'/\H' q=some (.lst (bs.map V.ref))/\LsAt (ItAt D.item) H' bs (((tk es t).take i).flatMap (itsOf es))/\H' l=some (.lst (ls.map V.ref))/\LsAt StrAt H' ls (tk es t))
   ⟨[],none,none,rfl,sq.trans s1,s1 _ _ hqq,LsAt.nil,hl1,hLs⟩ (fun i Z H' _ ⟨_,_,_,_,_,_,_,h,_⟩=>aa h) ?_ ?_⟩
  .rintro i y Z H2 hi ⟨bs,v3,v4,rfl,sH,hq2,hB,hl2,hL2⟩;obtain⟨p,hp,rfl⟩:=AU hi;have hil:i<(tk es t).length:=by rw[<-hL2.1];exact(List.getElem?_eq_some_iff.mp hp).1
   obtain⟨st,hst⟩:∃st,(tk es t)[i]? =some st:=⟨_,getElem?_eq_getElem hil⟩;have hp2:H2 p=some (.tup (nv st)):=hL2.2 i p st hp hst;obtain⟨l1,l2⟩:=DQ _ _ st (mem_of_getElem? hst);have hne:=F6 l1;have hS2:=hS.same sH;obtain⟨dx,d1,d2,k1,k2,as,ws,hsc,_⟩:=id hS2;refine⟨_,rfl,.inl ⟨rfl,_,aa hq2⟩,_,rfl,sc,dx,_,rfl,hsc,rfl,_,rfl,sc,p,es,st,rfl,hS2,hp2,hne,fun H3 tw s3 htw=>?_⟩;have hS3:=hS2.same s3;have hp3:=s3 _ _ hp2;refine⟨_,rfl,sc,dx,_,rfl,s3 _ _ hsc,rfl,_,rfl,sc,p,es,st,rfl,hS3,hp3,_,rfl,p,st,rfl,hp3,hne,?_⟩;intro x d hx hd hn;refine⟨x,d,tw,lightOf es st,_,rfl,Ae,fun H4 q1 q2=>⟨rfl,?_⟩⟩;have s4:Same H3 H4:=ai hx hd q2;have s24:=s3.trans s4;have hq4:=s24 _ _ hq2;have hX:ItAt D.item H4 x (itemOf es st):=⟨d,tw,q1,s4 _ _ htw⟩
   have hbl:bs.length<=5 * t.length:=by
    rw[hB.1];have:=DV hI ((tk es t).take i);rw[length_take]at this;omega
   refine⟨q,_,_,rfl,rfl,hq4,(by rw[length_map];omega),?_⟩;rw[Bw];have sb5:SameBut q H4 (aj H4 q (.lst ((bs++[x]).map V.ref))):=af;have hq5:(aj H4 q (.lst ((bs++[x]).map V.ref))) q=some (.lst ((bs++[x]).map V.ref)):=Ae;generalize aj H4 q (.lst ((bs++[x]).map V.ref))=H5 at sb5 hq5;have sH5:Same H H5:=ag (sH.trans s24) sb5 hq;have hl5:=sb5 _ _ (s24 _ _ hl2) nlq;have kt5:∀b s,StrAt H2 b s->StrAt H5 b s:=fun b s h=>sb5 _ _ (s24 _ _ h) (AC (s24 _ _ h) hq4 (fun z=>HO.noConfusion z));have hB5:=((hB.mono fun b x h=>(h.same s24).keep hq4 sb5)).snoc (hX.keep hq4 sb5);have hS5:=hS.same sH5;have hp5:H5 p=some (.tup (nv st)):=kt5 _ _ hp2;obtain⟨dx5,d15,d25,k15,k25,as5,ws5,hsc5,_⟩:=id hS5;refine⟨_,rfl,_,rfl,sc,dx5,_,rfl,hsc5,rfl,_,rfl,sc,p,es,st,rfl,hS5,hp5,fun H6 ta s6 hta=>?_⟩;have has:=Hx hI st;refine⟨sc,ta,es,asOf es st,rfl,hS5.same s6,.inr hta,(by omega),fun H7 m ms s7 hm0 hm7 hMs=>?_⟩;have hq6:=s6 _ _ hq5;have nmq:m≠q:=(Ai hq6 hm0).symm;have s57:=s6.trans s7
   have hml:(tk es (asOf es st)).length<=4:=by
    have:=Cq (es:=es) (asOf es st).length (asOf es st);unfold tk;omega
   refine⟨m,rfl,⟨_,aa hm7⟩,Bt (K:=K) (a:=m) (xs:=ms.map V.ref) (fun j Z H'=>∃(cs:List Addr)(v4:Option V),Z=[some (.ref sc),some (.ref a),some (.ref q),some (.ref p),v4]/\Same H H'/\H' q=some (.lst (cs.map V.ref))/\
     LsAt (ItAt D.item) H' cs (((tk es t).take i).flatMap (itsOf es)++[itemOf es st]++((tk es (asOf es st)).take j).map (partOf es))/\H' m=some (.lst (ms.map V.ref))/\LsAt StrAt H' ms (tk es (asOf es st))/\H' l=some (.lst (ls.map V.ref))/\LsAt StrAt H' ls (tk es t))
    ⟨bs++[x],_,rfl,sH5.trans s57,s57 _ _ hq5,(by rw[List.take_zero,map_nil,append_nil];exact hB5.mono fun b x h=>h.same s57),hm7,hMs,s57 _ _ hl5,hL2.mono fun b s h=>s57 _ _ (kt5 b s h)⟩ (fun j Z H' _ ⟨_,_,_,_,_,_,h,_⟩=>aa h) ?_ ?_⟩
   .rintro j z Z H8 hj ⟨cs,v4',rfl,sH8,hq8,hC,hm8,hM8,hl8,hL8⟩;obtain⟨pp,hpp,rfl⟩:=AU hj;have hjl:j<(tk es (asOf es st)).length:=by rw[<-hM8.1];exact(List.getElem?_eq_some_iff.mp hpp).1
    obtain⟨sp,hsp⟩:∃sp,(tk es (asOf es st))[j]? =some sp:=⟨_,getElem?_eq_getElem hjl⟩;have hp8:H8 pp=some (.tup (nv sp)):=hM8.2 j pp sp hpp hsp;obtain⟨m1,m2⟩:=DQ _ _ sp (mem_of_getElem? hsp);have hS8:=hS.same sH8;obtain⟨dx8,d18,d28,k18,k28,as8,ws8,hsc8,_⟩:=id hS8;refine⟨_,rfl,.inl ⟨rfl,_,aa hq8⟩,_,rfl,sc,dx8,_,rfl,hsc8,rfl,_,rfl,sc,pp,es,sp,rfl,hS8,hp8,F6 m1,fun H9 tw9 s9 htw9=>?_⟩;have hp9:=s9 _ _ hp8;refine⟨_,rfl,sc,dx8,_,rfl,s9 _ _ hsc8,rfl,_,rfl,sc,pp,es,sp,rfl,hS8.same s9,hp9,?_⟩;intro x9 d9 hx9 hd9 hn9;refine⟨x9,d9,tw9,lightOf es sp,none,rfl,Ae,fun H10 r1 r2=>⟨rfl,?_⟩⟩;have s10:Same H9 H10:=ai hx9 hd9 r2;have s810:=s9.trans s10;have hq10:=s810 _ _ hq8;have hX10:ItAt D.item H10 x9 (partOf es sp):=⟨d9,tw9,r1,s10 _ _ htw9⟩
    have hcl:cs.length<=5 * t.length+5:=by
     rw[hC.1,length_append,length_append,length_map,length_take];have:=DV hI ((tk es t).take i);rw[length_take]at this;simp only[length_cons,length_nil];omega
    refine⟨q,_,_,rfl,rfl,hq10,(by rw[length_map];omega),?_⟩;rw[Bw];have sb11:SameBut q H10 (aj H10 q (.lst ((cs++[x9]).map V.ref))):=af;have hq11:(aj H10 q (.lst ((cs++[x9]).map V.ref))) q=some (.lst ((cs++[x9]).map V.ref)):=Ae;generalize aj H10 q (.lst ((cs++[x9]).map V.ref))=H11 at sb11 hq11;have kt11:∀b s,StrAt H8 b s->StrAt H11 b s:=fun b s h=>sb11 _ _ (s810 _ _ h) (AC (s810 _ _ h) hq10 (fun z=>HO.noConfusion z));refine⟨cs++[x9],_,rfl,ag (sH8.trans s810) sb11 hq,hq11,?_,sb11 _ _ (s810 _ _ hm8) nmq,hM8.mono kt11,sb11 _ _ (s810 _ _ hl8) nlq,hL8.mono kt11⟩;have ht:(tk es (asOf es st)).take (j+1)=(tk es (asOf es st)).take j++[sp]:=by rw[take_add_one,hsp];rfl
    rw[ht,map_append,<-append_assoc];exact((hC.mono fun b x h=>(h.same s810).keep hq10 sb11)).snoc (hX10.keep hq10 sb11)
   .rintro Z H8 ⟨cs,v4',rfl,sH8,hq8,hC,hm8,hM8,hl8,hL8⟩;refine⟨cs,_,_,rfl,sH8,hq8,?_,hl8,hL8⟩;have ht:(tk es t).take (i+1)=(tk es t).take i++[st]:=by rw[take_add_one,hst];rfl
    have e0:(((tk es t).take (i+1)).flatMap (itsOf es))=((tk es t).take i).flatMap (itsOf es)++[itemOf es st]++((tk es (asOf es st)).take (ms.map V.ref).length).map (partOf es):=by
     rw[ht,List.flatMap_append,append_assoc,length_map,hM8.1,take_length];simp[itsOf]
    rw[e0];exact hC
  .rintro Z H2 ⟨bs,v3,v4,rfl,sH,hq2,hB,hl2,hL2⟩;refine⟨_,rfl,k H2 q bs sH hq hq2 ?_⟩;rw[Iu hI];rw[length_map,hL2.1,take_length]at hB;exact hB
end LP
namespace LP
open Lo (Chars Order Entry Item Weight How)
def cI(bv:Bool)(x:Item):Item:=match x.digit with
 |none=>x
 |some d=>if bv=true then⟨x.w,false,some d⟩ else⟨x.w,x.light,none⟩
theorem cI_w(bv:Bool)(x:Item):(cI bv x).w=x.w:=by
 unfold cI;cases x.digit with
 |none=>rfl
 |some d=>cases bv<;>rfl
def bvOf(o:Order)(h:How):Bool:=h.value&&zeroWeight o != 0
theorem BL(o:Order)(h:How)(x:Item):(cI (bvOf o h) x).digit.isSome=Lo.byValue o h x:=by
 unfold cI Lo.byValue bvOf;cases hd:x.digit with
 |none=>simp[hd]
 |some d=>cases hb:(h.value&&zeroWeight o != 0)<;>simp
theorem J3(o:Order)(h:How)(x:Item)(hb:Lo.byValue o h x=true):(cI (bvOf o h) x).digit=x.digit:=by
 have:=BL o h x;rw[hb]at this;unfold cI at this⊢;cases hd:x.digit with
 |none=>rw[hd]
 |some d=>
  rw[hd]at this;cases hb:bvOf o h with
  |true=>rfl
  |false=>rw[hb]at this;cases this
theorem HN(o:Order)(h:How)(x:Item):Lo.isLight o h x=(h.lightly&&(cI (bvOf o h) x).light):=by
 have hd:=BL o h x;unfold Lo.isLight;rw[<-hd];unfold cI;cases hx:x.digit with
 |none=>simp[hx]
 |some d=>cases bvOf o h<;>simp
def mark(p:Bool)(x:Item):Bool:=if x.light=true then true else if x.w.first≠0\/x.digit.isSome=true then false else p
def marks:Bool->List Item->List Bool
 |_,[]=>[]
 |p,x::r=>mark p x::marks (mark p x) r
theorem DZ:∀(p:Bool)(l:List Item),(marks p l).length=l.length
 |_,[]=>rfl
 |p,x::r=>by
  show(marks (mark p x) r).length+1=r.length+1;rw[DZ]
def put(x:Item)(m:Bool):Option Item:=if m=true then none else some x
theorem Cw(o:Order)(h:How)(hl:h.lightly=true):∀(p:Bool)(l:List Item),Lo.left o h p l=zipWith put l (marks p (l.map (cI (bvOf o h))))
 |_,[]=>rfl
 |p,x::r=>by
  show(if Lo.isLight o h x=true then none::Lo.left o h true r else if h.lightly=true/\p=true/\x.w.first=0/\Lo.byValue o h x=false then none::Lo.left o h true r else some x::Lo.left o h false r)=put x (mark p (cI (bvOf o h) x))::zipWith put r (marks (mark p (cI (bvOf o h) x)) (r.map (cI (bvOf o h))));have e1:=HN o h x;have e2:=BL o h x;have e3:=cI_w (bvOf o h) x;rw[hl,Bool.true_and]at e1;by_cases c1:Lo.isLight o h x=true
  .have m:mark p (cI (bvOf o h) x)=true:=by unfold mark;rw[if_pos (by rw[<-e1];exact c1)]
   rw[if_pos c1,m,Cw o h hl true r];rfl
  .rw[if_neg c1];by_cases c2:h.lightly=true/\p=true/\x.w.first=0/\Lo.byValue o h x=false
   .have m:mark p (cI (bvOf o h) x)=true:=by
     unfold mark;rw[if_neg (by rw[<-e1];exact c1),if_neg (by rw[e2,e3,c2.2.2.1,c2.2.2.2];simp),c2.2.1]
    rw[if_pos c2,m,Cw o h hl true r];rfl
   .have m:mark p (cI (bvOf o h) x)=false:=by
     unfold mark;rw[if_neg (by rw[<-e1];exact c1),e2,e3];by_cases c3:x.w.first≠0\/Lo.byValue o h x=true
     .rw[if_pos c3]
     .rw[if_neg c3];cases p with
      |false=>rfl
      |true=>
       refine absurd ⟨hl,rfl,?_,?_⟩ c2
       .exact Decidable.not_not.mp fun z=>c3 (.inl z)
       .cases hb:Lo.byValue o h x with
        |false=>rfl
        |true=>exact absurd (.inr hb) c3
    rw[if_neg c2,m,Cw o h hl false r];rfl
theorem Fg(o:Order)(h:How)(hl:h.lightly=false):∀(p:Bool)(l:List Item),Lo.left o h p l=zipWith put l (List.replicate l.length false)
 |_,[]=>rfl
 |p,x::r=>by
  show(if Lo.isLight o h x=true then none::Lo.left o h true r else if h.lightly=true/\p=true/\x.w.first=0/\Lo.byValue o h x=false then none::Lo.left o h true r else some x::Lo.left o h false r)=_;rw[if_neg (by unfold Lo.isLight;rw[hl];exact Bool.false_ne_true),if_neg (by rw[hl];exact fun z=>Bool.noConfusion z.1),Fg o h hl false r];rfl
def wrow(f:Weight->Nat)(l:List (Item×Bool)):List Nat:=(l.filter fun(c:Item×Bool)=>f c.1.w != 0&& !c.2).map fun(c:Item×Bool)=>f c.1.w
theorem G6(f:Weight->Nat)(bv:Bool):∀(l:List Item)(ms:List Bool),notZero ((Lo.there (zipWith put l ms)).map fun(x:Item)=>f x.w)=wrow f ((l.map (cI bv)).zip ms)
 |[],_=>rfl
 |_::_,[]=>rfl
 |x::l,m::ms=>by
  have ih:=G6 f bv l ms;have ew:=cI_w bv x;unfold notZero Lo.there wrow at ih⊢;rw[List.zipWith_cons_cons,map_cons,List.zip_cons_cons,filter_cons];cases m with
  |true=>
   rw[if_neg (by simp),<-ih];rfl
  |false=>
   show List.filter _ (List.map _ (x::List.filterMap _ _))=_;rw[map_cons,filter_cons];by_cases h0:(f x.w != 0)=true
   .rw[if_pos h0,if_pos (by rw[ew,h0];rfl),map_cons,<-ih,ew]
   .rw[if_neg h0,if_neg (by rw[ew];simp at h0;simp[h0]),<-ih]
theorem EJ(o:Order)(h:How)(run:Option (List Nat)):level1 o h run []=Lo.runOf o run:=by
 cases run<;>rfl
theorem LO(o:Order)(h:How)(run:Option (List Nat))(r:List (Option Item)):level1 o h run (none::r)=Lo.runOf o run++level1 o h none r:=rfl
theorem BW(o:Order)(h:How)(run:Option (List Nat))(x:Item)(r:List (Option Item)):level1 o h run (some x::r)=if Lo.byValue o h x=true then level1 o h (some (run.getD []++[x.digit.getD 0])) r else Lo.runOf o run++notZero [x.w.first]++level1 o h none r:=rfl
theorem ML{o:Order}{h:How}{d:List Nat}{r:List (Option Item)}(hr:∀x,r.head? =some (some x)->Lo.byValue o h x=false):level1 o h (some d) r=valueRow (zeroWeight o) d++level1 o h none r:=by
 cases r with
 |nil=>
  rw[EJ,EJ];show _=valueRow _ d++[];rw[append_nil];rfl
 |cons y r=>
  cases y with
  |none=>rfl
  |some x=>
   have:=hr x rfl;rw[BW,BW,this,if_neg Bool.false_ne_true,if_neg Bool.false_ne_true];show valueRow _ d++_++_=valueRow _ d++([]++_++_);rw[List.nil_append,append_assoc]
theorem JG{o:Order}{h:How}:∀(xs:List Item)(d:List Nat)(r:List (Option Item)),(∀x∈xs,Lo.byValue o h x=true)->(∀x,r.head? =some (some x)->Lo.byValue o h x=false)->
  level1 o h (some d) (xs.map some++r)=valueRow (zeroWeight o) (d++xs.map fun(x:Item)=>x.digit.getD 0)++level1 o h none r
 |[],d,r,_,hr=>by
  rw[map_nil,map_nil,append_nil];exact ML hr
 |x::xs,d,r,hx,hr=>by
  show level1 o h (some d) (some x::(xs.map some++r))=_;rw[BW,if_pos (hx x mem_cons_self),JG xs _ r (fun y hy=>hx y (mem_cons_of_mem _ hy)) hr,map_cons];show valueRow _ (d++[x.digit.getD 0]++_)++_=_;rw[append_assoc];rfl
theorem Lx{o:Order}{h:How}{x:Item}{xs:List Item}{r:List (Option Item)}(hx:∀y∈x::xs,Lo.byValue o h y=true)(hr:∀x,r.head? =some (some x)->Lo.byValue o h x=false):
  level1 o h none ((x::xs).map some++r)=valueRow (zeroWeight o) ((x::xs).map fun(x:Item)=>x.digit.getD 0)++level1 o h none r:=by
 show level1 o h none (some x::(xs.map some++r))=_;rw[BW,if_pos (hx x mem_cons_self),JG xs _ r (fun y hy=>hx y (mem_cons_of_mem _ hy)) hr];rfl
def runD(l:List Item):List Nat:=(l.takeWhile fun(x:Item)=>x.digit.isSome).map fun(x:Item)=>x.digit.getD 0
def DigIn(o:Order)(h:How)(l:List Item)(ms:List Bool):Prop:=∀(i:Nat) x m,l[i]? =some x->ms[i]? =some m->Lo.byValue o h x=true->m=false
theorem Gh{o:Order}{h:How}:∀(l:List Item)(ms:List Bool),l.length=ms.length->DigIn o h l ms->∃xs:List Item,∃r:List (Option Item),zipWith put l ms=xs.map some++r/\(∀x∈xs,Lo.byValue o h x=true)/\(∀x,r.head? =some (some x)->Lo.byValue o h x=false)/\
  runD (l.map (cI (bvOf o h)))=(xs.map fun(x:Item)=>x.digit.getD 0)
 |[],[],_,_=>⟨[],[],rfl,(fun x hx=>by cases hx),(fun x hx=>by cases hx),rfl⟩
 |[],_::_,e,_=>by cases e
 |_::_,[],e,_=>by cases e
 |x::l,m::ms,e,hd=>by
  by_cases hb:Lo.byValue o h x=true
  .obtain⟨xs,r,e1,e2,e3,e4⟩:=Gh l ms (Nat.succ.inj e) fun i y m' h1 h2=>hd (i+1) y m' (by simpa using h1) (by simpa using h2);have hm:m=false:=hd 0 x m rfl rfl hb;refine⟨x::xs,r,?_,fun y hy=>?_,e3,?_⟩
   .rw[List.zipWith_cons_cons,e1,hm];rfl
   .rcases mem_cons.mp hy with z|z
    .rw[z];exact hb
    .exact e2 y z
   .have hs:(cI (bvOf o h) x).digit.isSome=true:=by rw[BL];exact hb
    unfold runD at e4⊢;rw[map_cons,takeWhile_cons,if_pos hs,map_cons,map_cons,e4,J3 o h x hb]
  .refine⟨[],zipWith put (x::l) (m::ms),rfl,(fun y hy=>by cases hy),fun y hy=>?_,?_⟩
   .have hy:some (put x m)=some (some y):=hy;unfold put at hy;cases m with
    |true=>cases hy
    |false=>
     cases hy;cases hbb:Lo.byValue o h x with
     |true=>exact absurd hbb hb
     |false=>rfl
   .have hs:¬(cI (bvOf o h) x).digit.isSome=true:=by rw[BL];exact hb
    unfold runD;rw[map_cons,takeWhile_cons,if_neg hs]
    first|done|rfl
def lv1(o:Order)(h:How)(l:List Item)(ms:List Bool)(p:Nat):List Nat:=level1 o h none ((zipWith put l ms).drop p)
theorem HY(l:List Item)(ms:List Bool)(p:Nat):(zipWith put l ms).drop p=zipWith put (l.drop p) (ms.drop p):=List.drop_zipWith ..
theorem DigIn.drop{o:Order}{h:How}{l:List Item}{ms:List Bool}(d:DigIn o h l ms)(p:Nat):DigIn o h (l.drop p) (ms.drop p):=fun i x m h1 h2=>by
 rw[List.getElem?_drop]at h1 h2;exact d (p+i) x m h1 h2
theorem Lz(o:Order)(h:How)(l:List Item)(ms:List Bool)(hl:l.length=ms.length):lv1 o h l ms l.length=[]:=by
 unfold lv1;rw[drop_of_length_le (by rw[List.length_zipWith];omega)];rfl
theorem MC{o:Order}{h:How}{l:List Item}{ms:List Bool}{p:Nat}{x:Item}(hl:l.length=ms.length)(d:DigIn o h l ms)(hx:l[p]? =some x)(hb:(cI (bvOf o h) x).digit.isSome=true):
  lv1 o h l ms p=valueRow (zeroWeight o) (runD ((l.map (cI (bvOf o h))).drop p))++lv1 o h l ms (p+(runD ((l.map (cI (bvOf o h))).drop p)).length)/\0<(runD ((l.map (cI (bvOf o h))).drop p)).length:=by
 obtain⟨xs,r,e1,e2,e3,e4⟩:=Gh (l.drop p) (ms.drop p) (by rw[length_drop,length_drop,hl]) (d.drop p);rw[<-map_drop,e4,length_map];have hd:=d.drop p;obtain⟨hp,_⟩:=List.getElem?_eq_some_iff.mp hx
 have hdrop:l.drop p=x::l.drop (p+1):=by
  rw[drop_eq_getElem_cons hp];rw[Option.some.inj ((getElem?_eq_getElem hp).symm.trans hx)]
 have hne:xs≠[]:=by
  intro z;rw[z]at e4;unfold runD at e4;rw[hdrop,map_cons,takeWhile_cons,if_pos hb]at e4;cases e4
 obtain⟨y,ys,rfl⟩:=List.exists_cons_of_ne_nil hne;refine⟨?_,succ_pos _⟩;unfold lv1;rw[HY,e1,Lx e2 e3,<-drop_drop,HY,e1,List.drop_append_of_le_length (by rw[length_map];exact le_refl _)];rw[drop_of_length_le (by rw[length_map];exact le_refl _),List.nil_append]
theorem MH{o:Order}{h:How}{l:List Item}{ms:List Bool}{p:Nat}{x:Item}{m:Bool}(hx:l[p]? =some x)(hm:ms[p]? =some m)(hb:(cI (bvOf o h) x).digit.isSome=false):
  lv1 o h l ms p=(if(x.w.first != 0&& !m)=true then [x.w.first] else [])++lv1 o h l ms (p+1):=by
 rw[BL]at hb;have hz:(zipWith put l ms)[p]? =some (put x m):=by rw[List.getElem?_zipWith,hx,hm]
 obtain⟨hp,_⟩:=List.getElem?_eq_some_iff.mp hz
 have hdrop:(zipWith put l ms).drop p=put x m::(zipWith put l ms).drop (p+1):=by
  rw[drop_eq_getElem_cons hp];rw[Option.some.inj ((getElem?_eq_getElem hp).symm.trans hz)]
 unfold lv1;rw[hdrop];cases m with
 |true=>
  rw[if_neg (by simp)];rfl
 |false=>
  show level1 o h none (some x::_)=_;rw[BW,hb,if_neg Bool.false_ne_true];show []++notZero [x.w.first]++_=_;rw[List.nil_append]
  congr 1;unfold notZero;rw[filter_cons];by_cases h0:(x.w.first != 0)=true
  .rw[if_pos h0,h0];rfl
  .rw[if_neg h0,if_neg (by simp at h0;simp[h0])];rfl
end LP
namespace LP
open PySem PySem.Spec L2
structure TxL (K:Frag) (mg:Str->Option Value) (D:Ad):Prop extends TxH K mg D where
 greatestWay:GInt mg "GREATEST_WAY" 31
 levelBits:GInt mg "LEVEL_BITS" 3
 lightly:GInt mg "LIGHTLY" 4
 fromEnd:GInt mg "FROM_END" 8
 byValue:GInt mg "BY_VALUE" 16
 notLight:GInt mg "NOT_LIGHT" 4294967295
 isWay:Df K mg "is_way" (top 32) ["way"]
 textKey:Df K mg "text_key" (top 33) ["scale","way","text"]
 levelRows:Df K mg "level_rows" (top 34) ["scale","way","text"]
 countedItem:Df K mg "counted_item" (top 35) ["item","by_value"]
 leftMarks:Df K mg "left_out_marks" (top 36) ["found"]
 firstRow:Df K mg "first_row" (top 37) ["found","left_out","zero"]
 digitsFrom:Df K mg "digits_from" (top 38) ["found","place"]
 toldNumber:Df K mg "told_number" (top 39) ["digits","zero"]
 weightRow:Df K mg "weight_row" (top 40) ["found","left_out","level"]
 lightRow:Df K mg "light_row" (top 41) ["found"]
def newRow(H:Hp)(l:List Nat)(Q:VK):Prop:=∀(H':Hp)(q:Addr),Same H H'->H q=none->H' q=some (.lst (nv l))->Q (.ref q) H'
variable{P:Program}{w:World}{K:Frag}{mg:Str->Option Value}{base:Heap}{D:Ad}
theorem scIW:FnScope ["way"] ["way"] (defScope (top 32)):=fsc
theorem DP(T:TxL K mg D):Ok P w K mg base 1 "is_way" ["way"] (spB howOk):=by
 refine T.isWay.ok scIW (fun vs H Q E h=>?_) (fun f cdv A outer s H vs Q E hr h=>?_)
 .obtain⟨n,rfl,_⟩:=h;rfl
 .obtain⟨n,rfl,k⟩:=h;refine⟨_,Af (Aj (AW Dc (pv 0) (pgi T.greatestWay) (nomark _))),?_⟩;refine Jp (Ah rfl) ev_c _ ?_;have e:decide ((n:Int)<=31)=howOk n:=by unfold howOk;rw[decide_eq_decide];omega
  show Q (.bl (decide ((n:Int)<=31))) H;rw[e];exact k
theorem Dk{ta:TE}{Z:St}{H:Hp}{a dx tw:Addr}{li:Bool}{d:Option Nat}(T:TxH K mg D)(h:Ev ta Z H (.ref a))(ha:H a=some (.ins D.item dx (itF tw li d))):
  Ev (tFld K ta "weights") Z H (.ref tw)/\Ev (tFld K ta "light") Z H (.bl li)/\Ev (tFld K ta "digit") Z H (.int (oz d)):=
 ⟨Az h ha T.clI T.nI1 rfl,Az h ha T.clI T.nI2 rfl,Az h ha T.clI T.nI3 rfl⟩
theorem JP(d:Option Nat):decide (V.int (oz d)=V.int (-1))= !d.isSome:=by
 cases d with
 |none=>rfl
 |some n=>
  have:¬V.int (oz (some n))=V.int (-1):=fun z=>by
   have z:V.int (n:Int)=V.int (-1):=z;injection z with z
   omega
  rw[decide_eq_false this];rfl
theorem scCIt:FnScope ["item","by_value"] ["item","by_value"] (defScope (top 35)):=fsc
def spCIt(D:Ad):Sp:=fun vs H Q _=>∃(a:Addr)(x:Lo.Item)(bv:Bool),vs=[.ref a,.bl bv]/\ItAt D.item H a x/\∀(H':Hp)(b:Addr),Same H H'->ItAt D.item H' b (cI bv x)->Q (.ref b) H'
theorem NS(T:TxL K mg D):Ok P w K mg base 3 "counted_item" ["item","by_value"] (spCIt D):=by
 have GI:=Nb (P:=P) (w:=w) (base:=base) T.toTxH;refine T.countedItem.ok scCIt (fun vs H Q E h=>?_) (fun f cdv A outer s H vs Q E hr h=>?_)
 .obtain⟨a,x,bv,rfl,_⟩:=h;rfl
 .obtain⟨a,x,bv,rfl,⟨dx,tw,h1,h2⟩,k⟩:=h
  refine⟨_,Ab (Av (An Be (Ak (pv 0) rfl) (pgi T.noDigit) (nomark _)) (Af (Aj (pv 0))) Ao)
   (Ab (Av (AJ (pv 1)) (Af (Aj (pmk GI hr T.cI (Aa (Ak (pv 0) rfl) (Aa CH (Aa (Ak (pv 0) rfl) Ac)))))) Ao)
   (Af (Aj (pmk GI hr T.cI (Aa (Ak (pv 0) rfl) (Aa (Ak (pv 0) rfl) (Aa (pgi T.noDigit) Ac))))))),?_⟩
  obtain⟨e1,e2,e3⟩:=Dk T.toTxH (Z:=[some (.ref a),some (.bl bv)]) (ta:=tVar 0) (Ah rfl) h1;refine Ax (AL e3 ev_c fun Q q=>⟨rfl,q⟩) _ ?_;rw[JP];unfold cI at k;cases hd:x.digit with
  |none=>
   rw[hd]at k;exact iteT ⟨_,rfl,k H a (ad _) ⟨dx,tw,h1,h2⟩⟩
  |some d=>
   rw[hd]at k e3;refine iteF ?_;dsimp only[tNext,tSeq,tIfS];refine Bs (Ah (i:=1) (v:=.bl bv) (Z:=[some (.ref a),some (.bl bv)]) rfl) _ ?_;cases bv with
   |true=>
    refine iteT ⟨_,rfl,a,D.item,dx,_,_,rfl,h1,T.clI,T.nI1,rfl,_,rfl,a,D.item,dx,_,_,rfl,h1,T.clI,T.nI3,rfl,?_⟩;intro y dy hy hdy hne;refine⟨y,dy,tw,false,x.digit,rfl,Ae,fun H' q1 q2=>⟨rfl,?_⟩⟩;rw[hd]at q1;have s1:Same H H':=ai hy hdy q2;exact k H' y s1 ⟨dy,tw,q1,s1 _ _ h2⟩
   |false=>
    refine iteF ⟨_,rfl,a,D.item,dx,_,_,rfl,h1,T.clI,T.nI1,rfl,_,rfl,a,D.item,dx,_,_,rfl,h1,T.clI,T.nI2,rfl,?_⟩;intro y dy hy hdy hne;refine⟨y,dy,tw,x.light,none,rfl,Ae,fun H' q1 q2=>⟨rfl,?_⟩⟩;have s1:Same H H':=ai hy hdy q2;exact k H' y s1 ⟨dy,tw,q1,s1 _ _ h2⟩
theorem scLM:FnScope ["found","marks","behind_light","item"] ["found"] (defScope (top 36)):=fsc
def spLM(D:Ad):Sp:=fun vs H Q _=>∃(l:Addr)(bs:List Addr)(xs:List Lo.Item),vs=[.ref l]/\H l=some (.lst (bs.map V.ref))/\LsAt (ItAt D.item) H bs xs/\xs.length<=10000/\∀(H':Hp)(q:Addr),Same H H'->H' q=some (.lst ((marks false xs).map V.bl))->Q (.ref q) H'
def lastM(p:Bool)(xs:List Lo.Item):Bool:=xs.foldl mark p
theorem Fh:∀(xs:List Lo.Item)(p:Bool)(x:Lo.Item),marks p (xs++[x])=marks p xs++[mark (lastM p xs) x]
 |[],_,_=>rfl
 |y::xs,p,x=>by
  show mark p y::marks (mark p y) (xs++[x])=mark p y::marks (mark p y) xs++_;rw[Fh xs];rfl
theorem O1(T:TxL K mg D):Ok P w K mg base 1 "left_out_marks" ["found"] (spLM D):=by
 refine T.leftMarks.ok scLM (fun vs H Q E h=>?_) (fun f cdv A outer s H vs Q E hr h=>?_)
 .obtain⟨l,bs,xs,rfl,_⟩:=h;rfl
 .obtain⟨l,bs,xs,rfl,hl,hB,hz,k⟩:=h
  refine⟨_,Ab (Al (i:=1) scLM.nd rfl (inl rfl) (As Ac)) (Ab (Al (i:=2) scLM.nd rfl (inl rfl) CH)
   (Ab (Ba PassesOwn.never rfl (AE (pv 0)) (At (i:=3) scLM.nd rfl (inl rfl))
    (Ab (Av (AJ (Ak (pv 3) rfl)) (Af (Al (i:=2) scLM.nd rfl (inl rfl) CH))
     (Af (Av (PW.pt (JT (An Bj (Ar AB (Ak (pv 3) rfl) Ag (fun _ _=>rfl)) Ag (nomark _)) (Hc (An Bj (Ak (pv 3) rfl) (pgi T.noDigit) (nomark _))))) (Af (Al (i:=2) scLM.nd rfl (inl rfl) CH)) Ao)))
    (Af (Au (AR plainAttrs_list PySem.F.slot_list_append PySem.F.type_list_append AD (pv 1) (Aa (pv 2) Ac))))))
   (Af (Aj (pv 1))))),?_⟩
  have hs:sizeLine=16777216:=sizeLine_eq;refine⟨zero_le _,fun q hq=>?_⟩;have sq:Same H (aj H q (.lst [])):=ae hq
  refine⟨_,rfl,l,rfl,⟨_,aa (sq _ _ hl)⟩,Bt (K:=K) (a:=l) (xs:=bs.map V.ref) (fun i Z H'=>∃v3,Z=[some (.ref l),some (.ref q),some (.bl (lastM false (xs.take i))),v3]/\Same H H'/\H' q=some (.lst ((marks false (xs.take i)).map V.bl)))
   ⟨none,rfl,sq,Ae⟩ (fun i Z H' _ ⟨_,_,s1,_⟩=>aa (s1 _ _ hl)) ?_ ?_⟩
  .rintro i y Z H1 hi ⟨v3,rfl,s1,hq1⟩;obtain⟨b,hb,rfl⟩:=AU hi;have hil:i<xs.length:=by rw[<-hB.1];exact(List.getElem?_eq_some_iff.mp hb).1
   obtain⟨x,hx⟩:∃x,xs[i]? =some x:=⟨_,getElem?_eq_getElem hil⟩;obtain⟨dx,tw,h1,h2⟩:=(hB.2 i b x hb hx).same s1;have ht:xs.take (i+1)=xs.take i++[x]:=by rw[take_add_one,hx];rfl
   have hL:lastM false (xs.take (i+1))=mark (lastM false (xs.take i)) x:=by rw[ht];unfold lastM;rw[List.foldl_append];rfl
   have hM:marks false (xs.take (i+1))=marks false (xs.take i)++[mark (lastM false (xs.take i)) x]:=by rw[ht,Fh]
   have fin:∀m:Bool,m=mark (lastM false (xs.take i)) x->∀D0:Ends,(∀Z' H',(∃v3,Z'=[some (.ref l),some (.ref q),some (.bl (lastM false (xs.take (i+1)))),v3]/\Same H H'/\H' q=some (.lst ((marks false (xs.take (i+1))).map V.bl)))->D0.nx Z' H')->
     tDrop (tBM K "list" rAppend (tVar 1) (tCons (tVar 2) tNil)) D0 [some (.ref l),some (.ref q),some (.bl m),some (.ref b)] H1:=by
    rintro m hm D0 hn;refine⟨_,rfl,.inl ⟨rfl,_,aa hq1⟩,_,rfl,q,_,_,rfl,rfl,hq1,(by rw[length_map,DZ,length_take];omega),hn _ _ ⟨some (.ref b),by rw[hL,<-hm],fun z u ee=>by rw[Am (Ai ee hq)];exact s1 _ _ ee,?_⟩⟩;rw[Ae,hM,map_append,hm];rfl
   obtain⟨e1,e2,e3⟩:=Dk T.toTxH (Z:=[some (.ref l),some (.ref q),some (.bl (lastM false (xs.take i))),some (.ref b)]) (ta:=tVar 3) (Ah rfl) h1;obtain⟨w0,_,_⟩:=ev_w (K:=K) e1 h2;dsimp only[gName,tSeq,tIfS];refine Bs e2 _ ?_;refine ite2 (fun c1=>?_) fun c1=>?_
   .exact fin true (by unfold mark;rw[if_pos c1]) _ fun Z' H' h=>h
   refine IM (a:= !decide (V.int (x.w.first:Int)=V.int ((0:Nat):Int))) (b:= !decide (V.int (oz x.digit)=V.int (-1))) (Ax (AL w0 ev_c fun Q q=>⟨rfl,q⟩)) (fun _=>Ax (AL e3 ev_c fun Q q=>⟨rfl,q⟩)) _ ?_;rw[di,JP,Bool.not_not];refine ite2 (fun c2=>?_) fun c2=>?_
   .refine fin false ?_ _ fun Z' H' h=>h;unfold mark;rw[if_neg c1,if_pos];rw[or_eq_true,not_eq_true',decide_eq_false_iff_not]at c2;exact c2
   .refine fin (lastM false (xs.take i)) ?_ _ fun Z' H' h=>h;unfold mark;rw[if_neg c1,if_neg];intro z;refine c2 ?_;rw[or_eq_true,not_eq_true',decide_eq_false_iff_not];exact z
  .rintro Z H1 ⟨v3,rfl,s1,hq1⟩;rw[length_map,hB.1,take_length]at hq1;exact⟨_,rfl,k H1 q s1 hq1⟩
theorem scDF:FnScope ["found","place","digits"] ["found","place"] (defScope (top 38)):=fsc
def spDF(D:Ad):Sp:=fun vs H Q _=>∃(l:Addr)(bs:List Addr)(xs:List Lo.Item)(i:Nat),vs=[.ref l,.int (i:Int)]/\H l=some (.lst (bs.map V.ref))/\LsAt (ItAt D.item) H bs xs/\xs.length<=10000/\i<=xs.length/\newRow H (runD (xs.drop i)) Q
theorem OM(T:TxL K mg D):Ok P w K mg base 1 "digits_from" ["found","place"] (spDF D):=by
 refine T.digitsFrom.ok scDF (fun vs H Q E h=>?_) (fun f cdv A outer s H vs Q E hr h=>?_)
 .obtain⟨l,bs,xs,i,rfl,_⟩:=h;rfl
 .obtain⟨l,bs,xs,i,rfl,hl,hB,hz,hi,k⟩:=h
  refine⟨_,Ab (Al (i:=2) scDF.nd rfl (inl rfl) (As Ac))
   (Ab (A9 PassesOwn.never (PW.pt (BP (An CG (pv 1) (plen T.len (pv 0)) (nomark _)) (Bx (An Bj (Ak (Ar Ap (pv 0) (pv 1) (fun _ _=>rfl)) rfl) (pgi T.noDigit) (nomark _)))))
    (Ab (Au (AR plainAttrs_list PySem.F.slot_list_append PySem.F.type_list_append AD (pv 2) (Aa (Ak (Ar Ap (pv 0) (pv 1) (fun _ _=>rfl)) rfl) Ac)))
    (Af (Cs (i:=1) scDF.nd rfl (inl rfl) Ag Cp))))
   (Af (Aj (pv 2)))),?_⟩
  have hs:sizeLine=16777216:=sizeLine_eq;refine⟨zero_le _,fun q hq=>?_⟩;have sq:Same H (aj H q (.lst [])):=ae hq
  refine BI (fun m Z H'=>∃(j:Nat)(acc:List Nat),m=xs.length - j/\Z=[some (.ref l),some (.int (j:Int)),some (.ref q)]/\j<=xs.length/\acc.length<=j/\Acc H H' q acc/\runD (xs.drop i)=acc++runD (xs.drop j))
   ⟨_,i,[],rfl,rfl,hi,zero_le _,⟨hq,sq,Ae⟩,rfl⟩ ?_
  rintro m Z H' ⟨j,acc,rfl,rfl,hj,hal,A1,hR⟩;have hl1:=A1.same _ _ hl;have hbl:(bs.map V.ref).length=xs.length:=by rw[length_map,hB.1]
  have evl:EvT (tTest (tOp (rI0 fun i j=>.bl (decide (i<j))) (tVar 1) (tCB (rLen K) (tCons (tVar 0) tNil)))) [some (.ref l),some (.int (j:Int)),some (.ref q)] H' (decide ((j:Int)<(((bs.map V.ref).length:Nat):Int))):=AZ (Ah rfl) (AG (Ah rfl) (.inl (aa hl1)));by_cases hjl:j<xs.length
  .obtain⟨x,hx⟩:∃x,xs[j]? =some x:=⟨_,getElem?_eq_getElem hjl⟩;obtain⟨b,hb⟩:∃b,bs[j]? =some b:=⟨_,getElem?_eq_getElem (by rw[hB.1];exact hjl)⟩;obtain⟨dx,tw,h1,h2⟩:=(hB.2 j b x hb hx).same A1.same;have evb:Ev (tOp (rIxL K) (tVar 0) (tVar 1)) [some (.ref l),some (.int (j:Int)),some (.ref q)] H' (.ref b):=AK (Ah rfl) (Ah rfl) (aa hl1) (AA (j:=j) (v:=V.ref b) rfl (Bh hb));obtain⟨e1,e2,e3⟩:=Dk T.toTxH evb h1
   have hdrop:xs.drop j=x::xs.drop (j+1):=by
    rw[drop_eq_getElem_cons hjl,Option.some.inj ((getElem?_eq_getElem hjl).symm.trans hx)]
   refine⟨_,By evl fun _=>Ax (AL e3 ev_c fun Q q=>⟨rfl,q⟩),fun z=>?_,fun z=>?_⟩
   .rw[and_eq_true,JP,Bool.not_not]at z;obtain⟨d,hd⟩:=isSome_iff_exists.mp z.2;rw[hd]at e3;refine⟨_,rfl,.inl ⟨rfl,_,aa A1.at_⟩,e3 _ ⟨q,_,_,rfl,rfl,A1.at_,(by rw[Aq];omega),?_⟩⟩;have e4:nv acc++[V.int (oz (some d))]=nv (acc++[d]):=by rw[Bi];rfl
    rw[e4];refine⟨_,rfl,_,_,rfl,rfl,xs.length - (j+1),(by omega),j+1,acc++[d],rfl,rfl,hjl,(by rw[length_append];show acc.length+1<=_;omega),A1.put,?_⟩;rw[hR,hdrop,append_assoc];unfold runD;rw[takeWhile_cons,if_pos z.2,map_cons,hd];rfl
   .have h1:decide ((j:Int)<(((bs.map V.ref).length:Nat):Int))=true:=decide_eq_true (by rw[hbl];omega);rw[h1,Bool.true_and,JP,Bool.not_not]at z;refine⟨_,rfl,k H' q A1.same hq ?_⟩
    have:runD (xs.drop j)=[]:=by
     rw[hdrop];unfold runD;rw[takeWhile_cons,if_neg (by rw[z];exact Bool.false_ne_true)]
     first|done|rfl
    rw[hR,this,append_nil];exact A1.at_
  .refine⟨_,By (b:=false) evl fun z=>absurd (of_decide_eq_true z) (by rw[hbl];omega),fun z=>?_,fun z=>?_⟩
   .rw[Bool.and_false]at z;cases z
   .refine⟨_,rfl,k H' q A1.same hq ?_⟩;have hdj:xs.drop j=[]:=drop_of_length_le (by omega);rw[hdj]at hR;have:runD ([]:List Lo.Item)=[]:=rfl;rw[hR,this,append_nil];exact A1.at_
theorem KG(t:List Nat)(i:Nat):cutV (nv t) (some (i:Int)) none=nv (t.drop i):=by
 unfold cutV;rw[HT.BR,HT.Hy,Aq];unfold nv;rw[map_drop];by_cases h:i<=t.length
 .rw[min_eq_left h,take_of_length_le];rw[length_drop,length_map];exact le_refl _
 .rw[min_eq_right (by omega),drop_of_length_le (by rw[length_map];exact le_refl _),drop_of_length_le (by rw[length_map];omega)];simp
theorem scTN:FnScope ["digits","zero","start","digit"] ["digits","zero"] (defScope (top 39)):=fsc
def spTN:Sp:=fun vs H Q _=>∃(l:Addr)(ds:List Nat)(z:Nat),vs=[.ref l,.int (z:Int)]/\H l=some (.lst (nv ds))/\ds.length<=10000/\newRow H (valueRow z ds) Q
theorem dropw:∀(ds:List Nat)(j:Nat),(∀i c,i<j->ds[i]? =some c->c=0)->(∀c,ds[j]? =some c->c≠0)->j<=ds.length->ds.dropWhile (fun(x:Nat)=>x==0)=ds.drop j
 |[],0,_,_,_=>rfl
 |[],_+1,_,_,h=>by cases h
 |c::ds,0,_,h,_=>by
  have:=h c rfl;rw[List.dropWhile_cons,if_neg (by rw[beq_iff_eq];exact this)];rfl
 |c::ds,j+1,h0,h1,hl=>by
  have:=h0 0 c (succ_pos _) rfl;rw[List.dropWhile_cons,if_pos (by rw[this];rfl),List.drop_succ_cons];exact dropw ds j (fun i d hi hd=>h0 (i+1) d (Nat.succ_lt_succ hi) (by simpa using hd)) (fun d hd=>h1 d (by simpa using hd)) (Nat.le_of_succ_le_succ hl)
theorem OS(T:TxL K mg D):Ok P w K mg base 1 "told_number" ["digits","zero"] spTN:=by
 refine T.toldNumber.ok scTN (fun vs H Q E h=>?_) (fun f cdv A outer s H vs Q E hr h=>?_)
 .obtain⟨l,ds,z,rfl,_⟩:=h;rfl
 .obtain⟨l,ds,z,rfl,hl,hz,k⟩:=h
  refine⟨_,Ab (Al (i:=2) scTN.nd rfl (inl rfl) Ag)
   (Ab (A9 PassesOwn.never (PW.pt (BP (An CG (pv 2) (plen T.len (pv 0)) (nomark _)) (Bx (An Be (Ar Ap (pv 0) (pv 2) (fun _ _=>rfl)) Ag (nomark _))))) (Af (Cs (i:=2) scTN.nd rfl (inl rfl) Ag Cp)))
   (Af (Aj (Ay BJ (As (Aa (pv 1) (Aa (Ay AN (Ay Cm (plen T.len (pv 0)) (pv 2)) Ag) Ac)))
    (BQ (own:=[("digit",3)]) (te:=tOp (rI0 fun i j=>.int (i+j)) (tVar 3) (tC (.int 1))) rfl scTN.nd (AE (BN B3 (pv 0) (Bq (pv 2)) Gp)) (blk rfl)
     (fun s H C cl fp=>At (i:=3) scTN.nd rfl (inl rfl)) (fun s H C cl fp=>BE) (fun s H C cl fp=>Ay AN (pv 3) Ag)))))),?_⟩
  have hs:sizeLine=16777216:=sizeLine_eq
  refine BI (fun m Z H'=>∃j:Nat,m=ds.length - j/\Z=[some (.ref l),some (.int (z:Int)),some (.int (j:Int)),none]/\H'=H/\j<=ds.length/\∀i c,i<j->ds[i]? =some c->c=0)
   ⟨_,0,rfl,rfl,rfl,zero_le _,fun i c h=>absurd h (Nat.not_lt_zero _)⟩ ?_
  rintro m Z H' ⟨j,rfl,rfl,rfl,hj,h0⟩;have evl:EvT (tTest (tOp (rI0 fun i j=>.bl (decide (i<j))) (tVar 2) (tCB (rLen K) (tCons (tVar 0) tNil)))) [some (.ref l),some (.int (z:Int)),some (.int (j:Int)),none] H' (decide ((j:Int)<(((nv ds).length:Nat):Int))):=AZ (Ah rfl) (AG (Ah rfl) (.inl (aa hl)))
  have aft:(∀c,ds[j]? =some c->c≠0)->tRet (tOp rCat (tLst (tCons (tVar 1) (tCons (tOp (rI0 fun i j=>.int (i+j)) (tOp (rI0 fun i j=>.int (i - j)) (tCB (rLen K) (tCons (tVar 0) tNil)) (tVar 2)) (tC (.int 1))) tNil)))
    (tLc (iList K (tSl (rSlL K) (tVar 0) (tPart (tVar 2)) tNoPart)) (gName 3) tYes (tOp (rI0 fun i j=>.int (i+j)) (tVar 3) (tC (.int 1))) [3])) {nx:=fun _ H'=>Q .non H',rt:=Q} [some (.ref l),some (.int (z:Int)),some (.int (j:Int)),none] H':=by
   intro h1;have hd:=dropw ds j h0 h1 hj;have e0:(((nv ds).length:Nat):Int) - (j:Int)+1=(((ds.drop j).length+1:Nat):Int):=by rw[Aq,length_drop];omega
   refine⟨_,rfl,?_⟩;refine HX (HX (AG (K:=K) (te:=tVar 0) (Z:=[some (.ref l),some (.int (z:Int)),some (.int (j:Int)),none]) (Ah rfl) (.inl (aa hl))) (Ah (i:=2) rfl)) ev_c _ ?_;refine⟨(by show 2<=sizeLine;decide),fun a ha=>?_⟩;have sa:Same H' (aj H' a (.lst [V.int (z:Int),V.int ((((nv ds).length:Nat):Int) - (j:Int)+1)])):=ae ha;have hau:(aj H' a (.lst [V.int (z:Int),V.int ((((nv ds).length:Nat):Int) - (j:Int)+1)])) a=some (.lst [V.int (z:Int),V.int ((((nv ds).length:Nat):Int) - (j:Int)+1)]):=Ae;generalize aj H' a (.lst [V.int (z:Int),V.int ((((nv ds).length:Nat):Int) - (j:Int)+1)])=H1 at sa hau;refine⟨_,rfl,_,rfl,_,rfl,l,_,rfl,aa (sa _ _ hl),fun c hc=>?_⟩;rw[KG];have sc:Same H1 (aj H1 c (.lst (nv (ds.drop j)))):=ae hc;refine⟨c,rfl,⟨_,aa Ae⟩,fun B hB=>?_⟩;refine Dj 3 (ys:=nv ((ds.drop j).map fun(x:Nat)=>x+1)) hB (aa Ae) (by rw[Aq,Aq,length_map]) (by rw[Aq,length_drop];omega) (fun i x y H2 hx hy s2 R hR=>?_) fun H2 s2 hB2=>?_
   .obtain⟨d,hd',rfl⟩:=BO hx;obtain⟨e,he,rfl⟩:=BO hy;rw[getElem?_map,hd']at he;cases he;exact⟨_,rfl,_,_,rfl,rfl,hR _ (ad _)⟩
   .refine⟨a,B,_,_,rfl,rfl,s2 _ _ (sc _ _ hau),hB2,(by rw[show(nv ((ds.drop j).map fun(x:Nat)=>x+1)).length=ds.length - j by rw[Aq,length_map,length_drop]];simp only[length_cons,length_nil];omega),fun q hq=>?_⟩;have hqH:H' q=none:=(sa.trans (sc.trans s2)).free hq;refine k _ q (sa.trans (sc.trans (s2.trans (ae hq)))) hqH ?_;rw[Ae,e0];unfold valueRow;rw[hd];rfl
  by_cases hjl:j<ds.length
  .obtain⟨c,hc⟩:∃c,ds[j]? =some c:=⟨_,getElem?_eq_getElem hjl⟩;refine⟨_,By evl fun _=>Ax (AL (AK (Ah rfl) (Ah rfl) (aa hl) (AA (j:=j) (v:=V.int (c:Int)) rfl (Dz hc))) ev_c fun Q q=>⟨rfl,q⟩),fun y=>?_,fun y=>?_⟩
   .rw[and_eq_true]at y;have hc0:c=0:=by have:=of_decide_eq_true y.2;injection this with this;omega
    refine⟨_,rfl,_,_,rfl,rfl,ds.length - (j+1),(by omega),j+1,rfl,rfl,rfl,hjl,fun i d hi hd=>?_⟩;by_cases hij:i=j
    .subst hij;rw[hc]at hd;cases hd;exact hc0
    .exact h0 i d (by omega) hd
   .refine aft fun d hd hd0=>?_;rw[hc]at hd;cases hd;have h1:decide ((j:Int)<(((nv ds).length:Nat):Int))=true:=decide_eq_true (by rw[Aq];omega);rw[h1,Bool.true_and,hd0]at y;exact absurd y (by decide)
  .refine⟨_,By (b:=false) evl fun y=>absurd (of_decide_eq_true y) (by rw[Aq];omega),fun y=>?_,fun y=>?_⟩
   .rw[Bool.and_false]at y;cases y
   .exact aft fun d hd=>absurd (List.getElem?_eq_some_iff.mp hd).1 hjl
theorem scFRw:FnScope ["found","left_out","zero","row","place","digits"] ["found","left_out","zero"] (defScope (top 37)):=fsc
def spFRw(D:Ad):Sp:=fun vs H Q _=>∃(l m:Addr)(bs:List Addr)(F:List Lo.Item)(ms:List Bool)(z:Nat)(L:Nat->List Nat),vs=[.ref l,.ref m,.int (z:Int)]/\H l=some (.lst (bs.map V.ref))/\LsAt (ItAt D.item) H bs F/\H m=some (.lst (ms.map V.bl))/\F.length=ms.length/\F.length<=10000/\
 L F.length=[]/\(∀p x,F[p]? =some x->x.digit.isSome=true->L p=valueRow z (runD (F.drop p))++L (p+(runD (F.drop p)).length)/\0<(runD (F.drop p)).length)/\
 (∀p x m,F[p]? =some x->ms[p]? =some m->x.digit.isSome=false->L p=(if(x.w.first != 0&& !m)=true then [x.w.first] else [])++L (p+1))/\newRow H (L 0) Q
theorem Lq(l:List Lo.Item):(runD l).length<=l.length:=by
 unfold runD;rw[length_map];exact(List.takeWhile_sublist _).length_le
theorem Dx(z:Nat)(d:List Nat):(valueRow z d).length<=d.length+2:=by
 unfold valueRow;show(_::_::_).length<=_;rw[length_cons,length_cons,length_map];have:=(List.dropWhile_sublist (l:=d) (fun(x:Nat)=>x==0)).length_le;omega
theorem NT(T:TxL K mg D):Ok P w K mg base 2 "first_row" ["found","left_out","zero"] (spFRw D):=by
 have GD:=OM (P:=P) (w:=w) (base:=base) T;have GN:=OS (P:=P) (w:=w) (base:=base) T;refine T.firstRow.ok scFRw (fun vs H Q E h=>?_) (fun f cdv A outer s H vs Q E hr h=>?_)
 .obtain⟨l,m,bs,F,ms,z,L,rfl,_⟩:=h;rfl
 .obtain⟨l,m,bs,F,ms,z,L,rfl,hl,hB,hm,hlen,hz,hE,hDg,hOn,k⟩:=h
  refine⟨_,Ab (Al (i:=3) scFRw.nd rfl (inl rfl) (As Ac)) (Ab (Al (i:=4) scFRw.nd rfl (inl rfl) Ag)
   (Ab (A9 PassesOwn.never (An CG (pv 4) (plen T.len (pv 0)) (nomark _))
    (Ab (Al (i:=5) scFRw.nd rfl (inl rfl) (pc GD hr (Aa (pv 0) (Aa (pv 4) Ac))))
    (Ab (Av (An HH (plen T.len (pv 5)) Ag (nomark _))
     (Ab (Au (AR plainAttrs_list slot_list_extend type_list_extend Br (pv 3) (Aa (pc GN hr (Aa (pv 5) (Aa (pv 2) Ac))) Ac)))
     (Ab (Cs (i:=4) scFRw.nd rfl (inl rfl) (plen T.len (pv 5)) Cp) (Af El))) Ao)
    (Ab (Av (PW.pt (BP (An Bj (Ar AB (Ak (Ar Ap (pv 0) (pv 4) (fun _ _=>rfl)) rfl) Ag (fun _ _=>rfl)) Ag (nomark _)) (Bx (BK (AJ (Ar Ap (pv 1) (pv 4) (fun _ _=>rfl)))))))
     (Af (Au (AR plainAttrs_list PySem.F.slot_list_append PySem.F.type_list_append AD (pv 3) (Aa (Ar AB (Ak (Ar Ap (pv 0) (pv 4) (fun _ _=>rfl)) rfl) Ag (fun _ _=>rfl)) Ac)))) Ao)
    (Af (Cs (i:=4) scFRw.nd rfl (inl rfl) Ag Cp))))))
   (Af (Aj (pv 3))))),?_⟩
  have hs:sizeLine=16777216:=sizeLine_eq;have hbl:(bs.map V.ref).length=F.length:=by rw[length_map,hB.1]
  refine⟨zero_le _,fun q hq=>?_⟩;have sq:Same H (aj H q (.lst [])):=ae hq
  refine BI (fun n Z H'=>∃(p:Nat)(acc:List Nat)(v5:Option V),n=F.length - p/\Z=[some (.ref l),some (.ref m),some (.int (z:Int)),some (.ref q),some (.int (p:Int)),v5]/\p<=F.length/\acc.length<=3 * p/\Acc H H' q acc/\L 0=acc++L p)
   ⟨_,0,[],none,rfl,rfl,zero_le _,le_refl _,⟨hq,sq,Ae⟩,rfl⟩ ?_
  rintro n Z H' ⟨p,acc,v5,rfl,rfl,hp,hal,A1,hL⟩;have hl1:=A1.same _ _ hl;refine⟨_,AZ (Ah rfl) (AG (Ah rfl) (.inl (aa hl1))),fun y=>?_,fun y=>?_⟩
  .have hpl:p<F.length:=by have:=of_decide_eq_true y;rw[hbl]at this;omega
   obtain⟨x,hx⟩:∃x,F[p]? =some x:=⟨_,getElem?_eq_getElem hpl⟩;obtain⟨b,hb⟩:∃b,bs[p]? =some b:=⟨_,getElem?_eq_getElem (by rw[hB.1];exact hpl)⟩;obtain⟨mk,hmk⟩:∃mk,ms[p]? =some mk:=⟨_,getElem?_eq_getElem (by rw[<-hlen];exact hpl)⟩;refine⟨_,rfl,_,rfl,l,bs,F,p,rfl,hl1,(hB.mono fun b x h=>h.same A1.same),hz,hp,fun H2 dq s2 hdq0 hdq=>?_⟩;have A2:=A1.same' s2;have hrl:=Lq (F.drop p);rw[length_drop]at hrl;refine AZ (AG (Ah rfl) (.inl (aa hdq))) ev_c _ ?_;rw[Aq];by_cases hdig:x.digit.isSome=true
   .obtain⟨e1,e2⟩:=hDg p x hx hdig;have:decide ((0:Int)<(((runD (F.drop p)).length:Nat):Int))=true:=decide_eq_true (by omega);rw[this];refine iteT ⟨_,rfl,.inl ⟨rfl,_,aa A2.at_⟩,_,rfl,_,rfl,dq,_,z,rfl,hdq,(by omega),fun H3 r s3 hr0 hr3=>?_⟩;have A3:=A2.same' s3;have hvl:=Dx z (runD (F.drop p));refine⟨q,r,_,_,rfl,rfl,A3.at_,hr3,(by rw[Aq,Aq];omega),?_⟩;rw[<-Bi];have A4:Acc H (aj H3 q (.lst (nv (acc++valueRow z (runD (F.drop p)))))) q (acc++valueRow z (runD (F.drop p))):=A3.put;have nq:dq≠q:=(Ai A1.at_ hdq0).symm;have hdq4:(aj H3 q (.lst (nv (acc++valueRow z (runD (F.drop p)))))) dq=some (.lst (nv (runD (F.drop p)))):=by rw[Am nq];exact s3 _ _ hdq
    refine⟨_,rfl,?_⟩;refine AG (Ah rfl) (.inl (aa hdq4)) _ ⟨_,_,rfl,rfl,?_⟩;rw[Aq];have ee:(p:Int)+((runD (F.drop p)).length:Int)=((p+(runD (F.drop p)).length:Nat):Int):=by omega
    refine⟨F.length - (p+(runD (F.drop p)).length),(by omega),p+(runD (F.drop p)).length,acc++valueRow z (runD (F.drop p)),some (.ref dq),rfl,(by rw[<-ee];rfl),(by omega),(by rw[length_append];omega),A4,?_⟩;rw[hL,e1,append_assoc]
   .have hdig:x.digit.isSome=false:=by cases h:x.digit.isSome;rfl;exact absurd h hdig
    have hr0:runD (F.drop p)=[]:=by
     rw[drop_eq_getElem_cons hpl,Option.some.inj ((getElem?_eq_getElem hpl).symm.trans hx)];unfold runD;rw[takeWhile_cons,if_neg (by rw[hdig];exact Bool.false_ne_true)]
     first|done|rfl
    rw[hr0];refine iteF ?_;have e1:=hOn p x mk hx hmk hdig;obtain⟨dx,tw,h1,h2⟩:=(hB.2 p b x hb hx).same A2.same;have hl2:=A2.same _ _ hl;have evb:Ev (tOp (rIxL K) (tVar 0) (tVar 4)) [some (.ref l),some (.ref m),some (.int (z:Int)),some (.ref q),some (.int (p:Int)),some (.ref dq)] H2 (.ref b):=AK (Ah rfl) (Ah rfl) (aa hl2) (AA (j:=p) (v:=V.ref b) rfl (Bh hb));obtain⟨f1,f2,f3⟩:=Dk T.toTxH evb h1;obtain⟨w0,_,_⟩:=ev_w (K:=K) f1 h2;have evm:Ev (tOp (rIxL K) (tVar 1) (tVar 4)) [some (.ref l),some (.ref m),some (.int (z:Int)),some (.ref q),some (.int (p:Int)),some (.ref dq)] H2 (.bl mk):=AK (Ah rfl) (Ah rfl) (aa (A2.same _ _ hm)) (AA (j:=p) (v:=V.bl mk) rfl (by rw[getElem?_map,hmk];rfl));refine By (a:= !decide (V.int (x.w.first:Int)=V.int ((0:Nat):Int))) (b:= !mk) (Ax (AL w0 ev_c fun Q q=>⟨rfl,q⟩)) (fun _=>BT (Bs evm)) _ ?_
    have d0:(!decide (V.int (x.w.first:Int)=V.int ((0:Nat):Int)))=(x.w.first != 0):=by
     rw[di];by_cases h0:x.w.first=0
     .rw[h0];rfl
     .rw[decide_eq_false h0];exact(bne_iff_ne.mpr h0).symm
    rw[d0]
    have fin:∀(H3:Hp)(acc':List Nat),Acc H H3 q acc'->acc'=acc++(if(x.w.first != 0&& !mk)=true then [x.w.first] else [])->∀D0:Ends,(∀Z' H',(∃m',m'<F.length - p/\∃(p:Nat)(acc:List Nat)(v5:Option V),m'=F.length - p/\Z'=[some (.ref l),some (.ref m),some (.int (z:Int)),some (.ref q),some (.int (p:Int)),v5]/\p<=F.length/\acc.length<=3 * p/\Acc H H' q acc/\L 0=acc++L p)->D0.nx Z' H')->
      tAug 4 (tC (.int 1)) (ipI fun i j=>i+j) D0 [some (.ref l),some (.ref m),some (.int (z:Int)),some (.ref q),some (.int (p:Int)),some (.ref dq)] H3:=by
     intro H3 acc' A3 ea D0 hn;refine⟨_,rfl,_,_,rfl,rfl,hn _ _ ⟨F.length - (p+1),(by omega),p+1,acc',_,rfl,rfl,hpl,?_,A3,?_⟩⟩
     .rw[ea,length_append];have:(if(x.w.first != 0&& !mk)=true then [x.w.first] else []).length<=1:=by split<;>simp
      omega
     .rw[hL,e1,ea,append_assoc]
    refine ite2 (fun c1=>?_) fun c1=>?_
    .refine⟨_,rfl,.inl ⟨rfl,_,aa A2.at_⟩,w0 _ ⟨q,_,_,rfl,rfl,A2.at_,(by rw[Aq];omega),?_⟩⟩;have e4:nv acc++[V.int (x.w.first:Int)]=nv (acc++[x.w.first]):=by rw[Bi];rfl
     rw[e4];exact fin _ (acc++[x.w.first]) A2.put (by rw[if_pos c1]) _ fun Z' H' h=>h
    .exact fin H2 acc A2 (by rw[if_neg c1,append_nil]) _ fun Z' H' h=>h
  .have hpl:p=F.length:=by have:=of_decide_eq_false y;rw[hbl]at this;omega
   refine⟨_,rfl,k H' q A1.same hq ?_⟩;rw[hL,hpl,hE,append_nil];exact A1.at_
theorem Fi(f:Lo.Weight->Nat)(l:List (Lo.Item×Bool)):(wrow f l).length<=l.length:=by
 unfold wrow;rw[length_map];exact length_filter_le _ _
theorem Ga(f:Lo.Weight->Nat)(l:List (Lo.Item×Bool))(c:Lo.Item×Bool):wrow f (l++[c])=wrow f l++(if(f c.1.w != 0&& !c.2)=true then [f c.1.w] else []):=by
 unfold wrow;rw[filter_append,map_append,filter_cons];by_cases h:(f c.1.w != 0&& !c.2)=true
 .rw[if_pos h,if_pos h];rfl
 .rw[if_neg h,if_neg h];rfl
theorem ne0(n:Nat):(!decide (V.int (n:Int)=V.int ((0:Nat):Int)))=(n != 0):=by
 rw[di];by_cases h0:n=0
 .rw[h0];rfl
 .rw[decide_eq_false h0];exact(bne_iff_ne.mpr h0).symm
theorem scWR:FnScope ["found","left_out","level","row","item","is_out"] ["found","left_out","level"] (defScope (top 40)):=fsc
def spWR(D:Ad):Sp:=fun vs H Q _=>∃(l m:Addr)(bs:List Addr)(F:List Lo.Item)(ms:List Bool)(j:Nat)(f:Lo.Weight->Nat),vs=[.ref l,.ref m,.int (j:Int)]/\H l=some (.lst (bs.map V.ref))/\LsAt (ItAt D.item) H bs F/\H m=some (.lst (ms.map V.bl))/\F.length=ms.length/\F.length<=10000/\
 (∀x,(wv x)[j]? =some (V.int (f x:Int)))/\newRow H (wrow f (F.zip ms)) Q
theorem Ot(T:TxL K mg D):Ok P w K mg base 1 "weight_row" ["found","left_out","level"] (spWR D):=by
 refine T.weightRow.ok scWR (fun vs H Q E h=>?_) (fun f cdv A outer s H vs Q E hr h=>?_)
 .obtain⟨l,m,bs,F,ms,j,f,rfl,_⟩:=h;rfl
 .obtain⟨l,m,bs,F,ms,j,f,rfl,hl,hB,hm,hlen,hz,hf,k⟩:=h
  refine⟨_,Ab (Al (i:=3) scWR.nd rfl (inl rfl) (As Ac))
   (Ab (Ba PassesOwn.never rfl (IQ (by rfl) T.zip (Aa (pv 0) (Aa (pv 1) Ac))) (Ef rfl (Bf (At (i:=4) scWR.nd rfl (inl rfl)) (Bf (At (i:=5) scWR.nd rfl (inl rfl)) Db)))
    (Af (Av (PW.pt (BP (An Bj (Ar AB (Ak (pv 4) rfl) (pv 2) (fun _ _=>rfl)) Ag (nomark _)) (Bx (BK (AJ (pv 5))))))
     (Af (Au (AR plainAttrs_list PySem.F.slot_list_append PySem.F.type_list_append AD (pv 3) (Aa (Ar AB (Ak (pv 4) rfl) (pv 2) (fun _ _=>rfl)) Ac)))) Ao)))
   (Af (Aj (pv 3)))),?_⟩
  have hs:sizeLine=16777216:=sizeLine_eq;have hbl:(bs.map V.ref).length=F.length:=by rw[length_map,hB.1]
  refine⟨zero_le _,fun q hq=>?_⟩;have sq:Same H (aj H q (.lst [])):=ae hq;refine⟨_,rfl,_,rfl,l,m,bs.map V.ref,ms.map V.bl,rfl,aa (sq _ _ hl),aa (sq _ _ hm),?_⟩
  refine Hm (K:=K) (a:=l) (b:=m) (xs:=bs.map V.ref) (ys:=ms.map V.bl) (fun i Z H'=>∃v4 v5,Z=[some (.ref l),some (.ref m),some (.int (j:Int)),some (.ref q),v4,v5]/\Acc H H' q (wrow f ((F.zip ms).take i)))
   ⟨none,none,rfl,hq,sq,Ae⟩ (by rw[hbl,length_map,hlen]) (fun i Z H' _ ⟨_,_,_,A1⟩=>⟨aa (A1.same _ _ hl),aa (A1.same _ _ hm)⟩) ?_ ?_
  .rintro i y z Z H1 Tt hi hj ⟨v4,v5,rfl,A1⟩ hT;obtain⟨b,hb,rfl⟩:=AU hi;rw[getElem?_map]at hj;obtain⟨mk,hmk,rfl⟩:=map_eq_some_iff.mp hj;have hil:i<F.length:=by rw[<-hB.1];exact(List.getElem?_eq_some_iff.mp hb).1
   obtain⟨x,hx⟩:∃x,F[i]? =some x:=⟨_,getElem?_eq_getElem hil⟩;have A2:=A1.same' (ae (o:=.tup [.ref b,.bl mk]) hT);refine⟨Tt,_,rfl,ab Ae,rfl,_,_,rfl,_,_,rfl,rfl,?_⟩;generalize aj H1 Tt (.tup [.ref b,.bl mk])=H2 at A2;obtain⟨dx,tw,h1,h2⟩:=(hB.2 i b x hb hx).same A2.same
   have evw:Ev (tOp (rIxT K) (tFld K (tVar 4) "weights") (tVar 2)) [some (.ref l),some (.ref m),some (.int (j:Int)),some (.ref q),some (.ref b),some (.bl mk)] H2 (.int (f x.w:Int)):=
    CS (Dk T.toTxH (Ah rfl) h1).1 (Ah rfl) (ab h2) (AA (j:=j) rfl (hf x.w))
   have ht:(F.zip ms).take (i+1)=(F.zip ms).take i++[(x,mk)]:=by
    rw[take_add_one];have:(F.zip ms)[i]? =some (x,mk):=by rw[List.getElem?_zip_eq_some];exact⟨hx,hmk⟩
    rw[this];rfl
   dsimp only[gName,tSeq,tIfS];refine By (a:= !decide (V.int (f x.w:Int)=V.int ((0:Nat):Int))) (b:= !mk) (Ax (AL evw ev_c fun Q q=>⟨rfl,q⟩)) (fun _=>BT (Bs (Ah rfl))) _ ?_;rw[ne0];refine ite2 (fun c1=>?_) fun c1=>?_
   .have hwl:=Fi f ((F.zip ms).take i);rw[length_take]at hwl;refine⟨_,rfl,.inl ⟨rfl,_,aa A2.at_⟩,evw _ ⟨q,_,_,rfl,rfl,A2.at_,(by rw[Aq];omega),?_⟩⟩;have e4:nv (wrow f ((F.zip ms).take i))++[V.int (f x.w:Int)]=nv (wrow f ((F.zip ms).take (i+1))):=by rw[ht,Ga,if_pos c1,Bi];rfl
    rw[e4];exact⟨_,_,rfl,A2.put⟩
   .refine⟨_,_,rfl,?_⟩;rw[ht,Ga,if_neg c1,append_nil];exact A2
  .rintro Z H1 ⟨v4,v5,rfl,A1⟩;refine⟨_,rfl,k H1 q A1.same hq ?_⟩;have:=A1.at_;rw[hbl,take_of_length_le (by rw[List.length_zip];omega)]at this;exact this
theorem scLR:FnScope ["found","item"] ["found"] (defScope (top 41)):=fsc
def lrow(F:List Lo.Item):List Nat:=(F.filter fun(x:Lo.Item)=>x.w.first != 0).map fun(x:Lo.Item)=>if x.light=true then x.w.first else Lo.LAST
def spLR(D:Ad):Sp:=fun vs H Q _=>∃(l:Addr)(bs:List Addr)(F:List Lo.Item),vs=[.ref l]/\H l=some (.lst (bs.map V.ref))/\LsAt (ItAt D.item) H bs F/\F.length<=10000/\newRow H (lrow F) Q
theorem LN{bs:List Addr}{ws:List Lo.Item}(h:bs.length=ws.length):(bs.zip ws).map (fun(c:Addr×Lo.Item)=>V.ref c.1)=bs.map V.ref:=by
 have:(bs.zip ws).map Prod.fst=bs:=List.map_fst_zip (Nat.le_of_eq h);have h2:(bs.zip ws).map (fun(c:Addr×Lo.Item)=>V.ref c.1)=((bs.zip ws).map Prod.fst).map V.ref:=by rw[map_map];rfl
 rw[h2,this]
theorem Ej(p:Lo.Item->Bool)(f:Lo.Item->Nat):∀{bs:List Addr}{ws:List Lo.Item},bs.length=ws.length->((bs.zip ws).filter (fun(c:Addr×Lo.Item)=>p c.2)).map (fun(c:Addr×Lo.Item)=>V.int (f c.2:Int))=nv ((ws.filter p).map f)
 |[],[],_=>rfl
 |b::bs,x::ws,h=>by
  rw[List.zip_cons_cons,filter_cons,filter_cons];have ih:=Ej p f (Nat.succ.inj h);cases p x with
  |true=>rw[if_pos rfl,if_pos rfl,map_cons,map_cons,ih];rfl
  |false=>rw[if_neg Bool.false_ne_true,if_neg Bool.false_ne_true,ih]
 |[],x::ws,h=>by cases h
 |b::bs,[],h=>by cases h
theorem Io{R:Hp->Addr->Lo.Item->Prop}{H:Hp}{bs:List Addr}{ws:List Lo.Item}(h:LsAt R H bs ws){c:Addr×Lo.Item}(hc:c∈bs.zip ws):R H c.1 c.2:=by
 obtain⟨i,hi⟩:=List.getElem?_of_mem hc;rw[List.getElem?_zip_eq_some]at hi;exact h.2 i _ _ hi.1 hi.2
theorem OF(T:TxL K mg D):Ok P w K mg base 1 "light_row" ["found"] (spLR D):=by
 refine T.lightRow.ok scLR (fun vs H Q E h=>?_) (fun f cdv A outer s H vs Q E hr h=>?_)
 .obtain⟨l,bs,F,rfl,_⟩:=h;rfl
 .obtain⟨l,bs,F,rfl,hl,hB,hz,k⟩:=h
  refine⟨_,Af (Aj (BQ (own:=[("item",1)]) (tt:=tTest (tOp rNe (tOp (rIxT K) (tFld K (tVar 1) "weights") (tC (.int 0))) (tC (.int 0)))) (te:=tIf (tB (tFld K (tVar 1) "light")) (tOp (rIxT K) (tFld K (tVar 1) "weights") (tC (.int 0))) (tC (.int 4294967295))) rfl scLR.nd (AE (pv 0)) (blk rfl)
   (fun s H C cl fp=>At (i:=1) scLR.nd rfl (inl rfl)) (fun s H C cl fp=>Cz (An Bj (Ar AB (Ak (pv 1) rfl) Ag (fun _ _=>rfl)) Ag (nomark _)))
   (fun s H C cl fp=>AT (AJ (Ak (pv 1) rfl)) (Ar AB (Ak (pv 1) rfl) Ag (fun _ _=>rfl)) (pgi T.notLight)))),?_⟩
  have hs:sizeLine=16777216:=sizeLine_eq;refine⟨_,rfl,l,rfl,⟨_,aa hl⟩,fun B hB0=>?_⟩;refine GY 1 (bs.zip F) (fun c=>V.ref c.1) (fun c=>c.2.w.first != 0) (fun c=>V.int (((if c.2.light=true then c.2.w.first else Lo.LAST):Nat):Int)) (LN hB.1).symm hB0 (aa hl) (by rw[List.length_zip];omega) (fun c H' hc s' R hR=>?_) (fun c H' hc _ s' R hR=>?_) fun H3 s3 hB3=>?_
  .obtain⟨dx,tw,h1,h2⟩:=(Io hB hc).same s';obtain⟨w0,_,_⟩:=ev_w (K:=K) (Dk T.toTxH (Z:=(wipe [some (V.ref l),none] [1]).set 1 (some (V.ref c.1))) (ta:=tVar 1) (Ah rfl) h1).1 h2;refine Ax (b:= !decide (V.int (c.2.w.first:Int)=V.int ((0:Nat):Int))) (AL w0 ev_c fun Q q=>⟨rfl,q⟩) _ ?_;rw[ne0];exact hR _ (ad _)
  .obtain⟨dx,tw,h1,h2⟩:=(Io hB hc).same s';obtain⟨e1,e2,_⟩:=Dk T.toTxH (Z:=(wipe [some (V.ref l),none] [1]).set 1 (some (V.ref c.1))) (ta:=tVar 1) (Ah rfl) h1;obtain⟨w0,_,_⟩:=ev_w (K:=K) e1 h2;dsimp only[tIf];refine Bs e2 _ ?_;cases hli:c.2.light with
   |true=>rw[hli]at hR;exact iteT (w0 _ (hR _ (ad _)))
   |false=>rw[hli]at hR;exact iteF (hR _ (ad _))
  .have e:=Ej (fun x=>x.w.first != 0) (fun x=>if x.light=true then x.w.first else Lo.LAST) hB.1;exact k H3 B s3 hB0 (by rw[hB3];exact congrArg (fun z=>some (HO.lst z)) e)
theorem CW:∀n:Nat,n<32->(Builtin.bitAnd (n:Int) 16 != 0)=(howOf n).value/\(Builtin.bitAnd (n:Int) 4 != 0)=(howOf n).lightly/\(Builtin.bitAnd (n:Int) 8 != 0)=(howOf n).back/\Builtin.bitAnd (n:Int) 3+1=(((howOf n).levels:Nat):Int):=by decide+kernel
theorem NN{es:Lo.Order}(I:LM.OInv es):zeroWeight es=(weighOf es [48]).first:=by
 unfold zeroWeight;rw[CV I 48 []];have h:=BD es 48 [];obtain⟨h1,_,h3,h4,_⟩:=h
 have:(strAt es [48]).length=1:=by
  have:([48]:List Nat).length=1:=rfl;omega
 rw[this]at h4;have h5:strAt es [48]=[48]:=h4;rw[h5];rfl
theorem HA:∀(l:List Lo.Item)(p:Bool)(i:Nat)(m:Bool)(x:Lo.Item),(marks p l)[i]? =some m->l[i]? =some x->∃p',m=mark p' x
 |[],_,i,m,x,h,_=>by cases h
 |y::l,p,0,m,x,h,hx=>by
  cases hx;have h:some (mark p y)=some m:=h;exact⟨p,(Option.some.inj h).symm⟩
 |y::l,p,i+1,m,x,h,hx=>by
  have h:(marks (mark p y) l)[i]? =some m:=by
   have:(mark p y::marks (mark p y) l)[i+1]? =some m:=h;simpa using this
  exact HA l _ i m x h (by simpa using hx)
def outs(h:Lo.How)(F:List Lo.Item):List Bool:=if h.lightly=true then marks false F else List.replicate F.length false
theorem E6(h:Lo.How)(F:List Lo.Item):(outs h F).length=F.length:=by
 unfold outs;split
 .exact DZ _ _
 .exact List.length_replicate
def cF(es:Lo.Order)(h:Lo.How)(t:List Nat):List Lo.Item:=(Lo.items es t).map (cI (bvOf es h))
theorem digIn(es:Lo.Order)(h:Lo.How)(t:List Nat):DigIn es h (Lo.items es t) (outs h (cF es h t)):=by
 intro i x m hx hm hb;unfold outs at hm;split at hm
 .obtain⟨p',e⟩:=HA _ _ i m (cI (bvOf es h) x) hm (by unfold cF;rw[getElem?_map,hx];rfl);rw[e];have hd:=BL es h x;rw[hb]at hd
  have hl:(cI (bvOf es h) x).light=false:=by
   unfold cI at hd⊢;cases hx:x.digit with
   |none=>rw[hx]at hd;rw[hx]at hd;cases hd
   |some d=>
    rw[hx]at hd;cases hbv:bvOf es h with
    |true=>rfl
    |false=>rw[hbv]at hd;cases hd
  unfold mark;rw[hl,if_neg Bool.false_ne_true,if_pos (.inr hd)]
 .rw[List.getElem?_replicate]at hm;split at hm
  .exact(Option.some.inj hm).symm
  .cases hm
theorem G1(es:Lo.Order)(h:Lo.How)(t:List Nat):Lo.left es h false (Lo.items es t)=zipWith put (Lo.items es t) (outs h (cF es h t)):=by
 unfold outs;by_cases hl:h.lightly=true
 .rw[if_pos hl,Cw es h hl];rfl
 .rw[if_neg hl,Fg es h (by cases e:h.lightly;rfl;exact absurd e hl)];unfold cF;rw[length_map]
theorem light4(es:Lo.Order)(h:Lo.How)(hl:h.lightly=true):∀l:List Lo.Item,lrow (l.map (cI (bvOf es h)))=(l.filter fun(x:Lo.Item)=>x.w.first != 0).map fun(x:Lo.Item)=>if Lo.isLight es h x=true then x.w.first else Lo.LAST
 |[]=>rfl
 |x::l=>by
  have ih:=light4 es h hl l;unfold lrow at ih⊢;have ew:=cI_w (bvOf es h) x;have el:=HN es h x;rw[hl,Bool.true_and]at el;rw[map_cons,filter_cons,filter_cons,ew];by_cases h0:(x.w.first != 0)=true
  .rw[if_pos h0,if_pos h0,map_cons,map_cons,ih,ew,el]
  .rw[if_neg h0,if_neg h0,ih]
def row1(es:Lo.Order)(h:Lo.How)(t:List Nat):List Nat:=lv1 es h (Lo.items es t) (outs h (cF es h t)) 0
def row2(es:Lo.Order)(h:Lo.How)(t:List Nat):List Nat:=wrow (fun x=>x.second) ((cF es h t).zip (outs h (cF es h t)))
def row3(es:Lo.Order)(h:Lo.How)(t:List Nat):List Nat:=wrow (fun x=>x.third) ((cF es h t).zip (outs h (cF es h t)))
def row4(es:Lo.Order)(h:Lo.How)(t:List Nat):List Nat:=if h.lightly=true then lrow (cF es h t) else t.map fun(c:Nat)=>c+1
theorem DW(es:Lo.Order)(h:Lo.How)(t:List Nat):Lo.rowsOf es h t=[row1 es h t,if h.back=true then(row2 es h t).reverse else row2 es h t,row3 es h t,row4 es h t].take h.levels:=by
 have e1:row1 es h t=level1 es h none (Lo.left es h false (Lo.items es t)):=by
  unfold row1 lv1;rw[drop_zero,G1]
 have e2:row2 es h t=notZero ((Lo.there (Lo.left es h false (Lo.items es t))).map fun(x:Lo.Item)=>x.w.second):=by
  unfold row2;rw[G1,G6 (fun x=>x.second) (bvOf es h)];rfl
 have e3:row3 es h t=notZero ((Lo.there (Lo.left es h false (Lo.items es t))).map fun(x:Lo.Item)=>x.w.third):=by
  unfold row3;rw[G1,G6 (fun x=>x.third) (bvOf es h)];rfl
 have e4:row4 es h t=Lo.level4 es h t:=by
  unfold row4 Lo.level4;by_cases hl:h.lightly=true
  .rw[if_pos hl,if_pos hl];exact light4 es h hl _
  .rw[if_neg hl,if_neg hl]
 rw[e1,e2,e3,e4];rfl
theorem Lb{es:Lo.Order}{h:Lo.How}{t:List Nat}{z:Nat}(hz:h.value=true->z=zeroWeight es)(p:Nat)(x:Lo.Item)(hx:(cF es h t)[p]? =some x)(hd:x.digit.isSome=true):
  lv1 es h (Lo.items es t) (outs h (cF es h t)) p=valueRow z (runD ((cF es h t).drop p))++lv1 es h (Lo.items es t) (outs h (cF es h t)) (p+(runD ((cF es h t).drop p)).length)/\0<(runD ((cF es h t).drop p)).length:=by
 unfold cF at hx;rw[getElem?_map]at hx;obtain⟨y,hy,rfl⟩:=map_eq_some_iff.mp hx
 have hv:h.value=true:=by
  rw[BL]at hd;unfold Lo.byValue at hd;rw[and_eq_true,and_eq_true]at hd;exact hd.1.1
 rw[hz hv];exact MC (by rw[E6];unfold cF;rw[length_map]) (digIn es h t) hy hd
theorem KJ{es:Lo.Order}{h:Lo.How}{t:List Nat}(p:Nat)(x:Lo.Item)(m:Bool)(hx:(cF es h t)[p]? =some x)(hm:(outs h (cF es h t))[p]? =some m)(hd:x.digit.isSome=false):
  lv1 es h (Lo.items es t) (outs h (cF es h t)) p=(if(x.w.first != 0&& !m)=true then [x.w.first] else [])++lv1 es h (Lo.items es t) (outs h (cF es h t)) (p+1):=by
 have hx':=hx;unfold cF at hx';rw[getElem?_map]at hx';obtain⟨y,hy,rfl⟩:=map_eq_some_iff.mp hx';rw[MH hy hm hd,cI_w]
theorem KU(es:Lo.Order)(h:Lo.How)(t:List Nat):lv1 es h (Lo.items es t) (outs h (cF es h t)) (cF es h t).length=[]:=by
 have:(cF es h t).length=(Lo.items es t).length:=by unfold cF;rw[length_map]
 rw[this];exact Lz es h _ _ (by rw[E6,this])
theorem Ce{es:Lo.Order}(I:LM.OInv es)(t:List Nat):(Lo.items es t).length<=5 * t.length:=by
 rw[Iu I];have h1:=DV I (tk es t);have h2:(tk es t).length<=t.length:=Cq (es:=es) t.length t;omega
def RowAt(H:Hp)(b:Addr)(l:List Nat):Prop:=H b=some (.lst (nv l))
theorem LsAt.monoM{α:Type}{R:Hp->Addr->α->Prop}{H H':Hp}{bs:List Addr}{xs:List α}(h:LsAt R H bs xs)(m:∀b x,b∈bs->R H b x->R H' b x):LsAt R H' bs xs:=⟨h.1,fun i b x h1 h2=>m _ _ (mem_of_getElem? h1) (h.2 i b x h1 h2)⟩
theorem LsAt.take{α:Type}{R:Hp->Addr->α->Prop}{H:Hp}{bs:List Addr}{xs:List α}(h:LsAt R H bs xs)(n:Nat):LsAt R H (bs.take n) (xs.take n):=
 ⟨by rw[length_take,length_take,h.1],fun i b x h1 h2=>by
  rw[List.getElem?_take]at h1 h2;split at h1
  .rename_i hi;rw[if_pos hi]at h2;exact h.2 i b x h1 h2
  .cases h1⟩
def tTru(K:Frag)(ta:TE):TT:=fun Z H Q=>ta Z H fun x H'=>∃k,TruV K x H' k/\Q k H'
theorem G9{X:Cx}{a:Expr}{ta:TE}(ha:PE X a ta)(he:∀whole,isTrue a X.env whole=(do let v<-whole;standAt a.pos;holding [v] (truthy v)):=by intro _;rfl):PT X a (tTru X.K ta):=LF ha he
theorem EF{K:Frag}{b:Int}{n i:Nat}{k:Bool}{Z:St}{H:Hp}(hv:Z[i]? =some (some (.int (n:Int))))(hk:(Builtin.bitAnd (n:Int) b != 0)=k):EvT (tTru K (tOp (rI0 fun i j=>.int (Builtin.bitAnd i j)) (tVar i) (tC (.int b)))) Z H k:=fun Q q=>
 ⟨_,hv,_,_,rfl,rfl,k,hk.symm,q⟩
theorem scLv:FnScope ["scale","way","text","zero","found","left_out","rows","level","item","number"] ["scale","way","text"] (defScope (top 34)):=fsc
def spLv(D:Ad):Sp:=fun vs H Q _=>∃(sc a:Addr)(es:Lo.Order)(n:Nat)(t:List Nat),vs=[.ref sc,.int (n:Int),.ref a]/\ScAt D H sc es/\LM.OInv es/\H a=some (.lst (nv t))/\t.length<=1000/\n<32/\
 ∀(H':Hp)(q:Addr)(rs:List Addr),Same H H'->H q=none->H' q=some (.lst (rs.map V.ref))->LsAt RowAt H' rs (Lo.rowsOf es (howOf n) t)->(∀r∈rs,H r=none)->Q (.ref q) H'
theorem MX{Z:St}{H:Hp}{sc:Addr}{es:Lo.Order}{n:Nat}(hS:ScAt D H sc es)(I:LM.OInv es)(h0:Z[0]? =some (some (.ref sc)))(h1:Z[1]? =some (some (.int (n:Int))))(hn:n<32){Q:VK}
  (k:∀(H':Hp)(z:Nat),Same H H'->((howOf n).value=true->z=zeroWeight es)->((howOf n).value=false->z=0)->Q (.int (z:Int)) H'):
  tIf (tTru K (tOp (rI0 fun i j=>.int (Builtin.bitAnd i j)) (tVar 1) (tC (.int 16)))) (tOp (rIxT K) (tMeth D.scale "weigh" (spCWg D) [] E0 (tVar 0) (tCons (tTup (tCons (tC (.int 48)) tNil)) tNil)) (tC (.int 0))) (tC (.int 0)) Z H Q:=by
 refine EF h1 (CW n hn).1 _ ?_;cases hv:(howOf n).value with
 |true=>
  obtain⟨dx,d1,d2,k1,k2,as,ws,hsc,_⟩:=id hS;refine iteT ⟨_,h0,sc,dx,_,rfl,hsc,rfl,(by show 1<=sizeLine;decide),fun tt htt=>?_⟩;have st:Same H (aj H tt (.tup [V.int 48])):=ae htt;refine⟨sc,tt,es,[48],rfl,hS.same st,Ae,(by simp),fun H' b s' hb=>?_⟩;refine⟨b,_,_,_,rfl,rfl,ab hb,AA (j:=0) rfl rfl,k H' (weighOf es [48]).first (st.trans s') (fun _=>(NN I).symm) (fun z=>?_)⟩;rw[hv]at z;cases z
 |false=>exact iteF (k H 0 (ad _) (fun z=>by rw[hv]at z;cases z) fun _=>rfl)
theorem Mb{Z:St}{H:Hp}{sc a:Addr}{es:Lo.Order}{t:List Nat}{z:Nat}{v1 v4 v5 v6 v7 v8 v9:Option V}(hS:ScAt D H sc es)(I:LM.OInv es)(ha:H a=some (.lst (nv t)))(ht:t.length<=1000)(hZ:Z=[some (.ref sc),v1,some (.ref a),some (.int (z:Int)),v4,v5,v6,v7,v8,v9]){Q:VK}
  (k:∀(H':Hp)(q:Addr)(bs:List Addr),Same H H'->H' q=some (.lst (bs.map V.ref))->LsAt (ItAt D.item) H' bs ((Lo.items es t).map (cI (z != 0)))->Q (.ref q) H'):
  tLc (iList K (tCall (spTI D) [] E0 (tCons (tVar 0) (tCons (tVar 2) tNil)))) (gName 8) tYes (tCall (spCIt D) [] E0 (tCons (tVar 8) (tCons (tOp rNe (tVar 3) (tC (.int 0))) tNil))) [8] Z H Q:=by
 subst hZ;have hs:sizeLine=16777216:=sizeLine_eq;have hil:=Ce I t;refine⟨_,rfl,_,rfl,sc,a,es,t,rfl,hS,I,.inl ha,ht,fun H1 l bs s1 hl0 hl1 hB=>⟨l,rfl,⟨_,aa hl1⟩,fun B hB0=>?_⟩⟩;refine Ci (xs:=bs.map V.ref) (Pv:=fun i H'=>Same H1 H'/\∃cs:List Addr,H' B=some (.lst (cs.map V.ref))/\LsAt (ItAt D.item) H' cs (((Lo.items es t).take i).map (cI (z != 0)))) ⟨ae hB0,[],Ae,LsAt.nil⟩ (fun i H' _ p=>aa (p.1 _ _ hl1)) ?_ ?_
 .rintro i y H2 hi ⟨s2,cs,hcs,hC⟩;obtain⟨b,hb,rfl⟩:=AU hi;have hit:i<(Lo.items es t).length:=by rw[<-hB.1];exact(List.getElem?_eq_some_iff.mp hb).1
  obtain⟨x,hx⟩:∃x,(Lo.items es t)[i]? =some x:=⟨_,getElem?_eq_getElem hit⟩;refine⟨by show(((wipe _ []).set 8 none).set 8 (some (V.ref b))).set 8 none=(wipe _ []).set 8 none;rw[set_set,set_set],?_⟩;refine⟨_,rfl,_,rfl,rfl,b,x,z != 0,?_,(hB.2 i b x hb hx).same s2,fun H3 b3 s3 hb3=>?_⟩
  .show [V.ref b,V.bl (!decide (V.int (z:Int)=V.int ((0:Nat):Int)))]=_;rw[ne0]
  have hcl:cs.length=i:=by rw[hC.1,length_map,length_take];omega
  have hB3:=s3 _ _ hcs;refine⟨_,hB3,(by rw[length_map];omega),?_⟩;rw[Bw];have sb:SameBut B H3 (aj H3 B (.lst ((cs++[b3]).map V.ref))):=af;refine⟨ag (s2.trans s3) sb hB0,cs++[b3],Ae,?_⟩;have ht1:(Lo.items es t).take (i+1)=(Lo.items es t).take i++[x]:=by rw[take_add_one,hx];rfl
  rw[ht1,show(List.take i (Lo.items es t)++[x]).map (cI (z != 0))=(List.take i (Lo.items es t)).map (cI (z != 0))++[cI (z != 0) x] from map_append ..];exact(hC.mono fun b x h=>(h.same s3).keep hB3 sb).snoc (hb3.keep hB3 sb)
 .rintro H2 ⟨s2,cs,hcs,hC⟩;rw[length_map,hB.1,take_length]at hC;exact k H2 B cs (s1.trans s2) hcs hC
theorem NW{Z:St}{H:Hp}{q:Addr}{bs:List Addr}{F:List Lo.Item}{n:Nat}{v0 v2 v3 v5 v6 v7 v8 v9:Option V}(hq:H q=some (.lst (bs.map V.ref)))(hB:LsAt (ItAt D.item) H bs F)(hz:F.length<=10000)(hn:n<32)(hZ:Z=[v0,some (.int (n:Int)),v2,v3,some (.ref q),v5,v6,v7,v8,v9]){Q:VK}
  (k:∀(H':Hp)(m:Addr),Same H H'->H' m=some (.lst ((outs (howOf n) F).map V.bl))->Q (.ref m) H'):
  tIf (tTru K (tOp (rI0 fun i j=>.int (Builtin.bitAnd i j)) (tVar 1) (tC (.int 4)))) (tCall (spLM D) [] E0 (tCons (tVar 4) tNil)) (tLc (iList K (tVar 4)) (gName 8) tYes (tC (.bl false)) [8]) Z H Q:=by
 subst hZ;have hs:sizeLine=16777216:=sizeLine_eq;refine EF (n:=n) rfl (CW n hn).2.1 _ ?_;unfold outs at k;cases hv:(howOf n).lightly with
 |true=>
  rw[hv]at k;exact iteT ⟨_,rfl,q,bs,F,rfl,hq,hB,hz,fun H' m s hm=>k H' m s hm⟩
 |false=>
  rw[hv]at k;refine iteF ⟨_,rfl,q,rfl,⟨_,aa hq⟩,fun B hB0=>?_⟩;refine Dj 8 (ys:=(List.replicate F.length false).map V.bl) hB0 (aa hq) (by rw[length_map,length_map,List.length_replicate,hB.1]) (by rw[length_map,hB.1];omega) (fun i x y H2 hx hy s2 R hR=>?_) fun H2 s2 hB2=>k H2 B s2 hB2;rw[getElem?_map,List.getElem?_replicate]at hy;split at hy
  .cases hy;exact hR _ (ad _)
  .cases hy
theorem MR{Z:St}{H:Hp}{q a:Addr}{bs:List Addr}{F:List Lo.Item}{t:List Nat}{n:Nat}{v0 v3 v5 v6 v7 v8 v9:Option V}(hq:H q=some (.lst (bs.map V.ref)))(hB:LsAt (ItAt D.item) H bs F)(hz:F.length<=10000)(ha:H a=some (.lst (nv t)))(ht:t.length<=1000)(hn:n<32)(hZ:Z=[v0,some (.int (n:Int)),some (.ref a),v3,some (.ref q),v5,v6,v7,v8,v9]){Q:VK}
  (k:newRow H (if(howOf n).lightly=true then lrow F else t.map fun(c:Nat)=>c+1) Q):
  tIf (tTru K (tOp (rI0 fun i j=>.int (Builtin.bitAnd i j)) (tVar 1) (tC (.int 4)))) (tCall (spLR D) [] E0 (tCons (tVar 4) tNil)) (tLc (iList K (tVar 2)) (gName 9) tYes (tOp (rI0 fun i j=>.int (i+j)) (tVar 9) (tC (.int 1))) [9]) Z H Q:=by
 subst hZ;have hs:sizeLine=16777216:=sizeLine_eq;refine EF (n:=n) rfl (CW n hn).2.1 _ ?_;cases hv:(howOf n).lightly with
 |true=>
  rw[hv]at k;exact iteT ⟨_,rfl,q,bs,F,rfl,hq,hB,hz,k⟩
 |false=>
  rw[hv]at k;refine iteF ⟨_,rfl,a,rfl,⟨_,aa ha⟩,fun B hB0=>?_⟩;refine Dj 9 (ys:=nv (t.map fun(c:Nat)=>c+1)) hB0 (aa ha) (by rw[Aq,Aq,length_map]) (by rw[Aq];omega) (fun i x y H2 hx hy s2 R hR=>?_) fun H2 s2 hB2=>k H2 B s2 hB0 hB2;obtain⟨d,hd',rfl⟩:=BO hx;obtain⟨e,he,rfl⟩:=BO hy;rw[getElem?_map,hd']at he;cases he;exact⟨_,rfl,_,_,rfl,rfl,hR _ (ad _)⟩
theorem LsAt.some{H:Hp}{rs:List Addr}{ls:List (List Nat)}(h:LsAt RowAt H rs ls){b:Addr}(hb:b∈rs):∃l,H b=some (.lst (nv l)):=by
 obtain⟨i,hi⟩:=List.getElem?_of_mem hb;have hil:i<ls.length:=by rw[<-h.1];exact(List.getElem?_eq_some_iff.mp hi).1
 exact⟨_,h.2 i b _ hi (getElem?_eq_getElem hil)⟩
theorem three{α:Type}{l:List α}(h:l.length=3):∃a b c,l=[a,b,c]:=by
 match l,h with
 |[a,b,c],_=>exact⟨a,b,c,rfl⟩
theorem N4(rs:List Addr)(i:Int)(n:Nat)(h:i=(n:Int)):cutV (rs.map V.ref) none (some i)=(rs.take n).map V.ref:=by
 subst h;unfold cutV;rw[HT.BR,HT.Hy,drop_zero,Nat.sub_zero,length_map,map_take];by_cases hn:n<=rs.length
 .rw[min_eq_left hn]
 .rw[min_eq_right (by omega),take_of_length_le (by rw[length_map];exact le_refl _),take_of_length_le (by rw[length_map];omega)]
theorem LJ{D0:Ends}{Z:St}{H0 H:Hp}{q a R:Addr}{bs:List Addr}{F:List Lo.Item}{t:List Nat}{n:Nat}{v0 v3 v5 v7 v8 v9:Option V}{rs:List Addr}{ls:List (List Nat)}
  (s0:Same H0 H) (hq:H0 q=some (.lst (bs.map V.ref))) (hB:LsAt (ItAt D.item) H0 bs F) (hz:F.length<=10000) (ha:H0 a=some (.lst (nv t))) (ht:t.length<=1000) (hn:n<32)
  (hZ:Z=[v0,some (.int (n:Int)),some (.ref a),v3,some (.ref q),v5,some (.ref R),v7,v8,v9]) (hR:H R=some (.lst (rs.map V.ref))) (hR0:H0 R=none) (hL:LsAt RowAt H rs ls) (hl3:ls.length=3) (hRn:R∉rs) (hf:∀r∈rs,H0 r=none)
  (k:∀(H':Hp)(p:Addr)(ts:List Addr),Same H0 H'->H0 p=none->H' p=some (.lst (ts.map V.ref))->LsAt RowAt H' ts ((ls++[if(howOf n).lightly=true then lrow F else t.map fun(c:Nat)=>c+1]).take (howOf n).levels)->(∀r∈ts,H0 r=none)->D0.rt (.ref p) H'):
  tSeq (tDrop (tBM K "list" rAppend (tVar 6) (tCons (tIf (tTru K (tOp (rI0 fun i j=>.int (Builtin.bitAnd i j)) (tVar 1) (tC (.int 4)))) (tCall (spLR D) [] E0 (tCons (tVar 4) tNil)) (tLc (iList K (tVar 2)) (gName 9) tYes (tOp (rI0 fun i j=>.int (i+j)) (tVar 9) (tC (.int 1))) [9])) tNil)))
   (tRet (tSl (rSlL K) (tVar 6) tNoPart (tPart (tOp (rI0 fun i j=>.int (i+j)) (tOp (rI0 fun i j=>.int (Builtin.bitAnd i j)) (tVar 1) (tC (.int 3))) (tC (.int 1)))))) D0 Z H:=by
 subst hZ;have hs:sizeLine=16777216:=sizeLine_eq;refine⟨_,rfl,.inl ⟨rfl,_,aa hR⟩,?_⟩;refine MR (K:=K) (D:=D) (s0 _ _ hq) (hB.mono fun b x h=>h.same s0) hz (s0 _ _ ha) ht hn rfl fun H1 r s1 hr0 hr1=>?_;have hR1:=s1 _ _ hR;have hrl:rs.length=3:=by rw[hL.1,hl3]
 refine⟨R,_,_,rfl,rfl,hR1,(by rw[length_map];omega),?_⟩;rw[Bw];have sb:SameBut R H1 (aj H1 R (.lst ((rs++[r]).map V.ref))):=af;have hR2:(aj H1 R (.lst ((rs++[r]).map V.ref))) R=some (.lst ((rs++[r]).map V.ref)):=Ae;generalize aj H1 R (.lst ((rs++[r]).map V.ref))=H2 at sb hR2;have nrR:r≠R:=(Ai hR hr0).symm
 have hL2:LsAt RowAt H2 (rs++[r]) (ls++[if(howOf n).lightly=true then lrow F else t.map fun(c:Nat)=>c+1]):=
  (hL.monoM fun b x hb h=>sb _ _ (s1 _ _ h) (fun z=>hRn (z▸hb))).snoc (sb _ _ hr1 nrR)
 have s02:Same H0 H2:=ag (s0.trans s1) sb hR0;refine⟨_,rfl,_,rfl,_,_,rfl,rfl,_,_,rfl,rfl,_,rfl,R,_,rfl,aa hR2,fun p hp=>?_⟩;rw[N4 _ _ (howOf n).levels (CW n hn).2.2.2];have sp:Same H2 (aj H2 p (.lst (((rs++[r]).take (howOf n).levels).map V.ref))):=ae hp
 exact k _ p _ (s02.trans sp) (s02.free hp) Ae ((hL2.take _).mono fun b x h=>sp _ _ h) fun b hb=>by
  rcases mem_append.mp (List.mem_of_mem_take hb)with z|z
  .exact hf b z
  .cases mem_singleton.mp z;exact s0.free hr0
theorem M8(T:TxL K mg D):Ok P w K mg base 5 "level_rows" ["scale","way","text"] (spLv D):=by
 have GW:=KF (P:=P) (w:=w) (base:=base) T.toTxG;have GT:=Ni (P:=P) (w:=w) (base:=base) T.toTxH;have GC:=NS (P:=P) (w:=w) (base:=base) T;have GM:=O1 (P:=P) (w:=w) (base:=base) T;have GF:=NT (P:=P) (w:=w) (base:=base) T;have GR:=Ot (P:=P) (w:=w) (base:=base) T;have GL:=OF (P:=P) (w:=w) (base:=base) T;refine T.levelRows.ok scLv (fun vs H Q E h=>?_) (fun f cdv A outer s H vs Q E hr h=>?_)
 .obtain⟨sc,a,es,n,t,rfl,_⟩:=h;rfl
 .obtain⟨sc,a,es,n,t,rfl,hS,hI,ha,ht,hn,k⟩:=h;have hr1:Room 1 _:=hr.mono (by decide);have hr2:Room 2 _:=hr.mono (by decide);have hr3:Room 3 _:=hr.mono (by decide)
  refine⟨_,Ab (Al (i:=3) scLv.nd rfl (Or.inr rfl) (AT (G9 (Ay D3 (pv 1) (pgi T.byValue))) (Ar AB (pm GW T.clC hr1 (pv 0) (Aa (AV (Aa (pgi T.zero) Ac)) Ac)) Ag (fun _ _=>rfl)) Ag))
   (Ab (HQ (i:=4) (own:=[("item",8)]) rfl scLv.nd rfl rfl rfl (AE (pc GT hr (Aa (pv 0) (Aa (pv 2) Ac)))) (blk rfl)
    (fun s H C cl fp=>At (i:=8) scLv.nd rfl (inl rfl)) (fun s H C cl fp=>BE) (fun s H C cl fp=>pc GC hr3 (Aa (pv 8) (Aa (AW Bj (pv 3) Ag (nomark _)) Ac))))
   (Ab (Al (i:=5) scLv.nd rfl (inl rfl) (AT (G9 (Ay D3 (pv 1) (pgi T.lightly))) (pc GM hr1 (Aa (pv 4) Ac)) (BQ (own:=[("item",8)]) rfl scLv.nd (AE (pv 4)) (blk rfl)
    (fun s H C cl fp=>At (i:=8) scLv.nd rfl (inl rfl)) (fun s H C cl fp=>BE) (fun s H C cl fp=>CH))))
   (Ab (Al (i:=6) scLv.nd rfl (inl rfl) (As (Aa (pc GF hr2 (Aa (pv 4) (Aa (pv 5) (Aa (pv 3) Ac)))) Ac)))
   (Ab (Ba PassesOwn.never rfl (He (AV (Aa Ag (Aa Ag Ac)))) (At (i:=7) scLv.nd rfl (inl rfl))
    (Af (Au (AR plainAttrs_list PySem.F.slot_list_append PySem.F.type_list_append AD (pv 6) (Aa (pc GR hr1 (Aa (pv 4) (Aa (pv 5) (Aa (pv 7) Ac)))) Ac)))))
   (Ab (Av (G9 (Ay D3 (pv 1) (pgi T.fromEnd))) (Af (Au (NV plainAttrs_list PySem.F.slot_list_reverse PySem.F.type_list_reverse IG (Ar Ap (pv 6) Ag (fun _ _=>rfl))))) Ao)
   (Ab (Au (AR plainAttrs_list PySem.F.slot_list_append PySem.F.type_list_append AD (pv 6) (Aa (AT (G9 (Ay D3 (pv 1) (pgi T.lightly))) (pc GL hr1 (Aa (pv 4) Ac)) (BQ (own:=[("number",9)]) (te:=tOp (rI0 fun i j=>.int (i+j)) (tVar 9) (tC (.int 1))) rfl scLv.nd (AE (pv 2)) (blk rfl)
    (fun s H C cl fp=>At (i:=9) scLv.nd rfl (inl rfl)) (fun s H C cl fp=>BE) (fun s H C cl fp=>Ay AN (pv 9) Ag))) Ac)))
   (Af (Aj (BN B3 (pv 6) Gp (Bq (Ay AN (Ay D3 (pv 1) (pgi T.levelBits)) Ag))))))))))),?_⟩
  have hs:sizeLine=16777216:=sizeLine_eq;dsimp only[tSeq,tAsg];refine MX hS hI rfl rfl hn fun H1 z s1 hz1 hz2=>?_;dsimp only[gName,tSeq,tAsg];refine Mb (hS.same s1) hI (s1 _ _ ha) ht rfl fun H2 q bs s2 hq hB=>?_
  have hbv:(z != 0)=bvOf es (howOf n):=by
   unfold bvOf;cases hv:(howOf n).value with
   |true=>rw[hz1 hv,Bool.true_and]
   |false=>rw[hz2 hv];rfl
  rw[hbv]at hB
  have hFl:(cF es (howOf n) t).length<=10000:=by
   unfold cF;rw[length_map];have:=Ce hI t;omega
  have hB:LsAt (ItAt D.item) H2 bs (cF es (howOf n) t):=hB;refine NW hq hB hFl hn rfl fun H3 m s3 hm=>?_;have hq3:=s3 _ _ hq;have hB3:=hB.mono fun b x h=>h.same s3;have s03:=s1.trans (s2.trans s3);have hol:=E6 (howOf n) (cF es (howOf n) t);refine⟨_,rfl,_,rfl,_,rfl,q,m,bs,cF es (howOf n) t,outs (howOf n) (cF es (howOf n) t),z,lv1 es (howOf n) (Lo.items es t) (outs (howOf n) (cF es (howOf n) t)),rfl,hq3,hB3,hm,hol.symm,hFl,KU _ _ _,Lb hz1,KJ,fun H4 r0 s4 hr0 hr4=>?_⟩;refine⟨(by show 1<=sizeLine;decide),fun R hR=>?_⟩;have nr0R:r0≠R:=Ai hr4 hR;have s5:Same H4 (aj H4 R (.lst [V.ref r0])):=ae hR;have hR5:(aj H4 R (.lst [V.ref r0])) R=some (.lst ([r0].map V.ref)):=Ae;generalize aj H4 R (.lst [V.ref r0])=H5 at s5 hR5;refine⟨(by show 2<=sizeLine;decide),fun tt htt=>?_⟩;have s6:Same H5 (aj H5 tt (.tup (nv [1,2]))):=ae htt;have ht6:(aj H5 tt (.tup (nv [1,2]))) tt=some (.tup (nv [1,2])):=Ae;have hR3:H3 R=none:=s4.free hR
  refine⟨tt,rfl,⟨_,ab ht6⟩,GJ (K:=K) (a:=tt) (xs:=nv [1,2]) (fun i Z H'=>∃rs v7,Z=[some (.ref sc),some (.int (n:Int)),some (.ref a),some (.int (z:Int)),some (.ref q),some (.ref m),some (.ref R),v7,none,none]/\Same H3 H'/\H' tt=some (.tup (nv [1,2]))/\H' R=some (.lst (rs.map V.ref))/\
    LsAt RowAt H' rs ([row1 es (howOf n) t,row2 es (howOf n) t,row3 es (howOf n) t].take (i+1))/\rs.Nodup/\R∉rs/\∀r∈rs,H3 r=none)
   ⟨[r0],none,rfl,s4.trans (s5.trans s6),ht6,s6 _ _ hR5,LsAt.snoc (bs:=[]) (xs:=[]) LsAt.nil (s6 _ _ (s5 _ _ hr4)),(by simp),(by simp;exact fun z=>nr0R z.symm),(by intro r hr;cases mem_singleton.mp hr;exact hr0)⟩ (fun i Z H' _ ⟨_,_,_,_,h,_⟩=>ab h) ?_ ?_⟩
  .rintro i y Z H7 hi ⟨rs,v7,rfl,s7,ht7,hR7,hL7,nd7,hRn,hf7⟩;obtain⟨j,hj,rfl⟩:=BO hi
   have turn:∀(f:Lo.Weight->Nat),(∀x,(wv x)[j]? =some (V.int (f x:Int)))->[row1 es (howOf n) t,row2 es (howOf n) t,row3 es (howOf n) t].take (i+1+1)=[row1 es (howOf n) t,row2 es (howOf n) t,row3 es (howOf n) t].take (i+1)++[wrow f ((cF es (howOf n) t).zip (outs (howOf n) (cF es (howOf n) t)))]->rs.length<=2->∀D0:Ends,(∀Z' H',(∃rs v7,Z'=[some (.ref sc),some (.int (n:Int)),some (.ref a),some (.int (z:Int)),some (.ref q),some (.ref m),some (.ref R),v7,none,none]/\Same H3 H'/\H' tt=some (.tup (nv [1,2]))/\H' R=some (.lst (rs.map V.ref))/\
     LsAt RowAt H' rs ([row1 es (howOf n) t,row2 es (howOf n) t,row3 es (howOf n) t].take (i+1+1))/\rs.Nodup/\R∉rs/\∀r∈rs,H3 r=none)->D0.nx Z' H')->
     tDrop (tBM K "list" rAppend (tVar 6) (tCons (tCall (spWR D) [] E0 (tCons (tVar 4) (tCons (tVar 5) (tCons (tVar 7) tNil)))) tNil)) D0 [some (.ref sc),some (.int (n:Int)),some (.ref a),some (.int (z:Int)),some (.ref q),some (.ref m),some (.ref R),some (.int (j:Int)),none,none] H7:=by
    intro f hf htk hrl D0 hn0;refine⟨_,rfl,.inl ⟨rfl,_,aa hR7⟩,_,rfl,_,rfl,_,rfl,q,m,bs,cF es (howOf n) t,outs (howOf n) (cF es (howOf n) t),j,f,rfl,s7 _ _ hq3,(hB3.mono fun b x h=>h.same s7),s7 _ _ hm,hol.symm,hFl,hf,fun H8 r s8 hr0 hr8=>?_⟩;have hR8:=s8 _ _ hR7;have ht8:=s8 _ _ ht7;refine⟨R,_,_,rfl,rfl,hR8,(by rw[length_map];omega),hn0 _ _ ?_⟩;rw[Bw];have sb:SameBut R H8 (aj H8 R (.lst ((rs++[r]).map V.ref))):=af;have hR9:(aj H8 R (.lst ((rs++[r]).map V.ref))) R=some (.lst ((rs++[r]).map V.ref)):=Ae;generalize aj H8 R (.lst ((rs++[r]).map V.ref))=H9 at sb hR9;have nrR:r≠R:=(Ai hR7 hr0).symm;refine⟨rs++[r],_,rfl,ag (s7.trans s8) sb hR3,sb _ _ ht8 (AC ht8 hR8 (fun z=>HO.noConfusion z)),hR9,?_,?_,?_,?_⟩
    .rw[htk];exact(hL7.monoM fun b x hb h=>sb _ _ (s8 _ _ h) (fun z=>hRn (z▸hb))).snoc (sb _ _ hr8 nrR)
    .rw[List.nodup_append];refine⟨nd7,by simp,fun b hb c hc e=>?_⟩;cases mem_singleton.mp hc;obtain⟨l,hl⟩:=hL7.some hb;rw[e,hr0]at hl;cases hl
    .rw[mem_append,mem_singleton];exact fun z=>z.elim hRn fun z=>nrR z.symm
    .intro b hb;rcases mem_append.mp hb with z|z
     .exact hf7 b z
     .cases mem_singleton.mp z;exact s7.free hr0
   have hrl:=hL7.1;rw[length_take]at hrl
   have hi2:i=0\/i=1:=by
    have:i<2:=(List.getElem?_eq_some_iff.mp hj).1;omega
   rcases hi2 with rfl|rfl
   .have hj1:j=1:=(Option.some.inj hj).symm;subst hj1;exact turn (fun x=>x.second) (fun x=>rfl) rfl (by omega) _ fun Z' H' h=>h
   .have hj1:j=2:=(Option.some.inj hj).symm;subst hj1;exact turn (fun x=>x.third) (fun x=>rfl) rfl (by omega) _ fun Z' H' h=>h
  .rintro Z H7 ⟨rs,v7,rfl,s7,ht7,hR7,hL7,nd7,hRn,hf7⟩;have hL7:LsAt RowAt H7 rs [row1 es (howOf n) t,row2 es (howOf n) t,row3 es (howOf n) t]:=hL7;have er:=DW es (howOf n) t;dsimp only[tIfS];refine EF (n:=n) rfl (CW n hn).2.2.1 _ ?_;cases hv:(howOf n).back with
   |false=>
    rw[hv]at er;refine iteF (LJ s7 hq3 hB3 hFl (s03 _ _ ha) ht hn rfl hR7 hR3 hL7 rfl hRn hf7 fun H' p ts s' hp0 hp hts hts0=>k H' p ts (s03.trans s') (s03.free hp0) hp ?_ fun r hr=>s03.free (hts0 r hr));rw[er];exact hts
   |true=>
    rw[hv]at er;obtain⟨ra,rb,rc,rfl⟩:=three hL7.1;have hrb:H7 rb=some (.lst (nv (row2 es (howOf n) t))):=hL7.2 1 rb _ rfl rfl;refine iteT ⟨_,rfl,R,_,_,_,rfl,rfl,aa hR7,AA (j:=1) (v:=V.ref rb) rfl rfl,.inl ⟨rfl,_,aa hrb⟩,rb,_,rfl,rfl,hrb,?_⟩;have sb:SameBut rb H7 (aj H7 rb (.lst (nv (row2 es (howOf n) t)).reverse)):=af
    have hb8:(aj H7 rb (.lst (nv (row2 es (howOf n) t)).reverse)) rb=some (.lst (nv (row2 es (howOf n) t).reverse)):=by
     rw[Ae];unfold nv;rw[List.map_reverse]
    generalize aj H7 rb (.lst (nv (row2 es (howOf n) t)).reverse)=H8 at sb hb8;simp only[nodup_cons,mem_cons,List.not_mem_nil,or_false,not_or]at nd7 hRn
    have hL8:LsAt RowAt H8 [ra,rb,rc] [row1 es (howOf n) t,(row2 es (howOf n) t).reverse,row3 es (howOf n) t]:=by
     refine⟨rfl,fun i b x h1 h2=>?_⟩
     match i,h1,h2 with
     |0,h1,h2=>cases h1;cases h2;exact sb _ _ (hL7.2 0 ra _ rfl rfl) nd7.1.1
     |1,h1,h2=>cases h1;cases h2;exact hb8
     |2,h1,h2=>cases h1;cases h2;exact sb _ _ (hL7.2 2 rc _ rfl rfl) (fun z=>nd7.2.1 z.symm)
     |i+3,h1,h2=>cases h1
    have s8:Same H3 H8:=ag s7 sb (hf7 rb (by simp));refine LJ s8 hq3 hB3 hFl (s03 _ _ ha) ht hn rfl (sb _ _ hR7 hRn.2.1) hR3 hL8 rfl (by simp;exact hRn) hf7 fun H' p ts s' hp0 hp hts hts0=>k H' p ts (s03.trans s') (s03.free hp0) hp ?_ fun r hr=>s03.free (hts0 r hr);rw[er];exact hts
def runM:Option (List Nat)->Nat
 |none=>0
 |some d=>d.length+2
theorem Ei(o:Lo.Order)(r:Option (List Nat)):(Lo.runOf o r).length<=runM r:=by
 cases r with
 |none=>exact le_refl _
 |some d=>exact Dx _ d
theorem Cn(o:Lo.Order)(h:Lo.How):∀(l:List (Option Lo.Item))(r:Option (List Nat)),(level1 o h r l).length<=runM r+3 * l.length
 |[],r=>by rw[EJ];have:=Ei o r;omega
 |none::l,r=>by
  rw[LO,length_append,length_cons];have h1:=Ei o r;have h2:=Cn o h l none;have:runM none=0:=rfl;omega
 |some x::l,r=>by
  rw[BW,length_cons];split
  .have h2:=Cn o h l (some (r.getD []++[x.digit.getD 0]))
   have h3:runM (some (r.getD []++[x.digit.getD 0]))<=runM r+3:=by
    cases r with
    |none=>exact le_refl _
    |some d=>show(d++[x.digit.getD 0]).length+2<=d.length+2+3;rw[length_append];show d.length+1+2<=_;omega
   omega
  .rw[length_append,length_append];have h1:=Ei o r;have h2:=Cn o h l none;have h4:(notZero [x.w.first]).length<=1:=length_filter_le _ _;have:runM none=0:=rfl;omega
theorem HJ{es:Lo.Order}(I:LM.OInv es)(h:Lo.How)(t:List Nat):∀l∈Lo.rowsOf es h t,l.length<=15 * t.length:=by
 intro l hl;rw[DW]at hl;have hl:=List.mem_of_mem_take hl;have hi:=Ce I t;have hF:(cF es h t).length=(Lo.items es t).length:=by unfold cF;rw[length_map]
 have hz:((cF es h t).zip (outs h (cF es h t))).length<=(Lo.items es t).length:=by rw[List.length_zip];omega
 simp only[mem_cons,List.not_mem_nil,or_false]at hl;have h2:(row2 es h t).length<=(Lo.items es t).length:=le_trans (Fi _ _) hz;rcases hl with rfl|rfl|rfl|rfl
 .unfold row1 lv1;have:=Cn es h ((zipWith put (Lo.items es t) (outs h (cF es h t))).drop 0) none;rw[drop_zero]at this⊢;rw[List.length_zipWith]at this;have hm:runM none=0:=rfl;omega
 .split
  .rw[List.length_reverse];omega
  .omega
 .have h3:(row3 es h t).length<=(Lo.items es t).length:=le_trans (Fi _ _) hz;omega
 .unfold row4;split
  .unfold lrow;rw[length_map];have:=length_filter_le (fun(x:Lo.Item)=>x.w.first != 0) (cF es h t);omega
  .rw[length_map];omega
theorem HK(es:Lo.Order)(h:Lo.How)(t:List Nat):(Lo.rowsOf es h t).length<=4:=by
 rw[DW,length_take];show min _ 4<=4;omega
theorem Gg:∀(l:List (List Nat))(x:List Nat),joinRows (l++[x])=joinRows l++(if l=[] then [] else [0])++x
 |[],x=>rfl
 |[y],x=>by
  show y++0::x=y++[0]++x;rw[append_assoc];rfl
 |y::z::l,x=>by
  have ih:=Gg (z::l) x;rw[if_neg (by intro e;cases e)]at ih;rw[if_neg (by intro e;cases e)];show y++0::joinRows (z::l++[x])=y++0::joinRows (z::l)++[0]++x;rw[ih];simp
theorem Fj(m:Nat):∀(l:List (List Nat)),(∀x∈l,x.length<=m)->(joinRows l).length<=l.length * (m+1)
 |[],_=>zero_le _
 |[y],h=>by
  have:=h y mem_cons_self;show y.length<=1 * (m+1);omega
 |y::z::l,h=>by
  have h1:=h y mem_cons_self;have h2:=Fj m (z::l) fun x hx=>h x (mem_cons_of_mem _ hx);show(y++0::joinRows (z::l)).length<=((z::l).length+1) * (m+1);rw[length_append,length_cons,Nat.add_mul];omega
theorem JE{es:Lo.Order}(I:LM.OInv es)(h:Lo.How)(t:List Nat):(Lo.key es h t).length<=4 * (15 * t.length+1):=by
 unfold Lo.key;refine le_trans (Fj (15 * t.length) _ (HJ I h t)) ?_;exact Nat.mul_le_mul_right _ (HK es h t)
theorem scTK:FnScope ["scale","way","text","key","level","row"] ["scale","way","text"] (defScope (top 33)):=fsc
def spTK(D:Ad):Sp:=fun vs H Q _=>∃(sc a:Addr)(es:Lo.Order)(n:Nat)(t:List Nat),vs=[.ref sc,.int (n:Int),.ref a]/\ScAt D H sc es/\LM.OInv es/\H a=some (.lst (nv t))/\t.length<=1000/\n<32/\newRow H (Lo.key es (howOf n) t) Q
theorem EV(T:TxL K mg D):Ok P w K mg base 6 "text_key" ["scale","way","text"] (spTK D):=by
 have GV:=M8 (P:=P) (w:=w) (base:=base) T;refine T.textKey.ok scTK (fun vs H Q E h=>?_) (fun f cdv A outer s H vs Q E hr h=>?_)
 .obtain⟨sc,a,es,n,t,rfl,_⟩:=h;rfl
 .obtain⟨sc,a,es,n,t,rfl,hS,hI,ha,ht,hn,k⟩:=h
  refine⟨_,Ab (Al (i:=3) scTK.nd rfl (inl rfl) (As Ac))
   (Ab (Ba PassesOwn.never rfl (Gr (by rfl) T.enum (Aa (pc GV hr (Aa (pv 0) (Aa (pv 1) (Aa (pv 2) Ac)))) Ac)) (Ef rfl (Bf (At (i:=4) scTK.nd rfl (inl rfl)) (Bf (At (i:=5) scTK.nd rfl (inl rfl)) Db)))
    (Ab (Av (An HH (pv 4) Ag (nomark _)) (Af (Au (AR plainAttrs_list PySem.F.slot_list_append PySem.F.type_list_append AD (pv 3) (Aa Ag Ac)))) Ao)
    (Af (Au (AR plainAttrs_list slot_list_extend type_list_extend Br (pv 3) (Aa (pv 5) Ac))))))
   (Af (Aj (pv 3)))),?_⟩
  have hs:sizeLine=16777216:=sizeLine_eq;refine⟨zero_le _,fun q hq=>?_⟩;have sq:Same H (aj H q (.lst [])):=ae hq;have hq0:(aj H q (.lst [])) q=some (.lst []):=Ae;generalize aj H q (.lst [])=H0 at sq hq0;refine⟨_,rfl,_,rfl,_,rfl,sc,a,es,n,t,rfl,hS.same sq,hI,sq _ _ ha,ht,hn,fun H1 l rs s1 hl0 hl1 hL hrs0=>?_⟩;have hrw:=HJ hI (howOf n) t;have hfew:=HK es (howOf n) t;have hky:Lo.key es (howOf n) t=joinRows (Lo.rowsOf es (howOf n) t):=rfl;rw[hky]at k;generalize Lo.rowsOf es (howOf n) t=ls at hL hrw hfew k;have nlq:l≠q:=(Ai hq0 hl0).symm;have hrq:∀r∈rs,r≠q:=fun r hr z=>by have:=hrs0 r hr;rw[z,hq0]at this;cases this
  have hA0:Acc H H1 q []:=⟨hq,sq.trans s1,s1 _ _ hq0⟩
  refine⟨l,_,rfl,aa hl1,Fy (K:=K) (a:=l) (xs:=rs.map V.ref) (fun i Z H'=>∃v4 v5,Z=[some (.ref sc),some (.int (n:Int)),some (.ref a),some (.ref q),v4,v5]/\Acc H H' q (joinRows (ls.take i))/\H' l=some (.lst (rs.map V.ref))/\LsAt RowAt H' rs ls)
   ⟨none,none,rfl,hA0,hl1,hL⟩ (fun i Z H' _ ⟨_,_,_,_,h,_⟩=>aa h) ?_ ?_⟩
  .rintro i y Z H2 Tt hi ⟨v4,v5,rfl,A1,hl2,hL2⟩ hT;obtain⟨b,hb,rfl⟩:=AU hi;have hil:i<ls.length:=by rw[<-hL.1];exact(List.getElem?_eq_some_iff.mp hb).1
   obtain⟨x,hx⟩:∃x,ls[i]? =some x:=⟨_,getElem?_eq_getElem hil⟩;have hxl:=hrw x (mem_of_getElem? hx);have hbq:=hrq b (mem_of_getElem? hb);have st:Same H2 (aj H2 Tt (.tup [.int (i:Nat),.ref b])):=ae hT;refine⟨Tt,_,rfl,ab Ae,rfl,_,_,rfl,_,_,rfl,rfl,?_⟩;generalize aj H2 Tt (.tup [.int (i:Nat),.ref b])=H3 at st;have A3:=A1.same' st;have hl3:=st _ _ hl2;have hL3:=hL2.mono fun b x h=>st _ _ h;have htk:ls.take (i+1)=ls.take i++[x]:=by rw[take_add_one,hx];rfl
   have hjl:(joinRows (ls.take i)).length<=4 * 15001:=by
    refine le_trans (Fj 15000 _ fun z hz=>?_) ?_
    .have:=hrw z (List.mem_of_mem_take hz);omega
    .rw[length_take];exact Nat.mul_le_mul_right _ (by omega)
   have fin:∀(H4:Hp)(acc:List Nat),Acc H H4 q acc->acc.length<=4 * 15001+1->acc++x=joinRows (ls.take (i+1))->H4 l=some (.lst (rs.map V.ref))->LsAt RowAt H4 rs ls->∀D0:Ends,(∀Z' H',(∃v4 v5,Z'=[some (.ref sc),some (.int (n:Int)),some (.ref a),some (.ref q),v4,v5]/\Acc H H' q (joinRows (ls.take (i+1)))/\H' l=some (.lst (rs.map V.ref))/\LsAt RowAt H' rs ls)->D0.nx Z' H')->
     tDrop (tBM K "list" rExtend (tVar 3) (tCons (tVar 5) tNil)) D0 [some (.ref sc),some (.int (n:Int)),some (.ref a),some (.ref q),some (.int (i:Int)),some (.ref b)] H4:=by
    intro H4 acc A4 hal e4 hl4 hL4 D0 hn0;refine⟨_,rfl,.inl ⟨rfl,_,aa A4.at_⟩,_,rfl,q,b,_,_,rfl,rfl,A4.at_,hL4.2 i b x hb hx,(by rw[Aq,Aq];omega),hn0 _ _ ?_⟩;rw[<-Bi,e4];exact⟨_,_,rfl,A4.put,by rw[Am nlq];exact hl4,hL4.monoM fun c z hc h=>by show(aj _ _ _) c=_;rw[Am (hrq c hc)];exact h⟩
   dsimp only[gName,tSeq,tIfS];refine AZ (Ah rfl) ev_c _ ?_;have ej:=Gg (ls.take i) x;rw[<-htk]at ej;by_cases hi0:i=0
   .subst hi0;refine iteF (fin H3 _ A3 (by omega) ?_ hl3 hL3 _ fun Z' H' h=>h);rw[ej,List.take_zero,if_pos rfl,append_nil]
   .have hne:ls.take i≠[]:=by
     intro z;have:=congrArg List.length z;rw[length_take,length_nil]at this;omega
    have:decide ((0:Int)<(i:Int))=true:=decide_eq_true (by omega);rw[this];refine iteT ⟨_,rfl,.inl ⟨rfl,_,aa A3.at_⟩,q,_,_,rfl,rfl,A3.at_,(by rw[Aq];omega),?_⟩;have e4:nv (joinRows (ls.take i))++[V.int 0]=nv (joinRows (ls.take i)++[0]):=by rw[Bi];rfl
    rw[e4];refine fin _ (joinRows (ls.take i)++[0]) A3.put (by rw[length_append];show _+1<=_;omega) (by rw[ej,if_neg hne]) (by rw[Am nlq];exact hl3) (hL3.monoM fun c z hc h=>by show(aj _ _ _) c=_;rw[Am (hrq c hc)];exact h) _ fun Z' H' h=>h
  .rintro Z H2 ⟨v4,v5,rfl,A1,_⟩;refine⟨_,rfl,k H2 q A1.same hq ?_⟩;have:=A1.at_;rw[length_map,hL.1,take_length]at this;exact this
end LP
namespace LP
theorem Eu:∀(x y A B:List Nat),(∀z∈x,0<z)->(∀z∈y,0<z)->rowCmp (x++0::A) (y++0::B)=if rowCmp x y=0 then rowCmp A B else rowCmp x y
 |[],[],A,B,_,_=>by
  show(if 0<0 then(-1:Int) else if 0<0 then 1 else rowCmp A B)=if(0:Int)=0 then rowCmp A B else 0;simp
 |[],d::y,A,B,_,hy=>by
  have:=hy d mem_cons_self;show(if 0<d then(-1:Int) else _)=if(-1:Int)=0 then _ else -1;rw[if_pos this,if_neg (by decide)]
 |c::x,[],A,B,hx,_=>by
  have:=hx c mem_cons_self;show(if c<0 then(-1:Int) else if 0<c then 1 else _)=if(1:Int)=0 then _ else 1;rw[if_neg (by omega),if_pos this,if_neg (by decide)]
 |c::x,d::y,A,B,hx,hy=>by
  have ih:=Eu x y A B (fun z hz=>hx z (mem_cons_of_mem _ hz)) (fun z hz=>hy z (mem_cons_of_mem _ hz));show(if c<d then(-1:Int) else if d<c then 1 else rowCmp (x++0::A) (y++0::B))=if(if c<d then(-1:Int) else if d<c then 1 else rowCmp x y)=0 then rowCmp A B else(if c<d then(-1:Int) else if d<c then 1 else rowCmp x y);by_cases h1:c<d
  .rw[if_pos h1,if_pos h1,if_neg (by decide)]
  .rw[if_neg h1,if_neg h1];by_cases h2:d<c
   .rw[if_pos h2,if_pos h2,if_neg (by decide)]
   .rw[if_neg h2,if_neg h2,ih]
theorem Ik:∀(X Y:List (List Nat)),X.length=Y.length->(∀r∈X,∀z∈r,0<z)->(∀r∈Y,∀z∈r,0<z)->rowCmp (joinRows X) (joinRows Y)=Lo.rowsCmp X Y
 |[],[],_,_,_=>rfl
 |[],_::_,h,_,_=>by cases h
 |_::_,[],h,_,_=>by cases h
 |[x],[y],_,_,_=>by
  show rowCmp x y=if rowCmp x y=0 then 0 else rowCmp x y;split
  .assumption
  .rfl
 |[_],_::_::_,h,_,_=>by cases h
 |_::_::_,[_],h,_,_=>by cases h
 |x::x2::X,y::y2::Y,h,hx,hy=>by
  have ih:=Ik (x2::X) (y2::Y) (Nat.succ.inj h) (fun r hr=>hx r (mem_cons_of_mem _ hr)) (fun r hr=>hy r (mem_cons_of_mem _ hr));show rowCmp (x++0::joinRows (x2::X)) (y++0::joinRows (y2::Y))=if rowCmp x y=0 then Lo.rowsCmp (x2::X) (y2::Y) else rowCmp x y;rw[Eu _ _ _ _ (hx x mem_cons_self) (hy y mem_cons_self),ih]
theorem Kn{z:Nat}(hz:0<z)(d:List Nat):∀y∈valueRow z d,0<y:=by
 intro y hy;unfold valueRow at hy;have hy:y∈z::((d.dropWhile fun(x:Nat)=>x==0).length+1)::(d.dropWhile fun(x:Nat)=>x==0).map fun(x:Nat)=>x+1:=hy;rcases mem_cons.mp hy with e|hy
 .rw[e];exact hz
 .rcases mem_cons.mp hy with e|hy
  .rw[e];exact succ_pos _
  .obtain⟨c,_,e⟩:=mem_map.mp hy;rw[<-e];exact succ_pos _
theorem Ie(l:List Nat):∀y∈notZero l,0<y:=by
 intro y hy;unfold notZero at hy;have:=(mem_filter.mp hy).2;have:=bne_iff_ne.mp this;omega
theorem Cl(o:Lo.Order)(h:Lo.How):∀(l:List (Option Lo.Item))(r:Option (List Nat)),(r.isSome=true->0<zeroWeight o)->∀y∈level1 o h r l,0<y
 |l,r,hr=>by
  have hrun:∀y∈Lo.runOf o r,0<y:=by
   cases r with
   |none=>intro y hy;cases hy
   |some d=>exact Kn (hr rfl) d
  match l with
  |[]=>rw[EJ];exact hrun
  |none::l=>
   rw[LO];intro y hy;rcases mem_append.mp hy with e|e
   .exact hrun y e
   .exact Cl o h l none (fun z=>by cases z) y e
  |some x::l=>
   rw[BW];split
   .rename_i hb;refine Cl o h l _ fun _=>?_;unfold Lo.byValue at hb;rw[and_eq_true,and_eq_true]at hb;have:=bne_iff_ne.mp hb.1.2;omega
   .intro y hy;rcases mem_append.mp hy with e|e
    .rcases mem_append.mp e with e|e
     .exact hrun y e
     .exact Ie _ y e
    .exact Cl o h l none (fun z=>by cases z) y e
theorem EN(f:Lo.Weight->Nat)(l:List (Lo.Item×Bool)):∀y∈wrow f l,0<y:=by
 intro y hy;unfold wrow at hy;obtain⟨c,hc,e⟩:=mem_map.mp hy;have:=(mem_filter.mp hc).2;rw[and_eq_true]at this;have:=bne_iff_ne.mp this.1;omega
theorem Ip(es:Lo.Order)(h:Lo.How)(t:List Nat):∀r∈Lo.rowsOf es h t,∀y∈r,0<y:=by
 intro r hr;rw[DW]at hr;have hr:=List.mem_of_mem_take hr;simp only[mem_cons,List.not_mem_nil,or_false]at hr;rcases hr with rfl|rfl|rfl|rfl
 .unfold row1 lv1;exact Cl es h _ none fun z=>by cases z
 .split
  .intro y hy;exact EN _ _ y (List.mem_reverse.mp hy)
  .exact EN _ _
 .exact EN _ _
 .unfold row4;split
  .intro y hy;unfold lrow at hy;obtain⟨c,hc,e⟩:=mem_map.mp hy;have:=bne_iff_ne.mp (mem_filter.mp hc).2;split at e
   .omega
   .rw[<-e];decide
  .intro y hy;obtain⟨c,_,e⟩:=mem_map.mp hy;omega
theorem Ct(es:Lo.Order)(h:Lo.How)(t:List Nat):(Lo.rowsOf es h t).length=min h.levels 4:=by
 rw[DW,length_take];rfl
theorem CA(es:Lo.Order)(h:Lo.How)(a b:List Nat):rowCmp (Lo.key es h a) (Lo.key es h b)=Lo.compare es h a b:=by
 unfold Lo.key Lo.compare;exact Ik _ _ (by rw[Ct,Ct]) (Ip es h a) (Ip es h b)
theorem Hd:∀a:List Nat,rowCmp a a=0
 |[]=>rfl
 |x::a=>by
  show(if x<x then(-1:Int) else if x<x then 1 else rowCmp a a)=0;rw[if_neg (lt_irrefl _),if_neg (lt_irrefl _),Hd a]
theorem Hh:∀a b:List Nat,rowCmp b a= - rowCmp a b
 |[],[]=>rfl
 |[],_::_=>rfl
 |_::_,[]=>rfl
 |x::a,y::b=>by
  show(if y<x then(-1:Int) else if x<y then 1 else rowCmp b a)= -(if x<y then(-1:Int) else if y<x then 1 else rowCmp a b);by_cases h1:x<y
  .rw[if_neg (by omega),if_pos h1,if_pos h1];rfl
  .rw[if_neg h1,if_neg h1];by_cases h2:y<x
   .rw[if_pos h2,if_pos h2]
   .rw[if_neg h2,if_neg h2,Hh a b]
theorem DJ:∀a b:List Nat,rowCmp a b= -1\/rowCmp a b=0\/rowCmp a b=1
 |[],[]=>.inr (.inl rfl)
 |[],_::_=>.inl rfl
 |_::_,[]=>.inr (.inr rfl)
 |x::a,y::b=>by
  show(if x<y then(-1:Int) else if y<x then 1 else rowCmp a b)= -1\/(if x<y then(-1:Int) else if y<x then 1 else rowCmp a b)=0\/(if x<y then(-1:Int) else if y<x then 1 else rowCmp a b)=1;split
  .exact .inl rfl
  .split
   .exact .inr (.inr rfl)
   .exact DJ a b
theorem EL:∀{a b:List Nat},rowCmp a b=0->a=b
 |[],[],_=>rfl
 |[],_::_,h=>by cases h
 |_::_,[],h=>by cases h
 |x::a,y::b,h=>by
  have h:(if x<y then(-1:Int) else if y<x then 1 else rowCmp a b)=0:=h;split at h
  .cases h
  .split at h
   .cases h
   .rw[EL h,show x=y by omega]
theorem Cf:∀{a b c:List Nat},rowCmp a b<0->rowCmp b c<0->rowCmp a c<0
 |_,[],[],_,h=>absurd h (by decide)
 |_,_::_,[],_,h=>absurd h (by show¬(1:Int)<0;decide)
 |[],_,_::_,_,_=>by show(-1:Int)<0;decide
 |_::_,[],_::_,h,_=>absurd h (by show¬(1:Int)<0;decide)
 |x::a,y::b,z::c,h1,h2=>by
  have h1:(if x<y then(-1:Int) else if y<x then 1 else rowCmp a b)<0:=h1;have h2:(if y<z then(-1:Int) else if z<y then 1 else rowCmp b c)<0:=h2;show(if x<z then(-1:Int) else if z<x then 1 else rowCmp a c)<0;by_cases q:x<z
  .rw[if_pos q];decide
  rw[if_neg q];by_cases q1:x<y
  .by_cases q2:y<z
   .omega
   .rw[if_neg q2]at h2;by_cases q3:z<y
    .rw[if_pos q3]at h2;exact absurd h2 (by decide)
    .omega
  .rw[if_neg q1]at h1;by_cases q2:y<x
   .rw[if_pos q2]at h1;exact absurd h1 (by decide)
   rw[if_neg q2]at h1;by_cases q3:y<z
   .omega
   rw[if_neg q3]at h2;by_cases q4:z<y
   .rw[if_pos q4]at h2;exact absurd h2 (by decide)
   rw[if_neg q4]at h2;rw[if_neg (by omega)];exact Cf h1 h2
def Ahead(K:Nat->List Nat)(i j:Nat):Prop:=rowCmp (K i) (K j)<0\/K i=K j/\i<j
theorem Ahead.trans{K:Nat->List Nat}{i j k:Nat}(h1:Ahead K i j)(h2:Ahead K j k):Ahead K i k:=by
 rcases h1 with a|⟨a,b⟩
 .rcases h2 with c|⟨c,d⟩
  .exact .inl (Cf a c)
  .exact .inl (c▸a)
 .rcases h2 with c|⟨c,d⟩
  .exact .inl (a▸c)
  .exact .inr ⟨a.trans c,by omega⟩
theorem Ahead.irrefl{K:Nat->List Nat}{i:Nat}(h:Ahead K i i):False:=by
 rcases h with a|⟨_,a⟩
 .rw[Hd]at a;exact absurd a (by decide)
 .exact lt_irrefl _ a
theorem Ahead.only{K:Nat->List Nat}:∀{a b:List Nat},a.Pairwise (Ahead K)->b.Pairwise (Ahead K)->(∀i,i∈a↔i∈b)->a=b
 |[],[],_,_,_=>rfl
 |[],y::b,_,_,h=>absurd ((h y).mpr mem_cons_self) (by simp)
 |x::a,[],_,_,h=>absurd ((h x).mp mem_cons_self) (by simp)
 |x::a,y::b,ha,hb,h=>by
  obtain⟨a1,a2⟩:=pairwise_cons.mp ha;obtain⟨b1,b2⟩:=pairwise_cons.mp hb
  have e:x=y:=by
   rcases mem_cons.mp ((h x).mp mem_cons_self)with e|m1
   .exact e
   rcases mem_cons.mp ((h y).mpr mem_cons_self)with e|m2
   .exact e.symm
   exact((b1 x m1).trans (a1 y m2)).irrefl.elim
  subst e;rw[Ahead.only a2 b2 fun i=>⟨fun m=>?_,fun m=>?_⟩]
  .rcases mem_cons.mp ((h i).mp (mem_cons_of_mem _ m))with e|q
   .subst e;exact(a1 i m).irrefl.elim
   .exact q
  .rcases mem_cons.mp ((h i).mpr (mem_cons_of_mem _ m))with e|q
   .subst e;exact(b1 i m).irrefl.elim
   .exact q
section
variable{o:Lo.Order}{h:Lo.How}{l:List Lo.Chars}{K:Nat->List Nat}
theorem Gz{i:Nat}:∀{r:List Nat}{j:Nat},j∈putText o h l i r↔j=i\/j∈r
 |[],j=>by unfold putText;simp
 |k::r,j=>by
  unfold putText;split
  .simp
  .rw[mem_cons,Gz,mem_cons];constructor
   .rintro (e|e|e)<;>simp[e]
   .rintro (e|e|e)<;>simp[e]
theorem Gm(hK:∀i j,Lo.compare o h (l.getD i []) (l.getD j [])=rowCmp (K i) (K j)){i:Nat}:∀{r:List Nat},(∀j∈r,j<i)->r.Pairwise (Ahead K)->(putText o h l i r).Pairwise (Ahead K)
 |[],_,_=>by unfold putText;exact List.pairwise_singleton _ _
 |k::r,hl,hp=>by
  obtain⟨p1,p2⟩:=pairwise_cons.mp hp;unfold putText;rw[hK];split
  .rename_i q;refine pairwise_cons.mpr ⟨fun j hj=>?_,hp⟩;rcases mem_cons.mp hj with e|hj
   .subst e;exact .inl q
   .exact Ahead.trans (.inl q) (p1 j hj)
  .rename_i q;refine pairwise_cons.mpr ⟨fun j hj=>?_,Gm hK (fun j hj=>hl j (mem_cons_of_mem _ hj)) p2⟩;rcases Gz.mp hj with e|hj
   .subst e;have s:=Hh (K k) (K j);rcases DJ (K k) (K j)with e|e|e
    .exact .inl (by rw[e];decide)
    .exact .inr ⟨EL e,hl k mem_cons_self⟩
    .exact absurd (show rowCmp (K j) (K k)<0 by rw[s,e];decide) q
   .exact p1 j hj
theorem Eb(hK:∀i j,Lo.compare o h (l.getD i []) (l.getD j [])=rowCmp (K i) (K j)):∀n:Nat,((List.range n).foldl (fun(r:List Nat)(i:Nat)=>putText o h l i r) []).Pairwise (Ahead K)/\∀j,j∈(List.range n).foldl (fun(r:List Nat)(i:Nat)=>putText o h l i r) []↔j<n
 |0=>⟨List.Pairwise.nil,fun j=>by simp⟩
 |n+1=>by
  obtain⟨p,m⟩:=Eb hK n;rw[List.range_succ,List.foldl_append];refine⟨Gm hK (fun j hj=>(m j).mp hj) p,fun j=>?_⟩;show j∈putText o h l n _↔_;rw[Gz,m];omega
theorem Kk(hK:∀i j,Lo.compare o h (l.getD i []) (l.getD j [])=rowCmp (K i) (K j)){r:List Nat}(hp:r.Pairwise (Ahead K))(hm:∀j,j∈r↔j<l.length):r=Lo.sorted o h l:=
 Ahead.only hp (Eb hK l.length).1 fun j=>(hm j).trans ((Eb hK l.length).2 j).symm
end
end LP
namespace LP
open LoCalls (textsIn)
theorem Fl:∀(f:Nat)(l:List Nat),l.length<f->textsIn f l=textsIn (l.length+1) l
 |0,_,h=>absurd h (Nat.not_lt_zero _)
 |_+1,[],_=>by unfold textsIn;rfl
 |f+1,n::r,h=>by
  show(if r.length<n then none else match textsIn f (r.drop n)with
   |some l=>some (r.take n::l)
   |none=>none)=if r.length<n then none else match textsIn (r.length+1) (r.drop n)with
   |some l=>some (r.take n::l)
   |none=>none
  have hl:(r.drop n).length<=r.length:=by rw[length_drop];omega
  have h:r.length+1<f+1:=h;rw[Fl f (r.drop n) (by omega)];by_cases e:r.length+1=(r.drop n).length+1
  .rw[e]
  .rw[Fl (r.length+1) (r.drop n) (by omega)]
termination_by f=>f
def tin(l:List Nat):Option (List Lo.Chars):=textsIn (l.length+1) l
theorem Jt:tin []=some []:=rfl
theorem La(n:Nat)(r:List Nat):tin (n::r)=if r.length<n then none else(tin (r.drop n)).map fun x=>r.take n::x:=by
 show(if r.length<n then none else match textsIn (r.length+1) (r.drop n)with
   |some l=>some (r.take n::l)
   |none=>none)=_
 rw[Fl (r.length+1) (r.drop n) (by rw[length_drop];omega)];show _=if r.length<n then none else(textsIn ((r.drop n).length+1) (r.drop n)).map _;cases textsIn ((r.drop n).length+1) (r.drop n)<;>rfl
theorem K6{l:List Nat}{p:Nat}{n:Nat}(h:l[p]? =some n):tin (l.drop p)=if l.length<p+1+n then none else(tin (l.drop (p+1+n))).map fun x=>(l.drop (p+1)).take n::x:=by
 have hp:p<l.length:=by
  rcases Nat.lt_or_ge p l.length with q|q
  .exact q
  .rw[List.getElem?_eq_none q]at h;cases h
 rw[getElem?_eq_getElem hp]at h;rw[drop_eq_getElem_cons hp,Option.some.inj h,La,drop_drop];by_cases e:l.length<p+1+n
 .rw[if_pos e,if_pos (by rw[length_drop];omega)]
 .rw[if_neg e,if_neg (by rw[length_drop];omega)]
theorem EE:∀(b a:List Nat),b.isPrefixOf a=decide (a.take b.length=b)
 |[],a=>by simp
 |x::b,[]=>by simp
 |x::b,y::a=>by
  rw[List.isPrefixOf_cons₂,EE b a,length_cons,List.take_succ_cons];by_cases e:x=y
  .subst e;simp
  .have:¬y=x:=fun q=>e q.symm;simp[e,this]
end LP
namespace LP
open PySem PySem.Spec L2 PyProof.Rows
open PySem.SeqAt
open PySem.AutoSeq1 (wpAny_loadPart')
open PySem.MeetsSeq PySem.MeetsSeq2 PySem.MeetsSeq3
def cmpI:CmpOp->Int->Int->Bool
 | .Lt,x,y=>decide (x<y)
 | .LtE,x,y=>decide (x<=y)
 | .Gt,x,y=>decide (y<x)
 |_,x,y=>decide (y<=x)
def lexBy(op:CmpOp):List Int->List Int->Bool
 |x::xs,y::ys=>if x=y then lexBy op xs ys else cmpI op x y
 |xs,ys=>cmpI op xs.length ys.length
def OpC(op:CmpOp)(c:Nat):Prop:=op= .Lt/\c=0\/op= .LtE/\c=1\/op= .Gt/\c=4\/op= .GtE/\c=5
theorem NB{op:CmpOp}{c:Nat}(ho:OpC op c)(A:Around)(s:Shared)(a:Int)(t:Tok)(b:Int)(u:Tok)(prog:Program)(w:World)(E:Value->Shared->Prop)(Q:Value->Shared->Prop)(h:Q (.bool (cmpI op a b)) s):
  wpAny (model prog w) A (richCompare op (.int a t) (.int b u)) Q E s:=by
 rcases ho with ⟨rfl,_⟩|⟨rfl,_⟩|⟨rfl,_⟩|⟨rfl,_⟩
 .exact(PyProof.Rows.lt_int h:wpAny (model prog w) A (compareOp .Lt (.int a t) (.int b u)) Q E s)
 .exact(PyProof.Rows.le_int h:wpAny (model prog w) A (compareOp .LtE (.int a t) (.int b u)) Q E s)
 .exact(PyProof.Rows.gt_int h:wpAny (model prog w) A (compareOp .Gt (.int a t) (.int b u)) Q E s)
 .exact(PyProof.Rows.ge_int h:wpAny (model prog w) A (compareOp .GtE (.int a t) (.int b u)) Q E s)
theorem Hb:∀{us:List Value}{ns:List Int},IntsAre us ns->∀i:Nat,us[i]? =none/\ns[i]? =none\/∃a t,us[i]? =some (.int a t)/\ns[i]? =some a
 |_,_,.nil,i=>.inl ⟨by simp,by simp⟩
 |_,_,.cons a t h,0=>.inr ⟨a,t,by simp,by simp⟩
 |_,_,.cons a t h,i+1=>by simpa using Hb h i
theorem MU{op:CmpOp}{ns ms:List Int}{i:Nat}(h:ns.length<=i\/ms.length<=i)(he:ns.take i=ms.take i):lexBy op (ns.drop i) (ms.drop i)=cmpI op ns.length ms.length:=by
 have q:∀x y:List Int,x=[]\/y=[]->lexBy op x y=cmpI op x.length y.length:=by
  intro x y h
  match x,y,h with
  |[],_,_=>rfl
  |_::_,[],_=>rfl
  |_::_,_::_,.inl z=>cases z
  |_::_,_::_,.inr z=>cases z
 have p1:=congrArg List.length he;rw[length_take,length_take]at p1;rw[q _ _ (h.imp (fun z=>List.drop_eq_nil_iff.mpr z) fun z=>List.drop_eq_nil_iff.mpr z),length_drop,length_drop];have e1:min i ns.length=min i ms.length:=p1;cases op<;>simp only[cmpI,decide_eq_decide]<;>omega
set_option maxHeartbeats 900000 in
theorem Lm{op:CmpOp}{c:Nat}(ho:OpC op c)(l b:Addr)(xs ys:Array Value)(n n2:Nat)(d1 d2:Option Addr)(s1 s2:Array (Option Value)){ns ms:List Int}(h1:IntsAre xs.toList ns)(h2:IntsAre ys.toList ms)(k:Nat):
  ∀i:Nat,xs.size - i=k->ns.take i=ms.take i->Meets (Builtin.«list.__eq__.loop» ⟨[.ref l,.ref b,rawInt i,rawInt c],[]⟩)
   (fun A R s=>s.heap.get? l=some {cls:=.type "list",dict:=d1,data:=.seq xs n,slots:=s1}/\s.heap.get? b=some {cls:=.type "list",dict:=d2,data:=.seq ys n2,slots:=s2}/\
    R (.ok (.ret (.bool (lexBy op (ns.drop i) (ms.drop i))))) s):=by
 have z1:xs.size=ns.length:=by rw[<-h1.length];simp
 have z2:ys.size=ms.length:=by rw[<-h2.length];simp
 have fin:∀i:Nat,(xs.size<=i\/ys.size<=i)->ns.take i=ms.take i->Meets (Builtin.«list.__eq__.loop» ⟨[.ref l,.ref b,rawInt i,rawInt c],[]⟩)
   (fun A R s=>s.heap.get? l=some {cls:=.type "list",dict:=d1,data:=.seq xs n,slots:=s1}/\s.heap.get? b=some {cls:=.type "list",dict:=d2,data:=.seq ys n2,slots:=s2}/\
    R (.ok (.ret (.bool (lexBy op (ns.drop i) (ms.drop i))))) s):=by
  intro i hi he prog w A R s h;obtain⟨p1,p2,h⟩:=h;obtain⟨hp,g,d,tk,os⟩:=s;rw[MU (by rw[<-z1,<-z2];exact hi) he,<-z1,<-z2]at h
  have hn:xs[((i:Nat):Int).toNat]? =none\/ys[((i:Nat):Int).toNat]? =none:=by
   rcases hi with z|z
   .exact .inl (by simp;omega)
   .exact .inr (by simp;omega)
  rcases ho with ⟨rfl,rfl⟩|⟨rfl,rfl⟩|⟨rfl,rfl⟩|⟨rfl,rfl⟩<;>
  .wp_walk using wpAny_loadPart' p1,wpAny_loadPart' p2
   rcases hn with z|z
   .rw[z];generalize ys[((i:Nat):Int).toNat]? =q
    wp_walk using wpAny_loadPart' p1,wpAny_loadPart' p2
    refine Eq.mp (congrArg (fun v=>R (Except.ok (Flow.ret v)) _) ?_) h;exact congrArg Value.bool (decide_eq_decide.mpr (by omega))
   .rw[z];generalize xs[((i:Nat):Int).toNat]? =q;cases q<;>
    .wp_walk using wpAny_loadPart' p1,wpAny_loadPart' p2
     refine Eq.mp (congrArg (fun v=>R (Except.ok (Flow.ret v)) _) ?_) h;exact congrArg Value.bool (decide_eq_decide.mpr (by omega))
 induction k with
 |zero=>exact fun i hk he=>fin i (.inl (by omega)) he
 |succ k ih=>
  intro i hk he;by_cases hi2:ys.size<=i
  .exact fin i (.inr hi2) he
  intro prog w A R s h;obtain⟨p1,p2,h⟩:=h;obtain⟨hp,g,d,tk,os⟩:=s;rcases Hb h1 i with ⟨_,e⟩|⟨x,t,e1,f1⟩
  .rw[List.getElem?_eq_none_iff]at e;omega
  rcases Hb h2 i with ⟨_,e⟩|⟨y,u,e2,f2⟩
  .rw[List.getElem?_eq_none_iff]at e;omega
  have i1:xs[((i:Nat):Int).toNat]? =some (.int x t):=by simpa using e1
  have i2:ys[((i:Nat):Int).toNat]? =some (.int y u):=by simpa using e2
  obtain⟨l1,g1⟩:=List.getElem?_eq_some_iff.mp f1;obtain⟨l2,g2⟩:=List.getElem?_eq_some_iff.mp f2
  have hd:lexBy op (ns.drop i) (ms.drop i)=if x=y then lexBy op (ns.drop (i+1)) (ms.drop (i+1)) else cmpI op x y:=by
   rw[drop_eq_getElem_cons l1,drop_eq_getElem_cons l2,g1,g2];rfl
  rw[hd]at h;have hc:((i:Int)+1)=((i+1:Nat):Int):=(Int.natCast_succ i).symm;have ri:=NB ho A.in1 ⟨hp,g,d,tk,os⟩ x t y u prog w
  have he':x=y->ns.take (i+1)=ms.take (i+1):=by
   intro q;rw[List.take_succ_eq_append_getElem l1,List.take_succ_eq_append_getElem l2,g1,g2,he,q]
  rcases ho with ⟨rfl,rfl⟩|⟨rfl,rfl⟩|⟨rfl,rfl⟩|⟨rfl,rfl⟩<;>
  .wp_walk using wpAny_loadPart' p1,wpAny_loadPart' p2
   rw[i1,i2];refine wpAny_bind (EqAt.int_int x t y u prog w _ _ ?_);by_cases q:x=y
   .rw[if_pos q]at h;have qb:(x==y)=true:=by simp[q]
    rw[qb]
    wp_walk
    rw[hc];refine⟨plainId_quiet plain_eq_loop _,codeAny_builtin entry_eq_loop ?_⟩;rw[Around.under_plainId plain_eq_loop];exact ih (i+1) (by omega) (he' q) prog w A R _ ⟨p1,p2,h⟩
   .rw[if_neg q]at h;have qb:(x==y)=false:=by simp[q]
    rw[qb]
    wp_walk using wpAny_loadPart' p1,wpAny_loadPart' p2
    rw[i1,i2]
    wp_walk using ri
    exact h
section
variable(l b:Addr)(xs ys:Array Value)(n n2:Nat)(d1 d2:Option Addr)(s1 s2:Array (Option Value)){ns ms:List Int}(h1:IntsAre xs.toList ns)(h2:IntsAre ys.toList ms)
def LB(op:CmpOp):Builtin:=match op with
 | .Lt=>Builtin.«list.__lt__»
 | .LtE=>Builtin.«list.__le__»
 | .Gt=>Builtin.«list.__gt__»
 |_=>Builtin.«list.__ge__»
theorem Hu{op:CmpOp}{c:Nat}(ho:OpC op c)(h1:IntsAre xs.toList ns)(h2:IntsAre ys.toList ms):Meets (LB op ⟨[.ref l,.ref b],[]⟩)
   (fun A R s=>s.heap.get? l=some {cls:=.type "list",dict:=d1,data:=.seq xs n,slots:=s1}/\s.heap.get? b=some {cls:=.type "list",dict:=d2,data:=.seq ys n2,slots:=s2}/\
    R (.ok (.ret (.bool (lexBy op ns ms)))) s):=by
 intro prog w A R s h;obtain⟨p1,p2,h⟩:=h;obtain⟨hp,g,d,tk,os⟩:=s;have fl:=AutoSeq1.sub_list_list;have m:=Lm ho l b xs ys n n2 d1 d2 s1 s2 h1 h2 _ 0 rfl rfl prog w A R ⟨hp,g,d,tk,os⟩ ⟨p1,p2,h⟩;rcases ho with ⟨rfl,rfl⟩|⟨rfl,rfl⟩|⟨rfl,rfl⟩|⟨rfl,rfl⟩<;>
 .unfold LB;dsimp only
  wp_walk using wpAny_loadPart' p1,wpAny_loadPart' p2
  refine⟨plainId_quiet plain_eq_loop _,codeAny_builtin entry_eq_loop ?_⟩;rw[Around.under_plainId plain_eq_loop];exact m
end
section
variable{prog:Program}{w:World}{A:Around}{E:Value->Shared->Prop}{s:Shared}
theorem Kf{op:CmpOp}{c:Nat}(ho:OpC op c){l b:Addr}{items items2:Array Value}{ns ms:List Int}{Q:Value->Shared->Prop}(hl:PlainL s.heap l items)(hb:PlainL s.heap b items2)(hi:IntsAre items.toList ns)(hj:IntsAre items2.toList ms)
  (hu:A.units<cLine) (h:Q (.bool (lexBy op ns ms)) s):wpAny (model prog w) A (compareOp op (.ref l) (.ref b)) Q E s:=by
 obtain⟨⟨cls,dd,data,sl⟩,n,ho1,hc,hd,he⟩:=id hl;obtain⟨⟨cls2,dd2,data2,sl2⟩,n2,ho2,hc2,hd2,he2⟩:=id hb;simp only at hc hd hc2 hd2 he he2;subst hc hd hc2 hd2 he he2;have m:=Hu l b items items2 n n2 none none sl sl2 ho hi hj;have q:Value.bool (lexBy op ns ms)≠Value.notImplemented/\Q (.bool (lexBy op ns ms)) s:=⟨(fun x=>nomatch x),h⟩;rcases ho with ⟨rfl,rfl⟩|⟨rfl,rfl⟩|⟨rfl,rfl⟩|⟨rfl,rfl⟩
 .exact richCompare_meets_room (op:=.Lt) ⟨_,ho1,rfl⟩ ⟨_,ho2,rfl⟩ PySem.F.slot_list_lt PySem.F.entry_list_lt (PySem.F.args_list_lt_2 _ _) m ⟨ho1,ho2,q⟩ hu
 .exact richCompare_meets_room (op:=.LtE) ⟨_,ho1,rfl⟩ ⟨_,ho2,rfl⟩ PySem.F.slot_list_le PySem.F.entry_list_le (PySem.F.args_list_le_2 _ _) m ⟨ho1,ho2,q⟩ hu
 .exact richCompare_meets_room (op:=.Gt) ⟨_,ho1,rfl⟩ ⟨_,ho2,rfl⟩ PySem.F.slot_list_gt PySem.F.entry_list_gt (PySem.F.args_list_gt_2 _ _) m ⟨ho1,ho2,q⟩ hu
 .exact richCompare_meets_room (op:=.GtE) ⟨_,ho1,rfl⟩ ⟨_,ho2,rfl⟩ PySem.F.slot_list_ge PySem.F.entry_list_ge (PySem.F.args_list_ge_2 _ _) m ⟨ho1,ho2,q⟩ hu
end
def rCmpL(K:Frag)(op:CmpOp):R2:=fun x y H Q=>∃a b ns ms,x= .ref a/\y= .ref b/\SqL K H a (ns.map V.int)/\SqL K H b (ms.map V.int)/\Q (.bl (lexBy op ns ms)) H
theorem Cj{X:Cx}{op:CmpOp}{c:Nat}(ho:OpC op c)(hu:X.A.units<cLine):OpR X (compareOp op) (rCmpL X.K op):=by
 intro pins s Z H x y v u Q I rx ry h;obtain⟨a,b,ns,ms,rfl,rfl,ha,hb,q⟩:=h;cases rx;cases ry;obtain⟨its,r1,p1,_⟩:=I.list ha;obtain⟨its2,r2,p2,_⟩:=I.list hb;exact Kf ho p1 p2 (Dh r1) (Dh r2) hu ⟨.bl (lexBy op ns ms),H,I,rfl,q⟩
end LP
namespace LP
open PySem
theorem E5{op:CmpOp}(ho:∃c,OpC op c):∀a b:List Nat,lexBy op (a.map fun(n:Nat)=>(n:Int)) (b.map fun(n:Nat)=>(n:Int))=cmpI op (rowCmp a b) 0
 |[],[]=>by obtain⟨c,⟨rfl,_⟩|⟨rfl,_⟩|⟨rfl,_⟩|⟨rfl,_⟩⟩:=ho<;>rfl
 |[],y::b=>by
  show cmpI op 0 (((y::b).map fun(n:Nat)=>(n:Int)).length:Nat)=cmpI op (-1) 0;rw[length_map,length_cons];obtain⟨c,⟨rfl,_⟩|⟨rfl,_⟩|⟨rfl,_⟩|⟨rfl,_⟩⟩:=ho<;>simp only[cmpI,decide_eq_decide]<;>omega
 |x::a,[]=>by
  show cmpI op (((x::a).map fun(n:Nat)=>(n:Int)).length:Nat) 0=cmpI op 1 0;rw[length_map,length_cons];obtain⟨c,⟨rfl,_⟩|⟨rfl,_⟩|⟨rfl,_⟩|⟨rfl,_⟩⟩:=ho<;>simp only[cmpI,decide_eq_decide]<;>omega
 |x::a,y::b=>by
  have ih:=E5 ho a b;show(if(x:Int)=(y:Int) then lexBy op (a.map fun(n:Nat)=>(n:Int)) (b.map fun(n:Nat)=>(n:Int)) else cmpI op x y)=cmpI op (if x<y then(-1:Int) else if y<x then 1 else rowCmp a b) 0;by_cases e:x=y
  .rw[if_pos (by omega),if_neg (by omega),if_neg (by omega),ih]
  .rw[if_neg (by omega)];by_cases q:x<y
   .rw[if_pos q];obtain⟨c,⟨rfl,_⟩|⟨rfl,_⟩|⟨rfl,_⟩|⟨rfl,_⟩⟩:=ho<;>simp only[cmpI,decide_eq_decide]<;>omega
   .rw[if_neg q,if_pos (by omega)];obtain⟨c,⟨rfl,_⟩|⟨rfl,_⟩|⟨rfl,_⟩|⟨rfl,_⟩⟩:=ho<;>simp only[cmpI,decide_eq_decide]<;>omega
theorem Jn(a b:List Nat):lexBy .Lt (a.map fun(n:Nat)=>(n:Int)) (b.map fun(n:Nat)=>(n:Int))=decide (rowCmp a b<0):=E5 ⟨0,.inl ⟨rfl,rfl⟩⟩ a b
theorem Om(a b:List Nat):lexBy .Gt (a.map fun(n:Nat)=>(n:Int)) (b.map fun(n:Nat)=>(n:Int))=decide (0<rowCmp a b):=E5 ⟨4,.inr (.inr (.inl ⟨rfl,rfl⟩))⟩ a b
theorem Nh(a b:List Nat):lexBy .LtE (a.map fun(n:Nat)=>(n:Int)) (b.map fun(n:Nat)=>(n:Int))=decide (rowCmp a b<=0):=E5 ⟨1,.inr (.inl ⟨rfl,rfl⟩)⟩ a b
theorem Os(a b:List Nat):lexBy .GtE (a.map fun(n:Nat)=>(n:Int)) (b.map fun(n:Nat)=>(n:Int))=decide (0<=rowCmp a b):=E5 ⟨5,.inr (.inr (.inr ⟨rfl,rfl⟩))⟩ a b
end LP
namespace LP
open PySem PySem.W PyProof.Rows
def ask{α:Type}(lt:Nat->Nat->Bool):KasT α->α
 | .ret a=>a
 | .ask i j k=>ask lt (k (lt i j))
theorem Cb{α β:Type}(lt:Nat->Nat->Bool)(f:α->KasT β):∀t:KasT α,ask lt (t.bind f)=ask lt (f (ask lt t))
 | .ret _=>rfl
 | .ask i j k=>Cb lt f (k (lt i j))
def Bd{α:Type}(n:Nat)(P:α->Prop):KasT α->Prop
 | .ret a=>P a
 | .ask i j k=>i<n/\j<n/\∀b,Bd n P (k b)
theorem Bd.bind{α β:Type}{n:Nat}{P:α->Prop}{R:β->Prop}{f:α->KasT β}(hf:∀a,P a->Bd n R (f a)):∀{t:KasT α},Bd n P t->Bd n R (t.bind f)
 | .ret a,h=>hf a h
 | .ask _ _ k,h=>⟨h.1,h.2.1,fun b=>Bd.bind hf (h.2.2 b)⟩
theorem Bd.wp{α:Type}{n:Nat}{P:α->Prop}{cmp:Nat->Nat->(Bool->Shared->Prop)->Shared->Prop}{lt:Nat->Nat->Bool}{s:Shared}(hc:∀(i j:Nat)(C:Bool->Shared->Prop),i<n->j<n->C (lt i j) s->cmp i j C s){Q:α->Shared->Prop}:
  ∀{t:KasT α},Bd n P t->Q (ask lt t) s->t.kasWp cmp Q s
 | .ret _,_,q=>q
 | .ask i j k,h,q=>hc i j _ h.1 h.2.1 (Bd.wp hc (h.2.2 (lt i j)) q)
def Lows(n:Nat)(p:Array Nat):Prop:=0<n/\∀x∈p,x<n
theorem Lows.at{n:Nat}{p:Array Nat}(h:Lows n p)(i:Nat):p.getD i 0<n:=by
 rw[Array.getD_eq_getD_getElem?];cases e:p[i]? with
 |none=>exact h.1
 |some x=>exact h.2 x (Array.mem_of_getElem? e)
theorem Lows.perm{n:Nat}{p q:Array Nat}(h:Lows n p)(e:q.Perm p):Lows n q:=⟨h.1,fun x hx=>h.2 x (e.mem_iff.mp hx)⟩
theorem Lows.rev{n:Nat}{p:Array Nat}(h:Lows n p)(i j:Nat):Lows n (kas_rev p i j):=h.perm (mirror_perm _ _ _ _)
theorem Lows.bub{n:Nat}{p:Array Nat}(h:Lows n p)(i j:Nat):Lows n (bubble p i j):=h.perm (bubble_perm _ _ _)
section
variable{n:Nat}
theorem IZ{p:Array Nat}(h:Lows n p):∀f m:Nat,Bd n (fun _=>True) (kas_asc p f m)
 |0,m=>trivial
 |f+1,m=>⟨h.at _,h.at _,fun b=>by
  cases b with
  |true=>exact trivial
  |false=>exact IZ h f (m+1)⟩
theorem EI:∀(f:Nat){p:Array Nat}(_:Lows n p)(m q:Nat),Bd n (fun r=>Lows n r.1) (kas_desc f p m q)
 |0,p,h,m,q=>h
 |f+1,p,h,m,q=>⟨h.at _,h.at _,fun b=>by
  cases b with
  |true=>
   show Bd n _ (if q>0 then kas_desc f (kas_rev p (m - (q+1)) m) (m+1) 0 else kas_desc f p (m+1) 0);split
   .exact EI f (h.rev _ _) _ _
   .exact EI f h _ _
  |false=>exact⟨h.at _,h.at _,fun c=>by
    cases c with
    |true=>exact h
    |false=>exact EI f h _ _⟩⟩
theorem Ir{p:Array Nat}(h:Lows n p)(m r:Nat):Bd n (fun r=>Lows n r.2) (kas_tail3 m r p):=by
 unfold kas_tail3;refine Bd.bind (P:=fun _=>True) (fun a _=>?_) (IZ (h.rev 0 m) _ _);exact h.rev 0 m
theorem Ey{p:Array Nat}(h:Lows n p)(m r:Nat):Bd n (fun r=>Lows n r.2) (kas_descPart m r p):=Bd.bind (P:=fun r=>Lows n r.1) (fun a ha=>by
 split
 .exact Ir (ha.rev _ _) _ _
 .exact Ir ha _ _) (EI _ h _ _)
theorem L8{p:Array Nat}(h:Lows n p)(r:Nat):Bd n (fun r=>Lows n r.2) (kas_count r p):=Bd.bind (P:=fun _=>True) (fun a _=>by
 split
 .exact h
 .split
  .exact⟨h.at _,h.at _,fun b=>by
    cases b with
    |true=>exact h
    |false=>exact Ey (h.rev _ _) _ _⟩
  .exact Ey h _ _) (IZ h _ _)
theorem FB{p:Array Nat}(h:Lows n p)(k:Nat):∀f l r:Nat,Bd n (fun _=>True) (kas_place p k f l r)
 |0,l,r=>trivial
 |f+1,l,r=>by
  show Bd n _ (if l≥r then KasT.ret l else .ask (p.getD k 0) (p.getD ((l+r) / 2) 0) fun c=>if c=true then kas_place p k f l ((l+r) / 2) else kas_place p k f ((l+r) / 2+1) r);split
  .exact trivial
  .exact⟨h.at _,h.at _,fun b=>by
    cases b with
    |true=>exact FB h k f _ _
    |false=>exact FB h k f _ _⟩
theorem Lv:∀(f:Nat){p:Array Nat}(_:Lows n p)(k:Nat),Bd n (fun _=>True) (kas_bin f p k)
 |0,p,h,k=>trivial
 |f+1,p,h,k=>Bd.bind (P:=fun _=>True) (fun a _=>Lv f (h.bub _ _) _) (FB h k _ _ _)
theorem Je(h:0<n):Lows n (toArray (List.range n)):=⟨h,fun x hx=>by simpa using hx⟩
theorem Mm(h:0<n):Bd n (fun _=>True) (kas_sort n):=Bd.bind (P:=fun r=>Lows n r.2) (fun a ha=>by
 split
 .exact Lv _ ha _
 .exact trivial) (L8 (Je h) n)
end
def ltK(K:Nat->List Nat)(i j:Nat):Bool:=decide (rowCmp (K i) (K j)<0)
section
variable{K:Nat->List Nat}{n x y m:Nat}{p:Array Nat}
theorem Ahead.lt{a b:Nat}(h:ltK K a b=true):Ahead K a b:=.inl (of_decide_eq_true h)
theorem Na{a b:List Nat}(h:¬rowCmp a b<0):rowCmp b a<0\/b=a:=by
 rcases DJ a b with e|e|e
 .exact absurd (by rw[e];decide) h
 .exact .inr (EL e).symm
 .exact .inl (by rw[Hh,e];decide)
theorem Ahead.nlt{a b:Nat}(h:ltK K a b=false)(hi:b<a):Ahead K b a:=by
 rcases Na (of_decide_eq_false h)with e|e
 .exact .inl e
 .exact .inr ⟨e,hi⟩
abbrev at_(p:Array Nat)(i:Nat):Nat:=p.getD i 0
theorem Fo(p:Array Nat)(i:Nat):at_ p i=p[i]?.getD 0:=Array.getD_eq_getD_getElem?
theorem BY{i:Nat}(hx:x<=p.size):at_ (kas_rev p y x) i=if y<=i/\i<x then at_ p (y+x - 1 - i) else at_ p i:=by
 rw[Fo,Fo,Fo];unfold kas_rev;rw[getElem?_mirror_all hx];split<;>rfl
theorem NC{i d:Nat}(hx:x<p.size)(hd:d<=x):at_ (bubble p x d) i=if i=x - d then at_ p x else if x - d<i/\i<=x then at_ p (i - 1) else at_ p i:=by
 rw[Fo,Fo,Fo,Fo,getElem?_bubble hx d hd];split
 .rfl
 .split<;>rfl
structure Pre (K:Nat->List Nat) (n x:Nat) (p:Array Nat):Prop where
 size:p.size=n
 perm:p.Perm (toArray (List.range n))
 rest:∀i,x<=i->i<n->at_ p i=i
 low:∀i,i<x->at_ p i<x
 ord:∀i j,i<j->j<x->Ahead K (at_ p i) (at_ p j)
theorem GZ(lt:Nat->Nat->Bool)(p:Array Nat):∀f m:Nat,m<=ask lt (kas_asc p f m)/\ask lt (kas_asc p f m)<=m+f/\(∀i,m<=i->i<ask lt (kas_asc p f m)->lt (at_ p i) (at_ p (i - 1))=false)/\
  (ask lt (kas_asc p f m)<m+f->lt (at_ p (ask lt (kas_asc p f m))) (at_ p (ask lt (kas_asc p f m) - 1))=true)
 |0,m=>⟨le_refl _,le_refl _,fun i h1 h2=>absurd h2 (by show¬i<m;omega),fun h=>absurd h (by show¬m<m+0;omega)⟩
 |f+1,m=>by
  have e:ask lt (kas_asc p (f+1) m)=if lt (at_ p m) (at_ p (m - 1))=true then m else ask lt (kas_asc p f (m+1)):=by
   show ask lt (if lt (p.getD m 0) (p.getD (m - 1) 0)=true then KasT.ret m else kas_asc p f (m+1))=_;split<;>rfl
  rw[e];cases hb:lt (at_ p m) (at_ p (m - 1))with
  |true=>exact⟨le_refl _,by simp,fun i h1 h2=>absurd h2 (by rw[if_pos rfl];omega),fun _=>by rw[if_pos rfl];exact hb⟩
  |false=>
   rw[if_neg Bool.false_ne_true];obtain⟨h1,h2,h3,h4⟩:=GZ lt p f (m+1);refine⟨by omega,by omega,fun i q1 q2=>?_,fun q=>h4 (by omega)⟩;by_cases hi:i=m
   .rw[hi];exact hb
   .exact h3 i (by omega) q2
theorem Pre.asc(h:Pre K n x p)(h1:1<=x)(hx:x<=n):Pre K n (ask (ltK K) (kas_asc p (n - x) x)) p:=by
 obtain⟨a1,a2,a3,_⟩:=GZ (ltK K) p (n - x) x;generalize ask (ltK K) (kas_asc p (n - x) x)=r at a1 a2 a3
 have lo:∀i,i<r->at_ p i<r:=fun i hi=>by
  by_cases q:i<x
  .have:=h.low i q;omega
  .rw[h.rest i (by omega) (by omega)];exact hi
 refine⟨h.size,h.perm,fun i q1 q2=>h.rest i (by omega) q2,lo,?_⟩;intro i j hij
 induction j with
 |zero=>omega
 |succ j ih=>
  intro hj;by_cases q:j+1<x
  .exact h.ord i (j+1) hij q
  have e:=h.rest (j+1) (by omega) (by omega)
  have lj:at_ p j<j+1:=by
   by_cases q2:j<x
   .have:=h.low j q2;omega
   .rw[h.rest j (by omega) (by omega)];omega
  have st:Ahead K (at_ p j) (at_ p (j+1)):=Ahead.nlt (a3 (j+1) (by omega) hj) (by rw[e];exact lj);by_cases q2:i=j
  .rw[q2];exact st
  .exact(ih (by omega) (by omega)).trans st
structure Fall (K:Nat->List Nat) (n y x:Nat) (p:Array Nat):Prop where
 size:p.size=n
 perm:p.Perm (toArray (List.range n))
 rest:∀i,x<=i->i<n->at_ p i=i
 low:∀i,i<x->at_ p i<x
 yx:y<x
 xn:x<=n
 fst:∀i j,i<j->j<y->Ahead K (at_ p j) (at_ p i)
 lst:∀i j,y<=i->i<j->j<x->Ahead K (at_ p i) (at_ p j)
 same:∀i,y<=i->i<x->K (at_ p i)=K (at_ p (x - 1))
 both:∀i j,i<y->y<=j->j<x->rowCmp (K (at_ p j)) (K (at_ p i))<0
theorem Fall.turn(h:Fall K n y x p)(i j:Nat)(hij:i<j)(hj:j<x):Ahead K (at_ (kas_rev p y x) j) (at_ (kas_rev p y x) i):=by
 have hs:x<=p.size:=by rw[h.size];exact h.xn
 rw[BY hs,BY hs];by_cases c1:j<y
 .rw[if_neg (by omega),if_neg (by omega)];exact h.fst i j hij c1
 .rw[if_pos ⟨by omega,hj⟩];by_cases c2:i<y
  .rw[if_neg (by omega)];exact .inl (h.both i _ c2 (by omega) (by omega))
  .rw[if_pos ⟨by omega,by omega⟩];exact h.lst _ _ (by omega) (by omega) (by omega)
theorem Jv(h:Fall K n y x p)(i:Nat)(hi:i<x):at_ (kas_rev p y x) i<x:=by
 rw[BY (by rw[h.size];exact h.xn)];split
 .exact h.low _ (by omega)
 .exact h.low i hi
theorem Fd(h:Fall K n y x p)(i:Nat)(hi:x<=i)(hn:i<n):at_ (kas_rev p y x) i=i:=by
 rw[BY (by rw[h.size];exact h.xn),if_neg (by omega)];exact h.rest i hi hn
theorem DE:(kas_rev p y x).size=p.size:=mirror_size _ _ _ _
theorem DT{a:Array Nat}(h:p.Perm a):(kas_rev p y x).Perm a:=(mirror_perm _ _ _ _).trans h
theorem Ha(h:x<=y+1):kas_rev p y x=p:=by
 unfold kas_rev mirror;rw[show(x - y) / 2=0 by omega];rfl
theorem Fall.less(h:Fall K n y x p)(hx:x<n)(hl:ltK K (at_ p x) (at_ p (x - 1))=true):Fall K n x (x+1) (kas_rev p y x):=by
 have hyx:=h.yx;have hk:at_ (kas_rev p y x) x=at_ p x:=by rw[BY (by rw[h.size];exact h.xn),if_neg (by omega)]
 have hlt:∀i,i<x->rowCmp (K (at_ p x)) (K (at_ p i))<0:=fun i hi=>by
  have h0:=of_decide_eq_true hl;by_cases c:i<y
  .exact Cf h0 (h.both i (x - 1) c (by omega) (by omega))
  .rw[h.same i (by omega) hi];exact h0
 refine⟨DE.trans h.size,DT h.perm,fun i q1 q2=>Fd h i (by omega) q2,fun i hi=>?_,by omega,by omega,fun i j q1 q2=>h.turn i j q1 q2,fun i j q1 q2 q3=>by omega,fun i q1 q2=>by rw[show i=x+1 - 1 by omega],fun i j q1 q2 q3=>?_⟩
 .by_cases c:i<x
  .have:=Jv h i c;omega
  .rw[Fd h i (by omega) (by omega)];exact hi
 .rw[show j=x by omega,hk,BY (by rw[h.size];exact h.xn)];split
  .exact hlt _ (by omega)
  .exact hlt _ q1
theorem Fall.equal(h:Fall K n y x p)(hx:x<n)(h1:ltK K (at_ p x) (at_ p (x - 1))=false)(h2:ltK K (at_ p (x - 1)) (at_ p x)=false):Fall K n y (x+1) p:=by
 have hyx:=h.yx;have e:=h.rest x (le_refl _) hx
 have ek:K (at_ p (x - 1))=K (at_ p x):=by
  rcases Na (of_decide_eq_false h1)with q|q
  .exact absurd q (of_decide_eq_false h2)
  .exact q
 refine⟨h.size,h.perm,fun i q1 q2=>h.rest i (by omega) q2,fun i hi=>?_,by omega,by omega,h.fst,fun i j q1 q2 q3=>?_,fun i q1 q2=>?_,fun i j q1 q2 q3=>?_⟩
 .by_cases c:i<x
  .have:=h.low i c;omega
  .rw[show i=x by omega,e];omega
 .by_cases c:j<x
  .exact h.lst i j q1 q2 c
  .rw[show j=x by omega];refine .inr ⟨(h.same i q1 (by omega)).trans ek,?_⟩;rw[e];exact h.low i (by omega)
 .rw[Nat.add_sub_cancel];by_cases c:i<x
  .rw[h.same i q1 c,ek]
  .rw[show i=x by omega]
 .by_cases c:j<x
  .exact h.both i j q1 q2 c
  .rw[show j=x by omega,<-ek];exact h.both i (x - 1) q1 (by omega) (by omega)
theorem Fall.run:∀(f x q:Nat)(p:Array Nat),q+1<=x->f=n - x->Fall K n (x - (q+1)) x p->
  Fall K n ((ask (ltK K) (kas_desc f p x q)).2.1 - ((ask (ltK K) (kas_desc f p x q)).2.2+1)) (ask (ltK K) (kas_desc f p x q)).2.1 (ask (ltK K) (kas_desc f p x q)).1
 |0,x,q,p,_,_,h=>h
 |f+1,x,q,p,hq,hf,h=>by
  have e:ask (ltK K) (kas_desc (f+1) p x q)=if ltK K (at_ p x) (at_ p (x - 1))=true then(if q>0 then ask (ltK K) (kas_desc f (kas_rev p (x - (q+1)) x) (x+1) 0) else ask (ltK K) (kas_desc f p (x+1) 0))
    else if ltK K (at_ p (x - 1)) (at_ p x)=true then(p,x,q) else ask (ltK K) (kas_desc f p (x+1) (q+1)):=by
   show ask (ltK K) (if ltK K (p.getD x 0) (p.getD (x - 1) 0)=true then(if q>0 then kas_desc f (kas_rev p (x - (q+1)) x) (x+1) 0 else kas_desc f p (x+1) 0)
    else KasT.ask (p.getD (x - 1) 0) (p.getD x 0) fun d=>if d=true then KasT.ret (p,x,q) else kas_desc f p (x+1) (q+1))=_
   split
   .split<;>rfl
   .show ask (ltK K) (if ltK K (p.getD (x - 1) 0) (p.getD x 0)=true then KasT.ret (p,x,q) else kas_desc f p (x+1) (q+1))=_;split<;>rfl
  rw[e];cases h1:ltK K (at_ p x) (at_ p (x - 1))with
  |true=>
   rw[if_pos rfl];have g:=h.less (by omega) h1;by_cases c:q>0
   .rw[if_pos c];exact Fall.run f (x+1) 0 _ (by omega) (by omega) (by rw[show x+1 - (0+1)=x by omega];exact g)
   .rw[if_neg c];rw[Ha (by omega)]at g;exact Fall.run f (x+1) 0 _ (by omega) (by omega) (by rw[show x+1 - (0+1)=x by omega];exact g)
  |false=>
   rw[if_neg Bool.false_ne_true];cases h2:ltK K (at_ p (x - 1)) (at_ p x)with
   |true=>rw[if_pos rfl];exact h
   |false=>
    rw[if_neg Bool.false_ne_true];exact Fall.run f (x+1) (q+1) _ (by omega) (by omega) (by rw[show x+1 - (q+1+1)=x - (q+1) by omega];exact h.equal (by omega) h1 h2)
theorem FU(hx:x<=n)(h1:1<=x)(hs:p.size=n)(hp:p.Perm (toArray (List.range n)))(hr:∀i,x<=i->i<n->at_ p i=i)(hl:∀i,i<x->at_ p i<x)(ho:∀i j,i<j->j<x->Ahead K (at_ p j) (at_ p i)):
  1<=(ask (ltK K) (kas_tail3 x n p)).1/\(ask (ltK K) (kas_tail3 x n p)).1<=n/\Pre K n (ask (ltK K) (kas_tail3 x n p)).1 (ask (ltK K) (kas_tail3 x n p)).2:=by
 have e:ask (ltK K) (kas_tail3 x n p)=(ask (ltK K) (kas_asc (kas_rev p 0 x) (n - x) x),kas_rev p 0 x):=by
  unfold kas_tail3;rw[Cb];rfl
 rw[e];have hz:x<=p.size:=by rw[hs];exact hx
 have P:Pre K n x (kas_rev p 0 x):=by
  refine⟨DE.trans hs,DT hp,fun i q1 q2=>?_,fun i hi=>?_,fun i j q1 q2=>?_⟩
  .rw[BY hz,if_neg (by omega)];exact hr i q1 q2
  .rw[BY hz,if_pos ⟨by omega,hi⟩];exact hl _ (by omega)
  .rw[BY hz,BY hz,if_pos ⟨by omega,by omega⟩,if_pos ⟨by omega,q2⟩];exact ho _ _ (by omega) (by omega)
 obtain⟨a1,a2,_,_⟩:=GZ (ltK K) (kas_rev p 0 x) (n - x) x;exact⟨by show 1<=ask _ _;omega,by show ask _ _<=n;omega,P.asc h1 hx⟩
theorem DF(h:Fall K n m (m+1) p):1<=(ask (ltK K) (kas_descPart m n p)).1/\(ask (ltK K) (kas_descPart m n p)).1<=n/\Pre K n (ask (ltK K) (kas_descPart m n p)).1 (ask (ltK K) (kas_descPart m n p)).2:=by
 unfold kas_descPart;rw[Cb];have g:=Fall.run (K:=K) (n:=n) (n - (m+1)) (m+1) 0 p (by omega) rfl (by rw[show m+1 - (0+1)=m by omega];exact h);generalize ask (ltK K) (kas_desc (n - (m+1)) p (m+1) 0)=r at g;have hyx:=g.yx;by_cases c:r.2.2>0
 .rw[if_pos c];exact FU g.xn (by omega) (DE.trans g.size) (DT g.perm) (fun i q1 q2=>Fd g i q1 q2) (fun i hi=>Jv g i hi) (fun i j q1 q2=>g.turn i j q1 q2)
 .rw[if_neg c];have t:=g.turn;rw[Ha (by omega)]at t;exact FU g.xn (by omega) g.size g.perm g.rest g.low t
theorem Bv{i:Nat}(h:i<n):at_ (toArray (List.range n)) i=i:=by
 unfold at_;rw[Array.getD_eq_getD_getElem?];simp[h]
theorem MJ(h:0<n):Pre K n 1 (toArray (List.range n)):=
 ⟨by simp,Array.Perm.refl _,fun i _ q=>Bv q,fun i hi=>by rw[Bv (by omega)];exact hi,fun i j q1 q2=>by omega⟩
theorem J4(h:0<n):1<=(ask (ltK K) (kas_count n (toArray (List.range n)))).1/\(ask (ltK K) (kas_count n (toArray (List.range n)))).1<=n/\
  Pre K n (ask (ltK K) (kas_count n (toArray (List.range n)))).1 (ask (ltK K) (kas_count n (toArray (List.range n)))).2:=by
 unfold kas_count;rw[Cb];obtain⟨a1,a2,a3,a4⟩:=GZ (ltK K) (toArray (List.range n)) (n - 1) 1;have P:=(MJ (K:=K) h).asc (le_refl _) h;generalize ask (ltK K) (kas_asc (toArray (List.range n)) (n - 1) 1)=m at a1 a2 a3 a4 P;by_cases c:(m==n)=true
 .rw[if_pos c];exact⟨a1,by show m<=n;omega,P⟩
 rw[if_neg c]
 have hm:m<n:=by
  have:m≠n:=fun z=>c (beq_iff_eq.mpr z);omega
 have hl:=a4 (by omega);rw[Bv hm,Bv (by omega:m - 1<n)]at hl;have hz:(toArray (List.range n)).size=n:=by simp
 have fall:(∀i,i<m->K i=K (m - 1))->Fall K n m (m+1) (kas_rev (toArray (List.range n)) 0 m):=by
  intro eqs
  have e:∀i,i<n->at_ (kas_rev (toArray (List.range n)) 0 m) i=if i<m then m - 1 - i else i:=fun i hi=>by
   rw[BY (by rw[hz];omega)];by_cases q:i<m
   .rw[if_pos ⟨by omega,q⟩,if_pos q,Bv (by omega)];omega
   .rw[if_neg (by omega),if_neg q,Bv hi]
  refine⟨DE.trans hz,DT (Array.Perm.refl _),fun i q1 q2=>by rw[e i q2,if_neg (by omega)],fun i hi=>?_,by omega,hm,fun i j q1 q2=>?_,fun i j q1 q2 q3=>by omega,fun i q1 q2=>by rw[show i=m+1 - 1 by omega],fun i j q1 q2 q3=>?_⟩
  .rw[e i (by omega)];split<;>omega
  .rw[e i (by omega),e j (by omega),if_pos q2,if_pos (by omega:i<m)];exact .inr ⟨(eqs _ (by omega)).trans (eqs _ (by omega)).symm,by omega⟩
  .rw[e i (by omega),e j (by omega),if_neg (by omega:¬j<m),if_pos q1,show j=m by omega,eqs (m - 1 - i) (by omega)];exact of_decide_eq_true hl
 by_cases c1:m>1
 .rw[if_pos c1]
  show 1<=(ask (ltK K) (if ltK K (at_ _ 0) (at_ _ (m - 1))=true then KasT.ret (m,_) else kas_descPart m n (kas_rev _ 0 m))).1/\(ask (ltK K) (if ltK K (at_ _ 0) (at_ _ (m - 1))=true then KasT.ret (m,_) else kas_descPart m n (kas_rev _ 0 m))).1<=n/\
   Pre K n (ask (ltK K) (if ltK K (at_ _ 0) (at_ _ (m - 1))=true then KasT.ret (m,_) else kas_descPart m n (kas_rev _ 0 m))).1 (ask (ltK K) (if ltK K (at_ _ 0) (at_ _ (m - 1))=true then KasT.ret (m,_) else kas_descPart m n (kas_rev _ 0 m))).2
  cases hb:ltK K (at_ (toArray (List.range n)) 0) (at_ (toArray (List.range n)) (m - 1))with
  |true=>rw[if_pos rfl];exact⟨a1,by show m<=n;omega,P⟩
  |false=>
   rw[if_neg Bool.false_ne_true];rw[Bv h,Bv (by omega:m - 1<n)]at hb;refine DF (fall fun i hi=>?_)
   have up:∀i j,i<j->j<m->Ahead K i j:=fun i j q1 q2=>by
    have:=P.ord i j q1 q2;rw[Bv (by omega),Bv (by omega)]at this;exact this
   have le:∀i j,Ahead K i j->rowCmp (K i) (K j)<0\/K i=K j:=fun i j a=>a.imp id fun z=>z.1
   have e0:K 0=K (m - 1):=by
    rcases le 0 (m - 1) (up _ _ (by omega) (by omega))with z|z
    .exact absurd z (of_decide_eq_false hb)
    .exact z
   by_cases q0:i=0
   .rw[q0];exact e0
   by_cases q1:i=m - 1
   .rw[q1]
   rcases le 0 i (up _ _ (by omega) hi)with z|z
   .rcases le i (m - 1) (up _ _ (by omega) (by omega))with z2|z2
    .exact absurd (Cf z z2) (of_decide_eq_false hb)
    .exact z2
   .rw[<-z];exact e0
 .rw[if_neg c1];have f:=fall fun i hi=>by rw[show i=m - 1 by omega]
  rw[Ha (by omega)]at f;exact DF f
theorem FC(h:Pre K n x p)(hx:x<n):∀f l r:Nat,r - l<=f->l<=r->r<=x->(∀i,i<l->ltK K (at_ p x) (at_ p i)=false)->(∀i,r<=i->i<x->ltK K (at_ p x) (at_ p i)=true)->
  ask (ltK K) (kas_place p x f l r)<=x/\(∀i,i<ask (ltK K) (kas_place p x f l r)->ltK K (at_ p x) (at_ p i)=false)/\∀i,ask (ltK K) (kas_place p x f l r)<=i->i<x->ltK K (at_ p x) (at_ p i)=true
 |0,l,r,hf,hl,hr,h1,h2=>⟨by show l<=x;omega,h1,fun i q1 q2=>h2 i (by have q1:l<=i:=q1;omega) q2⟩
 |f+1,l,r,hf,hl,hr,h1,h2=>by
  by_cases c:l≥r
  .have e:ask (ltK K) (kas_place p x (f+1) l r)=l:=by
    show ask (ltK K) (if l≥r then KasT.ret l else _)=l;rw[if_pos c];rfl
   rw[e];exact⟨by omega,h1,fun i q1 q2=>h2 i (by omega) q2⟩
  .have e:ask (ltK K) (kas_place p x (f+1) l r)=if ltK K (at_ p x) (at_ p ((l+r) / 2))=true then ask (ltK K) (kas_place p x f l ((l+r) / 2)) else ask (ltK K) (kas_place p x f ((l+r) / 2+1) r):=by
    show ask (ltK K) (if l≥r then KasT.ret l else KasT.ask (p.getD x 0) (p.getD ((l+r) / 2) 0) fun c=>if c=true then kas_place p x f l ((l+r) / 2) else kas_place p x f ((l+r) / 2+1) r)=_;rw[if_neg c];show ask (ltK K) (if ltK K (p.getD x 0) (p.getD ((l+r) / 2) 0)=true then kas_place p x f l ((l+r) / 2) else kas_place p x f ((l+r) / 2+1) r)=_;split<;>rfl
   rw[e];cases hb:ltK K (at_ p x) (at_ p ((l+r) / 2))with
   |true=>
    rw[if_pos rfl];refine FC h hx f l ((l+r) / 2) (by omega) (by omega) (by omega) h1 fun i q1 q2=>?_;by_cases q:i=(l+r) / 2
    .rw[q];exact hb
    .rcases h.ord ((l+r) / 2) i (by omega) q2 with z|⟨z,_⟩
     .exact decide_eq_true (Cf (of_decide_eq_true hb) z)
     .unfold ltK;rw[<-z];exact hb
   |false=>
    rw[if_neg Bool.false_ne_true];refine FC h hx f ((l+r) / 2+1) r (by omega) (by omega) (by omega) (fun i q1=>?_) h2;by_cases q:i=(l+r) / 2
    .rw[q];exact hb
    .rcases h.ord i ((l+r) / 2) (by omega) (by omega)with z|⟨z,_⟩
     .exact decide_eq_false fun w=>of_decide_eq_false hb (Cf w z)
     .unfold ltK;rw[z];exact hb
theorem Pre.put(h:Pre K n x p)(hx:x<n){l:Nat}(hl:l<=x)(h1:∀i,i<l->ltK K (at_ p x) (at_ p i)=false)(h2:∀i,l<=i->i<x->ltK K (at_ p x) (at_ p i)=true):Pre K n (x+1) (bubble p x (x - l)):=by
 have hz:x<p.size:=by rw[h.size];exact hx
 have ex:=h.rest x (le_refl _) hx
 have e:∀i,at_ (bubble p x (x - l)) i=if i=l then x else if l<i/\i<=x then at_ p (i - 1) else at_ p i:=fun i=>by
  rw[NC hz (by omega),show x - (x - l)=l by omega,ex]
 refine⟨(bubble_size _ _ _).trans h.size,(bubble_perm _ _ _).trans h.perm,fun i q1 q2=>?_,fun i hi=>?_,fun i j q1 q2=>?_⟩
 .rw[e,if_neg (by omega),if_neg (by omega)];exact h.rest i (by omega) q2
 .rw[e];split
  .omega
  .split
   .have:=h.low (i - 1) (by omega);omega
   .have:=h.low i (by omega);omega
 .have low:∀i,i<l->Ahead K (at_ p i) x:=fun i q=>by
   have:=Ahead.nlt (h1 i q) (by rw[ex];exact h.low i (by omega));rw[ex]at this;exact this
  have high:∀i,l<=i->i<x->Ahead K x (at_ p i):=fun i q q'=>by
   have:=Ahead.lt (h2 i q q');rw[ex]at this;exact this
  rw[e i,e j];by_cases ci:i=l
  .rw[if_pos ci,if_neg (by omega),if_pos ⟨by omega,by omega⟩];exact high _ (by omega) (by omega)
  .rw[if_neg ci];by_cases cj:j=l
   .rw[if_pos cj,if_neg (by omega)];exact low i (by omega)
   .rw[if_neg cj];by_cases c1:i<l
    .rw[if_neg (by omega)];by_cases c2:j<l
     .rw[if_neg (by omega)];exact h.ord i j q1 (by omega)
     .rw[if_pos ⟨by omega,by omega⟩];exact h.ord i (j - 1) (by omega) (by omega)
    .rw[if_pos ⟨by omega,by omega⟩,if_pos ⟨by omega,by omega⟩];exact h.ord (i - 1) (j - 1) (by omega) (by omega)
theorem Pre.bin:∀(f x:Nat)(p:Array Nat),f=n - x->Pre K n x p->x<=n->Pre K n n (ask (ltK K) (kas_bin f p x))
 |0,x,p,hf,h,hx=>by
  have:x=n:=by omega
  subst this;exact h
 |f+1,x,p,hf,h,hx=>by
  show Pre K n n (ask (ltK K) ((kas_place p x x 0 x).bind fun l=>kas_bin f (bubble p x (x - l)) (x+1)));rw[Cb];obtain⟨p1,p2,p3⟩:=FC h (by omega) x 0 x (by omega) (zero_le _) (le_refl _) (fun i q=>by omega) (fun i q1 q2=>by omega);exact Pre.bin f (x+1) _ (by omega) (h.put (by omega) p1 p2 p3) (by omega)
theorem Iz(h:0<n):Pre K n n (ask (ltK K) (kas_sort n)):=by
 unfold kas_sort;rw[Cb];obtain⟨c1,c2,P⟩:=J4 (K:=K) h;generalize ask (ltK K) (kas_count n (toArray (List.range n)))=r at c1 c2 P;by_cases c:r.1<n
 .rw[if_pos c,show max r.1 1=r.1 by omega];exact Pre.bin _ r.1 r.2 rfl P c2
 .rw[if_neg c];have:r.1=n:=by omega
  rw[this]at P;exact P
theorem Pre.all(h:Pre K n n p):p.toList.Pairwise (Ahead K)/\∀j,j∈p.toList↔j<n:=by
 constructor
 .rw[List.pairwise_iff_getElem];intro i j hi hj hij;have hi':i<p.size:=by simpa using hi
  have hj':j<p.size:=by simpa using hj
  have:=h.ord i j hij (by rw[<-h.size];exact hj');unfold at_ at this;rw[Array.getD_eq_getD_getElem?,Array.getD_eq_getD_getElem?,Array.getElem?_eq_getElem hi',Array.getElem?_eq_getElem hj']at this;simpa using this
 .intro j;have:=(Array.perm_iff_toList_perm.mp h.perm).mem_iff (a:=j);rw[this];simp
end
end LP
namespace LP
open PySem PySem.Spec PySem.W PySem.Calls PyProof.Rows
section
variable{prog:Program}{w:World}{A:Around}{E:Value->Shared->Prop}{s:Shared}
def IntL(h:Heap)(a:Addr)(ns:List Int):Prop:=∃its:Array Value,PlainL h a its/\IntsAre its.toList ns
def Keep(h h':Heap):Prop:=∀b o,h.get? b=some o->h'.get? b=some o
theorem IntL.keep{h h':Heap}{a:Addr}{ns:List Int}(x:IntL h a ns)(k:Keep h h'):IntL h' a ns:=let ⟨its,p,i⟩:=x;⟨its,p.keeps k,i⟩
theorem NL{l b:Addr}{ns ms:List Int}{Q:Bool->Shared->Prop}(hl:IntL s.heap l ns)(hb:IntL s.heap b ms)(hu:A.units<cLine)(h:Q (lexBy .Lt ns ms) s):wpAny (model prog w) A (keyLt' oneType' (.ref l) (.ref b)) Q E s:=by
 obtain⟨items,hl,hi⟩:=hl;obtain⟨items2,hb,hj⟩:=hb;obtain⟨⟨cls,dd,data,sl⟩,n,ho1,hc,hd,he⟩:=id hl;obtain⟨⟨cls2,dd2,data2,sl2⟩,n2,ho2,hc2,hd2,he2⟩:=id hb;simp only at hc hd hc2 hd2 he he2;subst hc hd hc2 hd2 he he2;have m:=Hu l b items items2 n n2 none none sl sl2 (op:=.Lt) (c:=0) (.inl ⟨rfl,rfl⟩) hi hj;rw[keyLt'_oneType,oneLt'_eq];simp only[if_true];refine wpAny_bind (wpAny_cRoomFor hu ?_);refine wpAny_bind (wpAny_callSpecialIfBound?_slot ⟨_,ho1,rfl⟩ PySem.F.slot_list_lt (call_meets PySem.F.slot_list_lt ⟨_,ho1,rfl⟩ PySem.F.entry_list_lt (PySem.F.args_list_lt_2 _ _) m ⟨ho1,ho2,?_⟩));exact wpAny_truthy_bool h
theorem FE{r:Addr}{t u v:Tok}{n:Nat}{Q:List Value->Shared->Prop}(hh:A.handled=none)(hr:IsRange s.heap r 0 (n:Int) 1 t u v)(hn:n<64)
  (hQ:∀h' tk acc,Keep s.heap h'->s.heap.objs.size<=h'.objs.size->ItemsOf (fun i v=>∃t,v= .int ((0:Int)+(i:Int) * 1) t) acc n->Q acc.toList {s with heap:=h',toks:=tk}):wpAny (model prog w) A (collect (.ref r)) Q E s:=by
 unfold collect;refine wpAny_bind (wpAny_runValue (codeAny_builtin PySem.F.entry_proto_collect ?_));rw[Around.under_plainId PySem.F.plain_proto_collect _];show wpAny _ A.in1 (newList [] >>= fun l=>again (.builtin "list.__iadd__" ⟨[l,.ref r],[]⟩)) _ _ s;refine wpAny_bind (wpAny_newObj_type ?_);refine wpAny_pure ⟨plainId_quiet PySem.F.plain_list_iadd _,codeAny_builtin PySem.F.entry_list_iadd ?_⟩;rw[Around.under_plainId PySem.F.plain_list_iadd _];have hS:(s.heap.push {cls:=.type "list",data:=.seq ([]:List Value).toArray}).get? s.heap.objs.size=some {cls:=.type "list",data:=.seq ([]:List Value).toArray}:=get?_push_size _ rfl
 have hsz:Builtin.Range.rangeSize 0 (n:Int) 1=(n:Int):=by
  rw[rangeSize_one];split<;>omega
 show wpAny _ A.in1 (Builtin.List.listExtendWith (.ref s.heap.objs.size) (.ref r) (.ref s.heap.objs.size)) _ _ _
 refine wpAny_extend_range (A:=A) (R:=fun r s'=>match r with
   | .ok (.ret v)=>wpAny (model prog w) A (match v with
    | .ref a=>(do match(<-load a).data with
     | .seq xs _=>pure xs.toList
     |_=>unsupported "internal:collect")
    |_=>unsupported "internal:collect") Q E s'
   | .ok _=>False
   | .error e=>E e s') (s:={s with heap:=s.heap.push {cls:=.type "list",data:=.seq ([]:List Value).toArray}}) hh (get?_push_of_some _ hr) (small_one (by omega) (by omega) (by omega) (by omega)) hsz (by omega) s.heap.objs.size _ _ hS fun h' tk acc c' hk hS' hacc=>?_
 show wpAny _ A (load s.heap.objs.size>>= _) _ _ _;refine wpAny_bind (wpAny_load hS' ?_);refine wpAny_pure (hQ h' tk acc (fun b o e=>hk b o (ne_of_lt (lt_size e)) (get?_push_of_some _ e)) ?_ hacc);exact Nat.le_of_lt (lt_size hS')
def Order1(K:Nat->List Nat)(n:Nat)(p:List Nat):Prop:=p.Pairwise (Ahead K)/\(∀j,j∈p↔j<n)/\p.length=n
theorem Order1.small{K:Nat->List Nat}{n:Nat}(h:n<2):Order1 K n (List.range n):=by
 refine⟨?_,fun j=>List.mem_range,List.length_range⟩
 match n,h with
 |0,_=>exact List.Pairwise.nil
 |1,_=>exact List.pairwise_singleton _ _
theorem IX{vs:List Value}:(List.range vs.length).map (fun i=>vs.getD i Value.none)=vs:=by
 apply List.ext_getElem?;intro i;rw[getElem?_map];by_cases h:i<vs.length
 .rw[List.getElem?_range h,getElem?_eq_getElem h];simp[h]
 .rw[List.getElem?_eq_none (by simpa using h),List.getElem?_eq_none (by omega)];rfl
theorem JO{h0:Heap}{st:SortSt}{kS a:Addr}{keys:Array Value}{e e1:Nat}{out:List Value}{P:PySem.Fin->Shared->Prop}(K0:Keep h0 s.heap)(hk0:h0.get? kS=none)(ha0:h0.get? a=none)(nk:s.heap.get? kS=some (seqObj "list" keys e))(na:s.heap.get? a=some (seqObj "list" #[] e1))(hka:kS≠a)
  (hz1:keys.size<64) (hz2:out.length<64) (hout:(arrOf st).map (·.2)=toArray out) (hf:failedOf st=none)
  (h:∀h' tk c,Keep h0 h'->h'.get? a=some (seqObj "list" out.toArray c)->P (.done (.ret .none)) {s with heap:=h',toks:=tk}):wpAny (model prog w) A (ksk_tail a false e1 (.ref kS) st) P E s:=by
 have s1:=Heap.SameBut.update s.heap kS (Obj.mapSeq fun _=>(#[]:Array Value));have na1:(s.heap.update kS (Obj.mapSeq fun _=>(#[]:Array Value))).get? a=some (seqObj "list" #[] e1):=(s1.2 a hka.symm).trans na;have s2:=Heap.SameBut.update (s.heap.update kS (Obj.mapSeq fun _=>(#[]:Array Value))) a (Obj.mapSeq fun _=>toArray out);obtain⟨c2,hc2⟩:∃c2,((s.heap.update kS (Obj.mapSeq fun _=>(#[]:Array Value))).update a (Obj.mapSeq fun _=>toArray out)).get? a=some (seqObj "list" (toArray out) c2):=⟨_,get?_update_seq na1 fun _=>toArray out⟩;have nb:∀b o,h0.get? b=some o->b≠kS/\b≠a:=fun b o e=>⟨fun z=>(by rw[z,hk0]at e;cases e),fun z=>(by rw[z,ha0]at e;cases e)⟩;unfold ksk_tail
 try dsimp only
 rw[hout];refine wpAny_bind (listUpdate_at nk rfl ?_ (by rw[sizeLine_eq];omega) (zero_le _));refine wpAny_bind (wpAny_letGo ?_);refine wpAny_bind (seqEpoch_at na1 rfl ?_);simp only[Bool.false_eq_true,if_false];refine wpAny_bind (listUpdate_at na1 rfl ?_ (zero_le _) (by show(toArray out).size<=_;rw[size_toArray,sizeLine_eq];omega));rw[hf];simp only[bne_self_eq_false,Bool.false_eq_true,if_false];refine wpAny_pure (h _ _ c2 (fun b o e=>?_) hc2);exact(s2.2 b (nb b o e).2).trans ((s1.2 b (nb b o e).1).trans (K0 b o e))
theorem Oe{h0:Heap}{K:Nat->List Nat}{ka:Nat->Addr}{vs:List Value}{n:Nat}{kS a:Addr}{e e1:Nat}{P:PySem.Fin->Shared->Prop}(K0:Keep h0 s.heap)(hk0:h0.get? kS=none)(ha0:h0.get? a=none)
  (nk:s.heap.get? kS=some (seqObj "list" ((List.range n).map fun i=>Value.ref (ka i)).toArray e)) (na:s.heap.get? a=some (seqObj "list" #[] e1)) (hka:kS≠a) (hlen:vs.length=n) (hn:n<64) (hu:A.units<cLine)
  (hk:∀i,i<n->IntL h0 (ka i) ((K i).map fun(z:Nat)=>(z:Int)))
  (h:∀h' tk c p,Order1 K n p->Keep h0 h'->h'.get? a=some (seqObj "list" (p.map fun i=>vs.getD i Value.none).toArray c)->P (.done (.ret .none)) {s with heap:=h',toks:=tk}):
  wpAny (model prog w) A (ksk_end a false vs.toArray e1 (.ref kS) ((List.range n).map fun i=>Value.ref (ka i)).toArray) P E s:=by
 have hkl:((List.range n).map fun i=>Value.ref (ka i)).length=vs.length:=by rw[length_map,List.length_range,hlen]
 have hks:(((List.range n).map fun i=>Value.ref (ka i)).toArray).size<64:=by rw[size_toArray,hkl,hlen];exact hn
 unfold ksk_end
 try dsimp only
 simp only[Bool.false_eq_true,if_false];by_cases h2:vs.toArray.size<2
 .rw[if_pos h2,if_pos h2];refine wpAny_bind (wpAny_pure ?_);rw[StateT.run_pure];refine wpAny_bind (wpAny_pure ?_)
  try dsimp only
  rw[size_toArray]at h2;refine JO (h0:=h0) (out:=vs) K0 hk0 ha0 nk na hka hks (by omega) ?_ rfl fun h' tk c k1 k2=>h h' tk c (List.range n) (Order1.small (by omega)) k1 ?_
  .apply Array.toList_inj.mp;show((((List.range n).map fun i=>Value.ref (ka i)).toArray.zip vs.toArray).map (·.2)).toList=vs;rw[Array.toList_map,ksk_zip];exact List.map_snd_zip (by rw[hkl];exact le_refl _)
  .rw[<-hlen,IX];exact k2
 .rw[if_neg h2,if_neg h2];rw[size_toArray]at h2;refine wpAny_bind (kas_kind (T:=.type "list") (by rw[hkl];omega) (fun v hv=>?_) (by decide) (by decide) ?_)
  .obtain⟨i,hi,rfl⟩:=mem_map.mp hv;obtain⟨its,⟨o,c,ho,hc,_⟩,_⟩:=(hk i (List.mem_range.mp hi)).keep K0;rw[<-hc];exact(Looks.ld ho).andThen .now
  refine wpAny_bind (wpAny_mono (kat_run (Q:=fun st' s'=>s'=s/\arrOf st'=(ask (ltK K) (kas_sort n)).map (kas_item (((List.range n).map fun i=>Value.ref (ka i)).toArray.zip vs.toArray))/\failedOf st'=none)
   (G:=fun p s'=>s'=s/\p=ask (ltK K) (kas_sort n)) hkl (by omega) (by omega) (fun p st' s' _ a2 a3 a4=>⟨a4.1,by rw[<-a4.2];exact a2,a3⟩) ?_) ?_ fun _ _ e=>e)
  .rw[hlen];refine Bd.wp (n:=n) (fun i j C hi hj hC=>?_) (Mm (by omega)) ⟨rfl,rfl⟩;unfold kas_ask
   have gd:∀i,i<n->((List.range n).map fun i=>Value.ref (ka i)).getD i Value.none=Value.ref (ka i):=fun i hi=>by
    rw[getD_eq_getElem?_getD,getElem?_map,List.getElem?_range hi];rfl
   rw[gd i hi,gd j hj];refine NL ((hk i hi).keep K0) ((hk j hj).keep K0) hu ?_;rw[Jn];exact hC
  rintro ⟨⟨⟩,st'⟩ s' ⟨rfl,har,hf⟩
  try dsimp only
  have P1:=(Iz (K:=K) (n:=n) (by omega)).all;have hsz:=(Iz (K:=K) (n:=n) (by omega)).size;have hout:=kat_snds hkl har;refine JO (h0:=h0) K0 hk0 ha0 nk na hka hks (by rw[length_map,length_toList,hsz];exact hn) hout hf fun h' tk c k1 k2=>h h' tk c _ ⟨P1.1,P1.2,by rw[length_toList,hsz]⟩ k1 k2
theorem MK{h0:Heap}{K:Nat->List Nat}{ka:Nat->Addr}{vs:List Value}{n:Nat}{kS a f:Addr}{e1:Nat}{P:PySem.Fin->Shared->Prop}(K0:Keep h0 s.heap)(hk0:h0.get? kS=none)(ha0:h0.get? a=none)
  (nk:s.heap.get? kS=some (seqObj "list" #[] 0)) (na:s.heap.get? a=some (seqObj "list" #[] e1)) (hka:kS≠a) (hlen:vs.length=n) (hn:n<64) (hu:A.units<cLine)
  (hk:∀i,i<n->IntL h0 (ka i) ((K i).map fun(z:Nat)=>(z:Int)))
  (turn:∀(i:Nat)(v:Value),vs[i]? =some v->∀(h:Heap)(tk:Nat),Keep h0 h->wpAny (model prog w) A (call (.ref f) [v]) (fun u s'=>u= .ref (ka i)/\∃h' tk',s'={s with heap:=h',toks:=tk'}/\Keep h h') (fun _ _=>False) {s with heap:=h,toks:=tk})
  (h:∀h' tk c p,Order1 K n p->Keep h0 h'->h'.get? a=some (seqObj "list" (p.map fun i=>vs.getD i Value.none).toArray c)->P (.done (.ret .none)) {s with heap:=h',toks:=tk}):
  wpAny (model prog w) A (ksk_rest a (.ref f) false vs.toArray e1 (.ref kS)) P E s:=by
 have nb:∀b o,h0.get? b=some o->b≠kS:=fun b o e z=>by rw[z,hk0]at e;cases e
 unfold ksk_rest;refine wpAny_bind (wpAny_rule ?_)
 first
  |rw[List.forIn_toArray]
  |(rw[<-Array.forIn_toList];simp only[List.toList_toArray])
  |rw[<-Array.forIn_toList]
 refine wpAny_bind (ksk_fold (fun i s'=>∃h' tk e,s'={s with heap:=h',toks:=tk}/\Keep h0 h'/\h'.get? kS=some (seqObj "list" ((List.range i).map fun i=>Value.ref (ka i)).toArray e)/\h'.get? a=some (seqObj "list" #[] e1)) vs 0 s
  ⟨s.heap,s.toks,0,rfl,K0,nk,na⟩ ?step ?done)
 case step=>
  rintro j x s' hx ⟨h',tk,e,rfl,K1,nk1,na1⟩;simp only[Nat.zero_add]at nk1⊢;have hj:j<vs.length:=(List.getElem?_eq_some_iff.mp hx).1;refine wpAny_bind (wpAny_attempt (wpAny_mono (turn j x hx h' tk K1) (fun v s'' he=>?_) fun _ _ hF=>hF.elim));obtain⟨rfl,g,tk2,rfl,K2⟩:=he
  try dsimp only
  have nk2:=K2 _ _ nk1;have s1:=Heap.SameBut.update g kS (Obj.mapSeq (·.push (Value.ref (ka j))));obtain⟨c2,hc2⟩:∃c2,(g.update kS (Obj.mapSeq (·.push (Value.ref (ka j))))).get? kS=some (seqObj "list" (((List.range j).map fun i=>Value.ref (ka i)).toArray.push (Value.ref (ka j))) c2):=⟨_,get?_update_seq nk2 (·.push (Value.ref (ka j)))⟩
  have ea:((List.range j).map fun i=>Value.ref (ka i)).toArray.push (Value.ref (ka j))=((List.range (j+1)).map fun i=>Value.ref (ka i)).toArray:=by
   rw[List.range_succ,map_append];simp
  have hsz:((List.range j).map fun i=>Value.ref (ka i)).toArray.size=j:=by rw[size_toArray,length_map,List.length_range]
  refine wpAny_bind (listUpdate_at nk2 rfl ?_ (by rw[hsz,sizeLine_eq];omega) (le_trans (Nat.le_of_eq (Array.size_push ..)) (by rw[hsz,sizeLine_eq];omega)));rw[ea]at hc2;exact wpAny_pure ⟨rfl,_,_,c2,rfl,fun b o e=>(s1.2 b (nb b o e)).trans (K2 _ _ (K1 b o e)),hc2,(s1.2 a hka.symm).trans (K2 _ _ na1)⟩
 case done=>
  rintro s' ⟨h',tk,e,rfl,K1,nk1,na1⟩;rw[Nat.zero_add,hlen]at nk1
  try dsimp only
  refine wpAny_bind (listItems_at nk1 rfl ?_);exact Oe (s:={s with heap:=h',toks:=tk}) K1 hk0 ha0 nk1 na1 hka hlen hn hu hk fun h2 tk2 c p a1 a2 a3=>h h2 tk2 c p a1 a2 a3
theorem JZ{r f:Addr}{t u v:Tok}{n:Nat}{K:Nat->List Nat}{ka:Nat->Addr}{Q:Value->Shared->Prop}(hh:A.handled=none)(hr:IsRange s.heap r 0 (n:Int) 1 t u v)(hn:n<64)(hu:A.units+2<cLine)
  (hk:∀i,i<n->IntL s.heap (ka i) ((K i).map fun(z:Nat)=>(z:Int)))
  (turn:∀(i:Nat)(t:Tok),i<n->∀(h:Heap)(tk:Nat),Keep s.heap h->wpAny (model prog w) A.in1.in1 (call (.ref f) [.int (i:Int) t]) (fun u s'=>u= .ref (ka i)/\∃h' tk',s'={s with heap:=h',toks:=tk'}/\Keep h h') (fun _ _=>False) {s with heap:=h,toks:=tk})
  (h:∀h' tk D c p its,Order1 K n p->Keep s.heap h'->s.heap.objs.size<=D->h'.get? D=some (seqObj "list" its c)->IntsAre its.toList (p.map fun(z:Nat)=>(z:Int))->Q (.ref D) {s with heap:=h',toks:=tk}):
  wpAny (model prog w) A (call (.builtin "sorted") [.ref r] [(Str.ofString "key",.ref f)]) Q E s:=by
 have hu1:A.in1.in1.units<cLine:=by
  show A.units+1+1<cLine;omega
 refine call_function_entry_kw kind_sorted plain_sorted entry_sorted (ksk_s1 _ _) ?_;unfold Builtin.«sorted»;refine wpAny_bind (m:=checkCount "sorted" 1 1 _) (wpAny_pure ?_);refine wpAny_bind (FE hh hr hn fun h1 tk1 acc k1 z1 hacc=>?_);have hal:acc.toList.length=n:=by rw[length_toList];exact hacc.1
 refine wpAny_bind (wpAny_newList ?_ (by rw[hal,sizeLine_eq];omega));have hoL:(h1.push (seqObj "list" acc.toList.toArray 0)).get? h1.objs.size=some (seqObj "list" acc.toList.toArray 0):=get?_push_size _ rfl;have k2:Keep s.heap (h1.push (seqObj "list" acc.toList.toArray 0)):=fun b o e=>get?_push_of_some _ (k1 b o e);have n0:s.heap.get? h1.objs.size=none:=Heap.get?_none_of_le z1;show wpAny _ _ _ _ _ {s with heap:=h1.push (seqObj "list" acc.toList.toArray 0),toks:=tk1};refine wpAny_bind (wpAny_holding (wpAny_call_entry_kw slot_list_sort ⟨_,hoL,rfl⟩ entry_list_sort ?body (ksk_l1 _ _)))
 case body=>
  show wpAny (model prog w) A.in1.in1 (Builtin.«list.sort» ⟨[.ref h1.objs.size],[(Str.ofString "key",.ref f)]⟩) _ _ _;rw[ksk_t1];have s1:=Heap.SameBut.update (h1.push (seqObj "list" acc.toList.toArray 0)) h1.objs.size (Obj.mapSeq fun _=>(#[]:Array Value));obtain⟨e1,ho1⟩:∃e1,((h1.push (seqObj "list" acc.toList.toArray 0)).update h1.objs.size (Obj.mapSeq fun _=>(#[]:Array Value))).get? h1.objs.size=some (seqObj "list" #[] e1):=⟨_,get?_update_seq hoL fun _=> #[]⟩;have hsz0:((h1.push (seqObj "list" acc.toList.toArray 0)).update h1.objs.size (Obj.mapSeq fun _=>(#[]:Array Value))).objs.size=h1.objs.size+1:=by rw[Heap.size_update,size_push']
  unfold ksk_tree;refine wpAny_bind (listItems_at hoL rfl ?_);refine wpAny_bind (listUpdate_at hoL rfl ?_ (by rw[size_toArray,hal,sizeLine_eq];omega) (zero_le _));refine wpAny_bind (seqEpoch_at ho1 rfl ?_);refine wpAny_bind (wpAny_newTuple ?_ (by rw[List.toList_toArray,hal,sizeLine_eq];omega));refine wpAny_bind (wpAny_newList ?_ (zero_le _));refine wpAny_holding ?_;have hkS:(((h1.push (seqObj "list" acc.toList.toArray 0)).update h1.objs.size (Obj.mapSeq fun _=>(#[]:Array Value))).push (seqObj "tuple" acc.toList.toArray.toList.toArray 0)).objs.size=h1.objs.size+1+1:=by rw[size_push',hsz0]
  refine MK (s:={s with heap:=(((h1.push (seqObj "list" acc.toList.toArray 0)).update h1.objs.size (Obj.mapSeq fun _=>(#[]:Array Value))).push (seqObj "tuple" acc.toList.toArray.toList.toArray 0)).push (seqObj "list" #[] 0),toks:=tk1}) (h0:=s.heap) (n:=n) (ka:=ka) (K:=K)
   (kS:=(((h1.push (seqObj "list" acc.toList.toArray 0)).update h1.objs.size (Obj.mapSeq fun _=>(#[]:Array Value))).push (seqObj "tuple" acc.toList.toArray.toList.toArray 0)).objs.size) (fun b o e=>?_) (Heap.get?_none_of_le (by rw[hkS];omega)) n0 (get?_push_size _ rfl)
   (get?_push_of_some _ (get?_push_of_some _ ho1)) (by rw[hkS];exact Nat.ne_of_gt (by omega)) hal hn hu1 hk (fun i x hx hh tk kk=>?_) fun h' tk c p q1 q2 q3=>⟨_,rfl,wpAny_pure ⟨_,rfl,?_⟩⟩
  .exact get?_push_of_some _ (get?_push_of_some _ ((s1.2 b (fun z=>by rw[z,n0]at e;cases e)).trans (k2 b o e)))
  .have hi:i<n:=by rw[<-hal];exact(List.getElem?_eq_some_iff.mp hx).1
   obtain⟨t',ht'⟩:=hacc.2 i x (by simpa using hx);have:x=Value.int (i:Int) t':=by rw[ht'];simp
   rw[this];exact turn i t' hi hh tk kk
  .refine h h' tk _ c p _ q1 q2 z1 q3 ?_;rw[List.toList_toArray]
   have all:∀l:List Nat,(∀j∈l,j<n)->IntsAre (l.map fun i=>acc.toList.getD i Value.none) (l.map fun(z:Nat)=>(z:Int)):=by
    intro l
    induction l with
    |nil=>intro _;exact .nil
    |cons j l ih=>
     intro hl;have hj:=hl j mem_cons_self;have ej:acc.toList[j]? =some acc.toList[j]:=getElem?_eq_getElem (by rw[hal];exact hj);obtain⟨t',ht'⟩:=hacc.2 j acc.toList[j] (by simpa using ej)
     have e2:acc.toList.getD j Value.none=Value.int (j:Int) t':=by
      rw[getD_eq_getElem?_getD,ej];show acc.toList[j]=_;rw[ht'];simp
     rw[map_cons,map_cons,e2];exact .cons _ _ (ih fun z hz=>hl z (mem_cons_of_mem _ hz))
   exact all p fun j hj=>(q1.2.1 j).mp hj
end
end LP
namespace LP
open PySem PySem.Spec PySem.W PySem.Calls PyProof.Rows L2
theorem Jl(l:List Nat):nv l=(l.map fun(n:Nat)=>(n:Int)).map V.int:=by
 unfold nv;rw[map_map];rfl
def CdO(c:Addr)(qual:Str):HO:=.ext fun h=>h.CodeRec (.ref c) qual
def LmO(f:Addr)(qual:Str)(params:Arguments)(body:Expr)(scope:Scope)(clos:List (Str×Addr))(pm:Value)(c:Addr):HO:=.ext fun h=>∃ctv,h.get? f=some (kla_obj "<lambda>" qual params body scope clos pm c ctv)
def Tb(P:Addr)(qual:Str)(pos:Pos)(H:Hp):Prop:=H P=some (.tbl #[])\/∃c,H P=some (.tbl #[rawInt pos.line,rawInt pos.col,.ref c])/\H c=some (CdO c qual)
structure BM (mg:Str->Option Value) (h:Heap):Prop where
 ex:∃bm ob,mg "__builtins__"=some (.ref bm)/\bm≠builtinsNs/\h.get? bm=some ob/\ob.cls= .type "module"/\ob.dict=some builtinsNs/\ob.data= .plain
theorem O0{P:Program}{w:World}{H:Hp}{h:Heap}{c:Addr}{qual:Str}(x:h.CodeRec (.ref c) qual):ObjOk P w H h c (CdO c qual):=by
 refine⟨x,?_,fun h1 h2 y k=>?_⟩
 .obtain⟨c2,o,vs,t,e,ho,_⟩:=x;cases e;exact⟨o,ho⟩
 .obtain⟨c2,o,vs,t,e,ho,r⟩:=y;cases e;exact⟨c,o,vs,t,rfl,k o ho,r⟩
theorem M5{P:Program}{w:World}{H:Hp}{h:Heap}{f:Addr}{qual:Str}{params:Arguments}{body:Expr}{scope:Scope}{clos:List (Str×Addr)}{pm ctv:Value}{c:Addr}(x:h.get? f=some (kla_obj "<lambda>" qual params body scope clos pm c ctv)):
  ObjOk P w H h f (LmO f qual params body scope clos pm c):=⟨⟨ctv,x⟩,⟨_,x⟩,fun h1 h2 ⟨v,y⟩ k=>⟨v,k _ y⟩⟩
def tLam(P:Addr)(qual:Str)(params:Arguments)(body:Expr)(scope:Scope)(clos:List (Str×Addr))(pm:Value)(pos:Pos):TE:=fun _ H Q=>Tb P qual pos H/\
 ∀(H':Hp)(f c:Addr),SameBut P H H'->Tb P qual pos H'->H f=none->H' c=some (CdO c qual)->H' f=some (LmO f qual params body scope clos pm c)->Q (.ref f) H'
theorem Nn{X:Cx}{c P:Addr}{params:Arguments}{body:Expr}{scope:Scope}{clos:List (Str×Addr)}{pos:Pos}(hcode:X.env.code= .ref c)(C:codeHdIn X.K c P=true)(B:BM X.mg X.base)(hcl:closureFor scope X.env=pure clos)(hdef:defaultsOf params X.env=([],[])):
  PE X (.Lambda params body scope pos) (tLam P (X.env.qual++"<lambda>") params body scope clos ((X.mg "__name__").getD .none) pos):=by
 intro pins s Z H Q I h;obtain⟨tb,k⟩:=h;have C2:CodeHd s.heap c P:=codeHd_of_K I.kIn C;have hg:s.heap.Ns mainGlobals X.mg:=I.mod.glob.keeps I.bk;obtain⟨bm,ob,b1,b2,b3,b4,b5,b6⟩:=B.ex;have b3':=I.bs _ _ b3
 have gfree:H mainGlobals=none:=by
  obtain⟨o,es,ep,e,_⟩:=I.mod.glob;exact(I.bs _ _ e).2
 have hbP:∀{ps:Array Value},H P=some (.tbl ps)->s.heap.BuiltinsAt X.mg P:=fun{ps} e=>by
  refine⟨bm,ob,b1,b2,?_,?_,b3'.1,b4,b5,b6⟩
  .intro z;obtain⟨o,es,ep,e1,hd,_⟩:=hg;rw[z,e1]at b3';have:=Option.some.inj b3'.1;rw[this]at hd;rw[hd]at b6;cases b6
  .intro z;rw[z,e]at b3';cases b3'.2
 refine kla_eval hdef ?_;rcases tb with tb|⟨c1,tb,hc1⟩
 .have hP:s.heap.get? P=some (tabObj #[]):=I.hok P _ tb;have hgP:mainGlobals≠P:=fun z=>by rw[z,tb]at gfree;cases gfree
  refine kla_makeFunction (mg:=X.mg) hcl I.ok.glob hg hcode C2 hP trivial rfl hgP (hbP tb) fun c' ctv h' tk hx hge hlt hrec htb=>?_;generalize hfo:kla_obj "<lambda>" (X.env.qual++"<lambda>") params body scope clos ((X.mg "__name__").getD Value.none) c' ctv=fo;have hlt2:s.heap.objs.size<h'.objs.size:=Nat.lt_of_le_of_lt hge hlt;have ff:H h'.objs.size=none:=I.hok.fresh (Nat.le_of_lt hlt2);have fc:H c'=none:=I.hok.fresh hge;have ncf:c'≠h'.objs.size:=ne_of_lt hlt;have nPc:P≠c':=Ai tb fc;have nPf:P≠h'.objs.size:=Ai tb ff;have kp:∀b o,b≠P->s.heap.get? b=some o->(h'.push fo).get? b=some o:=fun b o n e=>get?_push_of_some _ (hx b o n e);have old:∀b o,s.heap.get? b=some o->b≠c'/\b≠h'.objs.size:=fun b o e=>⟨ne_of_lt (lt_of_lt_of_le (lt_size e) hge),ne_of_lt (Nat.lt_trans (lt_size e) hlt2)⟩
  have hat:∀b,b≠P->b≠c'->b≠h'.objs.size->aj (aj (aj H P (.tbl #[rawInt pos.line,rawInt pos.col,.ref c'])) c' (CdO c' (X.env.qual++"<lambda>"))) h'.objs.size (LmO h'.objs.size (X.env.qual++"<lambda>") params body scope clos ((X.mg "__name__").getD .none) c') b=H b:=fun b n1 n2 n3=>by
   rw[Am n3,Am n2,Am n1]
  have atP:aj (aj (aj H P (.tbl #[rawInt pos.line,rawInt pos.col,.ref c'])) c' (CdO c' (X.env.qual++"<lambda>"))) h'.objs.size (LmO h'.objs.size (X.env.qual++"<lambda>") params body scope clos ((X.mg "__name__").getD .none) c') P=some (.tbl #[rawInt pos.line,rawInt pos.col,.ref c']):=by
   rw[Am nPf,Am nPc,Ae]
  have atC:aj (aj (aj H P (.tbl #[rawInt pos.line,rawInt pos.col,.ref c'])) c' (CdO c' (X.env.qual++"<lambda>"))) h'.objs.size (LmO h'.objs.size (X.env.qual++"<lambda>") params body scope clos ((X.mg "__name__").getD .none) c') c'=some (CdO c' (X.env.qual++"<lambda>")):=by
   rw[Am ncf,Ae]
  have atF:aj (aj (aj H P (.tbl #[rawInt pos.line,rawInt pos.col,.ref c'])) c' (CdO c' (X.env.qual++"<lambda>"))) h'.objs.size (LmO h'.objs.size (X.env.qual++"<lambda>") params body scope clos ((X.mg "__name__").getD .none) c') h'.objs.size=some (LmO h'.objs.size (X.env.qual++"<lambda>") params body scope clos ((X.mg "__name__").getD .none) c'):=Ae;generalize aj (aj (aj H P (.tbl #[rawInt pos.line,rawInt pos.col,.ref c'])) c' (CdO c' (X.env.qual++"<lambda>"))) h'.objs.size (LmO h'.objs.size (X.env.qual++"<lambda>") params body scope clos ((X.mg "__name__").getD .none) c')=H' at hat atP atC atF;have keepH:∀b u,H b=some u->b≠P->H' b=some u:=fun b u e n=>by rw[hat b n (Ai e fc) (Ai e ff)];exact e
  have hP':(h'.push fo).get? P=some (tabObj #[rawInt pos.line,rawInt pos.col,.ref c']):=get?_push_of_some _ (by rw[htb];rfl)
  have U:Un X.fs [] H H' s.heap (h'.push fo):=by
   refine⟨fun b o e n _ _=>kp b o (fun z=>by rw[z,tb]at n;cases n) e,fun b o e n _ _=>⟨o.slots,kp b o (fun z=>by rw[z,tb]at n;cases n) e⟩,fun b o e n _=>?_,fun b o e _=>?_,fun b xs e=>keepH b _ e (fun z=>by rw[z,tb]at e;cases e),
    fun b o xs e=>keepH b _ e (fun z=>by rw[z,tb]at e;cases e),fun b ps e=>?_⟩
   .rw[hat b (fun z=>by rw[z,tb]at n;cases n) (old b o e).1 (old b o e).2];exact n
   .by_cases z:b=P
    .rw[z];exact⟨_,hP'⟩
    .exact⟨o,kp b o z e⟩
   .by_cases z:b=P
    .subst z;rw[tb]at e;cases e;exact⟨#[rawInt pos.line,rawInt pos.col,.ref c'],by rw[atP];simp⟩
    .exact⟨#[],by rw[keepH b _ e z];simp⟩
  have HO':HOk X.prog X.w H' (h'.push fo):=by
   intro b u e;by_cases z1:b=h'.objs.size
   .subst z1;rw[atF]at e;cases e;exact M5 (ctv:=ctv) (by rw[hfo];exact get?_push_size _ (by rw[<-hfo];rfl))
   by_cases z2:b=c'
   .subst z2;rw[atC]at e;cases e;refine O0 ?_;obtain⟨c2,o,vs,t,e2,ho,r⟩:=hrec;cases e2;exact⟨_,o,vs,t,rfl,get?_push_of_some _ ho,r⟩
   by_cases z3:b=P
   .subst z3;rw[atP]at e;cases e;exact hP'
   rw[hat b z3 z2 z1]at e;refine(I.hok b u e).stay (fun d v hd q=>kp d v ?_ q) (fun d q=>keepH d _ q ?_) fun d xs q=>keepH d _ q ?_
   .rcases hd with rfl|hd
    .exact z3
    .rintro rfl;rw[tb]at hd;cases hd
   .rintro rfl;rw[tb]at q;cases q
   .rintro rfl;rw[tb]at q;cases q
  refine⟨.ref h'.objs.size,H',I.un (t':=tk) U HO',rfl,k H' h'.objs.size c' (fun b u e n=>keepH b u e n) (.inr ⟨c',atP,atC⟩) ff atC atF⟩
 .have hP:s.heap.get? P=some (tabObj #[rawInt pos.line,rawInt pos.col,.ref c1]):=I.hok P _ tb;have hf:codeAmong pos (#[rawInt pos.line,rawInt pos.col,Value.ref c1]:Array Value).toList=some (.ref c1):=codeAmong_snoc [] trivial rfl;refine kla_makeFunctionHit (mg:=X.mg) hcl I.ok.glob hg hcode C2 hP ⟨⟩ hf (hbP tb) fun ctv h' tk hk hsz=>?_;have ff:H h'.objs.size=none:=I.hok.fresh hsz;have I2:Inv X pins Z (aj H h'.objs.size (LmO h'.objs.size (X.env.qual++"<lambda>") params body scope clos ((X.mg "__name__").getD .none) c1)) _:=I.laid (t':=tk) (fun b o e=>get?_push_of_some _ (hk b o e)) hsz (M5 (ctv:=ctv) (get?_push_size _ rfl));have sH:Same H (aj H h'.objs.size (LmO h'.objs.size (X.env.qual++"<lambda>") params body scope clos ((X.mg "__name__").getD .none) c1)):=ae ff;exact⟨.ref h'.objs.size,_,I2,rfl,k _ h'.objs.size c1 sH.but (.inr ⟨c1,sH _ _ tb,sH _ _ hc1⟩) ff (sH _ _ hc1) Ae⟩
section
variable{prog:Program}{w:World}{A:Around}{E:Value->Shared->Prop}{s:Shared}
theorem Lr{f c cell q:Addr}{qual:Str}{params:Arguments}{scope:Scope}{pm ctv v:Value}{x y:Str}{p1 p2 p3:Pos}{i:Int}{t:Tok}{its:Array Value}(hroom:A.depth<recursionLimit)(lim:s.heap.NoLimit)
  (hf:s.heap.get? f=some (kla_obj "<lambda>" qual params (.Subscript (.Name x p1) (.Name y p2) p3) scope [(x,cell)] pm c ctv)) (hcd:s.heap.CodeRec (.ref c) qual) (hcell:s.heap.IsCell cell (some (.ref q))) (hl:s.heap.IsList q its) (h0:0<=i) (hi:i<2 ^ 63) (hv:its[i.toNat]? =some v)
  (hb:bindArgs (kla_fn "<lambda>" qual params (.Subscript (.Name x p1) (.Name y p2) p3) scope [(x,cell)] pm (.ref c) ctv) ⟨[.int i t],[]⟩=pure [(y,.int i t)])
  (hk:scope.kind= .function) (hco:scope.isCoroutine=false) (hgen:scope.isGenerator=false) (hcells:∀z∈scope.names,z.2≠ .cell) (hy:scope.names.lookup y=some .local) (hx:scope.names.lookup x=some .free)
  (hdx:(x==("__debug__":Str))=false) (hdy:(y==("__debug__":Str))=false) (hcx:(x==("__classdict__":Str))=false):
  wpAny (model prog w) A (call (.ref f) [.int i t]) (fun u s'=>u=v/\∃h' tk',s'={s with heap:=h',toks:=tk'}/\Keep s.heap h') E s:=by
 refine wpAny_call ?_;refine kla_callFunE hroom hf rfl hco hgen rfl hcd ?_;rw[hb];refine wpAny_pure (wpAny_newFunctionEnv hcells (fun z hz=>by rw[mem_singleton.mp hz];exact hy) (fun h₁ hns hsb=>⟨lim.fresh _ hsb,?_⟩) hk);have kp:Keep s.heap h₁:=fun b o e=>hsb.extBut b o (ne_of_lt (lt_size e)) (get?_push_of_some _ e);refine kla_codeExpr ?_;refine Subscript_ ?_;refine wpAny_Name (wpAny_loadName_free (c:=cell) (v:=.ref q) hk hx ?_ ?_ ?_ hcx) hdx
 .show(List.lookup x [(x,cell)])=_;rw[lookup_cons,beq_self_eq_true]
 .obtain⟨o,ho,hd⟩:=hcell;exact⟨o,kp _ _ ho,hd⟩
 refine wpAny_Name (wpAny_loadName_local (v:=.int i t) hk hy hns ?_ ?_) hdy
 .show([(y,Value.int i t)].reverse.lookup y)=_;rw[List.reverse_singleton,lookup_cons,beq_self_eq_true]
 obtain⟨o,ho,hc,r⟩:=hl;exact item_listR (s:={s with heap:=h₁,toks:=s.toks+1}) (items:=its) ⟨o,kp _ _ ho,hc,r⟩ h0 hi hv ⟨rfl,_,_,rfl,kp⟩
end
def tRng(te:TE):TE:=fun Z H Q=>te Z H fun x H1=>∃j:Int,x= .int j/\ -(2 ^ 62)<=j/\j<2 ^ 62/\∀p,H1 p=none->Q (.ref p) (aj H1 p (.rng 0 j))
theorem NI{X:Cx}{e:Expr}{te:TE}{p pos:Pos}(hm:X.mg "range"=none)(he:PE X e te)(hg:Gl X "range":=by rfl)(hs:starEach [e] X.env=[(false,eval e X.env)]:=by rfl)(hs2:starEach [e] X.env=(false,eval e X.env)::starEach [] X.env:=by rfl):
  PE X (.Call (.Name "range" p) [e] [] pos) (tRng te):=by
 intro pins s Z H Q I h;refine Call_ (CJ I hg hm boot_range (PyProof.Rows.callWith_type1 (thn (Aa he Ac hs2 pos pins s Z H (fun vs H1=>∃j:Int,vs=[.int j]/\ -(2 ^ 62)<=j/\j<2 ^ 62/\∀p,H1 p=none->Q (.ref p) (aj H1 p (.rng 0 j))) I (?_)) fun us s1 ⟨vs,H1,I1,r1,q1⟩=>?_) hs rfl))
 .have h2:te Z H fun x H1=>∃j:Int,x= .int j/\ -(2 ^ 62)<=j/\j<2 ^ 62/\∀p,H1 p=none->Q (.ref p) (aj H1 p (.rng 0 j)):=h;show te Z H fun x H1=>∃j:Int,[x]=[V.int j]/\ -(2 ^ 62)<=j/\j<2 ^ 62/\∀p,H1 p=none->Q (.ref p) (aj H1 p (.rng 0 j))
  have e:(fun(x:V)(H1:Hp)=>∃j:Int,[x]=[V.int j]/\ -(2 ^ 62)<=j/\j<2 ^ 62/\∀p,H1 p=none->Q (.ref p) (aj H1 p (.rng 0 j)))=fun x H1=>∃j:Int,x= .int j/\ -(2 ^ 62)<=j/\j<2 ^ 62/\∀p,H1 p=none->Q (.ref p) (aj H1 p (.rng 0 j)):=by
   funext x H1;apply propext;constructor
   .rintro ⟨j,e,r⟩;exact⟨j,by injection e,r⟩
   .rintro ⟨j,e,r⟩;exact⟨j,by rw[e],r⟩
  rw[e];exact h2
 .obtain⟨j,e,q1,q2,q⟩:=q1;subst e;cases r1 with
  |cons r rr=>
   cases rr;obtain⟨t,rfl⟩:=r;refine call_range_1 ?_;exact⟨.ref s1.heap.objs.size,_,I1.laid (o:=.rng 0 j) (fun b o e=>get?_push_of_some _ e) (le_refl _) ⟨_,_,_,get?_push_size _ rfl⟩,rfl,q _ (I1.hok.fresh (le_refl _))⟩
def tSrt(qual:Str)(params:Arguments)(body:Expr)(scope:Scope)(x:Str)(cell:Addr)(pm:Value)(i:Nat)(tr tl:TE):TE:=fun Z H Q=>tr Z H fun v H1=>tl Z H1 fun u H2=>∃(r f c q:Addr)(ks:List Addr)(Ks:List (List Nat)),v= .ref r/\u= .ref f/\H2 r=some (.rng 0 ((Ks.length:Nat):Int))/\
 H2 f=some (LmO f qual params body scope [(x,cell)] pm c)/\H2 c=some (CdO c qual)/\Z[i]? =some (some (.ref q))/\H2 q=some (.lst (ks.map V.ref))/\LsAt RowAt H2 ks Ks/\Ks.length<64/\
 ∀(D:Addr)(p:List Nat),Order1 (fun i=>Ks.getD i []) Ks.length p->H2 D=none->Q (.ref D) (aj H2 D (.lst (nv p)))
theorem Gb:∀{p:List Nat}{us:List Value},IntsAre us (p.map fun(z:Nat)=>(z:Int))->Vals (nv p) us
 |[],_,h=>by cases h;exact .nil
 |n::p,_,h=>by
  cases h with
  |cons _ t h=>exact .cons ⟨t,rfl⟩ (Gb h)
theorem Mn{X:Cx}{re le:Expr}{tr tl:TE}{p pos kp p1 p2 p3:Pos}{i:Nat}{x y:Str}{qual:Str}{params:Arguments}{scope:Scope}{cell:Addr}{pm:Value}(hc:X.calm=true)(hr:Room 1 X.A)(hm:X.mg "sorted"=none)(he:PE X re tr)(hl:PE X le tl)
  (hN:X.N[i]? =some x) (hkx:X.env.kindOf x=some .cell) (hvis:Vis X.env.scope x) (hcx:X.env.cells.lookup x=some cell)
  (hb:∀(c:Addr)(ctv:Value)(j:Int)(t:Tok),bindArgs (kla_fn "<lambda>" qual params (.Subscript (.Name x p1) (.Name y p2) p3) scope [(x,cell)] pm (.ref c) ctv) ⟨[.int j t],[]⟩=pure [(y,.int j t)])
  (hk:scope.kind= .function) (hco:scope.isCoroutine=false) (hgen:scope.isGenerator=false) (hcells:∀z∈scope.names,z.2≠ .cell) (hy:scope.names.lookup y=some .local) (hx:scope.names.lookup x=some .free)
  (hdx:(x==("__debug__":Str))=false) (hdy:(y==("__debug__":Str))=false) (hcdx:(x==("__classdict__":Str))=false)
  (hg:Gl X "sorted":=by rfl) (hs:starEach [re] X.env=(false,eval re X.env)::starEach [] X.env:=by rfl)
  (h1:backTo pos (starEach [re] X.env)=(false,eval re X.env)::backTo pos (starEach [] X.env):=by rfl) (h2:(backTo pos (starEach [re] X.env)).any (·.1)=false:=by rfl):
  PE X (.Call (.Name "sorted" p) [re] [⟨some "key",le,kp⟩] pos) (tSrt qual params (.Subscript (.Name x p1) (.Name y p2) p3) scope x cell pm i tr tl):=by
 intro pins s Z H Q I h;refine wpAny_Call_Name_kw (CJ I hg hm PyProof.Rows.boot_sorted ?_)
 refine PyProof.Rows.callWith_kw (thn (Aa he Ac hs pos pins s Z H (fun vs H1=>tl Z H1 fun u H2=>∃(r f c q:Addr)(ks:List Addr)(Ks:List (List Nat)),vs=[.ref r]/\u= .ref f/\H2 r=some (.rng 0 ((Ks.length:Nat):Int))/\
  H2 f=some (LmO f qual params (.Subscript (.Name x p1) (.Name y p2) p3) scope [(x,cell)] pm c)/\H2 c=some (CdO c qual)/\Z[i]? =some (some (.ref q))/\H2 q=some (.lst (ks.map V.ref))/\LsAt RowAt H2 ks Ks/\Ks.length<64/\
  ∀(D:Addr)(p:List Nat),Order1 (fun i=>Ks.getD i []) Ks.length p->H2 D=none->Q (.ref D) (aj H2 D (.lst (nv p)))) I (?_)) fun us s1 ⟨vs,H1,I1,r1,q1⟩=>?_) h1 h2
 .have e:∀(v:V)(r:Addr),([v]=[V.ref r])=(v=V.ref r):=fun v r=>propext ⟨fun z=>by injection z,fun z=>by rw[z]⟩;show tr Z H fun v H1=>tl Z H1 fun u H2=>∃(r f c q:Addr)(ks:List Addr)(Ks:List (List Nat)),[v]=[V.ref r]/\_;simp only[e];exact h
 refine PyProof.Rows.kws_cons (thn (hl pins s1 Z H1 _ I1 q1) fun dv s2 ⟨u,H2,I2,ru,r,f,c,q,ks,Ks,ev,eu,hrg,hf,hcd,hZ,hq,hK,h64,k⟩=>PyProof.Rows.kws_nil ?_);subst ev eu;cases ru;rw[Vals.ref1 r1];obtain⟨t1,t2,t3,hR⟩:∃t u v,s2.heap.get? r=some {cls:=.type "range",data:=.fields #[.int 0 t,.int ((Ks.length:Nat):Int) u,.int 1 v]}:=I2.hok r _ hrg;obtain⟨ctv,hF⟩:∃ctv,s2.heap.get? f=some (kla_obj "<lambda>" qual params (.Subscript (.Name x p1) (.Name y p2) p3) scope [(x,cell)] pm c ctv):=(I2.hok f _ hf).1;have hC:s2.heap.CodeRec (.ref c) qual:=(I2.hok c _ hcd).1
 have hCell:s2.heap.IsCell cell (some (.ref q)):=by
  obtain⟨m,_,hl⟩:=I2.loc;obtain⟨u,ru,lk⟩:=hl i x _ hN hZ hvis;cases ru;rcases lk with ⟨z,_⟩|⟨_,c2,z,w2⟩
  .rw[hkx]at z;cases z
  .rw[hcx]at z;cases z;exact w2
 obtain⟨its,rv,pl,_⟩:=I2.list (aa hq);have hkl:ks.length=Ks.length:=hK.1;have hu:=hr.units
 have keyAt:∀i,i<Ks.length->IntL s2.heap (ks.getD i 0) ((Ks.getD i []).map fun(z:Nat)=>(z:Int)):=fun j hj=>by
  have e1:ks[j]? =some (ks.getD j 0):=by rw[getD_eq_getElem?_getD,getElem?_eq_getElem (by omega)];rfl
  have e2:Ks[j]? =some (Ks.getD j []):=by rw[getD_eq_getElem?_getD,getElem?_eq_getElem hj];rfl
  have hrow:=hK.2 j _ _ e1 e2;obtain⟨its2,rv2,pl2,_⟩:=I2.list (aa hrow);refine⟨its2.toArray,pl2,?_⟩;rw[Jl]at rv2;have:=Dh rv2;simpa using this
 refine JZ (n:=Ks.length) (K:=fun i=>Ks.getD i []) (ka:=fun i=>ks.getD i 0) (I2.ok.hd hc) hR h64 (by omega) keyAt (fun j t hj h tk kk=>?_) fun h' tk D cc pp its3 o1 k1 hD hget hints=>?_
 .have e1:ks[j]? =some (ks.getD j 0):=by rw[getD_eq_getElem?_getD,getElem?_eq_getElem (by omega)];rfl
  obtain⟨w2,ew,rw2⟩:=rv.get (Bh e1);cases rw2;refine Lr (s:={s2 with heap:=h,toks:=tk}) (A:=X.A.in1.in1) (c:=c) (cell:=cell) (q:=q) (its:=its.toArray) hr.depth (I2.nolimit.keeps kk) (kk _ _ hF) ?_ ?_ (pl.keeps kk).isList (by omega) (by omega) (by simpa using ew) (hb _ _ _ _) hk hco hgen hcells hy hx hdx hdy hcdx
  .obtain⟨c2,o,vs,t,e,ho,r⟩:=hC;cases e;exact⟨_,o,vs,t,rfl,kk _ _ ho,r⟩
  .obtain⟨o,ho,hd⟩:=hCell;exact⟨o,kk _ _ ho,hd⟩
 .have hpl:pp.length=Ks.length:=o1.2.2;have hs0:sizeLine=16777216:=sizeLine_eq;refine⟨.ref D,_,I2.laid (o:=.lst (nv pp)) (t':=tk) k1 hD ⟨by rw[Aq];omega,its3.toList,cc,Gb hints,?_⟩,rfl,k D pp o1 (I2.hok.fresh hD)⟩;rw[hget]
def tabC(K:Frag):Addr:=match tabIn K "sorted_numbers" with
 |some (c,_)=>c
 |none=>0
def tabP(K:Frag):Addr:=match tabIn K "sorted_numbers" with
 |some (_,p)=>p
 |none=>0
def lamPos:Pos:=match((defBody (top 83)).getD 1 (.Pass ⟨0,0,0,0⟩):Stmt)with
 |Stmt.Return (some (Expr.Call _ _ [⟨_,Expr.Lambda _ _ _ p,_⟩] _)) _=>p
 |_=>⟨0,0,0,0⟩
def lamQ:Str:=(envOfC "sorted_numbers" (defScope (top 83)) 0 0 Value.none).qual++"<lambda>"
def Tab(K:Frag)(H:Hp):Prop:=Tb (tabP K) lamQ lamPos H
theorem Tab.but{K:Frag}{H H':Hp}{d:Addr}{u:HO}(h:Tab K H)(s:SameBut d H H')(hd:H d=some u)(h1:∀ps,u≠ .tbl ps)(h2:∀φ,u≠ .ext φ):Tab K H':=by
 rcases h with h|⟨c,h,hc⟩
 .exact .inl (s _ _ h (AC h hd (fun z=>h1 _ z.symm)))
 .exact .inr ⟨c,s _ _ h (AC h hd (fun z=>h1 _ z.symm)),s _ _ hc (AC hc hd (fun z=>h2 _ z.symm))⟩
theorem Tab.same{K:Frag}{H H':Hp}(h:Tab K H)(s:Same H H'):Tab K H':=by
 rcases h with h|⟨c,h,hc⟩
 .exact .inl (s _ _ h)
 .exact .inr ⟨c,s _ _ h,s _ _ hc⟩
theorem Tab.at_{K:Frag}{H:Hp}(h:Tab K H):∃ps,H (tabP K)=some (.tbl ps):=by
 rcases h with h|⟨c,h,_⟩
 .exact⟨_,h⟩
 .exact⟨_,h⟩
structure DfC (K:Frag) (mg:Str->Option Value) (x:Str) (st:Stmt) (ps:List Str):Prop where
 ex:∃(f:Addr)(oc:Value)(od:Option Addr)(kV doc pm:Value)(an:Option Addr)(ct:Value)(osl:Array (Option Value)),mg x=some (.ref f)/\
  K.lookup f=some ⟨oc,od,.func (fnOf x x (defArgs st) (defBody st) (defScope st) .none kV doc pm an (.ref (tabC K)) ct),osl⟩/\codeIn K (.ref (tabC K)) x=true/\keepIn K (.ref f)=true/\
  Binds K (fnOf x x (defArgs st) (defBody st) (defScope st) .none kV doc pm an (.ref (tabC K)) ct) ps []
 hd:codeHdIn K (tabC K) (tabP K)=true
theorem DfC.ok{P:Program}{w:World}{K:Frag}{mg:Str->Option Value}{base:Heap}{x:Str}{st:Stmt}{N ps:List Str}{k:Nat}{sp:Sp}(D:DfC K mg x st ps)(S:FnScope N ps (defScope st))(len:∀vs H Q E,sp vs H Q E->vs.length=ps.length)
  (hbody:∀(f:Addr)(A:Around)(outer:List Env)(s:Shared)(H:Hp)(vs:List V)(Q:VK)(E:XK),Room k (A.deeper (envOfC x (defScope st) s.heap.objs.size f (.ref (tabC K))))->sp vs H Q E->
   ∃t,PSs (cxOf CX0 P w K mg base N x (defScope st) f (.ref (tabC K)) A outer s H E).nox (defBody st) t/\t {nx:=fun _ H'=>Q .non H',rt:=Q} (start N vs) H):Ok P w K mg base (k+1) x ps sp:=by
 obtain⟨f,oc,od,kV,doc,pm,an,ct,osl,h1,h2,h3,h4,h5⟩:=D.ex;refine⟨f,_,h1,h4,h5,M6 h2 h3 S len fun A outer s H vs Q E hr hsp=>?_⟩;obtain⟨t,h,q⟩:=hbody f A outer s H vs Q E hr hsp;exact⟨t,h.nox,q⟩
end LP
namespace LP
open PySem PySem.Spec L2
structure TxQ (K:Frag) (mg:Str->Option Value) (D:Ad):Prop extends TxL K mg D where
 lessThan:GInt mg "LESS_THAN" (-1)
 same0:GInt mg "SAME" 0
 greater:GInt mg "GREATER" 1
 hashStart:GInt mg "HASH_START" 14695981039346656037
 hashFactor:GInt mg "HASH_FACTOR" 1099511628211
 hashSize:GInt mg "HASH_SIZE" 18446744073709551616
 compareTexts:Df K mg "compare_texts" (top 49) ["scale","way","first","second"]
 textHash:Df K mg "text_hash" (top 50) ["scale","way","text"]
 beginsWith:Df K mg "begins_with" (top 51) ["scale","way","first","second"]
 findText:Df K mg "find_text" (top 52) ["scale","way","start","text","sought"]
 bordersOf:Df K mg "borders_of" (top 53) ["scale","text"]
 isList:Df K mg "is_list" (top 80) ["row"]
 textsOf:Df K mg "texts_of" (top 81) ["row"]
 keysOf:Df K mg "keys_of" (top 82) ["scale","way","texts"]
 sortedNumbers:DfC K mg "sorted_numbers" (top 83) ["scale","way","texts"]
 rankOf:Df K mg "rank_of" (top 84) ["scale","way","texts","text","with_equal"]
 labelOf:Df K mg "label_of" (top 85) ["scale","way","texts","text"]
 wrongNumber:Df K mg "wrong_number" (top 86) ["scale","way","texts"]
 sorted:mg "sorted"=none
 range:mg "range"=none
variable{P:Program}{w:World}{K:Frag}{mg:Str->Option Value}{base:Heap}{D:Ad}
theorem Cu{op:CmpOp}{ta tb:TE}{Z:St}{H:Hp}{a b:Addr}{x y:List Nat}{c:Bool}(ha:Ev ta Z H (.ref a))(hb:Ev tb Z H (.ref b))(hx:H a=some (.lst (nv x)))(hy:H b=some (.lst (nv y)))
  (he:lexBy op (x.map fun(n:Nat)=>(n:Int)) (y.map fun(n:Nat)=>(n:Int))=c):Ev (tOp (rCmpL K op) ta tb) Z H (.bl c):=
 AL ha hb fun Q q=>⟨a,b,_,_,rfl,rfl,by rw[<-Jl];exact aa hx,by rw[<-Jl];exact aa hy,by rw[he];exact q⟩
theorem HD{H:Hp}{a b:Addr}{x y:List Nat}(hx:H a=some (.lst (nv x)))(hy:H b=some (.lst (nv y))):∃d e,Dp K H (.ref a) d/\Dp K H (.ref b) e/\SeqAt.shaped d=true/\SeqAt.shaped e=true/\eqv d e=decide (x=y):=by
 have sh:∀l:List Nat,SeqAt.shaped (PyData.list (l.map fun(n:Nat)=>PyData.int (n:Int)))=true:=fun l=>by
  have h1:=IC l;have h2:=Fz l;unfold SeqAt.shaped;rw[show(PyData.list (l.map fun(n:Nat)=>PyData.int (n:Int))).canLay0=true from h1,decide_eq_true (show(PyData.list (l.map fun(n:Nat)=>PyData.int (n:Int))).depth<=64 from h2)];rfl
 refine⟨_,_,.lst (aa hx) (Da x),.lst (aa hy) (Da y),sh x,sh y,?_⟩;rw[eqv,Fw]
theorem scCT:FnScope ["scale","way","first","second","first_key","second_key"] ["scale","way","first","second"] (defScope (top 49)):=fsc
def spCT(D:Ad):Sp:=fun vs H Q _=>∃(sc a b:Addr)(es:Lo.Order)(n:Nat)(x y:List Nat),vs=[.ref sc,.int (n:Int),.ref a,.ref b]/\ScAt D H sc es/\LM.OInv es/\H a=some (.lst (nv x))/\x.length<=1000/\H b=some (.lst (nv y))/\y.length<=1000/\n<32/\
 ∀H',Same H H'->Q (.int (Lo.compare es (howOf n) x y)) H'
theorem Ov(T:TxQ K mg D):Ok P w K mg base 7 "compare_texts" ["scale","way","first","second"] (spCT D):=by
 have GK:=EV (P:=P) (w:=w) (base:=base) T.toTxL;refine T.compareTexts.ok scCT (fun vs H Q E h=>?_) (fun f cdv A outer s H vs Q E hr h=>?_)
 .obtain⟨sc,a,b,es,n,x,y,rfl,_⟩:=h;rfl
 .obtain⟨sc,a,b,es,n,x,y,rfl,hS,hI,ha,hx,hb,hy,hn,k⟩:=h;have hu:=CF hr
  refine⟨_,Ab (Al (i:=4) scCT.nd rfl (inl rfl) (pc GK hr (Aa (pv 0) (Aa (pv 1) (Aa (pv 2) Ac)))))
   (Ab (Al (i:=5) scCT.nd rfl (inl rfl) (pc GK hr (Aa (pv 0) (Aa (pv 1) (Aa (pv 3) Ac)))))
   (Ab (Av (An (Cj (op:=.Lt) (c:=0) (.inl ⟨rfl,rfl⟩) hr.units0) (pv 4) (pv 5) (nomark _)) (Af (Aj (pgi T.lessThan))) Ao)
   (Af (Aj (AT (An (Cj (op:=.Gt) (c:=4) (.inr (.inr (.inl ⟨rfl,rfl⟩))) hr.units0) (pv 4) (pv 5) (nomark _)) (pgi T.greater) (pgi T.same0)))))),?_⟩
  refine⟨_,rfl,_,rfl,_,rfl,sc,a,es,n,x,rfl,hS,hI,ha,hx,hn,fun H1 q1 s1 hq10 hq1=>?_⟩;refine⟨_,rfl,_,rfl,_,rfl,sc,b,es,n,y,rfl,hS.same s1,hI,s1 _ _ hb,hy,hn,fun H2 q2 s2 hq20 hq2=>?_⟩;have s02:=s1.trans s2;have hq12:=s2 _ _ hq1;rw[<-CA es (howOf n) x y]at k;dsimp only[tSeq,tIfS,gName];refine Ax (Cu (K:=K) (Ah rfl) (Ah rfl) hq12 hq2 (Jn _ _)) _ ?_;rcases DJ (Lo.key es (howOf n) x) (Lo.key es (howOf n) y)with e|e|e
  .rw[e]at k;have:decide (rowCmp (Lo.key es (howOf n) x) (Lo.key es (howOf n) y)<0)=true:=by rw[e];decide
   rw[this];exact iteT (k _ s02)
  all_goals
   rw[e]at k;have h0:decide (rowCmp (Lo.key es (howOf n) x) (Lo.key es (howOf n) y)<0)=false:=by rw[e];decide
   rw[h0];refine iteF ?_;dsimp only[tNext,tRet,tIf];refine Ax (Cu (K:=K) (Ah rfl) (Ah rfl) hq12 hq2 (Om _ _)) _ ?_;rw[e]
   first
    |exact iteF (k _ s02)
    |exact iteT (k _ s02)
theorem JU:∀a b:Nat,(a ^^^ b)+2 * (a&&& b)=a+b
 |a,b=>by
  by_cases h:a=0
  .subst h;simp
  have ih:=JU (a / 2) (b / 2);have h1:(a ^^^ b) / 2=a / 2 ^^^ b / 2:=Nat.xor_div_two;have h2:(a&&& b) / 2=a / 2&&& b / 2:=Nat.and_div_two;have h3:= @Nat.xor_mod_two_eq_one a b;have h4:= @Nat.and_mod_two_eq_one a b;rw[<-h1,<-h2]at ih;generalize a ^^^ b=X at *
  generalize a&&& b=Y at *
  have ha:=Nat.mod_two_eq_zero_or_one a;have hb:=Nat.mod_two_eq_zero_or_one b;have hX:=Nat.mod_two_eq_zero_or_one X;have hY:=Nat.mod_two_eq_zero_or_one Y;rcases ha with ha|ha<;>rcases hb with hb|hb<;>rcases hX with hX|hX<;>rcases hY with hY|hY<;>rw[ha,hb,hX]at h3<;>rw[ha,hb,hY]at h4<;>simp at h3 h4<;>omega
termination_by a=>a
theorem MT(a b:Nat):Builtin.bitXor (a:Int) (b:Int)=((Nat.xor a b:Nat):Int):=by
 have h1:Builtin.bitAnd (a:Int) (b:Int)=((a&&& b:Nat):Int):=PyProof.Rows.bitAnd_pp (Int.natCast_nonneg _) (Int.natCast_nonneg _);have h2:=JU a b;show Builtin.bitXor (a:Int) (b:Int)=((a ^^^ b:Nat):Int);rw[PyProof.Rows.bitXor_and,h1];omega
theorem scTH:FnScope ["scale","way","text","mixed","number"] ["scale","way","text"] (defScope (top 50)):=fsc
def spTH(D:Ad):Sp:=fun vs H Q _=>∃(sc a:Addr)(es:Lo.Order)(n:Nat)(t:List Nat),vs=[.ref sc,.int (n:Int),.ref a]/\ScAt D H sc es/\LM.OInv es/\H a=some (.lst (nv t))/\t.length<=1000/\n<32/\
 ∀H',Same H H'->Q (.int ((Lo.hash es (howOf n) t:Nat):Int)) H'
def mixed(l:List Nat):Nat:=l.foldl (fun(s x:Nat)=>Nat.xor s x * 1099511628211 % 2 ^ 64) 14695981039346656037
theorem Jf(l:List Nat)(c:Nat):mixed (l++[c])=Nat.xor (mixed l) c * 1099511628211 % 18446744073709551616:=by
 unfold mixed;rw[List.foldl_append,List.foldl_cons,List.foldl_nil,show(2:Nat) ^ 64=18446744073709551616 from rfl]
theorem MB(x:Nat):(x:Int) * 1099511628211 % 18446744073709551616=((x * 1099511628211 % 18446744073709551616:Nat):Int):=by omega
theorem J8:((mixed []:Nat):Int)=14695981039346656037:=rfl
theorem O2(T:TxQ K mg D):Ok P w K mg base 7 "text_hash" ["scale","way","text"] (spTH D):=by
 have GK:=EV (P:=P) (w:=w) (base:=base) T.toTxL;refine T.textHash.ok scTH (fun vs H Q E h=>?_) (fun f cdv A outer s H vs Q E hr h=>?_)
 .obtain⟨sc,a,es,n,t,rfl,_⟩:=h;rfl
 .obtain⟨sc,a,es,n,t,rfl,hS,hI,ha,ht,hn,k⟩:=h
  refine⟨_,Ab (Al (i:=3) scTH.nd rfl (inl rfl) (pgi T.hashStart))
   (Ab (Ba PassesOwn.never rfl (AE (pc GK hr (Aa (pv 0) (Aa (pv 1) (Aa (pv 2) Ac))))) (At (i:=4) scTH.nd rfl (inl rfl))
    (Af (Al (i:=3) scTH.nd rfl (inl rfl) (Ay N2 (Ay N9 (Ay NR (pv 3) (pv 4)) (pgi T.hashFactor)) (pgi T.hashSize)))))
   (Af (Aj (pv 3)))),?_⟩
  refine⟨_,rfl,_,rfl,_,rfl,sc,a,es,n,t,rfl,hS,hI,ha,ht,hn,fun H1 q s1 hq0 hq=>?_⟩;have k:∀H',Same H H'->Q (.int ((mixed (Lo.key es (howOf n) t):Nat):Int)) H':=k;generalize Lo.key es (howOf n) t=l at hq k
  refine⟨q,rfl,⟨_,aa hq⟩,Bt (K:=K) (a:=q) (xs:=nv l) (fun i Z H'=>H'=H1/\∃v4,Z=[some (.ref sc),some (.int (n:Int)),some (.ref a),some (.int ((mixed (l.take i):Nat):Int)),v4])
   ⟨rfl,none,by rw[List.take_zero,J8];rfl⟩ (fun i Z H' _ h=>by rw[h.1];exact aa hq) ?_ ?_⟩
  .rintro i y Z H' hi ⟨rfl,v4,rfl⟩;obtain⟨c,hc,rfl⟩:=BO hi;refine⟨_,rfl,_,rfl,_,_,rfl,rfl,_,_,rfl,rfl,.inr ⟨by decide,by decide⟩,_,_,rfl,rfl,(by show(0:Int)<18446744073709551616;decide),rfl,some (.int (c:Int)),?_⟩;have e:l.take (i+1)=l.take i++[c]:=by rw[take_add_one,hc];rfl
   have e2:mixed (l.take (i+1))=Nat.xor (mixed (l.take i)) c * 1099511628211 % 18446744073709551616:=by
    rw[e,Jf]
   have e3:Builtin.bitXor ((mixed (l.take i):Nat):Int) (c:Int) * 1099511628211 % 18446744073709551616=((mixed (l.take (i+1)):Nat):Int):=by
    rw[e2,MT,MB]
   rw[<-e3];rfl
  .rintro Z H' ⟨rfl,v4,rfl⟩;rw[Aq,take_length];exact⟨_,rfl,k _ s1⟩
theorem NX:∀n:Nat,n<32->(n - (n&&& 8))<32/\(n:Int) - Builtin.bitAnd (n:Int) 8=((n - (n&&& 8):Nat):Int)/\howOf (n - (n&&& 8))={howOf n with back:=false}:=by decide+kernel
theorem MS(l:List Nat)(k:Nat):cutV (nv l) none (some (k:Int))=nv (l.take k):=by
 unfold cutV;rw[HT.BR,Aq];show((nv l).drop 0).take (min k l.length - 0)=_;unfold nv;rw[drop_zero,Nat.sub_zero,<-map_take]
 congr 1;by_cases h:k<=l.length
 .rw[min_eq_left h]
 .rw[min_eq_right (by omega),take_of_length_le (le_refl _),take_of_length_le (by omega)]
def pfx(x:List Nat×List Nat):Bool:=x.2.isPrefixOf x.1
theorem scBW:FnScope ["scale","way","first","second","forward","row","beginning"] ["scale","way","first","second"] (defScope (top 51)):=fsc
def spBW(D:Ad):Sp:=fun vs H Q _=>∃(sc a b:Addr)(es:Lo.Order)(n:Nat)(x y:List Nat),vs=[.ref sc,.int (n:Int),.ref a,.ref b]/\ScAt D H sc es/\LM.OInv es/\H a=some (.lst (nv x))/\x.length<=1000/\H b=some (.lst (nv y))/\y.length<=1000/\n<32/\
 ∀H',Same H H'->Q (.bl (Lo.begins es (howOf n) x y)) H'
theorem O4(T:TxQ K mg D):Ok P w K mg base 6 "begins_with" ["scale","way","first","second"] (spBW D):=by
 have GV:=M8 (P:=P) (w:=w) (base:=base) T.toTxL;refine T.beginsWith.ok scBW (fun vs H Q E h=>?_) (fun f cdv A outer s H vs Q E hr h=>?_)
 .obtain⟨sc,a,b,es,n,x,y,rfl,_⟩:=h;rfl
 .obtain⟨sc,a,b,es,n,x,y,rfl,hS,hI,ha,hx,hb,hy,hn,k⟩:=h
  refine⟨_,Ab (Al (i:=4) scBW.nd rfl (inl rfl) (Ay Cm (pv 1) (Ay D3 (pv 1) (pgi T.fromEnd))))
   (Ab (Ba PassesOwn.never rfl (IQ (by rfl) T.zip (Aa (pc GV hr (Aa (pv 0) (Aa (pv 4) (Aa (pv 2) Ac)))) (Aa (pc GV hr (Aa (pv 0) (Aa (pv 4) (Aa (pv 3) Ac)))) Ac)))
    (Ef rfl (Bf (At (i:=5) scBW.nd rfl (inl rfl)) (Bf (At (i:=6) scBW.nd rfl (inl rfl)) Db)))
    (Af (Av (An (Nu hr.units) (BN B3 (pv 5) Gp (Bq (plen T.len (pv 6)))) (pv 6) (nomark _)) (Af (Aj CH)) Ao)))
   (Af (Aj CH))),?_⟩
  obtain⟨f1,f2,f3⟩:=NX n hn;have k:∀H',Same H H'->Q (.bl (((Lo.rowsOf es {howOf n with back:=false} x).zip (Lo.rowsOf es {howOf n with back:=false} y)).all pfx)) H':=k;rw[<-f3]at k;generalize n - (n&&& 8)=m at f1 f2 k;refine⟨_,rfl,_,rfl,_,_,rfl,rfl,_,_,rfl,rfl,?_⟩;simp only[f2];refine⟨_,rfl,_,rfl,_,rfl,sc,a,es,m,x,rfl,hS,hI,ha,hx,f1,fun H1 l1 rs1 s1 hl10 hl1 hL1 hr1=>?_⟩;refine⟨_,rfl,_,rfl,_,rfl,sc,b,es,m,y,rfl,hS.same s1,hI,s1 _ _ hb,hy,f1,fun H2 l2 rs2 s2 hl20 hl2 hL2 hr2=>?_⟩;have hlen:(Lo.rowsOf es (howOf m) x).length=(Lo.rowsOf es (howOf m) y).length:=by rw[Ct,Ct]
  generalize Lo.rowsOf es (howOf m) x=X at hL1 k hlen;generalize Lo.rowsOf es (howOf m) y=Y at hL2 k hlen;have hl12:=s2 _ _ hl1;have hL12:=hL1.mono fun b x h=>s2 _ _ h
  refine⟨l1,l2,_,_,rfl,aa hl12,aa hl2,Hm (K:=K) (a:=l1) (b:=l2) (xs:=rs1.map V.ref) (ys:=rs2.map V.ref) (fun i Z H'=>(∃v5 v6,Z=[some (.ref sc),some (.int (n:Int)),some (.ref a),some (.ref b),some (.int (m:Int)),v5,v6])/\Same H2 H'/\((X.zip Y).take i).all pfx=true)
   ⟨⟨none,none,rfl⟩,ad _,rfl⟩ (by rw[length_map,length_map,hL1.1,hL2.1,hlen]) (fun i Z H' _ h=>⟨aa (h.2.1 _ _ hl12),aa (h.2.1 _ _ hl2)⟩) ?_ ?_⟩
  .rintro i u v Z H3 Tt hu hv ⟨⟨v5,v6,rfl⟩,s3,hall⟩ hT;obtain⟨b1,hb1,rfl⟩:=AU hu;obtain⟨b2,hb2,rfl⟩:=AU hv;have hi1:i<X.length:=by rw[<-hL1.1];exact(List.getElem?_eq_some_iff.mp hb1).1
   obtain⟨x1,hx1⟩:∃x1,X[i]? =some x1:=⟨_,getElem?_eq_getElem hi1⟩;obtain⟨y1,hy1⟩:∃y1,Y[i]? =some y1:=⟨_,getElem?_eq_getElem (by omega)⟩;have st:Same H3 (aj H3 Tt (.tup [.ref b1,.ref b2])):=ae hT;refine⟨Tt,_,rfl,ab Ae,rfl,_,_,rfl,_,_,rfl,rfl,?_⟩;generalize aj H3 Tt (.tup [.ref b1,.ref b2])=H4 at st;have s24:=s3.trans st;have r1:=s24 _ _ (hL12.2 i b1 x1 hb1 hx1);have r2:=s24 _ _ (hL2.2 i b2 y1 hb2 hy1);dsimp only[gName,tIfS,tTest,tOp,tSl,tNoPart,tPart];refine⟨_,rfl,AG (Ah rfl) (.inl (aa r2)) _ ⟨_,rfl,b1,_,rfl,aa r1,fun p hp=>?_⟩⟩;rw[Aq,MS];have sp:Same H4 (aj H4 p (.lst (nv (x1.take y1.length)))):=ae hp;have hpu:(aj H4 p (.lst (nv (x1.take y1.length)))) p=some (.lst (nv (x1.take y1.length))):=Ae;generalize aj H4 p (.lst (nv (x1.take y1.length)))=H5 at sp hpu;refine⟨_,rfl,?_⟩;obtain⟨d,e,h1,h2,h3,h4,h5⟩:=HD (K:=K) hpu (sp _ _ r2);refine⟨d,e,h1,h2,h3,h4,_,rfl,?_⟩;rw[h5];have hz:(X.zip Y)[i]? =some (x1,y1):=by rw[List.getElem?_zip_eq_some];exact⟨hx1,hy1⟩
   have s05:=s1.trans (s2.trans (s24.trans sp));have hp2:pfx (x1,y1)=decide (x1.take y1.length=y1):=EE y1 x1;cases hd:decide (x1.take y1.length=y1)with
   |true=>
    refine iteF ⟨⟨_,_,rfl⟩,s24.trans sp,?_⟩;rw[take_add_one,hz,List.all_append,hall];show(true&&(pfx (x1,y1)&&true))=true;rw[hp2,hd];rfl
   |false=>
    have hf:((X.zip Y).all pfx)=false:=by
     rw[Bool.eq_false_iff];intro z;have:=all_eq_true.mp z (x1,y1) (mem_of_getElem? hz);rw[hp2,hd]at this;cases this
    rw[hf]at k;exact iteT (k _ s05)
  .rintro Z H3 ⟨_,s3,hall⟩
   have e:(X.zip Y).take (rs1.map V.ref).length=X.zip Y:=by
    rw[length_map,hL1.1];exact take_of_length_le (by rw[List.length_zip];omega)
   rw[e]at hall;rw[hall]at k;exact k _ (s1.trans (s2.trans s3))
def bfr:Nat->List Nat->List Nat
 |i,[]=>[i]
 |i,x::r=>i::bfr (i+x) r
theorem Hf:∀(l:List Nat)(i:Nat),(bfr i l).length=l.length+1
 |[],i=>rfl
 |x::l,i=>by show(bfr (i+x) l).length+1=_;rw[Hf l];rfl
theorem Ig:∀(l:List Nat)(i:Nat),(bfr i l)[l.length]? =some (i+l.sum)
 |[],i=>by simp[bfr]
 |x::l,i=>by
  show(i::bfr (i+x) l)[l.length+1]? =_;rw[List.getElem?_cons_succ,Ig l,List.sum_cons,Nat.add_assoc]
theorem Iy:∀(l:List Nat)(i x:Nat),bfr i (l++[x])=bfr i l++[i+l.sum+x]
 |[],i,x=>rfl
 |y::l,i,x=>by
  show i::bfr (i+y) (l++[x])=i::bfr (i+y) l++[i+(y::l).sum+x];rw[Iy l,List.sum_cons,List.cons_append,Nat.add_assoc i y]
theorem K8:∀(l:List Nat)(i:Nat),(∀x∈l,1<=x)->(bfr i l).Pairwise (· < ·)/\∀y∈bfr i l,i<=y
 |[],i,_=>⟨List.pairwise_singleton _ _,fun y hy=>by rw[mem_singleton.mp hy];exact le_refl _⟩
 |x::l,i,h=>by
  obtain⟨h1,h2⟩:=K8 l (i+x) fun y hy=>h y (mem_cons_of_mem _ hy);have hx:=h x mem_cons_self;refine⟨pairwise_cons.mpr ⟨fun y hy=>?_,h1⟩,fun y hy=>?_⟩
  .have:=h2 y hy;omega
  .rcases mem_cons.mp hy with e|hy
   .rw[e];exact le_refl _
   .have:=h2 y hy;omega
theorem Ih(f:List Nat->Nat×List Lo.Item)(hf:∀s,(f s).1=s.length):∀(l:List (List Nat))(i:Nat),Lo.bordersFrom i (l.map f)=bfr i (l.map List.length)
 |[],i=>rfl
 |s::l,i=>by
  show i::Lo.bordersFrom (i+(f s).1) (l.map f)=i::bfr (i+s.length) (l.map List.length);rw[hf,Ih f hf l]
theorem Dq{es:Lo.Order}(I:LM.OInv es)(t:List Nat):borders es t=bfr 0 ((tk es t).map List.length):=by
 unfold borders Lo.taking;rw[Eh I];exact Ih _ (fun _=>rfl) _ _
theorem IP{es:Lo.Order}(I:LM.OInv es)(t:List Nat):(borders es t).Pairwise (· < ·):=by
 rw[Dq I];refine(K8 _ _ fun x hx=>?_).1;obtain⟨s,hs,rfl⟩:=mem_map.mp hx;exact(DQ (es:=es) t.length t s hs).1
theorem Hv{es:Lo.Order}(I:LM.OInv es)(t:List Nat):(borders es t).length<=t.length+1:=by
 rw[Dq I,Hf,length_map];have:=Cq (es:=es) t.length t;unfold tk;omega
theorem scBO:FnScope ["scale","text","borders","string"] ["scale","text"] (defScope (top 53)):=fsc
def spBO(D:Ad):Sp:=fun vs H Q _=>∃(sc a:Addr)(es:Lo.Order)(t:List Nat),vs=[.ref sc,.ref a]/\ScAt D H sc es/\LM.OInv es/\H a=some (.lst (nv t))/\t.length<=1000/\newRow H (borders es t) Q
theorem OY(T:TxQ K mg D):Ok P w K mg base 4 "borders_of" ["scale","text"] (spBO D):=by
 have GS:=M1 (P:=P) (w:=w) (base:=base) T.toTxH;refine T.bordersOf.ok scBO (fun vs H Q E h=>?_) (fun f cdv A outer s H vs Q E hr h=>?_)
 .obtain⟨sc,a,es,t,rfl,_⟩:=h;rfl
 .obtain⟨sc,a,es,t,rfl,hS,hI,ha,ht,k⟩:=h
  refine⟨_,Ab (Al (i:=2) scBO.nd rfl (inl rfl) (As (Aa Ag Ac)))
   (Ab (Ba PassesOwn.never rfl (AE (pc GS hr (Aa (pv 0) (Aa (pv 1) Ac)))) (At (i:=3) scBO.nd rfl (inl rfl))
    (Af (Au (AR plainAttrs_list PySem.F.slot_list_append PySem.F.type_list_append AD (pv 2) (Aa (Ay AN (Ar Ap (pv 2) (Ay Cm (plen T.len (pv 2)) Ag) (fun _ _=>rfl)) (plen T.len (pv 3))) Ac)))))
   (Af (Aj (pv 2)))),?_⟩
  have hs:sizeLine=16777216:=sizeLine_eq;have htl:=Cq (es:=es) t.length t;rw[Dq hI]at k;refine⟨(by show 1<=sizeLine;decide),fun q hq=>?_⟩;have sq:Same H (aj H q (.lst [V.int 0])):=ae hq;have hqu:(aj H q (.lst [V.int 0])) q=some (.lst (nv (bfr 0 []))):=Ae;generalize aj H q (.lst [V.int 0])=H0 at sq hqu;refine⟨_,rfl,_,rfl,sc,a,es,t,rfl,hS.same sq,.inl (sq _ _ ha),ht,fun H1 l bs s1 hl0 hl hL=>?_⟩;have hss:tk es t=tks es t.length t:=rfl;rw[<-hss]at htl;generalize tk es t=ss at hL htl k;have nlq:l≠q:=(Ai hqu hl0).symm;have A0:Acc H H1 q (bfr 0 []):=⟨hq,sq.trans s1,s1 _ _ hqu⟩
  refine⟨l,rfl,⟨_,aa hl⟩,Bt (K:=K) (a:=l) (xs:=bs.map V.ref) (fun i Z H'=>∃v3,Z=[some (.ref sc),some (.ref a),some (.ref q),v3]/\Acc H H' q (bfr 0 ((ss.take i).map List.length))/\H' l=some (.lst (bs.map V.ref))/\LsAt StrAt H' bs ss)
   ⟨none,rfl,A0,hl,hL⟩ (fun i Z H' _ ⟨_,_,_,h,_⟩=>aa h) ?_ ?_⟩
  .rintro i y Z H2 hi ⟨v3,rfl,A2,hl2,hL2⟩;obtain⟨b,hb,rfl⟩:=AU hi;have hil:i<ss.length:=by rw[<-hL.1];exact(List.getElem?_eq_some_iff.mp hb).1
   obtain⟨x,hx⟩:∃x,ss[i]? =some x:=⟨_,getElem?_eq_getElem hil⟩;have hxb:=hL2.2 i b x hb hx;have htk:ss.take (i+1)=ss.take i++[x]:=by rw[take_add_one,hx];rfl
   have hml:((ss.take i).map List.length).length=i:=by rw[length_map,length_take];omega
   have hbl:=Hf ((ss.take i).map List.length) 0;have hbt:=Ig ((ss.take i).map List.length) 0;have hbs:=Iy ((ss.take i).map List.length) 0 x.length;rw[hml]at hbl hbt
   have hnext:bfr 0 ((ss.take (i+1)).map List.length)=bfr 0 ((ss.take i).map List.length)++[0+((ss.take i).map List.length).sum+x.length]:=by
    rw[htk,map_append];exact hbs
   refine⟨_,rfl,.inl ⟨rfl,_,aa A2.at_⟩,?_⟩;dsimp only[tCons,tOp];refine⟨_,rfl,AG (Ah rfl) (.inl (aa A2.at_)) _ ⟨_,_,rfl,rfl,?_⟩⟩;rw[Aq,hbl];refine⟨q,_,_,_,rfl,rfl,aa A2.at_,AA (j:=i) (by omega) (Dz hbt),?_⟩;refine AG (Ah rfl) (.inr (ab hxb)) _ ⟨_,_,rfl,rfl,?_⟩;rw[Aq];refine⟨q,_,_,rfl,rfl,A2.at_,(by rw[Aq];omega),?_⟩
   have e5:nv (bfr 0 ((ss.take i).map List.length))++[V.int (((0+((ss.take i).map List.length).sum:Nat):Int)+((x.length:Nat):Int))]=nv (bfr 0 ((ss.take (i+1)).map List.length)):=by
    rw[hnext,Bi]
    congr 1
   rw[e5];exact⟨_,rfl,A2.put,by rw[Am nlq];exact hl2,hL2.mono fun c z h=>by show(aj _ _ _) c=_;rw[Am (AC h A2.at_ (fun z=>HO.noConfusion z))];exact h⟩
  .rintro Z H2 ⟨v3,rfl,A2,_⟩;refine⟨_,rfl,k H2 q A2.same hq ?_⟩;have:=A2.at_;rw[length_map,hL.1,take_length]at this;exact this
theorem FR{K:Frag}{a:Addr}{B:List Nat}{p:Nat->Bool}{tt:TT}(v:Nat){Z:St}{Q:Hp->Prop}{H1:Hp}{D:Addr}(hv:v<Z.length)(hD:H1 D=none)(ha:H1 a=some (.lst (nv B)))(hz:B.length<=10000)
  (hs:∀(x:Nat)(H:Hp),x∈B->Same H1 H->∀R:Bool->Hp->Prop,(∀H',Same H H'->R (p x) H')->tt ((wipe Z [v]).set v (some (.int (x:Int)))) H R)
  (hd:∀H,Same H1 H->H D=some (.lst (nv (B.filter p)))->Q H):
  ∃W:Nat->Nat->Hp->Prop,(∃m,W 0 m (aj H1 D (.lst [])))/\∀i m H,W i m H->
   ((Itl K a).stop i H/\Q H)\/((Itl K a).go i H/\∃Nx:Hp->Prop,(∀H',Nx H'->∃m',m'<m/\W (i+1) m' H')/\∀x H',(Itl K a).yld i H x H'->gName v x (wipe Z [v]) H' fun Z2 H2=>wipe Z2 [v]=wipe Z [v]/\tt Z2 H2 fun b H3=>
    if b=true then tVar v Z2 H3 fun y H4=>∃acc,H4 D=some (.lst acc)/\acc.length<sizeLine/\Nx (aj H4 D (.lst (acc++[y]))) else Nx H3):=by
 have hs0:sizeLine=16777216:=sizeLine_eq;refine Ci (xs:=nv B) (Pv:=fun i H=>Same H1 H/\H D=some (.lst (nv ((B.take i).filter p)))) ⟨ae hD,Ae⟩ (fun i H _ q=>aa (q.1 _ _ ha)) (fun i x H hx q=>?_) fun H q=>hd H q.1 (by rw[q.2,Aq,take_length]);obtain⟨c,hc,rfl⟩:=BO hx;have ht:B.take (i+1)=B.take i++[c]:=by rw[take_add_one,hc];rfl
 have hwl:(wipe Z [v]).length=Z.length:=by show((wipe Z []).set v none).length=_;rw[length_set];rfl
 refine⟨?_,hs c H (mem_of_getElem? hc) q.1 _ fun H' s'=>?_⟩
 .show(((wipe Z []).set v none).set v (some (V.int (c:Int)))).set v none=(wipe Z []).set v none;rw[set_set,set_set]
 .cases hp:p c with
  |true=>
   refine iteT ⟨_,List.getElem?_set_self (by rw[hwl];exact hv),_,s' _ _ q.2,?_,?_,?_⟩
   .rw[Aq];have:=length_filter_le p (B.take i);rw[length_take]at this;omega
   .exact fun b o e=>by rw[Am (Ai e hD)];exact s' _ _ (q.1 _ _ e)
   .rw[Ae,ht,filter_append,Bi];show _=some (HO.lst (nv ((B.take i).filter p)++nv ([c].filter p)));rw[filter_cons,if_pos hp];rfl
  |false=>
   refine iteF ⟨q.1.trans s',?_⟩;rw[ht,filter_append,filter_cons,if_neg (by rw[hp];exact Bool.false_ne_true),List.filter_nil,append_nil];exact s' _ _ q.2
theorem Ji:∀{l:List Nat}{j:Nat},l.Pairwise (· < ·)->j∈l->(∀y∈l,y<=j)->l.getLast? =some j
 |[],j,_,h,_=>by cases h
 |[x],j,_,h,_=>by rw[mem_singleton.mp h];rfl
 |x::y::r,j,hp,h,hm=>by
  obtain⟨h1,h2⟩:=pairwise_cons.mp hp;have hy:=hm y (mem_cons_of_mem _ mem_cons_self);have hxy:=h1 y mem_cons_self;rw[List.getLast?_cons_cons];refine Ji h2 ?_ fun z hz=>hm z (mem_cons_of_mem _ hz);rcases mem_cons.mp h with e|h
  .omega
  .exact h
theorem Ju(l:List Nat)(i j:Nat):cutV (nv l) (some (i:Int)) (some (j:Int))=nv (between l i j):=by
 unfold cutV between;rw[HT.BR,HT.BR,Aq];unfold nv;rw[<-map_drop,<-map_take]
 congr 1;by_cases h1:i<=l.length
 .rw[min_eq_left h1];by_cases h2:j<=l.length
  .rw[min_eq_left h2]
  .rw[min_eq_right (by omega),take_of_length_le (by rw[length_drop];omega),take_of_length_le (by rw[length_drop];omega)]
 .rw[min_eq_right (by omega:l.length<=i),drop_of_length_le (le_refl _),drop_of_length_le (by omega:l.length<=i)];simp
theorem Nq(es:Lo.Order)(h:Lo.How)(a b:List Nat):(Lo.compare es h a b==0)=decide (Lo.key es h a=Lo.key es h b):=by
 rw[<-CA,Bool.eq_iff_iff,beq_iff_eq,decide_eq_true_iff];exact⟨EL,fun e=>by rw[e];exact Hd _⟩
theorem scFT:FnScope ["scale","way","start","text","sought","sought_key","borders","first","border","ends","end"] ["scale","way","start","text","sought"] (defScope (top 52)):=fsc
def spFT(D:Ad):Sp:=fun vs H Q _=>∃(sc a b:Addr)(es:Lo.Order)(n i:Nat)(x y:List Nat),vs=[.ref sc,.int (n:Int),.int (i:Int),.ref a,.ref b]/\ScAt D H sc es/\LM.OInv es/\H a=some (.lst (nv x))/\x.length<=1000/\H b=some (.lst (nv y))/\y.length<=1000/\n<32/\
 (∀H',Same H H'->Lo.found es (howOf n) x y i=none->Q .non H')/\∀(H':Hp)(t:Addr)(z:Nat×Nat),Same H H'->Lo.found es (howOf n) x y i=some z->H' t=some (.tup (nv [z.1,z.2]))->Q (.ref t) H'
theorem Oq(T:TxQ K mg D):Ok P w K mg base 7 "find_text" ["scale","way","start","text","sought"] (spFT D):=by
 have GK:=EV (P:=P) (w:=w) (base:=base) T.toTxL;have GB:=OY (P:=P) (w:=w) (base:=base) T;refine T.findText.ok scFT (fun vs H Q E h=>?_) (fun f cdv A outer s H vs Q E hr h=>?_)
 .obtain⟨sc,a,b,es,n,i,x,y,rfl,_⟩:=h;rfl
 .obtain⟨sc,a,b,es,n,i,x,y,rfl,hS,hI,ha,hx,hb,hy,hn,k0,k1⟩:=h;have hr4:Room 4 _:=hr.mono (by decide)
  refine⟨_,Ab (Al (i:=5) scFT.nd rfl (Or.inr rfl) (pc GK hr (Aa (pv 0) (Aa (pv 1) (Aa (pv 4) Ac)))))
   (Ab (Al (i:=6) scFT.nd rfl (inl rfl) (pc GB hr4 (Aa (pv 0) (Aa (pv 3) Ac))))
   (Ab (Ba PassesOwn.never rfl (AE (BQ (own:=[("border",8)]) rfl scFT.nd (AE (pv 6)) (blk rfl)
     (fun s H C cl fp=>At (i:=8) scFT.nd rfl (inl rfl)) (fun s H C cl fp=>Cz (An HE (pv 8) (pv 2) (nomark _))) (fun s H C cl fp=>pv 8))) (At (i:=7) scFT.nd rfl (Or.inr rfl))
    (Ab (HQ (i:=9) (own:=[("end",10)]) rfl scFT.nd rfl rfl rfl (AE (pv 6)) (blk rfl) (fun s H C cl fp=>At (i:=10) scFT.nd rfl (inl rfl))
     (fun s H C cl fp=>Cz (PW.pt (BP (An HE (pv 10) (pv 7) (nomark _)) (Bx (An (r:=rEqD K) (IW hr.units) (pc GK hr (Aa (pv 0) (Aa (pv 1) (Aa (BN (r:=rSlL K) B3 (pv 3) (Bq (pv 7)) (Bq (pv 10))) Ac)))) (pv 5) (nomark _)))))) (fun s H C cl fp=>pv 10))
    (Af (Av (An HH (plen T.len (pv 9)) Ag (nomark _)) (Af (Aj (AV (Aa (pv 7) (Aa (BF (IN rfl) (by rfl) T.max boot_max (Aa (pv 9) Ac)) Ac))))) Ao))))
   (Af (Aj Bc)))),?_⟩
  have hs:sizeLine=16777216:=sizeLine_eq;refine⟨_,rfl,_,rfl,_,rfl,sc,b,es,n,y,rfl,hS,hI,hb,hy,hn,fun H1 q1 s1 hq10 hq1=>?_⟩;refine⟨_,rfl,_,rfl,sc,a,es,x,rfl,hS.same s1,hI,s1 _ _ ha,hx,fun H2 q2 s2 hq20 hq2=>?_⟩;have s02:=s1.trans s2;have hbl:=Hv hI x;have hbu:=IP hI x;have hF:∀z,Lo.found es (howOf n) x y i=z->((borders es x).filter fun(j:Nat)=>decide (i<=j)).findSome? (fun(i:Nat)=>(((borders es x).filter fun(j:Nat)=>decide (i<=j)&&Lo.compare es (howOf n) (between x i j) y==0).getLast?).map fun(j:Nat)=>(i,j))=z:=fun z e=>e;have k0:∀H',Same H H'->((borders es x).filter fun(j:Nat)=>decide (i<=j)).findSome? (fun(i:Nat)=>(((borders es x).filter fun(j:Nat)=>decide (i<=j)&&Lo.compare es (howOf n) (between x i j) y==0).getLast?).map fun(j:Nat)=>(i,j))=none->Q .non H':=k0;have k1:∀(H':Hp)(t:Addr)(z:Nat×Nat),Same H H'->((borders es x).filter fun(j:Nat)=>decide (i<=j)).findSome? (fun(i:Nat)=>(((borders es x).filter fun(j:Nat)=>decide (i<=j)&&Lo.compare es (howOf n) (between x i j) y==0).getLast?).map fun(j:Nat)=>(i,j))=some z->H' t=some (.tup (nv [z.1,z.2]))->Q (.ref t) H':=k1;clear hF;generalize hBd:borders es x=B at hq2 hbl hbu k0 k1;have hq12:=s2 _ _ hq1;dsimp only[tSeq,tFor,iList,tLc];refine⟨_,rfl,q2,rfl,⟨_,aa hq2⟩,fun D1 hD1=>?_⟩;refine FR (K:=K) (B:=B) (p:=fun j=>decide (i<=j)) 8 (by show 8<11;decide) hD1 hq2 (by omega) (fun c H3 _ s3 R hR=>?_) fun H3 s3 hD3=>?_
  .refine AZ (g:=fun i j=>decide (j<=i)) (i:=(c:Int)) (j:=(i:Int)) (Ah rfl) (Ah rfl) _ ?_;have e:decide ((i:Int)<=(c:Int))=decide (i<=c):=by rw[decide_eq_decide];omega
   rw[e];exact hR _ (ad _)
  have hsub:∀j∈B.filter (fun j=>decide (i<=j)),j∈B:=fun j hj=>(mem_filter.mp hj).1;have hll:=length_filter_le (fun j=>decide (i<=j)) B;generalize B.filter (fun j=>decide (i<=j))=L1 at hD3 k0 k1 hsub hll;have s03:=s02.trans s3
  refine⟨D1,rfl,⟨_,aa hD3⟩,Bt (K:=K) (a:=D1) (xs:=nv L1) (D:={nx:=tRet (tC .non) {nx:=fun _ H'=>Q .non H',rt:=Q},rt:=Q})
   (fun j Z H'=>(∃v7 v8 v9 v10,Z=[some (.ref sc),some (.int (n:Int)),some (.int (i:Int)),some (.ref a),some (.ref b),some (.ref q1),some (.ref q2),v7,v8,v9,v10])/\Same H3 H'/\
    ∀c∈L1.take j,(B.filter fun(j:Nat)=>decide (c<=j)&&Lo.compare es (howOf n) (between x c j) y==0).getLast? =none)
   ⟨⟨none,none,none,none,rfl⟩,ad _,fun c hc=>by cases hc⟩ (fun j Z H' _ h=>aa (h.2.1 _ _ hD3)) ?_ ?_⟩
  .rintro j u Z H4 hu ⟨⟨v7,v8,v9,v10,rfl⟩,s4,hno⟩;obtain⟨c,hc,rfl⟩:=BO hu;have s04:=s03.trans s4;have hB4:=s4 _ _ (s3 _ _ hq2);have hk4:=s4 _ _ (s3 _ _ hq12);have hx4:=s04 _ _ ha;have hS4:=hS.same s04;dsimp only[gName,tSeq,tLc,iList];refine⟨_,rfl,q2,rfl,⟨_,aa hB4⟩,fun D2 hD2=>?_⟩;refine FR (K:=K) (B:=B) (p:=fun j=>decide (c<=j)&&Lo.compare es (howOf n) (between x c j) y==0) 10 (by show 10<11;decide) hD2 hB4 (by omega) (fun e H5 _ s5 R hR=>?_) fun H5 s5 hD5=>?_
   .refine AZ (g:=fun i j=>decide (j<=i)) (i:=(e:Int)) (j:=(c:Int)) (Ah rfl) (Ah rfl) _ ?_;have e1:decide ((c:Int)<=(e:Int))=decide (c<=e):=by rw[decide_eq_decide];omega
    rw[e1];have hR:∀H',Same H5 H'->R (decide (c<=e)&&Lo.compare es (howOf n) (between x c e) y==0) H':=hR;rw[Nq]at hR;cases hce:decide (c<=e)with
    |false=>
     rw[hce]at hR;exact iteF (hR _ (ad _))
    |true=>
     rw[hce,Bool.true_and]at hR;refine iteT ?_;refine⟨_,rfl,_,rfl,_,rfl,_,rfl,_,rfl,_,rfl,_,rfl,a,_,rfl,aa (s5 _ _ hx4),fun p hp=>?_⟩;rw[Ju];have sp:Same H5 (aj H5 p (.lst (nv (between x c e)))):=ae hp;have hpu:(aj H5 p (.lst (nv (between x c e)))) p=some (.lst (nv (between x c e))):=Ae;generalize aj H5 p (.lst (nv (between x c e)))=H6 at sp hpu
     have hlb:(between x c e).length<=1000:=by
      unfold between;rw[length_take,length_drop];omega
     refine⟨sc,p,es,n,_,rfl,(hS4.same s5).same sp,hI,hpu,hlb,hn,fun H7 q7 s7 hq70 hq7=>?_⟩;refine⟨_,rfl,?_⟩;obtain⟨d,d2,h1,h2,h3,h4,h5⟩:=HD (K:=K) hq7 (s7 _ _ (sp _ _ (s5 _ _ hk4)));refine⟨d,d2,h1,h2,h3,h4,_,rfl,?_⟩;rw[h5];exact hR _ (sp.trans s7)
   have hE:∀z,z∈B.filter (fun j=>decide (c<=j)&&Lo.compare es (howOf n) (between x c j) y==0)->True:=fun _ _=>trivial;have hup:(B.filter (fun j=>decide (c<=j)&&Lo.compare es (howOf n) (between x c j) y==0)).Pairwise (· < ·):=hbu.filter _;generalize hEg:B.filter (fun j=>decide (c<=j)&&Lo.compare es (howOf n) (between x c j) y==0)=Es at hD5 hup;have s05:=s04.trans s5;refine AZ (g:=fun i j=>decide (j<i)) (AG (Ah rfl) (.inl (aa hD5))) ev_c _ ?_;rw[Aq];have ht1:L1.take (j+1)=L1.take j++[c]:=by rw[take_add_one,hc];rfl
   cases hEl:Es with
   |nil=>
    have:decide ((0:Int)<((([]:List Nat).length:Nat):Int))=false:=by decide
    rw[this];refine iteF ⟨⟨_,_,_,_,rfl⟩,s4.trans s5,fun z hz=>?_⟩;rw[ht1]at hz;rcases mem_append.mp hz with hz|hz
    .exact hno z hz
    .rw[mem_singleton.mp hz,hEg,hEl];rfl
   |cons e0 er=>
    have:decide ((0:Int)<(((e0::er).length:Nat):Int))=true:=decide_eq_true (by rw[length_cons];omega);rw[this];rw[hEl]at hD5 hup hEg;refine iteT ⟨_,rfl,_,rfl,D2,(e0::er).map (fun(z:Nat)=>(z:Int)),rfl,(by rw[<-Jl];exact aa hD5),(by rw[length_map];exact succ_pos _),fun m hm hmx=>?_⟩;obtain⟨e,he,rfl⟩:=mem_map.mp hm;have hlast:(e0::er).getLast? =some e:=Ji hup he fun z hz=>by have:=hmx _ (List.mem_map_of_mem hz);omega
    refine⟨(by show 2<=sizeLine;decide),fun t ht=>?_⟩;refine k1 _ t (c,e) (s05.trans (ae ht)) ?_ Ae;have hsp:L1=L1.take j++L1.drop j:=(List.take_append_drop j L1).symm
    have hdr:L1.drop j=c::L1.drop (j+1):=by
     have hj:=(List.getElem?_eq_some_iff.mp hc).1;rw[drop_eq_getElem_cons hj,Option.some.inj ((getElem?_eq_getElem hj).symm.trans hc)]
    have hn1:(L1.take j).findSome? (fun(i:Nat)=>((B.filter fun(j:Nat)=>decide (i<=j)&&Lo.compare es (howOf n) (between x i j) y==0).getLast?).map fun(j:Nat)=>(i,j))=none:=by
     rw[List.findSome?_eq_none_iff];intro z hz;rw[hno z hz];rfl
    rw[hsp,List.findSome?_append,hn1,hdr];rw[Option.none_or,List.findSome?_cons,hEg,hlast];rfl
  .rintro Z H4 ⟨_,s4,hno⟩;rw[Aq,take_length]at hno;refine k0 _ (s03.trans s4) ?_;rw[List.findSome?_eq_none_iff];intro z hz;rw[hno z hz];rfl
theorem Mj(l:List Nat)(i n:Nat)(a b:Int)(ha:a=(i:Int))(hb:b=((i+n:Nat):Int)):cutV (nv l) (some a) (some b)=nv ((l.drop i).take n):=by
 subst ha hb;rw[Ju];unfold between;rw[Nat.add_sub_cancel_left]
theorem scIL:FnScope ["row","place"] ["row"] (defScope (top 80)):=fsc
def spIL:Sp:=fun vs H Q _=>∃(a:Addr)(l:List Nat),vs=[.ref a]/\H a=some (.lst (nv l))/\Q (.bl (tin l).isSome) H
theorem JM(T:TxQ K mg D):Ok P w K mg base 1 "is_list" ["row"] spIL:=by
 refine T.isList.ok scIL (fun vs H Q E h=>?_) (fun f cdv A outer s H vs Q E hr h=>?_)
 .obtain⟨a,l,rfl,_⟩:=h;rfl
 .obtain⟨a,l,rfl,ha,k⟩:=h
  refine⟨_,Ab (Al (i:=1) scIL.nd rfl (inl rfl) Ag)
   (Ab (A9 PassesOwn.never (An CG (pv 1) (plen T.len (pv 0)) (nomark _))
    (Af (Cs (i:=1) scIL.nd rfl (inl rfl) (Ay AN Ag (Ar Ap (pv 0) (pv 1) (fun _ _=>rfl))) Cp)))
   (Af (Aj (AW Be (pv 1) (plen T.len (pv 0)) (nomark _))))),?_⟩
  refine BI (fun m Z H'=>H'=H/\∃p:Nat,m=l.length - p/\Z=[some (.ref a),some (.int (p:Int))]/\(tin l).isSome=(decide (p<=l.length)&&(tin (l.drop p)).isSome))
   ⟨_,rfl,0,rfl,rfl,by rw[decide_eq_true (zero_le _),Bool.true_and,drop_zero]⟩ ?_
  rintro m Z H' ⟨rfl,p,rfl,rfl,hT⟩;refine⟨_,AZ (Ah rfl) (AG (Ah rfl) (.inl (aa ha))),fun z=>?_,fun z=>?_⟩
  .have hp:p<l.length:=by have:=of_decide_eq_true z;rw[Aq]at this;omega
   obtain⟨n,hn⟩:∃n,l[p]? =some n:=⟨_,getElem?_eq_getElem hp⟩;refine⟨_,rfl,_,rfl,_,rfl,a,_,_,_,rfl,rfl,aa ha,AA (j:=p) rfl (Dz hn),_,_,rfl,rfl,_,_,rfl,rfl,l.length - (p+1+n),(by omega),rfl,p+1+n,rfl,?_,?_⟩
   .have e:(p:Int)+(1+(n:Int))=((p+1+n:Nat):Int):=by omega
    rw[<-e];rfl
   .rw[hT,K6 hn,decide_eq_true (by omega:p<=l.length),Bool.true_and];by_cases q:l.length<p+1+n
    .rw[if_pos q,decide_eq_false (by omega:¬p+1+n<=l.length)];rfl
    .rw[if_neg q,decide_eq_true (by omega:p+1+n<=l.length),Bool.true_and];cases tin (l.drop (p+1+n))<;>rfl
  .have hp:l.length<=p:=by have:=of_decide_eq_false z;rw[Aq]at this;omega
   refine⟨_,rfl,AG (Ah rfl) (.inl (aa ha)) _ ⟨rfl,?_⟩⟩;rw[Aq]
   have e:decide (V.int (p:Int)=V.int ((l.length:Nat):Int))=(tin l).isSome:=by
    rw[hT];by_cases q:p=l.length
    .subst q;rw[decide_eq_true rfl,decide_eq_true (le_refl _),List.drop_length,Jt];rfl
    .rw[decide_eq_false (fun z=>q (by injection z with z;omega)),decide_eq_false (by omega)];rfl
   rw[e];exact k
theorem scTO:FnScope ["row","texts","place","end"] ["row"] (defScope (top 81)):=fsc
def spTO:Sp:=fun vs H Q _=>∃(a:Addr)(l:List Nat),vs=[.ref a]/\H a=some (.lst (nv l))/\l.length<=1000/\
 ∀(H':Hp)(q:Addr)(bs:List Addr)(xs:List (List Nat)),Same H H'->H q=none->H' q=some (.lst (bs.map V.ref))->LsAt RowAt H' bs xs->q∉bs->xs.length<=l.length->(∀x∈xs,x.length<=l.length)->(∀y,tin l=some y->xs=y)->Q (.ref q) H'
theorem JK(T:TxQ K mg D):Ok P w K mg base 1 "texts_of" ["row"] spTO:=by
 refine T.textsOf.ok scTO (fun vs H Q E h=>?_) (fun f cdv A outer s H vs Q E hr h=>?_)
 .obtain⟨a,l,rfl,_⟩:=h;rfl
 .obtain⟨a,l,rfl,ha,hz,k⟩:=h
  refine⟨_,Ab (Al (i:=1) scTO.nd rfl (inl rfl) (As Ac)) (Ab (Al (i:=2) scTO.nd rfl (inl rfl) Ag)
   (Ab (A9 PassesOwn.never (An CG (pv 2) (plen T.len (pv 0)) (nomark _))
    (Ab (Al (i:=3) scTO.nd rfl (inl rfl) (Ay AN (Ay AN (pv 2) Ag) (Ar Ap (pv 0) (pv 2) (fun _ _=>rfl))))
    (Ab (Au (AR plainAttrs_list PySem.F.slot_list_append PySem.F.type_list_append AD (pv 1) (Aa (BN B3 (pv 0) (Bq (Ay AN (pv 2) Ag)) (Bq (pv 3))) Ac)))
    (Af (Al (i:=2) scTO.nd rfl (inl rfl) (pv 3))))))
   (Af (Aj (pv 1))))),?_⟩
  have hs:sizeLine=16777216:=sizeLine_eq;refine⟨zero_le _,fun q hq=>?_⟩;have sq:Same H (aj H q (.lst [])):=ae hq
  refine BI (fun m Z H'=>∃(p:Nat)(bs:List Addr)(xs:List (List Nat))(v3:Option V),m=l.length - p/\Z=[some (.ref a),some (.ref q),some (.int (p:Int)),v3]/\Same H H'/\H' q=some (.lst (bs.map V.ref))/\LsAt RowAt H' bs xs/\q∉bs/\xs.length<=min p l.length/\(∀x∈xs,x.length<=l.length)/\
    ∀y,tin l=some y->p<=l.length/\∃z,tin (l.drop p)=some z/\y=xs++z)
   ⟨_,0,[],[],none,rfl,rfl,sq,Ae,LsAt.nil,(by simp),zero_le _,fun x hx=>(by cases hx),fun y e=>⟨zero_le _,y,e,rfl⟩⟩ ?_
  rintro m Z H1 ⟨p,bs,xs,v3,rfl,rfl,s1,hq1,hL,hqb,hxl,hxe,hT⟩;have ha1:=s1 _ _ ha;refine⟨_,AZ (Ah rfl) (AG (Ah rfl) (.inl (aa ha1))),fun z=>?_,fun z=>?_⟩
  .have hp:p<l.length:=by have:=of_decide_eq_true z;rw[Aq]at this;omega
   obtain⟨n,hn⟩:∃n,l[p]? =some n:=⟨_,getElem?_eq_getElem hp⟩;refine⟨_,rfl,_,_,rfl,rfl,_,rfl,_,rfl,a,_,_,_,rfl,rfl,aa ha1,AA (j:=p) rfl (Dz hn),_,_,rfl,rfl,?_⟩;refine⟨_,rfl,.inl ⟨rfl,_,aa hq1⟩,_,rfl,_,rfl,_,_,rfl,rfl,_,rfl,_,rfl,_,rfl,a,_,rfl,aa ha1,fun b hb=>?_⟩;rw[Mj l (p+1) n _ _ (by omega) (by omega)];have sb:Same H1 (aj H1 b (.lst (nv ((l.drop (p+1)).take n)))):=ae hb;have hbu:(aj H1 b (.lst (nv ((l.drop (p+1)).take n)))) b=some (.lst (nv ((l.drop (p+1)).take n))):=Ae;generalize aj H1 b (.lst (nv ((l.drop (p+1)).take n)))=H2 at sb hbu;have hq2:=sb _ _ hq1;have nbq:b≠q:=(Ai hq1 hb).symm;have hbl:bs.length=xs.length:=hL.1;refine⟨q,_,_,rfl,rfl,hq2,(by rw[length_map,hbl];omega),?_⟩;rw[Bw];refine⟨_,rfl,l.length - (p+1+n),(by omega),p+1+n,bs++[b],xs++[(l.drop (p+1)).take n],some (.int ((p:Int)+1+(n:Int))),rfl,?_,?_,Ae,?_,?_,?_,?_,?_⟩
   .have e:(p:Int)+1+(n:Int)=((p+1+n:Nat):Int):=by omega
    rw[<-e];rfl
   .exact fun c o e=>by rw[Am (Ai e hq)];exact sb _ _ (s1 _ _ e)
   .refine((hL.mono fun c x h=>sb _ _ h).snoc hbu).monoM fun c x hc h=>?_;show(aj _ _ _) c=_;rw[Am]
    .exact h
    .rcases mem_append.mp hc with z|z
     .exact fun e=>hqb (e▸z)
     .rw[mem_singleton.mp z];exact nbq
   .intro z;rcases mem_append.mp z with z|z
    .exact hqb z
    .exact nbq (mem_singleton.mp z).symm
   .rw[length_append];show xs.length+1<=_;omega
   .intro x hx;rcases mem_append.mp hx with hx|hx
    .exact hxe x hx
    .rw[mem_singleton.mp hx,length_take,length_drop];omega
   .intro y hy;obtain⟨_,z,hz1,hz2⟩:=hT y hy;rw[K6 hn]at hz1;by_cases q:l.length<p+1+n
    .rw[if_pos q]at hz1;cases hz1
    .rw[if_neg q]at hz1;obtain⟨w2,hw,rfl⟩:=map_eq_some_iff.mp hz1;exact⟨by omega,w2,hw,by rw[hz2,append_assoc];rfl⟩
  .have hp:l.length<=p:=by have:=of_decide_eq_false z;rw[Aq]at this;omega
   refine⟨_,rfl,k H1 q bs xs s1 hq hq1 hL hqb (by omega) hxe fun y hy=>?_⟩;obtain⟨h1,z,hz1,hz2⟩:=hT y hy;have:p=l.length:=by omega
   rw[this,List.drop_length,Jt]at hz1;cases hz1;rw[hz2,append_nil]
theorem scKO:FnScope ["scale","way","texts","text"] ["scale","way","texts"] (defScope (top 82)):=fsc
def spKO(D:Ad):Sp:=fun vs H Q _=>∃(sc l:Addr)(es:Lo.Order)(n:Nat)(bs:List Addr)(xs:List (List Nat)),vs=[.ref sc,.int (n:Int),.ref l]/\ScAt D H sc es/\LM.OInv es/\H l=some (.lst (bs.map V.ref))/\LsAt RowAt H bs xs/\xs.length<=1000/\(∀x∈xs,x.length<=1000)/\n<32/\
 ∀(H':Hp)(q:Addr)(ks:List Addr),Same H H'->H q=none->H' q=some (.lst (ks.map V.ref))->LsAt RowAt H' ks (xs.map (Lo.key es (howOf n)))->Q (.ref q) H'
theorem JR(T:TxQ K mg D):Ok P w K mg base 7 "keys_of" ["scale","way","texts"] (spKO D):=by
 have GK:=EV (P:=P) (w:=w) (base:=base) T.toTxL;refine T.keysOf.ok scKO (fun vs H Q E h=>?_) (fun f cdv A outer s H vs Q E hr h=>?_)
 .obtain⟨sc,l,es,n,bs,xs,rfl,_⟩:=h;rfl
 .obtain⟨sc,l,es,n,bs,xs,rfl,hS,hI,hl,hL,hz,hze,hn,k⟩:=h;refine⟨_,Af (Aj (BQ (own:=[("text",3)]) rfl scKO.nd (AE (pv 2)) (blk rfl) (fun s H C cl fp=>At (i:=3) scKO.nd rfl (inl rfl)) (fun s H C cl fp=>BE) (fun s H C cl fp=>pc GK hr (Aa (pv 0) (Aa (pv 1) (Aa (pv 3) Ac)))))),?_⟩;have hs:sizeLine=16777216:=sizeLine_eq;refine⟨_,rfl,l,rfl,⟨_,aa hl⟩,fun B hB0=>?_⟩;refine Ci (xs:=bs.map V.ref) (Pv:=fun i H'=>Same H H'/\∃cs:List Addr,H' B=some (.lst (cs.map V.ref))/\B∉cs/\LsAt RowAt H' cs ((xs.take i).map (Lo.key es (howOf n)))) ⟨ae hB0,[],Ae,(by simp),LsAt.nil⟩ (fun i H' _ p=>aa (p.1 _ _ hl)) ?_ ?_
  .rintro i y H2 hi ⟨s2,cs,hcs,hnB,hC⟩;obtain⟨b,hb,rfl⟩:=AU hi;have hit:i<xs.length:=by rw[<-hL.1];exact(List.getElem?_eq_some_iff.mp hb).1
   obtain⟨x,hx⟩:∃x,xs[i]? =some x:=⟨_,getElem?_eq_getElem hit⟩;refine⟨by show(((wipe _ []).set 3 none).set 3 (some (V.ref b))).set 3 none=(wipe _ []).set 3 none;rw[set_set,set_set],?_⟩;refine⟨_,rfl,_,rfl,_,rfl,sc,b,es,n,x,rfl,hS.same s2,hI,s2 _ _ (hL.2 i b x hb hx),hze x (mem_of_getElem? hx),hn,fun H3 b3 s3 hb30 hb3=>?_⟩;have hcl:cs.length=i:=by rw[hC.1,length_map,length_take];omega
   have hB3:=s3 _ _ hcs;have nb3:b3≠B:=(Ai hcs hb30).symm;refine⟨_,hB3,(by rw[length_map];omega),?_⟩;rw[Bw];have sb:SameBut B H3 (aj H3 B (.lst ((cs++[b3]).map V.ref))):=af;refine⟨ag (s2.trans s3) sb hB0,cs++[b3],Ae,?_,?_⟩
   .intro z;rcases mem_append.mp z with z|z
    .exact hnB z
    .exact nb3 (mem_singleton.mp z).symm
   have ht1:xs.take (i+1)=xs.take i++[x]:=by rw[take_add_one,hx];rfl
   rw[ht1,show(List.take i xs++[x]).map (Lo.key es (howOf n))=(List.take i xs).map (Lo.key es (howOf n))++[Lo.key es (howOf n) x] from map_append ..];refine((hC.mono fun c x h=>s3 _ _ h).snoc hb3).monoM fun c x hc h=>sb _ _ h ?_;rcases mem_append.mp hc with z|z
   .exact fun e=>hnB (e▸z)
   .rw[mem_singleton.mp z];exact nb3
  .rintro H2 ⟨s2,cs,hcs,hnB,hC⟩;rw[length_map,hL.1,take_length]at hC;exact k H2 B cs s2 hB0 hcs hC
theorem HP{K:Frag}{a:Addr}{ks:List Addr}{Ks:List (List Nat)}{p:List Nat->Bool}{tt:TT}(v:Nat){Z:St}{Q:Hp->Prop}{H1:Hp}{D:Addr}(hv:v<Z.length)(hD:H1 D=none)(ha:H1 a=some (.lst (ks.map V.ref)))(hL:LsAt RowAt H1 ks Ks)(hz:Ks.length<=10000)
  (hs:∀(b:Addr)(x:List Nat)(H:Hp),Same H1 H->H b=some (.lst (nv x))->∀R:Bool->Hp->Prop,R (p x) H->tt ((wipe Z [v]).set v (some (.ref b))) H R)
  (hd:∀(H:Hp)(cs:List V),Same H1 H->H D=some (.lst cs)->cs.length=(Ks.filter p).length->Q H):
  ∃W:Nat->Nat->Hp->Prop,(∃m,W 0 m (aj H1 D (.lst [])))/\∀i m H,W i m H->
   ((Itl K a).stop i H/\Q H)\/((Itl K a).go i H/\∃Nx:Hp->Prop,(∀H',Nx H'->∃m',m'<m/\W (i+1) m' H')/\∀x H',(Itl K a).yld i H x H'->gName v x (wipe Z [v]) H' fun Z2 H2=>wipe Z2 [v]=wipe Z [v]/\tt Z2 H2 fun b H3=>
    if b=true then tVar v Z2 H3 fun y H4=>∃acc,H4 D=some (.lst acc)/\acc.length<sizeLine/\Nx (aj H4 D (.lst (acc++[y]))) else Nx H3):=by
 have hs0:sizeLine=16777216:=sizeLine_eq;have hwl:(wipe Z [v]).length=Z.length:=by show((wipe Z []).set v none).length=_;rw[length_set];rfl
 refine Ci (xs:=ks.map V.ref) (Pv:=fun i H=>Same H1 H/\∃cs:List V,H D=some (.lst cs)/\cs.length=((Ks.take i).filter p).length) ⟨ae hD,[],Ae,rfl⟩ (fun i H _ q=>aa (q.1 _ _ ha)) (fun i y H hx q=>?_) fun H q=>?_
 .obtain⟨s1,cs,hcs,hcl⟩:=q;obtain⟨b,hb,rfl⟩:=AU hx;have hit:i<Ks.length:=by rw[<-hL.1];exact(List.getElem?_eq_some_iff.mp hb).1
  obtain⟨x,hx⟩:∃x,Ks[i]? =some x:=⟨_,getElem?_eq_getElem hit⟩;have ht:Ks.take (i+1)=Ks.take i++[x]:=by rw[take_add_one,hx];rfl
  refine⟨?_,hs b x H s1 (s1 _ _ (hL.2 i b x hb hx)) _ ?_⟩
  .show(((wipe Z []).set v none).set v (some (V.ref b))).set v none=(wipe Z []).set v none;rw[set_set,set_set]
  .cases hp:p x with
   |true=>
    refine iteT ⟨_,List.getElem?_set_self (by rw[hwl];exact hv),_,hcs,?_,?_,_,Ae,?_⟩
    .have:=length_filter_le p (Ks.take i);rw[length_take]at this;omega
    .exact fun b o e=>by rw[Am (Ai e hD)];exact s1 _ _ e
    .rw[ht,filter_append,length_append,length_append,hcl,filter_cons,if_pos hp];rfl
   |false=>
    refine iteF ⟨s1,cs,hcs,?_⟩;rw[ht,filter_append,filter_cons,if_neg (by rw[hp];exact Bool.false_ne_true),List.filter_nil,append_nil];exact hcl
 .obtain⟨s1,cs,hcs,hcl⟩:=q;rw[length_map,hL.1,take_length]at hcl;exact hd H cs s1 hcs hcl
theorem MZ(es:Lo.Order)(h:Lo.How)(l:List (List Nat))(a:List Nat)(u:Bool):Lo.rank es h l a u=((l.map (Lo.key es h)).filter fun k=>if u=true then decide (rowCmp k (Lo.key es h a)<=0) else decide (rowCmp k (Lo.key es h a)<0)).length:=by
 unfold Lo.rank;rw[List.filter_map,length_map]
 congr 1;refine List.filter_congr fun b _=>?_;show _=if u=true then decide (rowCmp (Lo.key es h b) (Lo.key es h a)<=0) else decide (rowCmp (Lo.key es h b) (Lo.key es h a)<0);rw[CA];cases u with
 |false=>rw[Bool.false_and,Bool.or_false,if_neg Bool.false_ne_true]
 |true=>
  rw[Bool.true_and,if_pos rfl,Bool.eq_iff_iff,or_eq_true,decide_eq_true_iff,decide_eq_true_iff,beq_iff_eq];omega
theorem scRk:FnScope ["scale","way","texts","text","with_equal","own","keys","key"] ["scale","way","texts","text","with_equal"] (defScope (top 84)):=fsc
def spRk(D:Ad):Sp:=fun vs H Q _=>∃(sc l a:Addr)(es:Lo.Order)(n:Nat)(bs:List Addr)(xs:List (List Nat))(t:List Nat)(u:Bool),vs=[.ref sc,.int (n:Int),.ref l,.ref a,.bl u]/\ScAt D H sc es/\LM.OInv es/\H l=some (.lst (bs.map V.ref))/\LsAt RowAt H bs xs/\xs.length<=1000/\(∀x∈xs,x.length<=1000)/\
 H a=some (.lst (nv t))/\t.length<=1000/\n<32/\∀H',Same H H'->Q (.int ((Lo.rank es (howOf n) xs t u:Nat):Int)) H'
theorem OU(T:TxQ K mg D):Ok P w K mg base 8 "rank_of" ["scale","way","texts","text","with_equal"] (spRk D):=by
 have GK:=EV (P:=P) (w:=w) (base:=base) T.toTxL;have GO:=JR (P:=P) (w:=w) (base:=base) T;refine T.rankOf.ok scRk (fun vs H Q E h=>?_) (fun f cdv A outer s H vs Q E hr h=>?_)
 .obtain⟨sc,l,a,es,n,bs,xs,t,u,rfl,_⟩:=h;rfl
 .obtain⟨sc,l,a,es,n,bs,xs,t,u,rfl,hS,hI,hl,hL,hz,hze,ha,ht,hn,k⟩:=h;have hr6:Room 6 _:=hr.mono (by decide);have hu:=CF hr
  refine⟨_,Ab (Al (i:=5) scRk.nd rfl (Or.inr rfl) (pc GK hr6 (Aa (pv 0) (Aa (pv 1) (Aa (pv 3) Ac)))))
   (Ab (Al (i:=6) scRk.nd rfl (inl rfl) (pc GO hr (Aa (pv 0) (Aa (pv 1) (Aa (pv 2) Ac)))))
   (Ab (Av (AJ (pv 4)) (Af (Aj (plen T.len (BQ (own:=[("key",7)]) rfl scRk.nd (AE (pv 6)) (blk rfl) (fun s H C cl fp=>At (i:=7) scRk.nd rfl (inl rfl))
     (fun s H C cl fp=>Cz (An (r:=rCmpL K .LtE) (Cj (op:=.LtE) (c:=1) (.inr (.inl ⟨rfl,rfl⟩)) hr.units0) (pv 7) (pv 5) (nomark _))) (fun s H C cl fp=>pv 7))))) Ao)
   (Af (Aj (plen T.len (BQ (own:=[("key",7)]) rfl scRk.nd (AE (pv 6)) (blk rfl) (fun s H C cl fp=>At (i:=7) scRk.nd rfl (inl rfl))
     (fun s H C cl fp=>Cz (An (r:=rCmpL K .Lt) (Cj (op:=.Lt) (c:=0) (.inl ⟨rfl,rfl⟩) hr.units0) (pv 7) (pv 5) (nomark _))) (fun s H C cl fp=>pv 7))))))),?_⟩
  refine⟨_,rfl,_,rfl,_,rfl,sc,a,es,n,t,rfl,hS,hI,ha,ht,hn,fun H1 q1 s1 hq10 hq1=>?_⟩;refine⟨_,rfl,_,rfl,_,rfl,sc,l,es,n,bs,xs,rfl,hS.same s1,hI,s1 _ _ hl,hL.mono (fun b x h=>s1 _ _ h),hz,hze,hn,fun H2 q2 ks s2 hq20 hq2 hK=>?_⟩;have s02:=s1.trans s2;have hq12:=s2 _ _ hq1;rw[MZ]at k;have hkl:(xs.map (Lo.key es (howOf n))).length<=10000:=by rw[length_map];omega
  generalize xs.map (Lo.key es (howOf n))=Ks at hK k hkl;dsimp only[gName,tSeq,tIfS];refine Bs (Ah rfl) _ ?_;cases u with
  |true=>
   refine iteT ⟨_,rfl,q2,rfl,⟨_,aa hq2⟩,fun D1 hD1=>?_⟩;refine HP (K:=K) (p:=fun k=>decide (rowCmp k (Lo.key es (howOf n) t)<=0)) 7 (by show 7<8;decide) hD1 hq2 hK hkl (fun b x H3 s3 hb R hR=>?_) fun H3 cs s3 hD3 hcl=>?_
   .exact Ax (Cu (K:=K) (Ah rfl) (Ah rfl) hb (s3 _ _ hq12) (Nh _ _)) _ hR
   .refine⟨D1,_,rfl,.inl (aa hD3),?_⟩;rw[hcl];exact k _ (s02.trans s3)
  |false=>
   refine iteF ⟨_,rfl,q2,rfl,⟨_,aa hq2⟩,fun D1 hD1=>?_⟩;refine HP (K:=K) (p:=fun k=>decide (rowCmp k (Lo.key es (howOf n) t)<0)) 7 (by show 7<8;decide) hD1 hq2 hK hkl (fun b x H3 s3 hb R hR=>?_) fun H3 cs s3 hD3 hcl=>?_
   .exact Ax (Cu (K:=K) (Ah rfl) (Ah rfl) hb (s3 _ _ hq12) (Jn _ _)) _ hR
   .refine⟨D1,_,rfl,.inl (aa hD3),?_⟩;rw[hcl];exact k _ (s02.trans s3)
def oV:Option Nat->V
 |none=>.non
 |some n=>.int (n:Int)
def lab1(es:Lo.Order)(h:Lo.How)(l:List (List Nat))(a:List Nat)(m:Option Nat)(i:Nat):Option Nat:=if 0<Lo.compare es h (l.getD i []) a then m else match m with
 |none=>some i
 |some j=>if Lo.compare es h (l.getD i []) (l.getD j [])<0 then some j else some i
def labs(es:Lo.Order)(h:Lo.How)(l:List (List Nat))(a:List Nat)(n:Nat):Option Nat:=(List.range n).foldl (lab1 es h l a) none
theorem KB(es:Lo.Order)(h:Lo.How)(l:List (List Nat))(a:List Nat)(n:Nat):labs es h l a (n+1)=lab1 es h l a (labs es h l a n) n:=by
 unfold labs;rw[List.range_succ,List.foldl_append];rfl
theorem scLb:FnScope ["scale","way","texts","text","own","label","greatest","number","key"] ["scale","way","texts","text"] (defScope (top 85)):=fsc
def spLb(D:Ad):Sp:=fun vs H Q _=>∃(sc l a:Addr)(es:Lo.Order)(n:Nat)(bs:List Addr)(xs:List (List Nat))(t:List Nat),vs=[.ref sc,.int (n:Int),.ref l,.ref a]/\ScAt D H sc es/\LM.OInv es/\H l=some (.lst (bs.map V.ref))/\LsAt RowAt H bs xs/\xs.length<=1000/\(∀x∈xs,x.length<=1000)/\
 H a=some (.lst (nv t))/\t.length<=1000/\n<32/\∀H',Same H H'->Q (oV (Lo.label es (howOf n) xs t)) H'
theorem Ou(T:TxQ K mg D):Ok P w K mg base 8 "label_of" ["scale","way","texts","text"] (spLb D):=by
 have GK:=EV (P:=P) (w:=w) (base:=base) T.toTxL;have GO:=JR (P:=P) (w:=w) (base:=base) T;refine T.labelOf.ok scLb (fun vs H Q E h=>?_) (fun f cdv A outer s H vs Q E hr h=>?_)
 .obtain⟨sc,l,a,es,n,bs,xs,t,rfl,_⟩:=h;rfl
 .obtain⟨sc,l,a,es,n,bs,xs,t,rfl,hS,hI,hl,hL,hz,hze,ha,ht,hn,k⟩:=h;have hr6:Room 6 _:=hr.mono (by decide);have hu:=CF hr
  refine⟨_,Ab (Al (i:=4) scLb.nd rfl (inl rfl) (pc GK hr6 (Aa (pv 0) (Aa (pv 1) (Aa (pv 3) Ac)))))
   (Ab (Al (i:=5) scLb.nd rfl (inl rfl) Bc) (Ab (Al (i:=6) scLb.nd rfl (inl rfl) Bc)
   (Ab (Ba PassesOwn.never rfl (Gr (by rfl) T.enum (Aa (pc GO hr (Aa (pv 0) (Aa (pv 1) (Aa (pv 2) Ac)))) Ac)) (Ef rfl (Bf (At (i:=7) scLb.nd rfl (inl rfl)) (Bf (At (i:=8) scLb.nd rfl (inl rfl)) Db)))
    (Af (Av (PW.pt (BP (An (Cj (op:=.LtE) (c:=1) (.inr (.inl ⟨rfl,rfl⟩)) hr.units0) (pv 8) (pv 4) (nomark _)) (Bx (PW.pt (JT (An Gw (pv 6) Bc (nomark _)) (Hc (An (Cj (op:=.GtE) (c:=5) (.inr (.inr (.inr ⟨rfl,rfl⟩))) hr.units0) (pv 8) (pv 6) (nomark _))))))))
     (Ab (Al (i:=5) scLb.nd rfl (inl rfl) (pv 7)) (Af (Al (i:=6) scLb.nd rfl (inl rfl) (pv 8)))) Ao)))
   (Af (Aj (pv 5)))))),?_⟩
  refine⟨_,rfl,_,rfl,_,rfl,sc,a,es,n,t,rfl,hS,hI,ha,ht,hn,fun H1 q1 s1 hq10 hq1=>?_⟩;refine⟨_,rfl,_,rfl,_,rfl,sc,l,es,n,bs,xs,rfl,hS.same s1,hI,s1 _ _ hl,hL.mono (fun b x h=>s1 _ _ h),hz,hze,hn,fun H2 q2 ks s2 hq20 hq2 hK=>?_⟩;have s02:=s1.trans s2;have hq12:=s2 _ _ hq1;have k:∀H',Same H H'->Q (oV (labs es (howOf n) xs t xs.length)) H':=k;have hkl:ks.length=xs.length:=by rw[hK.1,length_map]
  have hKj:∀(j:Nat)(b:Addr),ks[j]? =some b->∀H',Same H2 H'->H' b=some (.lst (nv (Lo.key es (howOf n) (xs.getD j [])))):=fun j b hb H' s'=>by
   have hj:j<xs.length:=by rw[<-hkl];exact(List.getElem?_eq_some_iff.mp hb).1
   refine s' _ _ (hK.2 j b _ hb ?_);rw[getElem?_map,getElem?_eq_getElem hj];show some (Lo.key es (howOf n) xs[j])=_;rw[getD_eq_getElem?_getD,getElem?_eq_getElem hj];rfl
  refine⟨q2,_,rfl,aa hq2,Fy (K:=K) (a:=q2) (xs:=ks.map V.ref) (fun i Z H'=>Same H2 H'/\∃v6 v7 v8,Z=[some (.ref sc),some (.int (n:Int)),some (.ref l),some (.ref a),some (.ref q1),some (oV (labs es (howOf n) xs t i)),some v6,v7,v8]/\
    (match labs es (howOf n) xs t i with|none=>v6= .non|some j=>∃b,ks[j]? =some b/\v6= .ref b))
   ⟨ad _,.non,none,none,rfl,rfl⟩ (fun i Z H' _ h=>aa (h.1 _ _ hq2)) ?_ ?_⟩
  .rintro i y Z H3 Tt hi ⟨s3,v6,v7,v8,rfl,h6⟩ hT;obtain⟨b,hb,rfl⟩:=AU hi;have st:Same H3 (aj H3 Tt (.tup [.int (i:Nat),.ref b])):=ae hT;refine⟨Tt,_,rfl,ab Ae,rfl,_,_,rfl,_,_,rfl,rfl,?_⟩;generalize aj H3 Tt (.tup [.int (i:Nat),.ref b])=H4 at st;have s24:=s3.trans st;have hbk:=hKj i b hb H4 s24;have nx:=KB es (howOf n) xs t i;generalize labs es (howOf n) xs t i=m at h6 nx;dsimp only[gName,tIfS,tAnd];refine Ax (Cu (K:=K) (Ah rfl) (Ah rfl) hbk (s24 _ _ hq12) (Nh _ _)) _ ?_;rw[CA];unfold lab1 at nx;by_cases c1:0<Lo.compare es (howOf n) (xs.getD i []) t
   .rw[if_pos c1]at nx;rw[decide_eq_false (by omega)];refine iteF (iteF ⟨s24,v6,some (.int (i:Int)),some (.ref b),?_,?_⟩)
    .rw[nx];rfl
    .rw[nx];exact h6
   .rw[if_neg c1]at nx;rw[decide_eq_true (by omega)];refine iteT ?_;dsimp only[tOr];cases m with
    |none=>
     have h6:v6= .non:=h6;subst h6;refine⟨_,rfl,rfl,_,rfl,?_⟩;refine iteT (iteT ⟨_,rfl,_,rfl,s24,.ref b,some (.int (i:Int)),some (.ref b),?_,?_⟩)
     .rw[nx];rfl
     .rw[nx];exact⟨b,hb,rfl⟩
    |some j=>
     obtain⟨b',hb',rfl⟩:=h6;refine⟨_,rfl,rfl,_,rfl,?_⟩;refine iteF ?_;refine Ax (Cu (K:=K) (Ah rfl) (Ah rfl) hbk (hKj j b' hb' H4 s24) (Os _ _)) _ ?_;rw[CA];have nx:labs es (howOf n) xs t (i+1)=if Lo.compare es (howOf n) (xs.getD i []) (xs.getD j [])<0 then some j else some i:=nx;by_cases c2:Lo.compare es (howOf n) (xs.getD i []) (xs.getD j [])<0
     .rw[if_pos c2]at nx;rw[decide_eq_false (by omega)];refine iteF ⟨s24,.ref b',some (.int (i:Int)),some (.ref b),?_,?_⟩
      .rw[nx];rfl
      .rw[nx];exact⟨b',hb',rfl⟩
     .rw[if_neg c2]at nx;rw[decide_eq_true (by omega)];refine iteT ⟨_,rfl,_,rfl,s24,.ref b,some (.int (i:Int)),some (.ref b),?_,?_⟩
      .rw[nx];rfl
      .rw[nx];exact⟨b,hb,rfl⟩
  .rintro Z H3 ⟨s3,v6,v7,v8,rfl,_⟩;rw[length_map,hkl];exact⟨_,rfl,k _ (s02.trans s3)⟩
theorem scWn:FnScope ["scale","way","texts","keys","number"] ["scale","way","texts"] (defScope (top 86)):=fsc
def spWn(D:Ad):Sp:=fun vs H Q _=>∃(sc l:Addr)(es:Lo.Order)(n:Nat)(bs:List Addr)(xs:List (List Nat)),vs=[.ref sc,.int (n:Int),.ref l]/\ScAt D H sc es/\LM.OInv es/\H l=some (.lst (bs.map V.ref))/\LsAt RowAt H bs xs/\xs.length<=1000/\(∀x∈xs,x.length<=1000)/\n<32/\
 ∀H',Same H H'->Q (oV (Lo.wrong es (howOf n) xs)) H'
theorem OD(T:TxQ K mg D):Ok P w K mg base 8 "wrong_number" ["scale","way","texts"] (spWn D):=by
 have GO:=JR (P:=P) (w:=w) (base:=base) T;refine T.wrongNumber.ok scWn (fun vs H Q E h=>?_) (fun f cdv A outer s H vs Q E hr h=>?_)
 .obtain⟨sc,l,es,n,bs,xs,rfl,_⟩:=h;rfl
 .obtain⟨sc,l,es,n,bs,xs,rfl,hS,hI,hl,hL,hz,hze,hn,k⟩:=h;have hu:=CF hr
  refine⟨_,Ab (Al (i:=3) scWn.nd rfl (inl rfl) (pc GO hr (Aa (pv 0) (Aa (pv 1) (Aa (pv 2) Ac)))))
   (Ab (Ba PassesOwn.never rfl (Kz rfl T.range (Aa Ag (Aa (plen T.len (pv 3)) Ac))) (At (i:=4) scWn.nd rfl (inl rfl))
    (Af (Av (An (Cj (op:=.Lt) (c:=0) (.inl ⟨rfl,rfl⟩) hr.units0) (Ar Ap (pv 3) (pv 4) (fun _ _=>rfl)) (Ar Ap (pv 3) (Ay Cm (pv 4) Ag) (fun _ _=>rfl)) (nomark _)) (Af (Aj (pv 4))) Ao)))
   (Af (Aj Bc))),?_⟩
  refine⟨_,rfl,_,rfl,_,rfl,sc,l,es,n,bs,xs,rfl,hS,hI,hl,hL,hz,hze,hn,fun H1 q ks s1 hq0 hq hK=>?_⟩;have hkl:ks.length=xs.length:=by rw[hK.1,length_map]
  have hKj:∀j:Nat,j<xs.length->∃b,ks[j]? =some b/\H1 b=some (.lst (nv (Lo.key es (howOf n) (xs.getD j [])))):=fun j hj=>by
   obtain⟨b,hb⟩:∃b,ks[j]? =some b:=⟨_,getElem?_eq_getElem (by rw[hkl];exact hj)⟩;refine⟨b,hb,hK.2 j b _ hb ?_⟩;rw[getElem?_map,getElem?_eq_getElem hj];show some (Lo.key es (howOf n) xs[j])=_;rw[getD_eq_getElem?_getD,getElem?_eq_getElem hj];rfl
  have k:∀H',Same H H'->Q (oV ((List.range xs.length).find? fun(i:Nat)=>decide (0<i)&&decide (Lo.compare es (howOf n) (xs.getD i []) (xs.getD (i - 1) [])<0))) H':=k;dsimp only[tSeq,tFor,iRng2,tCons];refine AG (Ah rfl) (.inl (aa hq)) _ ⟨1,_,rfl,⟨by omega,by omega,by omega,by rw[length_map,hkl];omega⟩,?_⟩;rw[length_map,hkl]
  refine J5 (lo:=1) (n:=(((xs.length:Nat):Int) - 1).toNat) (D:={nx:=tRet (tC .non) {nx:=fun _ H'=>Q .non H',rt:=Q},rt:=Q}) (fun i Z H'=>H'=H1/\(∃v4,Z=[some (.ref sc),some (.int (n:Int)),some (.ref l),some (.ref q),v4])/\∀j,j<=i->j<xs.length->(decide (0<j)&&decide (Lo.compare es (howOf n) (xs.getD j []) (xs.getD (j - 1) [])<0))=false)
   ⟨rfl,⟨none,rfl⟩,fun j hj _=>by rw[show j=0 by omega];rfl⟩ ?_ ?_
  .rintro i Z H' hi ⟨rfl,⟨v4,rfl⟩,hno⟩;obtain⟨b,hb,hbk⟩:=hKj (i+1) (by omega);obtain⟨b2,hb2,hbk2⟩:=hKj i (by omega);dsimp only[gName,tIfS];refine Ax (Cu (K:=K) (AK (Ah rfl) (Ah rfl) (aa hq) (AA (j:=i+1) (by omega) (Bh hb))) (AK (Ah rfl) (De (Ah rfl) ev_c) (aa hq) (AA (j:=i) (by omega) (Bh hb2))) hbk hbk2 (Jn _ _)) _ ?_;rw[CA];cases hc:decide (Lo.compare es (howOf n) (xs.getD (i+1) []) (xs.getD i [])<0)with
   |false=>
    refine iteF ⟨rfl,⟨_,rfl⟩,fun j hj hjl=>?_⟩;by_cases q:j=i+1
    .rw[q,decide_eq_true (succ_pos _),Bool.true_and];exact hc
    .exact hno j (by omega) hjl
   |true=>
    have hf:(List.range xs.length).find? (fun(i:Nat)=>decide (0<i)&&decide (Lo.compare es (howOf n) (xs.getD i []) (xs.getD (i - 1) [])<0))=some (i+1):=by
     rw[List.find?_range_eq_some];refine⟨?_,by simp;omega,fun j hj=>?_⟩
     .rw[decide_eq_true (succ_pos _),Bool.true_and];exact hc
     .rw[hno j (by omega) (by omega)];rfl
    rw[hf]at k;refine iteT ⟨_,rfl,?_⟩;have e:(1:Int)+(i:Int)=((i+1:Nat):Int):=by omega
    rw[e];exact k _ s1
  .rintro Z H' ⟨rfl,_,hno⟩
   have hf:(List.range xs.length).find? (fun(i:Nat)=>decide (0<i)&&decide (Lo.compare es (howOf n) (xs.getD i []) (xs.getD (i - 1) [])<0))=none:=by
    rw[List.find?_eq_none];intro j hj;have hj:j<xs.length:=List.mem_range.mp hj;rw[hno j (by omega) hj];exact Bool.false_ne_true
   rw[hf]at k;exact k _ s1
section
open PySem.W PySem.Calls PyProof.Rows
theorem KL{X:Cx}{re:Expr}{tr:TE}{p pos kp p1 p2 p3 lp:Pos}{i:Nat}{x y:Str}{c P cell:Addr}{params:Arguments}{scope:Scope}(hc:X.calm=true)(hr:Room 1 X.A)(hm:X.mg "sorted"=none)(he:PE X re tr)
  (hcode:X.env.code= .ref c) (C:codeHdIn X.K c P=true) (B:BM X.mg X.base) (hcl:closureFor scope X.env=pure [(x,cell)]) (hdef:defaultsOf params X.env=([],[]))
  (hN:X.N[i]? =some x) (hkx:X.env.kindOf x=some .cell) (hvis:Vis X.env.scope x) (hcx:X.env.cells.lookup x=some cell)
  (hb:∀(c:Addr)(ctv:Value)(j:Int)(t:Tok),bindArgs (kla_fn "<lambda>" (X.env.qual++"<lambda>") params (.Subscript (.Name x p1) (.Name y p2) p3) scope [(x,cell)] ((X.mg "__name__").getD .none) (.ref c) ctv) ⟨[.int j t],[]⟩=pure [(y,.int j t)])
  (hk:scope.kind= .function) (hco:scope.isCoroutine=false) (hgen:scope.isGenerator=false) (hcells:∀z∈scope.names,z.2≠ .cell) (hy:scope.names.lookup y=some .local) (hx:scope.names.lookup x=some .free)
  (hdx:(x==("__debug__":Str))=false) (hdy:(y==("__debug__":Str))=false) (hcdx:(x==("__classdict__":Str))=false)
  (hg:Gl X "sorted":=by rfl) (hs:starEach [re] X.env=(false,eval re X.env)::starEach [] X.env:=by rfl)
  (h1:backTo pos (starEach [re] X.env)=(false,eval re X.env)::backTo pos (starEach [] X.env):=by rfl) (h2:(backTo pos (starEach [re] X.env)).any (·.1)=false:=by rfl):
  PE X (.Call (.Name "sorted" p) [re] [⟨some "key",.Lambda params (.Subscript (.Name x p1) (.Name y p2) p3) scope lp,kp⟩] pos)
   (tSrt (X.env.qual++"<lambda>") params (.Subscript (.Name x p1) (.Name y p2) p3) scope x cell ((X.mg "__name__").getD .none) i tr (tLam P (X.env.qual++"<lambda>") params (.Subscript (.Name x p1) (.Name y p2) p3) scope [(x,cell)] ((X.mg "__name__").getD .none) lp)):=
 Mn hc hr hm he (Nn hcode C B hcl hdef) hN hkx hvis hcx hb hk hco hgen hcells hy hx hdx hdy hcdx hg hs h1 h2
end
theorem scSN:FnScope ["scale","way","texts","keys"] ["scale","way","texts"] (defScope (top 83)):=fsc
def spSN(K:Frag)(D:Ad):Sp:=fun vs H Q _=>∃(sc l:Addr)(es:Lo.Order)(n:Nat)(bs:List Addr)(xs:List (List Nat)),vs=[.ref sc,.int (n:Int),.ref l]/\ScAt D H sc es/\LM.OInv es/\H l=some (.lst (bs.map V.ref))/\LsAt RowAt H bs xs/\xs.length<64/\(∀x∈xs,x.length<=1000)/\n<32/\Tab K H/\
 ∀(H':Hp)(q:Addr),SameBut (tabP K) H H'->Tab K H'->H q=none->H' q=some (.lst (nv (Lo.sorted es (howOf n) xs)))->Q (.ref q) H'
theorem OH(T:TxQ K mg D)(B:BM mg base):Ok P w K mg base 8 "sorted_numbers" ["scale","way","texts"] (spSN K D):=by
 have GO:=JR (P:=P) (w:=w) (base:=base) T;refine T.sortedNumbers.ok scSN (fun vs H Q E h=>?_) (fun f A outer s H vs Q E hr h=>?_)
 .obtain⟨sc,l,es,n,bs,xs,rfl,_⟩:=h;rfl
 .obtain⟨sc,l,es,n,bs,xs,rfl,hS,hI,hl,hL,hz,hze,hn,hT,k⟩:=h;have hr1:Room 1 _:=hr.mono (by decide)
  refine⟨_,Ab (Al (i:=3) scSN.nd rfl (Or.inr rfl) (pc GO hr (Aa (pv 0) (Aa (pv 1) (Aa (pv 2) Ac)))))
   (Af (Aj (KL (i:=3) rfl hr1 T.sorted (NI T.range (plen T.len (pv 3))) rfl T.sortedNumbers.hd B rfl rfl rfl rfl (Or.inr (inl rfl)) rfl (fun _ _ _ _=>rfl) rfl rfl rfl (by decide+kernel) rfl rfl (by decide) (by decide) (by decide)))),?_⟩
  refine⟨_,rfl,_,rfl,_,rfl,sc,l,es,n,bs,xs,rfl,hS,hI,hl,hL,(by omega),hze,hn,fun H1 q ks s1 hq0 hq hK=>?_⟩;have hkl:ks.length=xs.length:=by rw[hK.1,length_map]
  dsimp only[gName,tRet,tSrt,tRng];refine AG (Ah rfl) (.inl (aa hq)) _ ⟨_,rfl,(by omega),(by rw[length_map,hkl];omega),fun r hr0=>?_⟩;have sr:Same H1 (aj H1 r (.rng 0 (((ks.map V.ref).length:Nat):Int))):=ae hr0;have hru:(aj H1 r (.rng 0 (((ks.map V.ref).length:Nat):Int))) r=some (.rng 0 (((ks.map V.ref).length:Nat):Int)):=Ae;generalize aj H1 r (.rng 0 (((ks.map V.ref).length:Nat):Int))=H2 at sr hru;have s02:=s1.trans sr;have hT2:=hT.same s02;refine⟨hT2,fun H3 f c sb hT3 hf0 hc hf=>?_⟩;have hT3:Tab K H3:=hT3;obtain⟨ps,hP⟩:=hT2.at_;have np:∀{b:Addr}{u:HO},H2 b=some u->(∀ps,u≠ .tbl ps)->H3 b=some u:=fun{b u} e n=>sb _ _ e (AC e hP (fun z=>n _ z));have hlm:(xs.map (Lo.key es (howOf n))).length=(ks.map V.ref).length:=by rw[length_map,length_map,hkl]
  refine⟨r,f,c,q,ks,xs.map (Lo.key es (howOf n)),rfl,rfl,(by rw[hlm];exact np hru (fun _ z=>HO.noConfusion z)),hf,hc,rfl,np (sr _ _ hq) (fun _ z=>HO.noConfusion z),hK.mono (fun b x h=>np (sr _ _ h) (fun _ z=>HO.noConfusion z)),(by rw[length_map];exact hz),fun D1 p o1 hD=>?_⟩
  have hp:p=Lo.sorted es (howOf n) xs:=by
   have e:∀i,i<xs.length->(xs.map (Lo.key es (howOf n))).getD i []=Lo.key es (howOf n) (xs.getD i []):=fun i hi=>by
    rw[getD_eq_getElem?_getD,getElem?_map,getD_eq_getElem?_getD,getElem?_eq_getElem hi];rfl
   have o2:=o1.2.1;rw[length_map]at o2;refine Kk (K:=fun i=>Lo.key es (howOf n) (xs.getD i [])) (fun i j=>(CA _ _ _ _).symm) ?_ o2;refine o1.1.imp_of_mem fun{a b} ha hb h=>?_;have ha:=(o2 a).mp ha;have hb:=(o2 b).mp hb;unfold Ahead at h⊢;dsimp only at h;rw[e a ha,e b hb]at h;exact h
  rw[hp];have s3:Same H3 (aj H3 D1 (.lst (nv (Lo.sorted es (howOf n) xs)))):=ae hD
  have hD0:H D1=none:=by
   cases e:H D1 with
   |none=>rfl
   |some u=>
    exfalso;have e2:=s02 _ _ e;by_cases z:D1=tabP K
    .obtain⟨ps3,hP3⟩:=hT3.at_;rw[z,hP3]at hD;cases hD
    .rw[sb _ _ e2 z]at hD;cases hD
  exact k _ D1 (fun b u e n=>s3 _ _ (sb _ _ (s02 _ _ e) n)) (hT3.same s3) hD0 Ae
end LP
namespace LP
open PySem PySem.Spec L2 PyProof.Rows
theorem MM(l b:Addr)(xs ys:Array Value)(n m:Nat)(dt:Option Addr)(sl:Array (Option Value))(c0:¬(!xs.isEmpty&&Builtin.List.listTooLong (xs.size+ys.size))=true)(c1:xs.size<=sizeLine)(c2:xs.size+ys.size<=sizeLine+1):
  Meets (Builtin.«list.extend» ⟨[.ref l,.ref b],[]⟩) (fun _ R s=>s.heap.get? l=some {cls:=.type "list",dict:=none,data:=.seq xs n,slots:= #[]}/\
   s.heap.get? b=some {cls:=.type "tuple",dict:=dt,data:=.seq ys m,slots:=sl}/\R (.ok (.ret Value.none)) {s with heap:=s.heap.update l (Obj.mapSeq fun x=>x++ys),toks:=s.toks}):=by
 refine .of_wp fun prog w A R s h=>?_;obtain⟨hp,g,d,tk,os⟩:=s;obtain⟨hl,hb,h⟩:=h;have f1:=AutoSeq1.idx_int;have f2:=AutoSeq1.sub_tuple_tuple;have f3:=AutoSeq1.sub_list_list;have f4:=AutoSeq1.sub_tuple_list;have f5:=AutoSeq1.sub_list_tuple;have hz:(xs++ys).size<=sizeLine+1:=by rw[Array.size_append];exact c2
 wp_walk using(wpAny_updateSeq hl rfl (hz:=c1) (_hz':=hz)),AutoSeq1.wpAny_loadPart' hl,AutoSeq1.wpAny_loadPart' hb
 exact⟨_,rfl,h⟩
def rExtT(K:Frag):V->List V->Hp->VK->Prop:=fun x vs H Q=>∃l b xs zs,x= .ref l/\vs=[.ref b]/\H l=some (.lst xs)/\SqT K H b zs/\xs.length+zs.length<=sizeLine/\Q .non (aj H l (.lst (xs++zs)))
theorem MG{X:Cx}:MtM X "list.extend" (rExtT X.K):=by
 intro pins s Z H x vs v us Q I rx rv h;obtain⟨l,b,xs,zs,rfl,rfl,hH,hB,hz,q⟩:=h;cases rx;obtain⟨u,rfl,ru⟩:=rv.one;cases ru;obtain⟨z,its,n,r,hl,e⟩:=I.lstM hH;obtain⟨its2,r2,⟨⟨c2,d2,dt2,sl2⟩,e2,hc2,n2,hd2⟩,z2⟩:=I.tuple hB;have hl2:=r2.length;cases hc2;cases hd2;have hsz:its.toArray.size+its2.toArray.size<=sizeLine:=by rw[size_toArray,size_toArray];omega
 have hlong:¬(!its.toArray.isEmpty&&Builtin.List.listTooLong (its.toArray.size+its2.toArray.size))=true:=by
  rw[notLongL hsz,Bool.and_false];exact Bool.false_ne_true
 refine call_meets F.slot_list_extend ⟨_,e,rfl⟩ F.entry_list_extend (F.args_list_extend_2 _ _) (MM l b its.toArray its2.toArray n n2 _ _ hlong (by rw[size_toArray];omega) (by omega)) ⟨e,e2,?_⟩;refine⟨.non,_,I.lset (its':=its++its2) hH e (by simp) (r.append r2) ?_,rfl,q⟩;rw[length_append];omega
def FnAt(P:Program)(w:World)(K:Frag)(mg:Str->Option Value)(base:Heap)(k:Nat)(f:Addr)(ps:List Str)(sp:Sp):Prop:=∃fd,PySem.W.keepIn K (.ref f)=true/\Binds K fd ps []/\FnOk P w K mg base CX0 k f fd ps sp
theorem Ok.at_{P:Program}{w:World}{K:Frag}{mg:Str->Option Value}{base:Heap}{k:Nat}{x:Str}{ps:List Str}{sp:Sp}{f:Addr}(o:Ok P w K mg base k x ps sp)(h:mg x=some (.ref f)):FnAt P w K mg base k f ps sp:=by
 obtain⟨f',fd,h1,h2,h3,h4⟩:=o.ex;rw[h]at h1;cases h1;exact⟨fd,h2,h3,h4⟩
def tCallV(P:Program)(w:World)(K:Frag)(mg:Str->Option Value)(base:Heap)(k:Nat)(tf:TE)(t:TA):TE:=fun Z H Q=>tf Z H fun x H1=>∃f ps sp,x= .ref f/\FnAt P w K mg base k f ps sp/\t Z H1 fun vs H2=>sp vs H2 Q E0
theorem pcv{X:Cx}{k:Nat}{fe e:Expr}{es:List Expr}{pos:Pos}{tf:TE}{t:TA}(hr:Room k X.A)(hf:PE X fe tf)(ha:PA X (e::es) t)
  (hc:eval (.Call fe (e::es) [] pos) X.env=(do callWith pos (<-eval fe X.env) [] (backTo pos (starEach (e::es) X.env)) (backToKw pos (keywordEach [] X.env))):=by rfl)
  (he:starEach (e::es) X.env=(false,eval e X.env)::starEach es X.env:=by rfl) (hpl:(backTo pos (starEach es X.env)).any (·.1)=false:=by rfl):
  PE X (.Call fe (e::es) [] pos) (tCallV X.prog X.w X.K X.mg X.base k tf t):=by
 intro pins s Z H Q I h;refine Call_ (thn (hf pins s Z H _ I h) fun v s1 ⟨x,H1,I1,r1,f,ps,sp,ex,hfn,q1⟩=>?_) hc;subst ex;cases r1;obtain⟨fd,hk,hb,hfo⟩:=hfn;refine callWith_K (h₀:=X.base) I1.ok.mod.kin hk (thn (ha pos pins s1 Z H1 _ I1 q1) fun us s2 ⟨vs,H2,I2,r,q⟩=>⟨I2.kIn,?_⟩) he hpl;exact Gu hfo hr hb .nil pass0 I2 r (by rw[append_nil];exact q)
structure GRow (K:Frag) (mg:Str->Option Value) (e:DictEntry) (r:Int×Nat×Nat×Str):Prop where
 key:∃t,e.key= .int r.1 t
 hash:e.hash=hashInt r.1
 val:∃a f,e.val= .ref a/\(∀H,SqT K H a [.int (r.2.1:Int),.int (r.2.2.1:Int),.ref f])/\mg r.2.2.2=some (.ref f)
inductive GRows (K:Frag) (mg:Str->Option Value):List DictEntry->List (Int×Nat×Nat×Str)->Prop
 |nil:GRows K mg [] []
 |cons {e:DictEntry} {r:Int×Nat×Nat×Str} {es:List DictEntry} {rs:List (Int×Nat×Nat×Str)}:GRow K mg e r->GRows K mg es rs->GRows K mg (e::es) (r::rs)
def GDict(K:Frag)(mg:Str->Option Value)(x:Str)(rs:List (Int×Nat×Nat×Str)):Prop:=∃d o es ep,mg x=some (.ref d)/\K.lookup d=some o/\o.ExactDict/\o.data= .dict es ep/\GRows K mg es.toList rs
theorem GRows.find{K:Frag}{mg:Str->Option Value}{i:Int}:∀{es:List DictEntry}{rs:List (Int×Nat×Nat×Str)},GRows K mg es rs->∀{n k:Nat}{x:Str},rs.lookup i=some (n,k,x)->∃a f,(es.find? fun e=>keyIs (.inl i) e.key).map (·.val)=some (.ref a)/\(∀H,SqT K H a [.int (n:Int),.int (k:Int),.ref f])/\mg x=some (.ref f)
 |_,_,.nil,_,_,_,h=>by cases h
 |e::es,(j,r)::rs,.cons h t,n,k,x,hl=>by
  obtain⟨tk,hk⟩:=h.key;have hk:e.key= .int j tk:=hk;rw[lookup_cons]at hl;by_cases hij:i=j
  .subst hij;rw[beq_self_eq_true]at hl;cases hl;obtain⟨a,f,h1,h2,h3⟩:=h.val;refine⟨a,f,?_,h2,h3⟩;rw[find?_cons,hk,Gf];show some e.val=_;rw[h1]
  .rw[beq_false_of_ne hij]at hl;obtain⟨a,f,h1,h2⟩:=t.find hl;refine⟨a,f,?_,h2⟩
   have:keyIs (.inl i) e.key=false:=by
    rw[hk];cases hh:keyIs (.inl i) (.int j tk)with
    |false=>rfl
    |true=>
     rcases AS hh with ⟨i',t',e1,e2⟩|⟨x',t',e1,e2⟩
     .cases e1;injection e2 with e2 _
      exact absurd e2.symm hij
     .cases e1
   rw[find?_cons,this];exact h1
theorem GRows.keys{K:Frag}{mg:Str->Option Value}{P:Program}{w:World}:∀{es:List DictEntry}{rs:List (Int×Nat×Nat×Str)},GRows K mg es rs->∀e∈es,∃k,(mixKind P w).is k e.key=true/\e.hash=(mixKind P w).hash k
 |_,_,.nil,e,h=>by cases h
 |e::es,r::rs,.cons h t,e',he=>by
  rcases mem_cons.mp he with z|z
  .subst z;obtain⟨tk,hk⟩:=h.key;exact⟨.inl r.1,by rw[hk];exact En P w _ _,h.hash⟩
  .exact t.keys e' z
def tGD(K:Frag)(mg:Str->Option Value)(rs:List (Int×Nat×Nat×Str))(ty:TE):TE:=fun Z H Q=>ty Z H fun y H1=>∃(i:Int)(n k:Nat)(x:Str),y= .int i/\rs.lookup i=some (n,k,x)/\∀a f,(∀H,SqT K H a [.int (n:Int),.int (k:Int),.ref f])->mg x=some (.ref f)->Q (.ref a) H1
theorem pgd{X:Cx}{x:Str}{rs:List (Int×Nat×Nat×Str)}{p pos:Pos}{i:Expr}{ty:TE}(G:GDict X.K X.mg x rs)(hi:PE X i ty)(hs:NoSl i)(hg:Gl X x:=by rfl)(hd:(x==("__debug__":Str))=false:=by decide):
  PE X (.Subscript (.Name x p) i pos) (tGD X.K X.mg rs ty):=by
 obtain⟨d,o,es,ep,h1,h2,h3,h4,h5⟩:=G;intro pins s Z H Q I h;refine Jx PySem.F.slot_dict_getitem.lookup hs (DG I hg h1 (thn (hi pins s Z H _ I h) fun iv s2 ⟨y,H2,I2,ry,j,n,k,nm,ey,hl,q2⟩=>?_) hd);subst ey;obtain⟨a,f,e1,e2,e3⟩:=h5.find hl;have hm:s2.heap.MapOf (mixKind X.prog X.w) d (fun k=>findBy keyIs es k):=⟨o,es,ep,I2.kIn d o h2,h3,h4,fun e he=>h5.keys e (Array.mem_toList_iff.mpr he),fun _=>rfl⟩;refine⟨hm.typeIs,wpAny_getItem_of (k:=(Sum.inl j:Key)) (Iq (k:=Sum.inl j) ry) hm (v:=.ref a) ?_ ⟨.ref a,H2,I2.tok _,rfl,q2 a f e2 e3⟩⟩;show(es.find? fun e=>keyIs (.inl j) e.key).map (·.val)=_;rw[<-Array.find?_toList];exact e1
end LP
namespace LP
open PySem PySem.Spec L2
structure TxK (K:Frag) (mg:Str->Option Value) (D:Ad):Prop extends TxQ K mg D where
 done:GInt mg "DONE" 0
 wrongForm:GInt mg "WRONG_FORM" (-1)
 noneThere:GInt mg "NONE_THERE" (-2)
 noChar:GInt mg "NO_CHARACTER" (-3)
 sum:mg "sum"=none
 cK:mg "Desk"=some (.ref D.desk)
 clK:Cls K D.desk
 nK:NoAttr K D.desk "order"
 iK:Id K D.desk "Desk.__init__" (inClass (top 104) 0) ["self"]
 withLength:Df K mg "with_length" (top 105) ["row"]
 cNew:Df K mg "call_new" (top 107) ["desk","numbers","rows"]
 cRules:Df K mg "call_rules" (top 108) ["desk","numbers","rows"]
 cWrite:Df K mg "call_write" (top 109) ["desk","numbers","rows"]
 cCount:Df K mg "call_count" (top 110) ["desk","numbers","rows"]
 cEntry:Df K mg "call_entry" (top 111) ["desk","numbers","rows"]
 cWhere:Df K mg "call_where" (top 112) ["desk","numbers","rows"]
 cItems:Df K mg "call_items" (top 113) ["desk","numbers","rows"]
 cKey:Df K mg "call_key" (top 114) ["desk","numbers","rows"]
 refusalOf:Df K mg "refusal_of" (top 106) ["is_formed","texts"]
 cCompare:Df K mg "call_compare" (top 115) ["desk","numbers","rows"]
 cHash:Df K mg "call_hash" (top 116) ["desk","numbers","rows"]
 cBegins:Df K mg "call_begins" (top 117) ["desk","numbers","rows"]
 cFind:Df K mg "call_find" (top 118) ["desk","numbers","rows"]
 cSort:Df K mg "call_sort" (top 119) ["desk","numbers","rows"]
 cRank:Df K mg "call_rank" (top 120) ["desk","numbers","rows"]
 cLabel:Df K mg "call_label" (top 121) ["desk","numbers","rows"]
 cWrong:Df K mg "call_wrong" (top 122) ["desk","numbers","rows"]
 rowsFrom:Df K mg "rows_from" (top 125) ["calls","place","how_many"]
def iv(l:List Int):List V:=l.map V.int
theorem CO(l:List Int):(iv l).length=l.length:=length_map ..
theorem NA(a b:List Int):iv (a++b)=iv a++iv b:=map_append ..
theorem C9(l:List Nat):iv (OrderNeutral.ints l)=nv l:=by
 unfold iv OrderNeutral.ints nv;rw[map_map];rfl
def DkAt(D:Ad)(g:Addr)(H:Hp)(d:Addr)(es:Lo.Order):Prop:=∃dx o l as,H d=some (.ins D.desk dx [("order",.ref o)])/\l≠g/\OrdL D H o l as es
theorem DkAt.same{D:Ad}{g:Addr}{H H':Hp}{d:Addr}{es:Lo.Order}(h:DkAt D g H d es)(s:Same H H'):DkAt D g H' d es:=by
 obtain⟨dx,o,l,as,h1,h0,h2⟩:=h;exact⟨dx,o,l,as,s _ _ h1,h0,h2.same s⟩
def newL(H:Hp)(xs:List V)(Q:VK):Prop:=∀(H':Hp)(q:Addr),Same H H'->H q=none->H' q=some (.lst xs)->Q (.ref q) H'
def spCall(D:Ad)(nn nr:Nat)(mk:List Nat->List (List Nat)->LoCalls.Call):Sp:=fun vs H Q _=>∃(g d nl rl:Addr)(rs:List Addr)(es:Lo.Order)(nums:List Nat)(rows:List (List Nat)),vs=[.ref d,.ref nl,.ref rl]/\(∃u,H g=some u)/\DkAt D g H d es/\LM.OInv es/\
 H nl=some (.lst (nv nums))/\H rl=some (.lst (rs.map V.ref))/\LsAt RowAt H rs rows/\nums.length=nn/\rows.length=nr/\OrderNeutral.moderate (mk nums rows)=true/\
 ∀(H':Hp)(q:Addr),SameBut d H H'->H' q=some (.lst (iv (OrderNeutral.told (LoCalls.step es (mk nums rows)).2)))->DkAt D g H' d (LoCalls.step es (mk nums rows)).1->LM.OInv (LoCalls.step es (mk nums rows)).1->Q (.ref q) H'
theorem AI{D:Ad}{nn nr:Nat}{mk:List Nat->List (List Nat)->LoCalls.Call}(vs:List V)(H:Hp)(Q:VK)(E:XK)(h:spCall D nn nr mk vs H Q E):vs.length=3:=by
 obtain⟨g,d,nl,rl,rs,es,nums,rows,rfl,_⟩:=h;rfl
variable{P:Program}{w:World}{K:Frag}{mg:Str->Option Value}{base:Heap}{D:Ad}
theorem plist{X:Cx}{e:Expr}{te:TE}{p pos:Pos}(hm:X.mg "list"=none)(he:PE X e te)(hg:Gl X "list":=by rfl)(hs:starEach [e] X.env=(false,eval e X.env)::starEach [] X.env:=by rfl):
  PE X (.Call (.Name "list" p) [e] [] pos) (tCB (fun xs H Q=>∃p ys,xs=[.ref p]/\(SqL X.K H p ys\/SqT X.K H p ys)/\∀l,H l=none->Q (.ref l) (aj H l (.lst ys))) (tCons te tNil)):=
 C6 CC hg hm boot_list (Aa he Ac hs) (he:=hs)
theorem scWL:FnScope ["row"] ["row"] (defScope (top 105)):=fsc
def spWL(K:Frag):Sp:=fun vs H Q _=>∃(a:Addr)(xs:List V),vs=[.ref a]/\(SqL K H a xs\/SqT K H a xs)/\xs.length<sizeLine/\newL H (.int xs.length::xs) Q
theorem My{H H':Hp}{a:Addr}{xs:List V}(h:SqL K H a xs\/SqT K H a xs)(s:Same H H'):SqL K H' a xs\/SqT K H' a xs:=h.elim (fun h=>.inl (s.seq h)) fun h=>.inr (s.sqT h)
theorem FT(T:TxK K mg D):Ok P w K mg base 1 "with_length" ["row"] (spWL K):=by
 refine T.withLength.ok scWL (fun vs H Q E h=>?_) (fun f cdv A outer s H vs Q E hr h=>?_)
 .obtain⟨a,xs,rfl,_⟩:=h;rfl
 .obtain⟨a,xs,rfl,hs,hz,k⟩:=h;refine⟨_,Af (Aj (Ay BJ (As (Aa (plen T.len (pv 0)) Ac)) (plist T.list (pv 0)))),?_⟩;refine⟨_,rfl,a,xs,rfl,hs,(by show 1<=sizeLine;decide),fun b hb=>?_⟩;have sb:Same H (aj H b (.lst [.int xs.length])):=ae hb;have hbu:(aj H b (.lst [.int xs.length])) b=some (.lst [.int xs.length]):=Ae;generalize aj H b (.lst [.int xs.length])=H1 at sb hbu;refine⟨_,rfl,a,xs,rfl,My hs sb,fun c hc=>?_⟩;have sc:Same H1 (aj H1 c (.lst xs)):=ae hc;refine⟨b,c,_,_,rfl,rfl,sc _ _ hbu,Ae,(by show 1+xs.length<=_;omega),fun q hq=>?_⟩;exact k _ q (sb.trans (sc.trans (ae hq))) ((sb.trans sc).free hq) Ae
theorem scKI:FnScope ["self"] ["self"] (defScope (inClass (top 104) 0)):=fsc
theorem newOrder(T:TxK K mg D){Z:St}{H:Hp}{Q:VK}(k:∀(H':Hp)(o l:Addr),Same H H'->H o=none->H l=none->OrdL D H' o l [] []->Q (.ref o) H'):tMake D.order (spOI K D.order) [] E0 (tCons (tLst tNil) tNil) Z H Q:=by
 refine⟨zero_le _,fun b hb=>?_⟩;have sb:Same H (aj H b (.lst [])):=ae hb;have hbu:(aj H b (.lst [])) b=some (.lst []):=Ae;generalize aj H b (.lst [])=H1 at sb hbu;intro x dx hx hdx hne;refine⟨x,dx,b,[],rfl,Ae,aa ?_,fun H' l h1 h2 h3 h4=>⟨rfl,?_⟩⟩
 .rw[Am (Ai hbu hx),Am (Ai hbu hdx)];exact hbu
 have s1:Same H1 H':=ai hx hdx h4;have s0:Same H1 (aj (aj H1 dx (.own x)) x (.ins D.order dx [])):=fun b u e=>by rw[Am (Ai e hx),Am (Ai e hdx)];exact e
 exact k H' x l (sb.trans s1) (sb.free hx) ((sb.trans s0).free h3) ⟨⟨dx,h1⟩,h2,rfl,fun i a e h=>by cases h⟩
def spKI(D:Ad):Sp:=fun vs H Q _=>∃(p dx:Addr),vs=[.ref p]/\H p=some (.ins D.desk dx [])/\∀H',(∀g,H' g=none->DkAt D g H' p [])->SameBut p H H'->Q .non H'
theorem OE(T:TxK K mg D):IOk P w K mg base 3 D.desk ["self"] (spKI D):=by
 have GO:=L3 (P:=P) (w:=w) (base:=base) T.toTxB;refine T.iK.ok scKI (fun vs H Q E h=>?_) (fun f cdv A outer s H vs Q E hr h=>?_)
 .obtain⟨p,dx,rfl,_⟩:=h;rfl
 .obtain⟨p,dx,rfl,hp,k⟩:=h;refine⟨_,Af (AY (pv 0) (pmk GO hr T.cO (Aa (As Ac) Ac)) rfl),?_⟩;refine newOrder T fun H1 o l s1 ho0 hl0 hO=>?_;have hp1:=s1 _ _ hp;refine⟨_,rfl,p,D.desk,dx,[],rfl,hp1,T.clK,T.nK,(by decide),?_⟩;have sb:SameBut p H1 (aj H1 p (.ins D.desk dx (putF "order" (.ref o) []))):=af;have hpo:o≠p:=(Ai hp ho0).symm;obtain⟨dxo,h1⟩:=hO.obj;have hl2:=sb _ _ hO.lst (AC hO.lst hp1 (fun z=>HO.noConfusion z));refine k _ (fun g hg=>⟨dx,o,l,[],Ae,Ai hl2 hg,⟨⟨dxo,sb _ _ h1 hpo⟩,hl2,rfl,fun i a e h=>by cases h⟩⟩) fun b u e n=>sb _ _ (s1 _ _ e) n
theorem scCn:FnScope ["desk","numbers","rows"] ["desk","numbers","rows"] (defScope (top 107)):=fsc
theorem NY(T:TxK K mg D):Ok P w K mg base 3 "call_new" ["desk","numbers","rows"] (spCall D 0 0 fun _ _=>.fresh):=by
 have GO:=L3 (P:=P) (w:=w) (base:=base) T.toTxB;refine T.cNew.ok scCn AI (fun f cdv A outer s H vs Q E hr h=>?_);obtain⟨g,d,nl,rl,rs,es,nums,rows,rfl,⟨gu,hgx⟩,⟨dx,o,l,as,hd,hlg,hO⟩,hI,hn,hrl,hL,ln,lr,hm,k⟩:=h;refine⟨_,Ab (AY (pv 0) (pmk GO hr T.cO (Aa (As Ac) Ac)) rfl) (Af (Aj (As (Aa (pgi T.done) Ac)))),?_⟩;dsimp only[tSeq,sFld];refine newOrder T fun H1 o1 l1 s1 ho0 hl0 hO1=>?_;have hd1:=s1 _ _ hd;refine⟨_,rfl,d,D.desk,dx,_,rfl,hd1,T.clK,T.nK,(by show 1<1000;decide),?_⟩;have sb:SameBut d H1 (aj H1 d (.ins D.desk dx (putF "order" (.ref o1) [("order",.ref o)]))):=af;have hd2:(aj H1 d (.ins D.desk dx (putF "order" (.ref o1) [("order",.ref o)]))) d=some (.ins D.desk dx [("order",.ref o1)]):=Ae;generalize aj H1 d (.ins D.desk dx (putF "order" (.ref o1) [("order",.ref o)]))=H2 at sb hd2;obtain⟨dxo,h1⟩:=hO1.obj;have hpo:o1≠d:=(Ai hd ho0).symm;have hO2:OrdL D H2 o1 l1 [] []:=⟨⟨dxo,sb _ _ h1 hpo⟩,sb _ _ hO1.lst (AC hO1.lst hd1 (fun z=>HO.noConfusion z)),rfl,fun i a e h=>by cases h⟩;refine⟨(by show 1<=sizeLine;decide),fun q hq=>?_⟩;have sq:Same H2 (aj H2 q (.lst [V.int 0])):=ae hq;exact k _ q (fun b u e n=>sq _ _ (sb _ _ (s1 _ _ e) n)) Ae ⟨dx,o1,l1,[],sq _ _ hd2,(Ai hgx hl0).symm,hO2.same sq⟩ LM.OInv.nil
theorem Ck{rs:List Addr}{rows:List (List Nat)}{H:Hp}(hL:LsAt RowAt H rs rows)(h:rows.length=1):∃r row,rs=[r]/\rows=[row]/\H r=some (.lst (nv row)):=by
 obtain⟨row,rfl⟩:=List.length_eq_one_iff.mp h;obtain⟨r,rfl⟩:=List.length_eq_one_iff.mp (hL.1.trans h);exact⟨r,row,rfl,rfl,hL.2 0 r row rfl rfl⟩
theorem scCr:FnScope ["desk","numbers","rows","outcome","fault"] ["desk","numbers","rows"] (defScope (top 108)):=fsc
theorem Lc(T:TxK K mg D):Ok P w K mg base 7 "call_rules" ["desk","numbers","rows"] (spCall D 0 1 fun _ rows=>.rules (rows.headD [])):=by
 have GF:=OA (P:=P) (w:=w) (base:=base) T.toTxD;refine T.cRules.ok scCr AI (fun f cdv A outer s H vs Q E hr h=>?_);obtain⟨g,d,nl,rl,rs,es,nums,rows,rfl,⟨gu,hgx⟩,⟨dx,o,l,as,hd,hlg,hO⟩,hI,hn,hrl,hL,ln,lr,hm,k⟩:=h
 refine⟨_,Ab (Al (i:=3) scCr.nd rfl (inl rfl) (pc GF hr (Aa (Ak (pv 0) rfl) (Aa (Ar Ap (pv 2) Ag (fun _ _=>rfl)) Ac))))
  (Ab (Al (i:=4) scCr.nd rfl (inl rfl) (Ar AB (pv 3) Ag (fun _ _=>rfl)))
  (Ab (Av (An M0 (pv 4) Bc (nomark _)) (Af (Aj (plist T.list (pv 4)))) Ao)
  (Ab (AY (pv 0) (Ar AB (pv 3) Ag (fun _ _=>rfl)) rfl)
  (Af (Aj (As (Aa (pgi T.done) Ac))))))),?_⟩
 obtain⟨r,row,rfl,rfl,hrow⟩:=Ck hL lr;have hrl120:row.length<=120:=of_decide_eq_true hm;refine⟨_,rfl,d,D.desk,dx,_,_,rfl,hd,T.clK,T.nK,rfl,_,rfl,rl,_,_,_,rfl,rfl,aa hrl,AA (j:=0) (v:=V.ref r) rfl rfl,o,l,r,as,es,row,rfl,hO,hI,hrow,(by omega),?_,?_⟩
 .intro H1 t u kk p hR s1 ht hu;refine⟨_,rfl,t,_,_,_,rfl,rfl,ab ht,AA (j:=1) (v:=V.ref u) rfl rfl,?_⟩;refine⟨_,rfl,rfl,_,rfl,?_⟩;refine iteT ⟨_,rfl,u,_,rfl,.inr (ab hu),fun q hq=>?_⟩;have sq:Same H1 (aj H1 q (.lst [V.int kk,V.int (p:Int)])):=ae hq
  have e:LoCalls.step es (.rules row)=(es,.refused [kk,(p:Int)]):=by
   show(match Lo.rules es row with | .ok p=>_ | .error x=>_)=_;rw[hR]
  have k:=k (aj H1 q (.lst [V.int kk,V.int (p:Int)])) q (s1.trans sq).but;rw[show(LoCalls.step es (LoCalls.Call.rules (List.headD [row] [])))=(es,.refused [kk,(p:Int)]) from e]at k;exact k Ae (DkAt.same ⟨dx,o,l,as,hd,hlg,hO⟩ (s1.trans sq)) hI
 .intro H1 t c l' as' es' hR s1 ht hO1 hI1 hl0;refine⟨_,rfl,t,_,_,_,rfl,rfl,ab ht,AA (j:=1) (v:=V.non) rfl rfl,?_⟩;refine⟨_,rfl,rfl,_,rfl,?_⟩;have hd1:=s1 _ _ hd;refine iteF ⟨_,rfl,t,_,_,_,rfl,rfl,ab ht,AA (j:=0) (v:=V.ref c) rfl rfl,_,rfl,d,D.desk,dx,_,rfl,hd1,T.clK,T.nK,(by show 1<1000;decide),?_⟩;have sb:SameBut d H1 (aj H1 d (.ins D.desk dx (putF "order" (.ref c) [("order",.ref o)]))):=af;have hd2:(aj H1 d (.ins D.desk dx (putF "order" (.ref c) [("order",.ref o)]))) d=some (.ins D.desk dx [("order",.ref c)]):=Ae;generalize aj H1 d (.ins D.desk dx (putF "order" (.ref c) [("order",.ref o)]))=H2 at sb hd2;have nt:∀b u,H1 b=some u->(∀dx' fs,u≠ .ins D.desk dx' fs)->b≠d:=fun b u e n z=>by rw[z,hd1]at e;cases e;exact n _ _ rfl
  obtain⟨dxo,h1⟩:=hO1.obj
  have ncd:c≠d:=by
   intro z;rw[z,hd1]at h1;injection h1 with h1
   injection h1 with h2 _ h1
   simp at h1;exact absurd h1.1 (by decide)
  have ned:∀(i:Nat) a e,as'[i]? =some a->es'[i]? =some e->a≠d:=by
   intro i a e h1 h2 z;obtain⟨dxe,ts,ta,h3,_⟩:=hO1.ents.2 i a e h1 h2;rw[z,hd1]at h3;injection h3 with h3
   injection h3 with _ _ h3
   have:=congrArg List.length h3;cases this
  have hO2:OrdL D H2 c l' as' es':=by
   refine⟨⟨dxo,sb _ _ h1 ncd⟩,sb _ _ hO1.lst (AC hO1.lst hd1 (fun z=>HO.noConfusion z)),hO1.ents.1,fun i a e h1 h2=>?_⟩;obtain⟨dxe,ts,ta,h3,h4,h5⟩:=hO1.ents.2 i a e h1 h2;exact⟨dxe,ts,ta,sb _ _ h3 (ned i a e h1 h2),sb _ _ h4 (AC h4 hd1 (fun z=>HO.noConfusion z)),sb _ _ h5 (AC h5 hd1 (fun z=>HO.noConfusion z))⟩
  refine⟨(by show 1<=sizeLine;decide),fun q hq=>?_⟩;have sq:Same H2 (aj H2 q (.lst [V.int 0])):=ae hq
  have e:LoCalls.step es (.rules row)=(es',.done):=by
   show(match Lo.rules es row with | .ok p=>_ | .error x=>_)=_;rw[hR]
  have k:=k (aj H2 q (.lst [V.int 0])) q fun b u e n=>sq _ _ (sb _ _ (s1 _ _ e) n);rw[show(LoCalls.step es (LoCalls.Call.rules (List.headD [row] [])))=(es',.done) from e]at k;exact k Ae ⟨dx,c,l',as',sq _ _ hd2,(Ai hgx hl0).symm,hO2.same sq⟩ hI1
theorem scCw:FnScope ["desk","numbers","rows"] ["desk","numbers","rows"] (defScope (top 109)):=fsc
theorem Fp{Z:St}{H:Hp}{te:TE}{Q:VK}{l:List Nat}(hz:l.length<16000000)(he:∀{H':Hp}{Q':VK},Same H H'->newL H' (.int ((l.length:Nat):Int)::nv l) Q'->te Z H' Q')
  (k:newL H (iv (OrderNeutral.told (.row l))) Q):tOp rCat (tLst (tCons (tC (.int 0)) tNil)) te Z H Q:=by
 have hs:sizeLine=16777216:=sizeLine_eq;refine⟨(by show 1<=sizeLine;decide),fun a ha=>?_⟩;have sa:Same H (aj H a (.lst [V.int 0])):=ae ha;have hau:(aj H a (.lst [V.int 0])) a=some (.lst [V.int 0]):=Ae;generalize aj H a (.lst [V.int 0])=H1 at sa hau;refine he sa fun H2 b s2 hb0 hb=>?_;refine⟨a,b,_,_,rfl,rfl,s2 _ _ hau,hb,(by simp only[length_cons,length_nil,Aq];omega),fun q hq=>?_⟩;refine k _ q (sa.trans (s2.trans (ae hq))) ((sa.trans s2).free hq) ?_;rw[Ae];show some (HO.lst ([V.int 0]++V.int ((l.length:Nat):Int)::nv l))=some (HO.lst (iv (0::((OrderNeutral.ints l).length:Int)::OrderNeutral.ints l)));rw[<-C9,show(OrderNeutral.ints l).length=l.length from length_map ..];rfl
theorem KN(T:TxK K mg D):Ok P w K mg base 5 "call_write" ["desk","numbers","rows"] (spCall D 0 0 fun _ _=>.write):=by
 have GO:=Ow (P:=P) (w:=w) (base:=base) T.toTxE;have GL:=FT (P:=P) (w:=w) (base:=base) T;refine T.cWrite.ok scCw AI (fun f cdv A outer s H vs Q E hr h=>?_);obtain⟨g,d,nl,rl,rs,es,nums,rows,rfl,⟨gu,hgx⟩,⟨dx,o,l,as,hd,hlg,hO⟩,hI,hn,hrl,hL,ln,lr,hm,k⟩:=h;have hr1:Room 1 _:=hr.mono (by decide);refine⟨_,Af (Aj (Ay BJ (As (Aa (pgi T.done) Ac)) (pc GL hr1 (Aa (pc GO hr (Aa (Ak (pv 0) rfl) Ac)) Ac)))),?_⟩;have hwl:=CZ hI;have hil:=hI.len;refine Fp (l:=written es) (by omega) (fun{H1 Q1} s1 k1=>?_) fun H2 q s2 hq0 hq=>k H2 q s2.but hq (DkAt.same ⟨dx,o,l,as,hd,hlg,hO⟩ s2) hI;refine⟨_,rfl,d,D.desk,dx,_,_,rfl,s1 _ _ hd,T.clK,T.nK,rfl,o,l,as,es,rfl,hO.same s1,hI,fun H2 a s2 ha=>?_⟩;have hs:sizeLine=16777216:=sizeLine_eq;refine⟨a,_,rfl,.inl (aa ha),(by rw[Aq];omega),fun H3 q s3 hq0 hq=>?_⟩;rw[Aq]at hq;exact k1 H3 q (s2.trans s3) (s2.free hq0) hq
theorem scCc:FnScope ["desk","numbers","rows"] ["desk","numbers","rows"] (defScope (top 110)):=fsc
theorem Lf(T:TxK K mg D):Ok P w K mg base 1 "call_count" ["desk","numbers","rows"] (spCall D 0 0 fun _ _=>.count):=by
 refine T.cCount.ok scCc AI (fun f cdv A outer s H vs Q E hr h=>?_);obtain⟨g,d,nl,rl,rs,es,nums,rows,rfl,⟨gu,hgx⟩,⟨dx,o,l,as,hd,hlg,hO⟩,hI,hn,hrl,hL,ln,lr,hm,k⟩:=h;refine⟨_,Af (Aj (As (Aa (pgi T.done) (Aa (plen T.len (Ak (Ak (pv 0) rfl) rfl)) Ac)))),?_⟩;obtain⟨dxo,ho⟩:=hO.obj;refine⟨_,rfl,d,D.desk,dx,_,_,rfl,hd,T.clK,T.nK,rfl,o,D.order,dxo,_,_,rfl,ho,T.clO,T.nO,rfl,l,_,rfl,.inl (aa hO.lst),(by show 2<=sizeLine;decide),fun q hq=>?_⟩;have sq:Same H (aj H q (.lst [V.int 0,V.int (((as.map V.ref).length:Nat):Int)])):=ae hq;refine k _ q sq.but ?_ (DkAt.same ⟨dx,o,l,as,hd,hlg,hO⟩ sq) hI;rw[Ae,length_map,hO.ents.1];rfl
theorem DL{Z:St}{H:Hp}{Q:VK}{i:Int}(k:newL H (iv [i]) Q):tLst (tCons (tC (.int i)) tNil) Z H Q:=
 ⟨by show 1<=sizeLine;decide,fun q hq=>k _ q (ae hq) hq Ae⟩
theorem CL{l:List Nat}(h:l.length=1):∃n,l=[n]:=List.length_eq_one_iff.mp h
theorem scCe:FnScope ["desk","numbers","rows","entry","told"] ["desk","numbers","rows"] (defScope (top 111)):=fsc
theorem L7(T:TxK K mg D):Ok P w K mg base 2 "call_entry" ["desk","numbers","rows"] (spCall D 1 0 fun nums _=>.entry (nums.headD 0)):=by
 have GL:=FT (P:=P) (w:=w) (base:=base) T;refine T.cEntry.ok scCe AI (fun f cdv A outer s H vs Q E hr h=>?_);obtain⟨g,d,nl,rl,rs,es,nums,rows,rfl,⟨gu,hgx⟩,⟨dx,o,l,as,hd,hlg,hO⟩,hI,hn,hrl,hL,ln,lr,hm,k⟩:=h
 refine⟨_,Ab (Av (An HE (Ar Ap (pv 1) Ag (fun _ _=>rfl)) (plen T.len (Ak (Ak (pv 0) rfl) rfl)) (nomark _)) (Af (Aj (As (Aa (pgi T.noneThere) Ac)))) Ao)
  (Ab (Al (i:=3) scCe.nd rfl (inl rfl) (Ar Ap (Ak (Ak (pv 0) rfl) rfl) (Ar Ap (pv 1) Ag (fun _ _=>rfl)) (fun _ _=>rfl)))
  (Ab (Al (i:=4) scCe.nd rfl (inl rfl) (As (Aa (pgi T.done) (Aa (Ak (pv 3) rfl) (Aa (AT (AJ (Ak (pv 3) rfl)) Ag Ag) Ac)))))
  (Af (Aj (Ay BJ (Ay BJ (pv 4) (pc GL hr (Aa (Ak (pv 3) rfl) Ac))) (pc GL hr (Aa (Ak (pv 3) rfl) Ac))))))),?_⟩
 obtain⟨n,rfl⟩:=CL ln;obtain⟨dxo,ho⟩:=hO.obj;have hs:sizeLine=16777216:=sizeLine_eq;have eo:∀{Z:St},Z[0]? =some (some (.ref d))->Ev (tFld K (tFld K (tVar 0) "order") "entries") Z H (.ref l):=fun h0=>Az (Az (Ah h0) hd T.clK T.nK rfl) ho T.clO T.nO rfl;have en:∀{Z:St},Z[1]? =some (some (.ref nl))->Ev (tOp (rIxL K) (tVar 1) (tC (.int 0))) Z H (.int (n:Int)):=fun h0=>AK (Ah h0) ev_c (aa hn) (AA (j:=0) (v:=V.int (n:Int)) rfl rfl);dsimp only[tSeq,tIfS];refine AZ (en rfl) (AG (eo rfl) (.inl (aa hO.lst))) _ ?_;rw[length_map,hO.ents.1];have hDk:DkAt D g H d es:=⟨dx,o,l,as,hd,hlg,hO⟩;have estep:LoCalls.step es (LoCalls.Call.entry n)=(es,match es[n]? with|some e=>.entry e|none=>LoCalls.no (-2)):=rfl;have k:∀(H':Hp)(q:Addr),SameBut d H H'->H' q=some (.lst (iv (OrderNeutral.told (match es[n]? with|some e=>.entry e|none=>LoCalls.no (-2)))))->DkAt D g H' d es->LM.OInv es->Q (.ref q) H':=k;by_cases hlt:n<es.length
 .have hde:decide ((es.length:Int)<=(n:Int))=false:=decide_eq_false (by omega);rw[hde];refine iteF ?_;obtain⟨e,he⟩:∃e,es[n]? =some e:=⟨_,getElem?_eq_getElem hlt⟩;obtain⟨a,ha⟩:∃a,as[n]? =some a:=⟨_,getElem?_eq_getElem (by rw[hO.ents.1];exact hlt)⟩;obtain⟨dxe,ts,ta,h1,h2,h3⟩:=hO.ents.2 n a e ha he;obtain⟨_,el4,al4,st4⟩:=hI.each e (mem_of_getElem? he);rw[he]at k;dsimp only[tNext,tSeq,tAsg,gName];refine eo rfl _ (en rfl _ ⟨l,_,_,_,rfl,rfl,aa hO.lst,AA (j:=n) (v:=V.ref a) rfl (Bh ha),?_⟩);dsimp only[tSeq,tAsg,gName,tLst,tCons,tC];refine⟨_,rfl,a,D.entry,dxe,_,_,rfl,h1,T.clE,T.nE2,rfl,?_⟩;refine Bs (Az (Ah rfl) h1 T.clE T.nE3 rfl) _ ?_
  have fin:∀b:Int,b=(if e.light=true then 1 else 0)->(∀p,H p=none->tRet (tOp rCat (tOp rCat (tVar 4) (tCall (spWL K) [] E0 (tCons (tFld K (tVar 3) "string") tNil))) (tCall (spWL K) [] E0 (tCons (tFld K (tVar 3) "counts_as") tNil)))
    {nx:=fun _ H'=>Q .non H',rt:=Q} [some (.ref d),some (.ref nl),some (.ref rl),some (.ref a),some (.ref p)] (aj H p (.lst [V.int 0,V.int (e.st:Int),V.int b]))):=by
   intro b hb p hp;have sp:Same H (aj H p (.lst [V.int 0,V.int (e.st:Int),V.int b])):=ae hp;have hpu:(aj H p (.lst [V.int 0,V.int (e.st:Int),V.int b])) p=some (.lst [V.int 0,V.int (e.st:Int),V.int b]):=Ae;generalize aj H p (.lst [V.int 0,V.int (e.st:Int),V.int b])=H1 at sp hpu;refine⟨_,rfl,_,rfl,a,D.entry,dxe,_,_,rfl,sp _ _ h1,T.clE,T.nE1,rfl,ts,_,rfl,.inr (ab (sp _ _ h2)),(by rw[Aq];omega),fun H2 q2 s2 hq20 hq2=>?_⟩;refine⟨p,q2,_,_,rfl,rfl,s2 _ _ hpu,hq2,(by simp only[length_cons,length_nil,Aq];omega),fun q3 hq3=>?_⟩;have s3:Same H2 (aj H2 q3 (.lst ([V.int 0,V.int (e.st:Int),V.int b]++V.int (((nv e.s).length:Nat):Int)::nv e.s))):=ae hq3;have hq3u:(aj H2 q3 (.lst ([V.int 0,V.int (e.st:Int),V.int b]++V.int (((nv e.s).length:Nat):Int)::nv e.s))) q3=some (.lst ([V.int 0,V.int (e.st:Int),V.int b]++V.int (((nv e.s).length:Nat):Int)::nv e.s)):=Ae;generalize aj H2 q3 (.lst ([V.int 0,V.int (e.st:Int),V.int b]++V.int (((nv e.s).length:Nat):Int)::nv e.s))=H3 at s3 hq3u;have s13:=sp.trans (s2.trans s3);refine⟨_,rfl,a,D.entry,dxe,_,_,rfl,s13 _ _ h1,T.clE,T.nE4,rfl,ta,_,rfl,.inr (ab (s13 _ _ h3)),(by rw[Aq];omega),fun H4 q4 s4 hq40 hq4=>?_⟩;refine⟨q3,q4,_,_,rfl,rfl,s4 _ _ hq3u,hq4,(by simp only[length_append,length_cons,length_nil,Aq];omega),fun q5 hq5=>?_⟩;have s5:=s13.trans (s4.trans (ae (o:=.lst ([V.int 0,V.int (e.st:Int),V.int b]++V.int (((nv e.s).length:Nat):Int)::nv e.s++V.int (((nv e.as_).length:Nat):Int)::nv e.as_)) hq5));refine k _ q5 s5.but ?_ (hDk.same s5) hI;rw[Ae];show some (HO.lst _)=some (HO.lst (iv (0::(e.st:Int)::(if e.light=true then 1 else 0)::((((OrderNeutral.ints e.s).length:Nat):Int)::OrderNeutral.ints e.s++(((OrderNeutral.ints e.as_).length:Nat):Int)::OrderNeutral.ints e.as_))));rw[hb,Aq,Aq,<-C9,<-C9,show(OrderNeutral.ints e.s).length=e.s.length from length_map ..,show(OrderNeutral.ints e.as_).length=e.as_.length from length_map ..];simp[iv]
  cases hli:e.light with
  |true=>exact iteT ⟨by show 3<=sizeLine;decide,fin 1 (by rw[hli];rfl)⟩
  |false=>exact iteF ⟨by show 3<=sizeLine;decide,fin 0 (by rw[hli];rfl)⟩
 .have hde:decide ((es.length:Int)<=(n:Int))=true:=decide_eq_true (by omega);rw[hde];have hno:es[n]? =none:=List.getElem?_eq_none (by omega);rw[hno]at k;exact iteT (DL fun H1 q s1 _ hq=>k H1 q s1.but hq (hDk.same s1) hI)
theorem scCh:FnScope ["desk","numbers","rows","place"] ["desk","numbers","rows"] (defScope (top 112)):=fsc
theorem KS(T:TxK K mg D):Ok P w K mg base 2 "call_where" ["desk","numbers","rows"] (spCall D 0 1 fun _ rows=>.where_ (rows.headD [])):=by
 have GP:=IA (P:=P) (w:=w) (base:=base) T.toTxB;refine T.cWhere.ok scCh AI (fun f cdv A outer s H vs Q E hr h=>?_);obtain⟨g,d,nl,rl,rs,es,nums,rows,rfl,⟨gu,hgx⟩,⟨dx,o,l,as,hd,hlg,hO⟩,hI,hn,hrl,hL,ln,lr,hm,k⟩:=h
 refine⟨_,Ab (Av (BK (Lp Dc Dc Ag (plen T.len (Ar Ap (pv 2) Ag (fun _ _=>rfl))) (pgi T.longest))) (Af (Aj (As (Aa (pgi T.wrongForm) Ac)))) Ao)
  (Ab (Al (i:=3) scCh.nd rfl (inl rfl) (pm GP T.clO hr (Ak (pv 0) rfl) (Aa (ptuple T.tuple (Ar Ap (pv 2) Ag (fun _ _=>rfl))) Ac)))
  (Ab (Av (An Be (pv 3) (pgi T.noPlace) (nomark _)) (Af (Aj (As (Aa (pgi T.noneThere) Ac)))) Ao)
  (Af (Aj (As (Aa (pgi T.done) (Aa (pv 3) Ac))))))),?_⟩
 obtain⟨r,x,rfl,rfl,hrow⟩:=Ck hL lr;obtain⟨dxo,ho⟩:=hO.obj;have hDk:DkAt D g H d es:=⟨dx,o,l,as,hd,hlg,hO⟩;have k:∀(H':Hp)(q:Addr),SameBut d H H'->H' q=some (.lst (iv (OrderNeutral.told (if x.length=0\/Lo.STRING<x.length then LoCalls.no (-1) else if(Lo.find es x).isSome=true then num (Lo.indexOf es x) else LoCalls.no (-2)))))->DkAt D g H' d es->LM.OInv es->Q (.ref q) H':=k;have er:∀{Z:St},Z[2]? =some (some (.ref rl))->Ev (tOp (rIxL K) (tVar 2) (tC (.int 0))) Z H (.ref r):=fun h0=>AK (Ah h0) ev_c (aa hrl) (AA (j:=0) (v:=V.ref r) rfl rfl);dsimp only[tSeq,tIfS];refine BT (Ax (DI ev_c (AG (er rfl) (.inl (aa hrow))) ev_c)) _ ?_;rw[Aq];by_cases hx:x.length=0\/Lo.STRING<x.length
 .have e1:(!(decide ((1:Int)<=((x.length:Nat):Int))&&decide (((x.length:Nat):Int)<=4)))=true:=by
   have hS:Lo.STRING=4:=rfl;rw[not_eq_true',Bool.and_eq_false_iff,decide_eq_false_iff_not,decide_eq_false_iff_not];omega
  rw[e1];rw[if_pos hx]at k;exact iteT (DL fun H1 q s1 _ hq=>k H1 q s1.but hq (hDk.same s1) hI)
 .have e1:(!(decide ((1:Int)<=((x.length:Nat):Int))&&decide (((x.length:Nat):Int)<=4)))=false:=by
   have hS:Lo.STRING=4:=rfl;rw[Bool.not_eq_false',and_eq_true,decide_eq_true_iff,decide_eq_true_iff];omega
  rw[e1];rw[if_neg hx]at k;refine iteF ?_;dsimp only[tNext,tSeq,tAsg];refine⟨_,rfl,d,D.desk,dx,_,_,rfl,hd,T.clK,T.nK,rfl,o,dxo,_,rfl,ho,rfl,?_⟩;refine er rfl _ ⟨r,_,rfl,.inl ⟨aa hrow,fun t ht=>?_⟩⟩;have st:Same H (aj H t (.tup (nv x))):=ae ht;refine⟨o,l,t,as,es,x,rfl,hO.same st,ab Ae,fun H1 s1=>?_⟩;have s01:=st.trans s1;refine⟨_,rfl,Dv _ _,_,rfl,?_⟩;have hf:=LM.CN es x;cases hp:LM.plc es x with
  |none=>
   rw[hp]at hf;rw[hf]at k;exact iteT (DL fun H2 q s2 _ hq=>k H2 q (s01.trans s2).but hq (hDk.same (s01.trans s2)) hI)
  |some i=>
   rw[hp]at hf;rw[hf,show(if(some i).isSome=true then num (Lo.indexOf es x) else LoCalls.no (-2))=num (Lo.indexOf es x) from if_pos rfl,LM.C8 hp]at k
   have e2:decide (plV (some i)=V.int (-1))=false:=by
    have:=Ln (some i);rw[Bool.not_eq_eq_eq_not]at this;exact this
   rw[e2];refine iteF ⟨_,rfl,(by show 2<=sizeLine;decide),fun q hq=>?_⟩;have s2:=s01.trans (ae (o:=.lst [V.int 0,V.int (i:Int)]) hq);exact k _ q s2.but Ae (hDk.same s2) hI
theorem newScale{Z:St}{H:Hp}{Q:VK}{te:TE}{o l:Addr}{as:List Addr}{es:Lo.Order}(he:Ev te Z H (.ref o))(hO:OrdL D H o l as es)(hI:LM.OInv es)(k:∀(H':Hp)(sc:Addr),Same H H'->H sc=none->ScAt D H' sc es->Q (.ref sc) H'):
  tMake D.scale (spCI D) [] E0 (tCons te tNil) Z H Q:=by
 refine he _ ?_;intro x dx hx hdx hne;have s1:Same H (aj (aj H dx (.own x)) x (.ins D.scale dx [])):=fun b u e=>by rw[Am (Ai e hx),Am (Ai e hdx)];exact e
 refine⟨x,dx,o,l,as,es,rfl,Ae,hO.same s1,hI,fun H' h1 h2=>⟨rfl,?_⟩⟩;exact k H' x (ai hx hdx h2) hx h1
def refN(f:Bool)(l:List (List Nat)):Int:=if f=false then -1 else if(l.all fun(a:List Nat)=>a.all Lo.isChar)=false then -3 else 0
theorem scRO:FnScope ["is_formed","texts","text"] ["is_formed","texts"] (defScope (top 106)):=fsc
def spRO:Sp:=fun vs H Q _=>∃(b:Bool)(l:Addr)(bs:List Addr)(xs:List (List Nat)),vs=[.bl b,.ref l]/\H l=some (.lst (bs.map V.ref))/\LsAt RowAt H bs xs/\xs.length<=10000/\(∀x∈xs,x.length<=10000)/\∀H',Same H H'->Q (.int (refN b xs)) H'
theorem Dd(T:TxK K mg D):Ok P w K mg base 3 "refusal_of" ["is_formed","texts"] spRO:=by
 have GX:=Jh (P:=P) (w:=w) (base:=base) T.toTxA;refine T.refusalOf.ok scRO (fun vs H Q E h=>?_) (fun f cdv A outer s H vs Q E hr h=>?_)
 .obtain⟨b,l,bs,xs,rfl,_⟩:=h;rfl
 .obtain⟨b,l,bs,xs,rfl,hl,hL,hz,hze,k⟩:=h
  refine⟨_,Ab (Av (BK (AJ (pv 0))) (Af (Aj (pgi T.wrongForm))) Ao)
   (Ab (Av (BK (AJ (BF (KD rfl) (by rfl) T.all PyProof.Rows.boot_all (Aa (BQ (own:=[("text",2)]) rfl scRO.nd (AE (pv 1)) (blk rfl)
    (fun s H C cl fp=>At (i:=2) scRO.nd rfl (inl rfl)) (fun s H C cl fp=>BE) (fun s H C cl fp=>pc GX hr (Aa (pv 2) Ac))) Ac)))) (Af (Aj (pgi T.noChar))) Ao)
   (Af (Aj (pgi T.done)))),?_⟩
  have hs:sizeLine=16777216:=sizeLine_eq;dsimp only[tSeq,tIfS,tNot];refine Bs (Ah rfl) _ ?_;unfold refN at k;cases b with
  |false=>exact iteT (k _ (ad _))
  |true=>
   rw[if_neg (by decide)]at k;refine iteF ?_;dsimp only[tNext,tSeq,tIfS,tNot,tB,tCB,tCons,tLc,iList];refine⟨_,rfl,l,rfl,⟨_,aa hl⟩,fun B hB0=>?_⟩;refine Dj 2 (ys:=(xs.map fun(a:List Nat)=>a.all Lo.isChar).map V.bl) hB0 (aa hl) (by rw[length_map,length_map,length_map,hL.1]) (by rw[length_map,hL.1];omega) (fun i x y H1 hx hy s1 R hR=>?_) fun H1 s1 hd=>?_
   .obtain⟨c,hc,rfl⟩:=AU hx;have hi:i<xs.length:=by rw[<-hL.1];exact(List.getElem?_eq_some_iff.mp hc).1
    have hxi:xs[i]? =some xs[i]:=getElem?_eq_getElem hi;rw[map_map,getElem?_map,hxi]at hy;cases hy;exact⟨_,rfl,c,xs[i],rfl,aa (s1 _ _ (hL.2 i c _ hc hxi)),(by have:=hze _ (mem_of_getElem? hxi);omega),fun H2 s2=>hR _ s2⟩
   .refine⟨B,_,rfl,aa hd,?_⟩;have e:(xs.map fun(a:List Nat)=>a.all Lo.isChar).all id=xs.all fun(a:List Nat)=>a.all Lo.isChar:=by rw[List.all_map];rfl
    rw[e];refine⟨_,rfl,?_⟩;cases hc:xs.all fun(a:List Nat)=>a.all Lo.isChar with
    |false=>
     rw[hc,if_pos rfl]at k;exact iteT (k _ s1)
    |true=>
     rw[hc,if_neg (by decide)]at k;exact iteF (k _ s1)
theorem Fc{te:TE}{Z:St}{H:Hp}{n:Nat}{Q:VK}(he:Ev te Z H (.int (n:Int)))(k:Q (.bl (howOk n)) H):tCall (spB howOk) [] E0 (tCons te tNil) Z H Q:=he _ ⟨n,rfl,k⟩
theorem G0{n:Nat}{b:Bool}{l:List (List Nat)}(h:refN (howOk n&&b) l=0):n<32:=by
 cases e:howOk n with
 |true=>exact of_decide_eq_true e
 |false=>rw[e]at h;cases h
theorem DC{n:Nat}{l:List (List Nat)}(h:refN (howOk n) l=0):n<32:=by
 cases e:howOk n with
 |true=>exact of_decide_eq_true e
 |false=>rw[e]at h;cases h
theorem LV{i:Nat}{Z:St}{H:Hp}{r:Int}{D0:Ends}{rest:TS}(hv:Z[i]? =some (some (.int r)))(h0:r=0->rest D0 Z H)(h1:r≠0->newL H (iv [r]) D0.rt):
  tSeq (tIfS (tTest (tOp rNe (tVar i) (tC (.int 0)))) (tRet (tLst (tCons (tVar i) tNil))) tNext) rest D0 Z H:=by
 refine⟨_,hv,rfl,_,rfl,?_⟩;by_cases e:r=0
 .have:(!decide (V.int r=V.int 0))=false:=by rw[e];rfl
  rw[this];exact iteF (h0 e)
 .have:(!decide (V.int r=V.int 0))=true:=by
   rw[decide_eq_false (fun z=>e (by injection z))];rfl
  rw[this];exact iteT ⟨_,hv,(by show 1<=sizeLine;decide),fun q hq=>h1 e _ q (ae hq) hq Ae⟩
theorem Bz(n:Nat)(l:List (List Nat))(f:Lo.How->Answer):OrderNeutral.told (looked n l f)=if refN (howOk n) l=0 then OrderNeutral.told (f (howOf n)) else [refN (howOk n) l]:=by
 unfold looked refN;cases howOk n with
 |false=>rfl
 |true=>
  cases(l.all fun(a:List Nat)=>a.all Lo.isChar)with
  |false=>rfl
  |true=>rfl
theorem BU{Z:St}{H H0:Hp}{i:Nat}{r:Int}{D0:Ends}{rest:TS}{d g:Addr}{es:Lo.Order}{L:List Int}{ans:List Int}{Q:VK}(hrt:D0.rt=Q)(hans:ans=if r=0 then L else [r])(s0:Same H0 H)(hDk:DkAt D g H0 d es)(hI:LM.OInv es)
  (k:∀(H':Hp)(q:Addr),SameBut d H0 H'->H' q=some (.lst (iv ans))->DkAt D g H' d es->LM.OInv es->Q (.ref q) H')
  (hv:Z[i]? =some (some (.int r))) (h0:r=0->(∀(H':Hp)(q:Addr),Same H H'->H' q=some (.lst (iv L))->Q (.ref q) H')->rest D0 Z H):
  tSeq (tIfS (tTest (tOp rNe (tVar i) (tC (.int 0)))) (tRet (tLst (tCons (tVar i) tNil))) tNext) rest D0 Z H:=by
 refine LV hv (fun e=>h0 e fun H' q s' hq=>?_) fun e H' q s' hq0 hq=>?_
 .rw[if_pos e]at hans;exact k H' q (s0.trans s').but (by rw[hans];exact hq) (hDk.same (s0.trans s')) hI
 .rw[if_neg e]at hans;rw[hrt];exact k H' q (s0.trans s').but (by rw[hans];exact hq) (hDk.same (s0.trans s')) hI
theorem scCi:FnScope ["desk","numbers","rows","refused","told","item"] ["desk","numbers","rows"] (defScope (top 113)):=fsc
theorem Fn(l:List Lo.Item):(l.flatMap itemNums).length=4 * l.length:=by
 induction l with
 |nil=>rfl
 |cons x l ih=>
  rw[List.flatMap_cons,length_append,ih,length_cons];show 4+_=_;omega
theorem Ls(T:TxK K mg D):Ok P w K mg base 6 "call_items" ["desk","numbers","rows"] (spCall D 0 1 fun _ rows=>.items (rows.headD [])):=by
 have GR:=Dd (P:=P) (w:=w) (base:=base) T;have GC:=Dg (P:=P) (w:=w) (base:=base) T.toTxG;have GT:=Ni (P:=P) (w:=w) (base:=base) T.toTxH;have GL:=FT (P:=P) (w:=w) (base:=base) T;refine T.cItems.ok scCi AI (fun f cdv A outer s H vs Q E hr h=>?_);obtain⟨g,d,nl,rl,rs,es,nums,rows,rfl,⟨gu,hgx⟩,⟨dx,o,l,as,hd,hlg,hO⟩,hI,hn,hrl,hL,ln,lr,hm,k⟩:=h;have hr1:Room 1 _:=hr.mono (by decide);have hr3:Room 3 _:=hr.mono (by decide);have hr4:Room 4 _:=hr.mono (by decide)
 refine⟨_,Ab (Al (i:=3) scCi.nd rfl (inl rfl) (pc GR hr3 (Aa CH (Aa (pv 2) Ac))))
  (Ab (Av (An Bj (pv 3) (pgi T.done) (nomark _)) (Af (Aj (As (Aa (pv 3) Ac)))) Ao)
  (Ab (Al (i:=4) scCi.nd rfl (inl rfl) (As Ac))
  (Ab (Ba PassesOwn.never rfl (AE (pc GT hr4 (Aa (pmk GC hr T.cC (Aa (Ak (pv 0) rfl) Ac)) (Aa (Ar Ap (pv 2) Ag (fun _ _=>rfl)) Ac)))) (At (i:=5) scCi.nd rfl (inl rfl))
   (Ab (Au (AR plainAttrs_list slot_list_extend type_list_extend MG (pv 4) (Aa (Ak (pv 5) rfl) Ac)))
   (Af (Au (AR plainAttrs_list PySem.F.slot_list_append PySem.F.type_list_append AD (pv 4) (Aa (AT (AJ (Ak (pv 5) rfl)) Ag Ag) Ac))))))
  (Af (Aj (Ay BJ (As (Aa (pgi T.done) Ac)) (pc GL hr1 (Aa (pv 4) Ac)))))))),?_⟩
 obtain⟨r,t,rfl,rfl,hrow⟩:=Ck hL lr;have hs:sizeLine=16777216:=sizeLine_eq;have hDk:DkAt D g H d es:=⟨dx,o,l,as,hd,hlg,hO⟩;have ht24:t.length<=24:=of_decide_eq_true hm;have k:∀(H':Hp)(q:Addr),SameBut d H H'->H' q=some (.lst (iv (OrderNeutral.told (looked 0 [t] fun _=>.row ((Lo.items es t).flatMap itemNums)))))->DkAt D g H' d es->LM.OInv es->Q (.ref q) H':=k;have er:∀{Z:St}{H':Hp},Z[2]? =some (some (.ref rl))->Same H H'->Ev (tOp (rIxL K) (tVar 2) (tC (.int 0))) Z H' (.ref r):=fun h0 s'=>AK (Ah h0) ev_c (aa (s' _ _ hrl)) (AA (j:=0) (v:=V.ref r) rfl rfl);refine⟨_,rfl,true,rl,[r],[t],rfl,hrl,hL,(by show 1<=10000;decide),(fun x hx=>by rw[mem_singleton.mp hx];omega),fun H1 s1=>?_⟩;dsimp only[gName];refine BU rfl (Bz 0 [t] _) s1 hDk hI k rfl fun e0 k2=>?_
 .dsimp only[tSeq,tAsg,gName];refine⟨zero_le _,fun q hq=>?_⟩;have sq:Same H1 (aj H1 q (.lst [])):=ae hq;have hqu:(aj H1 q (.lst [])) q=some (.lst []):=Ae;generalize aj H1 q (.lst [])=H2 at sq hqu;have s02:=s1.trans sq;dsimp only[tFor,iList,tCall,tCons];refine newScale (es:=es) (Az (Ah rfl) (s02 _ _ hd) T.clK T.nK rfl) (hO.same s02) hI fun H3 sc s3 hsc0 hsc=>?_;have s03:=s02.trans s3;refine er rfl s03 _ ⟨sc,r,es,t,rfl,hsc,hI,.inl (s03 _ _ hrow),(by omega),fun H4 b bs s4 hb0 hb hB=>?_⟩;have s04:=s03.trans s4;have hil:=Ce hI t;have A0:Acc H1 H4 q []:=⟨hq,sq.trans (s3.trans s4),s4 _ _ (s3 _ _ hqu)⟩;have nbq:b≠q:=(Ai (s3 _ _ hqu) hb0).symm
  refine⟨b,rfl,⟨_,aa hb⟩,Bt (K:=K) (a:=b) (xs:=bs.map V.ref) (D:={nx:=tRet (tOp rCat (tLst (tCons (tC (V.int 0)) tNil)) (tCall (spWL K) [] E0 (tCons (tVar 4) tNil))) {nx:=fun _ H'=>Q .non H',rt:=Q},rt:=Q}) (fun i Z H'=>∃v4,Z=[some (.ref d),some (.ref nl),some (.ref rl),some (.int (refN true [t])),some (.ref q),v4]/\Acc H1 H' q (((Lo.items es t).take i).flatMap itemNums)/\H' b=some (.lst (bs.map V.ref))/\LsAt (ItAt D.item) H' bs (Lo.items es t))
   ⟨none,rfl,A0,hb,hB⟩ (fun i Z H' _ ⟨_,_,_,h,_⟩=>aa h) ?_ ?_⟩
  .rintro i y Z H5 hi ⟨v4,rfl,A5,hb5,hB5⟩;obtain⟨a,ha,rfl⟩:=AU hi;have hit:i<(Lo.items es t).length:=by rw[<-hB.1];exact(List.getElem?_eq_some_iff.mp ha).1
   obtain⟨x,hx⟩:∃x,(Lo.items es t)[i]? =some x:=⟨_,getElem?_eq_getElem hit⟩;obtain⟨dxi,tw,h1,h2⟩:=hB5.2 i a x ha hx;have hnl:=Fn ((Lo.items es t).take i);rw[length_take]at hnl;refine⟨_,rfl,.inl ⟨rfl,_,aa A5.at_⟩,_,rfl,a,D.item,dxi,_,_,rfl,h1,T.clI,T.nI1,rfl,q,tw,_,_,rfl,rfl,A5.at_,ab h2,(by rw[Aq];show _+3<=_;omega),?_⟩;have e5:nv (((Lo.items es t).take i).flatMap itemNums)++wv x.w=nv (((Lo.items es t).take i).flatMap itemNums++[x.w.first,x.w.second,x.w.third]):=by rw[Bi];rfl
   rw[e5];have A6:Acc H1 (aj H5 q (.lst (nv (((Lo.items es t).take i).flatMap itemNums++[x.w.first,x.w.second,x.w.third])))) q (((Lo.items es t).take i).flatMap itemNums++[x.w.first,x.w.second,x.w.third]):=A5.put;have sb6:SameBut q H5 (aj H5 q (.lst (nv (((Lo.items es t).take i).flatMap itemNums++[x.w.first,x.w.second,x.w.third])))):=af;generalize aj H5 q (.lst (nv (((Lo.items es t).take i).flatMap itemNums++[x.w.first,x.w.second,x.w.third])))=H6 at A6 sb6;have h16:=sb6 _ _ h1 (AC h1 A5.at_ (fun z=>HO.noConfusion z));refine⟨_,rfl,.inl ⟨rfl,_,aa A6.at_⟩,?_⟩;dsimp only[tCons,tIf];refine Bs (Az (Ah rfl) h16 T.clI T.nI2 rfl) _ ?_;have ht1:(Lo.items es t).take (i+1)=(Lo.items es t).take i++[x]:=by rw[take_add_one,hx];rfl
   have fin:∀n:Nat,n=(if x.light=true then 1 else 0)->∃l xs y,V.ref q= .ref l/\[V.int (n:Int)]=[y]/\H6 l=some (.lst xs)/\xs.length<sizeLine/\(fun(_:V) H'=>∃v4,[some (V.ref d),some (V.ref nl),some (V.ref rl),some (V.int (refN true [t])),some (V.ref q),some (V.ref a)]=[some (V.ref d),some (V.ref nl),some (V.ref rl),some (V.int (refN true [t])),some (V.ref q),v4]/\Acc H1 H' q (((Lo.items es t).take (i+1)).flatMap itemNums)/\H' b=some (.lst (bs.map V.ref))/\LsAt (ItAt D.item) H' bs (Lo.items es t)) V.non (aj H6 l (.lst (xs++[y]))):=by
    intro n hn;refine⟨q,_,_,rfl,rfl,A6.at_,(by rw[Aq,length_append];show _+3<_;omega),_,rfl,?_,?_,?_⟩
    .have e6:nv (((Lo.items es t).take i).flatMap itemNums++[x.w.first,x.w.second,x.w.third])++[V.int (n:Int)]=nv (((Lo.items es t).take (i+1)).flatMap itemNums):=by
      rw[ht1,List.flatMap_append,hn,Bi,Bi,append_assoc]
      congr 1
     rw[e6];exact A6.put
    .rw[Am nbq];exact sb6 _ _ hb5 nbq
    .exact hB5.mono fun c z h=>((h.keep A5.at_ sb6).keep A6.at_ af)
   cases hli:x.light with
   |true=>exact iteT (fin 1 (by rw[hli];rfl))
   |false=>exact iteF (fin 0 (by rw[hli];rfl))
  .rintro Z H5 ⟨v4,rfl,A5,hb5,hB5⟩;rw[length_map,hB.1,take_length]at A5;have hnl:=Fn (Lo.items es t);refine Fp (l:=(Lo.items es t).flatMap itemNums) (by omega) (fun{H6 Q6} s6 k6=>?_) fun H7 q7 s7 hq0 hq7=>k2 H7 q7 (A5.same.trans s7) hq7;refine⟨_,rfl,q,_,rfl,.inl (aa (s6 _ _ A5.at_)),(by rw[Aq];omega),fun H7 q7 s7 hq0 hq7=>?_⟩;rw[Aq]at hq7;exact k6 H7 q7 s7 hq0 hq7
theorem scCk:FnScope ["desk","numbers","rows","refused"] ["desk","numbers","rows"] (defScope (top 114)):=fsc
theorem NU(T:TxK K mg D):Ok P w K mg base 7 "call_key" ["desk","numbers","rows"] (spCall D 1 1 fun nums rows=>.key (nums.headD 0) (rows.headD [])):=by
 have GR:=Dd (P:=P) (w:=w) (base:=base) T;have GW:=DP (P:=P) (w:=w) (base:=base) T.toTxL;have GC:=Dg (P:=P) (w:=w) (base:=base) T.toTxG;have GT:=EV (P:=P) (w:=w) (base:=base) T.toTxL;have GL:=FT (P:=P) (w:=w) (base:=base) T;refine T.cKey.ok scCk AI (fun f cdv A outer s H vs Q E hr h=>?_);obtain⟨g,d,nl,rl,rs,es,nums,rows,rfl,⟨gu,hgx⟩,⟨dx,o,l,as,hd,hlg,hO⟩,hI,hn,hrl,hL,ln,lr,hm,k⟩:=h;have hr1:Room 1 _:=hr.mono (by decide);have hr3:Room 3 _:=hr.mono (by decide);have hr5:Room 5 _:=hr.mono (by decide)
 refine⟨_,Ab (Al (i:=3) scCk.nd rfl (inl rfl) (pc GR hr3 (Aa (pc GW hr1 (Aa (Ar Ap (pv 1) Ag (fun _ _=>rfl)) Ac)) (Aa (pv 2) Ac))))
  (Ab (Av (An Bj (pv 3) (pgi T.done) (nomark _)) (Af (Aj (As (Aa (pv 3) Ac)))) Ao)
  (Af (Aj (Ay BJ (As (Aa (pgi T.done) Ac)) (pc GL hr1 (Aa (pc GT hr (Aa (pmk GC hr5 T.cC (Aa (Ak (pv 0) rfl) Ac)) (Aa (Ar Ap (pv 1) Ag (fun _ _=>rfl)) (Aa (Ar Ap (pv 2) Ag (fun _ _=>rfl)) Ac)))) Ac)))))),?_⟩
 obtain⟨r,t,rfl,rfl,hrow⟩:=Ck hL lr;obtain⟨n,rfl⟩:=CL ln;have hs:sizeLine=16777216:=sizeLine_eq;have hDk:DkAt D g H d es:=⟨dx,o,l,as,hd,hlg,hO⟩;have ht24:t.length<=24:=of_decide_eq_true hm;have k:∀(H':Hp)(q:Addr),SameBut d H H'->H' q=some (.lst (iv (OrderNeutral.told (looked n [t] fun h=>.row (Lo.key es h t)))))->DkAt D g H' d es->LM.OInv es->Q (.ref q) H':=k;have er:∀{Z:St}{H':Hp},Z[2]? =some (some (.ref rl))->Same H H'->Ev (tOp (rIxL K) (tVar 2) (tC (.int 0))) Z H' (.ref r):=fun h0 s'=>AK (Ah h0) ev_c (aa (s' _ _ hrl)) (AA (j:=0) (v:=V.ref r) rfl rfl);have en:∀{Z:St}{H':Hp},Z[1]? =some (some (.ref nl))->Same H H'->Ev (tOp (rIxL K) (tVar 1) (tC (.int 0))) Z H' (.int (n:Int)):=fun h0 s'=>AK (Ah h0) ev_c (aa (s' _ _ hn)) (AA (j:=0) (v:=V.int (n:Int)) rfl rfl);refine Fc (en rfl (ad _)) ⟨_,rfl,howOk n,rl,[r],[t],rfl,hrl,hL,(by show 1<=10000;decide),(fun x hx=>by rw[mem_singleton.mp hx];omega),fun H1 s1=>?_⟩;dsimp only[gName];refine BU rfl (Bz n [t] _) s1 hDk hI k rfl fun e0 k2=>?_;have hn32:=DC e0;have hkl:=JE hI (howOf n) t;refine Fp (l:=Lo.key es (howOf n) t) (by omega) (fun{H2 Q2} s2 k3=>?_) fun H3 q s3 hq0 hq=>k2 H3 q s3 hq;have s02:=s1.trans s2;dsimp only[tCall,tCons];refine newScale (es:=es) (Az (Ah rfl) (s02 _ _ hd) T.clK T.nK rfl) (hO.same s02) hI fun H3 sc s3 hsc0 hsc=>?_;have s03:=s02.trans s3;refine en rfl s03 _ (er rfl s03 _ ⟨sc,r,es,n,t,rfl,hsc,hI,s03 _ _ hrow,(by omega),hn32,fun H4 q s4 hq0 hq=>?_⟩);refine⟨q,_,rfl,.inl (aa hq),(by rw[Aq];omega),fun H5 q5 s5 hq50 hq5=>?_⟩;rw[Aq]at hq5;exact k3 H5 q5 (s3.trans (s4.trans s5)) ((s3.trans s4).free hq50) hq5
theorem CM{rs:List Addr}{rows:List (List Nat)}{H:Hp}(hL:LsAt RowAt H rs rows)(h:rows.length=2):∃r1 x r2 y,rs=[r1,r2]/\rows=[x,y]/\H r1=some (.lst (nv x))/\H r2=some (.lst (nv y)):=by
 match rows,h with
 |[x,y],_=>
  have h2:=hL.1
  match rs,h2 with
  |[r1,r2],_=>exact⟨r1,x,r2,y,rfl,rfl,hL.2 0 r1 x rfl rfl,hL.2 1 r2 y rfl rfl⟩
theorem HV{l:List Nat}(h:l.length=2):∃n m,l=[n,m]:=by
 match l,h with
 |[n,m],_=>exact⟨n,m,rfl⟩
theorem EK{te:TE}{Z:St}{H:Hp}{Q:VK}{i:Int}(he:∀Q':VK,(∀H',Same H H'->Q' (.int i) H')->te Z H Q')(k:∀(H':Hp)(q:Addr),Same H H'->H' q=some (.lst (iv [0,i]))->Q (.ref q) H'):tLst (tCons (tC (.int 0)) (tCons te tNil)) Z H Q:=
 he _ fun H1 s1=>⟨by show 2<=sizeLine;decide,fun q hq=>k _ q (s1.trans (ae hq)) Ae⟩
theorem EW{x y:List Nat}(hx:x.length<=10000)(hy:y.length<=10000):∀z∈[x,y],z.length<=10000:=fun z hz=>by
 rcases mem_cons.mp hz with e|hz
 .rw[e];exact hx
 .rw[mem_singleton.mp hz];exact hy
theorem scCp:FnScope ["desk","numbers","rows","refused"] ["desk","numbers","rows"] (defScope (top 115)):=fsc
theorem IK(T:TxK K mg D):Ok P w K mg base 8 "call_compare" ["desk","numbers","rows"] (spCall D 1 2 fun nums rows=>.compare (nums.headD 0) (rows.headD []) (rows.tail.headD [])):=by
 have GR:=Dd (P:=P) (w:=w) (base:=base) T;have GW:=DP (P:=P) (w:=w) (base:=base) T.toTxL;have GC:=Dg (P:=P) (w:=w) (base:=base) T.toTxG;have GT:=Ov (P:=P) (w:=w) (base:=base) T.toTxQ;refine T.cCompare.ok scCp AI (fun f cdv A outer s H vs Q E hr h=>?_);obtain⟨g,d,nl,rl,rs,es,nums,rows,rfl,⟨gu,hgx⟩,⟨dx,o,l,as,hd,hlg,hO⟩,hI,hn,hrl,hL,ln,lr,hm,k⟩:=h;have hr1:Room 1 _:=hr.mono (by decide);have hr3:Room 3 _:=hr.mono (by decide);have hr5:Room 5 _:=hr.mono (by decide)
 refine⟨_,Ab (Al (i:=3) scCp.nd rfl (inl rfl) (pc GR hr3 (Aa (pc GW hr1 (Aa (Ar Ap (pv 1) Ag (fun _ _=>rfl)) Ac)) (Aa (pv 2) Ac))))
  (Ab (Av (An Bj (pv 3) (pgi T.done) (nomark _)) (Af (Aj (As (Aa (pv 3) Ac)))) Ao)
  (Af (Aj (As (Aa (pgi T.done) (Aa (pc GT hr (Aa (pmk GC hr5 T.cC (Aa (Ak (pv 0) rfl) Ac)) (Aa (Ar Ap (pv 1) Ag (fun _ _=>rfl)) (Aa (Ar Ap (pv 2) Ag (fun _ _=>rfl)) (Aa (Ar Ap (pv 2) Ag (fun _ _=>rfl)) Ac))))) Ac)))))),?_⟩
 obtain⟨r1,x,r2,y,rfl,rfl,hx,hy⟩:=CM hL lr;obtain⟨n,rfl⟩:=CL ln;have hDk:DkAt D g H d es:=⟨dx,o,l,as,hd,hlg,hO⟩;have hm:(short x&&short y)=true:=hm;rw[and_eq_true]at hm;have hxl:x.length<=24:=of_decide_eq_true hm.1;have hyl:y.length<=24:=of_decide_eq_true hm.2;have k:∀(H':Hp)(q:Addr),SameBut d H H'->H' q=some (.lst (iv (OrderNeutral.told (looked n [x,y] fun h=>.nums [Lo.compare es h x y]))))->DkAt D g H' d es->LM.OInv es->Q (.ref q) H':=k;have er:∀{Z:St}{H':Hp}{j:Nat}{r:Addr},Z[2]? =some (some (.ref rl))->[r1,r2][j]? =some r->Same H H'->Ev (tOp (rIxL K) (tVar 2) (tC (.int (j:Int)))) Z H' (.ref r):=fun h0 hj s'=>AK (Ah h0) ev_c (aa (s' _ _ hrl)) (AA rfl (Bh hj));have en:∀{Z:St}{H':Hp},Z[1]? =some (some (.ref nl))->Same H H'->Ev (tOp (rIxL K) (tVar 1) (tC (.int 0))) Z H' (.int (n:Int)):=fun h0 s'=>AK (Ah h0) ev_c (aa (s' _ _ hn)) (AA (j:=0) (v:=V.int (n:Int)) rfl rfl);refine Fc (en rfl (ad _)) ⟨_,rfl,howOk n,rl,[r1,r2],[x,y],rfl,hrl,hL,(by show 2<=10000;decide),EW (by omega) (by omega),fun H1 s1=>?_⟩;dsimp only[gName];refine BU rfl (Bz n [x,y] _) s1 hDk hI k rfl fun e0 k2=>?_;have hn32:=DC e0;refine EK (i:=Lo.compare es (howOf n) x y) (fun Q' kk=>?_) k2;dsimp only[tCall,tCons];refine newScale (es:=es) (Az (Ah rfl) (s1 _ _ hd) T.clK T.nK rfl) (hO.same s1) hI fun H3 sc s3 hsc0 hsc=>?_;have s03:=s1.trans s3;refine en rfl s03 _ (er (j:=0) rfl rfl s03 _ (er (j:=1) rfl rfl s03 _ ⟨sc,r1,r2,es,n,x,y,rfl,hsc,hI,s03 _ _ hx,(by omega),s03 _ _ hy,(by omega),hn32,fun H4 s4=>kk _ (s3.trans s4)⟩))
theorem scCs:FnScope ["desk","numbers","rows","refused"] ["desk","numbers","rows"] (defScope (top 116)):=fsc
theorem MN(T:TxK K mg D):Ok P w K mg base 8 "call_hash" ["desk","numbers","rows"] (spCall D 1 1 fun nums rows=>.hash (nums.headD 0) (rows.headD [])):=by
 have GR:=Dd (P:=P) (w:=w) (base:=base) T;have GW:=DP (P:=P) (w:=w) (base:=base) T.toTxL;have GC:=Dg (P:=P) (w:=w) (base:=base) T.toTxG;have GT:=O2 (P:=P) (w:=w) (base:=base) T.toTxQ;refine T.cHash.ok scCs AI (fun f cdv A outer s H vs Q E hr h=>?_);obtain⟨g,d,nl,rl,rs,es,nums,rows,rfl,⟨gu,hgx⟩,⟨dx,o,l,as,hd,hlg,hO⟩,hI,hn,hrl,hL,ln,lr,hm,k⟩:=h;have hr1:Room 1 _:=hr.mono (by decide);have hr3:Room 3 _:=hr.mono (by decide);have hr5:Room 5 _:=hr.mono (by decide)
 refine⟨_,Ab (Al (i:=3) scCs.nd rfl (inl rfl) (pc GR hr3 (Aa (pc GW hr1 (Aa (Ar Ap (pv 1) Ag (fun _ _=>rfl)) Ac)) (Aa (pv 2) Ac))))
  (Ab (Av (An Bj (pv 3) (pgi T.done) (nomark _)) (Af (Aj (As (Aa (pv 3) Ac)))) Ao)
  (Af (Aj (As (Aa (pgi T.done) (Aa (pc GT hr (Aa (pmk GC hr5 T.cC (Aa (Ak (pv 0) rfl) Ac)) (Aa (Ar Ap (pv 1) Ag (fun _ _=>rfl)) (Aa (Ar Ap (pv 2) Ag (fun _ _=>rfl)) Ac)))) Ac)))))),?_⟩
 obtain⟨r,t,rfl,rfl,hrow⟩:=Ck hL lr;obtain⟨n,rfl⟩:=CL ln;have hDk:DkAt D g H d es:=⟨dx,o,l,as,hd,hlg,hO⟩;have ht24:t.length<=24:=of_decide_eq_true hm;have k:∀(H':Hp)(q:Addr),SameBut d H H'->H' q=some (.lst (iv (OrderNeutral.told (looked n [t] fun h=>num (Lo.hash es h t)))))->DkAt D g H' d es->LM.OInv es->Q (.ref q) H':=k;have er:∀{Z:St}{H':Hp},Z[2]? =some (some (.ref rl))->Same H H'->Ev (tOp (rIxL K) (tVar 2) (tC (.int 0))) Z H' (.ref r):=fun h0 s'=>AK (Ah h0) ev_c (aa (s' _ _ hrl)) (AA (j:=0) (v:=V.ref r) rfl rfl);have en:∀{Z:St}{H':Hp},Z[1]? =some (some (.ref nl))->Same H H'->Ev (tOp (rIxL K) (tVar 1) (tC (.int 0))) Z H' (.int (n:Int)):=fun h0 s'=>AK (Ah h0) ev_c (aa (s' _ _ hn)) (AA (j:=0) (v:=V.int (n:Int)) rfl rfl);refine Fc (en rfl (ad _)) ⟨_,rfl,howOk n,rl,[r],[t],rfl,hrl,hL,(by show 1<=10000;decide),(fun x hx=>by rw[mem_singleton.mp hx];omega),fun H1 s1=>?_⟩;dsimp only[gName];refine BU rfl (Bz n [t] _) s1 hDk hI k rfl fun e0 k2=>?_;have hn32:=DC e0;refine EK (i:=((Lo.hash es (howOf n) t:Nat):Int)) (fun Q' kk=>?_) k2;dsimp only[tCall,tCons];refine newScale (es:=es) (Az (Ah rfl) (s1 _ _ hd) T.clK T.nK rfl) (hO.same s1) hI fun H3 sc s3 hsc0 hsc=>?_;have s03:=s1.trans s3;refine en rfl s03 _ (er rfl s03 _ ⟨sc,r,es,n,t,rfl,hsc,hI,s03 _ _ hrow,(by omega),hn32,fun H4 s4=>kk _ (s3.trans s4)⟩)
theorem scCb:FnScope ["desk","numbers","rows","refused"] ["desk","numbers","rows"] (defScope (top 117)):=fsc
theorem Kx(T:TxK K mg D):Ok P w K mg base 7 "call_begins" ["desk","numbers","rows"] (spCall D 1 2 fun nums rows=>.begins (nums.headD 0) (rows.headD []) (rows.tail.headD [])):=by
 have GR:=Dd (P:=P) (w:=w) (base:=base) T;have GW:=DP (P:=P) (w:=w) (base:=base) T.toTxL;have GC:=Dg (P:=P) (w:=w) (base:=base) T.toTxG;have GT:=O4 (P:=P) (w:=w) (base:=base) T.toTxQ;refine T.cBegins.ok scCb AI (fun f cdv A outer s H vs Q E hr h=>?_);obtain⟨g,d,nl,rl,rs,es,nums,rows,rfl,⟨gu,hgx⟩,⟨dx,o,l,as,hd,hlg,hO⟩,hI,hn,hrl,hL,ln,lr,hm,k⟩:=h;have hr1:Room 1 _:=hr.mono (by decide);have hr3:Room 3 _:=hr.mono (by decide);have hr5:Room 5 _:=hr.mono (by decide)
 refine⟨_,Ab (Al (i:=3) scCb.nd rfl (inl rfl) (pc GR hr3 (Aa (pc GW hr1 (Aa (Ar Ap (pv 1) Ag (fun _ _=>rfl)) Ac)) (Aa (pv 2) Ac))))
  (Ab (Av (An Bj (pv 3) (pgi T.done) (nomark _)) (Af (Aj (As (Aa (pv 3) Ac)))) Ao)
  (Af (Aj (As (Aa (pgi T.done) (Aa (AT (AJ (pc GT hr (Aa (pmk GC hr5 T.cC (Aa (Ak (pv 0) rfl) Ac)) (Aa (Ar Ap (pv 1) Ag (fun _ _=>rfl)) (Aa (Ar Ap (pv 2) Ag (fun _ _=>rfl)) (Aa (Ar Ap (pv 2) Ag (fun _ _=>rfl)) Ac)))))) Ag Ag) Ac)))))),?_⟩
 obtain⟨r1,x,r2,y,rfl,rfl,hx,hy⟩:=CM hL lr;obtain⟨n,rfl⟩:=CL ln;have hDk:DkAt D g H d es:=⟨dx,o,l,as,hd,hlg,hO⟩;have hm:(short x&&short y)=true:=hm;rw[and_eq_true]at hm;have hxl:x.length<=24:=of_decide_eq_true hm.1;have hyl:y.length<=24:=of_decide_eq_true hm.2;have k:∀(H':Hp)(q:Addr),SameBut d H H'->H' q=some (.lst (iv (OrderNeutral.told (looked n [x,y] fun h=>num (if Lo.begins es h x y=true then 1 else 0)))))->DkAt D g H' d es->LM.OInv es->Q (.ref q) H':=k;have er:∀{Z:St}{H':Hp}{j:Nat}{r:Addr},Z[2]? =some (some (.ref rl))->[r1,r2][j]? =some r->Same H H'->Ev (tOp (rIxL K) (tVar 2) (tC (.int (j:Int)))) Z H' (.ref r):=fun h0 hj s'=>AK (Ah h0) ev_c (aa (s' _ _ hrl)) (AA rfl (Bh hj));have en:∀{Z:St}{H':Hp},Z[1]? =some (some (.ref nl))->Same H H'->Ev (tOp (rIxL K) (tVar 1) (tC (.int 0))) Z H' (.int (n:Int)):=fun h0 s'=>AK (Ah h0) ev_c (aa (s' _ _ hn)) (AA (j:=0) (v:=V.int (n:Int)) rfl rfl);refine Fc (en rfl (ad _)) ⟨_,rfl,howOk n,rl,[r1,r2],[x,y],rfl,hrl,hL,(by show 2<=10000;decide),EW (by omega) (by omega),fun H1 s1=>?_⟩;dsimp only[gName];refine BU rfl (Bz n [x,y] _) s1 hDk hI k rfl fun e0 k2=>?_;have hn32:=DC e0;refine EK (i:=(((if Lo.begins es (howOf n) x y=true then 1 else 0:Nat)):Int)) (fun Q' kk=>?_) k2;dsimp only[tIf,tB,tCall,tCons];refine newScale (es:=es) (Az (Ah rfl) (s1 _ _ hd) T.clK T.nK rfl) (hO.same s1) hI fun H3 sc s3 hsc0 hsc=>?_;have s03:=s1.trans s3;refine en rfl s03 _ (er (j:=0) rfl rfl s03 _ (er (j:=1) rfl rfl s03 _ ⟨sc,r1,r2,es,n,x,y,rfl,hsc,hI,s03 _ _ hx,(by omega),s03 _ _ hy,(by omega),hn32,fun H4 s4=>⟨_,rfl,?_⟩⟩));have kk:=kk _ (s3.trans s4);cases hb:Lo.begins es (howOf n) x y with
 |true=>rw[hb]at kk;exact iteT kk
 |false=>rw[hb]at kk;exact iteF kk
theorem scCf:FnScope ["desk","numbers","rows","refused","borders"] ["desk","numbers","rows"] (defScope (top 118)):=fsc
theorem Mw(T:TxK K mg D):Ok P w K mg base 8 "call_find" ["desk","numbers","rows"] (spCall D 2 2 fun nums rows=>.find (nums.headD 0) (nums.tail.headD 0) (rows.headD []) (rows.tail.headD [])):=by
 have GR:=Dd (P:=P) (w:=w) (base:=base) T;have GW:=DP (P:=P) (w:=w) (base:=base) T.toTxL;have GC:=Dg (P:=P) (w:=w) (base:=base) T.toTxG;have GT:=Oq (P:=P) (w:=w) (base:=base) T.toTxQ;refine T.cFind.ok scCf AI (fun f cdv A outer s H vs Q E hr h=>?_);obtain⟨g,d,nl,rl,rs,es,nums,rows,rfl,⟨gu,hgx⟩,⟨dx,o,l,as,hd,hlg,hO⟩,hI,hn,hrl,hL,ln,lr,hm,k⟩:=h;have hr1:Room 1 _:=hr.mono (by decide);have hr3:Room 3 _:=hr.mono (by decide);have hr5:Room 5 _:=hr.mono (by decide)
 refine⟨_,Ab (Al (i:=3) scCf.nd rfl (inl rfl) (pc GR hr3 (Aa (pc GW hr1 (Aa (Ar Ap (pv 1) Ag (fun _ _=>rfl)) Ac)) (Aa (pv 2) Ac))))
  (Ab (Av (An Bj (pv 3) (pgi T.done) (nomark _)) (Af (Aj (As (Aa (pv 3) Ac)))) Ao)
  (Ab (Al (i:=4) scCf.nd rfl (inl rfl) (pc GT hr (Aa (pmk GC hr5 T.cC (Aa (Ak (pv 0) rfl) Ac)) (Aa (Ar Ap (pv 1) Ag (fun _ _=>rfl)) (Aa (Ar Ap (pv 1) Ag (fun _ _=>rfl)) (Aa (Ar Ap (pv 2) Ag (fun _ _=>rfl)) (Aa (Ar Ap (pv 2) Ag (fun _ _=>rfl)) Ac)))))))
  (Ab (Av (An Gw (pv 4) Bc (nomark _)) (Af (Aj (As (Aa (pgi T.noneThere) Ac)))) Ao)
  (Af (Aj (Ay BJ (As (Aa (pgi T.done) Ac)) (plist T.list (pv 4)))))))),?_⟩
 obtain⟨r1,x,r2,y,rfl,rfl,hx,hy⟩:=CM hL lr;obtain⟨n,m,rfl⟩:=HV ln;have hDk:DkAt D g H d es:=⟨dx,o,l,as,hd,hlg,hO⟩;have hm:(short x&&short y)=true:=hm;rw[and_eq_true]at hm;have hxl:x.length<=24:=of_decide_eq_true hm.1;have hyl:y.length<=24:=of_decide_eq_true hm.2;have k:∀(H':Hp)(q:Addr),SameBut d H H'->H' q=some (.lst (iv (OrderNeutral.told (looked n [x,y] fun h=>match Lo.found es h x y m with|some x=>.nums [(x.1:Int),(x.2:Int)]|none=>LoCalls.no (-2)))))->DkAt D g H' d es->LM.OInv es->Q (.ref q) H':=k;have er:∀{Z:St}{H':Hp}{j:Nat}{r:Addr},Z[2]? =some (some (.ref rl))->[r1,r2][j]? =some r->Same H H'->Ev (tOp (rIxL K) (tVar 2) (tC (.int (j:Int)))) Z H' (.ref r):=fun h0 hj s'=>AK (Ah h0) ev_c (aa (s' _ _ hrl)) (AA rfl (Bh hj));have en:∀{Z:St}{H':Hp}{j z:Nat},Z[1]? =some (some (.ref nl))->[n,m][j]? =some z->Same H H'->Ev (tOp (rIxL K) (tVar 1) (tC (.int (j:Int)))) Z H' (.int (z:Int)):=fun h0 hj s'=>AK (Ah h0) ev_c (aa (s' _ _ hn)) (AA rfl (Dz hj));refine Fc (en (j:=0) rfl rfl (ad _)) ⟨_,rfl,howOk n,rl,[r1,r2],[x,y],rfl,hrl,hL,(by show 2<=10000;decide),EW (by omega) (by omega),fun H1 s1=>?_⟩;dsimp only[gName];refine BU rfl (Bz n [x,y] _) s1 hDk hI k rfl fun e0 k2=>?_;have hn32:=DC e0;dsimp only[tSeq,tAsg,tCall,tCons];refine newScale (es:=es) (Az (Ah rfl) (s1 _ _ hd) T.clK T.nK rfl) (hO.same s1) hI fun H3 sc s3 hsc0 hsc=>?_;have s03:=s1.trans s3;refine en (j:=0) rfl rfl s03 _ (en (j:=1) rfl rfl s03 _ (er (j:=0) rfl rfl s03 _ (er (j:=1) rfl rfl s03 _ ⟨sc,r1,r2,es,n,m,x,y,rfl,hsc,hI,s03 _ _ hx,(by omega),s03 _ _ hy,(by omega),hn32,fun H4 s4 hf=>?_,fun H4 t z s4 hf ht=>?_⟩)))
 .rw[hf]at k2;refine⟨_,rfl,rfl,_,rfl,?_⟩;refine iteT (DL fun H5 q s5 _ hq=>k2 H5 q (s3.trans (s4.trans s5)) hq)
 .rw[hf]at k2;refine⟨_,rfl,rfl,_,rfl,?_⟩;refine iteF ?_;refine⟨(by show 1<=sizeLine;decide),fun p hp=>?_⟩;have sp:Same H4 (aj H4 p (.lst [V.int 0])):=ae hp;have hpu:(aj H4 p (.lst [V.int 0])) p=some (.lst [V.int 0]):=Ae;generalize aj H4 p (.lst [V.int 0])=H5 at sp hpu;refine⟨_,rfl,t,_,rfl,.inr (ab (sp _ _ ht)),fun c hc=>?_⟩;have sc':Same H5 (aj H5 c (.lst (nv [z.1,z.2]))):=ae hc;refine⟨p,c,_,_,rfl,rfl,sc' _ _ hpu,Ae,(by show 1+2<=sizeLine;decide),fun q hq=>?_⟩;exact k2 _ q (s3.trans (s4.trans (sp.trans (sc'.trans (ae hq))))) Ae
theorem CB(n:Nat)(l:List Nat)(more xs:List (List Nat))(f:Lo.How->List (List Nat)->Answer)(hx:∀y,tin l=some y->xs=y):
  OrderNeutral.told (listed n l more f)=if refN (howOk n&&(tin l).isSome) (xs++more)=0 then OrderNeutral.told (f (howOf n) xs) else [refN (howOk n&&(tin l).isSome) (xs++more)]:=by
 have e:listed n l more f=match tin l with|none=>LoCalls.no (-1)|some x=>looked n (x++more) fun(h:Lo.How)=>f h x:=rfl
 rw[e];cases ht:tin l with
 |none=>
  rw[show(howOk n&&(none:Option (List (List Nat))).isSome)=false from Bool.and_false _];rfl
 |some x=>
  rw[hx x ht,show(howOk n&&(some x).isSome)=howOk n from Bool.and_true _];exact Bz n _ _
theorem Dy{te:TE}{Z:St}{H:Hp}{Q:VK}{r:Addr}{l:List Nat}(he:Ev te Z H (.ref r))(hr:H r=some (.lst (nv l)))(hz:l.length<=60)
  (k:∀(H':Hp)(q:Addr)(bs:List Addr)(xs:List (List Nat)),Same H H'->H' q=some (.lst (bs.map V.ref))->LsAt RowAt H' bs xs->xs.length<=60->(∀x∈xs,x.length<=60)->(∀y,tin l=some y->xs=y)->Q (.ref q) H'):tCall spTO [] E0 (tCons te tNil) Z H Q:=
 he _ ⟨r,l,rfl,hr,by omega,fun H' q bs xs s _ hq hL _ h1 h2 h3=>k H' q bs xs s hq hL (by omega) (fun x hx=>le_trans (h2 x hx) hz) h3⟩
theorem Jj{te:TE}{Z:St}{H:Hp}{Q:VK}{i:Nat}{q r:Addr}{bs:List Addr}{xs:List (List Nat)}{a:List Nat}(hv:Z[i]? =some (some (.ref q)))(hq:H q=some (.lst (bs.map V.ref)))(hL:LsAt RowAt H bs xs)(hz:xs.length<=60)
  (he:∀H',Same H H'->Ev te Z H' (.ref r)) (hr:H r=some (.lst (nv a))) (k:∀(H':Hp)(p:Addr),Same H H'->H' p=some (.lst ((bs++[r]).map V.ref))->LsAt RowAt H' (bs++[r]) (xs++[a])->Q (.ref p) H'):
  tOp rCat (tVar i) (tLst (tCons te tNil)) Z H Q:=by
 have hs:sizeLine=16777216:=sizeLine_eq;refine⟨_,hv,he H (ad _) _ ⟨(by show 1<=sizeLine;decide),fun b hb=>?_⟩⟩;have sb:Same H (aj H b (.lst [V.ref r])):=ae hb;have hbu:(aj H b (.lst [V.ref r])) b=some (.lst [V.ref r]):=Ae;generalize aj H b (.lst [V.ref r])=H1 at sb hbu;refine⟨q,b,_,_,rfl,rfl,sb _ _ hq,hbu,(by rw[length_map,hL.1];show _+1<=_;omega),fun p hp=>?_⟩;have sp:=sb.trans (ae (o:=.lst (bs.map V.ref++[V.ref r])) hp);refine k _ p sp (by rw[Ae,Bw]) ((hL.mono fun c x h=>sp _ _ h).snoc (sp _ _ hr))
theorem Gj{xs:List (List Nat)}{a:List Nat}(h:∀x∈xs,x.length<=60)(ha:a.length<=24):∀x∈xs++[a],x.length<=10000:=fun x hx=>by
 rcases mem_append.mp hx with hx|hx
 .have:=h x hx;omega
 .rw[mem_singleton.mp hx];omega
theorem scCa:FnScope ["desk","numbers","rows","texts","upto","refused"] ["desk","numbers","rows"] (defScope (top 120)):=fsc
theorem MY(T:TxK K mg D):Ok P w K mg base 9 "call_rank" ["desk","numbers","rows"] (spCall D 2 2 fun nums rows=>.rank (nums.headD 0) (nums.tail.headD 0) (rows.headD []) (rows.tail.headD [])):=by
 have GR:=Dd (P:=P) (w:=w) (base:=base) T;have GW:=DP (P:=P) (w:=w) (base:=base) T.toTxL;have GC:=Dg (P:=P) (w:=w) (base:=base) T.toTxG;have GO:=JK (P:=P) (w:=w) (base:=base) T.toTxQ;have GI:=JM (P:=P) (w:=w) (base:=base) T.toTxQ;have GT:=OU (P:=P) (w:=w) (base:=base) T.toTxQ;refine T.cRank.ok scCa AI (fun f cdv A outer s H vs Q E hr h=>?_);obtain⟨g,d,nl,rl,rs,es,nums,rows,rfl,⟨gu,hgx⟩,⟨dx,o,l,as,hd,hlg,hO⟩,hI,hn,hrl,hL,ln,lr,hm,k⟩:=h;have hr1:Room 1 _:=hr.mono (by decide);have hr3:Room 3 _:=hr.mono (by decide);have hr5:Room 5 _:=hr.mono (by decide)
 refine⟨_,Ab (Al (i:=3) scCa.nd rfl (inl rfl) (pc GO hr1 (Aa (Ar Ap (pv 2) Ag (fun _ _=>rfl)) Ac)))
  (Ab (Al (i:=4) scCa.nd rfl (inl rfl) (Ar Ap (pv 1) Ag (fun _ _=>rfl)))
  (Ab (Al (i:=5) scCa.nd rfl (inl rfl) (pc GR hr3 (Aa (B7 (pc GW hr1 (Aa (Ar Ap (pv 1) Ag (fun _ _=>rfl)) Ac)) (B7 (AW Dc (pv 4) Ag (nomark _)) (BV (pc GI hr1 (Aa (Ar Ap (pv 2) Ag (fun _ _=>rfl)) Ac)))))
   (Aa (Ay BJ (pv 3) (As (Aa (Ar Ap (pv 2) Ag (fun _ _=>rfl)) Ac))) Ac))))
  (Ab (Av (An Bj (pv 5) (pgi T.done) (nomark _)) (Af (Aj (As (Aa (pv 5) Ac)))) Ao)
  (Af (Aj (As (Aa (pgi T.done) (Aa (pc GT hr (Aa (pmk GC hr5 T.cC (Aa (Ak (pv 0) rfl) Ac)) (Aa (Ar Ap (pv 1) Ag (fun _ _=>rfl)) (Aa (pv 3) (Aa (Ar Ap (pv 2) Ag (fun _ _=>rfl)) (Aa (AW Be (pv 4) Ag (nomark _)) Ac)))))) Ac)))))))),?_⟩
 obtain⟨r1,x,r2,y,rfl,rfl,hx,hy⟩:=CM hL lr;obtain⟨n,m,rfl⟩:=HV ln;have hDk:DkAt D g H d es:=⟨dx,o,l,as,hd,hlg,hO⟩;have hm:(few x&&short y)=true:=hm;rw[and_eq_true]at hm;have hxl:x.length<=60:=of_decide_eq_true hm.1;have hyl:y.length<=24:=of_decide_eq_true hm.2;have k:∀(H':Hp)(q:Addr),SameBut d H H'->H' q=some (.lst (iv (OrderNeutral.told (if 1<m then LoCalls.no (-1) else listed n x [y] fun(h:Lo.How)(z:List Lo.Chars)=>num (Lo.rank es h z y (m==1))))))->DkAt D g H' d es->LM.OInv es->Q (.ref q) H':=k;have er:∀{Z:St}{H':Hp}{j:Nat}{r:Addr},Z[2]? =some (some (.ref rl))->[r1,r2][j]? =some r->Same H H'->Ev (tOp (rIxL K) (tVar 2) (tC (.int (j:Int)))) Z H' (.ref r):=fun h0 hj s'=>AK (Ah h0) ev_c (aa (s' _ _ hrl)) (AA rfl (Bh hj));have en:∀{Z:St}{H':Hp}{j z:Nat},Z[1]? =some (some (.ref nl))->[n,m][j]? =some z->Same H H'->Ev (tOp (rIxL K) (tVar 1) (tC (.int (j:Int)))) Z H' (.int (z:Int)):=fun h0 hj s'=>AK (Ah h0) ev_c (aa (s' _ _ hn)) (AA rfl (Dz hj));refine Dy (er (j:=0) rfl rfl (ad _)) hx hxl fun H1 q bs xs s1 hq hB hxs hxe ht=>?_;dsimp only[gName,tSeq,tAsg];refine en (j:=1) rfl rfl s1 _ ?_;dsimp only[tCall,tCons];refine Cy (a:=howOk n) (b:=decide ((m:Int)<=1)&&(tin x).isSome) (AQ (en (j:=0) rfl rfl s1) fun Q q=>⟨n,rfl,q⟩) (fun _=>Cy (Jp (Ah rfl) ev_c) fun _=>AQ (er (j:=0) rfl rfl s1) fun Q q=>⟨r1,x,rfl,s1 _ _ hx,q⟩) _ ?_;refine Jj (i:=3) rfl hq hB hxs (fun H' s'=>er (j:=1) rfl rfl (s1.trans s')) (s1 _ _ hy) fun H2 p s2 hp hB2=>?_;have hlx:(xs++[y]).length<=10000:=by rw[length_append];show _+1<=_;omega
 refine⟨_,p,bs++[r2],xs++[y],rfl,hp,hB2,hlx,Gj hxe hyl,fun H3 s3=>?_⟩;have s03:=s1.trans (s2.trans s3)
 have hans:OrderNeutral.told (if 1<m then LoCalls.no (-1) else listed n x [y] fun(h:Lo.How)(z:List Lo.Chars)=>num (Lo.rank es h z y (m==1)))=
   if refN (howOk n&&(decide ((m:Int)<=1)&&(tin x).isSome)) (xs++[y])=0 then OrderNeutral.told (num (Lo.rank es (howOf n) xs y (m==1))) else [refN (howOk n&&(decide ((m:Int)<=1)&&(tin x).isSome)) (xs++[y])]:=by
  by_cases c:1<m
  .rw[if_pos c,decide_eq_false (by omega:¬(m:Int)<=1),Bool.false_and,Bool.and_false];rfl
  .rw[if_neg c,decide_eq_true (by omega:(m:Int)<=1),Bool.true_and];exact CB n x [y] xs _ ht
 refine BU (i:=5) rfl hans s03 hDk hI k rfl fun e0 k2=>?_;have hn32:=G0 e0;refine EK (i:=((Lo.rank es (howOf n) xs y (m==1):Nat):Int)) (fun Q' kk=>?_) k2;dsimp only[tCall,tCons];refine newScale (es:=es) (Az (Ah rfl) (s03 _ _ hd) T.clK T.nK rfl) (hO.same s03) hI fun H4 sc s4 hsc0 hsc=>?_;have s04:=s03.trans s4;have s14:=s2.trans (s3.trans s4)
 have eb:decide (V.int (m:Int)=V.int 1)=(m==1):=by
  rw[Bool.eq_iff_iff,decide_eq_true_iff,beq_iff_eq];exact⟨fun z=>by injection z with z;omega,fun z=>by rw[z];rfl⟩
 refine en (j:=0) rfl rfl s04 _ ⟨_,rfl,er (j:=1) rfl rfl s04 _ ⟨_,rfl,rfl,?_⟩⟩;rw[eb];exact⟨sc,q,r2,es,n,bs,xs,y,m==1,rfl,hsc,hI,s14 _ _ hq,hB.mono (fun b x h=>s14 _ _ h),(by omega),(fun z hz=>le_trans (hxe z hz) (by decide)),s04 _ _ hy,(by omega),hn32,fun H5 s5=>kk _ (s4.trans s5)⟩
theorem scCl:FnScope ["desk","numbers","rows","texts","refused","label"] ["desk","numbers","rows"] (defScope (top 121)):=fsc
theorem F7{Z:St}{H:Hp}{Q:VK}{i:Nat}{z:Option Nat}(hv:Z[i]? =some (some (oV z)))(k:∀(H':Hp)(q:Addr),Same H H'->H' q=some (.lst (iv (OrderNeutral.told (maybe z))))->Q (.ref q) H'):
  tIf (tTest (tOp (fun x y H Q=>y= .non/\Q (.bl (decide (x= .non))) H) (tVar i) (tC .non))) (tLst (tCons (tC (.int (-2))) tNil)) (tLst (tCons (tC (.int 0)) (tCons (tVar i) tNil))) Z H Q:=by
 refine⟨_,hv,rfl,_,rfl,?_⟩;cases z with
 |none=>exact iteT (DL fun H' q s' _ hq=>k H' q s' hq)
 |some m=>exact iteF ⟨_,hv,(by show 2<=sizeLine;decide),fun q hq=>k _ q (ae hq) Ae⟩
theorem LC(T:TxK K mg D):Ok P w K mg base 9 "call_label" ["desk","numbers","rows"] (spCall D 1 2 fun nums rows=>.label (nums.headD 0) (rows.headD []) (rows.tail.headD [])):=by
 have GR:=Dd (P:=P) (w:=w) (base:=base) T;have GW:=DP (P:=P) (w:=w) (base:=base) T.toTxL;have GC:=Dg (P:=P) (w:=w) (base:=base) T.toTxG;have GO:=JK (P:=P) (w:=w) (base:=base) T.toTxQ;have GI:=JM (P:=P) (w:=w) (base:=base) T.toTxQ;have GT:=Ou (P:=P) (w:=w) (base:=base) T.toTxQ;refine T.cLabel.ok scCl AI (fun f cdv A outer s H vs Q E hr h=>?_);obtain⟨g,d,nl,rl,rs,es,nums,rows,rfl,⟨gu,hgx⟩,⟨dx,o,l,as,hd,hlg,hO⟩,hI,hn,hrl,hL,ln,lr,hm,k⟩:=h;have hr1:Room 1 _:=hr.mono (by decide);have hr3:Room 3 _:=hr.mono (by decide);have hr5:Room 5 _:=hr.mono (by decide)
 refine⟨_,Ab (Al (i:=3) scCl.nd rfl (inl rfl) (pc GO hr1 (Aa (Ar Ap (pv 2) Ag (fun _ _=>rfl)) Ac)))
  (Ab (Al (i:=4) scCl.nd rfl (inl rfl) (pc GR hr3 (Aa (B7 (pc GW hr1 (Aa (Ar Ap (pv 1) Ag (fun _ _=>rfl)) Ac)) (BV (pc GI hr1 (Aa (Ar Ap (pv 2) Ag (fun _ _=>rfl)) Ac))))
   (Aa (Ay BJ (pv 3) (As (Aa (Ar Ap (pv 2) Ag (fun _ _=>rfl)) Ac))) Ac))))
  (Ab (Av (An Bj (pv 4) (pgi T.done) (nomark _)) (Af (Aj (As (Aa (pv 4) Ac)))) Ao)
  (Ab (Al (i:=5) scCl.nd rfl (inl rfl) (pc GT hr (Aa (pmk GC hr5 T.cC (Aa (Ak (pv 0) rfl) Ac)) (Aa (Ar Ap (pv 1) Ag (fun _ _=>rfl)) (Aa (pv 3) (Aa (Ar Ap (pv 2) Ag (fun _ _=>rfl)) Ac))))))
  (Af (Aj (AT (An Gw (pv 5) Bc (nomark _)) (As (Aa (pgi T.noneThere) Ac)) (As (Aa (pgi T.done) (Aa (pv 5) Ac))))))))),?_⟩
 obtain⟨r1,x,r2,y,rfl,rfl,hx,hy⟩:=CM hL lr;obtain⟨n,rfl⟩:=CL ln;have hDk:DkAt D g H d es:=⟨dx,o,l,as,hd,hlg,hO⟩;have hm:(few x&&short y)=true:=hm;rw[and_eq_true]at hm;have hxl:x.length<=60:=of_decide_eq_true hm.1;have hyl:y.length<=24:=of_decide_eq_true hm.2;have k:∀(H':Hp)(q:Addr),SameBut d H H'->H' q=some (.lst (iv (OrderNeutral.told (listed n x [y] fun(h:Lo.How)(z:List Lo.Chars)=>maybe (Lo.label es h z y)))))->DkAt D g H' d es->LM.OInv es->Q (.ref q) H':=k;have er:∀{Z:St}{H':Hp}{j:Nat}{r:Addr},Z[2]? =some (some (.ref rl))->[r1,r2][j]? =some r->Same H H'->Ev (tOp (rIxL K) (tVar 2) (tC (.int (j:Int)))) Z H' (.ref r):=fun h0 hj s'=>AK (Ah h0) ev_c (aa (s' _ _ hrl)) (AA rfl (Bh hj));have en:∀{Z:St}{H':Hp},Z[1]? =some (some (.ref nl))->Same H H'->Ev (tOp (rIxL K) (tVar 1) (tC (.int 0))) Z H' (.int (n:Int)):=fun h0 s'=>AK (Ah h0) ev_c (aa (s' _ _ hn)) (AA (j:=0) (v:=V.int (n:Int)) rfl rfl);refine Dy (er (j:=0) rfl rfl (ad _)) hx hxl fun H1 q bs xs s1 hq hB hxs hxe ht=>?_;dsimp only[gName,tSeq,tAsg,tCall,tCons];refine Cy (a:=howOk n) (b:=(tin x).isSome) (AQ (en rfl s1) fun Q q=>⟨n,rfl,q⟩) (fun _=>AQ (er (j:=0) rfl rfl s1) fun Q q=>⟨r1,x,rfl,s1 _ _ hx,q⟩) _ ?_;refine Jj (i:=3) rfl hq hB hxs (fun H' s'=>er (j:=1) rfl rfl (s1.trans s')) (s1 _ _ hy) fun H2 p s2 hp hB2=>?_;have hlx:(xs++[y]).length<=10000:=by rw[length_append];show _+1<=_;omega
 refine⟨_,p,bs++[r2],xs++[y],rfl,hp,hB2,hlx,Gj hxe hyl,fun H3 s3=>?_⟩;have s03:=s1.trans (s2.trans s3);refine BU (i:=4) rfl (CB n x [y] xs _ ht) s03 hDk hI k rfl fun e0 k2=>?_;have hn32:=G0 e0;dsimp only[tSeq,tAsg,tCall,tCons];refine newScale (es:=es) (Az (Ah rfl) (s03 _ _ hd) T.clK T.nK rfl) (hO.same s03) hI fun H4 sc s4 hsc0 hsc=>?_;have s04:=s03.trans s4;have s14:=s2.trans (s3.trans s4);refine en rfl s04 _ ⟨_,rfl,er (j:=1) rfl rfl s04 _ ?_⟩;refine⟨sc,q,r2,es,n,bs,xs,y,rfl,hsc,hI,s14 _ _ hq,hB.mono (fun b x h=>s14 _ _ h),(by omega),(fun z hz=>le_trans (hxe z hz) (by decide)),s04 _ _ hy,(by omega),hn32,fun H5 s5=>?_⟩;exact F7 (i:=5) rfl fun H6 q6 s6 hq6=>k2 H6 q6 (s4.trans (s5.trans s6)) hq6
theorem scCv:FnScope ["desk","numbers","rows","texts","refused","wrong"] ["desk","numbers","rows"] (defScope (top 122)):=fsc
theorem Ll(T:TxK K mg D):Ok P w K mg base 9 "call_wrong" ["desk","numbers","rows"] (spCall D 1 1 fun nums rows=>.wrong (nums.headD 0) (rows.headD [])):=by
 have GR:=Dd (P:=P) (w:=w) (base:=base) T;have GW:=DP (P:=P) (w:=w) (base:=base) T.toTxL;have GC:=Dg (P:=P) (w:=w) (base:=base) T.toTxG;have GO:=JK (P:=P) (w:=w) (base:=base) T.toTxQ;have GI:=JM (P:=P) (w:=w) (base:=base) T.toTxQ;have GT:=OD (P:=P) (w:=w) (base:=base) T.toTxQ;refine T.cWrong.ok scCv AI (fun f cdv A outer s H vs Q E hr h=>?_);obtain⟨g,d,nl,rl,rs,es,nums,rows,rfl,⟨gu,hgx⟩,⟨dx,o,l,as,hd,hlg,hO⟩,hI,hn,hrl,hL,ln,lr,hm,k⟩:=h;have hr1:Room 1 _:=hr.mono (by decide);have hr3:Room 3 _:=hr.mono (by decide);have hr5:Room 5 _:=hr.mono (by decide)
 refine⟨_,Ab (Al (i:=3) scCv.nd rfl (inl rfl) (pc GO hr1 (Aa (Ar Ap (pv 2) Ag (fun _ _=>rfl)) Ac)))
  (Ab (Al (i:=4) scCv.nd rfl (inl rfl) (pc GR hr3 (Aa (B7 (pc GW hr1 (Aa (Ar Ap (pv 1) Ag (fun _ _=>rfl)) Ac)) (BV (pc GI hr1 (Aa (Ar Ap (pv 2) Ag (fun _ _=>rfl)) Ac)))) (Aa (pv 3) Ac))))
  (Ab (Av (An Bj (pv 4) (pgi T.done) (nomark _)) (Af (Aj (As (Aa (pv 4) Ac)))) Ao)
  (Ab (Al (i:=5) scCv.nd rfl (inl rfl) (pc GT hr (Aa (pmk GC hr5 T.cC (Aa (Ak (pv 0) rfl) Ac)) (Aa (Ar Ap (pv 1) Ag (fun _ _=>rfl)) (Aa (pv 3) Ac)))))
  (Af (Aj (AT (An Gw (pv 5) Bc (nomark _)) (As (Aa (pgi T.noneThere) Ac)) (As (Aa (pgi T.done) (Aa (pv 5) Ac))))))))),?_⟩
 obtain⟨r1,x,rfl,rfl,hx⟩:=Ck hL lr;obtain⟨n,rfl⟩:=CL ln;have hDk:DkAt D g H d es:=⟨dx,o,l,as,hd,hlg,hO⟩;have hxl:x.length<=60:=of_decide_eq_true hm;have k:∀(H':Hp)(q:Addr),SameBut d H H'->H' q=some (.lst (iv (OrderNeutral.told (listed n x [] fun(h:Lo.How)(z:List Lo.Chars)=>maybe (Lo.wrong es h z)))))->DkAt D g H' d es->LM.OInv es->Q (.ref q) H':=k;have er:∀{Z:St}{H':Hp},Z[2]? =some (some (.ref rl))->Same H H'->Ev (tOp (rIxL K) (tVar 2) (tC (.int 0))) Z H' (.ref r1):=fun h0 s'=>AK (Ah h0) ev_c (aa (s' _ _ hrl)) (AA (j:=0) (v:=V.ref r1) rfl rfl);have en:∀{Z:St}{H':Hp},Z[1]? =some (some (.ref nl))->Same H H'->Ev (tOp (rIxL K) (tVar 1) (tC (.int 0))) Z H' (.int (n:Int)):=fun h0 s'=>AK (Ah h0) ev_c (aa (s' _ _ hn)) (AA (j:=0) (v:=V.int (n:Int)) rfl rfl);refine Dy (er rfl (ad _)) hx hxl fun H1 q bs xs s1 hq hB hxs hxe ht=>?_;dsimp only[gName,tSeq,tAsg,tCall,tCons];refine Cy (a:=howOk n) (b:=(tin x).isSome) (AQ (en rfl s1) fun Q q=>⟨n,rfl,q⟩) (fun _=>AQ (er rfl s1) fun Q q=>⟨r1,x,rfl,s1 _ _ hx,q⟩) _ ?_;refine⟨_,rfl,_,q,bs,xs,rfl,hq,hB,(by omega),(fun z hz=>le_trans (hxe z hz) (by decide)),fun H3 s3=>?_⟩;have s03:=s1.trans s3;have hans:=CB n x [] xs (fun(h:Lo.How)(z:List Lo.Chars)=>maybe (Lo.wrong es h z)) ht;rw[append_nil]at hans;refine BU (i:=4) rfl hans s03 hDk hI k rfl fun e0 k2=>?_;have hn32:=G0 e0;dsimp only[tSeq,tAsg,tCall,tCons];refine newScale (es:=es) (Az (Ah rfl) (s03 _ _ hd) T.clK T.nK rfl) (hO.same s03) hI fun H4 sc s4 hsc0 hsc=>?_;have s04:=s03.trans s4;have s14:=s3.trans s4;refine en rfl s04 _ ⟨_,rfl,?_⟩;refine⟨sc,q,es,n,bs,xs,rfl,hsc,hI,s14 _ _ hq,hB.mono (fun b x h=>s14 _ _ h),(by omega),(fun z hz=>le_trans (hxe z hz) (by decide)),hn32,fun H5 s5=>?_⟩;exact F7 (i:=5) rfl fun H6 q6 s6 hq6=>k2 H6 q6 (s4.trans (s5.trans s6)) hq6
end LP
namespace LP
open PySem PySem.Spec L2
open OrderNeutral (told callOf asked1 fits moderate)
theorem Jz(o:Lo.Order)(h:Lo.How)(l:List Lo.Chars)(i:Nat):∀r:List Nat,(putText o h l i r).length=r.length+1
 |[]=>rfl
 |j::r=>by
  unfold putText;split
  .rfl
  .rw[length_cons,Jz o h l i r,length_cons]
theorem F8(o:Lo.Order)(h:Lo.How)(l:List Lo.Chars):∀(xs r:List Nat),(xs.foldl (fun(r:List Nat)(i:Nat)=>putText o h l i r) r).length=r.length+xs.length
 |[],r=>rfl
 |x::xs,r=>by
  rw[List.foldl_cons,F8 o h l xs,Jz,length_cons];omega
theorem ES(o:Lo.Order)(h:Lo.How)(l:List Lo.Chars):(Lo.sorted o h l).length=l.length:=by
 unfold Lo.sorted;rw[F8,List.length_range];simp
theorem F2:∀(f:Nat)(l:List Nat)(x:List Lo.Chars),LoCalls.textsIn f l=some x->x.length<=l.length
 |f,[],x,h=>by
  have h:some []=some x:=by unfold LoCalls.textsIn at h;exact h
  cases h;exact le_refl _
 |0,n::r,x,h=>by cases h
 |f+1,n::r,x,h=>by
  unfold LoCalls.textsIn at h;split at h
  .cases h
  .cases e:LoCalls.textsIn f (r.drop n)with
   |none=>rw[e]at h;cases h
   |some y=>
    rw[e]at h;cases h;have:=F2 f _ _ e;rw[length_drop]at this;rw[length_cons,length_cons];omega
theorem DM(l:List Nat):(OrderNeutral.ints l).length=l.length:=length_map ..
theorem B2(l:List Nat):(told (.row l)).length=l.length+2:=by
 show(OrderNeutral.ints l).length+1+1=_;rw[DM]
theorem BC(n:Nat)(l:List Lo.Chars)(f:Lo.How->Answer)(m:Nat)(hm:1<=m)(hf:∀h,(told (f h)).length<=m):(told (looked n l f)).length<=m:=by
 unfold looked;split
 .exact hm
 .split
  .exact hm
  .exact hf _
theorem Co(n:Nat)(l:List Nat)(more:List Lo.Chars)(f:Lo.How->List Lo.Chars->Answer)(m:Nat)(hm:1<=m)(hf:∀h x,x.length<=l.length->(told (f h x)).length<=m):(told (listed n l more f)).length<=m:=by
 unfold listed;split
 .exact hm
 .rename_i x hx;exact BC _ _ _ m hm fun h=>hf h x (F2 _ _ _ hx)
theorem Gk(x:Option Nat):(told (maybe x)).length<=2:=by
 cases x with
 |none=>show 1<=2;decide
 |some n=>show 2<=2;decide
theorem LW{es:Lo.Order}(I:LM.OInv es)(c:LoCalls.Call)(hm:moderate c=true):(told (LoCalls.step es c).2).length<=50000:=by
 have hil:=I.len;cases c with
 |fresh=>show 1<=_;decide
 |rules s=>
  show(told (match Lo.rules es s with | .ok p=>(p,Answer.done) | .error x=>(es,.refused [x.1,(x.2:Int)])).2).length<=_;cases Lo.rules es s with
  |ok p=>show 1<=_;decide
  |error x=>show 2<=_;decide
 |write=>
  show(told (.row (written es))).length<=_;rw[B2];have:=CZ I;omega
 |count=>show 2<=_;decide
 |entry i=>
  show(told (match es[i]? with|some e=>.entry e|none=>LoCalls.no (-2))).length<=_;cases h:es[i]? with
  |none=>show 1<=_;decide
  |some e=>
   obtain⟨_,h1,h2,_⟩:=I.each e (mem_of_getElem? h);show(_::_::_::(((OrderNeutral.ints e.s).length:Int)::OrderNeutral.ints e.s++((OrderNeutral.ints e.as_).length:Int)::OrderNeutral.ints e.as_)).length<=_;simp only[length_cons,length_append,DM];omega
 |where_ s=>
  show(told (if s.length=0\/Lo.STRING<s.length then LoCalls.no (-1) else if(Lo.find es s).isSome=true then num (Lo.indexOf es s) else LoCalls.no (-2))).length<=_;split
  .show 1<=_;decide
  .split
   .show 2<=_;decide
   .show 1<=_;decide
 |items a=>
  have ha:a.length<=24:=of_decide_eq_true hm;show(told (looked 0 [a] fun _=>.row ((Lo.items es a).flatMap itemNums))).length<=_;refine BC 0 [a] _ 50000 (by decide) fun h=>?_;rw[B2,Fn];have:=Ce I a;omega
 |key n a=>
  have ha:a.length<=24:=of_decide_eq_true hm;show(told (looked n [a] fun h=>.row (Lo.key es h a))).length<=_;refine BC n [a] _ 50000 (by decide) fun h=>?_;rw[B2];have:=JE I h a;omega
 |compare n a b=>
  show(told (looked n [a,b] fun h=>.nums [Lo.compare es h a b])).length<=_;exact BC n _ _ 50000 (by decide) fun h=>by show 2<=_;decide
 |hash n a=>
  show(told (looked n [a] fun h=>num (Lo.hash es h a))).length<=_;exact BC n _ _ 50000 (by decide) fun h=>by show 2<=_;decide
 |begins n a b=>
  show(told (looked n [a,b] fun h=>num (if Lo.begins es h a b=true then 1 else 0))).length<=_;exact BC n _ _ 50000 (by decide) fun h=>by show 2<=_;decide
 |find n i a b=>
  show(told (looked n [a,b] fun h=>match Lo.found es h a b i with|some x=>.nums [(x.1:Int),(x.2:Int)]|none=>LoCalls.no (-2))).length<=_;refine BC n _ _ 50000 (by decide) fun h=>?_;cases Lo.found es h a b i with
  |none=>show 1<=_;decide
  |some x=>show 3<=_;decide
 |sort n l=>
  have hl:l.length<=60:=of_decide_eq_true hm;refine Co n l [] _ 50000 (by decide) fun h x hx=>?_;rw[B2,ES];omega
 |rank n u l a=>
  show(told (if 1<u then LoCalls.no (-1) else listed n l [a] fun(h:Lo.How)(x:List Lo.Chars)=>num (Lo.rank es h x a (u==1)))).length<=_;split
  .show 1<=_;decide
  .exact Co n l _ _ 50000 (by decide) fun h x hx=>by show 2<=_;decide
 |label n l a=>exact Co n l _ _ 50000 (by decide) fun h x hx=>le_trans (Gk _) (by decide)
 |wrong n l=>exact Co n l _ _ 50000 (by decide) fun h x hx=>le_trans (Gk _) (by decide)
theorem dit{α:Type}(P:α->Prop){p:Prop}{d:Decidable p}{A:p->α}{B:¬p->α}(a:∀h,P (A h))(b:∀h,P (B h)):P (@dite _ p d A B):=match d with
 | .isTrue h=>a h
 | .isFalse h=>b h
theorem sh{α:Type}(P:List (List Int)->α->Prop){h1 h3 h4:Unit->α}{h2 h6 h7:List Int->α}{h5:Int->α}{h8 h10 h13 h16:Int->List Int->α}{h9 h11 h15:Int->List Int->List Int->α}{h12 h14:Int->Int->List Int->List Int->α}{h17:List (List Int)->α}
  (p0:∀c,P c (h17 c)) (p1:P [[1]] (h1 ())) (p2:∀r,P [[2],r] (h2 r)) (p3:P [[3]] (h3 ())) (p4:P [[4]] (h4 ())) (p5:∀x,P [[5,x]] (h5 x)) (p6:∀r,P [[6],r] (h6 r)) (p7:∀r,P [[7],r] (h7 r)) (p8:∀x r,P [[8,x],r] (h8 x r)) (p9:∀x r s,P [[9,x],r,s] (h9 x r s)) (p10:∀x r,P [[10,x],r] (h10 x r)) (p11:∀x r s,P [[11,x],r,s] (h11 x r s)) (p12:∀x y r s,P [[12,x,y],r,s] (h12 x y r s)) (p13:∀x r,P [[13,x],r] (h13 x r)) (p14:∀x y r s,P [[14,x,y],r,s] (h14 x y r s)) (p15:∀x r s,P [[15,x],r,s] (h15 x r s)) (p16:∀x r,P [[16,x],r] (h16 x r)):
  ∀c,P c (OrderNeutral.callOf.match_1 (fun _=>α) c h1 h2 h3 h4 h5 h6 h7 h8 h9 h10 h11 h12 h13 h14 h15 h16 h17)
 |[]=>p0 _
 |[]::_=>p0 _
 |(x::r)::t=>by
  delta OrderNeutral.callOf.match_1
  iterate 16
   refine dit _ (fun h=>?_) (fun n=>?_)
   .subst h
    first
    |exact p0 _
    | rcases r with _|⟨_,_|⟨_,_|⟨_,_⟩⟩⟩<;>first
     |exact p0 _
     |rcases t with _|⟨_,_|⟨_,_|⟨_,_⟩⟩⟩<;>first|exact p0 _|exact p1|exact p2 _|exact p3|exact p4|exact p5 _|exact p6 _|exact p7 _|exact p8 _ _|exact p9 _ _ _|exact p10 _ _|exact p11 _ _ _|exact p12 _ _ _ _|exact p13 _ _|exact p14 _ _ _ _|exact p15 _ _ _|exact p16 _ _
   clear n
  exact p0 _
theorem Iv(c:List (List Int)):PyYqloka.whole c=c:=
 sh (fun c y=>y=c) (h1:=fun _=>[[1]]) (h2:=fun r=>[[2],r]) (h3:=fun _=>[[3]]) (h4:=fun _=>[[4]]) (h5:=fun r=>[[5,r]]) (h6:=fun r=>[[6],r]) (h7:=fun r=>[[7],r]) (h8:=fun x r=>[[8,x],r]) (h9:=fun x r s=>[[9,x],r,s]) (h10:=fun x r=>[[10,x],r]) (h11:=fun x r s=>[[11,x],r,s]) (h12:=fun x y r s=>[[12,x,y],r,s]) (h13:=fun x r=>[[13,x],r]) (h14:=fun x y r s=>[[14,x,y],r,s]) (h15:=fun x r s=>[[15,x],r,s]) (h16:=fun x r=>[[16,x],r]) (h17:=fun c=>c) (by intros;rfl) (by intros;rfl) (by intros;rfl) (by intros;rfl) (by intros;rfl) (by intros;rfl) (by intros;rfl) (by intros;rfl) (by intros;rfl) (by intros;rfl) (by intros;rfl) (by intros;rfl) (by intros;rfl) (by intros;rfl) (by intros;rfl) (by intros;rfl) (by intros;rfl) c
theorem CI:∀{l:List Int},(∀z∈l,0<=z)->∃ns:List Nat,l=OrderNeutral.ints ns
 |[],_=>⟨[],rfl⟩
 |z::l,h=>by
  obtain⟨ns,e⟩:=CI fun y hy=>h y (mem_cons_of_mem _ hy);have hz:=h z mem_cons_self;refine⟨z.toNat::ns,?_⟩;show _=((z.toNat:Nat):Int)::OrderNeutral.ints ns;rw[<-e,Int.toNat_of_nonneg hz]
theorem EC:∀{c:List (List Int)},(∀r∈c,∀z∈r,0<=z)->∃ns:List (List Nat),c=ns.map OrderNeutral.ints
 |[],_=>⟨[],rfl⟩
 |r::c,h=>by
  obtain⟨ns,e⟩:=EC fun y hy=>h y (mem_cons_of_mem _ hy);obtain⟨n,e2⟩:=CI (h r mem_cons_self);exact⟨n::ns,by rw[map_cons,<-e,<-e2]⟩
theorem Ea{z:Int}{b:Nat}(h:natural z b=true):0<=z:=by
 unfold natural at h;rw[and_eq_true]at h;exact of_decide_eq_true h.1
theorem IO{l:List Int}{b:Nat}(h:l.all (fun(z:Int)=>natural z b)=true):∀z∈l,0<=z:=fun z hz=>Ea (all_eq_true.mp h z hz)
theorem Ko(c:List (List Int)):asked1 c=true->∀r∈c,∀z∈r,0<=z:=by
 revert c;unfold asked1;apply sh fun c (b:Bool)=>b=true->∀r∈c,∀z∈r,0<=z;exact fun _ h=>nomatch h
 all_goals
  simp only[List.forall_mem_cons]
  intros
  try rename _=true=>h
  try simp only[and_eq_true]at h
  repeat' apply And.intro
  all_goals first
   |decide
   |exact fun _ hh=>absurd hh List.not_mem_nil
   |exact Ea h
   |exact Ea h.1
   |exact Ea h.1.1
   |exact Ea h.1.1.1
   |exact Ea h.1.1.2
   |exact IO h
   |exact IO h.2
   |exact IO h.1.2
end LP
namespace LP
open PySem PySem.Spec L2
def SameT(d p:Addr)(H H':Hp):Prop:=∀b o,H b=some o->b≠d->b≠p->H' b=some o
def spCallT(K:Frag)(D:Ad)(nn nr:Nat)(mk:List Nat->List (List Nat)->LoCalls.Call):Sp:=fun vs H Q _=>∃(g d nl rl:Addr)(rs:List Addr)(es:Lo.Order)(nums:List Nat)(rows:List (List Nat)),vs=[.ref d,.ref nl,.ref rl]/\(∃u,H g=some u)/\DkAt D g H d es/\LM.OInv es/\
 H nl=some (.lst (nv nums))/\H rl=some (.lst (rs.map V.ref))/\LsAt RowAt H rs rows/\nums.length=nn/\rows.length=nr/\OrderNeutral.moderate (mk nums rows)=true/\Tab K H/\
 ∀(H':Hp)(q:Addr),SameT d (tabP K) H H'->Tab K H'->H' q=some (.lst (iv (OrderNeutral.told (LoCalls.step es (mk nums rows)).2)))->DkAt D g H' d (LoCalls.step es (mk nums rows)).1->LM.OInv (LoCalls.step es (mk nums rows)).1->Q (.ref q) H'
theorem HM{K:Frag}{D:Ad}{nn nr:Nat}{mk:List Nat->List (List Nat)->LoCalls.Call}(vs:List V)(H:Hp)(Q:VK)(E:XK)(h:spCallT K D nn nr mk vs H Q E):vs.length=3:=by
 obtain⟨g,d,nl,rl,rs,es,nums,rows,rfl,_⟩:=h;rfl
theorem Kc{K:Frag}{D:Ad}{nn nr:Nat}{mk:List Nat->List (List Nat)->LoCalls.Call}(vs:List V)(H:Hp)(Q:VK)(E:XK)(h:spCallT K D nn nr mk vs H Q E):spCall D nn nr mk vs H Q E:=by
 obtain⟨g,d,nl,rl,rs,es,nums,rows,e,hg,hD,hI,hn,hr,hL,h1,h2,h3,hT,k⟩:=h;obtain⟨dx,o,l,as,hd,_⟩:=id hD;exact⟨g,d,nl,rl,rs,es,nums,rows,e,hg,hD,hI,hn,hr,hL,h1,h2,h3,fun H' q s=>k H' q (fun b u e n _=>s b u e n) (hT.but s hd (fun _ z=>HO.noConfusion z) (fun _ z=>HO.noConfusion z))⟩
variable{P:Program}{w:World}{K:Frag}{mg:Str->Option Value}{base:Heap}{D:Ad}
theorem FnAt.toT{k:Nat}{f:Addr}{nn nr:Nat}{mk:List Nat->List (List Nat)->LoCalls.Call}(h:FnAt P w K mg base k f ["desk","numbers","rows"] (spCall D nn nr mk)):FnAt P w K mg base k f ["desk","numbers","rows"] (spCallT K D nn nr mk):=by
 obtain⟨fd,h1,h2,h3⟩:=h;exact⟨fd,h1,h2,h3.imp Kc⟩
theorem Od{H H':Hp}{o l d:Addr}{as:List Addr}{es:Lo.Order}(h:OrdL D H o l as es)(s:∀b u,H b=some u->(∀ps,u≠ .tbl ps)->H' b=some u):OrdL D H' o l as es:=by
 obtain⟨dxo,h1⟩:=h.obj;refine⟨⟨dxo,s _ _ h1 (fun _ z=>HO.noConfusion z)⟩,s _ _ h.lst (fun _ z=>HO.noConfusion z),h.ents.1,fun i a e q1 q2=>?_⟩;obtain⟨dxe,ts,ta,h3,h4,h5⟩:=h.ents.2 i a e q1 q2;exact⟨dxe,ts,ta,s _ _ h3 (fun _ z=>HO.noConfusion z),s _ _ h4 (fun _ z=>HO.noConfusion z),s _ _ h5 (fun _ z=>HO.noConfusion z)⟩
theorem scCt:FnScope ["desk","numbers","rows","texts","refused"] ["desk","numbers","rows"] (defScope (top 119)):=fsc
theorem Mv(T:TxK K mg D)(B:BM mg base):Ok P w K mg base 9 "call_sort" ["desk","numbers","rows"] (spCallT K D 1 1 fun nums rows=>.sort (nums.headD 0) (rows.headD [])):=by
 have GR:=Dd (P:=P) (w:=w) (base:=base) T;have GW:=DP (P:=P) (w:=w) (base:=base) T.toTxL;have GC:=Dg (P:=P) (w:=w) (base:=base) T.toTxG;have GO:=JK (P:=P) (w:=w) (base:=base) T.toTxQ;have GI:=JM (P:=P) (w:=w) (base:=base) T.toTxQ;have GT:=OH (P:=P) (w:=w) T.toTxQ B;have GL:=FT (P:=P) (w:=w) (base:=base) T;refine T.cSort.ok scCt HM (fun f cdv A outer s H vs Q E hr h=>?_);obtain⟨g,d,nl,rl,rs,es,nums,rows,rfl,⟨gu,hgx⟩,⟨dx,o,l,as,hd,hlg,hO⟩,hI,hn,hrl,hL,ln,lr,hm,hT,k⟩:=h;have hr1:Room 1 _:=hr.mono (by decide);have hr3:Room 3 _:=hr.mono (by decide);have hr5:Room 5 _:=hr.mono (by decide)
 refine⟨_,Ab (Al (i:=3) scCt.nd rfl (inl rfl) (pc GO hr1 (Aa (Ar Ap (pv 2) Ag (fun _ _=>rfl)) Ac)))
  (Ab (Al (i:=4) scCt.nd rfl (inl rfl) (pc GR hr3 (Aa (B7 (pc GW hr1 (Aa (Ar Ap (pv 1) Ag (fun _ _=>rfl)) Ac)) (BV (pc GI hr1 (Aa (Ar Ap (pv 2) Ag (fun _ _=>rfl)) Ac)))) (Aa (pv 3) Ac))))
  (Ab (Av (An Bj (pv 4) (pgi T.done) (nomark _)) (Af (Aj (As (Aa (pv 4) Ac)))) Ao)
  (Af (Aj (Ay BJ (As (Aa (pgi T.done) Ac)) (pc GL hr1 (Aa (pc GT hr (Aa (pmk GC hr5 T.cC (Aa (Ak (pv 0) rfl) Ac)) (Aa (Ar Ap (pv 1) Ag (fun _ _=>rfl)) (Aa (pv 3) Ac)))) Ac))))))),?_⟩
 obtain⟨r1,x,rfl,rfl,hx⟩:=Ck hL lr;obtain⟨n,rfl⟩:=CL ln;have hs:sizeLine=16777216:=sizeLine_eq;have hDk:DkAt D g H d es:=⟨dx,o,l,as,hd,hlg,hO⟩;have hxl:x.length<=60:=of_decide_eq_true hm;have k:∀(H':Hp)(q:Addr),SameT d (tabP K) H H'->Tab K H'->H' q=some (.lst (iv (OrderNeutral.told (listed n x [] fun(h:Lo.How)(z:List Lo.Chars)=>.row (Lo.sorted es h z)))))->DkAt D g H' d es->LM.OInv es->Q (.ref q) H':=k;have er:∀{Z:St}{H':Hp},Z[2]? =some (some (.ref rl))->Same H H'->Ev (tOp (rIxL K) (tVar 2) (tC (.int 0))) Z H' (.ref r1):=fun h0 s'=>AK (Ah h0) ev_c (aa (s' _ _ hrl)) (AA (j:=0) (v:=V.ref r1) rfl rfl);have en:∀{Z:St}{H':Hp},Z[1]? =some (some (.ref nl))->Same H H'->Ev (tOp (rIxL K) (tVar 1) (tC (.int 0))) Z H' (.int (n:Int)):=fun h0 s'=>AK (Ah h0) ev_c (aa (s' _ _ hn)) (AA (j:=0) (v:=V.int (n:Int)) rfl rfl);refine Dy (er rfl (ad _)) hx hxl fun H1 q bs xs s1 hq hB hxs hxe ht=>?_;dsimp only[gName,tSeq,tAsg,tCall,tCons];refine Cy (a:=howOk n) (b:=(tin x).isSome) (AQ (en rfl s1) fun Q q=>⟨n,rfl,q⟩) (fun _=>AQ (er rfl s1) fun Q q=>⟨r1,x,rfl,s1 _ _ hx,q⟩) _ ?_;refine⟨_,rfl,_,q,bs,xs,rfl,hq,hB,(by omega),(fun z hz=>le_trans (hxe z hz) (by decide)),fun H3 s3=>?_⟩;have s03:=s1.trans s3;have hans:=CB n x [] xs (fun(h:Lo.How)(z:List Lo.Chars)=>.row (Lo.sorted es h z)) ht;rw[append_nil]at hans;refine LV (i:=4) (D0:={nx:=fun _ H'=>Q .non H',rt:=Q}) rfl (fun e0=>?_) fun e0 H' q' s' _ hq'=>?_
 .rw[if_pos e0]at hans;rw[hans]at k;have hn32:=G0 e0;have hsl:=ES es (howOf n) xs;refine⟨(by show 1<=sizeLine;decide),fun a ha=>?_⟩;have sa:Same H3 (aj H3 a (.lst [V.int 0])):=ae ha;have hau:(aj H3 a (.lst [V.int 0])) a=some (.lst [V.int 0]):=Ae;generalize aj H3 a (.lst [V.int 0])=H4 at sa hau;have s04:=s03.trans sa;dsimp only[tCall,tCons];refine newScale (es:=es) (Az (Ah rfl) (s04 _ _ hd) T.clK T.nK rfl) (hO.same s04) hI fun H5 sc s5 hsc0 hsc=>?_;have s05:=s04.trans s5;have s15:=s3.trans (sa.trans s5);have hT5:=hT.same s05;obtain⟨ps,hP⟩:=hT5.at_;refine en rfl s05 _ ⟨_,rfl,sc,q,es,n,bs,xs,rfl,hsc,hI,s15 _ _ hq,hB.mono (fun b x h=>s15 _ _ h),(by omega),(fun z hz=>le_trans (hxe z hz) (by decide)),hn32,hT5,fun H6 q6 sb6 hT6 hq60 hq6=>?_⟩;have np:∀b u,H5 b=some u->(∀ps,u≠ .tbl ps)->H6 b=some u:=fun b u e n=>sb6 _ _ e (AC e hP (fun z=>n _ z));refine⟨q6,_,rfl,.inl (aa hq6),(by rw[Aq,hsl];omega),fun H7 q7 s7 hq70 hq7=>?_⟩;rw[Aq]at hq7;have ha7:=s7 _ _ (np _ _ (s5 _ _ hau) (fun _ z=>HO.noConfusion z));refine⟨a,q7,_,_,rfl,rfl,ha7,hq7,(by simp only[length_cons,length_nil,Aq,hsl];omega),fun q8 hq8=>?_⟩;have s68:=s7.trans (ae (o:=.lst ([V.int 0]++V.int (((Lo.sorted es (howOf n) xs).length:Nat):Int)::nv (Lo.sorted es (howOf n) xs))) hq8);refine k _ q8 (fun b u e _ n=>s68 _ _ (sb6 _ _ (s05 _ _ e) n)) (hT6.same s68) ?_ ⟨dx,o,l,as,s68 _ _ (np _ _ (s05 _ _ hd) (fun _ z=>HO.noConfusion z)),hlg,(Od (d:=d) (hO.same s05) np).same s68⟩ hI;rw[Ae];show some (HO.lst ([V.int 0]++V.int _::nv _))=some (HO.lst (iv (0::((OrderNeutral.ints (Lo.sorted es (howOf n) xs)).length:Int)::OrderNeutral.ints (Lo.sorted es (howOf n) xs))));rw[<-C9,show(OrderNeutral.ints (Lo.sorted es (howOf n) xs)).length=(Lo.sorted es (howOf n) xs).length from length_map ..];rfl
 .rw[if_neg e0]at hans;rw[hans]at k;exact k H' q' (fun b u e _ _=>(s03.trans s') _ _ e) (hT.same (s03.trans s')) hq' (hDk.same (s03.trans s')) hI
end LP
namespace LP
open PySem PySem.Spec L2
open OrderNeutral (told callOf asked1 fits moderate)
theorem F5{l r:List Int}{p:Nat}{z:Int}(h:l.drop p=z::r):l[p]? =some z/\r=l.drop (p+1)/\p<l.length:=by
 have hp:p<l.length:=by
  by_cases hp:p<l.length
  .exact hp
  .rw[drop_of_length_le (by omega)]at h;cases h
 rw[drop_eq_getElem_cons hp]at h;injection h with h1 h2
 exact⟨by rw[getElem?_eq_getElem hp,h1],h2.symm,hp⟩
theorem Hr{r x t:List Int}(h:PyFlat.row r=some (x,t)):∃(n:Nat)(r':List Int),r=(n:Int)::r'/\n<=r'.length/\x=r'.take n/\t=r'.drop n:=by
 cases r with
 |nil=>cases h
 |cons z r=>
  have h:(if 0<=z/\z.toNat<=r.length then some (r.take z.toNat,r.drop z.toNat) else none)=some (x,t):=h;split at h
  .rename_i hz;cases h;exact⟨z.toNat,r,by rw[Int.toNat_of_nonneg hz.1],hz.2,rfl,rfl⟩
  .cases h
theorem Ec{k:Nat}{r t:List Int}{xs:List (List Int)}(h:PyFlat.rows (k+1) r=some (xs,t)):∃x s ys,PyFlat.row r=some (x,s)/\PyFlat.rows k s=some (ys,t)/\xs=x::ys:=by
 unfold PyFlat.rows at h;cases h1:PyFlat.row r with
 |none=>rw[h1]at h;cases h
 |some a=>
  obtain⟨x,s⟩:=a;rw[h1]at h;cases h2:PyFlat.rows k s with
  |none=>simp only[h2]at h;cases h
  |some b=>
   obtain⟨ys,t'⟩:=b;simp only[h2]at h;cases h;exact⟨x,s,ys,rfl,h2,rfl⟩
theorem C5:∀{k:Nat}{r t:List Int}{xs:List (List Int)},PyFlat.rows k r=some (xs,t)->xs.length=k
 |0,r,t,xs,h=>by cases h;rfl
 |k+1,r,t,xs,h=>by
  obtain⟨x,s,ys,_,h2,rfl⟩:=Ec h;rw[length_cons,C5 h2]
def rowsUse(xs:List (List Int)):Nat:=(xs.map fun(x:List Int)=>x.length+1).sum
theorem F3:∀{k p:Nat}{l t:List Int}{xs:List (List Int)},p<=l.length->PyFlat.rows k (l.drop p)=some (xs,t)->t=l.drop (p+rowsUse xs)/\p+rowsUse xs<=l.length
 |0,p,l,t,xs,hp,h=>by cases h;exact⟨rfl,hp⟩
 |k+1,p,l,t,xs,hp,h=>by
  obtain⟨x,s,ys,h1,h2,rfl⟩:=Ec h;obtain⟨n,r',e1,e2,e3,e4⟩:=Hr h1;obtain⟨_,e5,e6⟩:=F5 e1;subst e5;rw[length_drop]at e2;rw[drop_drop]at e4;subst e4;obtain⟨e7,e8⟩:=F3 (by omega) h2;have hx:x.length=n:=by rw[e3,length_take,length_drop];omega
  have:rowsUse (x::ys)=n+1+rowsUse ys:=by unfold rowsUse;rw[map_cons,List.sum_cons,hx]
  rw[this];refine⟨?_,by omega⟩;rw[e7]
  congr 1;omega
theorem JW{p0:Int}{r t:List Int}{c:List (List Int)}(h:PyFlat.call PyYqloka.shape (p0::r)=some (c,t)):
  ∃n k xs,PyYqloka.shape p0=some (n,k)/\n<=r.length/\PyFlat.rows k (r.drop n)=some (xs,t)/\c=(p0::r.take n)::xs:=by
 cases h1:PyYqloka.shape p0 with
 |none=>simp only[PyFlat.call,h1]at h;cases h
 |some a=>
  obtain⟨n,k⟩:=a;simp only[PyFlat.call,h1]at h;split at h
  .cases h
  .rename_i hn;cases h2:PyFlat.rows k (r.drop n)with
   |none=>simp only[h2]at h;cases h
   |some b=>
    obtain⟨xs,t'⟩:=b;simp only[h2]at h;cases h;exact⟨n,k,xs,rfl,by omega,h2,rfl⟩
theorem IE{f:Nat}{p0:Int}{r:List Int}{cs:List (List (List Int))}(h:PyFlat.calls PyYqloka.shape f (p0::r)=some cs):
  ∃f' c t cs',PyFlat.call PyYqloka.shape (p0::r)=some (c,t)/\PyFlat.calls PyYqloka.shape f' t=some cs'/\cs=c::cs':=by
 cases f with
 |zero=>cases h
 |succ f=>
  unfold PyFlat.calls at h;cases h1:PyFlat.call PyYqloka.shape (p0::r)with
  |none=>simp only[h1]at h;cases h
  |some a=>
   obtain⟨c,t⟩:=a;simp only[h1]at h;cases h2:PyFlat.calls PyYqloka.shape f t with
   |none=>simp only[h2]at h;cases h
   |some cs'=>
    simp only[h2]at h;cases h;exact⟨f,c,t,cs',rfl,h2,rfl⟩
theorem Kd{f:Nat}{cs:List (List (List Int))}(h:PyFlat.calls PyYqloka.shape f []=some cs):cs=[]:=by
 cases f<;>(unfold PyFlat.calls at h;cases h;rfl)
theorem K4(l:List Int)(i n:Nat)(a b:Int)(ha:a=(i:Int))(hb:b=((i+n:Nat):Int)):cutV (iv l) (some a) (some b)=iv ((l.drop i).take n):=by
 subst ha hb;unfold cutV;rw[HT.BR,HT.BR,CO];unfold iv;rw[<-map_drop,<-map_take]
 congr 1;by_cases h1:i<=l.length
 .rw[min_eq_left h1];by_cases h2:i+n<=l.length
  .rw[min_eq_left h2]
   congr 1;omega
  .rw[min_eq_right (by omega),take_of_length_le (by rw[length_drop];omega),take_of_length_le (by rw[length_drop];omega)]
 .rw[min_eq_right (by omega:l.length<=i),drop_of_length_le (le_refl _),drop_of_length_le (by omega:l.length<=i)];simp
variable{P:Program}{w:World}{K:Frag}{mg:Str->Option Value}{base:Heap}{D:Ad}
theorem scRF:FnScope ["calls","place","how_many","rows"] ["calls","place","how_many"] (defScope (top 125)):=fsc
def spRF(K:Frag):Sp:=fun vs H Q _=>∃(c:Addr)(l:List Int)(p k:Nat)(rows:List (List Nat))(t:List Int),vs=[.ref c,.int (p:Int),.int (k:Int)]/\SqL K H c (iv l)/\p<=l.length/\k<=100/\PyFlat.rows k (l.drop p)=some (rows.map OrderNeutral.ints,t)/\
 ∀(H':Hp)(q:Addr)(rs:List Addr),Same H H'->H q=none->H' q=some (.lst (rs.map V.ref))->LsAt RowAt H' rs rows->Q (.ref q) H'
theorem Ol(T:TxK K mg D):Ok P w K mg base 1 "rows_from" ["calls","place","how_many"] (spRF K):=by
 refine T.rowsFrom.ok scRF (fun vs H Q E h=>?_) (fun f cdv A outer s H vs Q E hr h=>?_)
 .obtain⟨c,l,p,k,rows,t,rfl,_⟩:=h;rfl
 .obtain⟨c,l,p,k,rows,t,rfl,hc,hp,hk,hrows,kk⟩:=h
  refine⟨_,Ab (Al (i:=3) scRF.nd rfl (inl rfl) (As Ac))
   (Ab (A9 PassesOwn.never (An CG (plen T.len (pv 3)) (pv 2) (nomark _))
    (Ab (Au (AR plainAttrs_list PySem.F.slot_list_append PySem.F.type_list_append AD (pv 3) (Aa (BN B3 (pv 0) (Bq (Ay AN (pv 1) Ag)) (Bq (Ay AN (Ay AN (pv 1) Ag) (Ar Ap (pv 0) (pv 1) (fun _ _=>rfl))))) Ac)))
    (Af (Cs (i:=1) scRF.nd rfl (inl rfl) (Ay AN Ag (Ar Ap (pv 0) (pv 1) (fun _ _=>rfl))) Cp))))
   (Af (Aj (pv 3)))),?_⟩
  have hs:sizeLine=16777216:=sizeLine_eq;have hrl:rows.length=k:=by have:=C5 hrows;rw[length_map]at this;exact this
  refine⟨zero_le _,fun q hq=>?_⟩;have sq:Same H (aj H q (.lst [])):=ae hq
  refine BI (fun m Z H'=>∃(j p':Nat)(rs:List Addr),m=k - j/\Z=[some (.ref c),some (.int (p':Int)),some (.int (k:Int)),some (.ref q)]/\j<=k/\p'<=l.length/\PyFlat.rows (k - j) (l.drop p')=some ((rows.drop j).map OrderNeutral.ints,t)/\Same H H'/\H' q=some (.lst (rs.map V.ref))/\LsAt RowAt H' rs (rows.take j)/\q∉rs)
   ⟨_,0,p,[],rfl,rfl,zero_le _,hp,hrows,sq,Ae,LsAt.nil,(by simp)⟩ ?_
  rintro m Z H' ⟨j,p',rs,rfl,rfl,hj,hp',hR,s1,hq1,hL,hqn⟩;have hrsl:rs.length=j:=by rw[hL.1,length_take,hrl];omega
  refine⟨_,AZ (AG (Ah rfl) (.inl (aa hq1))) (Ah rfl),fun y=>?_,fun y=>?_⟩
  .have hjk:j<k:=by have:=of_decide_eq_true y;rw[length_map,hrsl]at this;omega
   obtain⟨k',hk'⟩:∃k',k - j=k'+1:=⟨k - j - 1,by omega⟩;rw[hk']at hR;obtain⟨x,s',ys,h1,h2,h3⟩:=Ec hR;obtain⟨n,r',e1,e2,e3,e4⟩:=Hr h1;obtain⟨e5,e6,e7⟩:=F5 e1;subst e6;obtain⟨row,hrow⟩:∃row,rows[j]? =some row:=⟨_,getElem?_eq_getElem (by omega)⟩
   have hd:rows.drop j=row::rows.drop (j+1):=by
    rw[drop_eq_getElem_cons (by omega:j<rows.length),Option.some.inj ((getElem?_eq_getElem (by omega:j<rows.length)).symm.trans hrow)]
   rw[hd,map_cons]at h3;injection h3 with h3 h4
   have hc1:=s1.seq hc;have at_p:atI (iv l) (p':Int)=some (V.int (n:Int)):=AA (j:=p') rfl (by unfold iv;rw[getElem?_map,e5];rfl);refine⟨_,rfl,.inl ⟨rfl,_,aa hq1⟩,_,rfl,_,rfl,_,_,rfl,rfl,_,rfl,_,rfl,_,_,rfl,rfl,_,rfl,_,rfl,c,_,_,_,rfl,rfl,hc1,at_p,_,_,rfl,rfl,_,rfl,c,_,rfl,hc1,fun b hb=>?_⟩;rw[K4 l (p'+1) n _ _ (by omega) (by omega),<-e3,<-h3,C9];have sb:Same H' (aj H' b (.lst (nv row))):=ae hb;have hbu:(aj H' b (.lst (nv row))) b=some (.lst (nv row)):=Ae;generalize aj H' b (.lst (nv row))=H2 at sb hbu;have hq2:=sb _ _ hq1;have nbq:b≠q:=(Ai hq1 hb).symm;refine⟨q,_,_,rfl,rfl,hq2,(by rw[length_map];omega),?_⟩;rw[Bw];have sb3:SameBut q H2 (aj H2 q (.lst ((rs++[b]).map V.ref))):=af;have hq3:(aj H2 q (.lst ((rs++[b]).map V.ref))) q=some (.lst ((rs++[b]).map V.ref)):=Ae;generalize aj H2 q (.lst ((rs++[b]).map V.ref))=H3 at sb3 hq3;have s3:Same H H3:=ag (s1.trans sb) sb3 hq;refine⟨_,rfl,_,rfl,_,rfl,c,_,_,_,rfl,rfl,s3.seq hc,at_p,_,_,rfl,rfl,_,_,rfl,rfl,k - (j+1),(by omega),j+1,p'+1+n,rs++[b],rfl,?_,hjk,?_,?_,s3,hq3,?_,?_⟩
   .have:(p':Int)+(1+(n:Int))=((p'+1+n:Nat):Int):=by omega
    rw[<-this];rfl
   .rw[length_drop]at e2;omega
   .rw[show k - (j+1)=k' by omega,h4];rw[drop_drop]at e4;rw[<-e4];exact h2
   .have ht:rows.take (j+1)=rows.take j++[row]:=by rw[take_add_one,hrow];rfl
    rw[ht];exact(hL.monoM fun a z ha h=>sb3 _ _ (sb _ _ h) (fun zz=>hqn (zz▸ha))).snoc (sb3 _ _ hbu nbq)
   .rw[mem_append,mem_singleton];exact fun z=>z.elim hqn fun z=>nbq z.symm
  .have hjk:j=k:=by have:=of_decide_eq_false y;rw[length_map,hrsl]at this;omega
   refine⟨_,rfl,kk H' q rs s1 hq hq1 ?_⟩;rw[<-hrl]at hjk;rw[hjk,take_length]at hL;exact hL
theorem LD{p0:Int}{n k:Nat}(h:PyYqloka.shape p0=some (n,k)):k<=2:=by
 unfold PyYqloka.shape at h;by_cases e1:p0=1
 .rw[if_pos e1]at h;cases h;decide
 rw[if_neg e1]at h;by_cases e2:p0=2
 .rw[if_pos e2]at h;cases h;decide
 rw[if_neg e2]at h;by_cases e3:p0=3
 .rw[if_pos e3]at h;cases h;decide
 rw[if_neg e3]at h;by_cases e4:p0=4
 .rw[if_pos e4]at h;cases h;decide
 rw[if_neg e4]at h;by_cases e5:p0=5
 .rw[if_pos e5]at h;cases h;decide
 rw[if_neg e5]at h;by_cases e6:p0=6
 .rw[if_pos e6]at h;cases h;decide
 rw[if_neg e6]at h;by_cases e7:p0=7
 .rw[if_pos e7]at h;cases h;decide
 rw[if_neg e7]at h;by_cases e8:p0=8
 .rw[if_pos e8]at h;cases h;decide
 rw[if_neg e8]at h;by_cases e9:p0=9
 .rw[if_pos e9]at h;cases h;decide
 rw[if_neg e9]at h;by_cases e10:p0=10
 .rw[if_pos e10]at h;cases h;decide
 rw[if_neg e10]at h;by_cases e11:p0=11
 .rw[if_pos e11]at h;cases h;decide
 rw[if_neg e11]at h;by_cases e12:p0=12
 .rw[if_pos e12]at h;cases h;decide
 rw[if_neg e12]at h;by_cases e13:p0=13
 .rw[if_pos e13]at h;cases h;decide
 rw[if_neg e13]at h;by_cases e14:p0=14
 .rw[if_pos e14]at h;cases h;decide
 rw[if_neg e14]at h;by_cases e15:p0=15
 .rw[if_pos e15]at h;cases h;decide
 rw[if_neg e15]at h;by_cases e16:p0=16
 .rw[if_pos e16]at h;cases h;decide
 rw[if_neg e16]at h;cases h
theorem JC:∀rows:List (List Nat),(rows.map fun(r:List Nat)=>((r.length:Nat):Int)+1).sum=((rowsUse (rows.map OrderNeutral.ints):Nat):Int)
 |[]=>rfl
 |r::rows=>by
  have ih:=JC rows;unfold rowsUse at ih⊢;rw[map_cons,List.sum_cons,ih,map_cons,map_cons,List.sum_cons,DM];omega
theorem Iw{c:List (List Int)}{x:LoCalls.Call}(h:fits c=true)(hc:callOf c=some x):moderate x=true:=by
 unfold fits at h;rw[hc]at h;have h:(some (moderate x)==some true)=true:=h;rw[beq_iff_eq]at h;exact Option.some.inj h
theorem MP{K:Frag}{H0 H H':Hp}{c g:Addr}{xs:List V}(h0:SqL K H0 c xs)(hg:H0 g=none)(h:SqL K H c xs)(s:SameBut g H H'):SqL K H' c xs:=by
 rcases h0 with h0|h0
 .have hne:c≠g:=by
   intro z;rw[z]at h0;rcases h0 with h0|⟨o,h0⟩<;>(rw[hg]at h0;cases h0)
  rcases h with (h|⟨o,h⟩)|h
  .exact .inl (.inl (s _ _ h hne))
  .exact .inl (.inr ⟨o,s _ _ h hne⟩)
  .exact .inr h
 .exact .inr h0
theorem OP{K:Frag}{H H':Hp}{c d p C dx:Addr}{fs:List (Str×V)}{xs:List V}{ps:Array Value}(h:SqL K H c xs)(hd:H d=some (.ins C dx fs))(hp:H p=some (.tbl ps))(s:SameT d p H H'):SqL K H' c xs:=by
 rcases h with (q|⟨ob,q⟩)|q
 .exact .inl (.inl (s _ _ q (AC q hd (fun z=>HO.noConfusion z)) (AC q hp (fun z=>HO.noConfusion z))))
 .exact .inl (.inr ⟨ob,s _ _ q (AC q hd (fun z=>HO.noConfusion z)) (AC q hp (fun z=>HO.noConfusion z))⟩)
 .exact .inr q
theorem DkAt.keep{D:Ad}{g d:Addr}{H H':Hp}{es:Lo.Order}{xs:List V}(h:DkAt D g H d es)(hg:H g=some (.lst xs))(s:SameBut g H H'):DkAt D g H' d es:=by
 obtain⟨dx,o,l,as,h1,h0,h2⟩:=h;obtain⟨dxo,h3⟩:=h2.obj;exact⟨dx,o,l,as,s _ _ h1 (AC h1 hg (fun z=>HO.noConfusion z)),h0,⟨⟨dxo,s _ _ h3 (AC h3 hg (fun z=>HO.noConfusion z))⟩,s _ _ h2.lst h0,h2.ents.but hg s⟩⟩
def Disp(P:Program)(w:World)(K:Frag)(mg:Str->Option Value)(base:Heap)(D:Ad)(rs:List (Int×Nat×Nat×Str)):Prop:=∀(p0:Int)(n k:Nat),PyYqloka.shape p0=some (n,k)->∃(x:Str)(mk:List Nat->List (List Nat)->LoCalls.Call),rs.lookup p0=some (n,k,x)/\
 (∀f,mg x=some (.ref f)->FnAt P w K mg base 38 f ["desk","numbers","rows"] (spCallT K D n k mk))/\∀nums rows,nums.length=n->rows.length=k->callOf ((p0::OrderNeutral.ints nums)::rows.map OrderNeutral.ints)=some (mk nums rows)
def spAns(K:Frag):Sp:=fun vs H Q _=>∃(c:Addr)(l:List Int),vs=[.ref c]/\SqL K H c (iv l)/\PyYqloka.answers_asked l=true/\Tab K H/\∀(H':Hp)(q:Addr),Tab K H'->H' q=some (.lst (iv (PyYqloka.answers l)))->Q (.ref q) H'
theorem scAn:FnScope ["calls","desk","given","place","call","rows_place","numbers","rows","row"] ["calls"] (defScope (top 124)):=fsc
theorem ID(T:TxK K mg D){rs0:List (Int×Nat×Nat×Str)}{fA:Addr}{fdA:FuncData}(GD:GDict K mg "CALLS" rs0)(FA:Fun K "answers" "answers" (top 124) fA fdA)(DS:Disp P w K mg base D rs0):FnOk P w K mg base CX0 40 fA fdA ["calls"] (spAns K):=by
 have GK:=OE (P:=P) (w:=w) (base:=base) T;have GR:=Ol (P:=P) (w:=w) (base:=base) T;have GL:=FT (P:=P) (w:=w) (base:=base) T;refine FA.ok scAn (fun vs H Q E h=>?_) (fun cdv A outer s H vs Q E hr h=>?_)
 .obtain⟨c,l,rfl,_⟩:=h;rfl
 .obtain⟨c,l,rfl,hc,hasked,hT,k⟩:=h;have hr1:Room 1 _:=hr.mono (by decide);have hr4:Room 4 _:=hr.mono (by decide);have hr38:Room 38 _:=hr.mono (by decide)
  refine⟨_,Ab (Al (i:=1) scAn.nd rfl (inl rfl) (pmk0 GK hr4 T.cK)) (Ab (Al (i:=2) scAn.nd rfl (inl rfl) (As Ac)) (Ab (Al (i:=3) scAn.nd rfl (inl rfl) Ag)
   (Ab (A9 PassesOwn.never (An CG (pv 3) (plen T.len (pv 0)) (nomark _))
    (Ab (Al (i:=4) scAn.nd rfl (inl rfl) (pgd GD (Ar Ap (pv 0) (pv 3) (fun _ _=>rfl)) (fun _ _=>rfl)))
    (Ab (Al (i:=5) scAn.nd rfl (inl rfl) (Ay AN (Ay AN (pv 3) Ag) (Ar AB (pv 4) Ag (fun _ _=>rfl))))
    (Ab (Al (i:=6) scAn.nd rfl (inl rfl) (BN B3 (pv 0) (Bq (Ay AN (pv 3) Ag)) (Bq (pv 5))))
    (Ab (Al (i:=7) scAn.nd rfl (inl rfl) (pc GR hr1 (Aa (pv 0) (Aa (pv 5) (Aa (Ar AB (pv 4) Ag (fun _ _=>rfl)) Ac)))))
    (Ab (Al (i:=3) scAn.nd rfl (inl rfl) (Ay AN (pv 5) (BF (NZ rfl) (by rfl) T.sum PyProof.Rows.boot_sum (Aa (BQ (own:=[("row",8)]) (te:=tOp (rI0 fun i j=>.int (i+j)) (tCB (rLen K) (tCons (tVar 8) tNil)) (tC (.int 1))) rfl scAn.nd (AE (pv 7)) (blk rfl)
     (fun s H C cl fp=>At (i:=8) scAn.nd rfl (inl rfl)) (fun s H C cl fp=>BE) (fun s H C cl fp=>Ay AN (plen T.len (pv 8)) Ag)) Ac))))
    (Af (Au (AR plainAttrs_list slot_list_extend type_list_extend Br (pv 2) (Aa (pc GL hr1 (Aa (pcv hr38 (Ar AB (pv 4) Ag (fun _ _=>rfl)) (Aa (pv 1) (Aa (pv 6) (Aa (pv 7) Ac)))) Ac)) Ac))))))))))
   (Af (Aj (pv 2)))))),?_⟩
  have hs:sizeLine=16777216:=sizeLine_eq
  obtain⟨cs0,hcs0,hat,hask⟩:∃cs0,PyFlat.calls PyYqloka.shape l.length l=some cs0/\cs0.length<=16/\∀x∈cs0,asked1 x=true/\fits x=true:=by
   unfold PyYqloka.answers_asked PyYqloka.calls at hasked;cases h1:PyFlat.calls PyYqloka.shape l.length l with
   |none=>rw[h1]at hasked;cases hasked
   |some cs=>
    rw[h1]at hasked
    have hid:cs.map PyYqloka.whole=cs:=by
     have:PyYqloka.whole=id:=funext Iv;rw[this,List.map_id]
    have hasked:(PyFlat.atMost 16 (cs.map PyYqloka.whole)&&asked (cs.map PyYqloka.whole))=true:=hasked;rw[hid,and_eq_true]at hasked;unfold asked at hasked;simp only[and_eq_true,all_eq_true]at hasked;exact⟨cs,rfl,of_decide_eq_true hasked.1,fun x hx=>⟨hasked.2.2.1 x hx,hasked.2.2.2.1 x hx⟩⟩
  have hans:PyYqloka.answers l=PyFlat.told (played OrderNeutral.step OrderNeutral.start cs0):=by
   unfold PyYqloka.answers PyYqloka.calls;rw[hcs0]
   have hid:cs0.map PyYqloka.whole=cs0:=by
    have:PyYqloka.whole=id:=funext Iv;rw[this,List.map_id]
   show PyFlat.told (played _ _ (cs0.map PyYqloka.whole))=_;rw[hid]
  rw[hans]at k;intro d dxd hd hdx hne;refine⟨d,dxd,rfl,Ae,fun H1 hDk1 sb1=>⟨rfl,?_⟩⟩;have s1:Same H H1:=ai hd hdx sb1;refine⟨zero_le _,fun g hg=>?_⟩;have sg:Same H1 (aj H1 g (.lst [])):=ae hg;have hgu:(aj H1 g (.lst [])) g=some (.lst (iv [])):=Ae;generalize aj H1 g (.lst [])=H2 at sg hgu
  refine BI (fun m Z H'=>∃(p fu:Nat)(cs:List (List (List Int)))(es:Lo.Order)(acc:List Int)(v4 v5 v6 v7 v8:Option V),m=l.length - p/\Z=[some (.ref c),some (.ref d),some (.ref g),some (.int (p:Int)),v4,v5,v6,v7,v8]/\p<=l.length/\
    PyFlat.calls PyYqloka.shape fu (l.drop p)=some cs/\(∀x∈cs,asked1 x=true/\fits x=true)/\cs.length<=16/\acc.length<=50001 * (16 - cs.length)/\PyFlat.told (played OrderNeutral.step OrderNeutral.start cs0)=acc++PyFlat.told (played OrderNeutral.step es cs)/\
    SqL K H' c (iv l)/\H' g=some (.lst (iv acc))/\DkAt D g H' d es/\LM.OInv es/\Tab K H')
   ⟨_,0,l.length,cs0,[],[],none,none,none,none,none,rfl,rfl,zero_le _,hcs0,hask,hat,zero_le _,rfl,(s1.trans sg).seq hc,hgu,(hDk1 g hg).same sg,LM.OInv.nil,hT.same (s1.trans sg)⟩ ?_
  rintro m Z H3 ⟨p,fu,cs,es,acc,v4,v5,v6,v7,v8,rfl,rfl,hp,hcs,hask',hat',hal,htot,hc3,hg3,hDk3,hI,hT3⟩;refine⟨_,AZ (Ah rfl) (AG (Ah rfl) (.inl hc3)),fun y=>?_,fun y=>?_⟩
  .have hpl:p<l.length:=by have:=of_decide_eq_true y;rw[CO]at this;omega
   obtain⟨p0,hp0⟩:∃p0,l[p]? =some p0:=⟨_,getElem?_eq_getElem hpl⟩
   have hdrop:l.drop p=p0::l.drop (p+1):=by
    rw[drop_eq_getElem_cons hpl,Option.some.inj ((getElem?_eq_getElem hpl).symm.trans hp0)]
   rw[hdrop]at hcs;obtain⟨fu',cc,t,cs',h1,h2,rfl⟩:=IE hcs;obtain⟨n,kr,xs,h3,h4,h5,h6⟩:=JW h1;obtain⟨ha1,hfit⟩:=hask' cc mem_cons_self;have hge:=Ko cc ha1;rw[h6]at hge;obtain⟨nums,hnums⟩:∃nums:List Nat,(l.drop (p+1)).take n=OrderNeutral.ints nums:=CI fun z hz=>hge _ mem_cons_self z (mem_cons_of_mem _ hz);obtain⟨rows,hrows⟩:∃rows:List (List Nat),xs=rows.map OrderNeutral.ints:=EC fun r hr=>hge r (mem_cons_of_mem _ hr);have hnl:nums.length=n:=by have:=congrArg List.length hnums;rw[DM,length_take]at this;omega
   have hrl:rows.length=kr:=by have:=C5 h5;rw[hrows,length_map]at this;exact this
   obtain⟨x,mk,hlk,hfn,hco⟩:=DS p0 n kr h3;have hcall:=hco nums rows hnl hrl;rw[hnums,hrows]at h6;rw[<-h6]at hcall;have hmod:=Iw hfit hcall;have hk2:=LD h3;rw[length_drop]at h4;rw[drop_drop]at h5;have at_p:atI (iv l) (p:Int)=some (V.int p0):=AA (j:=p) rfl (by unfold iv;rw[getElem?_map,hp0];rfl);refine⟨_,rfl,_,rfl,c,_,_,_,rfl,rfl,hc3,at_p,p0,n,kr,x,rfl,hlk,fun a fa hSq hmg=>?_⟩;refine⟨_,rfl,_,_,rfl,rfl,_,rfl,a,_,_,_,rfl,rfl,hSq _,AA (j:=0) (v:=V.int (n:Int)) rfl rfl,_,_,rfl,rfl,?_⟩;have erp:(p:Int)+1+(n:Int)=((p+1+n:Nat):Int):=by omega
   refine⟨_,rfl,_,rfl,_,_,rfl,rfl,_,rfl,_,rfl,_,rfl,c,_,rfl,hc3,fun nl hnl0=>?_⟩;rw[K4 l (p+1) n _ _ (by omega) (by omega),hnums,C9];have sn:Same H3 (aj H3 nl (.lst (nv nums))):=ae hnl0;have hnu:(aj H3 nl (.lst (nv nums))) nl=some (.lst (nv nums)):=Ae;generalize aj H3 nl (.lst (nv nums))=H4 at sn hnu;rw[hrows]at h5;refine⟨_,rfl,_,rfl,_,rfl,a,_,_,_,rfl,rfl,hSq _,AA (j:=1) (v:=V.int (kr:Int)) rfl rfl,c,l,p+1+n,kr,rows,t,(by rw[<-erp];rfl),sn.seq hc3,(by omega),(by omega),h5,fun H5 rl rs s5 hrl0 hrl5 hL5=>?_⟩;have s35:=sn.trans s5;obtain⟨ht1,ht2⟩:=F3 (by omega) h5;refine⟨_,rfl,_,rfl,rl,rfl,⟨_,aa hrl5⟩,fun B hB0=>?_⟩;have hrsl:rs.length=kr:=by rw[hL5.1,hrl]
   refine Dj 8 (ys:=iv (rows.map fun(r:List Nat)=>((r.length:Nat):Int)+1)) hB0 (aa hrl5) (by rw[CO,length_map,length_map,hL5.1]) (by rw[length_map,hrsl];omega) (fun i x y H6 hx hy s6 R hR=>?_) fun H6 s6 hB6=>?_
   .obtain⟨b,hb,rfl⟩:=AU hx;unfold iv at hy;rw[getElem?_map,getElem?_map]at hy;obtain⟨z,hz,rfl⟩:=map_eq_some_iff.mp hy;obtain⟨row,hrow,rfl⟩:=map_eq_some_iff.mp hz;have hbr:=s6 _ _ (hL5.2 i b row hb hrow);refine⟨_,rfl,b,_,rfl,.inl (aa hbr),_,_,rfl,rfl,?_⟩;rw[Aq];exact hR _ (ad _)
   refine⟨B,_,rfl,aa hB6,_,_,rfl,rfl,?_⟩;have s36:=s35.trans s6;have e7:(p:Int)+1+(n:Int)+(rows.map fun(r:List Nat)=>((r.length:Nat):Int)+1).sum=((p+1+n+rowsUse (rows.map OrderNeutral.ints):Nat):Int):=by rw[JC];omega
   have hg6:=s36 _ _ hg3;refine⟨_,rfl,.inl ⟨rfl,_,aa hg6⟩,_,rfl,a,_,_,_,rfl,rfl,hSq _,AA (j:=2) (v:=V.ref fa) rfl rfl,fa,_,_,rfl,hfn fa hmg,_,rfl,_,rfl,_,rfl,?_⟩;refine⟨g,d,nl,rl,rs,es,nums,rows,rfl,⟨_,hg6⟩,hDk3.same s36,hI,s6 _ _ (s5 _ _ hnu),s6 _ _ hrl5,(hL5.mono fun b x h=>s6 _ _ h),hnl,hrl,hmod,hT3.same s36,fun H7 q sb7 hT7 hq hDk7 hI7=>?_⟩;obtain⟨ps6,hP6⟩:=(hT3.same s36).at_;have htl:=LW hI (mk nums rows) hmod;obtain⟨dx6,o6,l6,as6,hd6,hlg6,hO6⟩:=hDk3.same s36;have hc7:SqL K H7 c (iv l):=OP (s36.seq hc3) hd6 hP6 sb7;have hg7:=sb7 _ _ hg6 (AC hg6 hd6 (fun z=>HO.noConfusion z)) (AC hg6 hP6 (fun z=>HO.noConfusion z));have hcl:=hat';rw[length_cons]at hcl hal
   have estep:OrderNeutral.step es cc=((LoCalls.step es (mk nums rows)).1,told (LoCalls.step es (mk nums rows)).2):=by
    unfold OrderNeutral.step;rw[hcall]
   generalize hans1:told (LoCalls.step es (mk nums rows)).2=an at hq htl estep;generalize hes1:(LoCalls.step es (mk nums rows)).1=es1 at hDk7 hI7 estep;refine⟨q,_,rfl,.inl (aa hq),(by rw[CO];omega),fun H8 q8 s8 hq80 hq8=>?_⟩;rw[CO]at hq8;have hg8:=s8 _ _ hg7;refine⟨g,q8,_,_,rfl,rfl,hg8,hq8,(by rw[length_cons,CO,CO];omega),?_⟩;have e9:iv acc++V.int ((an.length:Nat):Int)::iv an=iv (acc++((an.length:Nat):Int)::an):=by rw[NA];rfl
   rw[e9];have sb9:SameBut g H8 (aj H8 g (.lst (iv (acc++((an.length:Nat):Int)::an)))):=af;have hg9:(aj H8 g (.lst (iv (acc++((an.length:Nat):Int)::an)))) g=some (.lst (iv (acc++((an.length:Nat):Int)::an))):=Ae;generalize aj H8 g (.lst (iv (acc++((an.length:Nat):Int)::an)))=H9 at sb9 hg9;refine⟨l.length - (p+1+n+rowsUse (rows.map OrderNeutral.ints)),(by omega),p+1+n+rowsUse (rows.map OrderNeutral.ints),fu',cs',es1,acc++((an.length:Nat):Int)::an,_,_,_,_,_,rfl,(by rw[<-e7];rfl),ht2,?_,fun x hx=>hask' x (mem_cons_of_mem _ hx),(by omega),?_,?_,?_,hg9,?_,hI7,(hT7.same s8).but sb9 hg8 (fun _ z=>HO.noConfusion z) (fun _ z=>HO.noConfusion z)⟩
   .rw[<-ht1];exact h2
   .rw[length_append,length_cons];have:16 - cs'.length=(16 - (cs'.length+1))+1:=by omega
    rw[this,Nat.mul_add];omega
   .rw[htot];show acc++PyFlat.told ((OrderNeutral.step es cc).2::played OrderNeutral.step (OrderNeutral.step es cc).1 cs')=_;rw[estep];unfold PyFlat.told;rw[List.flatMap_cons,append_assoc]
   .exact MP hc (s1.free hg) (s8.seq hc7) sb9
   .exact(hDk7.same s8).keep hg8 sb9
  .have hpl:p=l.length:=by have:=of_decide_eq_false y;rw[CO]at this;omega
   rw[hpl,drop_of_length_le (le_refl _)]at hcs;have:=Kd hcs;subst this;have htot:PyFlat.told (played OrderNeutral.step OrderNeutral.start cs0)=acc:=by rw[htot];show acc++[]=acc;rw[append_nil]
   refine⟨_,rfl,k H3 g hT3 ?_⟩;rw[htot];exact hg3
end LP
namespace LP
open PySem PySem.Spec L2
section
variable{K:Frag}{h:Heap}{mg:Str->Option Value}{x m qual:Str}{st:Stmt}{ps:List Str}{f C:Addr}{oc:Value}{od an:Option Addr}{osl:Array (Option Value)}{kV doc pm cdv ct:Value}
def Bnd(x qual:Str)(st:Stmt)(ps:List Str):Prop:=∀(kV doc pm:Value)(an:Option Addr)(cdv ct:Value)(us:List Value),us.length=ps.length->bindArgs (PySem.W.fnOf x qual (defArgs st) (defBody st) (defScope st) .none kV doc pm an cdv ct) ⟨us,[]⟩=pure (ps.zip us)
theorem Aw(b:Bnd x x st ps)(X:K.In h)(G:h.Ns mainGlobals mg)(a:nsIn K mainGlobals x=some (some (.ref f)))
  (l:K.lookup f=some ⟨oc,od,.func (PySem.W.fnOf x x (defArgs st) (defBody st) (defScope st) .none kV doc pm an cdv ct),osl⟩) (c:PySem.W.codeIn K cdv x=true) (k:PySem.W.keepIn K (.ref f)=true):Df K mg x st ps:=
 have F:=G5 (st:=st) l c k
 ⟨f,_,mg_of X G a,F,F.binds b⟩
theorem B1(b:Bnd m qual st ps)(a:findIn K (.ref C) m=some (some (.ref f)))(i:isFn K (.ref f)=true)
  (l:K.lookup f=some ⟨oc,od,.func (PySem.W.fnOf m qual (defArgs st) (defBody st) (defScope st) .none kV doc pm an cdv ct),osl⟩) (c:PySem.W.codeIn K cdv qual=true) (k:PySem.W.keepIn K (.ref f)=true):Md K C m qual st ps:=
 have F:=G5 (st:=st) l c k
 ⟨f,_,⟨a,i,k⟩,F,F.binds b⟩
theorem FD(b:Bnd "__init__" qual st ps)(a:findIn K (.ref C) "__init__"=some (some (.ref f)))(i:isFn K (.ref f)=true)
  (l:K.lookup f=some ⟨oc,od,.func (PySem.W.fnOf "__init__" qual (defArgs st) (defBody st) (defScope st) .none kV doc pm an cdv ct),osl⟩) (c:PySem.W.codeIn K cdv qual=true) (k:PySem.W.keepIn K (.ref f)=true)
  (mk:PySem.W.makesIn K C=true) (kc:PySem.W.keepIn K (.ref C)=true):Id K C qual st ps:=
 have F:=G5 (st:=st) l c k
 ⟨f,_,⟨mk,a,i,kc⟩,F,F.binds b⟩
theorem AO{v:Int}{t:Tok}(X:K.In h)(G:h.Ns mainGlobals mg)(a:nsIn K mainGlobals x=some (some (.int v t))):GInt mg x v:=⟨t,mg_of X G a⟩
theorem Nd{xs:List V}{a:Addr}{its:Array Value}{n:Nat}{d:Option Addr}{sl:Array (Option Value)}(X:K.In h)(G:h.Ns mainGlobals mg)(e:nsIn K mainGlobals x=some (some (.ref a)))(l:K.lookup a=some ⟨.type "tuple",d,.seq its n,sl⟩)(z:its.size<=sizeLine)(v:Vals xs its.toList):GTup K mg x xs:=
 ⟨a,mg_of X G e,fun H=>.inr ⟨_,its,n,l,rfl,rfl,z,v⟩⟩
theorem NP{e:DictEntry}{i:Int}{n k:Nat}{t:Tok}{a f:Addr}{d:Option Addr}{its:Array Value}{c:Nat}{sl:Array (Option Value)}(X:K.In h)(G:h.Ns mainGlobals mg)(ek:e.key= .int i t)(eh:e.hash=hashInt i)(ev:e.val= .ref a)
  (l:K.lookup a=some ⟨.type "tuple",d,.seq its c,sl⟩) (z:its.size<=sizeLine) (v:Vals [.int (n:Int),.int (k:Int),.ref f] its.toList) (g:nsIn K mainGlobals x=some (some (.ref f))):GRow K mg e (i,n,k,x):=
 ⟨⟨t,ek⟩,eh,a,f,ev,fun H=>.inr ⟨_,its,c,l,rfl,rfl,z,v⟩,mg_of X G g⟩
theorem OW{d:Addr}{es:Array DictEntry}{ep:Nat}{rs:List (Int×Nat×Nat×Str)}(X:K.In h)(G:h.Ns mainGlobals mg)(e:nsIn K mainGlobals x=some (some (.ref d)))(l:K.lookup d=some ⟨.type "dict",none,.dict es ep, #[]⟩)(r:GRows K mg es.toList rs):GDict K mg x rs:=
 ⟨d,_,es,ep,mg_of X G e,l,⟨rfl,rfl,rfl⟩,rfl,r⟩
end
end LP
namespace LP
open PySem PySem.Spec L2
open OrderNeutral (callOf)
theorem Bo(n:Nat):nat (n:Int)=some n:=by
 unfold nat;rw[if_neg (by omega),Int.toNat_natCast]
theorem A7:∀l:List Nat,(OrderNeutral.ints l).mapM nat=some l
 |[]=>rfl
 |n::l=>by
  show((n:Int)::OrderNeutral.ints l).mapM nat=_;rw[List.mapM_cons,Bo,A7 l];rfl
theorem B6{α:Type}{l:List α}(h:l.length=0):l=[]:=List.length_eq_zero_iff.mp h
theorem Dr{α:Type}{l:List α}(h:l.length=2):∃a b,l=[a,b]:=by
 match l,h with
 |[a,b],_=>exact⟨a,b,rfl⟩
theorem Bb{α:Type}{l:List α}(h:l.length=1):∃a,l=[a]:=List.length_eq_one_iff.mp h
variable{P:Program}{w:World}{K:Frag}{mg:Str->Option Value}{base:Heap}{D:Ad}
def DispAt(P:Program)(w:World)(K:Frag)(mg:Str->Option Value)(base:Heap)(D:Ad)(p0:Int)(n k:Nat)(x:Str)(mk:List Nat->List (List Nat)->LoCalls.Call):Prop:=
 (∀f,mg x=some (.ref f)->FnAt P w K mg base 38 f ["desk","numbers","rows"] (spCallT K D n k mk))/\∀nums rows,nums.length=n->rows.length=k->callOf ((p0::OrderNeutral.ints nums)::rows.map OrderNeutral.ints)=some (mk nums rows)
theorem dp1(T:TxK K mg D):DispAt P w K mg base D 1 0 0 "call_new" fun _ _=>.fresh:=
 ⟨fun f h=>(((NY T).mono (by decide)).at_ h).toT,fun nums rows h1 h2=>by cases B6 h1;cases B6 h2;rfl⟩
theorem dp2(T:TxK K mg D):DispAt P w K mg base D 2 0 1 "call_rules" fun _ rows=>.rules (rows.headD []):=
 ⟨fun f h=>(((Lc T).mono (by decide)).at_ h).toT,fun nums rows h1 h2=>by
  cases B6 h1;obtain⟨r,rfl⟩:=Bb h2;show((OrderNeutral.ints r).mapM nat>>= fun s=>some (LoCalls.Call.rules s))=_;rw[A7];rfl⟩
theorem dp3(T:TxK K mg D):DispAt P w K mg base D 3 0 0 "call_write" fun _ _=>.write:=
 ⟨fun f h=>(((KN T).mono (by decide)).at_ h).toT,fun nums rows h1 h2=>by cases B6 h1;cases B6 h2;rfl⟩
theorem dp4(T:TxK K mg D):DispAt P w K mg base D 4 0 0 "call_count" fun _ _=>.count:=
 ⟨fun f h=>(((Lf T).mono (by decide)).at_ h).toT,fun nums rows h1 h2=>by cases B6 h1;cases B6 h2;rfl⟩
theorem dp5(T:TxK K mg D):DispAt P w K mg base D 5 1 0 "call_entry" fun nums _=>.entry (nums.headD 0):=
 ⟨fun f h=>(((L7 T).mono (by decide)).at_ h).toT,fun nums rows h1 h2=>by
  obtain⟨n,rfl⟩:=Bb h1;cases B6 h2;show(nat (n:Int)>>= fun i=>some (LoCalls.Call.entry i))=_;rw[Bo];rfl⟩
theorem dp6(T:TxK K mg D):DispAt P w K mg base D 6 0 1 "call_where" fun _ rows=>.where_ (rows.headD []):=
 ⟨fun f h=>(((KS T).mono (by decide)).at_ h).toT,fun nums rows h1 h2=>by
  cases B6 h1;obtain⟨r,rfl⟩:=Bb h2;show((OrderNeutral.ints r).mapM nat>>= fun s=>some (LoCalls.Call.where_ s))=_;rw[A7];rfl⟩
theorem dp7(T:TxK K mg D):DispAt P w K mg base D 7 0 1 "call_items" fun _ rows=>.items (rows.headD []):=
 ⟨fun f h=>(((Ls T).mono (by decide)).at_ h).toT,fun nums rows h1 h2=>by
  cases B6 h1;obtain⟨r,rfl⟩:=Bb h2;show((OrderNeutral.ints r).mapM nat>>= fun s=>some (LoCalls.Call.items s))=_;rw[A7];rfl⟩
theorem dp8(T:TxK K mg D):DispAt P w K mg base D 8 1 1 "call_key" fun nums rows=>.key (nums.headD 0) (rows.headD []):=
 ⟨fun f h=>(((NU T).mono (by decide)).at_ h).toT,fun nums rows h1 h2=>by
  obtain⟨n,rfl⟩:=Bb h1;obtain⟨r,rfl⟩:=Bb h2;show(nat (n:Int)>>= fun h=>(OrderNeutral.ints r).mapM nat>>= fun s=>some (LoCalls.Call.key h s))=_;rw[Bo,A7];rfl⟩
theorem dp9(T:TxK K mg D):DispAt P w K mg base D 9 1 2 "call_compare" fun nums rows=>.compare (nums.headD 0) (rows.headD []) (rows.tail.headD []):=
 ⟨fun f h=>(((IK T).mono (by decide)).at_ h).toT,fun nums rows h1 h2=>by
  obtain⟨n,rfl⟩:=Bb h1;obtain⟨r,r2,rfl⟩:=Dr h2;show(nat (n:Int)>>= fun h=>(OrderNeutral.ints r).mapM nat>>= fun s=>(OrderNeutral.ints r2).mapM nat>>= fun t=>some (LoCalls.Call.compare h s t))=_;simp only[Bo,A7];rfl⟩
theorem dp10(T:TxK K mg D):DispAt P w K mg base D 10 1 1 "call_hash" fun nums rows=>.hash (nums.headD 0) (rows.headD []):=
 ⟨fun f h=>(((MN T).mono (by decide)).at_ h).toT,fun nums rows h1 h2=>by
  obtain⟨n,rfl⟩:=Bb h1;obtain⟨r,rfl⟩:=Bb h2;show(nat (n:Int)>>= fun h=>(OrderNeutral.ints r).mapM nat>>= fun s=>some (LoCalls.Call.hash h s))=_;simp only[Bo,A7];rfl⟩
theorem dp11(T:TxK K mg D):DispAt P w K mg base D 11 1 2 "call_begins" fun nums rows=>.begins (nums.headD 0) (rows.headD []) (rows.tail.headD []):=
 ⟨fun f h=>(((Kx T).mono (by decide)).at_ h).toT,fun nums rows h1 h2=>by
  obtain⟨n,rfl⟩:=Bb h1;obtain⟨r,r2,rfl⟩:=Dr h2;show(nat (n:Int)>>= fun h=>(OrderNeutral.ints r).mapM nat>>= fun s=>(OrderNeutral.ints r2).mapM nat>>= fun t=>some (LoCalls.Call.begins h s t))=_;simp only[Bo,A7];rfl⟩
theorem dp12(T:TxK K mg D):DispAt P w K mg base D 12 2 2 "call_find" fun nums rows=>.find (nums.headD 0) (nums.tail.headD 0) (rows.headD []) (rows.tail.headD []):=
 ⟨fun f h=>(((Mw T).mono (by decide)).at_ h).toT,fun nums rows h1 h2=>by
  obtain⟨n,m,rfl⟩:=Dr h1;obtain⟨r,r2,rfl⟩:=Dr h2;show(nat (n:Int)>>= fun h=>nat (m:Int)>>= fun i=>(OrderNeutral.ints r).mapM nat>>= fun s=>(OrderNeutral.ints r2).mapM nat>>= fun t=>some (LoCalls.Call.find h i s t))=_;simp only[Bo,A7];rfl⟩
theorem dp14(T:TxK K mg D):DispAt P w K mg base D 14 2 2 "call_rank" fun nums rows=>.rank (nums.headD 0) (nums.tail.headD 0) (rows.headD []) (rows.tail.headD []):=
 ⟨fun f h=>(((MY T).mono (by decide)).at_ h).toT,fun nums rows h1 h2=>by
  obtain⟨n,m,rfl⟩:=Dr h1;obtain⟨r,r2,rfl⟩:=Dr h2;show(nat (n:Int)>>= fun h=>nat (m:Int)>>= fun i=>(OrderNeutral.ints r).mapM nat>>= fun s=>(OrderNeutral.ints r2).mapM nat>>= fun t=>some (LoCalls.Call.rank h i s t))=_;simp only[Bo,A7];rfl⟩
theorem dp15(T:TxK K mg D):DispAt P w K mg base D 15 1 2 "call_label" fun nums rows=>.label (nums.headD 0) (rows.headD []) (rows.tail.headD []):=
 ⟨fun f h=>(((LC T).mono (by decide)).at_ h).toT,fun nums rows h1 h2=>by
  obtain⟨n,rfl⟩:=Bb h1;obtain⟨r,r2,rfl⟩:=Dr h2;show(nat (n:Int)>>= fun h=>(OrderNeutral.ints r).mapM nat>>= fun s=>(OrderNeutral.ints r2).mapM nat>>= fun t=>some (LoCalls.Call.label h s t))=_;simp only[Bo,A7];rfl⟩
theorem dp16(T:TxK K mg D):DispAt P w K mg base D 16 1 1 "call_wrong" fun nums rows=>.wrong (nums.headD 0) (rows.headD []):=
 ⟨fun f h=>(((Ll T).mono (by decide)).at_ h).toT,fun nums rows h1 h2=>by
  obtain⟨n,rfl⟩:=Bb h1;obtain⟨r,rfl⟩:=Bb h2;show(nat (n:Int)>>= fun h=>(OrderNeutral.ints r).mapM nat>>= fun s=>some (LoCalls.Call.wrong h s))=_;simp only[Bo,A7];rfl⟩
theorem dp13(T:TxK K mg D)(B:BM mg base):DispAt P w K mg base D 13 1 1 "call_sort" fun nums rows=>.sort (nums.headD 0) (rows.headD []):=
 ⟨fun f h=>((Mv T B).mono (by decide)).at_ h,fun nums rows h1 h2=>by
  obtain⟨n,rfl⟩:=Bb h1;obtain⟨r,rfl⟩:=Bb h2;show(nat (n:Int)>>= fun h=>(OrderNeutral.ints r).mapM nat>>= fun s=>some (LoCalls.Call.sort h s))=_;simp only[Bo,A7];rfl⟩
abbrev callRows:List (Int×Nat×Nat×Str):=[(1,0,0,"call_new"),(2,0,1,"call_rules"),(3,0,0,"call_write"),(4,0,0,"call_count"),(5,1,0,"call_entry"),(6,0,1,"call_where"),(7,0,1,"call_items"),(8,1,1,"call_key"),(9,1,2,"call_compare"),(10,1,1,"call_hash"),(11,1,2,"call_begins"),(12,2,2,"call_find"),(13,1,1,"call_sort"),(14,2,2,"call_rank"),(15,1,2,"call_label"),(16,1,1,"call_wrong")]
theorem disp(T:TxK K mg D)(B:BM mg base):Disp P w K mg base D callRows:=by
 intro p0 n k h;unfold PyYqloka.shape at h;by_cases e1:p0=1
 .rw[if_pos e1]at h;cases h;subst e1;exact⟨_,_,rfl,dp1 T⟩
 rw[if_neg e1]at h;by_cases e2:p0=2
 .rw[if_pos e2]at h;cases h;subst e2;exact⟨_,_,rfl,dp2 T⟩
 rw[if_neg e2]at h;by_cases e3:p0=3
 .rw[if_pos e3]at h;cases h;subst e3;exact⟨_,_,rfl,dp3 T⟩
 rw[if_neg e3]at h;by_cases e4:p0=4
 .rw[if_pos e4]at h;cases h;subst e4;exact⟨_,_,rfl,dp4 T⟩
 rw[if_neg e4]at h;by_cases e5:p0=5
 .rw[if_pos e5]at h;cases h;subst e5;exact⟨_,_,rfl,dp5 T⟩
 rw[if_neg e5]at h;by_cases e6:p0=6
 .rw[if_pos e6]at h;cases h;subst e6;exact⟨_,_,rfl,dp6 T⟩
 rw[if_neg e6]at h;by_cases e7:p0=7
 .rw[if_pos e7]at h;cases h;subst e7;exact⟨_,_,rfl,dp7 T⟩
 rw[if_neg e7]at h;by_cases e8:p0=8
 .rw[if_pos e8]at h;cases h;subst e8;exact⟨_,_,rfl,dp8 T⟩
 rw[if_neg e8]at h;by_cases e9:p0=9
 .rw[if_pos e9]at h;cases h;subst e9;exact⟨_,_,rfl,dp9 T⟩
 rw[if_neg e9]at h;by_cases e10:p0=10
 .rw[if_pos e10]at h;cases h;subst e10;exact⟨_,_,rfl,dp10 T⟩
 rw[if_neg e10]at h;by_cases e11:p0=11
 .rw[if_pos e11]at h;cases h;subst e11;exact⟨_,_,rfl,dp11 T⟩
 rw[if_neg e11]at h;by_cases e12:p0=12
 .rw[if_pos e12]at h;cases h;subst e12;exact⟨_,_,rfl,dp12 T⟩
 rw[if_neg e12]at h;by_cases e13:p0=13
 .rw[if_pos e13]at h;cases h;subst e13;exact⟨_,_,rfl,dp13 T B⟩
 rw[if_neg e13]at h;by_cases e14:p0=14
 .rw[if_pos e14]at h;cases h;subst e14;exact⟨_,_,rfl,dp14 T⟩
 rw[if_neg e14]at h;by_cases e15:p0=15
 .rw[if_pos e15]at h;cases h;subst e15;exact⟨_,_,rfl,dp15 T⟩
 rw[if_neg e15]at h;by_cases e16:p0=16
 .rw[if_pos e16]at h;cases h;subst e16;exact⟨_,_,rfl,dp16 T⟩
 rw[if_neg e16]at h;cases h
theorem KO{rs0:List (Int×Nat×Nat×Str)}{fa:Addr}(T:TxK K mg D)(GD:GDict K mg "CALLS" rs0)(bd:Bnd "answers" "answers" (top 124) ["calls"])(AF:Df K mg "answers" (top 124) ["calls"])(hfa:mg "answers"=some (.ref fa))(DS:∀base,BM mg base->Disp P w K mg base D rs0):
  ∃fd:FuncData,(∀(s:Shared)(us:List Value),us.length=(["calls"]:List Str).length->BindsTo s fd ⟨us,[]⟩ ((["calls"]:List Str).zip us))/\∀base:Heap,K.In base->base.Ns mainGlobals mg->BM mg base->FnOk P w K mg base CX0 40 fa fd ["calls"] (spAns K):=by
 obtain⟨f,fd,h1,h2,h3⟩:=AF.ex;rw[hfa]at h1;cases h1;obtain⟨oc,od,kV,doc,pm,an,cdv,ct,osl,rfl,lk,hcd⟩:=h2.ex;exact⟨_,fun s us hu=>.of_eq (bd kV doc pm an cdv ct us hu),fun base _ _ B=>ID T GD h2 (DS base B)⟩
end LP
namespace LP
open PySem PySem.Spec PyProof.Rows L2
open PySem.W (WData Codec OpenSpec Well WellAll ReadsW ReadsAllW)
theorem callT{P:Program}{w:World}{K:Frag}{mg mb:Str->Option Value}{CX:CXT}{k:Nat}{fa c p:Addr}{fd:FuncData}{ps:List Str}{sp:Sp}{s₁:Shared}{vals:List Value}{ds:List WData}{R:PySem.W.WRecords}{cl:Str->Option Addr}{d0:WData}
  (KX:K.In s₁.heap) (hns:s₁.heap.Ns mainGlobals mg) (hb:s₁.heap.Ns builtinsNs mb) (hbb:∀x:Str,x≠"__name__"->mb x=bootBuiltins x) (hlim:s₁.heap.NoLimit) (hg:s₁.gens= #[])
  (hbm:∃bm ob,mg "__builtins__"=some (.ref bm)/\bm≠builtinsNs/\s₁.heap.get? bm=some ob/\ob.cls= .type "module"/\ob.dict=some builtinsNs/\ob.data= .plain)
  (hcd:PySem.W.CodeHd s₁.heap c p) (hp:s₁.heap.get? p=some (PySem.W.tabObj #[])) (hKp:K.lookup p=none)
  (hwl:WellAll w.params s₁.heap vals ds) (hpl:plWs ds=true) (hwt:∀d∈ds,d.weight<=1048576) (hr:Room k callerA)
  (F:∀base:Heap,K.In base->base.Ns mainGlobals mg->BM mg base->FnOk P w K mg base CX k fa fd ps sp) (hbind:∀(s:Shared)(us:List Value),us.length=ps.length->BindsTo s fd ⟨us,[]⟩ (ps.zip us)) (hlen:ds.length=ps.length)
  (hsp:∀(H0 H:Hp)(xs:List V),(∀b u,H0 b=some u->H b=some u)->H p=some (.tbl #[])->DwAll K H0 xs ds->sp xs H (fun v H'=>Dw K H' v d0) fun _ _ _=>False)
  (hCX:∀H e s',CX [] H s₁ (fun _ _ _=>False) e s'->False):
  codeAny (model P w) callerA (.call (.ref fa) ⟨vals,[]⟩) (fun r s'=>∃u as,r= .ok (.ret u)/\ReadsW R cl s'.heap u d0 as/\OldK s₁.heap s'.heap/\s'.os=s₁.os/\AllBare s'.gens) s₁:=by
 obtain⟨A,ho,ar⟩:=DK ds vals hwl hpl hwt;have hS:=Hl KX ar ds vals hwl hpl ho;have hV:=Ca ho
 have hpn:argH K s₁.heap A p=none:=by
  cases q:argH K s₁.heap A p with
  |none=>rfl
  |some u=>
   obtain⟨_,vs,_,_,⟨e2,_⟩|⟨e2,_⟩⟩:=DH ar q
   .rw[hp]at e2;cases e2
   .rw[hp]at e2;cases e2
 obtain⟨H,hH1,hH2⟩:∃H:Hp,H p=some (.tbl #[])/\∀b,b≠p->H b=argH K s₁.heap A b:=⟨fun b=>if b=p then some (.tbl #[]) else argH K s₁.heap A b,if_pos rfl,fun b n=>if_neg n⟩
 have hup:∀b u,argH K s₁.heap A b=some u->H b=some u:=fun b u e=>by
  rw[hH2 b (fun z=>by rw[z,hpn]at e;cases e)];exact e
 have hok:HOk P w H s₁.heap:=fun b u q=>by
  by_cases e:b=p
  .subst e;rw[hH1]at q;cases q;exact hp
  .rw[hH2 b e]at q;obtain⟨_,vs,h1,h2,⟨e,rfl⟩|⟨e,rfl⟩⟩:=DH ar q
   .exact⟨e,by rw[length_map];exact h1,vs,_,Ca h2,e⟩
   .exact⟨e,by rw[length_map];exact h1,vs,Ca h2,_,e,rfl,_,rfl⟩
 have hK:∀b u,H b=some u->K.lookup b=none:=fun b u q=>by
  by_cases e:b=p
  .rw[e];exact hKp
  .rw[hH2 b e]at q;exact(DH ar q).1
 have noA:∀{b:Addr}{o:Obj},s₁.heap.get? b=some o->(∀vs n,o.data≠ .seq vs n)->(∀vs,o.data≠ .fields vs)->H b=none:=fun{b o} e d1 d2=>by
  by_cases z:b=p
  .subst z;rw[hp]at e;cases e;exact(d2 _ rfl).elim
  .rw[hH2 b z];cases q:argH K s₁.heap A b with
   |none=>rfl
   |some u=>
    obtain⟨_,vs,_,_,⟨e2,_⟩|⟨e2,_⟩⟩:=DH ar q
    .rw[e2]at e;cases e;exact(d1 _ _ rfl).elim
    .rw[e2]at e;cases e;exact(d1 _ _ rfl).elim
 have base_of:∀{b:Addr}{o:Obj},s₁.heap.get? b=some o->H b=none->(hidT s₁.heap H).get? b=some o:=fun e n=>Mc e n;have nsK:∀{b:Addr}{m:Str->Option Value},s₁.heap.Ns b m->(hidT s₁.heap H).Ns b m:=fun{b m} ⟨o,es,ep,e,d,r⟩=>⟨o,es,ep,base_of e (noA e (fun _ _ z=>by rw[d]at z;cases z) (fun _ z=>by rw[d]at z;cases z)),d,r⟩
 have nK:∀b o,K.lookup b=some o->H b=none:=fun b o e=>by
  cases q:H b with
  |none=>rfl
  |some u=>
   rw[hK b u q]at e;cases e
 have hKb:K.In (hidT s₁.heap H):=fun b o e=>base_of (KX b o e) (nK b o e);have hM:Mod K mg (hidT s₁.heap H):=⟨hKb,nsK hns,⟨mb,nsK hb,hbb⟩,let ⟨mc,h1,h2⟩:=hlim;⟨mc,nsK h1,h2⟩⟩;have e0:Env0 P w K mg (hidT s₁.heap H) callerA [] s₁ H:=⟨rfl,hM,fun b o e=>Mz e,Nat.le_of_eq (Kh _ _),trivial,fun b hb=>absurd (show b∈([]:List Addr) from hb) (by simp),hok,.of_eq hg⟩
 have hB:BM mg (hidT s₁.heap H):=by
  obtain⟨bm,ob,b1,b2,b3,b4,b5,b6⟩:=hbm;exact⟨bm,ob,b1,b2,base_of b3 (noA b3 (fun _ _ z=>by rw[b6]at z;cases z) (fun _ z=>by rw[b6]at z;cases z)),b4,b5,b6⟩
 have hl:vals.length=ps.length:=by rw[BZ hwl];exact hlen
 refine codeAny_mono ((F _ hKb (nsK hns) hB).run callerA [] s₁ H ⟨vals,[]⟩ vals (vals.map toV) _ _ hr e0 (hbind s₁ vals hl) hV (hsp _ H _ hup hH1 hS)) fun r s' x=>?_;cases r with
 |error e=>exact(hCX H e s' x).elim
 |ok fl=>
  cases fl with
  |next=>exact False.elim x
  |brk=>exact False.elim x
  |cont=>exact False.elim x
  |ret u=>
   obtain⟨v,H',os,bare,un,hok',r',q⟩:=x
   have kept:∀b o,b≠p->s₁.heap.get? b=some o->s'.heap.get? b=some o:=fun b o n e=>by
    cases q2:H b with
    |none=>exact un.keep b o e q2 (by intro z;exact absurd (show b∈([]:List Addr) from z) (by simp)) (by simp)
    |some u2=>
     rcases J7 ar b with z|⟨ob,u3,z⟩
     .rw[hH2 b n,z]at q2;cases q2
     .have z:=hup _ _ z;have z2:=un.frzs b ob _ z;obtain⟨e1,_⟩:=hok b _ z;obtain⟨e2,_⟩:=hok' b _ z2;rw[e]at e1;cases e1;exact e2
   have KX':K.In s'.heap:=fun b o e=>kept b o (fun z=>by rw[z,hKp]at e;cases e) (KX b o e);obtain⟨as,hrd⟩:=Dw.reads (R:=R) (cl:=cl) hok' KX' d0 v u q r';obtain⟨more,hm⟩:=un.tbls p #[] hH1;have hpm:s'.heap.get? p=some {cls:=.none,data:=.fields (#[]++more)}:=hok' p _ hm;obtain⟨oc,vs,_,_,_,_,_,_,_,c1,c2,c3,c4,_⟩:=hcd
   have hold:OldK s₁.heap s'.heap:=by
    refine⟨fun b o e=>?_,fun b o e=>?_⟩
    .by_cases n:b=p
     .subst n;rw[hp]at e;cases e;exact .inr (.inl ⟨⟨c,oc,vs,c1,c2,c3,c4⟩,rfl, #[],more,rfl,hpm⟩)
     .exact .inl (kept b o n e)
    .by_cases n:b=p
     .rw[n];exact⟨_,hpm⟩
     .exact⟨o,kept b o n e⟩
   exact⟨u,as,rfl,hrd,hold,os,bare⟩
theorem N6{K:Frag}{h:Heap}{p:Addr}(X:K.In h)(hp:h.get? p=some (PySem.W.tabObj #[]))(hK:PySem.W.noTabs K=true):K.lookup p=none:=by
 cases e:K.lookup p with
 |none=>rfl
 |some o=>
  exfalso;have h1:=X p o e;rw[hp]at h1;cases h1;have h2:=all_eq_true.mp hK (p,_) (PySem.W.mem_of_lookupK e);exact absurd (show false=true from h2) Bool.false_ne_true
theorem Oa{K:Frag}(h:(PySem.W.tabIn K "sorted_numbers").isSome=true):PySem.W.tabIn K "sorted_numbers"=some (tabC K,tabP K):=by
 unfold tabC tabP;cases e:PySem.W.tabIn K "sorted_numbers" with
 |none=>rw[e]at h;cases h
 |some z=>rfl
theorem walkT{r:OpenSpec}{k:Nat}{q:Program}{loose:List Str}{XP:(Str->Option Value)->Heap->Prop}{YP:World->Heap->Prop}{d:DefRec}{K:Params->Frag}{CX:CXT}{ps:List Str}{sp:Frag->Sp}
  (hwell:r.wellSaid=true) (hdf:d.params.defaults=[]) (hlen:r.args.length=ps.length) (hr:Room k callerA)
  (hY:∀(w:World)(h:Heap),YP w h->(K w.params).In h)
  (hR:((recsOf q).find? fun e=>e.name==("sorted_numbers":Str)).isSome=true)
  (hN:∀(w:World)(h:Heap),YP w h->(K w.params).In h->(PySem.W.tabIn (K w.params) "sorted_numbers").isSome=true/\PySem.W.noTabs (K w.params)=true)
  (F:∀(w:World)(mg:Str->Option Value)(fa:Addr)(h:Heap),YP w h->(K w.params).In h->h.Ns mainGlobals mg->mg d.name=some (.ref fa)->
   ∃fd:FuncData,(∀(s:Shared)(us:List Value),us.length=ps.length->BindsTo s fd ⟨us,[]⟩ (ps.zip us))/\
    ∀base:Heap,(K w.params).In base->base.Ns mainGlobals mg->BM mg base->FnOk r.prog w (K w.params) mg base CX k fa fd ps (sp (K w.params)))
  (hsp:∀(K:Frag)(H0 H:Hp)(xs:List V)(a:Codec.denoteAll r.args),(∀b u,H0 b=some u->H b=some u)->H (tabP K)=some (.tbl #[])->Codec.withinAll r.args a=true->Codec.app r.args r.asked a=true->DwAll K H0 xs (Codec.encAll r.args a)->
   sp K xs H (fun v H'=>Dw K H' v (r.ret.enc (Codec.app r.args r.f a))) fun _ _ _=>False)
  (hCX:∀(H:Hp)(s:Shared)(e:Value)(s':Shared),CX [] H s (fun _ _ _=>False) e s'->False):
  PySem.W.WalkOS q loose XP YP r d [] (fun f vs=>PySem.call f vs):=by
 intro w s_0 s₁ mg mb G Y fa o pm cd doc dV kV ho hd hcd hD hmg hg args vals as hpre hlay hrd hwl hlo;obtain⟨a,e1,e2⟩:=PySem.W.os_pre_some hpre;obtain⟨e3,hwi⟩:=Codec.encAll_of_decAll r.args args a e1;subst e3;have KX:=hY w _ Y;obtain⟨hn1,hn2⟩:=hN w _ Y KX;obtain⟨fd,hb,hF⟩:=F w mg fa _ Y KX G.T.g hmg;obtain⟨dr,hdr⟩:=isSome_iff_exists.mp hR;obtain⟨hcdh,hp⟩:=PySem.W.tab_of G.T KX hdr (Oa hn1)
 refine PySem.W.enter_call (codeAny_mono (callT (R:=[]) (cl:=classAt s_0.heap) (d0:=r.ret.enc (Codec.app r.args r.f a)) KX G.T.g G.T.b G.T.builtins G.T.nolimit hg G.T.bmain hcdh hp (N6 KX hp hn2) hwl (FX _ _) (EQ hlay) hr hF hb (by rw[Fa];exact hlen)
  (fun H0 H xs hO hP hS=>hsp _ H0 H xs a hO hP hwi e2 hS) fun H e s'=>hCX H s₁ e s') fun r' s' hq=>?_)
 obtain⟨u,as',rfl,h1,h2,h3,h4⟩:=hq;exact⟨.inl ⟨u,_,as',rfl,fun _=>rfl,h1,(OpenSpec.post_iff hwell hwi _ _).mpr rfl,fun z=>Bool.noConfusion (show false=true from z)⟩,h2,h3,h4⟩
theorem OK{K:Frag}{h:Heap}{mg:Str->Option Value}{x:Str}{st:Stmt}{ps:List Str}{f:Addr}{oc:Value}{od an:Option Addr}{osl:Array (Option Value)}{kV doc pm ct:Value}{cd:Addr}(b:Bnd x x st ps)(X:K.In h)(G:h.Ns mainGlobals mg)(a:nsIn K mainGlobals x=some (some (.ref f)))
  (l:K.lookup f=some ⟨oc,od,.func (PySem.W.fnOf x x (defArgs st) (defBody st) (defScope st) .none kV doc pm an (.ref cd) ct),osl⟩) (c:PySem.W.codeIn K (.ref cd) x=true) (k:PySem.W.keepIn K (.ref f)=true)
  (t:tabC K=cd) (hd:PySem.W.codeHdIn K (tabC K) (tabP K)=true):DfC K mg x st ps:=by
 subst t;exact⟨⟨f,oc,od,kV,doc,pm,an,ct,osl,mg_of X G a,l,c,k,(G5 (st:=st) l c k).binds b⟩,hd⟩
end LP
namespace LP
open PySem PySem.Spec L2
theorem bn1{x q:Str}{st:Stmt}{a0:Str}(h:∀kV doc pm an cdv ct u0,bindArgs (PySem.W.fnOf x q (defArgs st) (defBody st) (defScope st) .none kV doc pm an cdv ct) ⟨[u0],[]⟩=pure [(a0,u0)]:=by intros;rfl):Bnd x q st [a0]:=fun _ _ _ _ _ _ us hl=>match us,hl with | [u0],_=>h _ _ _ _ _ _ _
theorem bn2{x q:Str}{st:Stmt}{a0 a1:Str}(h:∀kV doc pm an cdv ct u0 u1,bindArgs (PySem.W.fnOf x q (defArgs st) (defBody st) (defScope st) .none kV doc pm an cdv ct) ⟨[u0,u1],[]⟩=pure [(a0,u0),(a1,u1)]:=by intros;rfl):Bnd x q st [a0,a1]:=fun _ _ _ _ _ _ us hl=>match us,hl with | [u0,u1],_=>h _ _ _ _ _ _ _ _
theorem bn3{x q:Str}{st:Stmt}{a0 a1 a2:Str}(h:∀kV doc pm an cdv ct u0 u1 u2,bindArgs (PySem.W.fnOf x q (defArgs st) (defBody st) (defScope st) .none kV doc pm an cdv ct) ⟨[u0,u1,u2],[]⟩=pure [(a0,u0),(a1,u1),(a2,u2)]:=by intros;rfl):Bnd x q st [a0,a1,a2]:=fun _ _ _ _ _ _ us hl=>match us,hl with | [u0,u1,u2],_=>h _ _ _ _ _ _ _ _ _
theorem bn4{x q:Str}{st:Stmt}{a0 a1 a2 a3:Str}(h:∀kV doc pm an cdv ct u0 u1 u2 u3,bindArgs (PySem.W.fnOf x q (defArgs st) (defBody st) (defScope st) .none kV doc pm an cdv ct) ⟨[u0,u1,u2,u3],[]⟩=pure [(a0,u0),(a1,u1),(a2,u2),(a3,u3)]:=by intros;rfl):Bnd x q st [a0,a1,a2,a3]:=fun _ _ _ _ _ _ us hl=>match us,hl with | [u0,u1,u2,u3],_=>h _ _ _ _ _ _ _ _ _ _
theorem bn5{x q:Str}{st:Stmt}{a0 a1 a2 a3 a4:Str}(h:∀kV doc pm an cdv ct u0 u1 u2 u3 u4,bindArgs (PySem.W.fnOf x q (defArgs st) (defBody st) (defScope st) .none kV doc pm an cdv ct) ⟨[u0,u1,u2,u3,u4],[]⟩=pure [(a0,u0),(a1,u1),(a2,u2),(a3,u3),(a4,u4)]:=by intros;rfl):Bnd x q st [a0,a1,a2,a3,a4]:=fun _ _ _ _ _ _ us hl=>match us,hl with | [u0,u1,u2,u3,u4],_=>h _ _ _ _ _ _ _ _ _ _ _
theorem bn6{x q:Str}{st:Stmt}{a0 a1 a2 a3 a4 a5:Str}(h:∀kV doc pm an cdv ct u0 u1 u2 u3 u4 u5,bindArgs (PySem.W.fnOf x q (defArgs st) (defBody st) (defScope st) .none kV doc pm an cdv ct) ⟨[u0,u1,u2,u3,u4,u5],[]⟩=pure [(a0,u0),(a1,u1),(a2,u2),(a3,u3),(a4,u4),(a5,u5)]:=by intros;rfl):Bnd x q st [a0,a1,a2,a3,a4,a5]:=fun _ _ _ _ _ _ us hl=>match us,hl with | [u0,u1,u2,u3,u4,u5],_=>h _ _ _ _ _ _ _ _ _ _ _ _
theorem E8:Bnd "answers" "answers" (top 124) ["calls"]:=fun _ _ _ _ _ _ us hl=>match us,hl with | [_],_=>rfl
theorem ad7{K:Frag}{h:Heap}{c1 c2 c3 c4 c5 c6 c7:Addr}{Pr:Ad->Prop}(X:K.In h)(a1:nsIn K mainGlobals "Entry"=some (some (.ref c1)))(a2:nsIn K mainGlobals "Order"=some (some (.ref c2)))(a3:nsIn K mainGlobals "Step"=some (some (.ref c3)))(a4:nsIn K mainGlobals "Reader"=some (some (.ref c4)))(a5:nsIn K mainGlobals "Item"=some (some (.ref c5)))(a6:nsIn K mainGlobals "Scale"=some (some (.ref c6)))(a7:nsIn K mainGlobals "Desk"=some (some (.ref c7)))(k:Pr ⟨c1,c2,c3,c4,c5,c6,c7⟩):∃D,Pr D:=⟨_,k⟩
end LP
open PySem PySem.W PyProof.Rows
local macro_rules|`(command|init_quot)=>do
 let s:=[9,47,98,164,199,229,287,310,368,438,466,520,576,632,718,756].flatMap (fun n=>[s!"tree_{n}",s!"sts_{n+1}"])++(List.range 757).map (s!"o_{·}")++["sts_11","heap_1","heap_8","heap_759","view_1"]
 let s:=`PySem.Challenge.pw_lookuporder_s01_answers::s.map fun n=>.str `PySem.Challenge.cw_lookuporder_s01_answers_holds n
 let c←s.mapM fun n=>let i:=Lean.mkIdent (.str `PySem.W.Fast s!"tw{n.hash}");`(theorem $i:ident:True:=⟨⟩)
 return Lean.mkNullNode c.toArray
init_quot
set_option maxRecDepth 100000 in
set_option maxHeartbeats 0 in
theorem PySem.Challenge.cw_lookuporder_s01_answers_holds : PySem.Challenge.rw_lookuporder_s01_answers.Holds := by
 w_on; k_headS; (case hw => exact ⟨[.list [.int 1]], by decide +kernel, by decide +kernel⟩)
 k_fillS
 refine LP.walkT (r := PySem.Challenge.rw_lookuporder_s01_answers) (k := 40) (CX := L2.CX0) (ps := ["calls"]) (sp := LP.spAns) (by decide +kernel) rfl rfl ⟨rfl, by decide, by decide⟩ (fun w h Y => PySem.W.kIn_of Y) ?Rt ?Nt ?Ft ?St (fun _ _ _ _ z => z)
 case Rt => kernel_rfl
 case Nt =>
  intro w h Y KX
  exact ⟨by kernel_rfl, by kernel_rfl⟩
 case Ft =>
  intro w mg fa h Y KX G hmg
  have T : ∃ D, LP.TxK (L2.KOf KX) mg D := by
   dsimp only [L2.KOf]
   refine' LP.ad7 KX ?a1 ?a2 ?a3 ?a4 ?a5 ?a6 ?a7 ?k
   (case a1 => k_is)
   (case a2 => k_is)
   (case a3 => k_is)
   (case a4 => k_is)
   (case a5 => k_is)
   (case a6 => k_is)
   (case a7 => k_is)
   case k =>
    exact {
     len:=by refine' PySem.W.mg_none_of KX G ?a;(case a=>k_is)
     all:=by refine' PySem.W.mg_none_of KX G ?a;(case a=>k_is)
     any:=by refine' PySem.W.mg_none_of KX G ?a;(case a=>k_is)
     list:=by refine' PySem.W.mg_none_of KX G ?a;(case a=>k_is)
     tuple:=by refine' PySem.W.mg_none_of KX G ?a;(case a=>k_is)
     blanks := by refine' LP.Nd KX G ?a ?l ?z ?v; (case a | l => k_is); (case z => decide); (case v => repeat (first | exact .nil | refine .cons ?_ ?_ | exact ⟨_, rfl⟩ | exact rfl))
     signs := by refine' LP.Nd KX G ?a ?l ?z ?v; (case a | l => k_is); (case z => decide); (case v => repeat (first | exact .nil | refine .cons ?_ ?_ | exact ⟨_, rfl⟩ | exact rfl))
     zero:=by refine' LP.AO KX G ?a;(case a=>k_is)
     nine:=by refine' LP.AO KX G ?a;(case a=>k_is)
     isChar:=by refine' LP.Aw LP.bn1 KX G ?a ?l ?c ?k;(case a|l|c|k=>k_is)
     isText:=by refine' LP.Aw LP.bn1 KX G ?a ?l ?c ?k;(case a|l|c|k=>k_is)
     isBlank:=by refine' LP.Aw LP.bn1 KX G ?a ?l ?c ?k;(case a|l|c|k=>k_is)
     ends:=by refine' LP.Aw LP.bn1 KX G ?a ?l ?c ?k;(case a|l|c|k=>k_is)
     isDigit:=by refine' LP.Aw LP.bn1 KX G ?a ?l ?c ?k;(case a|l|c|k=>k_is)
     most:=by refine' LP.AO KX G ?a;(case a=>k_is)
     noPlace:=by refine' LP.AO KX G ?a;(case a=>k_is)
     min:=by refine' PySem.W.mg_none_of KX G ?a;(case a=>k_is)
     enum:=by refine' PySem.W.mg_none_of KX G ?a;(case a=>k_is)
     cE:=by refine' PySem.W.mg_of KX G ?a;(case a=>k_is)
     clE:=by refine' ⟨?a, ?b, ?c, ?d⟩;(case a|b|c|d=>k_is)
     nE1 := by unfold L2.NoAttr; k_is
     nE2 := by unfold L2.NoAttr; k_is
     nE3 := by unfold L2.NoAttr; k_is
     nE4 := by unfold L2.NoAttr; k_is
     iE:=by refine' LP.FD LP.bn5 ?a ?i ?l ?c ?k ?mk ?kc;(case a|i|l|c|k|mk|kc=>k_is)
     wE:=by refine' LP.B1 LP.bn2 ?a ?i ?l ?c ?k;(case a|i|l|c|k=>k_is)
     cO:=by refine' PySem.W.mg_of KX G ?a;(case a=>k_is)
     clO:=by refine' ⟨?a, ?b, ?c, ?d⟩;(case a|b|c|d=>k_is)
     nO := by unfold L2.NoAttr; k_is
     iO:=by refine' LP.FD LP.bn2 ?a ?i ?l ?c ?k ?mk ?kc;(case a|i|l|c|k|mk|kc=>k_is)
     pO:=by refine' LP.B1 LP.bn2 ?a ?i ?l ?c ?k;(case a|i|l|c|k=>k_is)
     lO:=by refine' LP.B1 LP.bn1 ?a ?i ?l ?c ?k;(case a|i|l|c|k=>k_is)
     rO:=by refine' LP.B1 LP.bn2 ?a ?i ?l ?c ?k;(case a|i|l|c|k=>k_is)
     uO:=by refine' LP.B1 LP.bn3 ?a ?i ?l ?c ?k;(case a|i|l|c|k=>k_is)
     tO:=by refine' LP.B1 LP.bn2 ?a ?i ?l ?c ?k;(case a|i|l|c|k=>k_is)
     longest:=by refine' LP.AO KX G ?a;(case a=>k_is)
     anchor:=by refine' LP.AO KX G ?a;(case a=>k_is)
     noNumber:=by refine' LP.AO KX G ?a;(case a=>k_is)
     amp:=by refine' LP.AO KX G ?a;(case a=>k_is)
     quote:=by refine' LP.AO KX G ?a;(case a=>k_is)
     slash:=by refine' LP.AO KX G ?a;(case a=>k_is)
     less:=by refine' LP.AO KX G ?a;(case a=>k_is)
     equal:=by refine' LP.AO KX G ?a;(case a=>k_is)
     tilde:=by refine' LP.AO KX G ?a;(case a=>k_is)
     cS:=by refine' PySem.W.mg_of KX G ?a;(case a=>k_is)
     clS:=by refine' ⟨?a, ?b, ?c, ?d⟩;(case a|b|c|d=>k_is)
     nS1 := by unfold L2.NoAttr; k_is
     nS2 := by unfold L2.NoAttr; k_is
     nS3 := by unfold L2.NoAttr; k_is
     nS4 := by unfold L2.NoAttr; k_is
     nS5 := by unfold L2.NoAttr; k_is
     iS:=by refine' LP.FD LP.bn6 ?a ?i ?l ?c ?k ?mk ?kc;(case a|i|l|c|k|mk|kc=>k_is)
     cR:=by refine' PySem.W.mg_of KX G ?a;(case a=>k_is)
     clR:=by refine' ⟨?a, ?b, ?c, ?d⟩;(case a|b|c|d=>k_is)
     nR1 := by unfold L2.NoAttr; k_is
     nR2 := by unfold L2.NoAttr; k_is
     iR:=by refine' LP.FD LP.bn2 ?a ?i ?l ?c ?k ?mk ?kc;(case a|i|l|c|k|mk|kc=>k_is)
     eR:=by refine' LP.B1 LP.bn1 ?a ?i ?l ?c ?k;(case a|i|l|c|k=>k_is)
     aR:=by refine' LP.B1 LP.bn2 ?a ?i ?l ?c ?k;(case a|i|l|c|k=>k_is)
     tR:=by refine' LP.B1 LP.bn2 ?a ?i ?l ?c ?k;(case a|i|l|c|k=>k_is)
     pR:=by refine' LP.B1 LP.bn1 ?a ?i ?l ?c ?k;(case a|i|l|c|k=>k_is)
     rRules:=by refine' LP.Aw LP.bn1 KX G ?a ?l ?c ?k;(case a|l|c|k=>k_is)
     rStep:=by refine' LP.Aw LP.bn1 KX G ?a ?l ?c ?k;(case a|l|c|k=>k_is)
     rAnchor:=by refine' LP.Aw LP.bn1 KX G ?a ?l ?c ?k;(case a|l|c|k=>k_is)
     rStrength:=by refine' LP.Aw LP.bn1 KX G ?a ?l ?c ?k;(case a|l|c|k=>k_is)
     rRule:=by refine' LP.Aw LP.bn2 KX G ?a ?l ?c ?k;(case a|l|c|k=>k_is)
     rString:=by refine' LP.Aw LP.bn1 KX G ?a ?l ?c ?k;(case a|l|c|k=>k_is)
     noFault:=by refine' LP.AO KX G ?a;(case a=>k_is)
     noRules:=by refine' LP.AO KX G ?a;(case a=>k_is)
     noSuch:=by refine' LP.AO KX G ?a;(case a=>k_is)
     tooMany:=by refine' LP.AO KX G ?a;(case a=>k_is)
     itself:=by refine' LP.AO KX G ?a;(case a=>k_is)
     followRules:=by refine' LP.Aw LP.bn2 KX G ?a ?l ?c ?k;(case a|l|c|k=>k_is)
     faultOf:=by refine' LP.Aw LP.bn3 KX G ?a ?l ?c ?k;(case a|l|c|k=>k_is)
     blank:=by refine' LP.AO KX G ?a;(case a=>k_is)
     lineFeed:=by refine' LP.AO KX G ?a;(case a=>k_is)
     wOrder:=by refine' LP.Aw LP.bn1 KX G ?a ?l ?c ?k;(case a|l|c|k=>k_is)
     wEntry:=by refine' LP.Aw LP.bn1 KX G ?a ?l ?c ?k;(case a|l|c|k=>k_is)
     wString:=by refine' LP.Aw LP.bn1 KX G ?a ?l ?c ?k;(case a|l|c|k=>k_is)
     max:=by refine' PySem.W.mg_none_of KX G ?a;(case a=>k_is)
     zip:=by refine' PySem.W.mg_none_of KX G ?a;(case a=>k_is)
     entryWeights:=by refine' LP.Aw LP.bn1 KX G ?a ?l ?c ?k;(case a|l|c|k=>k_is)
     countedWeights:=by refine' LP.Aw LP.bn1 KX G ?a ?l ?c ?k;(case a|l|c|k=>k_is)
     weightBehind:=by refine' LP.Aw LP.bn2 KX G ?a ?l ?c ?k;(case a|l|c|k=>k_is)
     isAccent:=by refine' LP.Aw LP.bn1 KX G ?a ?l ?c ?k;(case a|l|c|k=>k_is)
     isForm:=by refine' LP.Aw LP.bn1 KX G ?a ?l ?c ?k;(case a|l|c|k=>k_is)
     raised:=by refine' LP.Aw LP.bn3 KX G ?a ?l ?c ?k;(case a|l|c|k=>k_is)
     cC:=by refine' PySem.W.mg_of KX G ?a;(case a=>k_is)
     clC:=by refine' ⟨?a, ?b, ?c, ?d⟩;(case a|b|c|d=>k_is)
     nC1 := by unfold L2.NoAttr; k_is
     nC2 := by unfold L2.NoAttr; k_is
     nC3 := by unfold L2.NoAttr; k_is
     iC:=by refine' LP.FD LP.bn2 ?a ?i ?l ?c ?k ?mk ?kc;(case a|i|l|c|k|mk|kc=>k_is)
     hC:=by refine' LP.B1 LP.bn2 ?a ?i ?l ?c ?k;(case a|i|l|c|k=>k_is)
     lC:=by refine' LP.B1 LP.bn2 ?a ?i ?l ?c ?k;(case a|i|l|c|k=>k_is)
     aC:=by refine' LP.B1 LP.bn2 ?a ?i ?l ?c ?k;(case a|i|l|c|k=>k_is)
     wC:=by refine' LP.B1 LP.bn2 ?a ?i ?l ?c ?k;(case a|i|l|c|k=>k_is)
     noDigit:=by refine' LP.AO KX G ?a;(case a=>k_is)
     cI:=by refine' PySem.W.mg_of KX G ?a;(case a=>k_is)
     clI:=by refine' ⟨?a, ?b, ?c, ?d⟩;(case a|b|c|d=>k_is)
     nI1 := by unfold L2.NoAttr; k_is
     nI2 := by unfold L2.NoAttr; k_is
     nI3 := by unfold L2.NoAttr; k_is
     iI:=by refine' LP.FD LP.bn4 ?a ?i ?l ?c ?k ?mk ?kc;(case a|i|l|c|k|mk|kc=>k_is)
     textItems:=by refine' LP.Aw LP.bn2 KX G ?a ?l ?c ?k;(case a|l|c|k=>k_is)
     takenStrings:=by refine' LP.Aw LP.bn2 KX G ?a ?l ?c ?k;(case a|l|c|k=>k_is)
     stringAt:=by refine' LP.Aw LP.bn3 KX G ?a ?l ?c ?k;(case a|l|c|k=>k_is)
     digitOf:=by refine' LP.Aw LP.bn1 KX G ?a ?l ?c ?k;(case a|l|c|k=>k_is)
     greatestWay:=by refine' LP.AO KX G ?a;(case a=>k_is)
     levelBits:=by refine' LP.AO KX G ?a;(case a=>k_is)
     lightly:=by refine' LP.AO KX G ?a;(case a=>k_is)
     fromEnd:=by refine' LP.AO KX G ?a;(case a=>k_is)
     byValue:=by refine' LP.AO KX G ?a;(case a=>k_is)
     notLight:=by refine' LP.AO KX G ?a;(case a=>k_is)
     isWay:=by refine' LP.Aw LP.bn1 KX G ?a ?l ?c ?k;(case a|l|c|k=>k_is)
     textKey:=by refine' LP.Aw LP.bn3 KX G ?a ?l ?c ?k;(case a|l|c|k=>k_is)
     levelRows:=by refine' LP.Aw LP.bn3 KX G ?a ?l ?c ?k;(case a|l|c|k=>k_is)
     countedItem:=by refine' LP.Aw LP.bn2 KX G ?a ?l ?c ?k;(case a|l|c|k=>k_is)
     leftMarks:=by refine' LP.Aw LP.bn1 KX G ?a ?l ?c ?k;(case a|l|c|k=>k_is)
     firstRow := by refine' LP.Aw LP.bn3 KX G ?a ?l ?c ?k; (case a | l | c | k => k_is)
     digitsFrom:=by refine' LP.Aw LP.bn2 KX G ?a ?l ?c ?k;(case a|l|c|k=>k_is)
     toldNumber:=by refine' LP.Aw LP.bn2 KX G ?a ?l ?c ?k;(case a|l|c|k=>k_is)
     weightRow:=by refine' LP.Aw LP.bn3 KX G ?a ?l ?c ?k;(case a|l|c|k=>k_is)
     lightRow:=by refine' LP.Aw LP.bn1 KX G ?a ?l ?c ?k;(case a|l|c|k=>k_is)
     lessThan:=by refine' LP.AO KX G ?a;(case a=>k_is)
     same0:=by refine' LP.AO KX G ?a;(case a=>k_is)
     greater:=by refine' LP.AO KX G ?a;(case a=>k_is)
     hashStart:=by refine' LP.AO KX G ?a;(case a=>k_is)
     hashFactor:=by refine' LP.AO KX G ?a;(case a=>k_is)
     hashSize:=by refine' LP.AO KX G ?a;(case a=>k_is)
     compareTexts:=by refine' LP.Aw LP.bn4 KX G ?a ?l ?c ?k;(case a|l|c|k=>k_is)
     textHash:=by refine' LP.Aw LP.bn3 KX G ?a ?l ?c ?k;(case a|l|c|k=>k_is)
     beginsWith:=by refine' LP.Aw LP.bn4 KX G ?a ?l ?c ?k;(case a|l|c|k=>k_is)
     findText:=by refine' LP.Aw LP.bn5 KX G ?a ?l ?c ?k;(case a|l|c|k=>k_is)
     bordersOf:=by refine' LP.Aw LP.bn2 KX G ?a ?l ?c ?k;(case a|l|c|k=>k_is)
     isList:=by refine' LP.Aw LP.bn1 KX G ?a ?l ?c ?k;(case a|l|c|k=>k_is)
     textsOf:=by refine' LP.Aw LP.bn1 KX G ?a ?l ?c ?k;(case a|l|c|k=>k_is)
     keysOf:=by refine' LP.Aw LP.bn3 KX G ?a ?l ?c ?k;(case a|l|c|k=>k_is)
     sortedNumbers:=by refine' LP.OK LP.bn3 KX G ?a ?l ?c ?k ?t ?d;(case a|l|c|k=>k_is);(case t => kernel_rfl);(case d => kernel_rfl)
     rankOf:=by refine' LP.Aw LP.bn5 KX G ?a ?l ?c ?k;(case a|l|c|k=>k_is)
     labelOf:=by refine' LP.Aw LP.bn4 KX G ?a ?l ?c ?k;(case a|l|c|k=>k_is)
     wrongNumber:=by refine' LP.Aw LP.bn3 KX G ?a ?l ?c ?k;(case a|l|c|k=>k_is)
     sorted:=by refine' PySem.W.mg_none_of KX G ?a;(case a=>k_is)
     range:=by refine' PySem.W.mg_none_of KX G ?a;(case a=>k_is)
     done:=by refine' LP.AO KX G ?a;(case a=>k_is)
     wrongForm:=by refine' LP.AO KX G ?a;(case a=>k_is)
     noneThere:=by refine' LP.AO KX G ?a;(case a=>k_is)
     noChar:=by refine' LP.AO KX G ?a;(case a=>k_is)
     sum:=by refine' PySem.W.mg_none_of KX G ?a;(case a=>k_is)
     cK:=by refine' PySem.W.mg_of KX G ?a;(case a=>k_is)
     clK:=by refine' ⟨?a, ?b, ?c, ?d⟩;(case a|b|c|d=>k_is)
     nK := by unfold L2.NoAttr; k_is
     iK:=by refine' LP.FD LP.bn1 ?a ?i ?l ?c ?k ?mk ?kc;(case a|i|l|c|k|mk|kc=>k_is)
     withLength:=by refine' LP.Aw LP.bn1 KX G ?a ?l ?c ?k;(case a|l|c|k=>k_is)
     cNew:=by refine' LP.Aw LP.bn3 KX G ?a ?l ?c ?k;(case a|l|c|k=>k_is)
     cRules:=by refine' LP.Aw LP.bn3 KX G ?a ?l ?c ?k;(case a|l|c|k=>k_is)
     cWrite:=by refine' LP.Aw LP.bn3 KX G ?a ?l ?c ?k;(case a|l|c|k=>k_is)
     cCount:=by refine' LP.Aw LP.bn3 KX G ?a ?l ?c ?k;(case a|l|c|k=>k_is)
     cEntry:=by refine' LP.Aw LP.bn3 KX G ?a ?l ?c ?k;(case a|l|c|k=>k_is)
     cWhere:=by refine' LP.Aw LP.bn3 KX G ?a ?l ?c ?k;(case a|l|c|k=>k_is)
     cItems:=by refine' LP.Aw LP.bn3 KX G ?a ?l ?c ?k;(case a|l|c|k=>k_is)
     cKey:=by refine' LP.Aw LP.bn3 KX G ?a ?l ?c ?k;(case a|l|c|k=>k_is)
     refusalOf:=by refine' LP.Aw LP.bn2 KX G ?a ?l ?c ?k;(case a|l|c|k=>k_is)
     cCompare:=by refine' LP.Aw LP.bn3 KX G ?a ?l ?c ?k;(case a|l|c|k=>k_is)
     cHash:=by refine' LP.Aw LP.bn3 KX G ?a ?l ?c ?k;(case a|l|c|k=>k_is)
     cBegins:=by refine' LP.Aw LP.bn3 KX G ?a ?l ?c ?k;(case a|l|c|k=>k_is)
     cFind:=by refine' LP.Aw LP.bn3 KX G ?a ?l ?c ?k;(case a|l|c|k=>k_is)
     cSort:=by refine' LP.Aw LP.bn3 KX G ?a ?l ?c ?k;(case a|l|c|k=>k_is)
     cRank:=by refine' LP.Aw LP.bn3 KX G ?a ?l ?c ?k;(case a|l|c|k=>k_is)
     cLabel:=by refine' LP.Aw LP.bn3 KX G ?a ?l ?c ?k;(case a|l|c|k=>k_is)
     cWrong:=by refine' LP.Aw LP.bn3 KX G ?a ?l ?c ?k;(case a|l|c|k=>k_is)
     rowsFrom:=by refine' LP.Aw LP.bn3 KX G ?a ?l ?c ?k;(case a|l|c|k=>k_is)
    }
  obtain ⟨D, T⟩ := T
  have GD : LP.GDict (L2.KOf KX) mg "CALLS" LP.callRows := by
   dsimp only [L2.KOf]
   refine' LP.OW KX G ?a ?l ?r
   (case a => k_is)
   (case l => k_is)
   case r =>
    repeat (first | exact LP.GRows.nil | refine LP.GRows.cons ?_ ?_ | (refine' LP.NP KX G ?k ?h ?v ?l ?z ?w ?g; (case k => rfl); (case h => first | rfl | decide +kernel); (case v => rfl); (case l => k_is); (case z => decide); (case w => repeat (first | exact .nil | refine .cons ?_ ?_ | exact ⟨_, rfl⟩ | exact rfl)); (case g => k_is)))
  have AF : LP.Df (L2.KOf KX) mg "answers" (LP.top 124) ["calls"] := by
   dsimp only [L2.KOf]
   refine' LP.Aw LP.E8 KX G ?a ?l ?c ?k; (case a | l | c | k => k_is)
  exact LP.KO T GD LP.E8 AF hmg (fun base B => LP.disp T B)
 case St =>
  intro K H0 H xs a hO hP hwi hask hx
  cases hx with
  | cons h1 h2 =>
   cases h2
   cases h1 with
   | lst hs ha =>
    have e := L2.Jr a.1 _ ha
    subst e
    refine ⟨_, a.1, rfl, ?_, hask, .inl hP, fun H' p _ hp => .lst (L2.aa hp) (L2.Jm _)⟩
    rcases hs with (q | ⟨o, q⟩) | q
    · exact .inl (.inl (hO _ _ q))
    · exact .inl (.inr ⟨o, hO _ _ q⟩)
    · exact .inr q
